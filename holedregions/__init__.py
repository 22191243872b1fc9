"""Regions with holes, told by rings in one way only; holedregions.regions has the calls."""
