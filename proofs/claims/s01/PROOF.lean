import PyProof.Rows.All
import Wide.All
import OpenK.AllK
import Wide.FinOn
import Open.SpecLaws
import KE.OsGo
import HandS.ForSpec
import HandS.ForMost
import HandS.Evl
import HandS.Wide
import HandS.More
import HandS.SetKeys
import HandS.Conv
import KE.KeyNested
import PyProof.MaxThree
import HandS.Lambda
import HandS.EndTab
import HandS.Walk
import HandS.Iter
import HandS.Keys
import KE.DataMinKey
import KE.SortKeyHeap
import PyProof.Rows.CallKw2
import PyProof.Rows.CallKwBuiltin
import HandS.Spec
import HandS.Ends
import KE.KNest
import PySem.Challenge.RW_holedregions_s01_answers
section
open GkBase
set_option Elab.async false
namespace My
/-! Crossings: sign lemmas. -/
theorem mul_nn {a b : Rat} (h : a < 0) (k : b < 0) : 0 < a * b := by
  have := Rat.mul_pos (a := -a) (b := -b) (by grind) (by grind)
  grind
theorem mul_pn {a b : Rat} (h : 0 < a) (k : b < 0) : a * b < 0 := by
  have := Rat.mul_pos (a := a) (b := -b) (by grind) (by grind)
  grind
theorem mul_np {a b : Rat} (h : a < 0) (k : 0 < b) : a * b < 0 := by
  have := Rat.mul_pos (a := -a) (b := b) (by grind) (by grind)
  grind
/-- sign facts of a product -/
theorem sgn (a b : Rat) : (0 < a ∧ 0 < b ∧ 0 < a * b) ∨ (0 < a ∧ b < 0 ∧ a * b < 0) ∨ (a < 0 ∧ 0 < b ∧ a * b < 0) ∨ (a < 0 ∧ b < 0 ∧ 0 < a * b) ∨ (a = 0 ∧ a * b = 0) ∨ (b = 0 ∧ a * b = 0) := by
  have h1 : a < 0 ∨ a = 0 ∨ 0 < a := by grind
  have h2 : b < 0 ∨ b = 0 ∨ 0 < b := by grind
  rcases h1 with h1 | h1 | h1 <;> rcases h2 with h2 | h2 | h2
  · exact .inr (.inr (.inr (.inl ⟨h1, h2, mul_nn h1 h2⟩)))
  · subst h2; exact .inr (.inr (.inr (.inr (.inr ⟨rfl, by simp⟩))))
  · exact .inr (.inr (.inl ⟨h1, h2, mul_np h1 h2⟩))
  · subst h1; exact .inr (.inr (.inr (.inr (.inl ⟨rfl, by simp⟩))))
  · subst h1; exact .inr (.inr (.inr (.inr (.inl ⟨rfl, by simp⟩))))
  · subst h1; exact .inr (.inr (.inr (.inr (.inl ⟨rfl, by simp⟩))))
  · exact .inr (.inl ⟨h1, h2, mul_pn h1 h2⟩)
  · subst h2; exact .inr (.inr (.inr (.inr (.inr ⟨rfl, by simp⟩))))
  · exact .inl ⟨h1, h2, Rat.mul_pos h1 h2⟩

/-- further left, or as far left and lower -/
def lt (p q : Pt) : Prop := p.1 < q.1 ∨ (p.1 = q.1 ∧ p.2 < q.2)
instance (p q : Pt) : Decidable (lt p q) := by unfold lt; infer_instance
theorem before_iff (p q : Pt) : before p q = true ↔ lt p q := by simp [before, lt]
theorem pt_ext {p q : Pt} : p = q ↔ p.1 = q.1 ∧ p.2 = q.2 := Prod.ext_iff
theorem lt_irrefl (p : Pt) : ¬ lt p p := by unfold lt; grind
theorem lt_trans {p q r : Pt} : lt p q → lt q r → lt p r := by unfold lt; grind
theorem lt_asymm {p q : Pt} : lt p q → ¬ lt q p := by unfold lt; grind
theorem lt_tri (p q : Pt) : lt p q ∨ p = q ∨ lt q p := by rw [pt_ext]; unfold lt; grind
/-- how far right, on a slant -/
def key (e : Rat) (p : Pt) : Rat := p.1 + e * p.2

/-- crossing of the way to the right -/
def hc (a b p : Pt) : Int := if a.2 ≤ p.2 ∧ p.2 < b.2 ∧ 0 < cross a b p then 1 else if b.2 ≤ p.2 ∧ p.2 < a.2 ∧ cross a b p < 0 then -1 else 0
/-- crossing of the slanted way up: sides strictly above -/
def vk (e : Rat) (a b p : Pt) : Int := if key e a ≤ key e p ∧ key e p < key e b ∧ cross a b p < 0 then -1 else if key e b ≤ key e p ∧ key e p < key e a ∧ 0 < cross a b p then 1 else 0
def q1 (e : Rat) (p x : Pt) : Int := if p.2 < x.2 ∧ key e p < key e x then 1 else 0
/-- on a segment -/
def onS (p a b : Pt) : Prop := cross a b p = 0 ∧ (a.1 ≤ p.1 ∨ b.1 ≤ p.1) ∧ (p.1 ≤ a.1 ∨ p.1 ≤ b.1) ∧ (a.2 ≤ p.2 ∨ b.2 ≤ p.2) ∧ (p.2 ≤ a.2 ∨ p.2 ≤ b.2)
theorem onSeg_iff (p : Pt) (s : Seg) : onSeg p s = true ↔ onS p s.1 s.2 := by
  simp only [onSeg, onS, Bool.and_eq_true, decide_eq_true_eq]
  grind
/-- how a segment's point is told -/
def pt (a b : Pt) (t : Rat) : Pt := (a.1 + t * (b.1 - a.1), a.2 + t * (b.2 - a.2))
theorem cross_pt (a b c d : Pt) (t : Rat) : cross a b (pt c d t) = cross a b c + t * (cross a b d - cross a b c) := by unfold cross pt; grind
theorem key_pt (e : Rat) (c d : Pt) (t : Rat) : key e (pt c d t) = key e c + t * (key e d - key e c) := by unfold key pt; grind
theorem onS_pt (a b : Pt) {t : Rat} (h : 0 ≤ t) (k : t ≤ 1) : onS (pt a b t) a b := by
  unfold onS
  refine ⟨by unfold cross pt; grind, ?_⟩
  unfold pt
  have h1 := sgn t (b.1 - a.1)
  have h2 := sgn (1 - t) (b.1 - a.1)
  have h3 := sgn t (b.2 - a.2)
  have h4 := sgn (1 - t) (b.2 - a.2)
  have e1 : (1 - t) * (b.1 - a.1) = (b.1 - a.1) - t * (b.1 - a.1) := by grind
  have e2 : (1 - t) * (b.2 - a.2) = (b.2 - a.2) - t * (b.2 - a.2) := by grind
  grind
/-- a point on a segment is told so -/
theorem onS_iff {p a b : Pt} : onS p a b ↔ ∃ t : Rat, 0 ≤ t ∧ t ≤ 1 ∧ p = pt a b t := by
  constructor
  · intro h
    obtain ⟨h0, h1, h2, h3, h4⟩ := h
    by_cases x : a.1 = b.1
    · by_cases y : a.2 = b.2
      · exact ⟨0, by decide, by decide, by rw [pt_ext]; unfold pt; grind⟩
      · have yne : b.2 - a.2 ≠ 0 := by grind
        refine ⟨(p.2 - a.2) / (b.2 - a.2), ?_, ?_, ?_⟩
        · rcases (show b.2 - a.2 < 0 ∨ 0 < b.2 - a.2 by grind) with k | k
          · have d := Rat.div_mul_cancel (a := p.2 - a.2) yne
            generalize (p.2 - a.2) / (b.2 - a.2) = t at *
            have := sgn t (b.2 - a.2)
            grind
          · have d := Rat.div_mul_cancel (a := p.2 - a.2) yne
            generalize (p.2 - a.2) / (b.2 - a.2) = t at *
            have := sgn t (b.2 - a.2)
            grind
        · have d := Rat.div_mul_cancel (a := p.2 - a.2) yne
          generalize (p.2 - a.2) / (b.2 - a.2) = t at *
          have := sgn (t - 1) (b.2 - a.2)
          have : (t - 1) * (b.2 - a.2) = t * (b.2 - a.2) - (b.2 - a.2) := by grind
          grind
        · have d := Rat.div_mul_cancel (a := p.2 - a.2) yne
          rw [pt_ext]; unfold pt
          generalize (p.2 - a.2) / (b.2 - a.2) = t at *
          grind
    · have xne : b.1 - a.1 ≠ 0 := by grind
      have d := Rat.div_mul_cancel (a := p.1 - a.1) xne
      refine ⟨(p.1 - a.1) / (b.1 - a.1), ?_, ?_, ?_⟩
      · generalize (p.1 - a.1) / (b.1 - a.1) = t at *
        have := sgn t (b.1 - a.1)
        grind
      · generalize (p.1 - a.1) / (b.1 - a.1) = t at *
        have := sgn (t - 1) (b.1 - a.1)
        have : (t - 1) * (b.1 - a.1) = t * (b.1 - a.1) - (b.1 - a.1) := by grind
        grind
      · rw [pt_ext]; unfold pt
        generalize (p.1 - a.1) / (b.1 - a.1) = t at *
        refine ⟨by grind, ?_⟩
        unfold cross at h0
        have : (b.1 - a.1) * (p.2 - (a.2 + t * (b.2 - a.2))) = 0 := by grind
        rcases Rat.mul_eq_zero.1 this with z | z <;> grind
  · rintro ⟨t, h, k, rfl⟩
    exact onS_pt a b h k

theorem hv0 (x1 y1 x2 y2 k1 k2 e : Rat) (hk1 : k1 = x1 + e * y1) (hk2 : k2 = x2 + e * y2) (hoff : ¬ (x1 * y2 - y1 * x2 = 0 ∧ (k1 ≤ 0 ∨ k2 ≤ 0) ∧ (0 ≤ k1 ∨ 0 ≤ k2) ∧ (y1 ≤ 0 ∨ y2 ≤ 0) ∧ (0 ≤ y1 ∨ 0 ≤ y2))) :
   (if y1 ≤ 0 ∧ 0 < y2 ∧ 0 < x1 * y2 - y1 * x2 then (1 : Int) else if y2 ≤ 0 ∧ 0 < y1 ∧ x1 * y2 - y1 * x2 < 0 then -1 else 0)
   - (if k1 ≤ 0 ∧ 0 < k2 ∧ x1 * y2 - y1 * x2 < 0 then -1 else if k2 ≤ 0 ∧ 0 < k1 ∧ 0 < x1 * y2 - y1 * x2 then 1 else 0)
   = (if 0 < y2 ∧ 0 < k2 then 1 else 0) - (if 0 < y1 ∧ 0 < k1 then 1 else 0) := by
  have e1 : x1 * y2 - y1 * x2 = k1 * y2 - y1 * k2 := by grind
  rw [e1] at hoff ⊢
  clear e1 hk1 hk2
  have h1 := sgn k1 y2
  have h2 := sgn y1 k2
  generalize k1 * y2 = u at *
  generalize y1 * k2 = v at *
  grind (splits := 40)

theorem cross_shift (a b p : Pt) : cross a b p = (a.1 - p.1) * (b.2 - p.2) - (a.2 - p.2) * (b.1 - p.1) := by unfold cross; grind
theorem sub_le0 (a b : Rat) : (a - b ≤ 0) = (a ≤ b) := by grind
theorem sub_0le (a b : Rat) : (0 ≤ a - b) = (b ≤ a) := by grind
theorem sub_0lt (a b : Rat) : (0 < a - b) = (b < a) := by grind
theorem cross_key (e : Rat) (a b p : Pt) : cross a b p = (key e b - key e a) * (p.2 - a.2) - (b.2 - a.2) * (key e p - key e a) := by unfold cross key; grind
/-- on a segment, by the slant -/
theorem onS_key {e : Rat} {p a b : Pt} (h : cross a b p = 0) (h1 : key e a ≤ key e p ∨ key e b ≤ key e p) (h2 : key e p ≤ key e a ∨ key e p ≤ key e b) (h3 : a.2 ≤ p.2 ∨ b.2 ≤ p.2) (h4 : p.2 ≤ a.2 ∨ p.2 ≤ b.2) : onS p a b := by
  rw [onS_iff]
  rw [cross_key e] at h
  by_cases x : key e a = key e b
  · by_cases y : a.2 = b.2
    · refine ⟨0, by decide, by decide, ?_⟩
      rw [pt_ext]; unfold pt; unfold key at *; grind
    · have yne : b.2 - a.2 ≠ 0 := by grind
      have d := Rat.div_mul_cancel (a := p.2 - a.2) yne
      refine ⟨(p.2 - a.2) / (b.2 - a.2), ?_, ?_, ?_⟩
      · generalize (p.2 - a.2) / (b.2 - a.2) = t at *
        have := sgn t (b.2 - a.2)
        grind
      · generalize (p.2 - a.2) / (b.2 - a.2) = t at *
        have := sgn (t - 1) (b.2 - a.2)
        have : (t - 1) * (b.2 - a.2) = t * (b.2 - a.2) - (b.2 - a.2) := by grind
        grind
      · rw [pt_ext]; unfold pt; unfold key at *
        generalize (p.2 - a.2) / (b.2 - a.2) = t at *
        grind
  · have xne : key e b - key e a ≠ 0 := by grind
    have d := Rat.div_mul_cancel (a := key e p - key e a) xne
    refine ⟨(key e p - key e a) / (key e b - key e a), ?_, ?_, ?_⟩
    · generalize (key e p - key e a) / (key e b - key e a) = t at *
      have := sgn t (key e b - key e a)
      grind
    · generalize (key e p - key e a) / (key e b - key e a) = t at *
      have := sgn (t - 1) (key e b - key e a)
      have : (t - 1) * (key e b - key e a) = t * (key e b - key e a) - (key e b - key e a) := by grind
      grind
    · generalize (key e p - key e a) / (key e b - key e a) = t at *
      have : (key e b - key e a) * (p.2 - (a.2 + t * (b.2 - a.2))) = 0 := by grind
      rcases Rat.mul_eq_zero.1 this with z | z
      · grind
      · rw [pt_ext]; unfold pt; unfold key at *; grind
theorem onS_of_key {e : Rat} {p a b : Pt} (h : onS p a b) : cross a b p = 0 ∧ (key e a ≤ key e p ∨ key e b ≤ key e p) ∧ (key e p ≤ key e a ∨ key e p ≤ key e b) ∧ (a.2 ≤ p.2 ∨ b.2 ≤ p.2) ∧ (p.2 ≤ a.2 ∨ p.2 ≤ b.2) := by
  refine ⟨h.1, ?_, ?_, h.2.2.2⟩
  · obtain ⟨t, h1, h2, rfl⟩ := onS_iff.1 h
    rw [key_pt]
    have := sgn t (key e b - key e a)
    have := sgn (1 - t) (key e b - key e a)
    have : (1 - t) * (key e b - key e a) = (key e b - key e a) - t * (key e b - key e a) := by grind
    grind
  · obtain ⟨t, h1, h2, rfl⟩ := onS_iff.1 h
    rw [key_pt]
    have := sgn t (key e b - key e a)
    have := sgn (1 - t) (key e b - key e a)
    have : (1 - t) * (key e b - key e a) = (key e b - key e a) - t * (key e b - key e a) := by grind
    grind
/-- horizontal and slanted crossings -/
theorem hv (e : Rat) {a b p : Pt} (h : ¬ onS p a b) : hc a b p = vk e a b p + (q1 e p b - q1 e p a) := by
  have i := cross_shift a b p
  have k := hv0 (a.1 - p.1) (a.2 - p.2) (b.1 - p.1) (b.2 - p.2) (key e a - key e p) (key e b - key e p) e (by unfold key; grind) (by unfold key; grind) (by
    intro x; apply h; rw [← i] at x
    simp only [sub_le0, sub_0le] at x
    exact onS_key (e := e) x.1 x.2.1 x.2.2.1 x.2.2.2.1 x.2.2.2.2)
  rw [← i] at k
  simp only [sub_le0, sub_0lt] at k
  unfold hc vk q1
  omega
end My
end
section
open GkBase
set_option Elab.async false
namespace My
theorem key_lt {u w : Pt} (h : u.1 < w.1) : ∃ e0 : Rat, 0 < e0 ∧ ∀ e, 0 < e → e ≤ e0 → key e u < key e w := by
  by_cases m : u.2 - w.2 ≤ 0
  · refine ⟨1, by decide, fun e he _ => ?_⟩
    have := sgn e (u.2 - w.2)
    unfold key
    have x : e * (u.2 - w.2) = e * u.2 - e * w.2 := by grind
    grind
  · have m : 0 < u.2 - w.2 := by grind
    have d : 2 * (u.2 - w.2) ≠ 0 := by grind
    refine ⟨(w.1 - u.1) / (2 * (u.2 - w.2)), ?_, fun e he k => ?_⟩
    · rw [Rat.lt_div_iff (by grind)]; grind
    · have x : e * (u.2 - w.2) = e * u.2 - e * w.2 := by grind
      have y := Rat.mul_le_mul_of_nonneg_right k (show 0 ≤ 2 * (u.2 - w.2) by grind)
      rw [Rat.div_mul_cancel d] at y
      unfold key
      grind
theorem key_pair (u w : Pt) : ∃ e0 : Rat, 0 < e0 ∧ ∀ e, 0 < e → e ≤ e0 → (lt u w ↔ key e u < key e w) := by
  rcases (show u.1 < w.1 ∨ u.1 = w.1 ∨ w.1 < u.1 by grind) with h | h | h
  · obtain ⟨e0, p, k⟩ := key_lt h
    refine ⟨e0, p, fun e he hl => ?_⟩
    have := k e he hl
    simp [lt, h, this]
  · refine ⟨1, by decide, fun e he _ => ?_⟩
    unfold lt key
    rw [h]
    have x := sgn e (w.2 - u.2)
    have y : e * (w.2 - u.2) = e * w.2 - e * u.2 := by grind
    grind
  · obtain ⟨e0, p, k⟩ := key_lt h
    refine ⟨e0, p, fun e he hl => ?_⟩
    have := k e he hl
    unfold lt
    grind
theorem keys' (l : List (Pt × Pt)) : ∃ e0 : Rat, 0 < e0 ∧ ∀ e, 0 < e → e ≤ e0 → ∀ x ∈ l, (lt x.1 x.2 ↔ key e x.1 < key e x.2) := by
  induction l with
  | nil => exact ⟨1, by decide, fun _ _ _ _ h => by simp at h⟩
  | cons x l ih =>
    obtain ⟨e1, p1, k1⟩ := ih
    obtain ⟨e2, p2, k2⟩ := key_pair x.1 x.2
    refine ⟨min e1 e2, by grind, fun e he hl y hy => ?_⟩
    rcases List.mem_cons.1 hy with rfl | hy
    · exact k2 e he (by grind)
    · exact k1 e he (by grind) y hy
/-- a slant on which these points are in their order -/
def Gen (e : Rat) (l : List Pt) : Prop := ∀ x ∈ l, ∀ y ∈ l, (lt x y ↔ key e x < key e y)
theorem gen_ex (l : List Pt) : ∃ e : Rat, 0 < e ∧ Gen e l := by
  obtain ⟨e, he, h⟩ := keys' (l.flatMap fun x => l.map fun y => (x, y))
  refine ⟨e, he, fun x hx y hy => ?_⟩
  refine h e he (by grind) (x, y) ?_
  simp only [List.mem_flatMap, List.mem_map]
  exact ⟨x, hx, y, hy, rfl⟩
theorem Gen.inj {e : Rat} {l : List Pt} (g : Gen e l) {x y : Pt} (hx : x ∈ l) (hy : y ∈ l) (h : key e x = key e y) : x = y := by
  have h1 := g x hx y hy
  have h2 := g y hy x hx
  rcases lt_tri x y with k | k | k
  · have := h1.1 k; grind
  · exact k
  · have := h2.1 k; grind

theorem iden (e : Rat) (a b p q : Pt) : cross p q a * (key e b - key e p) + cross p q b * (key e p - key e a) = -(cross a b p * (key e q - key e p)) := by
  unfold cross key; grind
theorem iden2 (e : Rat) (a b p q : Pt) : cross p q a * (key e b - key e q) + cross p q b * (key e q - key e a) = -(cross a b q * (key e q - key e p)) := by
  unfold cross key; grind
theorem iden3 (a b p q : Pt) : cross p q b - cross p q a = cross a b p - cross a b q := by
  unfold cross; grind
/-- sides strictly above v, or through it and above on the way to p (to the right) -/
def uk (e : Rat) (a b v p : Pt) : Int := if key e a ≤ key e v ∧ key e v < key e b ∧ (cross a b v < 0 ∨ (cross a b v = 0 ∧ cross a b p < 0)) then -1 else if key e b ≤ key e v ∧ key e v < key e a ∧ (0 < cross a b v ∨ (cross a b v = 0 ∧ 0 < cross a b p)) then 1 else 0
/-- sides strictly above v, or through it and above on the way to p (to the left) -/
def wk (e : Rat) (a b v p : Pt) : Int := if key e a < key e v ∧ key e v ≤ key e b ∧ (cross a b v < 0 ∨ (cross a b v = 0 ∧ cross a b p < 0)) then -1 else if key e b < key e v ∧ key e v ≤ key e a ∧ (0 < cross a b v ∨ (cross a b v = 0 ∧ 0 < cross a b p)) then 1 else 0
/-- in the strip above -/
def fR (e : Rat) (v p x : Pt) : Int := if key e v < key e x ∧ key e x ≤ key e p ∧ 0 < cross v p x then 1 else 0
def fL (e : Rat) (v p x : Pt) : Int := if key e p < key e x ∧ key e x < key e v ∧ 0 < cross p v x then 1 else 0
/-- the signs that tell that the way from v, without v, to p does not meet a side -/
def Free (a b v p : Pt) : Prop := cross a b v = 0 ∨ (0 < cross a b v ∧ 0 < cross a b p) ∨ (cross a b v < 0 ∧ cross a b p < 0) ∨ (0 < cross v p a ∧ 0 < cross v p b) ∨ (cross v p a < 0 ∧ cross v p b < 0)
theorem stepR {e : Rat} {a b v p : Pt} (h : key e v < key e p) (f : Free a b v p) : uk e a b v p - vk e a b p = fR e v p a - fR e v p b := by
  have i1 := iden e a b v p
  have i2 := iden2 e a b v p
  have i3 := iden3 a b v p
  unfold uk vk fR
  unfold Free at f
  generalize cross v p a = A at *
  generalize cross v p b = B at *
  generalize cross a b v = P at *
  generalize cross a b p = Q at *
  generalize key e a = ka at *
  generalize key e b = kb at *
  generalize key e v = kv at *
  generalize key e p = kp at *
  have s1 := sgn A (kb - kv)
  have s2 := sgn B (kv - ka)
  have s3 := sgn P (kp - kv)
  have s4 := sgn A (kb - kp)
  have s5 := sgn B (kp - ka)
  have s6 := sgn Q (kp - kv)
  generalize A * (kb - kv) = m1 at *
  generalize B * (kv - ka) = m2 at *
  generalize P * (kp - kv) = m3 at *
  generalize A * (kb - kp) = m4 at *
  generalize B * (kp - ka) = m5 at *
  generalize Q * (kp - kv) = m6 at *
  grind (splits := 60)
theorem cross_rev (p q x : Pt) : cross q p x = - cross p q x := by unfold cross; grind
theorem stepL {e : Rat} {a b v p : Pt} (h : key e p < key e v) (f : Free a b v p) : vk e a b p - wk e a b v p = fL e v p a - fL e v p b := by
  have i1 := iden e a b p v
  have i2 := iden2 e a b p v
  have i3 := iden3 a b p v
  unfold wk vk fL
  unfold Free at f
  rw [cross_rev p v a, cross_rev p v b] at f
  generalize cross p v a = A at *
  generalize cross p v b = B at *
  generalize cross a b v = P at *
  generalize cross a b p = Q at *
  generalize key e a = ka at *
  generalize key e b = kb at *
  generalize key e v = kv at *
  generalize key e p = kp at *
  have s1 := sgn A (kb - kp)
  have s2 := sgn B (kp - ka)
  have s3 := sgn Q (kv - kp)
  have s4 := sgn A (kb - kv)
  have s5 := sgn B (kv - ka)
  have s6 := sgn P (kv - kp)
  generalize A * (kb - kp) = m1 at *
  generalize B * (kp - ka) = m2 at *
  generalize Q * (kv - kp) = m3 at *
  generalize A * (kb - kv) = m4 at *
  generalize B * (kv - ka) = m5 at *
  generalize P * (kv - kp) = m6 at *
  grind (splits := 60)
/-- a way that does not meet a side is free -/
theorem free_of {a b v p : Pt} (h : ∀ t : Rat, 0 < t → t ≤ 1 → ¬ onS (pt v p t) a b) : Free a b v p := by
  unfold Free
  apply Classical.byContradiction
  intro hn
  have i3 := iden3 a b v p
  generalize hA : cross v p a = A at *
  generalize hB : cross v p b = B at *
  generalize hP : cross a b v = P at *
  generalize hQ : cross a b p = Q at *
  have ne : P - Q ≠ 0 := by grind
  have d := Rat.div_mul_cancel (a := P) ne
  have d2 := Rat.div_mul_cancel (a := -A) ne
  have t0 : 0 < P / (P - Q) := by
    generalize P / (P - Q) = t at *
    have := sgn t (P - Q)
    grind
  have t1 : P / (P - Q) ≤ 1 := by
    generalize P / (P - Q) = t at *
    have := sgn (t - 1) (P - Q)
    have : (t - 1) * (P - Q) = t * (P - Q) - (P - Q) := by grind
    grind
  refine h (P / (P - Q)) t0 t1 ?_
  rw [onS_iff]
  refine ⟨-A / (P - Q), ?_, ?_, ?_⟩
  · generalize -A / (P - Q) = t at *
    have := sgn t (P - Q)
    grind
  · generalize -A / (P - Q) = t at *
    have := sgn (t - 1) (P - Q)
    have : (t - 1) * (P - Q) = t * (P - Q) - (P - Q) := by grind
    grind
  · generalize P / (P - Q) = t at *
    generalize -A / (P - Q) = s at *
    clear i3 hn h t0 t1
    rw [pt_ext]; unfold pt
    have e1 : (P - Q) * ((v.1 + t * (p.1 - v.1)) - (a.1 + s * (b.1 - a.1))) = 0 := by
      have : (P - Q) * ((v.1 + t * (p.1 - v.1)) - (a.1 + s * (b.1 - a.1))) = (P - Q) * (v.1 - a.1) + (t * (P - Q)) * (p.1 - v.1) - (s * (P - Q)) * (b.1 - a.1) := by grind
      rw [this, d, d2, ← hA, ← hP, ← hQ]
      unfold cross; grind
    have e2 : (P - Q) * ((v.2 + t * (p.2 - v.2)) - (a.2 + s * (b.2 - a.2))) = 0 := by
      have : (P - Q) * ((v.2 + t * (p.2 - v.2)) - (a.2 + s * (b.2 - a.2))) = (P - Q) * (v.2 - a.2) + (t * (P - Q)) * (p.2 - v.2) - (s * (P - Q)) * (b.2 - a.2) := by grind
      rw [this, d, d2, ← hA, ← hP, ← hQ]
      unfold cross; grind
    constructor
    · rcases Rat.mul_eq_zero.1 e1 with z | z <;> grind
    · rcases Rat.mul_eq_zero.1 e2 with z | z <;> grind
end My
end
section
open GkBase
set_option Elab.async false
namespace My
/-! Sums over segments. -/
def tot (l : List Seg) (g : Pt → Pt → Int) : Int := (l.map fun s => g s.1 s.2).sum
theorem tot_nil (g : Pt → Pt → Int) : tot [] g = 0 := rfl
theorem tot_cons (s : Seg) (l : List Seg) (g : Pt → Pt → Int) : tot (s :: l) g = g s.1 s.2 + tot l g := by simp [tot]
theorem tot_append (l k : List Seg) (g : Pt → Pt → Int) : tot (l ++ k) g = tot l g + tot k g := by simp [tot]
theorem tot_add (l : List Seg) (g h : Pt → Pt → Int) : tot l (fun a b => g a b + h a b) = tot l g + tot l h := by
  induction l with
  | nil => rfl
  | cons s l ih => simp only [tot_cons, ih]; omega
theorem tot_congr {l : List Seg} {g h : Pt → Pt → Int} (k : ∀ s ∈ l, g s.1 s.2 = h s.1 s.2) : tot l g = tot l h := by
  induction l with
  | nil => rfl
  | cons s l ih =>
    rw [tot_cons, tot_cons, k s (by simp), ih (fun x hx => k x (by simp [hx]))]
theorem tot_perm {l k : List Seg} (h : l.Perm k) (g : Pt → Pt → Int) : tot l g = tot k g := by
  induction h with
  | nil => rfl
  | cons x _ ih => rw [tot_cons, tot_cons, ih]
  | swap x y l => simp only [tot_cons]; omega
  | trans _ _ h1 h2 => rw [h1, h2]
theorem tot_zero {l : List Seg} {g : Pt → Pt → Int} (k : ∀ s ∈ l, g s.1 s.2 = 0) : tot l g = 0 := by
  induction l with
  | nil => rfl
  | cons s l ih => rw [tot_cons, k s (by simp), ih (fun x hx => k x (by simp [hx]))]; rfl
theorem tot_flatMap {α : Type} (l : List α) (k : α → List Seg) (g : Pt → Pt → Int) : tot (l.flatMap k) g = (l.map fun x => tot (k x) g).sum := by
  induction l with
  | nil => rfl
  | cons s l ih => simp [List.flatMap_cons, tot_append, ih]
/-- what goes back to where it began -/
def Closed (l : List Seg) : Prop := ∀ f : Pt → Int, tot l (fun a b => f b - f a) = 0
theorem closed_append {l k : List Seg} (h : Closed l) (h' : Closed k) : Closed (l ++ k) := by
  intro f; rw [tot_append, h f, h' f]; rfl
theorem tot_chain (f : Pt → Int) (o x : Pt) (l : List Pt) : tot ((x :: l).zip (l ++ [o])) (fun a b => f b - f a) = f o - f x := by
  induction l generalizing x with
  | nil => simp [tot]
  | cons y l ih => simp only [List.cons_append, List.zip_cons_cons, tot_cons] at *; rw [ih y]; omega
theorem closed_sides (c : List Pt) : Closed (sides c) := by
  intro f
  cases c with
  | nil => rfl
  | cons o l => simp only [sides, List.tail_cons]; rw [tot_chain]; omega
theorem closed_sidesOf (r : List (List Pt)) : Closed (Gk02.sidesOf r) := by
  induction r with
  | nil => intro f; rfl
  | cons c r ih => simp only [Gk02.sidesOf, List.flatMap_cons] at *; exact closed_append (closed_sides c) ih
theorem foldl_sum (l : List Int) (s : Int) : l.foldl (fun s y => s + y) s = s + l.sum := by
  induction l generalizing s with
  | nil => simp
  | cons x l ih => simp [ih]; omega
theorem winds_eq (c : List Pt) (p : Pt) : winds c p = tot (sides c) (fun a b => hc a b p) := by
  unfold winds tot
  rw [foldl_sum]; simp only [hc, Int.zero_add]
theorem windsOf_eq (r : List (List Pt)) (p : Pt) : Gk02.windsOf r p = tot (Gk02.sidesOf r) (fun a b => hc a b p) := by
  unfold Gk02.windsOf Gk02.sidesOf
  rw [foldl_sum, tot_flatMap]
  simp only [winds_eq, Int.zero_add]

/-! A point just beside an edge, and the edge's middle. -/
/-- sides through a point -/
def th (e : Rat) (a b p : Pt) : Int := if key e a ≤ key e p ∧ key e p < key e b ∧ cross a b p = 0 then -1 else if key e b ≤ key e p ∧ key e p < key e a ∧ cross a b p = 0 then 1 else 0
/-- sides through p have q at their upper side -/
def HL (e : Rat) (a b p q : Pt) : Prop := (cross a b p = 0 → key e a < key e p → key e p < key e b → 0 < cross a b q) ∧ (cross a b p = 0 → key e b < key e p → key e p < key e a → cross a b q < 0)
def HR (e : Rat) (a b p q : Pt) : Prop := (cross a b p = 0 → key e a < key e p → key e p < key e b → cross a b q < 0) ∧ (cross a b p = 0 → key e b < key e p → key e p < key e a → 0 < cross a b q)
theorem ukL {e : Rat} {a b p q : Pt} (h1 : key e a ≠ key e p) (h2 : key e b ≠ key e p) (h : HL e a b p q) : uk e a b p q = vk e a b p := by
  unfold HL at h; unfold uk vk; grind
theorem wkL {e : Rat} {a b p q : Pt} (h1 : key e a ≠ key e p) (h2 : key e b ≠ key e p) (h : HL e a b p q) : wk e a b p q = vk e a b p := by
  unfold HL at h; unfold wk vk; grind
theorem ukR {e : Rat} {a b p q : Pt} (h1 : key e a ≠ key e p) (h2 : key e b ≠ key e p) (h : HR e a b p q) : uk e a b p q = vk e a b p + th e a b p := by
  unfold HR at h; unfold uk vk th; grind
theorem wkR {e : Rat} {a b p q : Pt} (h1 : key e a ≠ key e p) (h2 : key e b ≠ key e p) (h : HR e a b p q) : wk e a b p q = vk e a b p + th e a b p := by
  unfold HR at h; unfold wk vk th; grind
/-- sums at q and at p: what is beside p -/
theorem beside0 {e : Rat} {l : List Seg} (cl : Closed l) {p q : Pt} (ne : key e p ≠ key e q) (hq : ∀ s ∈ l, Free s.1 s.2 p q ∧ ¬ onS q s.1 s.2) {g : Pt → Pt → Int} (hu : key e p < key e q → ∀ s ∈ l, uk e s.1 s.2 p q = g s.1 s.2) (hw : key e q < key e p → ∀ s ∈ l, wk e s.1 s.2 p q = g s.1 s.2) : tot l (fun a b => hc a b q) = tot l g := by
  have s1 : tot l (fun a b => hc a b q) = tot l (fun a b => vk e a b q + (q1 e q b - q1 e q a)) :=
    tot_congr fun s hs => hv e (hq s hs).2
  rw [s1, tot_add, cl]
  rcases (show key e p < key e q ∨ key e q < key e p by grind) with k | k
  · have s2 : tot l (fun a b => vk e a b q) = tot l (fun a b => g a b + (fR e p q b - fR e p q a)) := by
      refine tot_congr fun s hs => ?_
      have := stepR k (hq s hs).1
      have := hu k s hs
      omega
    rw [s2, tot_add, cl]; omega
  · have s2 : tot l (fun a b => vk e a b q) = tot l (fun a b => g a b + ((- fL e p q b) - (- fL e p q a))) := by
      refine tot_congr fun s hs => ?_
      have := stepL k (hq s hs).1
      have := hw k s hs
      omega
    rw [s2, tot_add, cl (fun x => - fL e p q x)]; omega
theorem besideL {e : Rat} {l : List Seg} (cl : Closed l) {p q : Pt} (ne : key e p ≠ key e q) (hk : ∀ s ∈ l, key e s.1 ≠ key e p ∧ key e s.2 ≠ key e p) (hq : ∀ s ∈ l, Free s.1 s.2 p q ∧ ¬ onS q s.1 s.2) (h : ∀ s ∈ l, HL e s.1 s.2 p q) : tot l (fun a b => hc a b q) = tot l (fun a b => vk e a b p) :=
  beside0 cl ne hq (fun _ s hs => ukL (hk s hs).1 (hk s hs).2 (h s hs)) (fun _ s hs => wkL (hk s hs).1 (hk s hs).2 (h s hs))
theorem besideR {e : Rat} {l : List Seg} (cl : Closed l) {p q : Pt} (ne : key e p ≠ key e q) (hk : ∀ s ∈ l, key e s.1 ≠ key e p ∧ key e s.2 ≠ key e p) (hq : ∀ s ∈ l, Free s.1 s.2 p q ∧ ¬ onS q s.1 s.2) (h : ∀ s ∈ l, HR e s.1 s.2 p q) : tot l (fun a b => hc a b q) = tot l (fun a b => vk e a b p + th e a b p) :=
  beside0 cl ne hq (fun _ s hs => ukR (hk s hs).1 (hk s hs).2 (h s hs)) (fun _ s hs => wkR (hk s hs).1 (hk s hs).2 (h s hs))
end My
end
section
open GkBase
set_option Elab.async false
namespace My
/-! Points in order. -/
theorem mem_insertPt {p x : Pt} {l : List Pt} : x ∈ insertPt p l ↔ x = p ∨ x ∈ l := by
  induction l with
  | nil => simp [insertPt]
  | cons q l ih =>
    unfold insertPt
    by_cases h : p = q
    · simp [h]
    · rw [if_neg h]
      by_cases k : before p q = true
      · simp [k]
      · rw [if_neg k]; simp [ih]; grind
theorem sorted_insertPt {p : Pt} {l : List Pt} (h : l.Pairwise lt) : (insertPt p l).Pairwise lt := by
  induction l with
  | nil => simp [insertPt]
  | cons q l ih =>
    unfold insertPt
    rw [List.pairwise_cons] at h
    by_cases hq : p = q
    · rw [if_pos hq, List.pairwise_cons]; exact h
    · rw [if_neg hq]
      by_cases k : before p q = true
      · rw [if_pos k]
        rw [before_iff] at k
        simp only [List.pairwise_cons, List.mem_cons, forall_eq_or_imp]
        exact ⟨⟨k, fun x hx => lt_trans k (h.1 x hx)⟩, h⟩
      · rw [if_neg k, List.pairwise_cons]
        rw [before_iff] at k
        refine ⟨fun x hx => ?_, ih h.2⟩
        rcases mem_insertPt.1 hx with rfl | hx
        · rcases lt_tri x q with r | r | r
          · exact absurd r k
          · exact absurd r hq
          · exact r
        · exact h.1 x hx
theorem points_aux (l s : List Pt) (h : s.Pairwise lt) : ((l.foldl (fun (s : List Pt) (p : Pt) => insertPt p s) s).Pairwise lt) ∧ ∀ x, x ∈ l.foldl (fun (s : List Pt) (p : Pt) => insertPt p s) s ↔ x ∈ l ∨ x ∈ s := by
  induction l generalizing s with
  | nil => exact ⟨h, fun x => by simp⟩
  | cons p l ih =>
    obtain ⟨h1, h2⟩ := ih (insertPt p s) (sorted_insertPt h)
    refine ⟨h1, fun x => ?_⟩
    rw [List.foldl_cons, h2, mem_insertPt]; simp; grind
theorem points_sorted (l : List Pt) : (points l).Pairwise lt := (points_aux l [] List.Pairwise.nil).1
theorem mem_points {l : List Pt} {x : Pt} : x ∈ points l ↔ x ∈ l := by
  have := (points_aux l [] List.Pairwise.nil).2 x
  simpa [points] using this

/-! Where segments meet. -/
def par (s t : Seg) : Rat := (s.2.1 - s.1.1) * (t.2.2 - t.1.2) - (s.2.2 - s.1.2) * (t.2.1 - t.1.1)
theorem cross_par (s t : Seg) (x : Rat) : cross t.1 t.2 (pt s.1 s.2 x) = ((t.1.1 - s.1.1) * (t.2.2 - t.1.2) - (t.1.2 - s.1.2) * (t.2.1 - t.1.1)) - x * par s t := by
  unfold cross pt par; grind
theorem mem_meets {s t : Seg} (h : par s t ≠ 0) {v : Pt} : v ∈ meets s t ↔ onS v s.1 s.2 ∧ onS v t.1 t.2 := by
  unfold meets
  have hd : ¬ ((s.2.1 - s.1.1) * (t.2.2 - t.1.2) - (s.2.2 - s.1.2) * (t.2.1 - t.1.1) = 0) := h
  simp only [hd, if_false]
  have e : ∀ z : Rat, (s.1.1 + z * (s.2.1 - s.1.1), s.1.2 + z * (s.2.2 - s.1.2)) = pt s.1 s.2 z := fun _ => rfl
  have e2 : ((s.2.1 - s.1.1) * (t.2.2 - t.1.2) - (s.2.2 - s.1.2) * (t.2.1 - t.1.1)) = par s t := rfl
  rw [e, e2]
  constructor
  · intro hv
    split at hv
    · rename_i k
      rw [List.mem_singleton] at hv
      rw [onSeg_iff, onSeg_iff] at k
      rw [hv]; exact k
    · simp at hv
  · rintro ⟨h1, h2⟩
    obtain ⟨x, x0, x1, rfl⟩ := onS_iff.1 h1
    have c := h2.1
    rw [cross_par] at c
    have d := Rat.mul_div_cancel (a := x) h
    have : (t.1.1 - s.1.1) * (t.2.2 - t.1.2) - (t.1.2 - s.1.2) * (t.2.1 - t.1.1) = x * par s t := by grind
    rw [this, d, if_pos ⟨(onSeg_iff _ _).2 h1, (onSeg_iff _ _).2 h2⟩]
    simp
theorem meets_par {s t : Seg} (h : par s t = 0) {v : Pt} (hv : v ∈ meets s t) : v = s.1 ∨ v = s.2 ∨ v = t.1 ∨ v = t.2 := by
  unfold meets at hv
  have hd : ((s.2.1 - s.1.1) * (t.2.2 - t.1.2) - (s.2.2 - s.1.2) * (t.2.1 - t.1.1) = 0) := h
  simp only [hd, if_true, List.mem_append, List.mem_filter, List.mem_cons, List.not_mem_nil, or_false] at hv
  grind
/-- a vertex of segments -/
def Vert (l : List Seg) (v : Pt) : Prop := (∃ s ∈ l, v = s.1 ∨ v = s.2) ∨ ∃ s ∈ l, ∃ t ∈ l, par s t ≠ 0 ∧ onS v s.1 s.2 ∧ onS v t.1 t.2
theorem par_self (s : Seg) : par s s = 0 := by unfold par; grind
theorem mem_vertices {l : List Seg} {v : Pt} : v ∈ Gk01.vertices l ↔ Vert l v := by
  unfold Gk01.vertices
  rw [mem_points]
  simp only [List.mem_flatMap, List.mem_append, List.mem_cons, List.not_mem_nil, or_false]
  constructor
  · rintro ⟨s, hs, h | ⟨t, ht, h⟩⟩
    · exact .inl ⟨s, hs, h⟩
    · split at h
      · simp at h
      · by_cases p : par s t = 0
        · rcases meets_par p h with r | r | r | r
          · exact .inl ⟨s, hs, .inl r⟩
          · exact .inl ⟨s, hs, .inr r⟩
          · exact .inl ⟨t, ht, .inl r⟩
          · exact .inl ⟨t, ht, .inr r⟩
        · exact .inr ⟨s, hs, t, ht, p, (mem_meets p).1 h⟩
  · rintro (⟨s, hs, h⟩ | ⟨s, hs, t, ht, p, h⟩)
    · exact ⟨s, hs, .inl h⟩
    · refine ⟨s, hs, .inr ⟨t, ht, ?_⟩⟩
      rw [if_neg (by rintro rfl; exact p (par_self s))]
      exact (mem_meets p).2 h
theorem onS_left (a b : Pt) : onS a a b := by have := onS_pt a b (t := 0) (by decide) (by decide); have e : pt a b 0 = a := by rw [pt_ext]; unfold pt; grind
                                              rwa [e] at this
theorem onS_right (a b : Pt) : onS b a b := by have := onS_pt a b (t := 1) (by decide) (by decide); have e : pt a b 1 = b := by rw [pt_ext]; unfold pt; grind
                                               rwa [e] at this
theorem onS_comm {p a b : Pt} : onS p a b ↔ onS p b a := by
  unfold onS; rw [cross_rev]; grind
/-- points of a line, by their order -/
theorem lt_pt {a b : Pt} (h : lt a b) {s t : Rat} : lt (pt a b s) (pt a b t) ↔ s < t := by
  unfold lt pt at *
  have s1 := sgn (t - s) (b.1 - a.1)
  have s2 := sgn (t - s) (b.2 - a.2)
  have e1 : (t - s) * (b.1 - a.1) = t * (b.1 - a.1) - s * (b.1 - a.1) := by grind
  have e2 : (t - s) * (b.2 - a.2) = t * (b.2 - a.2) - s * (b.2 - a.2) := by grind
  grind
theorem pt_zero (a b : Pt) : pt a b 0 = a := by rw [pt_ext]; unfold pt; grind
theorem pt_one (a b : Pt) : pt a b 1 = b := by rw [pt_ext]; unfold pt; grind
theorem pt_swap (a b : Pt) (t : Rat) : pt a b t = pt b a (1 - t) := by rw [pt_ext]; unfold pt; grind
/-- on a line through two points -/
theorem on_line {a b p : Pt} (h : lt a b) (k : cross a b p = 0) : ∃ t : Rat, p = pt a b t := by
  by_cases x : a.1 = b.1
  · have y : b.2 - a.2 ≠ 0 := by unfold lt at h; grind
    refine ⟨(p.2 - a.2) / (b.2 - a.2), ?_⟩
    have d := Rat.div_mul_cancel (a := p.2 - a.2) y
    rw [pt_ext]; unfold pt; unfold cross at k
    generalize (p.2 - a.2) / (b.2 - a.2) = t at *
    have : (b.2 - a.2) * (p.1 - a.1) = 0 := by grind
    rcases Rat.mul_eq_zero.1 this with z | z <;> grind
  · have y : b.1 - a.1 ≠ 0 := by grind
    refine ⟨(p.1 - a.1) / (b.1 - a.1), ?_⟩
    have d := Rat.div_mul_cancel (a := p.1 - a.1) y
    rw [pt_ext]; unfold pt; unfold cross at k
    generalize (p.1 - a.1) / (b.1 - a.1) = t at *
    refine ⟨by grind, ?_⟩
    have : (b.1 - a.1) * (p.2 - (a.2 + t * (b.2 - a.2))) = 0 := by grind
    rcases Rat.mul_eq_zero.1 this with z | z <;> grind
theorem onS_lt {a b p : Pt} (h : lt a b) : onS p a b ↔ cross a b p = 0 ∧ ¬ lt p a ∧ ¬ lt b p := by
  constructor
  · intro k
    obtain ⟨t, t0, t1, rfl⟩ := onS_iff.1 k
    refine ⟨k.1, ?_, ?_⟩
    · have := lt_pt h (s := t) (t := 0); rw [pt_zero] at this; grind
    · have := lt_pt h (s := 1) (t := t); rw [pt_one] at this; grind
  · rintro ⟨k, h1, h2⟩
    obtain ⟨t, rfl⟩ := on_line h k
    have i1 := lt_pt h (s := t) (t := 0)
    have i2 := lt_pt h (s := 1) (t := t)
    rw [pt_zero] at i1; rw [pt_one] at i2
    exact onS_pt a b (by grind) (by grind)
end My
end
section
open GkBase
set_option Elab.async false
namespace My
/-! Neighbours in a sorted list. -/
section
variable {α : Type} {R : α → α → Prop}
theorem mem_zip_tail (ir : ∀ x, ¬ R x x) (tr : ∀ {x y z}, R x y → R y z → R x z) (l : List α) (h : l.Pairwise R) (a b : α) : (a, b) ∈ l.zip l.tail ↔ a ∈ l ∧ b ∈ l ∧ R a b ∧ ∀ v ∈ l, R a v → ¬ R v b := by
  induction l with
  | nil => simp
  | cons x l ih =>
    rw [List.pairwise_cons] at h
    cases l with
    | nil =>
      simp only [List.tail_cons, List.zip_nil_right, List.not_mem_nil, List.mem_singleton, false_iff]
      rintro ⟨rfl, rfl, k, _⟩
      exact ir _ k
    | cons y l =>
      have ih := ih h.2
      simp only [List.tail_cons, List.zip_cons_cons, List.mem_cons, Prod.mk.injEq] at ih ⊢
      rw [ih]
      have h1 := h.1
      have h2 := h.2
      rw [List.pairwise_cons] at h2
      simp only [List.mem_cons] at h1
      constructor
      · rintro (⟨rfl, rfl⟩ | ⟨k1, k2, k3, k4⟩)
        · refine ⟨.inl rfl, .inr (.inl rfl), h1 _ (.inl rfl), ?_⟩
          rintro v (rfl | rfl | hv) r
          · exact absurd r (ir _)
          · exact ir _
          · exact fun q => ir _ (tr q (h2.1 v hv))
        · refine ⟨.inr k1, .inr k2, k3, ?_⟩
          rintro v (rfl | hv) r
          · exact absurd (tr r (h1 _ k1)) (ir _)
          · exact k4 v hv r
      · rintro ⟨k1, k2, k3, k4⟩
        rcases k1 with rfl | k1
        · left
          refine ⟨rfl, ?_⟩
          rcases k2 with rfl | rfl | k2
          · exact absurd k3 (ir _)
          · rfl
          · exact absurd (h2.1 _ k2) (k4 y (.inr (.inl rfl)) (h1 _ (.inl rfl)))
        · right
          rcases k2 with rfl | k2
          · exact absurd (tr k3 (h1 _ k1)) (ir _)
          · exact ⟨k1, k2, k3, fun v hv => k4 v (.inr hv)⟩
/-- what lies between the first and the last lies between two neighbours -/
theorem between_tail (Le : α → Prop) (Ge : α → Prop) (tot : ∀ x, Le x ∨ Ge x) (x : α) (l : List α) (h0 : Le x) (h1 : ∀ y ∈ (x :: l).getLast?, Ge y) (ne : l ≠ []) : ∃ p ∈ (x :: l).zip l, Le p.1 ∧ Ge p.2 := by
  induction l generalizing x with
  | nil => exact absurd rfl ne
  | cons y l ih =>
    by_cases hy : Ge y
    · exact ⟨(x, y), by simp, h0, hy⟩
    · have ly : Le y := (tot y).resolve_right hy
      have ne' : l ≠ [] := by
        rintro rfl
        exact hy (h1 y (by simp))
      obtain ⟨p, hp, k⟩ := ih y ly (fun z hz => h1 z (by simpa [List.getLast?_cons_cons] using hz)) ne'
      exact ⟨p, by simp [hp], k⟩
end

/-! Edges. -/
def Edge (l : List Seg) (a b : Pt) : Prop := lt a b ∧ Vert l a ∧ Vert l b ∧ ∃ s ∈ l, onS a s.1 s.2 ∧ onS b s.1 s.2 ∧ ∀ v, Vert l v → onS v s.1 s.2 → lt a v → ¬ lt v b
def Nondeg (l : List Seg) : Prop := ∀ s ∈ l, s.1 ≠ s.2
theorem side_or {l : List Seg} (hn : Nondeg l) {s : Seg} (hs : s ∈ l) : ∃ c d, lt c d ∧ (∀ x, onS x s.1 s.2 ↔ onS x c d) ∧ ((c = s.1 ∧ d = s.2) ∨ (c = s.2 ∧ d = s.1)) := by
  rcases lt_tri s.1 s.2 with h | h | h
  · exact ⟨s.1, s.2, h, fun _ => Iff.rfl, .inl ⟨rfl, rfl⟩⟩
  · exact absurd h (hn s hs)
  · exact ⟨s.2, s.1, h, fun _ => onS_comm, .inr ⟨rfl, rfl⟩⟩
theorem onS_between {a b p q z : Pt} (h : lt a b) (hp : onS p a b) (hq : onS q a b) (hl : lt p q) (hz : cross p q z = 0) (h1 : ¬ lt z p) (h2 : ¬ lt q z) : onS z a b := by
  obtain ⟨s, s0, s1, rfl⟩ := onS_iff.1 hp
  obtain ⟨t, t0, t1, rfl⟩ := onS_iff.1 hq
  have st : s < t := (lt_pt h).1 hl
  have : cross a b z = 0 := by
    have e : cross (pt a b s) (pt a b t) z = (t - s) * cross a b z := by unfold cross pt; grind
    rw [e] at hz
    rcases Rat.mul_eq_zero.1 hz with r | r
    · grind
    · exact r
  obtain ⟨x, rfl⟩ := on_line h this
  have i1 : ¬ x < s := fun k => h1 ((lt_pt h).2 k)
  have i2 : ¬ t < x := fun k => h2 ((lt_pt h).2 k)
  exact onS_pt a b (by grind) (by grind)
theorem par_line {s t : Seg} (h : par s t = 0) {z x : Pt} (z1 : onS z s.1 s.2) (z2 : onS z t.1 t.2) (hx : onS x t.1 t.2) : cross s.1 s.2 x = 0 := by
  obtain ⟨u, _, _, hu⟩ := onS_iff.1 z2
  obtain ⟨w, _, _, hw⟩ := onS_iff.1 hx
  have c := z1.1
  rw [hu] at c
  rw [hw]
  have e : cross s.1 s.2 (pt t.1 t.2 w) = cross s.1 s.2 (pt t.1 t.2 u) + (w - u) * par s t := by unfold cross pt par; grind
  rw [e, c, h]; grind
/-- **a side that meets an edge within contains it** -/
theorem edge_sub {l : List Seg} (hn : Nondeg l) {a b : Pt} (he : Edge l a b) {s : Seg} (hs : s ∈ l) {z : Pt} (hz : onS z s.1 s.2) (hl : cross a b z = 0) (h1 : lt a z) (h2 : lt z b) : onS a s.1 s.2 ∧ onS b s.1 s.2 := by
  obtain ⟨hab, va, vb, t, ht, ta, tb, hno⟩ := he
  obtain ⟨c, d, cd, hcd, hends⟩ := side_or hn ht
  have zt : onS z t.1 t.2 := by
    rw [hcd] at ta tb ⊢
    exact onS_between cd ta tb hab hl (fun k => lt_asymm k h1) (fun k => lt_asymm k h2)
  by_cases hp : par t s = 0
  · obtain ⟨c', d', cd', hcd', hends'⟩ := side_or hn hs
    have c'on : onS c' s.1 s.2 := (hcd' c').2 (onS_left c' d')
    have d'on : onS d' s.1 s.2 := (hcd' d').2 (onS_right c' d')
    have lc : cross t.1 t.2 c' = 0 := par_line hp zt hz c'on
    have ld : cross t.1 t.2 d' = 0 := par_line hp zt hz d'on
    have vc : Vert l c' := .inl ⟨s, hs, by rcases hends' with ⟨h, _⟩ | ⟨h, _⟩ <;> simp [h]⟩
    have vd : Vert l d' := .inl ⟨s, hs, by rcases hends' with ⟨_, h⟩ | ⟨_, h⟩ <;> simp [h]⟩
    have swap : ∀ x, cross t.1 t.2 x = 0 → cross c d x = 0 := by
      intro x hx
      rcases hends with ⟨h, k⟩ | ⟨h, k⟩
      · rw [h, k]; exact hx
      · rw [h, k, cross_rev]; grind
    have onl : ∀ x, cross t.1 t.2 x = 0 → cross a b x = 0 := by
      intro x hx
      obtain ⟨u, rfl⟩ := on_line cd (swap x hx)
      obtain ⟨w1, _, _, rfl⟩ := onS_iff.1 ((hcd a).1 ta)
      obtain ⟨w2, _, _, rfl⟩ := onS_iff.1 ((hcd b).1 tb)
      unfold cross pt; grind
    have zz := (onS_lt cd').1 ((hcd' z).1 hz)
    have tin : ∀ x, cross t.1 t.2 x = 0 → ¬ lt x a → ¬ lt b x → onS x t.1 t.2 := by
      intro x hx k1 k2
      rw [hcd]
      exact onS_between cd ((hcd a).1 ta) ((hcd b).1 tb) hab (onl x hx) k1 k2
    have ca : ¬ lt a c' := by
      intro k
      have cb : lt c' b := by
        rcases lt_tri c' z with r | r | r
        · exact lt_trans r h2
        · rw [r]; exact h2
        · exact absurd r zz.2.1
      exact hno c' vc (tin c' lc (fun r => lt_asymm r k) (fun r => lt_asymm r cb)) k cb
    have db : ¬ lt d' b := by
      intro k
      have cb : lt a d' := by
        rcases lt_tri d' z with r | r | r
        · exact absurd r zz.2.2
        · rw [r]; exact h1
        · exact lt_trans h1 r
      exact hno d' vd (tin d' ld (fun r => lt_asymm r cb) (fun r => lt_asymm r k)) cb k
    have e : ∀ x, onS x t.1 t.2 → cross c' d' x = 0 := by
      intro x hx
      obtain ⟨u, rfl⟩ := on_line cd (swap x hx.1)
      obtain ⟨w1, hw1⟩ := on_line cd (swap c' lc)
      obtain ⟨w2, hw2⟩ := on_line cd (swap d' ld)
      rw [hw1, hw2]
      unfold cross pt; grind
    constructor
    · rw [hcd', onS_lt cd']
      refine ⟨e a ta, ca, fun k => ?_⟩
      exact db (lt_trans k hab)
    · rw [hcd', onS_lt cd']
      refine ⟨e b tb, fun k => ?_, db⟩
      exact ca (lt_trans hab k)
  · exact absurd h2 (hno z (.inr ⟨t, ht, s, hs, hp, zt, hz⟩) zt h1)
/-- the vertices on a side, in order -/
def vertsOn (l : List Seg) (s : Seg) : List Pt := (Gk01.vertices l).filter fun p => onSeg p s
theorem mem_vertsOn {l : List Seg} {s : Seg} {v : Pt} : v ∈ vertsOn l s ↔ Vert l v ∧ onS v s.1 s.2 := by
  rw [vertsOn, List.mem_filter, mem_vertices, onSeg_iff]
theorem vertsOn_sorted (l : List Seg) (s : Seg) : (vertsOn l s).Pairwise lt := List.Pairwise.filter _ (points_sorted _)
theorem mem_pieces {l : List Seg} {s : Seg} {a b : Pt} : (a, b) ∈ (vertsOn l s).zip (vertsOn l s).tail ↔ lt a b ∧ Vert l a ∧ Vert l b ∧ onS a s.1 s.2 ∧ onS b s.1 s.2 ∧ ∀ v, Vert l v → onS v s.1 s.2 → lt a v → ¬ lt v b := by
  rw [mem_zip_tail lt_irrefl lt_trans _ (vertsOn_sorted l s)]
  simp only [mem_vertsOn]
  constructor
  · rintro ⟨⟨h1, h2⟩, ⟨h3, h4⟩, h5, h6⟩; exact ⟨h5, h1, h3, h2, h4, fun v hv hs => h6 v ⟨hv, hs⟩⟩
  · rintro ⟨h5, h1, h3, h2, h4, h6⟩; exact ⟨⟨h1, h2⟩, ⟨h3, h4⟩, h5, fun v hv => h6 v hv.1 hv.2⟩
theorem edge_iff {l : List Seg} {a b : Pt} : Edge l a b ↔ ∃ s ∈ l, (a, b) ∈ (vertsOn l s).zip (vertsOn l s).tail := by
  simp only [mem_pieces, Edge]
  constructor
  · rintro ⟨h, va, vb, s, hs, k1, k2, k3⟩; exact ⟨s, hs, h, va, vb, k1, k2, k3⟩
  · rintro ⟨s, hs, h, va, vb, k1, k2, k3⟩; exact ⟨h, va, vb, s, hs, k1, k2, k3⟩
/-- **edges cover the sides** -/
theorem cover {l : List Seg} (hn : Nondeg l) {s : Seg} (hs : s ∈ l) {z : Pt} (hz : onS z s.1 s.2) : ∃ a b, Edge l a b ∧ onS a s.1 s.2 ∧ onS b s.1 s.2 ∧ onS z a b := by
  obtain ⟨c, d, cd, hcd, hends⟩ := side_or hn hs
  have vc : Vert l c := .inl ⟨s, hs, by rcases hends with ⟨h, _⟩ | ⟨h, _⟩ <;> simp [h]⟩
  have vd : Vert l d := .inl ⟨s, hs, by rcases hends with ⟨_, h⟩ | ⟨_, h⟩ <;> simp [h]⟩
  have mc : c ∈ vertsOn l s := mem_vertsOn.2 ⟨vc, (hcd c).2 (onS_left c d)⟩
  have md : d ∈ vertsOn l s := mem_vertsOn.2 ⟨vd, (hcd d).2 (onS_right c d)⟩
  have hz' := (onS_lt cd).1 ((hcd z).1 hz)
  have srt := vertsOn_sorted l s
  have key : ∃ p ∈ (vertsOn l s).zip (vertsOn l s).tail, ¬ lt z p.1 ∧ ¬ lt p.2 z := by
    have mm : ∀ v ∈ vertsOn l s, ¬ lt v c ∧ ¬ lt d v := fun v hv => ((onS_lt cd).1 ((hcd v).1 (mem_vertsOn.1 hv).2)).2
    cases hv : vertsOn l s with
    | nil => rw [hv] at mc; simp at mc
    | cons x r =>
      rw [hv] at mc md srt mm
      rw [List.pairwise_cons] at srt
      have xc : x = c := by
        rcases List.mem_cons.1 mc with k | k
        · exact k.symm
        · exact absurd (srt.1 c k) (mm x (by simp)).1
      have ne : r ≠ [] := by
        rintro rfl
        simp only [List.mem_singleton] at md mc
        exact lt_irrefl c (by rw [mc, ← md]; rw [← md] at mc; rw [mc] at cd; exact absurd cd (lt_irrefl _))
      refine between_tail (fun v => ¬ lt z v) (fun v => ¬ lt v z) (fun v => ?_) x r ?_ ?_ ne
      · by_cases k : lt z v
        · exact .inr (lt_asymm k)
        · exact .inl k
      · rw [xc]; exact hz'.2.1
      · intro y hy
        have hy' : y ∈ x :: r := List.mem_of_getLast? hy
        have : y = d := by
          obtain ⟨ys, hys⟩ := List.getLast?_eq_some_iff.1 hy
          rw [hys] at md
          rcases List.mem_append.1 md with k | k
          · have : (x :: r).Pairwise lt := List.pairwise_cons.2 srt
            rw [hys, List.pairwise_append] at this
            exact absurd (this.2.2 d k y (by simp)) (mm y hy').2
          · simp at k; exact k.symm
        rw [this]; exact hz'.2.2
  obtain ⟨⟨a, b⟩, hp, k1, k2⟩ := key
  have e := mem_pieces.1 hp
  refine ⟨a, b, edge_iff.2 ⟨s, hs, hp⟩, e.2.2.2.1, e.2.2.2.2.1, ?_⟩
  rw [onS_lt e.1]
  refine ⟨?_, k1, k2⟩
  obtain ⟨u, rfl⟩ := on_line cd hz'.1
  obtain ⟨w1, _, _, hw1⟩ := onS_iff.1 ((hcd a).1 e.2.2.2.1)
  obtain ⟨w2, _, _, hw2⟩ := onS_iff.1 ((hcd b).1 e.2.2.2.2.1)
  rw [hw1, hw2]
  unfold cross pt; grind
end My
end
section
open GkBase
set_option Elab.async false
namespace My
def mid (a b : Pt) : Pt := ((a.1 + b.1) / 2, (a.2 + b.2) / 2)
theorem mid_pt (a b : Pt) : mid a b = pt a b (1 / 2) := by rw [pt_ext]; unfold mid pt; grind
theorem mid_comm (a b : Pt) : mid a b = mid b a := by rw [pt_ext]; unfold mid; grind
/-- a point just at the left of the way from a to b -/
def Beside (l : List Seg) (a b q : Pt) : Prop := ∃ t : Rat, 0 < t ∧ q = ((mid a b).1 + t * (a.2 - b.2), (mid a b).2 + t * (b.1 - a.1)) ∧ ∀ u : Rat, 0 < u → u ≤ 1 → ∀ s ∈ l, ¬ onS (pt (mid a b) q u) s.1 s.2
theorem on_of_key {e : Rat} {a b p : Pt} (h : cross a b p = 0) (h1 : key e a ≤ key e p) (h2 : key e p < key e b) : onS p a b := by
  rw [onS_iff]
  rw [cross_key e] at h
  have xne : key e b - key e a ≠ 0 := by grind
  have d := Rat.div_mul_cancel (a := key e p - key e a) xne
  refine ⟨(key e p - key e a) / (key e b - key e a), ?_, ?_, ?_⟩
  · generalize (key e p - key e a) / (key e b - key e a) = t at *
    have := sgn t (key e b - key e a)
    grind
  · generalize (key e p - key e a) / (key e b - key e a) = t at *
    have := sgn (t - 1) (key e b - key e a)
    have : (t - 1) * (key e b - key e a) = t * (key e b - key e a) - (key e b - key e a) := by grind
    grind
  · generalize (key e p - key e a) / (key e b - key e a) = t at *
    have : (key e b - key e a) * (p.2 - (a.2 + t * (b.2 - a.2))) = 0 := by grind
    rcases Rat.mul_eq_zero.1 this with z | z
    · grind
    · rw [pt_ext]; unfold pt; unfold key at *; grind
theorem on_of_key' {e : Rat} {a b p : Pt} (h : cross a b p = 0) (h1 : key e b ≤ key e p) (h2 : key e p < key e a) : onS p a b := by
  rw [onS_comm]
  exact on_of_key (e := e) (by rw [cross_rev]; grind) h1 h2
/-- within an edge -/
def Within (a b z : Pt) : Prop := cross a b z = 0 ∧ lt a z ∧ lt z b
theorem within_pt {a b : Pt} (h : lt a b) {t : Rat} (h0 : 0 < t) (h1 : t < 1) : Within a b (pt a b t) := by
  refine ⟨(onS_pt a b (by grind) (by grind)).1, ?_, ?_⟩
  · have := lt_pt h (s := 0) (t := t); rw [pt_zero] at this; exact this.2 h0
  · have := lt_pt h (s := t) (t := 1); rw [pt_one] at this; exact this.2 h1
theorem within_mid {a b : Pt} (h : lt a b) : Within a b (mid a b) := by rw [mid_pt]; exact within_pt h (by grind) (by grind)
theorem within_iff {a b z : Pt} (h : lt a b) : Within a b z ↔ ∃ t : Rat, 0 < t ∧ t < 1 ∧ z = pt a b t := by
  constructor
  · rintro ⟨h1, h2, h3⟩
    obtain ⟨t, rfl⟩ := on_line h h1
    refine ⟨t, ?_, ?_, rfl⟩
    · have := lt_pt h (s := 0) (t := t); rw [pt_zero] at this; exact this.1 h2
    · have := lt_pt h (s := t) (t := 1); rw [pt_one] at this; exact this.1 h3
  · rintro ⟨t, h0, h1, rfl⟩; exact within_pt h h0 h1
theorem edge_in {l : List Seg} (hn : Nondeg l) {a b : Pt} (he : Edge l a b) {s : Seg} (hs : s ∈ l) {z : Pt} (hz : Within a b z) (ho : onS z s.1 s.2) : onS a s.1 s.2 ∧ onS b s.1 s.2 := edge_sub hn he hs ho hz.1 hz.2.1 hz.2.2
/-- a side that contains an edge goes its way or the other way -/
theorem cross_sub {a b c d : Pt} (h1 : onS c a b) (h2 : onS d a b) : ∃ k : Rat, (∀ q, cross c d q = k * cross a b q) ∧ ∀ e, key e d - key e c = k * (key e b - key e a) := by
  obtain ⟨s, _, _, rfl⟩ := onS_iff.1 h1
  obtain ⟨t, _, _, rfl⟩ := onS_iff.1 h2
  exact ⟨t - s, fun q => by unfold cross pt; grind, fun e => by rw [key_pt, key_pt]; grind⟩
theorem cross_mid {a b q : Pt} {t : Rat} (hq : q = ((mid a b).1 + t * (a.2 - b.2), (mid a b).2 + t * (b.1 - a.1))) : cross a b q = t * ((b.1 - a.1) * (b.1 - a.1) + (b.2 - a.2) * (b.2 - a.2)) := by
  rw [hq]; unfold cross mid; grind
theorem sq_pos {a b : Pt} (h : a ≠ b) : 0 < (b.1 - a.1) * (b.1 - a.1) + (b.2 - a.2) * (b.2 - a.2) := by
  have h1 := sgn (b.1 - a.1) (b.1 - a.1)
  have h2 := sgn (b.2 - a.2) (b.2 - a.2)
  have : ¬ (b.1 - a.1 = 0 ∧ b.2 - a.2 = 0) := by
    rintro ⟨k1, k2⟩
    exact h (by rw [pt_ext]; grind)
  grind
theorem beside_sides {l r : List Seg} (hr : ∀ s ∈ r, s ∈ l) {a b q : Pt} (hb : Beside l a b q) : ∀ s ∈ r, Free s.1 s.2 (mid a b) q ∧ ¬ onS q s.1 s.2 := by
  obtain ⟨t, t0, hq, h⟩ := hb
  intro s hs
  refine ⟨free_of fun u u0 u1 => h u u0 u1 s (hr s hs), ?_⟩
  have := h 1 (by decide) (by decide) s (hr s hs)
  rwa [pt_one] at this
theorem pos_of_mul {k x : Rat} (h : 0 < k * x) (hk : 0 < k) : 0 < x := by have := sgn k x; grind
theorem neg_of_mul {k x : Rat} (h : k * x < 0) (hk : 0 < k) : x < 0 := by have := sgn k x; grind
theorem neg_of_mul' {k x : Rat} (h : 0 < k * x) (hk : k < 0) : x < 0 := by have := sgn k x; grind
theorem pos_of_mul' {k x : Rat} (h : k * x < 0) (hk : k < 0) : 0 < x := by have := sgn k x; grind
theorem kpos {e k : Rat} {a b c d : Pt} (hk : key e d - key e c = k * (key e b - key e a)) (h1 : key e c < key e d) (h2 : key e a < key e b) : 0 < k := by
  have := sgn k (key e b - key e a); grind
theorem kneg {e k : Rat} {a b c d : Pt} (hk : key e d - key e c = k * (key e b - key e a)) (h1 : key e c < key e d) (h2 : key e b < key e a) : k < 0 := by
  have := sgn k (key e b - key e a); grind
/-- **M**: what is just at the left (above) of an edge -/
theorem left_sum {e : Rat} {l r : List Seg} (hn : Nondeg l) (hr : ∀ s ∈ r, s ∈ l) (cl : Closed r) {a b q : Pt} (he : Edge l a b) (hab : key e a < key e b) (hq : key e (mid a b) ≠ key e q) (hk : ∀ s ∈ r, key e s.1 ≠ key e (mid a b) ∧ key e s.2 ≠ key e (mid a b)) (hb : Beside l a b q) : tot r (fun x y => hc x y q) = tot r (fun x y => vk e x y (mid a b)) := by
  refine besideL cl hq hk (beside_sides hr hb) fun s hs => ?_
  obtain ⟨t, t0, q0, _⟩ := hb
  have pos : 0 < cross a b q := by rw [cross_mid q0]; exact Rat.mul_pos t0 (sq_pos fun k => lt_irrefl a (by have := he.1; rwa [← k] at this))
  constructor
  · intro h0 h1 h2
    obtain ⟨o1, o2⟩ := edge_in hn he (hr s hs) (within_mid he.1) (on_of_key h0 (by grind) h2)
    obtain ⟨k, c1, c2⟩ := cross_sub o1 o2
    rw [c1 q] at pos
    exact pos_of_mul pos (kpos (c2 e) hab (by grind))
  · intro h0 h1 h2
    obtain ⟨o1, o2⟩ := edge_in hn he (hr s hs) (within_mid he.1) (on_of_key' h0 (by grind) h2)
    obtain ⟨k, c1, c2⟩ := cross_sub o1 o2
    rw [c1 q] at pos
    exact neg_of_mul' pos (kneg (c2 e) hab (by grind))
/-- and just at its right (below) -/
theorem right_sum {e : Rat} {l r : List Seg} (hn : Nondeg l) (hr : ∀ s ∈ r, s ∈ l) (cl : Closed r) {a b q : Pt} (he : Edge l a b) (hab : key e a < key e b) (hq : key e (mid a b) ≠ key e q) (hk : ∀ s ∈ r, key e s.1 ≠ key e (mid a b) ∧ key e s.2 ≠ key e (mid a b)) (hb : Beside l b a q) : tot r (fun x y => hc x y q) = tot r (fun x y => vk e x y (mid a b) + th e x y (mid a b)) := by
  have hb' := beside_sides hr hb
  rw [mid_comm b a] at hb'
  refine besideR cl hq hk hb' fun s hs => ?_
  obtain ⟨t, t0, q0, _⟩ := hb
  have pos : cross a b q < 0 := by
    rw [cross_rev, cross_mid q0]
    have := Rat.mul_pos t0 (sq_pos (a := b) (b := a) fun k => lt_irrefl a (by have := he.1; rwa [k] at this))
    grind
  constructor
  · intro h0 h1 h2
    obtain ⟨o1, o2⟩ := edge_in hn he (hr s hs) (within_mid he.1) (on_of_key h0 (by grind) h2)
    obtain ⟨k, c1, c2⟩ := cross_sub o1 o2
    rw [c1 q] at pos
    exact neg_of_mul pos (kpos (c2 e) hab (by grind))
  · intro h0 h1 h2
    obtain ⟨o1, o2⟩ := edge_in hn he (hr s hs) (within_mid he.1) (on_of_key' h0 (by grind) h2)
    obtain ⟨k, c1, c2⟩ := cross_sub o1 o2
    rw [c1 q] at pos
    exact pos_of_mul' pos (kneg (c2 e) hab (by grind))
/-! Along an edge. -/
theorem pt_pt (a b : Pt) (s t u : Rat) : pt (pt a b s) (pt a b t) u = pt a b (s + u * (t - s)) := by rw [pt_ext]; unfold pt; grind
theorem along_free {l : List Seg} (hn : Nondeg l) {a b : Pt} (he : Edge l a b) {z w : Pt} (hz : Within a b z) (hw : Within a b w) {s : Seg} (hs : s ∈ l) : Free s.1 s.2 z w := by
  by_cases c : cross s.1 s.2 z = 0
  · exact .inl c
  · refine free_of fun u u0 u1 ho => c ?_
    obtain ⟨x, x0, x1, rfl⟩ := (within_iff he.1).1 hz
    obtain ⟨y, y0, y1, rfl⟩ := (within_iff he.1).1 hw
    rw [pt_pt] at ho
    have s1 := sgn u (y - x)
    have s2 := sgn (1 - u) (y - x)
    have e1 : (1 - u) * (y - x) = (y - x) - u * (y - x) := by grind
    have o := edge_in hn he hs (within_pt he.1 (t := x + u * (y - x)) (by grind) (by grind)) ho
    have := cross_pt s.1 s.2 a b x
    rw [this, o.1.1, o.2.1]; grind
theorem along {e : Rat} {l r : List Seg} (hn : Nondeg l) (hr : ∀ s ∈ r, s ∈ l) (cl : Closed r) {a b : Pt} (he : Edge l a b) {z w : Pt} (hz : Within a b z) (hw : Within a b w) (hk : key e z < key e w) : tot r (fun x y => vk e x y z) = tot r (fun x y => vk e x y w) := by
  have h : ∀ s ∈ r, vk e s.1 s.2 w = vk e s.1 s.2 z + (fR e z w s.2 - fR e z w s.1) := by
    intro s hs
    have h1 := stepR hk (along_free hn he hz hw (hr s hs))
    have h2 : uk e s.1 s.2 z w = vk e s.1 s.2 z := by
      by_cases c : cross s.1 s.2 z = 0
      · by_cases k : onS z s.1 s.2
        · have o := edge_in hn he (hr s hs) hz k
          have : cross s.1 s.2 w = 0 := by
            obtain ⟨y, y0, y1, rfl⟩ := (within_iff he.1).1 hw
            have := cross_pt s.1 s.2 a b y
            rw [this, o.1.1, o.2.1]; grind
          unfold uk vk; grind
        · unfold uk vk
          have k1 : ¬ (key e s.1 ≤ key e z ∧ key e z < key e s.2) := fun x => k (on_of_key c x.1 x.2)
          have k2 : ¬ (key e s.2 ≤ key e z ∧ key e z < key e s.1) := fun x => k (on_of_key' c x.1 x.2)
          grind
      · unfold uk vk; grind
    omega
  have h' : tot r (fun x y => vk e x y w) = tot r (fun x y => vk e x y z + (fR e z w y - fR e z w x)) := tot_congr h
  rw [h', tot_add, cl (fun x => fR e z w x)]; omega
theorem along_th {e : Rat} {l : List Seg} (hn : Nondeg l) {a b : Pt} (he : Edge l a b) (hab : key e a < key e b) {z w : Pt} (hz : Within a b z) (hw : Within a b w) {s : Seg} (hs : s ∈ l) : th e s.1 s.2 z = th e s.1 s.2 w := by
  have key1 : ∀ {z w : Pt}, Within a b z → Within a b w → cross s.1 s.2 z = 0 → ((key e s.1 ≤ key e z ∧ key e z < key e s.2) → cross s.1 s.2 w = 0 ∧ key e s.1 ≤ key e w ∧ key e w < key e s.2) ∧ ((key e s.2 ≤ key e z ∧ key e z < key e s.1) → cross s.1 s.2 w = 0 ∧ key e s.2 ≤ key e w ∧ key e w < key e s.1) := by
    intro z w hz hw c
    obtain ⟨y, y0, y1, hy⟩ := (within_iff he.1).1 hw
    have ky := key_pt e a b y
    rw [← hy] at ky
    have s1 := Rat.mul_pos y0 (show 0 < key e b - key e a by grind)
    have s2 := Rat.mul_pos (show 0 < 1 - y by grind) (show 0 < key e b - key e a by grind)
    have e2 : (1 - y) * (key e b - key e a) = (key e b - key e a) - y * (key e b - key e a) := by grind
    constructor
    · rintro ⟨h1, h2⟩
      have o := edge_in hn he hs hz (on_of_key c h1 h2)
      have o1 := onS_of_key (e := e) o.1
      have o2 := onS_of_key (e := e) o.2
      refine ⟨?_, by grind, by grind⟩
      have := cross_pt s.1 s.2 a b y
      rw [hy, this, o.1.1, o.2.1]; grind
    · rintro ⟨h1, h2⟩
      have o := edge_in hn he hs hz (on_of_key' c h1 h2)
      have o1 := onS_of_key (e := e) o.1
      have o2 := onS_of_key (e := e) o.2
      refine ⟨?_, by grind, by grind⟩
      have := cross_pt s.1 s.2 a b y
      rw [hy, this, o.1.1, o.2.1]; grind
  have k1 := @key1 z w hz hw
  have k2 := @key1 w z hw hz
  unfold th
  grind
end My
end
section
open GkBase
set_option Elab.async false
namespace My
/-! The map: numbers of vertices. -/
theorem at_eq (l : List Seg) (i : Nat) : Gk01.at_ (Gk01.mapOf l) i = (Gk01.vertices l).getD i (0, 0) := rfl
abbrev pa (l : List Seg) (i : Nat) : Pt := Gk01.at_ (Gk01.mapOf l) i
abbrev nv (l : List Seg) : Nat := (Gk01.vertices l).length
theorem pa_get {l : List Seg} {i : Nat} (h : i < nv l) : pa l i = (Gk01.vertices l)[i] := by
  show (Gk01.vertices l).getD i (0, 0) = _
  rw [List.getD_eq_getElem?_getD, List.getElem?_eq_getElem h]; rfl
theorem pa_lt {l : List Seg} {i j : Nat} (hi : i < nv l) (hj : j < nv l) : lt (pa l i) (pa l j) ↔ i < j := by
  have h := List.pairwise_iff_getElem.1 (points_sorted _ : (Gk01.vertices l).Pairwise lt)
  rw [pa_get hi, pa_get hj]
  constructor
  · intro k
    rcases Nat.lt_trichotomy i j with r | r | r
    · exact r
    · subst r; exact absurd k (lt_irrefl _)
    · exact absurd k (lt_asymm (h j i hj hi r))
  · exact fun k => h i j hi hj k
theorem pa_inj {l : List Seg} {i j : Nat} (hi : i < nv l) (hj : j < nv l) (h : pa l i = pa l j) : i = j := by
  have h1 := pa_lt hi hj
  have h2 := pa_lt hj hi
  rw [h] at h1 h2
  have a1 := mt h1.2 (lt_irrefl (pa l j))
  have a2 := mt h2.2 (lt_irrefl (pa l j))
  omega
theorem pa_vert {l : List Seg} {i : Nat} (h : i < nv l) : Vert l (pa l i) := by
  rw [← mem_vertices, pa_get h]; exact List.getElem_mem h
theorem vert_pa {l : List Seg} {x : Pt} (h : Vert l x) : ∃ i, i < nv l ∧ pa l i = x := by
  rw [← mem_vertices] at h
  obtain ⟨i, hi, k⟩ := List.getElem_of_mem h
  exact ⟨i, hi, by rw [pa_get hi, k]⟩
theorem mem_pieces_idx {l : List Seg} {s : Seg} {i j : Nat} : (i, j) ∈ Gk01.pieces (Gk01.vertices l) s ↔ i < nv l ∧ j < nv l ∧ (pa l i, pa l j) ∈ (vertsOn l s).zip (vertsOn l s).tail := by
  unfold Gk01.pieces
  have srt : (((List.range (Gk01.vertices l).length).filter fun (i : Nat) => onSeg ((Gk01.vertices l).getD i (0, 0)) s)).Pairwise (· < ·) := List.Pairwise.filter _ List.pairwise_lt_range
  simp only []
  rw [mem_zip_tail (R := fun (a b : Nat) => a < b) (fun x => Nat.lt_irrefl x) (fun h k => Nat.lt_trans h k) _ srt, mem_pieces]
  simp only [List.mem_filter, List.mem_range, onSeg_iff]
  constructor
  · rintro ⟨⟨hi, oi⟩, ⟨hj, oj⟩, hij, hno⟩
    refine ⟨hi, hj, (pa_lt hi hj).2 hij, pa_vert hi, pa_vert hj, oi, oj, ?_⟩
    intro v hv ho h1 h2
    obtain ⟨k, hk, rfl⟩ := vert_pa hv
    exact hno k ⟨hk, ho⟩ ((pa_lt hi hk).1 h1) ((pa_lt hk hj).1 h2)
  · rintro ⟨hi, hj, hij, _, _, oi, oj, hno⟩
    refine ⟨⟨hi, oi⟩, ⟨hj, oj⟩, (pa_lt hi hj).1 hij, ?_⟩
    rintro k ⟨hk, ho⟩ h1 h2
    exact hno (pa l k) (pa_vert hk) ho ((pa_lt hi hk).2 h1) ((pa_lt hk hj).2 h2)
/-! Edges in order. -/
def eb (a b : Nat × Nat) : Prop := a.1 < b.1 ∨ (a.1 = b.1 ∧ a.2 < b.2)
theorem eb_iff {a b : Nat × Nat} : Gk01.edgeBefore a b = true ↔ eb a b := by simp [Gk01.edgeBefore, eb]
theorem eb_irrefl (a : Nat × Nat) : ¬ eb a a := by unfold eb; omega
theorem eb_trans {a b c : Nat × Nat} : eb a b → eb b c → eb a c := by unfold eb; omega
theorem eb_tri (a b : Nat × Nat) : eb a b ∨ a = b ∨ eb b a := by rw [Prod.ext_iff]; unfold eb; omega
theorem mem_insertEdge {p x : Nat × Nat} {l : List (Nat × Nat)} : x ∈ Gk01.insertEdge p l ↔ x = p ∨ x ∈ l := by
  induction l with
  | nil => simp [Gk01.insertEdge]
  | cons q l ih =>
    unfold Gk01.insertEdge
    by_cases h : p = q
    · simp [h]
    · rw [if_neg h]
      by_cases k : Gk01.edgeBefore p q = true
      · simp [k]
      · rw [if_neg k]; simp [ih]; grind
theorem sorted_insertEdge {p : Nat × Nat} {l : List (Nat × Nat)} (h : l.Pairwise eb) : (Gk01.insertEdge p l).Pairwise eb := by
  induction l with
  | nil => simp [Gk01.insertEdge]
  | cons q l ih =>
    unfold Gk01.insertEdge
    rw [List.pairwise_cons] at h
    by_cases hq : p = q
    · rw [if_pos hq, List.pairwise_cons]; exact h
    · rw [if_neg hq]
      by_cases k : Gk01.edgeBefore p q = true
      · rw [if_pos k]
        rw [eb_iff] at k
        simp only [List.pairwise_cons, List.mem_cons, forall_eq_or_imp]
        exact ⟨⟨k, fun x hx => eb_trans k (h.1 x hx)⟩, h⟩
      · rw [if_neg k, List.pairwise_cons]
        rw [eb_iff] at k
        refine ⟨fun x hx => ?_, ih h.2⟩
        rcases mem_insertEdge.1 hx with rfl | hx
        · rcases eb_tri x q with r | r | r
          · exact absurd r k
          · exact absurd r hq
          · exact r
        · exact h.1 x hx
theorem edges_aux (l s : List (Nat × Nat)) (h : s.Pairwise eb) : ((l.foldl (fun (s : List Gk01.Edge) (p : Gk01.Edge) => Gk01.insertEdge p s) s).Pairwise eb) ∧ ∀ x, x ∈ l.foldl (fun (s : List Gk01.Edge) (p : Gk01.Edge) => Gk01.insertEdge p s) s ↔ x ∈ l ∨ x ∈ s := by
  induction l generalizing s with
  | nil => exact ⟨h, fun x => by simp⟩
  | cons p l ih =>
    obtain ⟨h1, h2⟩ := ih (Gk01.insertEdge p s) (sorted_insertEdge h)
    refine ⟨h1, fun x => ?_⟩
    rw [List.foldl_cons, h2, mem_insertEdge]; simp; grind
theorem nodup_of_eb {l : List (Nat × Nat)} (h : l.Pairwise eb) : l.Nodup := List.Pairwise.imp (fun {a b} k => by rintro rfl; exact eb_irrefl _ k) h
theorem mem_edges {l : List Seg} {i j : Nat} : (i, j) ∈ (Gk01.mapOf l).edges ↔ i < nv l ∧ j < nv l ∧ Edge l (pa l i) (pa l j) := by
  unfold Gk01.mapOf
  simp only []
  rw [(edges_aux _ [] List.Pairwise.nil).2]
  simp only [List.mem_flatMap, List.not_mem_nil, or_false, mem_pieces_idx, edge_iff]
  constructor
  · rintro ⟨s, hs, hi, hj, k⟩; exact ⟨hi, hj, s, hs, k⟩
  · rintro ⟨hi, hj, s, hs, k⟩; exact ⟨s, hs, hi, hj, k⟩
theorem edges_nodup (l : List Seg) : (Gk01.mapOf l).edges.Nodup := nodup_of_eb (edges_aux _ [] List.Pairwise.nil).1
theorem mem_darts {l : List Seg} {i j : Nat} : (i, j) ∈ Gk01.darts (Gk01.mapOf l) ↔ i < nv l ∧ j < nv l ∧ (Edge l (pa l i) (pa l j) ∨ Edge l (pa l j) (pa l i)) := by
  unfold Gk01.darts
  rw [(edges_aux _ [] List.Pairwise.nil).2]
  simp only [List.mem_append, List.not_mem_nil, or_false, List.mem_map, Prod.mk.injEq, Prod.exists]
  constructor
  · rintro (h | ⟨a, b, h, rfl, rfl⟩)
    · obtain ⟨h1, h2, h3⟩ := mem_edges.1 h; exact ⟨h1, h2, .inl h3⟩
    · obtain ⟨h1, h2, h3⟩ := mem_edges.1 h; exact ⟨h2, h1, .inr h3⟩
  · rintro ⟨h1, h2, h3 | h3⟩
    · exact .inl (mem_edges.2 ⟨h1, h2, h3⟩)
    · exact .inr ⟨j, i, mem_edges.2 ⟨h2, h1, h3⟩, rfl, rfl⟩
theorem darts_nodup (l : List Seg) : (Gk01.darts (Gk01.mapOf l)).Nodup := nodup_of_eb (edges_aux _ [] List.Pairwise.nil).1
/-! Just at a dart's left. -/
theorem leastOf_le {l : List Rat} {x : Rat} (h : x ∈ l) : Gk02.leastOf l ≤ x := by
  cases l with
  | nil => simp at h
  | cons y r =>
    have aux : ∀ (r : List Rat) (y : Rat), r.foldl min y ≤ y ∧ ∀ x ∈ r, r.foldl min y ≤ x := by
      intro r
      induction r with
      | nil => intro y; exact ⟨by simp, by simp⟩
      | cons z r ih =>
        intro y
        obtain ⟨h1, h2⟩ := ih (min y z)
        refine ⟨by rw [List.foldl_cons]; grind, ?_⟩
        intro x hx
        rw [List.foldl_cons]
        rcases List.mem_cons.1 hx with rfl | hx
        · grind
        · exact h2 x hx
    rcases List.mem_cons.1 h with rfl | h
    · exact (aux r x).1
    · exact (aux r y).2 x h
theorem leastOf_pos {l : List Rat} (h : ∀ x ∈ l, 0 < x) : 0 < Gk02.leastOf l := by
  cases l with
  | nil => show (0 : Rat) < 2; decide
  | cons y r =>
    have aux : ∀ (r : List Rat) (y : Rat), 0 < y → (∀ x ∈ r, 0 < x) → 0 < r.foldl min y := by
      intro r
      induction r with
      | nil => intro y hy _; exact hy
      | cons z r ih =>
        intro y hy hr
        rw [List.foldl_cons]
        refine ih _ ?_ (fun x hx => hr x (by simp [hx]))
        have := hr z (by simp)
        grind
    exact aux r y (h y (by simp)) (fun x hx => h x (by simp [hx]))
theorem hits_pos {p n : Pt} {s : Seg} {x : Rat} (h : x ∈ Gk02.hits p n s) : 0 < x := by
  unfold Gk02.hits at h
  simp only [List.mem_filter, decide_eq_true_eq] at h
  exact h.2
theorem hit_le {p n z : Pt} {c d : Pt} {s : Rat} (hn : n.1 * n.1 + n.2 * n.2 ≠ 0) (hs : 0 < s) (hz : z = (p.1 + s * n.1, p.2 + s * n.2)) (ho : onS z c d) (hp : n.1 * (d.2 - c.2) - n.2 * (d.1 - c.1) = 0 → ¬ onS p c d) : ∃ x ∈ Gk02.hits p n (c, d), x ≤ s := by
  obtain ⟨t, t0, t1, ht⟩ := onS_iff.1 ho
  have z1 : c.1 + t * (d.1 - c.1) = p.1 + s * n.1 := by have := congrArg Prod.fst (ht.symm.trans hz); exact this
  have z2 : c.2 + t * (d.2 - c.2) = p.2 + s * n.2 := by have := congrArg Prod.snd (ht.symm.trans hz); exact this
  by_cases k : n.1 * (d.2 - c.2) - n.2 * (d.1 - c.1) = 0
  · have np := hp k
    have col : (c.1 - p.1) * n.2 - (c.2 - p.2) * n.1 = 0 := by grind
    have dc := Rat.div_mul_cancel (a := (c.1 - p.1) * n.1 + (c.2 - p.2) * n.2) hn
    have dd := Rat.div_mul_cancel (a := (d.1 - p.1) * n.1 + (d.2 - p.2) * n.2) hn
    have mem : ∀ x, x ∈ Gk02.hits p n (c, d) ↔ (x = ((c.1 - p.1) * n.1 + (c.2 - p.2) * n.2) / (n.1 * n.1 + n.2 * n.2) ∨ x = ((d.1 - p.1) * n.1 + (d.2 - p.2) * n.2) / (n.1 * n.1 + n.2 * n.2)) ∧ 0 < x := by
      intro x
      unfold Gk02.hits
      simp only [k, col, if_true, List.mem_filter, List.mem_cons, List.not_mem_nil, or_false, decide_eq_true_eq]
    generalize hC : ((c.1 - p.1) * n.1 + (c.2 - p.2) * n.2) / (n.1 * n.1 + n.2 * n.2) = C at *
    generalize hD : ((d.1 - p.1) * n.1 + (d.2 - p.2) * n.2) / (n.1 * n.1 + n.2 * n.2) = D at *
    have sv : (C + t * (D - C) - s) * (n.1 * n.1 + n.2 * n.2) = 0 := by grind
    have sv : C + t * (D - C) = s := by
      rcases Rat.mul_eq_zero.1 sv with r | r
      · grind
      · exact absurd r hn
    have s1 := sgn t (D - C)
    have s2 := sgn (1 - t) (D - C)
    have e2 : (1 - t) * (D - C) = (D - C) - t * (D - C) := by grind
    have c1 : (c.1 - (p.1 + C * n.1)) * (n.1 * n.1 + n.2 * n.2) = 0 := by grind
    have c2 : (c.2 - (p.2 + C * n.2)) * (n.1 * n.1 + n.2 * n.2) = 0 := by grind
    have d1 : (d.1 - (p.1 + D * n.1)) * (n.1 * n.1 + n.2 * n.2) = 0 := by grind
    have d2 : (d.2 - (p.2 + D * n.2)) * (n.1 * n.1 + n.2 * n.2) = 0 := by grind
    have c1 : c.1 = p.1 + C * n.1 := by rcases Rat.mul_eq_zero.1 c1 with r | r <;> grind
    have c2 : c.2 = p.2 + C * n.2 := by rcases Rat.mul_eq_zero.1 c2 with r | r <;> grind
    have d1 : d.1 = p.1 + D * n.1 := by rcases Rat.mul_eq_zero.1 d1 with r | r <;> grind
    have d2 : d.2 = p.2 + D * n.2 := by rcases Rat.mul_eq_zero.1 d2 with r | r <;> grind
    by_cases both : 0 < C ∧ 0 < D
    · by_cases cd : C ≤ D
      · exact ⟨C, (mem C).2 ⟨.inl rfl, both.1⟩, by grind⟩
      · exact ⟨D, (mem D).2 ⟨.inr rfl, both.2⟩, by grind⟩
    · exfalso
      apply np
      have hCD : (C ≤ 0 ∧ 0 < D) ∨ (D ≤ 0 ∧ 0 < C) := by grind
      have ne : D - C ≠ 0 := by grind
      have dv := Rat.div_mul_cancel (a := -C) ne
      rw [onS_iff]
      refine ⟨-C / (D - C), ?_, ?_, ?_⟩
      · generalize -C / (D - C) = w at *
        have := sgn w (D - C)
        grind
      · generalize -C / (D - C) = w at *
        have := sgn (w - 1) (D - C)
        have : (w - 1) * (D - C) = w * (D - C) - (D - C) := by grind
        grind
      · generalize -C / (D - C) = w at *
        rw [pt_ext]; unfold pt
        rw [c1, c2, d1, d2]
        constructor <;> grind
  · refine ⟨s, ?_, by grind⟩
    have kk : n.1 * (d.2 - c.2) - n.2 * (d.1 - c.1) ≠ 0 := k
    have u : (c.1 - p.1) * n.2 - (c.2 - p.2) * n.1 = t * (n.1 * (d.2 - c.2) - n.2 * (d.1 - c.1)) := by grind
    have du := Rat.mul_div_cancel (a := t) kk
    unfold Gk02.hits
    simp only [k, if_false]
    rw [u, du, if_pos ⟨t0, t1⟩]
    simp only [List.mem_filter, List.mem_singleton, decide_eq_true_eq]
    refine ⟨?_, hs⟩
    rw [z1, z2]
    have := Rat.mul_div_cancel (a := s) hn
    rw [← this]
    congr 1
    grind
theorem beside_leftOf {l : List Seg} (hn : Nondeg l) {i j : Nat} (h : (i, j) ∈ Gk01.darts (Gk01.mapOf l)) : Beside l (pa l i) (pa l j) (Gk02.leftOf (Gk01.mapOf l) (i, j)) := by
  obtain ⟨hi, hj, hd⟩ := mem_darts.1 h
  have nij : pa l i ≠ pa l j := by
    intro k
    rcases hd with hd | hd
    · have := hd.1; rw [k] at this; exact lt_irrefl _ this
    · have := hd.1; rw [k] at this; exact lt_irrefl _ this
  generalize hL : Gk02.leastOf ((Gk01.mapOf l).edges.flatMap fun (e : Gk01.Edge) => Gk02.hits (mid (pa l i) (pa l j)) ((pa l i).2 - (pa l j).2, (pa l j).1 - (pa l i).1) (Gk02.segOf (Gk01.mapOf l) e)) = L
  have Lpos : 0 < L := by
    rw [← hL]
    refine leastOf_pos fun x hx => ?_
    obtain ⟨e, _, k⟩ := List.mem_flatMap.1 hx
    exact hits_pos k
  have q : Gk02.leftOf (Gk01.mapOf l) (i, j) = ((mid (pa l i) (pa l j)).1 + L / 2 * ((pa l i).2 - (pa l j).2), (mid (pa l i) (pa l j)).2 + L / 2 * ((pa l j).1 - (pa l i).1)) := by
    rw [← hL]; rfl
  rw [q]
  generalize pa l i = a at *
  generalize pa l j = b at *
  refine ⟨L / 2, by grind, rfl, ?_⟩
  intro u u0 u1 s hs ho
  obtain ⟨c, d, hcd, oc, od, oz⟩ := cover hn hs ho
  obtain ⟨i', hi', rfl⟩ := vert_pa hcd.2.1
  obtain ⟨j', hj', rfl⟩ := vert_pa hcd.2.2.1
  have sq := sq_pos nij
  have mem : ∀ x, x ∈ Gk02.hits (mid a b) (a.2 - b.2, b.1 - a.1) (pa l i', pa l j') → L ≤ x := by
    intro x hx
    rw [← hL]
    refine leastOf_le (List.mem_flatMap.2 ⟨(i', j'), mem_edges.2 ⟨hi', hj', hcd⟩, hx⟩)
  obtain ⟨x, hx, hle⟩ := hit_le (p := mid a b) (n := (a.2 - b.2, b.1 - a.1)) (s := u * (L / 2)) (by simp only []; grind) (Rat.mul_pos u0 (by grind)) (by rw [pt_ext]; unfold pt; simp only []; grind) oz (by
    simp only []
    intro k hp
    have hm : Within a b (mid a b) ∨ Within b a (mid a b) := by
      rcases hd with hd | hd
      · exact .inl (within_mid hd.1)
      · right; rw [mid_comm]; exact within_mid hd.1
    have hsub : ∃ w1 w2, a = pt (pa l i') (pa l j') w1 ∧ b = pt (pa l i') (pa l j') w2 := by
      have lc := hcd.1
      have : onS a s.1 s.2 ∧ onS b s.1 s.2 := by
        obtain ⟨c', d', cd', hc', _⟩ := side_or hn hs
        have om : onS (mid a b) s.1 s.2 := by
          rw [hc'] at oc od ⊢
          have z := (onS_lt lc).1 hp
          exact onS_between cd' oc od lc z.1 z.2.1 z.2.2
        rcases hd with hd | hd
        · rcases hm with hm | hm
          · exact edge_in hn hd hs hm om
          · exact absurd (lt_trans hm.2.1 hm.2.2) (lt_asymm hd.1)
        · rcases hm with hm | hm
          · exact absurd (lt_trans hm.2.1 hm.2.2) (lt_asymm hd.1)
          · exact (edge_in hn hd hs hm om).symm
      have cr : ∀ x, onS x s.1 s.2 → cross (pa l i') (pa l j') x = 0 := by
        intro x hx
        obtain ⟨y1, _, _, e1⟩ := onS_iff.1 oc
        obtain ⟨y2, _, _, e2⟩ := onS_iff.1 od
        obtain ⟨y3, _, _, e3⟩ := onS_iff.1 hx
        rw [e1, e2, e3]; unfold cross pt; grind
      obtain ⟨w1, e1⟩ := on_line lc (cr a this.1)
      obtain ⟨w2, e2⟩ := on_line lc (cr b this.2)
      exact ⟨w1, w2, e1, e2⟩
    obtain ⟨w1, w2, e1, e2⟩ := hsub
    generalize pa l i' = c at *
    generalize pa l j' = d at *
    have k1 : b.1 - a.1 = (w2 - w1) * (d.1 - c.1) := by rw [e1, e2]; unfold pt; grind
    have k2 : b.2 - a.2 = (w2 - w1) * (d.2 - c.2) := by rw [e1, e2]; unfold pt; grind
    have : (b.1 - a.1) * (b.1 - a.1) + (b.2 - a.2) * (b.2 - a.2) = 0 := by
      have : (b.1 - a.1) * (b.1 - a.1) + (b.2 - a.2) * (b.2 - a.2) = (w2 - w1) * ((b.1 - a.1) * (d.1 - c.1) + (b.2 - a.2) * (d.2 - c.2)) := by grind
      rw [this]
      have : (b.1 - a.1) * (d.1 - c.1) + (b.2 - a.2) * (d.2 - c.2) = 0 := by grind
      rw [this]; grind
    grind)
  have h1 := mem x hx
  have h2 := Rat.mul_nonneg (show 0 ≤ 1 - u by grind) (show 0 ≤ L / 2 by grind)
  have e2 : (1 - u) * (L / 2) = L / 2 - u * (L / 2) := by grind
  grind
end My
end
section
open GkBase
set_option Elab.async false
namespace My
/-! Round a vertex. -/
structure Ctx (e : Rat) (l : List Seg) : Prop where
  nd : Nondeg l
  gen : ∀ x y, Vert l x → Vert l y → (lt x y ↔ key e x < key e y)
  midg : ∀ a b, Edge l a b → ∀ x, Vert l x → key e x ≠ key e (mid a b)
theorem vert_fst {l : List Seg} {s : Seg} (h : s ∈ l) : Vert l s.1 := .inl ⟨s, h, .inl rfl⟩
theorem vert_snd {l : List Seg} {s : Seg} (h : s ∈ l) : Vert l s.2 := .inl ⟨s, h, .inr rfl⟩
theorem Ctx.inj {e : Rat} {l : List Seg} (c : Ctx e l) {x y : Pt} (hx : Vert l x) (hy : Vert l y) (h : key e x = key e y) : x = y := by
  have h1 := c.gen x y hx hy
  have h2 := c.gen y x hy hx
  rcases lt_tri x y with k | k | k
  · have := h1.1 k; grind
  · exact k
  · have := h2.1 k; grind
/-- slope as seen from v -/
def sl (e : Rat) (v w : Pt) : Rat := (w.2 - v.2) / (key e w - key e v)
theorem sl_mul {e : Rat} {v w : Pt} (h : key e w ≠ key e v) : sl e v w * (key e w - key e v) = w.2 - v.2 := by
  have : key e w - key e v ≠ 0 := by grind
  exact Rat.div_mul_cancel this
theorem cross_thru {e : Rat} {a b v p : Pt} (h : cross a b v = 0) (hab : key e b ≠ key e a) (hp : key e p ≠ key e v) : cross a b p = (key e b - key e a) * (key e p - key e v) * (sl e v p - sl e a b) := by
  have h1 := sl_mul hab
  have h2 := sl_mul hp
  rw [cross_key e] at h ⊢
  generalize sl e v p = x at *
  generalize sl e a b = y at *
  grind
theorem sl_pt {e : Rat} {v w : Pt} {t : Rat} (h : key e w ≠ key e v) (ht : t ≠ 0) : sl e v (pt v w t) = sl e v w := by
  have h1 := sl_mul h
  have k : key e (pt v w t) ≠ key e v := by
    rw [key_pt]; intro k
    have : t * (key e w - key e v) = 0 := by grind
    rcases Rat.mul_eq_zero.1 this with r | r <;> grind
  have h2 := sl_mul k
  have k2 : (pt v w t).2 - v.2 = t * (w.2 - v.2) := by unfold pt; grind
  rw [key_pt, k2] at h2
  generalize sl e v (pt v w t) = x at *
  generalize sl e v w = y at *
  have : t * (key e w - key e v) * (x - y) = 0 := by grind
  rcases Rat.mul_eq_zero.1 this with r | r
  · rcases Rat.mul_eq_zero.1 r with r | r <;> grind
  · grind
/-- sides through v to the left -/
def tl (e : Rat) (a b p : Pt) : Int := if key e a < key e p ∧ key e p ≤ key e b ∧ cross a b p = 0 then -1 else if key e b < key e p ∧ key e p ≤ key e a ∧ cross a b p = 0 then 1 else 0
theorem edge_novert {l : List Seg} (hn : Nondeg l) {a b x : Pt} (he : Edge l a b) (hx : Vert l x) (hw : Within a b x) : False := by
  obtain ⟨h, _, _, s, hs, k1, k2, k3⟩ := he
  obtain ⟨c, d, cd, hcd, _⟩ := side_or hn hs
  refine k3 x hx ?_ hw.2.1 hw.2.2
  rw [hcd] at k1 k2 ⊢
  exact onS_between cd k1 k2 h hw.1 (lt_asymm hw.2.1) (lt_asymm hw.2.2)
theorem mid_key {e : Rat} {a b : Pt} (h : key e a < key e b) : key e a < key e (mid a b) ∧ key e (mid a b) < key e b := by
  rw [mid_pt, key_pt]; grind
theorem end_free {l : List Seg} (hn : Nondeg l) {a b : Pt} (he : Edge l a b) {s : Seg} (hs : s ∈ l) : Free s.1 s.2 a (mid a b) ∧ Free s.1 s.2 b (mid a b) := by
  constructor
  · by_cases c : cross s.1 s.2 a = 0
    · exact .inl c
    · refine free_of fun u u0 u1 ho => c ?_
      have e1 : pt a (mid a b) u = pt a b (u / 2) := by rw [pt_ext]; unfold pt mid; grind
      rw [e1] at ho
      exact (edge_in hn he hs (within_pt he.1 (by grind) (by grind)) ho).1.1
  · by_cases c : cross s.1 s.2 b = 0
    · exact .inl c
    · refine free_of fun u u0 u1 ho => c ?_
      have e1 : pt b (mid a b) u = pt a b (1 - u / 2) := by rw [pt_ext]; unfold pt mid; grind
      rw [e1] at ho
      exact (edge_in hn he hs (within_pt he.1 (by grind) (by grind)) ho).2.1
theorem sgn3 {x y z : Rat} (hx : 0 < x) (hy : 0 < y) : (x * y * z < 0 ↔ z < 0) ∧ (0 < x * y * z ↔ 0 < z) ∧ (x * y * z = 0 ↔ z = 0) := by
  have h1 := Rat.mul_pos hx hy
  have h2 := sgn (x * y) z
  grind
theorem sgn3' {x y z : Rat} (hx : x < 0) (hy : 0 < y) : (x * y * z < 0 ↔ 0 < z) ∧ (0 < x * y * z ↔ z < 0) ∧ (x * y * z = 0 ↔ z = 0) := by
  have h1 := mul_np hx hy
  have h2 := sgn (x * y) z
  grind
/-- an edge to the right of v, seen from v: above it -/
theorem right_at {e : Rat} {l r : List Seg} (c : Ctx e l) (hr : ∀ s ∈ r, s ∈ l) (cl : Closed r) {v w : Pt} (he : Edge l v w) : tot r (fun a b => vk e a b (mid v w)) = tot r (fun a b => vk e a b v + if sl e v w < sl e a b then th e a b v else 0) := by
  have kvw := (c.gen v w he.2.1 he.2.2.1).1 he.1
  have km := mid_key kvw
  have h : ∀ s ∈ r, vk e s.1 s.2 (mid v w) = (vk e s.1 s.2 v + if sl e v w < sl e s.1 s.2 then th e s.1 s.2 v else 0) + (fR e v (mid v w) s.2 - fR e v (mid v w) s.1) := by
    intro s hs
    have h1 := stepR km.1 (end_free c.nd he (hr s hs)).1
    have h2 : uk e s.1 s.2 v (mid v w) = vk e s.1 s.2 v + if sl e v w < sl e s.1 s.2 then th e s.1 s.2 v else 0 := by
      by_cases k : cross s.1 s.2 v = 0
      · have slm : sl e v (mid v w) = sl e v w := by rw [mid_pt]; exact sl_pt (by grind) (by grind)
        unfold uk vk th
        rcases (show key e s.1 < key e s.2 ∨ key e s.2 < key e s.1 ∨ key e s.1 = key e s.2 by grind) with q | q | q
        · have f := cross_thru (e := e) k (by grind) (p := mid v w) (by grind)
          have g := sgn3 (x := key e s.2 - key e s.1) (y := key e (mid v w) - key e v) (z := sl e v (mid v w) - sl e s.1 s.2) (by grind) (by grind)
          rw [← f] at g
          rw [slm] at g
          grind
        · have f := cross_thru (e := e) k (by grind) (p := mid v w) (by grind)
          have g := sgn3' (x := key e s.2 - key e s.1) (y := key e (mid v w) - key e v) (z := sl e v (mid v w) - sl e s.1 s.2) (by grind) (by grind)
          rw [← f] at g
          rw [slm] at g
          grind
        · grind
      · unfold uk vk th; grind
    omega
  have h' : tot r (fun a b => vk e a b (mid v w)) = tot r (fun a b => (vk e a b v + if sl e v w < sl e a b then th e a b v else 0) + (fR e v (mid v w) b - fR e v (mid v w) a)) := tot_congr h
  rw [h', tot_add, cl (fun x => fR e v (mid v w) x)]; omega
/-- an edge to the left of v, seen from v: above it -/
theorem left_at {e : Rat} {l r : List Seg} (c : Ctx e l) (hr : ∀ s ∈ r, s ∈ l) (cl : Closed r) {v w : Pt} (he : Edge l w v) : tot r (fun a b => vk e a b (mid w v)) = tot r (fun a b => vk e a b v + if sl e a b < sl e v w then tl e a b v else 0) := by
  have kvw := (c.gen w v he.2.1 he.2.2.1).1 he.1
  have km := mid_key kvw
  have h : ∀ s ∈ r, vk e s.1 s.2 (mid w v) = (vk e s.1 s.2 v + if sl e s.1 s.2 < sl e v w then tl e s.1 s.2 v else 0) + (- fL e v (mid w v) s.2 - - fL e v (mid w v) s.1) := by
    intro s hs
    have h1 := stepL km.2 (end_free c.nd he (hr s hs)).2
    have h2 : wk e s.1 s.2 v (mid w v) = vk e s.1 s.2 v + if sl e s.1 s.2 < sl e v w then tl e s.1 s.2 v else 0 := by
      by_cases k : cross s.1 s.2 v = 0
      · have slm : sl e v (mid w v) = sl e v w := by rw [mid_comm, mid_pt]; exact sl_pt (by grind) (by grind)
        unfold wk vk tl
        rcases (show key e s.1 < key e s.2 ∨ key e s.2 < key e s.1 ∨ key e s.1 = key e s.2 by grind) with q | q | q
        · have f := cross_thru (e := e) k (by grind) (p := mid w v) (by grind)
          have g := sgn3 (x := key e s.2 - key e s.1) (y := key e v - key e (mid w v)) (z := sl e s.1 s.2 - sl e v (mid w v)) (by grind) (by grind)
          have f' : cross s.1 s.2 (mid w v) = (key e s.2 - key e s.1) * (key e v - key e (mid w v)) * (sl e s.1 s.2 - sl e v (mid w v)) := by rw [f]; grind
          rw [← f'] at g
          rw [slm] at g
          grind
        · have f := cross_thru (e := e) k (by grind) (p := mid w v) (by grind)
          have g := sgn3' (x := key e s.2 - key e s.1) (y := key e v - key e (mid w v)) (z := sl e s.1 s.2 - sl e v (mid w v)) (by grind) (by grind)
          have f' : cross s.1 s.2 (mid w v) = (key e s.2 - key e s.1) * (key e v - key e (mid w v)) * (sl e s.1 s.2 - sl e v (mid w v)) := by rw [f]; grind
          rw [← f'] at g
          rw [slm] at g
          grind
        · grind
      · have n1 : key e s.1 ≠ key e v := fun q => k (by rw [← c.inj (vert_fst (hr s hs)) he.2.2.1 q]; unfold cross; grind)
        have n2 : key e s.2 ≠ key e v := fun q => k (by rw [← c.inj (vert_snd (hr s hs)) he.2.2.1 q]; unfold cross; grind)
        unfold wk vk tl; grind
    omega
  have h' : tot r (fun a b => vk e a b (mid w v)) = tot r (fun a b => (vk e a b v + if sl e a b < sl e v w then tl e a b v else 0) + (- fL e v (mid w v) b - - fL e v (mid w v) a)) := tot_congr h
  rw [h', tot_add, cl (fun x => - fL e v (mid w v) x)]; omega
/-- sides along an edge, seen from its ends -/
theorem th_right {e : Rat} {l : List Seg} (c : Ctx e l) {v w : Pt} (he : Edge l v w) {s : Seg} (hs : s ∈ l) : th e s.1 s.2 (mid v w) = if sl e v w = sl e s.1 s.2 then th e s.1 s.2 v else 0 := by
  have kvw := (c.gen v w he.2.1 he.2.2.1).1 he.1
  have km := mid_key kvw
  have slm : sl e v (mid v w) = sl e v w := by rw [mid_pt]; exact sl_pt (by grind) (by grind)
  have out : ∀ x, Vert l x → onS x s.1 s.2 → cross v w x = 0 → ¬ (key e v < key e x ∧ key e x < key e (mid v w)) := by
    rintro x hx _ hc ⟨h1, h2⟩
    refine edge_novert c.nd he hx ⟨hc, (c.gen v x he.2.1 hx).2 h1, (c.gen x w hx he.2.2.1).2 (by grind)⟩
  have lineV : ∀ x, cross s.1 s.2 v = 0 → cross s.1 s.2 (mid v w) = 0 → key e s.1 ≠ key e s.2 → onS x s.1 s.2 → cross v w x = 0 := by
    intro x h1 h2 hne hx
    have h3 : cross s.1 s.2 w = 0 := by
      have := cross_pt s.1 s.2 v w (1 / 2)
      rw [← mid_pt, h2, h1] at this
      grind
    rcases lt_tri s.1 s.2 with q | q | q
    · obtain ⟨x1, e1⟩ := on_line q h1
      obtain ⟨x2, e2⟩ := on_line q h3
      obtain ⟨x3, e3⟩ := on_line q hx.1
      rw [e1, e2, e3]; unfold cross pt; grind
    · rw [q] at hne; exact absurd rfl hne
    · obtain ⟨x1, e1⟩ := on_line q (p := v) (by rw [cross_rev]; grind)
      obtain ⟨x2, e2⟩ := on_line q (p := w) (by rw [cross_rev]; grind)
      obtain ⟨x3, e3⟩ := on_line q (p := x) (by rw [cross_rev]; have := hx.1; grind)
      rw [e1, e2, e3]; unfold cross pt; grind
  have m1 := c.midg v w he s.1 (vert_fst hs)
  have m2 := c.midg v w he s.2 (vert_snd hs)
  have o1 := out s.1 (vert_fst hs) (onS_left _ _)
  have o2 := out s.2 (vert_snd hs) (onS_right _ _)
  have l1 := lineV s.1
  have l2 := lineV s.2
  have onm : cross s.1 s.2 (mid v w) = 0 → ((key e s.1 ≤ key e (mid v w) ∧ key e (mid v w) < key e s.2) ∨ (key e s.2 ≤ key e (mid v w) ∧ key e (mid v w) < key e s.1)) → cross s.1 s.2 v = 0 := by
    intro h1 h2
    have ho : onS (mid v w) s.1 s.2 := by
      rcases h2 with h2 | h2
      · exact on_of_key h1 h2.1 h2.2
      · exact on_of_key' h1 h2.1 h2.2
    exact (edge_in c.nd he hs (within_mid he.1) ho).1.1
  by_cases hv : cross s.1 s.2 v = 0
  · by_cases hk : key e s.1 = key e s.2
    · unfold th; grind
    · have f := cross_thru (e := e) hv (Ne.symm hk) (p := mid v w) (by grind)
      have : cross s.1 s.2 (mid v w) = 0 ↔ sl e v w = sl e s.1 s.2 := by
        rw [f, slm]
        constructor
        · intro z
          rcases Rat.mul_eq_zero.1 z with z | z
          · rcases Rat.mul_eq_zero.1 z with z | z <;> grind
          · grind
        · intro z; rw [z]; grind
      have l1 := fun h => l1 hv h hk (onS_left _ _)
      have l2 := fun h => l2 hv h hk (onS_right _ _)
      unfold th
      grind
  · unfold th; grind
theorem th_left {e : Rat} {l : List Seg} (c : Ctx e l) {v w : Pt} (he : Edge l w v) {s : Seg} (hs : s ∈ l) : th e s.1 s.2 (mid w v) = if sl e v w = sl e s.1 s.2 then tl e s.1 s.2 v else 0 := by
  have kvw := (c.gen w v he.2.1 he.2.2.1).1 he.1
  have km := mid_key kvw
  have slm : sl e v (mid w v) = sl e v w := by rw [mid_comm, mid_pt]; exact sl_pt (by grind) (by grind)
  have out : ∀ x, Vert l x → onS x s.1 s.2 → cross w v x = 0 → ¬ (key e (mid w v) < key e x ∧ key e x < key e v) := by
    rintro x hx _ hc ⟨h1, h2⟩
    refine edge_novert c.nd he hx ⟨hc, (c.gen w x he.2.1 hx).2 (by grind), (c.gen x v hx he.2.2.1).2 h2⟩
  have lineV : ∀ x, cross s.1 s.2 v = 0 → cross s.1 s.2 (mid w v) = 0 → key e s.1 ≠ key e s.2 → onS x s.1 s.2 → cross w v x = 0 := by
    intro x h1 h2 hne hx
    have h3 : cross s.1 s.2 w = 0 := by
      have := cross_pt s.1 s.2 w v (1 / 2)
      rw [← mid_pt, h2, h1] at this
      grind
    rcases lt_tri s.1 s.2 with q | q | q
    · obtain ⟨x1, e1⟩ := on_line q h1
      obtain ⟨x2, e2⟩ := on_line q h3
      obtain ⟨x3, e3⟩ := on_line q hx.1
      rw [e1, e2, e3]; unfold cross pt; grind
    · rw [q] at hne; exact absurd rfl hne
    · obtain ⟨x1, e1⟩ := on_line q (p := v) (by rw [cross_rev]; grind)
      obtain ⟨x2, e2⟩ := on_line q (p := w) (by rw [cross_rev]; grind)
      obtain ⟨x3, e3⟩ := on_line q (p := x) (by rw [cross_rev]; have := hx.1; grind)
      rw [e1, e2, e3]; unfold cross pt; grind
  have m1 := c.midg w v he s.1 (vert_fst hs)
  have m2 := c.midg w v he s.2 (vert_snd hs)
  have o1 := out s.1 (vert_fst hs) (onS_left _ _)
  have o2 := out s.2 (vert_snd hs) (onS_right _ _)
  have l1 := lineV s.1
  have l2 := lineV s.2
  have on2 : cross s.1 s.2 (mid w v) = 0 → ((key e s.1 ≤ key e (mid w v) ∧ key e (mid w v) < key e s.2) ∨ (key e s.2 ≤ key e (mid w v) ∧ key e (mid w v) < key e s.1)) → cross s.1 s.2 v = 0 ∧ (key e s.1 ≤ key e v ∨ key e s.2 ≤ key e v) ∧ (key e v ≤ key e s.1 ∨ key e v ≤ key e s.2) := by
    intro h1 h2
    have ho : onS (mid w v) s.1 s.2 := by
      rcases h2 with h2 | h2
      · exact on_of_key h1 h2.1 h2.2
      · exact on_of_key' h1 h2.1 h2.2
    have := onS_of_key (e := e) (edge_in c.nd he hs (within_mid he.1) ho).2
    exact ⟨this.1, this.2.1, this.2.2.1⟩
  by_cases hv : cross s.1 s.2 v = 0
  · by_cases hk : key e s.1 = key e s.2
    · unfold th tl; grind
    · have f := cross_thru (e := e) hv (Ne.symm hk) (p := mid w v) (by grind)
      have : cross s.1 s.2 (mid w v) = 0 ↔ sl e v w = sl e s.1 s.2 := by
        rw [f, slm]
        constructor
        · intro z
          rcases Rat.mul_eq_zero.1 z with z | z
          · rcases Rat.mul_eq_zero.1 z with z | z <;> grind
          · grind
        · intro z; rw [z]; grind
      have l1 := fun h => l1 hv h hk (onS_left _ _)
      have l2 := fun h => l2 hv h hk (onS_right _ _)
      unfold th tl
      grind
  · unfold th tl; grind
end My
end
section
open GkBase
set_option Elab.async false
namespace My
/-! The sectors round a vertex. -/
section
variable {α : Type} {R : α → α → Prop}
theorem next_ex (ir : ∀ x, ¬ R x x) (tr : ∀ {x y z}, R x y → R y z → R x z) (l : List α) (h : l.Pairwise R) {a d : α} (ha : a ∈ l) (hd : d ∈ l) (hr : R a d) : (∃ b, (a, b) ∈ l.zip l.tail) ∧ ∃ c, (c, d) ∈ l.zip l.tail := by
  induction l generalizing a d with
  | nil => simp at ha
  | cons x l ih =>
    rw [List.pairwise_cons] at h
    cases l with
    | nil => simp at ha hd; subst ha; subst hd; exact absurd hr (ir _)
    | cons y l =>
      have h2 := h.2
      rw [List.pairwise_cons] at h2
      rcases List.mem_cons.1 ha with rfl | ha'
      · refine ⟨⟨y, by simp⟩, ?_⟩
        rcases List.mem_cons.1 hd with rfl | hd'
        · exact absurd hr (ir _)
        · rcases List.mem_cons.1 hd' with rfl | hd''
          · exact ⟨a, by simp⟩
          · obtain ⟨c, hc⟩ := (ih h.2 (a := y) (by simp) hd' (h2.1 d hd'')).2
            exact ⟨c, by simp at hc ⊢; exact .inr hc⟩
      · rcases List.mem_cons.1 hd with rfl | hd'
        · exact absurd (tr hr (h.1 a ha')) (ir _)
        · obtain ⟨⟨b, hb⟩, c, hc⟩ := ih h.2 ha' hd' hr
          exact ⟨⟨b, by simp at hb ⊢; exact .inr hb⟩, c, by simp at hc ⊢; exact .inr hc⟩
end
theorem ray_right {l : List Seg} {s : Seg} (hs : s ∈ l) {v : Pt} (hv : Vert l v) (ho : onS v s.1 s.2) (h : lt v s.1 ∨ lt v s.2) : ∃ x, Edge l v x ∧ onS x s.1 s.2 := by
  have : ∃ d, d ∈ vertsOn l s ∧ lt v d := by
    rcases h with h | h
    · exact ⟨s.1, mem_vertsOn.2 ⟨vert_fst hs, onS_left _ _⟩, h⟩
    · exact ⟨s.2, mem_vertsOn.2 ⟨vert_snd hs, onS_right _ _⟩, h⟩
  obtain ⟨d, hd, hl⟩ := this
  obtain ⟨b, hb⟩ := (next_ex lt_irrefl lt_trans _ (vertsOn_sorted l s) (mem_vertsOn.2 ⟨hv, ho⟩) hd hl).1
  exact ⟨b, edge_iff.2 ⟨s, hs, hb⟩, (mem_pieces.1 hb).2.2.2.2.1⟩
theorem ray_left {l : List Seg} {s : Seg} (hs : s ∈ l) {v : Pt} (hv : Vert l v) (ho : onS v s.1 s.2) (h : lt s.1 v ∨ lt s.2 v) : ∃ x, Edge l x v ∧ onS x s.1 s.2 := by
  have : ∃ d, d ∈ vertsOn l s ∧ lt d v := by
    rcases h with h | h
    · exact ⟨s.1, mem_vertsOn.2 ⟨vert_fst hs, onS_left _ _⟩, h⟩
    · exact ⟨s.2, mem_vertsOn.2 ⟨vert_snd hs, onS_right _ _⟩, h⟩
  obtain ⟨d, hd, hl⟩ := this
  obtain ⟨b, hb⟩ := (next_ex lt_irrefl lt_trans _ (vertsOn_sorted l s) hd (mem_vertsOn.2 ⟨hv, ho⟩) hl).2
  exact ⟨b, edge_iff.2 ⟨s, hs, hb⟩, (mem_pieces.1 hb).2.2.2.1⟩
theorem sl_side {e : Rat} {a b v x : Pt} (hv : onS v a b) (hx : onS x a b) (hk : key e a ≠ key e b) (hne : key e x ≠ key e v) : sl e v x = sl e a b := by
  have f := cross_thru (e := e) hv.1 (Ne.symm hk) hne
  rw [hx.1] at f
  have f := f.symm
  rcases Rat.mul_eq_zero.1 f with z | z
  · rcases Rat.mul_eq_zero.1 z with z | z <;> grind
  · grind
theorem ray_th {e : Rat} {l : List Seg} (c : Ctx e l) {s : Seg} (hs : s ∈ l) {v : Pt} (hv : Vert l v) (h : th e s.1 s.2 v ≠ 0) : ∃ x, Edge l v x ∧ sl e v x = sl e s.1 s.2 := by
  have h' : cross s.1 s.2 v = 0 ∧ ((key e s.1 ≤ key e v ∧ key e v < key e s.2) ∨ (key e s.2 ≤ key e v ∧ key e v < key e s.1)) := by
    unfold th at h; grind
  obtain ⟨h0, h1⟩ := h'
  have ho : onS v s.1 s.2 := by
    rcases h1 with h1 | h1
    · exact on_of_key h0 h1.1 h1.2
    · exact on_of_key' h0 h1.1 h1.2
  have hl : lt v s.1 ∨ lt v s.2 := by
    rcases h1 with h1 | h1
    · exact .inr ((c.gen _ _ hv (vert_snd hs)).2 h1.2)
    · exact .inl ((c.gen _ _ hv (vert_fst hs)).2 h1.2)
  obtain ⟨x, hx, hxs⟩ := ray_right hs hv ho hl
  refine ⟨x, hx, sl_side ho hxs (by grind) ?_⟩
  have := (c.gen _ _ hv hx.2.2.1).1 hx.1
  grind
theorem ray_tl {e : Rat} {l : List Seg} (c : Ctx e l) {s : Seg} (hs : s ∈ l) {v : Pt} (hv : Vert l v) (h : tl e s.1 s.2 v ≠ 0) : ∃ x, Edge l x v ∧ sl e v x = sl e s.1 s.2 := by
  have h' : cross s.1 s.2 v = 0 ∧ ((key e s.1 < key e v ∧ key e v ≤ key e s.2) ∨ (key e s.2 < key e v ∧ key e v ≤ key e s.1)) := by
    unfold tl at h; grind
  obtain ⟨h0, h1⟩ := h'
  have kn : key e s.1 ≠ key e s.2 := by grind
  have ho : onS v s.1 s.2 := by
    rcases h1 with h1 | h1
    · by_cases q : key e v = key e s.2
      · rw [c.inj hv (vert_snd hs) q]; exact onS_right _ _
      · exact on_of_key (e := e) h0 (by grind) (by grind)
    · by_cases q : key e v = key e s.1
      · rw [c.inj hv (vert_fst hs) q]; exact onS_left _ _
      · exact on_of_key' (e := e) h0 (by grind) (by grind)
  have hl : lt s.1 v ∨ lt s.2 v := by
    rcases h1 with h1 | h1
    · exact .inl ((c.gen _ _ (vert_fst hs) hv).2 h1.1)
    · exact .inr ((c.gen _ _ (vert_snd hs) hv).2 h1.1)
  obtain ⟨x, hx, hxs⟩ := ray_left hs hv ho hl
  refine ⟨x, hx, sl_side ho hxs kn ?_⟩
  have := (c.gen _ _ hx.2.1 hv).1 hx.1
  grind
theorem th_tl {e : Rat} {l r : List Seg} (c : Ctx e l) (hr : ∀ s ∈ r, s ∈ l) (cl : Closed r) {v : Pt} (hv : Vert l v) : tot r (fun a b => th e a b v) = tot r (fun a b => tl e a b v) := by
  have h : ∀ s ∈ r, th e s.1 s.2 v = tl e s.1 s.2 v + ((if s.2 = v then 1 else 0) - (if s.1 = v then 1 else 0)) := by
    intro s hs
    have i1 : key e s.1 = key e v ↔ s.1 = v := ⟨c.inj (vert_fst (hr s hs)) hv, fun q => by rw [q]⟩
    have i2 : key e s.2 = key e v ↔ s.2 = v := ⟨c.inj (vert_snd (hr s hs)) hv, fun q => by rw [q]⟩
    have nd := c.nd s (hr s hs)
    have c1 : s.1 = v → cross s.1 s.2 v = 0 := fun q => by rw [← q]; unfold cross; grind
    have c2 : s.2 = v → cross s.1 s.2 v = 0 := fun q => by rw [← q]; unfold cross; grind
    unfold th tl
    by_cases e1 : s.1 = v
    · by_cases e2 : s.2 = v
      · exact absurd (e1.trans e2.symm) nd
      · simp only [e1, e2, if_true, if_false]; rw [e1] at i1 c1; grind
    · by_cases e2 : s.2 = v
      · simp only [e1, e2, if_true, if_false]; rw [e2] at i2 c2; grind
      · simp only [e1, e2, if_false]; grind
  have h' : tot r (fun a b => th e a b v) = tot r (fun a b => tl e a b v + ((if b = v then 1 else 0) - (if a = v then 1 else 0))) := tot_congr h
  rw [h', tot_add, cl (fun x => if x = v then 1 else 0)]; omega
/-- what is at the left of the way from a to b -/
def val (e : Rat) (r : List Seg) (a b : Pt) : Int := if lt a b then tot r (fun x y => vk e x y (mid a b)) else tot r (fun x y => vk e x y (mid a b) + th e x y (mid a b))
def Dart (l : List Seg) (a b : Pt) : Prop := Edge l a b ∨ Edge l b a
/-- turning left round v, from below on -/
def ah (e : Rat) (v x y : Pt) : Prop := (lt v x ∧ lt y v) ∨ ((lt v x ↔ lt v y) ∧ sl e v x < sl e v y)
def btw (A : Pt → Pt → Prop) (x y z : Pt) : Prop := (A x y ∧ A y z) ∨ (A y z ∧ A z x) ∨ (A z x ∧ A x y)
theorem tot_same {r : List Seg} {g h : Pt → Pt → Int} (k : ∀ s ∈ r, g s.1 s.2 = h s.1 s.2) (f : Pt → Pt → Int) : tot r (fun a b => f a b + g a b) = tot r (fun a b => f a b + h a b) := tot_congr fun s hs => by rw [k s hs]
theorem sector {e : Rat} {l r : List Seg} (c : Ctx e l) (hr : ∀ s ∈ r, s ∈ l) (cl : Closed r) {v w1 w2 : Pt} (hv : Vert l v) (d1 : Dart l v w1) (d2 : Dart l v w2) (h : ∀ x, Dart l v x → ¬ btw (ah e v) w1 x w2) (h0 : w1 = w2 → ∀ x, Dart l v x → x = w1) (h3 : w1 ≠ w2 → (lt v w1 ↔ lt v w2) → sl e v w1 ≠ sl e v w2) : val e r v w1 = val e r w2 v := by
  have TT := th_tl c hr cl hv
  have above_r : ∀ {w}, Edge l v w → val e r v w = tot r (fun a b => vk e a b v + if sl e v w < sl e a b then th e a b v else 0) := by
    intro w he; rw [val, if_pos he.1, right_at c hr cl he]
  have below_r : ∀ {w}, Edge l v w → val e r w v = tot r (fun a b => vk e a b v + if sl e v w ≤ sl e a b then th e a b v else 0) := by
    intro w he
    rw [val, if_neg (lt_asymm he.1), mid_comm, tot_add, right_at c hr cl he, ← tot_add]
    refine tot_congr fun s hs => ?_
    rw [th_right c he (hr s hs)]; grind
  have above_l : ∀ {w}, Edge l w v → val e r w v = tot r (fun a b => vk e a b v + if sl e a b < sl e v w then tl e a b v else 0) := by
    intro w he; rw [val, if_pos he.1, left_at c hr cl he]
  have below_l : ∀ {w}, Edge l w v → val e r v w = tot r (fun a b => vk e a b v + if sl e a b ≤ sl e v w then tl e a b v else 0) := by
    intro w he
    rw [val, if_neg (lt_asymm he.1), mid_comm, tot_add, left_at c hr cl he, ← tot_add]
    refine tot_congr fun s hs => ?_
    rw [th_left c he (hr s hs)]; grind
  have rth : ∀ s ∈ r, th e s.1 s.2 v ≠ 0 → ∃ x, Edge l v x ∧ sl e v x = sl e s.1 s.2 := fun s hs => ray_th c (hr s hs) hv
  have rtl : ∀ s ∈ r, tl e s.1 s.2 v ≠ 0 → ∃ x, Edge l x v ∧ sl e v x = sl e s.1 s.2 := fun s hs => ray_tl c (hr s hs) hv
  have R : ∀ {x}, Edge l v x → lt v x ∧ ¬ lt x v := fun h => ⟨h.1, lt_asymm h.1⟩
  have L : ∀ {x}, Edge l x v → lt x v ∧ ¬ lt v x := fun h => ⟨h.1, lt_asymm h.1⟩
  rcases d1 with d1 | d1 <;> rcases d2 with d2 | d2
  · rw [above_r d1, below_r d2]
    by_cases k : sl e v w1 < sl e v w2
    · refine tot_same (fun s hs => ?_) _
      by_cases z : th e s.1 s.2 v = 0
      · rw [z]; grind
      · obtain ⟨x, hx, sx⟩ := rth s hs z
        have := h x (.inl hx)
        rw [← sx]
        have := R hx; have := R d1; have := R d2
        unfold btw ah at *
        grind
    · have noL : ∀ x, ¬ Edge l x v := by
        intro x hx
        by_cases q : w1 = w2
        · have := h0 q x (.inr hx)
          rw [this] at hx
          exact lt_asymm d1.1 hx.1
        · have := h x (.inr hx)
          have := h3 q
          have := L hx; have := R d1; have := R d2
          unfold btw ah at *
          grind
      have tz : tot r (fun a b => tl e a b v) = 0 := tot_zero fun s hs => by
        by_cases z : tl e s.1 s.2 v = 0
        · exact z
        · obtain ⟨x, hx, _⟩ := rtl s hs z; exact absurd hx (noL x)
      have e1 : tot r (fun a b => vk e a b v + if sl e v w1 < sl e a b then th e a b v else 0) = tot r (fun a b => vk e a b v + 0) := by
        refine tot_same (fun s hs => ?_) _
        by_cases z : th e s.1 s.2 v = 0
        · rw [z]; grind
        · obtain ⟨x, hx, sx⟩ := rth s hs z
          rw [← sx]
          by_cases q : w1 = w2
          · rw [h0 q x (.inl hx)]; grind
          · have := h x (.inl hx)
            have := h3 q
            have := R hx; have := R d1; have := R d2
            unfold btw ah at *
            grind
      have e2 : tot r (fun a b => vk e a b v + if sl e v w2 ≤ sl e a b then th e a b v else 0) = tot r (fun a b => vk e a b v + th e a b v) := by
        refine tot_same (fun s hs => ?_) _
        by_cases z : th e s.1 s.2 v = 0
        · rw [z]; grind
        · obtain ⟨x, hx, sx⟩ := rth s hs z
          rw [← sx]
          by_cases q : w1 = w2
          · rw [h0 q x (.inl hx), q]; grind
          · have := h x (.inl hx)
            have := h3 q
            have := R hx; have := R d1; have := R d2
            unfold btw ah at *
            grind
      rw [e1, e2, tot_add, tot_add, TT, tz, tot_zero (g := fun _ _ => (0 : Int)) (fun s hs => rfl)]
  · rw [above_r d1, above_l d2]
    refine (tot_same (h := fun _ _ => 0) (fun s hs => ?_) _).trans (tot_same (g := fun _ _ => 0) (fun s hs => ?_) _)
    · by_cases z : th e s.1 s.2 v = 0
      · rw [z]; grind
      · obtain ⟨x, hx, sx⟩ := rth s hs z
        have := h x (.inl hx)
        rw [← sx]
        have := R hx; have := R d1; have := L d2
        unfold btw ah at *
        grind
    · by_cases z : tl e s.1 s.2 v = 0
      · rw [z]; grind
      · obtain ⟨x, hx, sx⟩ := rtl s hs z
        have := h x (.inr hx)
        rw [← sx]
        have := L hx; have := R d1; have := L d2
        unfold btw ah at *
        grind
  · rw [below_l d1, below_r d2]
    have e1 : tot r (fun a b => vk e a b v + if sl e a b ≤ sl e v w1 then tl e a b v else 0) = tot r (fun a b => vk e a b v + tl e a b v) := by
      refine tot_same (fun s hs => ?_) _
      by_cases z : tl e s.1 s.2 v = 0
      · rw [z]; grind
      · obtain ⟨x, hx, sx⟩ := rtl s hs z
        have := h x (.inr hx)
        rw [← sx]
        have := L hx; have := L d1; have := R d2
        unfold btw ah at *
        grind
    have e2 : tot r (fun a b => vk e a b v + if sl e v w2 ≤ sl e a b then th e a b v else 0) = tot r (fun a b => vk e a b v + th e a b v) := by
      refine tot_same (fun s hs => ?_) _
      by_cases z : th e s.1 s.2 v = 0
      · rw [z]; grind
      · obtain ⟨x, hx, sx⟩ := rth s hs z
        have := h x (.inl hx)
        rw [← sx]
        have := R hx; have := L d1; have := R d2
        unfold btw ah at *
        grind
    rw [e1, e2, tot_add, tot_add, TT]
  · rw [below_l d1, above_l d2]
    by_cases k : sl e v w1 < sl e v w2
    · refine tot_same (fun s hs => ?_) _
      by_cases z : tl e s.1 s.2 v = 0
      · rw [z]; grind
      · obtain ⟨x, hx, sx⟩ := rtl s hs z
        have := h x (.inr hx)
        rw [← sx]
        have := L hx; have := L d1; have := L d2
        unfold btw ah at *
        grind
    · have noR : ∀ x, ¬ Edge l v x := by
        intro x hx
        by_cases q : w1 = w2
        · have := h0 q x (.inl hx)
          rw [this] at hx
          exact lt_asymm d1.1 hx.1
        · have := h x (.inl hx)
          have := h3 q
          have := R hx; have := L d1; have := L d2
          unfold btw ah at *
          grind
      have tz : tot r (fun a b => th e a b v) = 0 := tot_zero fun s hs => by
        by_cases z : th e s.1 s.2 v = 0
        · exact z
        · obtain ⟨x, hx, _⟩ := rth s hs z; exact absurd hx (noR x)
      have e1 : tot r (fun a b => vk e a b v + if sl e a b ≤ sl e v w1 then tl e a b v else 0) = tot r (fun a b => vk e a b v + tl e a b v) := by
        refine tot_same (fun s hs => ?_) _
        by_cases z : tl e s.1 s.2 v = 0
        · rw [z]; grind
        · obtain ⟨x, hx, sx⟩ := rtl s hs z
          rw [← sx]
          by_cases q : w1 = w2
          · rw [h0 q x (.inr hx)]; grind
          · have := h x (.inr hx)
            have := h3 q
            have := L hx; have := L d1; have := L d2
            unfold btw ah at *
            grind
      have e2 : tot r (fun a b => vk e a b v + if sl e a b < sl e v w2 then tl e a b v else 0) = tot r (fun a b => vk e a b v + 0) := by
        refine tot_same (fun s hs => ?_) _
        by_cases z : tl e s.1 s.2 v = 0
        · rw [z]; grind
        · obtain ⟨x, hx, sx⟩ := rtl s hs z
          rw [← sx]
          by_cases q : w1 = w2
          · rw [h0 q x (.inr hx), q]; grind
          · have := h x (.inr hx)
            have := h3 q
            have := L hx; have := L d1; have := L d2
            unfold btw ah at *
            grind
      rw [e1, e2, tot_add, tot_add, ← TT, tz, tot_zero (g := fun _ _ => (0 : Int)) (fun s hs => rfl)]
end My
end
section
open GkBase
set_option Elab.async false
namespace My
/-! The order of neighbours round a vertex. -/
theorem sl_lt {e : Rat} {v x y : Pt} (hx : key e x ≠ key e v) (hy : key e y ≠ key e v) (hs : key e v < key e x ↔ key e v < key e y) : (sl e v x < sl e v y ↔ 0 < cross v x y) ∧ (sl e v x = sl e v y ↔ cross v x y = 0) := by
  have h1 := sl_mul hx
  have h2 := sl_mul hy
  have c : cross v x y = (key e x - key e v) * (key e y - key e v) * (sl e v y - sl e v x) := by
    rw [cross_key e, ← h1, ← h2]; grind
  have p : 0 < (key e x - key e v) * (key e y - key e v) := by
    have := sgn (key e x - key e v) (key e y - key e v); grind
  have q := sgn ((key e x - key e v) * (key e y - key e v)) (sl e v y - sl e v x)
  rw [← c] at q
  constructor <;> constructor <;> intro _ <;> grind
/-- right and below -/
def cl4 (v x : Pt) : Prop := lt v x ∧ x.2 < v.2
theorem ahead_iff {e : Rat} {v x y : Pt} (hx : key e x ≠ key e v) (hy : key e y ≠ key e v) (gx : lt v x ↔ key e v < key e x) (gy : lt v y ↔ key e v < key e y) (gy' : lt y v ↔ key e y < key e v) (hd : (lt v x ↔ lt v y) → sl e v x ≠ sl e v y) : ahead v x y = true ↔ ((cl4 v y ∧ ¬ cl4 v x) ∨ ((cl4 v x ↔ cl4 v y) ∧ ah e v x y)) := by
  have s1 : (lt v x ↔ lt v y) → (sl e v x < sl e v y ↔ 0 < cross v x y) ∧ (sl e v x = sl e v y ↔ cross v x y = 0) := fun h => sl_lt hx hy (by rw [← gx, ← gy]; exact h)
  have hf : ∀ z, half v z = if v.2 < z.2 ∨ (v.2 = z.2 ∧ key e v < key e z) then 0 else 1 := by
    intro z; unfold half key
    by_cases q : v.2 = z.2
    · rw [q]; simp only [true_and, Rat.lt_irrefl, false_or, Rat.add_lt_add_right]
    · simp only [q, false_and, or_false]
  unfold ahead ah cl4
  simp only [hf, Bool.or_eq_true, Bool.and_eq_true, decide_eq_true_eq, beq_iff_eq]
  rw [gx, gy] at *
  rw [gy']
  have c := cross_key e v x y
  have t1 := sgn (key e x - key e v) (y.2 - v.2)
  have t2 := sgn (x.2 - v.2) (key e y - key e v)
  generalize (key e x - key e v) * (y.2 - v.2) = m1 at *
  generalize (x.2 - v.2) * (key e y - key e v) = m2 at *
  generalize cross v x y = cr at *
  generalize sl e v x = sx at *
  generalize sl e v y = sy at *
  generalize key e x = kx at *
  generalize key e y = ky at *
  generalize key e v = kv at *
  clear hf
  grind (splits := 60)
theorem dart_vert {l : List Seg} {v x : Pt} (h : Dart l v x) : Vert l v ∧ Vert l x := by
  rcases h with h | h
  · exact ⟨h.2.1, h.2.2.1⟩
  · exact ⟨h.2.2.1, h.2.1⟩
theorem dart_ne {l : List Seg} {v x : Pt} (h : Dart l v x) : v ≠ x := by
  rintro rfl
  rcases h with h | h <;> exact lt_irrefl _ h.1
theorem dart_key {e : Rat} {l : List Seg} (c : Ctx e l) {v x : Pt} (h : Dart l v x) : key e x ≠ key e v := fun k => dart_ne h (c.inj (dart_vert h).2 (dart_vert h).1 k).symm
theorem dart_edge {l : List Seg} {v x : Pt} (h : Dart l v x) : (lt v x ∧ ¬ lt x v ∧ Edge l v x) ∨ (lt x v ∧ ¬ lt v x ∧ Edge l x v) := by
  rcases h with h | h
  · exact .inl ⟨h.1, lt_asymm h.1, h⟩
  · exact .inr ⟨h.1, lt_asymm h.1, h⟩
theorem cross_cyc (a b c : Pt) : cross a b c = cross b c a := by unfold cross; grind
theorem dart_sl {e : Rat} {l : List Seg} (c : Ctx e l) {v x y : Pt} (hx : Dart l v x) (hy : Dart l v y) (ne : x ≠ y) (hs : lt v x ↔ lt v y) : sl e v x ≠ sl e v y := by
  intro h
  have vx := dart_vert hx
  have vy := dart_vert hy
  have h0 := (sl_lt (dart_key c hx) (dart_key c hy) (by rw [← c.gen _ _ vx.1 vx.2, ← c.gen _ _ vx.1 vy.2]; exact hs)).2.1 h
  have h1 : cross v y x = 0 := by
    have : cross v y x = - cross v x y := by unfold cross; grind
    rw [this, h0]; rfl
  rcases dart_edge hx with ⟨a1, a2, a3⟩ | ⟨a1, a2, a3⟩ <;> rcases dart_edge hy with ⟨b1, b2, b3⟩ | ⟨b1, b2, b3⟩
  · rcases lt_tri x y with k | k | k
    · exact edge_novert c.nd b3 vx.2 ⟨h1, a1, k⟩
    · exact ne k
    · exact edge_novert c.nd a3 vy.2 ⟨h0, b1, k⟩
  · exact b2 (hs.1 a1)
  · exact a2 (hs.2 b1)
  · rcases lt_tri x y with k | k | k
    · exact edge_novert c.nd a3 vy.2 ⟨by rw [cross_cyc, h1], k, b1⟩
    · exact ne k
    · exact edge_novert c.nd b3 vx.2 ⟨by rw [cross_cyc, h0], k, a1⟩
theorem dart_ahead {e : Rat} {l : List Seg} (c : Ctx e l) {v x y : Pt} (hx : Dart l v x) (hy : Dart l v y) (ne : x ≠ y) : ahead v x y = true ↔ ((cl4 v y ∧ ¬ cl4 v x) ∨ ((cl4 v x ↔ cl4 v y) ∧ ah e v x y)) := by
  have vx := dart_vert hx
  have vy := dart_vert hy
  exact ahead_iff (dart_key c hx) (dart_key c hy) (c.gen _ _ vx.1 vx.2) (c.gen _ _ vx.1 vy.2) (c.gen _ _ vy.2 vx.1) (dart_sl c hx hy ne)
theorem ahead_irrefl (v x : Pt) : ¬ ahead v x x = true := by
  have : cross v x x = 0 := by unfold cross; grind
  simp [ahead, this]
theorem ah_total {e : Rat} {l : List Seg} (c : Ctx e l) {v x y : Pt} (hx : Dart l v x) (hy : Dart l v y) (ne : x ≠ y) : (ah e v x y ∧ ¬ ah e v y x) ∨ (ah e v y x ∧ ¬ ah e v x y) := by
  have h1 := dart_edge hx
  have h2 := dart_edge hy
  have h3 := dart_sl c hx hy ne
  unfold ah
  grind
theorem ah_trans {e : Rat} {l : List Seg} {v x y z : Pt} (hx : Dart l v x) (hy : Dart l v y) (hz : Dart l v z) (h : ah e v x y) (k : ah e v y z) : ah e v x z := by
  have h1 := dart_edge hx
  have h2 := dart_edge hy
  have h3 := dart_edge hz
  unfold ah at *
  grind
theorem ahead_total {e : Rat} {l : List Seg} (c : Ctx e l) {v x y : Pt} (hx : Dart l v x) (hy : Dart l v y) (ne : x ≠ y) : (ahead v x y = true ∧ ¬ ahead v y x = true) ∨ (ahead v y x = true ∧ ¬ ahead v x y = true) := by
  have := ah_total c hx hy ne
  rw [dart_ahead c hx hy ne, dart_ahead c hy hx (Ne.symm ne)]
  grind
theorem ahead_trans {e : Rat} {l : List Seg} (c : Ctx e l) {v x y z : Pt} (hx : Dart l v x) (hy : Dart l v y) (hz : Dart l v z) (h : ahead v x y = true) (k : ahead v y z = true) : ahead v x z = true := by
  have n1 : x ≠ y := by rintro rfl; exact ahead_irrefl _ _ h
  have n2 : y ≠ z := by rintro rfl; exact ahead_irrefl _ _ k
  have n3 : x ≠ z := by
    rintro rfl
    have := ahead_total c hx hy n1
    grind
  rw [dart_ahead c hx hy n1] at h
  rw [dart_ahead c hy hz n2] at k
  rw [dart_ahead c hx hz n3]
  have := @ah_trans e l v x y z hx hy hz
  grind
/-- between in the one order, between in the other -/
theorem btw_iff {e : Rat} {l : List Seg} (c : Ctx e l) {v x y z : Pt} (hx : Dart l v x) (hy : Dart l v y) (hz : Dart l v z) (n1 : x ≠ y) (n2 : y ≠ z) (n3 : x ≠ z) : btw (ah e v) x y z ↔ btw (fun a b => ahead v a b = true) x y z := by
  unfold btw
  simp only []
  rw [dart_ahead c hx hy n1, dart_ahead c hy hz n2, dart_ahead c hz hx (Ne.symm n3)]
  have a1 := ah_total c hx hy n1
  have a2 := ah_total c hy hz n2
  have a3 := ah_total c hx hz n3
  have t1 := @ah_trans e l v x y z hx hy hz
  have t2 := @ah_trans e l v y z x hy hz hx
  have t3 := @ah_trans e l v z x y hz hx hy
  have t4 := @ah_trans e l v z y x hz hy hx
  have t5 := @ah_trans e l v y x z hy hx hz
  have t6 := @ah_trans e l v x z y hx hz hy
  have d1 : ∀ {a b}, Dart l v a → Dart l v b → cl4 v a → ¬ cl4 v b → a ≠ b → (ah e v a b ∨ (cl4 v a ∧ ¬ cl4 v b ∧ ah e v b a ∧ lt v a ∧ lt v b ∧ sl e v b < sl e v a)) := by
    intro a b ha hb h1 h2 hn
    have := ah_total c ha hb hn
    have := dart_edge ha
    have := dart_edge hb
    unfold ah at *
    unfold cl4 at *
    grind
  have d2 : ∀ {a b}, Dart l v a → Dart l v b → cl4 v a → ¬ cl4 v b → a ≠ b → ah e v a b := by
    intro a b ha hb h1 h2 hn
    rcases d1 ha hb h1 h2 hn with k | ⟨_, _, _, k1, k2, k3⟩
    · exact k
    · exfalso
      have ka := (c.gen _ _ (dart_vert ha).1 (dart_vert ha).2).1 k1
      have kb := (c.gen _ _ (dart_vert hb).1 (dart_vert hb).2).1 k2
      have m1 := sl_mul (e := e) (v := v) (w := a) (by grind)
      have m2 := sl_mul (e := e) (v := v) (w := b) (by grind)
      unfold cl4 at h1 h2
      have s1 := sgn (sl e v a) (key e a - key e v)
      have s2 := sgn (sl e v b) (key e b - key e v)
      grind
  have e1 := @d2 x y hx hy
  have e2 := @d2 y x hy hx
  have e3 := @d2 y z hy hz
  have e4 := @d2 z y hz hy
  have e5 := @d2 x z hx hz
  have e6 := @d2 z x hz hx
  clear d1 d2
  grind (splits := 60)
end My
end
section
open GkBase
set_option Elab.async false
namespace My
/-! The list of neighbours round a vertex. -/
theorem perm_insertRound (m : Gk01.Map) (o i : Nat) (l : List Nat) : (Gk01.insertRound m o i l).Perm (i :: l) := by
  induction l with
  | nil => exact List.Perm.refl _
  | cons j l ih =>
    unfold Gk01.insertRound
    split
    · exact List.Perm.refl _
    · exact (List.Perm.cons j ih).trans (List.Perm.swap i j l)
theorem sorted_insertRound {m : Gk01.Map} {o i : Nat} {l : List Nat} (A : Nat → Nat → Prop) (hA : ∀ a b, A a b ↔ ahead (Gk01.at_ m o) (Gk01.at_ m a) (Gk01.at_ m b) = true) (ht : ∀ j ∈ l, A i j ∨ A j i) (tr : ∀ j ∈ l, ∀ k ∈ l, A i j → A j k → A i k) (h : l.Pairwise A) : (Gk01.insertRound m o i l).Pairwise A := by
  induction l with
  | nil => simp [Gk01.insertRound]
  | cons j l ih =>
    unfold Gk01.insertRound
    rw [List.pairwise_cons] at h
    split
    · rename_i k
      rw [← hA] at k
      rw [List.pairwise_cons, List.pairwise_cons]
      refine ⟨fun x hx => ?_, h⟩
      rcases List.mem_cons.1 hx with rfl | hx
      · exact k
      · exact tr j (by simp) x (by simp [hx]) k (h.1 x hx)
    · rename_i k
      rw [← hA] at k
      rw [List.pairwise_cons]
      refine ⟨fun x hx => ?_, ih (fun a ha => ht a (by simp [ha])) (fun a ha b hb => tr a (by simp [ha]) b (by simp [hb])) h.2⟩
      rcases List.mem_cons.1 ((perm_insertRound m o i l).mem_iff.1 hx) with rfl | hx
      · exact (ht j (by simp)).resolve_left k
      · exact h.1 x hx
/-- neighbours, each once -/
def nbrs (l : List Seg) (o : Nat) : List Nat := (Gk01.mapOf l).edges.filterMap fun (e : Gk01.Edge) => if e.1 = o then some e.2 else if e.2 = o then some e.1 else none
theorem edge_lt {l : List Seg} {i j : Nat} (h : (i, j) ∈ (Gk01.mapOf l).edges) : i < j := by
  obtain ⟨hi, hj, he⟩ := mem_edges.1 h
  exact (pa_lt hi hj).1 he.1
theorem mem_nbrs {l : List Seg} {o j : Nat} : j ∈ nbrs l o ↔ (o, j) ∈ Gk01.darts (Gk01.mapOf l) := by
  unfold nbrs
  rw [List.mem_filterMap, mem_darts]
  constructor
  · rintro ⟨⟨a, b⟩, he, h⟩
    simp only [] at h
    obtain ⟨ha, hb, k⟩ := mem_edges.1 he
    split at h
    · rename_i q
      simp only [Option.some.injEq] at h
      subst h; subst q
      exact ⟨ha, hb, .inl k⟩
    · split at h
      · rename_i q
        simp only [Option.some.injEq] at h
        subst h; subst q
        exact ⟨hb, ha, .inr k⟩
      · simp at h
  · rintro ⟨ho, hj, k | k⟩
    · exact ⟨(o, j), mem_edges.2 ⟨ho, hj, k⟩, by simp⟩
    · refine ⟨(j, o), mem_edges.2 ⟨hj, ho, k⟩, ?_⟩
      have : j ≠ o := by rintro rfl; exact lt_irrefl _ k.1
      simp [this]
theorem nbrs_nodup (l : List Seg) (o : Nat) : (nbrs l o).Nodup := by
  unfold nbrs
  have h := edges_nodup l
  have hlt : ∀ x ∈ (Gk01.mapOf l).edges, x.1 < x.2 := fun x hx => edge_lt (i := x.1) (j := x.2) hx
  generalize (Gk01.mapOf l).edges = es at *
  induction es with
  | nil => simp
  | cons x es ih =>
    rw [List.nodup_cons] at h
    have ih := ih h.2 (fun y hy => hlt y (by simp [hy]))
    rw [List.filterMap_cons]
    split
    · exact ih
    · rename_i b hb
      rw [List.nodup_cons]
      refine ⟨fun hm => ?_, ih⟩
      obtain ⟨y, hy, k⟩ := List.mem_filterMap.1 hm
      have l1 := hlt x (by simp)
      have l2 := hlt y (by simp [hy])
      have : x = y := by
        clear ih hlt h hm hy
        obtain ⟨x1, x2⟩ := x
        obtain ⟨y1, y2⟩ := y
        simp only [] at *
        rw [Prod.mk.injEq]
        grind
      exact h.1 (this ▸ hy)
theorem dart_pa {l : List Seg} {i j : Nat} (h : (i, j) ∈ Gk01.darts (Gk01.mapOf l)) : i < nv l ∧ j < nv l ∧ Dart l (pa l i) (pa l j) := mem_darts.1 h
theorem round_aux {e : Rat} {l : List Seg} (c : Ctx e l) (o : Nat) (ns acc : List Nat) (hd : ∀ j ∈ acc ++ ns, (o, j) ∈ Gk01.darts (Gk01.mapOf l)) (nd : (acc ++ ns).Nodup) (hs : acc.Pairwise fun a b => ahead (pa l o) (pa l a) (pa l b) = true) : (ns.foldl (fun (s : List Nat) (i : Nat) => Gk01.insertRound (Gk01.mapOf l) o i s) acc).Pairwise (fun a b => ahead (pa l o) (pa l a) (pa l b) = true) ∧ (ns.foldl (fun (s : List Nat) (i : Nat) => Gk01.insertRound (Gk01.mapOf l) o i s) acc).Perm (acc ++ ns) := by
  induction ns generalizing acc with
  | nil => exact ⟨hs, by simp⟩
  | cons i ns ih =>
    rw [List.foldl_cons]
    have pm := perm_insertRound (Gk01.mapOf l) o i acc
    have pm2 : (Gk01.insertRound (Gk01.mapOf l) o i acc ++ ns).Perm (acc ++ i :: ns) := by
      refine (List.Perm.append_right ns pm).trans ?_
      simp only [List.cons_append]
      exact List.perm_middle.symm
    have hd' : ∀ j ∈ Gk01.insertRound (Gk01.mapOf l) o i acc ++ ns, (o, j) ∈ Gk01.darts (Gk01.mapOf l) := fun j hj => hd j (pm2.mem_iff.1 hj)
    have nd' := (pm2.nodup_iff).2 nd
    have di := dart_pa (hd i (by simp))
    have da : ∀ j ∈ acc, j < nv l ∧ Dart l (pa l o) (pa l j) := fun j hj => (dart_pa (hd j (by simp [hj]))).2
    have ne : ∀ j ∈ acc, pa l i ≠ pa l j := by
      intro j hj k
      have : i = j := pa_inj di.2.1 (da j hj).1 k
      subst this
      rw [List.nodup_append] at nd
      exact nd.2.2 i hj i (by simp) rfl
    have srt : (Gk01.insertRound (Gk01.mapOf l) o i acc).Pairwise (fun a b => ahead (pa l o) (pa l a) (pa l b) = true) := by
      refine sorted_insertRound _ (fun a b => Iff.rfl) (fun j hj => ?_) (fun j hj k hk h1 h2 => ?_) hs
      · rcases ahead_total c di.2.2 (da j hj).2 (ne j hj) with k | k
        · exact .inl k.1
        · exact .inr k.1
      · exact ahead_trans c di.2.2 (da j hj).2 (da k hk).2 h1 h2
    obtain ⟨r1, r2⟩ := ih _ hd' nd' srt
    exact ⟨r1, r2.trans pm2⟩
theorem round_spec {e : Rat} {l : List Seg} (c : Ctx e l) (o : Nat) : (Gk01.round (Gk01.mapOf l) o).Pairwise (fun a b => ahead (pa l o) (pa l a) (pa l b) = true) ∧ (Gk01.round (Gk01.mapOf l) o).Nodup ∧ ∀ j, j ∈ Gk01.round (Gk01.mapOf l) o ↔ (o, j) ∈ Gk01.darts (Gk01.mapOf l) := by
  have h := round_aux c o (nbrs l o) [] (fun j hj => mem_nbrs.1 (by simpa using hj)) (by simpa using nbrs_nodup l o) List.Pairwise.nil
  have hp : (Gk01.round (Gk01.mapOf l) o).Perm (nbrs l o) := by simpa [nbrs, Gk01.round] using h.2
  exact ⟨h.1, hp.nodup_iff.2 (nbrs_nodup l o), fun j => by rw [hp.mem_iff, mem_nbrs]⟩
theorem rounds_get {l : List Seg} {i : Nat} (h : i < nv l) : (Gk01.rounds (Gk01.mapOf l)).getD i [] = Gk01.round (Gk01.mapOf l) i := by
  unfold Gk01.rounds
  have : i < (Gk01.mapOf l).verts.length := h
  simp [List.getD_eq_getElem?_getD, List.getElem?_map, List.getElem?_range this]
/-- **next to one another, the same sector** -/
theorem sector_idx {e : Rat} {l r : List Seg} (c : Ctx e l) (hr : ∀ s ∈ r, s ∈ l) (cl : Closed r) {i k : Nat} (hk : k < (Gk01.round (Gk01.mapOf l) i).length) : val e r (pa l i) (pa l ((Gk01.round (Gk01.mapOf l) i).getD ((k + (Gk01.round (Gk01.mapOf l) i).length - 1) % (Gk01.round (Gk01.mapOf l) i).length) 0)) = val e r (pa l ((Gk01.round (Gk01.mapOf l) i).getD k 0)) (pa l i) := by
  obtain ⟨srt, nd, hm⟩ := round_spec c i
  generalize Gk01.round (Gk01.mapOf l) i = L at *
  have hk' : (k + L.length - 1) % L.length < L.length := Nat.mod_lt _ (by omega)
  have g : ∀ j, j < L.length → L.getD j 0 = L[j]! := by intro j hj; simp [List.getD_eq_getElem?_getD, hj]
  have gm : ∀ j (hj : j < L.length), L.getD j 0 = L[j] := by intro j hj; simp [List.getD_eq_getElem?_getD, hj]
  rw [gm _ hk', gm _ hk]
  have dd : ∀ j (hj : j < L.length), i < nv l ∧ L[j] < nv l ∧ Dart l (pa l i) (pa l L[j]) := fun j hj => dart_pa ((hm _).1 (List.getElem_mem hj))
  have d1 := dd _ hk'
  have d2 := dd _ hk
  have so := List.pairwise_iff_getElem.1 srt
  have fnd : ∀ x, Dart l (pa l i) x → ∃ j, ∃ hj : j < L.length, pa l L[j] = x := by
    intro x hx
    obtain ⟨jx, hjx, rfl⟩ := vert_pa (dart_vert hx).2
    have : jx ∈ L := (hm jx).2 (mem_darts.2 ⟨d1.1, hjx, hx⟩)
    obtain ⟨j, hj, q⟩ := List.getElem_of_mem this
    exact ⟨j, hj, by rw [q]⟩
  have inj : ∀ a b (ha : a < L.length) (hb : b < L.length), pa l L[a] = pa l L[b] → a = b := by
    intro a b ha hb h
    have := pa_inj (dd a ha).2.1 (dd b hb).2.1 h
    exact (List.getElem?_inj ha nd).1 (by rw [List.getElem?_eq_getElem ha, List.getElem?_eq_getElem hb, this])
  have asym : ∀ a b (ha : a < L.length) (hb : b < L.length), a ≤ b → ¬ ahead (pa l i) (pa l L[b]) (pa l L[a]) = true := by
    intro a b ha hb h
    by_cases q : a = b
    · subst q; exact ahead_irrefl _ _
    · have := so a b ha hb (by omega)
      have ne : pa l L[a] ≠ pa l L[b] := fun k => q (inj a b ha hb k)
      have := ahead_total c (dd a ha).2.2 (dd b hb).2.2 ne
      grind
  refine sector c hr cl (dart_vert d1.2.2).1 d1.2.2 d2.2.2 ?_ ?_ ?_
  · intro x hx hb
    obtain ⟨j, hj, rfl⟩ := fnd x hx
    by_cases n1 : pa l L[(k + L.length - 1) % L.length] = pa l L[j]
    · rw [← n1] at hb
      unfold btw ah at hb
      have := dart_edge d1.2.2
      have := dart_edge d2.2.2
      grind
    · by_cases n2 : pa l L[j] = pa l L[k]
      · rw [n2] at hb
        unfold btw ah at hb
        have := dart_edge d1.2.2
        have := dart_edge d2.2.2
        grind
      · by_cases n3 : pa l L[(k + L.length - 1) % L.length] = pa l L[k]
        · rw [n3] at hb
          have := dart_edge hx
          have := dart_edge d2.2.2
          unfold btw ah at hb
          grind
        · rw [btw_iff c d1.2.2 hx d2.2.2 n1 n2 n3] at hb
          have hj1 : j ≠ (k + L.length - 1) % L.length := fun q => n1 (by subst q; rfl)
          have hj2 : j ≠ k := fun q => n2 (by subst q; rfl)
          unfold btw at hb
          simp only [] at hb
          by_cases k0 : k = 0
          · have e1 : (k + L.length - 1) % L.length = L.length - 1 := by
              rw [k0, Nat.zero_add]; exact Nat.mod_eq_of_lt (by omega)
            have a1 := asym j _ hj hk' (by omega)
            have a2 := asym k j hk hj (by omega)
            grind
          · have e1 : (k + L.length - 1) % L.length = k - 1 := by
              have : k + L.length - 1 = (k - 1) + L.length := by omega
              rw [this, Nat.add_mod_right]; exact Nat.mod_eq_of_lt (by omega)
            have a3 := asym _ k hk' hk (by omega)
            by_cases jl : j < k
            · have a1 := asym j _ hj hk' (by omega)
              grind
            · have a1 := asym k j hk hj (by omega)
              grind
  · intro q x hx
    obtain ⟨j, hj, rfl⟩ := fnd x hx
    have := inj _ _ hk' hk q
    have hn : L.length = 1 := by
      by_cases k0 : k = 0
      · have e1 : (k + L.length - 1) % L.length = L.length - 1 := by
          rw [k0, Nat.zero_add]; exact Nat.mod_eq_of_lt (by omega)
        omega
      · have e1 : (k + L.length - 1) % L.length = k - 1 := by
          have : k + L.length - 1 = (k - 1) + L.length := by omega
          rw [this, Nat.add_mod_right]; exact Nat.mod_eq_of_lt (by omega)
        omega
    have j0 : j = (k + L.length - 1) % L.length := by omega
    subst j0
    rfl
  · intro ne hs
    exact dart_sl c d1.2.2 d2.2.2 ne hs
end My
end
section
set_option Elab.async false
set_option linter.unusedSectionVars false
namespace My
/-! Cycles of a map that is one-to-one on a list. -/
section
variable {α : Type} [DecidableEq α]
theorem length_le_of_sub {l m : List α} (h : l.Nodup) (hs : ∀ x ∈ l, x ∈ m) : l.length ≤ m.length := by
  induction l generalizing m with
  | nil => simp
  | cons x l ih =>
    rw [List.nodup_cons] at h
    have hx : x ∈ m := hs x (by simp)
    have := ih (m := m.erase x) h.2 (fun y hy => (List.mem_erase_of_ne (by rintro rfl; exact h.1 hy)).2 (hs y (by simp [hy])))
    have h2 := List.length_erase_of_mem hx
    have h3 : 0 < m.length := List.length_pos_of_mem hx
    simp only [List.length_cons]
    omega
def it (f : α → α) : Nat → α → α
  | 0, x => x
  | n + 1, x => it f n (f x)
theorem it_succ (f : α → α) (n : Nat) (x : α) : it f (n + 1) x = f (it f n x) := by
  induction n generalizing x with
  | zero => rfl
  | succ n ih => exact ih (f x)
theorem it_add (f : α → α) (m n : Nat) (x : α) : it f (m + n) x = it f m (it f n x) := by
  induction m with
  | zero => simp [it]
  | succ m ih => rw [Nat.add_right_comm, it_succ, it_succ, ih]
/-- a map of a list into itself, one-to-one -/
structure Inj (f : α → α) (B : List α) : Prop where
  nd : B.Nodup
  map : ∀ x ∈ B, f x ∈ B
  inj : ∀ x ∈ B, ∀ y ∈ B, f x = f y → x = y
theorem Inj.it_mem {f : α → α} {B : List α} (h : Inj f B) {x : α} (hx : x ∈ B) (n : Nat) : it f n x ∈ B := by
  induction n with
  | zero => exact hx
  | succ n ih => rw [it_succ]; exact h.map _ ih
theorem Inj.it_inj {f : α → α} {B : List α} (h : Inj f B) {x y : α} (hx : x ∈ B) (hy : y ∈ B) (n : Nat) (e : it f n x = it f n y) : x = y := by
  induction n with
  | zero => exact e
  | succ n ih =>
    rw [it_succ, it_succ] at e
    exact ih (h.inj _ (h.it_mem hx n) _ (h.it_mem hy n) e)
theorem exists_dup {l : List α} (h : ¬ l.Nodup) : ∃ i j, ∃ hi : i < l.length, ∃ hj : j < l.length, i < j ∧ l[i] = l[j] := by
  induction l with
  | nil => simp at h
  | cons x l ih =>
    by_cases hx : x ∈ l
    · obtain ⟨j, hj, k⟩ := List.getElem_of_mem hx
      exact ⟨0, j + 1, by simp, by simp [hj], by omega, by simp [k]⟩
    · have : ¬ l.Nodup := fun k => h (List.nodup_cons.2 ⟨hx, k⟩)
      obtain ⟨i, j, hi, hj, hij, k⟩ := ih this
      exact ⟨i + 1, j + 1, by simp [hi], by simp [hj], by omega, by simp [k]⟩
/-- it comes back -/
theorem Inj.period {f : α → α} {B : List α} (h : Inj f B) {x : α} (hx : x ∈ B) : ∃ p, 0 < p ∧ p ≤ B.length ∧ it f p x = x := by
  have hn : ¬ ((List.range (B.length + 1)).map fun i => it f i x).Nodup := by
    intro k
    have := length_le_of_sub k (m := B) (by
      intro y hy
      obtain ⟨i, _, rfl⟩ := List.mem_map.1 hy
      exact h.it_mem hx i)
    simp only [List.length_map, List.length_range] at this
    omega
  obtain ⟨i, j, hi, hj, hij, k⟩ := exists_dup hn
  simp only [List.length_map, List.length_range] at hi hj
  simp only [List.getElem_map, List.getElem_range] at k
  refine ⟨j - i, by omega, by omega, ?_⟩
  have e : j = i + (j - i) := by omega
  rw [e, it_add] at k
  exact (h.it_inj hx (h.it_mem hx _) i k).symm
/-- the way from d until it comes back to start -/
def orb (f : α → α) (start : α) : Nat → α → List α
  | 0, _ => []
  | n + 1, d => d :: (if f d = start then [] else orb f start n (f d))
theorem orb_eq (f : α → α) (start : α) (p : Nat) : ∀ (n : Nat) (d : α), p < n → it f (p + 1) d = start → (∀ i, i < p → it f (i + 1) d ≠ start) → orb f start n d = (List.range (p + 1)).map fun i => it f i d := by
  induction p with
  | zero =>
    intro n d hn h0 _
    match n, hn with
    | n + 1, _ =>
      have : f d = start := h0
      simp [orb, this, it]
  | succ p ih =>
    intro n d hn h0 h1
    match n, hn with
    | n + 1, hn =>
      have hne : f d ≠ start := h1 0 (by omega)
      rw [orb, if_neg hne, ih n (f d) (by omega) h0 (fun i hi => h1 (i + 1) (by omega)), List.range_succ_eq_map (n := p + 1)]
      simp [it, Function.comp_def]
/-- a cycle -/
structure Cyc (f : α → α) (c : List α) : Prop where
  ne : c ≠ []
  nd : c.Nodup
  nx : ∀ i (h : i < c.length), it f i (c.head ne) = c[i]
  back : it f c.length (c.head ne) = c.head ne
theorem Inj.orb_cyc {f : α → α} {B : List α} (h : Inj f B) {x : α} (hx : x ∈ B) : Cyc f (orb f x B.length x) ∧ (∀ y ∈ orb f x B.length x, y ∈ B) ∧ (orb f x B.length x).head? = some x := by
  obtain ⟨p, p0, pl, hp⟩ := h.period hx
  -- the least one
  have : ∃ q, q < B.length ∧ it f (q + 1) x = x ∧ ∀ i, i < q → it f (i + 1) x ≠ x := by
    have key : ∀ n, (∃ q, q < n ∧ it f (q + 1) x = x ∧ ∀ i, i < q → it f (i + 1) x ≠ x) ∨ ∀ i, i < n → it f (i + 1) x ≠ x := by
      intro n
      induction n with
      | zero => exact .inr (fun i hi => by omega)
      | succ n ih =>
        rcases ih with ⟨q, h1, h2⟩ | ih
        · exact .inl ⟨q, by omega, h2⟩
        · by_cases e : it f (n + 1) x = x
          · exact .inl ⟨n, by omega, e, ih⟩
          · refine .inr (fun i hi => ?_)
            by_cases q : i = n
            · subst q; exact e
            · exact ih i (by omega)
    rcases key B.length with k | k
    · exact k
    · exact absurd (by have : p - 1 + 1 = p := by omega
                       rw [this]; exact hp) (k (p - 1) (by omega))
  obtain ⟨q, q1, q2, q3⟩ := this
  have e := orb_eq f x q B.length x q1 q2 q3
  have ne : (List.range (q + 1)).map (fun i => it f i x) ≠ [] := by simp
  have hd : ((List.range (q + 1)).map (fun i => it f i x)).head ne = x := by
    simp [List.range_succ_eq_map, it]
  rw [e]
  refine ⟨⟨ne, ?_, ?_, ?_⟩, ?_, ?_⟩
  · apply Classical.byContradiction
    intro hn
    obtain ⟨i, j, hi, hj, hij, k⟩ := exists_dup hn
    simp only [List.length_map, List.length_range] at hi hj
    simp only [List.getElem_map, List.getElem_range] at k
    have ej : j = i + (j - i - 1 + 1) := by omega
    rw [ej, it_add] at k
    exact q3 (j - i - 1) (by omega) (h.it_inj hx (h.it_mem hx _) i k).symm
  · intro i hi
    rw [hd]; simp
  · rw [hd]; simpa using q2
  · intro y hy
    obtain ⟨i, _, rfl⟩ := List.mem_map.1 hy
    exact h.it_mem hx i
  · simp [List.range_succ_eq_map, it]
/-- two cycles with one beginning -/
theorem cyc_unique {f : α → α} {c d : List α} (hc : Cyc f c) (hd : Cyc f d) (h : c.head hc.ne = d.head hd.ne) : c = d := by
  have key : ∀ {c d : List α} (hc : Cyc f c) (hd : Cyc f d), c.head hc.ne = d.head hd.ne → ¬ c.length < d.length := by
    intro c d hc hd h hl
    have h1 := hd.nx c.length hl
    have h0 := hd.nx 0 (by omega)
    rw [← h] at h0 h1
    rw [hc.back] at h1
    have h0' : c.head hc.ne = d[0]'(by omega) := h0
    rw [h1] at h0'
    have := (List.getElem?_inj (i := c.length) (j := 0) hl hd.nd).1 (by rw [List.getElem?_eq_getElem hl, List.getElem?_eq_getElem (by omega), h0'])
    exact hc.ne (List.length_eq_zero_iff.1 this)
  have l1 := key hc hd h
  have l2 := key hd hc h.symm
  refine List.ext_getElem (by omega) fun i h1 h2 => ?_
  rw [← hc.nx i h1, ← hd.nx i h2, h]
theorem cyc_next {f : α → α} {c : List α} (hc : Cyc f c) {i : Nat} (hi : i < c.length) : f c[i] = c[(i + 1) % c.length]'(Nat.mod_lt _ (by omega)) := by
  have h1 := hc.nx i hi
  rw [← h1, show f (it f i (c.head hc.ne)) = it f (i + 1) (c.head hc.ne) from (it_succ f i _).symm]
  by_cases k : i + 1 = c.length
  · have := hc.back
    rw [← k] at this
    have e : (i + 1) % c.length = 0 := by rw [k]; exact Nat.mod_self _
    simp only [e]
    rw [this]
    exact hc.nx 0 (by omega)
  · have e : (i + 1) % c.length = i + 1 := Nat.mod_eq_of_lt (by omega)
    simp only [e]
    exact hc.nx (i + 1) (by omega)
theorem it_cyc {f : α → α} {c : List α} (hc : Cyc f c) (n i : Nat) (hi : i < c.length) : it f n c[i] = c[(i + n) % c.length]'(Nat.mod_lt _ (by omega)) := by
  induction n generalizing i with
  | zero =>
    have e : (i + 0) % c.length = i := Nat.mod_eq_of_lt hi
    simp only [e]; rfl
  | succ n ih =>
    show it f n (f c[i]) = _
    rw [cyc_next hc hi, ih _ (Nat.mod_lt _ (by omega))]
    congr 1
    rw [Nat.mod_add_mod]
    congr 1; omega
/-- a cycle from another of its places on -/
theorem cyc_rot {f : α → α} {a b : List α} {x : α} (h : Cyc f (a ++ x :: b)) : Cyc f (x :: b ++ a) := by
  have hl : a.length < (a ++ x :: b).length := by simp
  have ex : (a ++ x :: b)[a.length] = x := by simp
  have len : (x :: b ++ a).length = (a ++ x :: b).length := by simp; omega
  refine ⟨by simp, ?_, ?_, ?_⟩
  · exact (List.perm_append_comm.nodup_iff).1 h.nd
  · intro i hi
    show it f i x = _
    have := it_cyc h i a.length hl
    rw [ex] at this
    rw [this]
    rw [len] at hi
    by_cases k : a.length + i < (a ++ x :: b).length
    · have e : (a.length + i) % (a ++ x :: b).length = a.length + i := Nat.mod_eq_of_lt k
      simp only [e]
      have hi' : i < (x :: b).length := by simp at k ⊢; omega
      rw [List.getElem_append_right (by omega), List.getElem_append_left hi']
      congr 1; omega
    · have e : (a.length + i) % (a ++ x :: b).length = a.length + i - (a ++ x :: b).length := by
        rw [Nat.mod_eq_sub_mod (by omega)]; exact Nat.mod_eq_of_lt (by omega)
      simp only [e]
      have hi' : (x :: b).length ≤ i := by simp at k ⊢; omega
      have ha : a.length + i - (a ++ x :: b).length < a.length := by simp at hi ⊢; omega
      rw [List.getElem_append_left ha, List.getElem_append_right hi']
      congr 1; simp; omega
  · show it f (x :: b ++ a).length x = x
    rw [len]
    have := it_cyc h (a ++ x :: b).length a.length hl
    rw [ex] at this
    rw [this]
    have e : (a.length + (a ++ x :: b).length) % (a ++ x :: b).length = a.length := by rw [Nat.add_mod_right]; exact Nat.mod_eq_of_lt hl
    simp only [e]; exact ex
/-- all cycles, in the order of a list -/
def allc (f : α → α) (n : Nat) (b : List α) (s : List (List α)) : List (List α) := b.foldl (fun (s : List (List α)) (d : α) => if s.any (fun (c : List α) => c.contains d) = true then s else s ++ [orb f d n d]) s
/-- a list's parts in cycles -/
structure Parts (f : α → α) (B : List α) (R : List (List α)) : Prop where
  cyc : ∀ c ∈ R, Cyc f c
  nd : R.flatten.Nodup
  mem : ∀ x, x ∈ R.flatten ↔ x ∈ B
theorem cyc_mem_next {f : α → α} {c : List α} (hc : Cyc f c) {x : α} (hx : x ∈ c) : f x ∈ c := by
  obtain ⟨i, hi, rfl⟩ := List.getElem_of_mem hx
  rw [cyc_next hc hi]; exact List.getElem_mem _
theorem cyc_mem_back {f : α → α} {B : List α} (h : Inj f B) {c : List α} (hc : Cyc f c) (hB : ∀ y ∈ c, y ∈ B) {x : α} (hx : x ∈ B) (h1 : f x ∈ c) : x ∈ c := by
  obtain ⟨i, hi, e⟩ := List.getElem_of_mem h1
  have hl : (i + c.length - 1) % c.length < c.length := Nat.mod_lt _ (by omega)
  have := cyc_next hc hl
  have e2 : ((i + c.length - 1) % c.length + 1) % c.length = i := by
    rw [Nat.mod_add_mod]
    have : i + c.length - 1 + 1 = i + c.length := by omega
    rw [this, Nat.add_mod_right]; exact Nat.mod_eq_of_lt hi
  simp only [e2] at this
  rw [e] at this
  have := h.inj _ (hB _ (List.getElem_mem hl)) _ hx this
  rw [← this]; exact List.getElem_mem hl
theorem it_mem_back {f : α → α} {B : List α} (h : Inj f B) {c : List α} (hc : Cyc f c) (hB : ∀ y ∈ c, y ∈ B) {x : α} (hx : x ∈ B) (n : Nat) (h1 : it f n x ∈ c) : x ∈ c := by
  induction n with
  | zero => exact h1
  | succ n ih => rw [it_succ] at h1; exact ih (cyc_mem_back h hc hB (h.it_mem hx n) h1)
theorem allc_aux {f : α → α} {B : List α} (h : Inj f B) (b : List α) (s : List (List α)) (hb : ∀ x ∈ b, x ∈ B) (hs : ∀ c ∈ s, Cyc f c ∧ ∀ y ∈ c, y ∈ B) (nd : s.flatten.Nodup) : (∀ c ∈ allc f B.length b s, Cyc f c ∧ ∀ y ∈ c, y ∈ B) ∧ (allc f B.length b s).flatten.Nodup ∧ ∀ x, x ∈ (allc f B.length b s).flatten → (x ∈ s.flatten ∨ x ∈ B) ∧ (∀ x, x ∈ s.flatten ∨ x ∈ b → x ∈ (allc f B.length b s).flatten) := by
  induction b generalizing s with
  | nil => exact ⟨hs, nd, fun x hx => ⟨.inl hx, fun y hy => by simpa [allc] using hy⟩⟩
  | cons d b ih =>
    have hb' : ∀ x ∈ b, x ∈ B := fun x hx => hb x (by simp [hx])
    by_cases k : s.any (fun (c : List α) => c.contains d) = true
    · have e : allc f B.length (d :: b) s = allc f B.length b s := by simp only [allc, List.foldl_cons, k, if_true]
      rw [e]
      obtain ⟨i1, i2, i3⟩ := ih s hb' hs nd
      refine ⟨i1, i2, fun x hx => ⟨(i3 x hx).1, fun y hy => (i3 x hx).2 y ?_⟩⟩
      rcases hy with hy | hy
      · exact .inl hy
      · rcases List.mem_cons.1 hy with rfl | hy
        · left
          rw [List.any_eq_true] at k
          obtain ⟨c, hc, q⟩ := k
          exact List.mem_flatten.2 ⟨c, hc, by simpa using q⟩
        · exact .inr hy
    · have e : allc f B.length (d :: b) s = allc f B.length b (s ++ [orb f d B.length d]) := by simp only [allc, List.foldl_cons, k]; rfl
      rw [e]
      have hd : d ∈ B := hb d (by simp)
      obtain ⟨o1, o2, o3⟩ := h.orb_cyc hd
      have nin : ∀ y ∈ s.flatten, y ∉ orb f d B.length d := by
        intro y hy hy2
        obtain ⟨c, hc, hyc⟩ := List.mem_flatten.1 hy
        obtain ⟨i, hi, q⟩ := List.getElem_of_mem hy2
        have := o1.nx i hi
        have hh : (orb f d B.length d).head o1.ne = d := by
          rw [List.head?_eq_some_head o1.ne] at o3; exact Option.some.inj o3
        rw [hh, q] at this
        rw [← this] at hyc
        have := it_mem_back h (hs c hc).1 (hs c hc).2 hd i hyc
        apply k
        rw [List.any_eq_true]
        exact ⟨c, hc, by simpa using this⟩
      have nd' : (s ++ [orb f d B.length d]).flatten.Nodup := by
        rw [List.flatten_append, List.nodup_append]
        refine ⟨nd, by simpa using o1.nd, ?_⟩
        intro a ha b hb q
        subst q
        exact nin a ha (by simpa using hb)
      obtain ⟨i1, i2, i3⟩ := ih (s ++ [orb f d B.length d]) hb' (by
        intro c hc
        rcases List.mem_append.1 hc with hc | hc
        · exact hs c hc
        · simp at hc; rw [hc]; exact ⟨o1, o2⟩) nd'
      refine ⟨i1, i2, fun x hx => ?_⟩
      have hdm : d ∈ orb f d B.length d := by
        rw [List.head?_eq_some_head o1.ne] at o3
        have q := Option.some.inj o3
        have w := List.head_mem o1.ne
        rw [q] at w; exact w
      refine ⟨?_, fun y hy => (i3 x hx).2 y ?_⟩
      · rcases (i3 x hx).1 with q | q
        · rw [List.flatten_append, List.mem_append] at q
          rcases q with q | q
          · exact .inl q
          · exact .inr (o2 x (by simpa using q))
        · exact .inr q
      · rcases hy with hy | hy
        · exact .inl (by rw [List.flatten_append]; exact List.mem_append_left _ hy)
        · rcases List.mem_cons.1 hy with rfl | hy
          · exact .inl (by rw [List.flatten_append]; exact List.mem_append_right _ (by simpa using hdm))
          · exact .inr hy
theorem allc_parts {f : α → α} {B : List α} (h : Inj f B) (b : List α) (hp : ∀ x, x ∈ b ↔ x ∈ B) : Parts f B (allc f B.length b []) := by
  obtain ⟨i1, i2, i3⟩ := allc_aux h b [] (fun x hx => (hp x).1 hx) (by simp) (by simp)
  refine ⟨fun c hc => (i1 c hc).1, i2, fun x => ⟨fun hx => ?_, fun hx => ?_⟩⟩
  · rcases (i3 x hx).1 with q | q
    · simp at q
    · exact q
  · -- some member is there
    by_cases e : (allc f B.length b []).flatten = []
    · exfalso
      cases hbb : b with
      | nil => have := (hp x).2 hx; rw [hbb] at this; simp at this
      | cons d b' =>
        rw [hbb] at e
        have e1 : allc f B.length (d :: b') [] = allc f B.length b' [orb f d B.length d] := by simp [allc]
        have hd : d ∈ B := (hp d).1 (by rw [hbb]; simp)
        obtain ⟨o1, o2, o3⟩ := h.orb_cyc hd
        have mono : ∀ (b : List α) (s : List (List α)), ∀ c ∈ s, c ∈ allc f B.length b s := by
          intro b
          induction b with
          | nil => intro s c hc; exact hc
          | cons d b ih =>
            intro s c hc
            simp only [allc, List.foldl_cons]
            split
            · exact ih s c hc
            · exact ih _ c (by simp [hc])
        have := mono b' [orb f d B.length d] (orb f d B.length d) (by simp)
        rw [← e1] at this
        have hdm : d ∈ orb f d B.length d := by
          rw [List.head?_eq_some_head o1.ne] at o3
          have q := Option.some.inj o3
          have w := List.head_mem o1.ne
          rw [q] at w; exact w
        have : d ∈ (allc f B.length (d :: b') []).flatten := List.mem_flatten.2 ⟨_, this, hdm⟩
        rw [e] at this
        simp at this
    · obtain ⟨y, hy⟩ := List.exists_mem_of_ne_nil _ e
      exact (i3 y hy).2 x (.inr ((hp x).2 hx))
/-- **two ways of taking a list apart in cycles give the same, but for where the cycles begin and their order** -/
theorem parts_perm {β : Type} {f : α → α} (canon : List α → β) (hrot : ∀ a x b, canon (a ++ x :: b) = canon (x :: b ++ a)) {R R' : List (List α)} (hR : ∀ c ∈ R, Cyc f c) (hR' : ∀ c ∈ R', Cyc f c) (nd : R.flatten.Nodup) (nd' : R'.flatten.Nodup) (hm : ∀ x, x ∈ R.flatten ↔ x ∈ R'.flatten) : (R.map canon).Perm (R'.map canon) := by
  induction R generalizing R' with
  | nil =>
    cases R' with
    | nil => exact List.Perm.refl _
    | cons c r =>
      have hc := hR' c (by simp)
      have := (hm (c.head hc.ne)).2 (List.mem_flatten.2 ⟨c, by simp, List.head_mem hc.ne⟩)
      simp at this
  | cons c R ih =>
    have hc := hR c (by simp)
    have h1 := (hm (c.head hc.ne)).1 (List.mem_flatten.2 ⟨c, by simp, List.head_mem hc.ne⟩)
    obtain ⟨c', hc', hx⟩ := List.mem_flatten.1 h1
    obtain ⟨a, b, e⟩ := List.append_of_mem hx
    have cy' := hR' c' hc'
    have rot : Cyc f (c.head hc.ne :: b ++ a) := cyc_rot (e ▸ cy')
    have eq : c = c.head hc.ne :: b ++ a := cyc_unique hc rot (by simp)
    have ec : canon c = canon c' := by rw [e, hrot]; rw [← eq]
    have memc : ∀ x, x ∈ c ↔ x ∈ c' := by
      intro x; rw [e]
      constructor
      · intro q; rw [eq] at q; simp at q ⊢; grind
      · intro q; rw [eq]; simp at q ⊢; grind
    obtain ⟨r1, r2, er⟩ := List.append_of_mem hc'
    have pm : R'.Perm (c' :: (r1 ++ r2)) := by rw [er]; exact List.perm_middle
    have pf : R'.flatten.Perm (c' ++ (r1 ++ r2).flatten) := by
      have := List.Perm.flatten pm; simpa using this
    have nd2 := pf.nodup_iff.1 nd'
    rw [List.nodup_append] at nd2
    rw [List.flatten_cons, List.nodup_append] at nd
    refine List.Perm.trans ?_ ((pm.map canon).symm)
    simp only [List.map_cons]
    rw [ec]
    refine List.Perm.cons _ (ih (fun d hd => hR d (by simp [hd])) (fun d hd => hR' d (pm.mem_iff.2 (by simp at hd ⊢; exact .inr hd))) nd.2.1 nd2.2.1 ?_)
    intro x
    have := hm x
    rw [pf.mem_iff, List.flatten_cons, List.mem_append, List.mem_append] at this
    have i1 := memc x
    have i2 := nd.2.2 x
    have i3 := nd2.2.2 x
    constructor
    · intro q
      have : x ∉ c := fun z => i2 z x q rfl
      grind
    · intro q
      have : x ∉ c' := fun z => i3 z x q rfl
      grind
end
end My
end
section
open GkBase
set_option Elab.async false
namespace My
/-! Boundary darts and what comes behind them. -/
/-- a test by how often two closed lists go round -/
def tst (r1 r2 : List Seg) (G : Int → Int → Bool) (q : Pt) : Bool := G (tot r1 (fun a b => hc a b q)) (tot r2 (fun a b => hc a b q))
structure Env (e : Rat) (l r1 r2 : List Seg) : Prop where
  ctx : Ctx e l
  s1 : ∀ s ∈ r1, s ∈ l
  s2 : ∀ s ∈ r2, s ∈ l
  c1 : Closed r1
  c2 : Closed r2
  off : ∀ d ∈ Gk01.darts (Gk01.mapOf l), key e (mid (pa l d.1) (pa l d.2)) ≠ key e (Gk02.leftOf (Gk01.mapOf l) d)
theorem env_ex {l r1 r2 : List Seg} (hn : Nondeg l) (s1 : ∀ s ∈ r1, s ∈ l) (s2 : ∀ s ∈ r2, s ∈ l) (c1 : Closed r1) (c2 : Closed r2) (ps : List Pt) : ∃ e, Env e l r1 r2 ∧ ∀ x y, (Vert l x ∨ x ∈ ps) → (Vert l y ∨ y ∈ ps) → (lt x y ↔ key e x < key e y) := by
  obtain ⟨e, _, g⟩ := gen_ex (Gk01.vertices l ++ ps ++ (Gk01.darts (Gk01.mapOf l)).map (fun d => mid (pa l d.1) (pa l d.2)) ++ (Gk01.darts (Gk01.mapOf l)).map (fun d => Gk02.leftOf (Gk01.mapOf l) d))
  have mv : ∀ x, Vert l x ∨ x ∈ ps → x ∈ Gk01.vertices l ++ ps ++ (Gk01.darts (Gk01.mapOf l)).map (fun d => mid (pa l d.1) (pa l d.2)) ++ (Gk01.darts (Gk01.mapOf l)).map (fun d => Gk02.leftOf (Gk01.mapOf l) d) := by
    intro x hx
    rcases hx with hx | hx
    · have := mem_vertices.2 hx; simp [this]
    · simp [hx]
  have mm : ∀ d ∈ Gk01.darts (Gk01.mapOf l), mid (pa l d.1) (pa l d.2) ∈ Gk01.vertices l ++ ps ++ (Gk01.darts (Gk01.mapOf l)).map (fun d => mid (pa l d.1) (pa l d.2)) ++ (Gk01.darts (Gk01.mapOf l)).map (fun d => Gk02.leftOf (Gk01.mapOf l) d) := by
    intro d hd
    exact List.mem_append_left _ (List.mem_append_right _ (List.mem_map.2 ⟨d, hd, rfl⟩))
  have ml : ∀ d ∈ Gk01.darts (Gk01.mapOf l), Gk02.leftOf (Gk01.mapOf l) d ∈ Gk01.vertices l ++ ps ++ (Gk01.darts (Gk01.mapOf l)).map (fun d => mid (pa l d.1) (pa l d.2)) ++ (Gk01.darts (Gk01.mapOf l)).map (fun d => Gk02.leftOf (Gk01.mapOf l) d) := by
    intro d hd
    exact List.mem_append_right _ (List.mem_map.2 ⟨d, hd, rfl⟩)
  refine ⟨e, ⟨⟨hn, fun x y hx hy => g x (mv x (.inl hx)) y (mv y (.inl hy)), ?_⟩, s1, s2, c1, c2, ?_⟩, fun x y hx hy => g x (mv x hx) y (mv y hy)⟩
  · intro a b he x hx k
    obtain ⟨i, hi, rfl⟩ := vert_pa he.2.1
    obtain ⟨j, hj, rfl⟩ := vert_pa he.2.2.1
    have hd := mem_darts.2 ⟨hi, hj, .inl he⟩
    have := g.inj (mv x (.inl hx)) (mm _ hd) k
    subst this
    exact edge_novert hn he hx (within_mid he.1)
  · intro d hd k
    have q := g.inj (mm _ hd) (ml _ hd) k
    obtain ⟨t, t0, hq, _⟩ := beside_leftOf hn (i := d.1) (j := d.2) hd
    have ne : pa l d.1 ≠ pa l d.2 := dart_ne (dart_pa (i := d.1) (j := d.2) hd).2.2
    have c := cross_mid hq
    have p := Rat.mul_pos t0 (sq_pos ne)
    rw [← c] at p
    have z : cross (pa l d.1) (pa l d.2) (mid (pa l d.1) (pa l d.2)) = 0 := by rw [mid_pt]; exact (onS_pt _ _ (by grind) (by grind)).1
    rw [q] at z
    have : (d.1, d.2) = d := rfl
    rw [this] at p
    rw [z] at p
    exact absurd p (by decide)
/-- **the test just at a dart's left** -/
theorem tst_val {e : Rat} {l r1 r2 : List Seg} (E : Env e l r1 r2) (G : Int → Int → Bool) {i j : Nat} (h : (i, j) ∈ Gk01.darts (Gk01.mapOf l)) : tst r1 r2 G (Gk02.leftOf (Gk01.mapOf l) (i, j)) = G (val e r1 (pa l i) (pa l j)) (val e r2 (pa l i) (pa l j)) := by
  have hb := beside_leftOf E.ctx.nd h
  have ho := E.off _ h
  obtain ⟨hi, hj, hd⟩ := dart_pa h
  have key1 : ∀ r : List Seg, (∀ s ∈ r, s ∈ l) → Closed r → tot r (fun a b => hc a b (Gk02.leftOf (Gk01.mapOf l) (i, j))) = val e r (pa l i) (pa l j) := by
    intro r hr cl
    rcases dart_edge hd with ⟨k1, k2, k3⟩ | ⟨k1, k2, k3⟩
    · have kk := (E.ctx.gen _ _ (dart_vert hd).1 (dart_vert hd).2).1 k1
      rw [val, if_pos k1]
      exact left_sum E.ctx.nd hr cl k3 kk ho (fun s hs => ⟨E.ctx.midg _ _ k3 _ (vert_fst (hr s hs)), E.ctx.midg _ _ k3 _ (vert_snd (hr s hs))⟩) hb
    · have kk := (E.ctx.gen _ _ (dart_vert hd).2 (dart_vert hd).1).1 k1
      rw [val, if_neg k2, mid_comm]
      refine right_sum E.ctx.nd hr cl k3 kk ?_ (fun s hs => ⟨E.ctx.midg _ _ k3 _ (vert_fst (hr s hs)), E.ctx.midg _ _ k3 _ (vert_snd (hr s hs))⟩) hb
      rw [mid_comm]; exact ho
  unfold tst
  rw [key1 r1 E.s1 E.c1, key1 r2 E.s2 E.c2]
/-- the boundary -/
def bnd (l : List Seg) (test : Pt → Bool) : List Gk01.Dart := (Gk01.darts (Gk01.mapOf l)).filter fun (d : Gk01.Dart) => test (Gk02.leftOf (Gk01.mapOf l) d) && !test (Gk02.leftOf (Gk01.mapOf l) (d.2, d.1))
theorem dart_swap {l : List Seg} {i j : Nat} : (i, j) ∈ Gk01.darts (Gk01.mapOf l) ↔ (j, i) ∈ Gk01.darts (Gk01.mapOf l) := by
  rw [mem_darts, mem_darts]; grind
theorem mem_bnd {l : List Seg} {test : Pt → Bool} {i j : Nat} : (i, j) ∈ bnd l test ↔ (i, j) ∈ Gk01.darts (Gk01.mapOf l) ∧ test (Gk02.leftOf (Gk01.mapOf l) (i, j)) = true ∧ test (Gk02.leftOf (Gk01.mapOf l) (j, i)) = false := by
  unfold bnd
  rw [List.mem_filter]
  simp
theorem bnd_nodup (l : List Seg) (test : Pt → Bool) : (bnd l test).Nodup := List.Pairwise.filter _ (darts_nodup l)
theorem pred_mod {n X : Nat} (hn : 0 < n) (hX : 0 < X) : (X - 1) % n = (X % n + n - 1) % n := by
  have h := Nat.div_add_mod X n
  have hr := Nat.mod_lt X hn
  generalize X % n = r at *
  generalize X / n = q at *
  by_cases r0 : r = 0
  · subst r0
    cases q with
    | zero => omega
    | succ q =>
      have e : X - 1 = (n - 1) + n * q := by rw [Nat.mul_add] at h; omega
      rw [e, Nat.add_mul_mod_self_left]
      congr 1; omega
  · have e : X - 1 = (r - 1) + n * q := by omega
    have e2 : r + n - 1 = (r - 1) + n := by omega
    rw [e, Nat.add_mul_mod_self_left, e2, Nat.add_mod_right]
/-- a list of neighbours, with what the test says of both sides: the first boundary dart to the right -/
theorem first_right {n k : Nat} (hk : k < n) (tl tr : Nat → Bool) (sec : ∀ k, k < n → tl ((k + n - 1) % n) = tr k) (h1 : tr k = true) (h2 : tl k = false) : ∃ j, j < n ∧ (tl ((k + 2 * n - 1 - j) % n) = true ∧ tr ((k + 2 * n - 1 - j) % n) = false) ∧ ∀ i, i < j → tl ((k + 2 * n - 1 - i) % n) = true ∧ tr ((k + 2 * n - 1 - i) % n) = true := by
  have n0 : 0 < n := by omega
  have s0 : tl ((k + 2 * n - 1 - 0) % n) = true := by
    have e : k + 2 * n - 1 - 0 = (k + n - 1) + n := by omega
    rw [e, Nat.add_mod_right, sec k hk, h1]
  have ss : ∀ j, j + 1 < n → tl ((k + 2 * n - 1 - (j + 1)) % n) = tr ((k + 2 * n - 1 - j) % n) := by
    intro j hj
    have e : k + 2 * n - 1 - (j + 1) = (k + 2 * n - 1 - j) - 1 := by omega
    rw [e, pred_mod n0 (by omega), sec _ (Nat.mod_lt _ n0)]
  have key : ∀ m, m ≤ n → (∃ j, j < m ∧ (tl ((k + 2 * n - 1 - j) % n) = true ∧ tr ((k + 2 * n - 1 - j) % n) = false) ∧ ∀ i, i < j → tl ((k + 2 * n - 1 - i) % n) = true ∧ tr ((k + 2 * n - 1 - i) % n) = true) ∨ ∀ i, i < m → tl ((k + 2 * n - 1 - i) % n) = true ∧ tr ((k + 2 * n - 1 - i) % n) = true := by
    intro m
    induction m with
    | zero => intro _; exact .inr (fun i hi => by omega)
    | succ m ih =>
      intro hm
      rcases ih (by omega) with ⟨j, a, b⟩ | ih
      · exact .inl ⟨j, by omega, b⟩
      · have t : tl ((k + 2 * n - 1 - m) % n) = true := by
          cases m with
          | zero => exact s0
          | succ m => rw [ss m (by omega)]; exact (ih m (by omega)).2
        by_cases q : tr ((k + 2 * n - 1 - m) % n) = true
        · refine .inr (fun i hi => ?_)
          by_cases im : i = m
          · subst im; exact ⟨t, q⟩
          · exact ih i (by omega)
        · exact .inl ⟨m, by omega, ⟨t, by simpa using q⟩, ih⟩
  rcases key n (Nat.le_refl n) with k1 | k1
  · exact k1
  · have := (k1 (n - 1) (by omega)).1
    have e : k + 2 * n - 1 - (n - 1) = k + n := by omega
    rw [e, Nat.add_mod_right, Nat.mod_eq_of_lt hk, h2] at this
    simp at this
theorem find_range {n j : Nat} (g : Nat → Nat) (p : Nat → Bool) (hj : j < n) (h : p (g j) = true) (h' : ∀ i, i < j → p (g i) = false) : ((List.range n).map g).find? p = some (g j) := by
  have : (List.range n).find? (p ∘ g) = some j := by
    rw [List.find?_range_eq_some]
    refine ⟨h, List.mem_range.2 hj, fun i hi => ?_⟩
    simp [h' i hi]
  rw [List.find?_map, this]; rfl
abbrev rd (l : List Seg) (i : Nat) : List Nat := Gk01.round (Gk01.mapOf l) i
theorem contains_iff {b : List Gk01.Dart} {d : Gk01.Dart} : b.contains d = true ↔ d ∈ b := List.contains_iff_mem
/-- **what comes behind a boundary dart** -/
theorem next_spec {e : Rat} {l r1 r2 : List Seg} (E : Env e l r1 r2) (G : Int → Int → Bool) {u v : Nat} (h : (u, v) ∈ bnd l (tst r1 r2 G)) : ∃ k j, ∃ hk : k < (rd l v).length, (rd l v)[k] = u ∧ j < (rd l v).length ∧ Gk02.nextOf (Gk01.rounds (Gk01.mapOf l)) (bnd l (tst r1 r2 G)) (u, v) = (v, (rd l v).getD ((k + 2 * (rd l v).length - 1 - j) % (rd l v).length) 0) ∧ (v, (rd l v).getD ((k + 2 * (rd l v).length - 1 - j) % (rd l v).length) 0) ∈ bnd l (tst r1 r2 G) ∧ ∀ i, i < j → tst r1 r2 G (Gk02.leftOf (Gk01.mapOf l) (v, (rd l v).getD ((k + 2 * (rd l v).length - 1 - i) % (rd l v).length) 0)) = true ∧ tst r1 r2 G (Gk02.leftOf (Gk01.mapOf l) ((rd l v).getD ((k + 2 * (rd l v).length - 1 - i) % (rd l v).length) 0, v)) = true := by
  obtain ⟨hd, t1, t2⟩ := mem_bnd.1 h
  obtain ⟨srt, nd, hm⟩ := round_spec E.ctx v
  have hu : u ∈ rd l v := (hm u).2 (dart_swap.1 hd)
  have hv : v < nv l := (dart_pa hd).2.1
  obtain ⟨k, hk, ek⟩ := List.getElem_of_mem hu
  have gd : ∀ i, i < (rd l v).length → (v, (rd l v).getD i 0) ∈ Gk01.darts (Gk01.mapOf l) := by
    intro i hi
    rw [← hm, List.getD_eq_getElem?_getD, List.getElem?_eq_getElem hi]
    exact List.getElem_mem hi
  have ek' : (rd l v).getD k 0 = u := by rw [List.getD_eq_getElem?_getD, List.getElem?_eq_getElem hk]; exact ek
  obtain ⟨j, hj, ⟨j1, j2⟩, j3⟩ := first_right (n := (rd l v).length) (k := k) hk (fun i => tst r1 r2 G (Gk02.leftOf (Gk01.mapOf l) (v, (rd l v).getD i 0))) (fun i => tst r1 r2 G (Gk02.leftOf (Gk01.mapOf l) ((rd l v).getD i 0, v))) (by
    intro i hi
    have hi' : (i + (rd l v).length - 1) % (rd l v).length < (rd l v).length := Nat.mod_lt _ (by omega)
    rw [tst_val E G (gd _ hi'), tst_val E G (dart_swap.1 (gd _ hi))]
    rw [sector_idx E.ctx E.s1 E.c1 hi, sector_idx E.ctx E.s2 E.c2 hi]) (by simp only [ek']; exact t1) (by simp only [ek']; exact t2)
  refine ⟨k, j, hk, ek, hj, ?_, ?_, j3⟩
  · unfold Gk02.nextOf
    simp only []
    rw [rounds_get hv]
    have fi : (rd l v).findIdx? (fun (i : Nat) => decide (i = u)) = some k := by
      rw [List.findIdx?_eq_some_iff_getElem]
      refine ⟨hk, by simp [ek], fun i hi => ?_⟩
      have hi2 : i < (rd l v).length := by omega
      simp only [decide_eq_true_eq]
      intro q
      have := (List.getElem?_inj (i := i) (j := k) hi2 nd).1 (by rw [List.getElem?_eq_getElem hi2, List.getElem?_eq_getElem hk, ek, q])
      omega
    rw [fi]
    simp only [Option.getD_some]
    rw [find_range (g := fun (j : Nat) => (rd l v).getD ((k + 2 * (rd l v).length - 1 - j) % (rd l v).length) 0) _ hj]
    · rfl
    · rw [contains_iff, mem_bnd]
      exact ⟨gd _ (Nat.mod_lt _ (by omega)), j1, j2⟩
    · intro i hi
      rw [← Bool.not_eq_true, contains_iff, mem_bnd]
      rintro ⟨_, _, q⟩
      rw [(j3 i hi).2] at q
      simp at q
  · rw [mem_bnd]
    exact ⟨gd _ (Nat.mod_lt _ (by omega)), j1, j2⟩
/-- **it is one-to-one** -/
theorem next_inj {e : Rat} {l r1 r2 : List Seg} (E : Env e l r1 r2) (G : Int → Int → Bool) : Inj (Gk02.nextOf (Gk01.rounds (Gk01.mapOf l)) (bnd l (tst r1 r2 G))) (bnd l (tst r1 r2 G)) := by
  refine ⟨bnd_nodup _ _, ?_, ?_⟩
  · rintro ⟨u, v⟩ h
    obtain ⟨k, j, hk, _, _, h1, h2, _⟩ := next_spec E G h
    rw [h1]; exact h2
  · rintro ⟨u, v⟩ h ⟨u', v'⟩ h' q
    obtain ⟨k, j, hk, ek, hj, h1, h2, h3⟩ := next_spec E G h
    obtain ⟨k', j', hk', ek', hj', h1', h2', h3'⟩ := next_spec E G h'
    rw [h1, h1'] at q
    simp only [Prod.mk.injEq] at q
    obtain ⟨rfl, q⟩ := q
    have nd := (round_spec E.ctx v).2.1
    have n0 : 0 < (rd l v).length := by omega
    have m1 := Nat.mod_lt (k + 2 * (rd l v).length - 1 - j) n0
    have m2 := Nat.mod_lt (k' + 2 * (rd l v).length - 1 - j') n0
    have q' : (k + 2 * (rd l v).length - 1 - j) % (rd l v).length = (k' + 2 * (rd l v).length - 1 - j') % (rd l v).length := by
      refine (List.getElem?_inj m1 nd).1 ?_
      rw [List.getElem?_eq_getElem m1, List.getElem?_eq_getElem m2]
      simpa [List.getD_eq_getElem?_getD, m1, m2] using q
    have gk : ∀ {k : Nat} (hk : k < (rd l v).length), (rd l v).getD k 0 = (rd l v)[k] := fun hk => by simp [List.getD_eq_getElem?_getD, hk]
    have bad : ∀ {k j k' j' u u' : Nat}, k < (rd l v).length → (rd l v).getD k 0 = u → (u, v) ∈ bnd l (tst r1 r2 G) → j < j' → j' < (rd l v).length → (k + 2 * (rd l v).length - 1 - j) % (rd l v).length = (k' + 2 * (rd l v).length - 1 - j') % (rd l v).length → (∀ i, i < j' → tst r1 r2 G (Gk02.leftOf (Gk01.mapOf l) (v, (rd l v).getD ((k' + 2 * (rd l v).length - 1 - i) % (rd l v).length) 0)) = true ∧ tst r1 r2 G (Gk02.leftOf (Gk01.mapOf l) ((rd l v).getD ((k' + 2 * (rd l v).length - 1 - i) % (rd l v).length) 0, v)) = true) → False := by
      intro k j k' j' u u' hk ek hu hj hj' q hh
      have e1 : (k' + 2 * (rd l v).length - 1 - (j' - j - 1)) % (rd l v).length = k := by
        have a1 : k' + 2 * (rd l v).length - 1 - (j' - j - 1) = (k' + 2 * (rd l v).length - 1 - j') + (j + 1) := by omega
        have a2 : (k + 2 * (rd l v).length - 1 - j) + (j + 1) = k + (rd l v).length + (rd l v).length := by omega
        rw [a1, Nat.add_mod, ← q, ← Nat.add_mod, a2, Nat.add_mod_right, Nat.add_mod_right]
        exact Nat.mod_eq_of_lt hk
      have := (hh (j' - j - 1) (by omega)).1
      rw [e1, ek] at this
      have := (mem_bnd.1 hu).2.2
      simp_all
    rcases Nat.lt_trichotomy j j' with r | r | r
    · exact (bad (u' := u') hk ((gk hk).trans ek) h r hj' q' h3').elim
    · subst r
      have e1 : k = k' := by
        have a1 : (k + 2 * (rd l v).length - 1 - j) + (j + 1) = k + (rd l v).length + (rd l v).length := by omega
        have a2 : (k' + 2 * (rd l v).length - 1 - j) + (j + 1) = k' + (rd l v).length + (rd l v).length := by omega
        have b1 : (k + (rd l v).length + (rd l v).length) % (rd l v).length = k := by rw [Nat.add_mod_right, Nat.add_mod_right]; exact Nat.mod_eq_of_lt hk
        have b2 : (k' + (rd l v).length + (rd l v).length) % (rd l v).length = k' := by rw [Nat.add_mod_right, Nat.add_mod_right]; exact Nat.mod_eq_of_lt hk'
        rw [← b1, ← b2, ← a1, ← a2, Nat.add_mod, q', ← Nat.add_mod]
      subst e1
      rw [← ek, ← ek']
    · exact (bad (u' := u) hk' ((gk hk').trans ek') h' r hj q'.symm h3).elim
end My
end
section
set_option Elab.async false
namespace My
/-! A sum that tells the difference of its ends. -/
section
variable {β : Type}
theorem sum_congr {l : List β} {f g : β → Int} (h : ∀ x ∈ l, f x = g x) : (l.map f).sum = (l.map g).sum := by
  induction l with
  | nil => rfl
  | cons x l ih => simp only [List.map_cons, List.sum_cons]; rw [h x (by simp), ih (fun y hy => h y (by simp [hy]))]
theorem sum_add (l : List β) (f g : β → Int) : (l.map fun x => f x + g x).sum = (l.map f).sum + (l.map g).sum := by
  induction l with
  | nil => rfl
  | cons x l ih => simp only [List.map_cons, List.sum_cons, ih]; omega
theorem sum_one [DecidableEq β] {l : List β} (nd : l.Nodup) {x : β} (hx : x ∈ l) (c : Int) : (l.map fun y => if y = x then c else 0).sum = c := by
  induction l with
  | nil => simp at hx
  | cons y l ih =>
    rw [List.nodup_cons] at nd
    simp only [List.map_cons, List.sum_cons]
    rcases List.mem_cons.1 hx with rfl | hx
    · have : (l.map fun y => if y = x then c else 0).sum = 0 := by
        have h : ∀ y ∈ l, (if y = x then c else 0) = (0 : Int) := by
          intro y hy
          rw [if_neg]; rintro rfl; exact nd.1 hy
        rw [sum_congr h]; clear h ih nd hx
        induction l with
        | nil => rfl
        | cons y l ih => simp only [List.map_cons, List.sum_cons, ih]; rfl
      rw [this]; simp
    · have : y ≠ x := by rintro rfl; exact nd.1 hx
      rw [ih nd.2 hx, if_neg this]; simp
theorem min_ex (l : List β) (h : β → Rat) (ne : l ≠ []) : ∃ x ∈ l, ∀ y ∈ l, h x ≤ h y := by
  induction l with
  | nil => exact absurd rfl ne
  | cons x l ih =>
    by_cases k : l = []
    · subst k; exact ⟨x, by simp, fun y hy => by simp at hy; subst hy; exact Rat.le_refl⟩
    · obtain ⟨z, hz, hm⟩ := ih k
      by_cases q : h x ≤ h z
      · exact ⟨x, by simp, fun y hy => by
          rcases List.mem_cons.1 hy with rfl | hy
          · exact Rat.le_refl
          · exact Rat.le_trans q (hm y hy)⟩
      · refine ⟨z, by simp [hz], fun y hy => ?_⟩
        rcases List.mem_cons.1 hy with rfl | hy
        · exact Rat.le_of_lt (Rat.not_le.1 q)
        · exact hm y hy
theorem filter_le {p q : β → Bool} (h : ∀ x, p x = true → q x = true) (l : List β) : (l.filter p).length ≤ (l.filter q).length := by
  induction l with
  | nil => simp
  | cons x l ih =>
    have := h x
    rw [List.filter_cons, List.filter_cons]
    cases hp : p x <;> cases hq : q x <;> simp_all <;> omega
theorem filter_lt {p q : β → Bool} (h : ∀ x, p x = true → q x = true) {l : List β} {x : β} (hx : x ∈ l) (h1 : q x = true) (h2 : p x = false) : (l.filter p).length < (l.filter q).length := by
  induction l with
  | nil => simp at hx
  | cons y l ih =>
    rw [List.filter_cons, List.filter_cons]
    rcases List.mem_cons.1 hx with rfl | hx
    · have := filter_le h l
      simp only [h1, h2, if_true, List.length_cons]
      simp
      omega
    · have ih := ih hx
      have := h y
      cases hp : p y <;> cases hq : q y <;> simp_all <;> omega
theorem tele [DecidableEq β] {es : List β} (nd : es.Nodup) (X : β → Prop) [DecidablePred X] (h : β → Rat) (F : Rat → Int) (bel abv : β → Int) (Y0 : Rat)
    (h1 : ∀ e ∈ es, X e → Y0 < h e → abv e = F (h e))
    (h2 : ∀ Y, Y0 ≤ Y → ∀ e ∈ es, X e → Y < h e → (∀ e' ∈ es, X e' → Y < h e' → h e ≤ h e') → F Y = bel e)
    (h3 : ∀ Y, Y0 ≤ Y → (∀ e ∈ es, X e → ¬ Y < h e) → F Y = 0)
    (h4 : ∀ e ∈ es, ∀ e' ∈ es, X e → X e' → Y0 < h e → h e = h e' → e = e') :
    ∀ (n : Nat) (Y : Rat), Y0 ≤ Y → (es.filter fun e => decide (X e ∧ Y < h e)).length ≤ n → (es.map fun e => if X e ∧ Y < h e then bel e - abv e else 0).sum = F Y := by
  intro n
  induction n with
  | zero =>
    intro Y hY hl
    have hn : ∀ e ∈ es, ¬ (X e ∧ Y < h e) := by
      intro e he k
      have : e ∈ es.filter fun e => decide (X e ∧ Y < h e) := List.mem_filter.2 ⟨he, by simpa using k⟩
      have := List.length_pos_of_mem this
      omega
    rw [h3 Y hY (fun e he hx hy => hn e he ⟨hx, hy⟩)]
    have := sum_congr (l := es) (f := fun e => if X e ∧ Y < h e then bel e - abv e else 0) (g := fun _ => 0) (fun e he => if_neg (hn e he))
    rw [this]
    clear this hn hl h4 h3 h2 h1 nd
    induction es with
    | nil => rfl
    | cons x l ih => simp only [List.map_cons, List.sum_cons, ih]; rfl
  | succ n ih =>
    intro Y hY hl
    by_cases ne : (es.filter fun e => decide (X e ∧ Y < h e)) = []
    · refine ?_
      have hn : ∀ e ∈ es, ¬ (X e ∧ Y < h e) := by
        intro e he k
        have : e ∈ es.filter fun e => decide (X e ∧ Y < h e) := List.mem_filter.2 ⟨he, by simpa using k⟩
        rw [ne] at this; simp at this
      rw [h3 Y hY (fun e he hx hy => hn e he ⟨hx, hy⟩)]
      have := sum_congr (l := es) (f := fun e => if X e ∧ Y < h e then bel e - abv e else 0) (g := fun _ => 0) (fun e he => if_neg (hn e he))
      rw [this]
      clear this hn hl h4 h3 h2 h1 nd ne ih
      induction es with
      | nil => rfl
      | cons x l ih => simp only [List.map_cons, List.sum_cons, ih]; rfl
    · obtain ⟨e0, m0, hm⟩ := min_ex _ h ne
      have m0' := List.mem_filter.1 m0
      simp only [decide_eq_true_eq] at m0'
      obtain ⟨i0, x0, y0⟩ := m0'
      have hmin : ∀ e' ∈ es, X e' → Y < h e' → h e0 ≤ h e' := fun e' he' hx hy => hm e' (List.mem_filter.2 ⟨he', by simp [hx, hy]⟩)
      have Y0h : Y0 ≤ h e0 := by grind
      have ih0 := ih (h e0) Y0h (by
        have sub : ((es.filter fun e => decide (X e ∧ h e0 < h e)).length < (es.filter fun e => decide (X e ∧ Y < h e)).length) := by
          refine filter_lt (x := e0) (fun x hx => ?_) i0 ?_ ?_
          · simp only [decide_eq_true_eq] at hx ⊢
            exact ⟨hx.1, by grind⟩
          · simp [x0, y0]
          · simp
        omega)
      have split : ∀ e ∈ es, (if X e ∧ Y < h e then bel e - abv e else 0) = (if e = e0 then bel e0 - abv e0 else 0) + (if X e ∧ h e0 < h e then bel e - abv e else 0) := by
        intro e he
        by_cases q : e = e0
        · subst q
          have : ¬ (X e ∧ h e < h e) := fun z => by grind
          rw [if_pos ⟨x0, y0⟩, if_pos rfl, if_neg this]; omega
        · rw [if_neg q]
          by_cases k : X e ∧ Y < h e
          · have le := hmin e he k.1 k.2
            have ne' : h e0 ≠ h e := fun z => q (h4 e0 i0 e he x0 k.1 (by grind) z).symm
            rw [if_pos k, if_pos ⟨k.1, by grind⟩]; omega
          · have : ¬ (X e ∧ h e0 < h e) := fun z => k ⟨z.1, by grind⟩
            rw [if_neg k, if_neg this]; rfl
      rw [sum_congr split, sum_add, sum_one nd i0, ih0, h2 Y hY e0 i0 x0 y0 hmin, h1 e0 i0 x0 (by grind)]
      omega
end
end My
end
section
open GkBase
set_option Elab.async false
namespace My
/-! Rings as rows of points. -/
def chain : List Pt → Pt → List Seg
  | [], _ => []
  | x :: l, q => (x, l.headD q) :: chain l q
theorem zip_chain (x : Pt) (l : List Pt) (q : Pt) : (x :: l).zip (l ++ [q]) = chain (x :: l) q := by
  induction l generalizing x with
  | nil => rfl
  | cons y l ih =>
    have := ih y
    simp only [List.cons_append, List.zip_cons_cons, chain, List.headD_cons] at this ⊢
    rw [this]
theorem sides_chain (o : Pt) (l : List Pt) : sides (o :: l) = chain (o :: l) o := zip_chain o l o
theorem headD_append (a b : List Pt) (q : Pt) : (a ++ b).headD q = a.headD (b.headD q) := by cases a <;> rfl
theorem chain_append (a b : List Pt) (q : Pt) : chain (a ++ b) q = chain a (b.headD q) ++ chain b q := by
  induction a with
  | nil => rfl
  | cons x a ih => simp only [List.cons_append, chain, headD_append, ih]
theorem sides_rot (a b : List Pt) : (sides (a ++ b)).Perm (sides (b ++ a)) := by
  cases a with
  | nil => simp
  | cons x a =>
    cases b with
    | nil => simp
    | cons y b =>
      have e1 : sides (x :: a ++ y :: b) = chain (x :: a) y ++ chain (y :: b) x := by
        have := sides_chain x (a ++ y :: b)
        rw [List.cons_append, this, ← List.cons_append, chain_append]; rfl
      have e2 : sides (y :: b ++ x :: a) = chain (y :: b) x ++ chain (x :: a) y := by
        have := sides_chain y (b ++ x :: a)
        rw [List.cons_append, this, ← List.cons_append, chain_append]; rfl
      rw [e1, e2]; exact List.perm_append_comm
def lin : Pt → List Pt → Pt → List (Pt × Pt × Pt)
  | _, [], _ => []
  | p, x :: l, q => (p, x, l.headD q) :: lin x l q
theorem zip_lin (p x : Pt) (l : List Pt) (q : Pt) : (p :: x :: l).zip ((x :: l).zip (l ++ [q])) = lin p (x :: l) q := by
  induction l generalizing p x with
  | nil => rfl
  | cons y l ih =>
    have := ih x y
    simp only [List.cons_append, List.zip_cons_cons, lin, List.headD_cons] at this ⊢
    rw [this]
theorem lin_append (p : Pt) (a b : List Pt) (q : Pt) : lin p (a ++ b) q = lin p a (b.headD q) ++ lin (a.getLastD p) b q := by
  induction a generalizing p with
  | nil => rfl
  | cons x a ih =>
    simp only [List.cons_append, lin, headD_append, ih]
    rw [List.getLastD_cons]
def keep (p : Pt) (xs : List Pt) (q : Pt) : List Pt := ((lin p xs q).filter fun (x : Pt × Pt × Pt) => decide (cross x.1 x.2.1 x.2.2 ≠ 0)).map fun (x : Pt × Pt × Pt) => x.2.1
theorem keep_nil (p q : Pt) : keep p [] q = [] := rfl
theorem keep_cons (p x : Pt) (l : List Pt) (q : Pt) : keep p (x :: l) q = (if cross p x (l.headD q) ≠ 0 then x :: keep x l q else keep x l q) := by
  unfold keep
  rw [lin, List.filter_cons]
  generalize l.headD q = y
  by_cases k : cross p x y = 0
  · simp [k]
  · simp [k]
theorem keep_append (p : Pt) (a b : List Pt) (q : Pt) : keep p (a ++ b) q = keep p a (b.headD q) ++ keep (a.getLastD p) b q := by
  unfold keep; rw [lin_append, List.filter_append, List.map_append]
theorem corners_keep (o : Pt) (l : List Pt) : Gk02.corners (o :: l) = keep ((o :: l).getLastD o) (o :: l) o := by
  show ((((o :: l).getLastD o :: o :: l).zip ((o :: l).zip (l ++ [o]))).filter _).map _ = _
  rw [zip_lin]; rfl
theorem getLastD_append (a : List Pt) (y : Pt) (b : List Pt) (p : Pt) : (a ++ y :: b).getLastD p = (y :: b).getLastD p := by
  induction a generalizing p with
  | nil => rfl
  | cons x a ih => rw [List.cons_append, List.getLastD_cons, ih, List.getLastD_cons, List.getLastD_cons]
theorem getLastD_ne (y : Pt) (b : List Pt) (p q : Pt) : (y :: b).getLastD p = (y :: b).getLastD q := by
  rw [List.getLastD_cons, List.getLastD_cons]
/-- corners of a ring begun elsewhere -/
theorem corners_rot (a b : List Pt) : ∃ c d, Gk02.corners (a ++ b) = c ++ d ∧ Gk02.corners (b ++ a) = d ++ c := by
  cases a with
  | nil => exact ⟨[], Gk02.corners b, by simp, by simp⟩
  | cons x a =>
    cases b with
    | nil => exact ⟨Gk02.corners (x :: a), [], by simp, by simp⟩
    | cons y b =>
      refine ⟨keep ((y :: b).getLastD x) (x :: a) y, keep ((x :: a).getLastD y) (y :: b) x, ?_, ?_⟩
      · rw [List.cons_append, corners_keep, ← List.cons_append, keep_append, getLastD_append]
        rw [getLastD_ne x a _ y]; rfl
      · rw [List.cons_append, corners_keep, ← List.cons_append, keep_append, getLastD_append]
        rw [getLastD_ne y b _ x]; rfl
/-- told from where it's first: begun elsewhere -/
theorem turned_rot (c : List Pt) : ∃ a b, c = a ++ b ∧ Gk02.turned c = b ++ a := by
  unfold Gk02.turned
  have key : ∀ (l : List (List Pt)) (s : List Pt), (∀ x ∈ l, ∃ a b, c = a ++ b ∧ x = b ++ a) → (∃ a b, c = a ++ b ∧ s = b ++ a) → ∃ a b, c = a ++ b ∧ l.foldl (fun (b : List Pt) (x : List Pt) => if Gk02.ringBefore x b = true then x else b) s = b ++ a := by
    intro l
    induction l with
    | nil => intro s _ h; exact h
    | cons x l ih =>
      intro s hl hs
      rw [List.foldl_cons]
      refine ih _ (fun y hy => hl y (by simp [hy])) ?_
      split
      · exact hl x (by simp)
      · exact hs
  refine key _ _ ?_ ⟨[], c, by simp, by simp⟩
  intro x hx
  obtain ⟨i, _, rfl⟩ := List.mem_map.1 hx
  exact ⟨c.take i, c.drop i, by simp, rfl⟩
end My
end
section
open GkBase
set_option Elab.async false
namespace My
/-! Points at which a ring goes straight on. -/
def Bet (u x y : Pt) : Prop := ∃ t : Rat, 0 < t ∧ t < 1 ∧ x = pt u y t
def Str (a p x : Pt) : Prop := a ≠ x ∧ (a = p ∨ Bet a p x)
def Good (t : Pt × Pt × Pt) : Prop := t.1 ≠ t.2.1 ∧ t.2.1 ≠ t.2.2 ∧ (cross t.1 t.2.1 t.2.2 = 0 → Bet t.1 t.2.1 t.2.2)
theorem bet_ends {u x y : Pt} (h : Bet u x y) (n : u ≠ x) : u ≠ y := by
  obtain ⟨t, _, _, e⟩ := h
  rintro rfl
  apply n
  rw [e, pt_ext]; unfold pt; grind
theorem str_step {a p x y : Pt} (h : Str a p x) (k : Bet p x y) : Str a x y ∧ Bet a x y := by
  obtain ⟨ne, hp⟩ := h
  obtain ⟨s, s0, s1, es⟩ := k
  have hx1 : x.1 = p.1 + s * (y.1 - p.1) := congrArg Prod.fst es
  have hx2 : x.2 = p.2 + s * (y.2 - p.2) := congrArg Prod.snd es
  have : ∃ t : Rat, 0 ≤ t ∧ t < 1 ∧ p = pt a x t := by
    rcases hp with rfl | ⟨t, t0, t1, et⟩
    · exact ⟨0, by decide, by decide, (pt_zero _ _).symm⟩
    · exact ⟨t, by grind, t1, et⟩
  obtain ⟨t, t0, t1, et⟩ := this
  have hp1 : p.1 = a.1 + t * (x.1 - a.1) := congrArg Prod.fst et
  have hp2 : p.2 = a.2 + t * (x.2 - a.2) := congrArg Prod.snd et
  -- x = a + w (y - a), w (1 - (1-s) t) = s
  have st : (1 - s) * t < 1 := by
    have h1 := Rat.mul_nonneg (show 0 ≤ 1 - s by grind) (show 0 ≤ 1 - t by grind)
    have e1 : (1 - s) * (1 - t) = (1 - s) - (1 - s) * t := by grind
    grind
  have dn : 1 - (1 - s) * t ≠ 0 := by grind
  have dv := Rat.div_mul_cancel (a := s) dn
  have w0 : 0 < s / (1 - (1 - s) * t) := by
    generalize s / (1 - (1 - s) * t) = w at *
    have := sgn w (1 - (1 - s) * t)
    grind
  have w1 : s / (1 - (1 - s) * t) < 1 := by
    generalize s / (1 - (1 - s) * t) = w at *
    have h1 := Rat.mul_pos (show 0 < 1 - s by grind) (show 0 < 1 - t by grind)
    have e1 : (1 - s) * (1 - t) = (1 - s) - (1 - s) * t := by grind
    have := sgn (w - 1) (1 - (1 - s) * t)
    have : (w - 1) * (1 - (1 - s) * t) = w * (1 - (1 - s) * t) - (1 - (1 - s) * t) := by grind
    grind
  have hb : Bet a x y := by
    refine ⟨s / (1 - (1 - s) * t), w0, w1, ?_⟩
    generalize s / (1 - (1 - s) * t) = w at *
    have c1 : (x.1 - (a.1 + w * (y.1 - a.1))) * (1 - (1 - s) * t) = 0 := by grind
    have c2 : (x.2 - (a.2 + w * (y.2 - a.2))) * (1 - (1 - s) * t) = 0 := by grind
    rw [pt_ext]; unfold pt
    constructor
    · rcases Rat.mul_eq_zero.1 c1 with r | r <;> grind
    · rcases Rat.mul_eq_zero.1 c2 with r | r <;> grind
  exact ⟨⟨bet_ends hb ne, .inr hb⟩, hb⟩
def Additive (g : Pt → Pt → Int) : Prop := ∀ a b c, Bet a b c → g a c = g a b + g b c
theorem reduce_tot {g : Pt → Pt → Int} (hg : Additive g) : ∀ (xs : List Pt) (a p q : Pt), Str a p (xs.headD q) → (∀ t ∈ lin p xs q, Good t) → tot (chain (a :: keep p xs q) q) g = g a (xs.headD q) + tot (chain xs q) g ∧ Nondeg (chain (a :: keep p xs q) q) := by
  intro xs
  induction xs with
  | nil =>
    intro a p q hs _
    refine ⟨by simp [keep_nil, chain, tot], ?_⟩
    intro s h
    simp only [keep_nil, chain, List.mem_singleton] at h
    rw [h]; exact hs.1
  | cons x xs ih =>
    intro a p q hs hg'
    have gx : Good (p, x, xs.headD q) := hg' _ (by simp [lin])
    have gr : ∀ t ∈ lin x xs q, Good t := fun t ht => hg' t (by simp [lin, ht])
    rw [keep_cons]
    simp only [List.headD_cons] at hs
    by_cases k : cross p x (xs.headD q) = 0
    · rw [if_neg (by simpa using k)]
      obtain ⟨s1, s2⟩ := str_step hs (gx.2.2 k)
      obtain ⟨i1, i2⟩ := ih a x q s1 gr
      refine ⟨?_, i2⟩
      rw [i1, hg a x _ s2]
      simp only [List.headD_cons, chain, tot_cons]; omega
    · rw [if_pos (by simpa using k)]
      obtain ⟨i1, i2⟩ := ih x x q ⟨gx.2.1, .inl rfl⟩ gr
      constructor
      · have : chain (a :: x :: keep x xs q) q = (a, x) :: chain (x :: keep x xs q) q := rfl
        rw [this, tot_cons, i1]
        simp only [List.headD_cons, chain, tot_cons]
      · have : chain (a :: x :: keep x xs q) q = (a, x) :: chain (x :: keep x xs q) q := rfl
        rw [this]
        intro s h
        rcases List.mem_cons.1 h with rfl | h
        · exact hs.1
        · exact i2 s h
/-- a ring with good steps -/
def GoodRing (c : List Pt) : Prop := ∀ o l, c = o :: l → ∀ t ∈ lin ((o :: l).getLastD o) (o :: l) o, Good t
theorem good_rot {a b : List Pt} (h : GoodRing (a ++ b)) : GoodRing (b ++ a) := by
  cases a with
  | nil => simpa using h
  | cons x a =>
    cases b with
    | nil => simpa using h
    | cons y b =>
      have h' := h x (a ++ y :: b) rfl
      intro o l e t ht
      simp only [List.cons_append, List.cons.injEq] at e
      obtain ⟨rfl, rfl⟩ := e
      apply h'
      rw [← List.cons_append, lin_append, List.mem_append]
      rw [← List.cons_append, lin_append, List.mem_append] at ht
      rw [getLastD_append, getLastD_ne x a _ y] at ht
      rw [getLastD_append, getLastD_ne y b _ x]
      have e1 : (y :: b).getLastD x = (y :: b).getLastD y := getLastD_ne _ _ _ _
      have e2 : (x :: a).getLastD y = (x :: a).getLastD x := getLastD_ne _ _ _ _
      rcases ht with ht | ht
      · right
        rw [getLastD_ne x a _ y]
        exact ht
      · left
        rw [getLastD_ne y b _ x] at ht
        exact ht
theorem no_corner {o : Pt} {l : List Pt} (h : GoodRing (o :: l)) : Gk02.corners (o :: l) ≠ [] := by
  intro k
  have hg := h o l rfl
  rw [corners_keep, keep_cons] at k
  split at k
  · simp at k
  · have g0 := hg _ (by rw [lin]; exact List.mem_cons_self)
    have r := (reduce_tot (g := fun _ _ => 0) (fun _ _ _ _ => rfl) l o o o ⟨g0.2.1, .inl rfl⟩ (fun t ht => hg t (by rw [lin]; exact List.mem_cons_of_mem _ ht))).2
    rw [k] at r
    exact r (o, o) (by simp [chain]) rfl
/-- **leaving out where it goes straight on changes no such sum** -/
theorem corners_tot {c : List Pt} (h : GoodRing c) (ne : c ≠ []) : (∀ g, Additive g → tot (sides (Gk02.corners c)) g = tot (sides c) g) ∧ Nondeg (sides (Gk02.corners c)) := by
  -- begin at a corner
  obtain ⟨o, l, rfl⟩ := List.exists_cons_of_ne_nil ne
  have nc := no_corner h
  obtain ⟨x, hx⟩ := List.exists_mem_of_ne_nil _ nc
  rw [corners_keep] at hx
  unfold keep at hx
  obtain ⟨t, ht, hxt⟩ := List.mem_map.1 hx
  obtain ⟨ht, htc⟩ := List.mem_filter.1 ht
  simp only [decide_eq_true_eq] at htc
  have split : ∀ (xs : List Pt) (p q : Pt), t ∈ lin p xs q → ∃ a b, xs = a ++ t.2.1 :: b ∧ t = (a.getLastD p, t.2.1, b.headD q) := by
    intro xs
    induction xs with
    | nil => intro p q h; simp [lin] at h
    | cons y xs ih =>
      intro p q h
      rw [lin] at h
      rcases List.mem_cons.1 h with h | h
      · exact ⟨[], xs, by rw [h]; rfl, by rw [h]; rfl⟩
      · obtain ⟨a, b, e1, e2⟩ := ih y q h
        refine ⟨y :: a, b, by rw [e1]; rfl, ?_⟩
        rw [List.getLastD_cons]; exact e2
  obtain ⟨a, b, e1, e2⟩ := split _ _ _ ht
  generalize t.2.1 = y at *
  rw [e1] at h ⊢
  -- the ring from y on
  have h2 := good_rot h
  rw [List.cons_append] at h2
  have hg := h2 y (b ++ a) rfl
  have cr : Gk02.corners (y :: (b ++ a)) = y :: keep y (b ++ a) y := by
    rw [corners_keep, keep_cons, if_pos]
    have : ((y :: (b ++ a)).getLastD y, y, (b ++ a).headD y) = t := by
      rw [e2]
      cases a with
      | nil =>
        simp only [List.nil_append, List.append_nil] at e1 ⊢
        rw [List.cons.injEq] at e1
        rw [e1.1, e1.2]
        rfl
      | cons z a =>
        simp only [List.cons_append, List.cons.injEq] at e1
        rw [← e1.1]
        congr 1
        · rw [← List.cons_append, getLastD_append]
          rw [List.getLastD_cons, List.getLastD_cons]
        · cases b with
          | nil => rfl
          | cons w b => rfl
    rw [← this] at htc
    exact htc
  have g0 := hg _ (by rw [lin]; exact List.mem_cons_self)
  have R := fun (g : Pt → Pt → Int) (hgg : Additive g) => reduce_tot hgg (b ++ a) y y y ⟨g0.2.1, .inl rfl⟩ (fun t ht => hg t (by rw [lin]; exact List.mem_cons_of_mem _ ht))
  have sc : sides (Gk02.corners (y :: (b ++ a))) = chain (y :: keep y (b ++ a) y) y := by rw [cr, sides_chain]
  have main : ∀ g, Additive g → tot (sides (Gk02.corners (y :: b ++ a))) g = tot (sides (y :: b ++ a)) g := by
    intro g hgg
    rw [List.cons_append, sc, (R g hgg).1, sides_chain]
    simp only [chain, tot_cons]
  have nd : Nondeg (sides (Gk02.corners (y :: b ++ a))) := by
    rw [List.cons_append, sc]
    exact (R (fun _ _ => 0) (fun _ _ _ _ => rfl)).2
  obtain ⟨u, w, c1, c2⟩ := corners_rot a (y :: b)
  have pm : (sides (Gk02.corners (a ++ y :: b))).Perm (sides (Gk02.corners (y :: b ++ a))) := by
    rw [c1, c2]; exact sides_rot u w
  constructor
  · intro g hgg
    rw [tot_perm pm, main g hgg, tot_perm (sides_rot (y :: b) a)]
  · intro s hs
    exact nd s (pm.mem_iff.1 hs)
end My
end
section
open GkBase
set_option Elab.async false
namespace My
/-! Rings of boundary darts. -/
theorem cyc_split {α : Type} [DecidableEq α] {f : α → α} {a b : List α} {d : α} (h : Cyc f (a ++ d :: b)) : f d = b.headD ((a ++ d :: b).head h.ne) := by
  have hl : a.length < (a ++ d :: b).length := by simp
  have := cyc_next h hl
  have ed : (a ++ d :: b)[a.length] = d := by simp
  rw [ed] at this
  rw [this]
  cases b with
  | nil =>
    have e : (a.length + 1) % (a ++ [d]).length = 0 := by simp
    simp only [e]
    simp only [List.headD_nil]
    rw [List.head_eq_getElem]
  | cons y b =>
    have e : (a.length + 1) % (a ++ d :: y :: b).length = a.length + 1 := Nat.mod_eq_of_lt (by simp)
    simp only [e]
    simp
abbrev ptsOf (l : List Seg) (c : List Gk01.Dart) : List Pt := c.map fun (d : Gk01.Dart) => pa l d.1
abbrev segP (l : List Seg) (d : Gk01.Dart) : Seg := (pa l d.1, pa l d.2)
theorem next_fst (r : List (List Nat)) (b : List Gk01.Dart) (d : Gk01.Dart) : (Gk02.nextOf r b d).1 = d.2 := rfl
theorem headD_map {α β : Type} (g : α → β) (l : List α) (x : α) : (l.map g).headD (g x) = g (l.headD x) := by cases l <;> rfl
theorem sides_cyc {l : List Seg} {r : List (List Nat)} {B : List Gk01.Dart} {c : List Gk01.Dart} (h : Cyc (Gk02.nextOf r B) c) : sides (ptsOf l c) = c.map (segP l) := by
  obtain ⟨d0, c0, e⟩ := List.exists_cons_of_ne_nil h.ne
  subst e
  show sides (pa l d0.1 :: ptsOf l c0) = _
  rw [sides_chain]
  have key : ∀ (b a : List Gk01.Dart) (d : Gk01.Dart) (h : Cyc (Gk02.nextOf r B) (a ++ d :: b)), chain (ptsOf l (d :: b)) (pa l ((a ++ d :: b).head h.ne).1) = (d :: b).map (segP l) := by
    intro b
    induction b with
    | nil =>
      intro a d h
      have := congrArg Prod.fst (cyc_split h)
      rw [next_fst] at this
      simp only [ptsOf, List.map_cons, List.map_nil, chain, List.headD_nil, segP]
      rw [this]; rfl
    | cons y b ih =>
      intro a d h
      have s := congrArg Prod.fst (cyc_split h)
      rw [next_fst] at s
      have h' : Cyc (Gk02.nextOf r B) ((a ++ [d]) ++ y :: b) := by simpa using h
      have := ih (a ++ [d]) y h'
      have hh : ((a ++ [d]) ++ y :: b).head h'.ne = (a ++ d :: y :: b).head h.ne := by simp
      rw [hh] at this
      simp only [ptsOf, List.map_cons, chain, List.headD_cons] at this ⊢
      rw [this]
      congr 1
      simp only [segP, Prod.mk.injEq, true_and]
      rw [s]; rfl
  exact key c0 [] d0 h
/-- two boundary darts, one behind the other -/
theorem good_step {e : Rat} {l r1 r2 : List Seg} (E : Env e l r1 r2) (G : Int → Int → Bool) {d : Gk01.Dart} (h : d ∈ bnd l (tst r1 r2 G)) : Good (pa l d.1, pa l d.2, pa l (Gk02.nextOf (Gk01.rounds (Gk01.mapOf l)) (bnd l (tst r1 r2 G)) d).2) := by
  have hn := (next_inj E G).map d h
  have e1 := next_fst (Gk01.rounds (Gk01.mapOf l)) (bnd l (tst r1 r2 G)) d
  generalize Gk02.nextOf (Gk01.rounds (Gk01.mapOf l)) (bnd l (tst r1 r2 G)) d = d' at *
  obtain ⟨u, v⟩ := d
  obtain ⟨v', w⟩ := d'
  simp only [] at e1
  subst e1
  simp only []
  obtain ⟨hu, t1, t2⟩ := mem_bnd.1 h
  obtain ⟨hw, t3, t4⟩ := mem_bnd.1 hn
  have du := dart_pa (dart_swap.1 hu)
  have dw := dart_pa hw
  refine ⟨(dart_ne du.2.2).symm, dart_ne dw.2.2, fun hc => ?_⟩
  have uw : pa l u ≠ pa l w := by
    intro k
    have := pa_inj du.2.1 dw.2.1 k
    subst this
    rw [t2] at t3; simp at t3
  have cvu : cross (pa l v') (pa l u) (pa l w) = 0 := by
    have : cross (pa l v') (pa l u) (pa l w) = - cross (pa l u) (pa l v') (pa l w) := by unfold cross; grind
    rw [this, hc]; rfl
  have opp : ¬ (lt (pa l v') (pa l u) ↔ lt (pa l v') (pa l w)) := by
    intro k
    have vx := dart_vert du.2.2
    have vy := dart_vert dw.2.2
    have := dart_sl E.ctx du.2.2 dw.2.2 uw k
    exact this ((sl_lt (dart_key E.ctx du.2.2) (dart_key E.ctx dw.2.2) (by rw [← E.ctx.gen _ _ vx.1 vx.2, ← E.ctx.gen _ _ vx.1 vy.2]; exact k)).2.2 cvu)
  have x1 := dart_edge du.2.2
  have x2 := dart_edge dw.2.2
  have : (lt (pa l u) (pa l v') ∧ lt (pa l v') (pa l w)) ∨ (lt (pa l w) (pa l v') ∧ lt (pa l v') (pa l u)) := by
    rcases x1 with ⟨a1, a2, _⟩ | ⟨a1, a2, _⟩ <;> rcases x2 with ⟨b1, b2, _⟩ | ⟨b1, b2, _⟩
    · exact absurd ⟨fun _ => b1, fun _ => a1⟩ opp
    · exact .inr ⟨b1, a1⟩
    · exact .inl ⟨a1, b1⟩
    · exact absurd ⟨fun z => absurd z a2, fun z => absurd z b2⟩ opp
  generalize pa l u = A at *
  generalize pa l v' = V at *
  generalize pa l w = C at *
  rcases this with ⟨k1, k2⟩ | ⟨k1, k2⟩
  · have k3 := lt_trans k1 k2
    have hl : cross A C V = 0 := by
      have : cross A C V = - cross A V C := by unfold cross; grind
      rw [this, hc]; rfl
    exact (within_iff k3).1 ⟨hl, k1, k2⟩
  · have k3 := lt_trans k1 k2
    have hl : cross C A V = 0 := by
      have : cross C A V = cross A V C := by unfold cross; grind
      rw [this, hc]
    obtain ⟨t, t0, t1, et⟩ := (within_iff k3).1 ⟨hl, k1, k2⟩
    refine ⟨1 - t, by grind, by grind, ?_⟩
    rw [et, pt_swap]
theorem lin_split {t : Pt × Pt × Pt} : ∀ (xs : List Pt) (p q : Pt), t ∈ lin p xs q → ∃ a b, xs = a ++ t.2.1 :: b ∧ t = (a.getLastD p, t.2.1, b.headD q) := by
  intro xs
  induction xs with
  | nil => intro p q h; simp [lin] at h
  | cons y xs ih =>
    intro p q h
    rw [lin] at h
    rcases List.mem_cons.1 h with h | h
    · exact ⟨[], xs, by rw [h]; rfl, by rw [h]; rfl⟩
    · obtain ⟨a, b, e1, e2⟩ := ih y q h
      refine ⟨y :: a, b, by rw [e1]; rfl, ?_⟩
      rw [List.getLastD_cons]; exact e2
theorem good_cyc {e : Rat} {l r1 r2 : List Seg} (E : Env e l r1 r2) (G : Int → Int → Bool) {c : List Gk01.Dart} (h : Cyc (Gk02.nextOf (Gk01.rounds (Gk01.mapOf l)) (bnd l (tst r1 r2 G))) c) (hB : ∀ d ∈ c, d ∈ bnd l (tst r1 r2 G)) : GoodRing (ptsOf l c) := by
  intro o r eo t ht
  obtain ⟨a', b', e1, e2⟩ := lin_split _ _ _ ht
  rw [← eo] at e1
  obtain ⟨a, rest, ec, ea, er⟩ := List.map_eq_append_iff.1 e1
  obtain ⟨d, b, erest, ed, eb⟩ := List.map_eq_cons_iff.1 er
  subst erest
  subst ec
  have hd : d ∈ bnd l (tst r1 r2 G) := hB d (by simp)
  have ohead : o = pa l ((a ++ d :: b).head h.ne).1 := by
    cases a with
    | nil => simp [ptsOf] at eo; simp [eo.1]
    | cons z a => simp [ptsOf] at eo; simp [eo.1]
  have nx : b'.headD o = pa l d.2 := by
    have s := congrArg Prod.fst (cyc_split h)
    rw [next_fst] at s
    rw [← eb, ohead]
    have := headD_map (fun (d : Gk01.Dart) => pa l d.1) b ((a ++ d :: b).head h.ne)
    rw [this, s]
  -- the one before
  have pv : ∃ d', d' ∈ bnd l (tst r1 r2 G) ∧ Gk02.nextOf (Gk01.rounds (Gk01.mapOf l)) (bnd l (tst r1 r2 G)) d' = d ∧ a'.getLastD ((o :: r).getLastD o) = pa l d'.1 := by
    rcases List.eq_nil_or_concat a with ra | ⟨a0, z, ra⟩
    · subst ra
      rcases List.eq_nil_or_concat b with rb | ⟨b0, z, rb⟩
      · subst rb
        refine ⟨d, hd, ?_, ?_⟩
        · have := cyc_split h
          simpa using this
        · rw [← ea]
          simp [ptsOf] at eo
          simp [eo.1, eo.2]
      · subst rb
        refine ⟨z, hB z (by simp), ?_, ?_⟩
        · have h' : Cyc (Gk02.nextOf (Gk01.rounds (Gk01.mapOf l)) (bnd l (tst r1 r2 G))) ((d :: b0) ++ z :: []) := by simpa using h
          have := cyc_split h'
          simpa using this
        · rw [← ea]
          have : o :: r = (pa l d.1 :: ptsOf l b0) ++ [pa l z.1] := by rw [← eo]; simp [ptsOf]
          rw [this, getLastD_append]; rfl
    · subst ra
      refine ⟨z, hB z (by simp), ?_, ?_⟩
      · have h' : Cyc (Gk02.nextOf (Gk01.rounds (Gk01.mapOf l)) (bnd l (tst r1 r2 G))) (a0 ++ z :: (d :: b)) := by simpa using h
        have := cyc_split h'
        simpa using this
      · rw [← ea]; simp
  obtain ⟨d', hd', en, el⟩ := pv
  have g := good_step E G hd'
  rw [en] at g
  have f1 := next_fst (Gk01.rounds (Gk01.mapOf l)) (bnd l (tst r1 r2 G)) d'
  rw [en] at f1
  rw [e2, nx, el, ← ed, f1]
  exact g
end My
end
section
open GkBase
set_option Elab.async false
namespace My
/-! A region's sides and the boundary. -/
theorem ringFrom_orb (r : List (List Nat)) (b : List Gk01.Dart) (start : Gk01.Dart) (f : Nat) (d : Gk01.Dart) : Gk02.ringFrom r b start f d = orb (Gk02.nextOf r b) start f d := by
  induction f generalizing d with
  | zero => rfl
  | succ f ih =>
    simp only [Gk02.ringFrom, orb]
    split
    · rfl
    · rw [ih]
theorem rings_allc (l : List Seg) (b : List Gk01.Dart) : Gk02.rings (Gk01.mapOf l) b = allc (Gk02.nextOf (Gk01.rounds (Gk01.mapOf l)) b) b.length b [] := by
  unfold Gk02.rings allc
  simp only [ringFrom_orb]
  have : ∀ (c : List Gk01.Dart) (d : Gk01.Dart), c.contains d = @List.contains _ instBEqOfDecidableEq c d := by
    intro c d
    have h1 : c.contains d = true ↔ d ∈ c := List.contains_iff_mem
    have h2 : @List.contains _ instBEqOfDecidableEq c d = true ↔ d ∈ c := @List.contains_iff_mem _ instBEqOfDecidableEq inferInstance d c
    rw [Bool.eq_iff_iff, h1, h2]
  simp only [this]
theorem perm_insertRing (c : List Pt) (l : List (List Pt)) : (Gk02.insertRing c l).Perm (c :: l) := by
  induction l with
  | nil => exact List.Perm.refl _
  | cons d l ih =>
    unfold Gk02.insertRing
    split
    · exact List.Perm.refl _
    · exact (List.Perm.cons d ih).trans (List.Perm.swap c d l)
theorem perm_insertRings (xs l : List (List Pt)) : (xs.foldl (fun (l : List (List Pt)) (c : List Pt) => Gk02.insertRing c l) l).Perm (l ++ xs) := by
  induction xs generalizing l with
  | nil => simp
  | cons c xs ih =>
    rw [List.foldl_cons]
    refine (ih _).trans ?_
    refine (List.Perm.append_right xs (perm_insertRing c l)).trans ?_
    simp only [List.cons_append]
    exact List.perm_middle.symm
/-- a ring of darts told -/
def told (l : List Seg) (c : List Gk01.Dart) : List Pt := Gk02.turned (Gk02.corners (ptsOf l c))
theorem regionOf_eq (l : List Seg) (test : Pt → Bool) : Gk02.regionOf l test = ((allc (Gk02.nextOf (Gk01.rounds (Gk01.mapOf l)) (bnd l test)) (bnd l test).length (bnd l test) []).map (told l)).foldl (fun (l : List (List Pt)) (c : List Pt) => Gk02.insertRing c l) [] := by
  show ((Gk02.rings (Gk01.mapOf l) (bnd l test)).map fun (c : List Gk01.Dart) => Gk02.turned (Gk02.corners (c.map fun (d : Gk01.Dart) => Gk01.at_ (Gk01.mapOf l) d.1))).foldl _ [] = _
  rw [rings_allc]; rfl
theorem sides_turned (c : List Pt) : (sides (Gk02.turned c)).Perm (sides c) := by
  obtain ⟨a, b, e1, e2⟩ := turned_rot c
  rw [e2]
  conv => rhs; rw [e1]
  exact sides_rot b a
theorem sidesOf_perm {r r' : List (List Pt)} (h : r.Perm r') : (Gk02.sidesOf r).Perm (Gk02.sidesOf r') := by
  unfold Gk02.sidesOf; exact List.Perm.flatMap_right _ h
/-- **a region's sides and the boundary have the same sums** -/
theorem region_tot {e : Rat} {l r1 r2 : List Seg} (E : Env e l r1 r2) (G : Int → Int → Bool) : (∀ g, Additive g → tot (Gk02.sidesOf (Gk02.regionOf l (tst r1 r2 G))) g = tot ((bnd l (tst r1 r2 G)).map (segP l)) g) ∧ Nondeg (Gk02.sidesOf (Gk02.regionOf l (tst r1 r2 G))) := by
  have P := allc_parts (next_inj E G) (bnd l (tst r1 r2 G)) (fun x => Iff.rfl)
  rw [regionOf_eq]
  generalize hR : allc (Gk02.nextOf (Gk01.rounds (Gk01.mapOf l)) (bnd l (tst r1 r2 G))) (bnd l (tst r1 r2 G)).length (bnd l (tst r1 r2 G)) [] = R at *
  have pm : ((R.map (told l)).foldl (fun (l : List (List Pt)) (c : List Pt) => Gk02.insertRing c l) []).Perm (R.map (told l)) := by simpa using perm_insertRings (R.map (told l)) []
  have sp := sidesOf_perm pm
  have inB : ∀ c ∈ R, ∀ d ∈ c, d ∈ bnd l (tst r1 r2 G) := fun c hc d hd => (P.mem d).1 (List.mem_flatten.2 ⟨c, hc, hd⟩)
  have each : ∀ c ∈ R, (∀ g, Additive g → tot (sides (told l c)) g = tot (c.map (segP l)) g) ∧ Nondeg (sides (told l c)) := by
    intro c hc
    have cy := P.cyc c hc
    have gc := good_cyc E G cy (inB c hc)
    have ne : ptsOf l c ≠ [] := by simpa [ptsOf] using cy.ne
    obtain ⟨k1, k2⟩ := corners_tot gc ne
    have st := sides_turned (Gk02.corners (ptsOf l c))
    constructor
    · intro g hg
      unfold told
      rw [tot_perm st, k1 g hg, sides_cyc cy]
    · intro s hs
      exact k2 s (st.mem_iff.1 hs)
  have bp : R.flatten.Perm (bnd l (tst r1 r2 G)) := (List.perm_ext_iff_of_nodup P.nd (bnd_nodup _ _)).2 P.mem
  constructor
  · intro g hg
    rw [tot_perm sp, ← tot_perm (bp.map (segP l))]
    unfold Gk02.sidesOf
    rw [tot_flatMap]
    clear sp pm bp P hR inB
    induction R with
    | nil => rfl
    | cons c R ih =>
      rw [List.flatten_cons, List.map_append, tot_append, ← ih (fun c hc => each c (by simp [hc])), ← (each c (by simp)).1 g hg]
      simp
  · intro s hs
    have hs := sp.mem_iff.1 hs
    unfold Gk02.sidesOf at hs
    obtain ⟨c', hc', hs'⟩ := List.mem_flatMap.1 hs
    obtain ⟨c, hc, rfl⟩ := List.mem_map.1 hc'
    exact (each c hc).2 s hs'
/-! Crossings add up along a side. -/
theorem bet_key {a b c : Pt} (h : Bet a b c) : ∃ t : Rat, 0 < t ∧ t < 1 ∧ (∀ e, key e b = key e a + t * (key e c - key e a)) ∧ (∀ p, cross a b p = t * cross a c p) ∧ ∀ p, cross b c p = (1 - t) * cross a c p := by
  obtain ⟨t, t0, t1, rfl⟩ := h
  exact ⟨t, t0, t1, fun e => key_pt e a c t, fun p => by unfold cross pt; grind, fun p => by unfold cross pt; grind⟩
theorem vk_add (e : Rat) (p : Pt) : Additive (fun a b => vk e a b p) := by
  intro a b c h
  obtain ⟨t, t0, t1, h1, h2, h3⟩ := bet_key h
  have h1 := h1 e
  have s1 := sgn t (cross a c p)
  have s2 := sgn (1 - t) (cross a c p)
  have s3 := sgn t (key e c - key e a)
  have s4 := sgn (1 - t) (key e c - key e a)
  have e4 : (1 - t) * (key e c - key e a) = (key e c - key e a) - t * (key e c - key e a) := by grind
  simp only [vk]
  rw [h2 p, h3 p]
  generalize t * cross a c p = m1 at *
  generalize (1 - t) * cross a c p = m2 at *
  generalize cross a c p = m at *
  generalize t * (key e c - key e a) = n1 at *
  generalize (1 - t) * (key e c - key e a) = n2 at *
  grind (splits := 40)
end My
end
section
open GkBase
set_option Elab.async false
namespace My
/-! How often a region's rings go round a point: once or not at all. -/
theorem darts_perm (l : List Seg) : (Gk01.darts (Gk01.mapOf l)).Perm ((Gk01.mapOf l).edges ++ (Gk01.mapOf l).edges.map fun (e : Gk01.Edge) => (e.2, e.1)) := by
  have nd : ((Gk01.mapOf l).edges ++ (Gk01.mapOf l).edges.map fun (e : Gk01.Edge) => (e.2, e.1)).Nodup := by
    rw [List.nodup_append]
    refine ⟨edges_nodup l, ?_, ?_⟩
    · have hnd := edges_nodup l
      generalize (Gk01.mapOf l).edges = es at *
      induction es with
      | nil => simp
      | cons x es ih =>
        rw [List.nodup_cons] at hnd
        rw [List.map_cons, List.nodup_cons]
        refine ⟨fun h => ?_, ih hnd.2⟩
        obtain ⟨y, hy, k⟩ := List.mem_map.1 h
        have : x = y := by
          obtain ⟨x1, x2⟩ := x
          obtain ⟨y1, y2⟩ := y
          simp at k ⊢; omega
        subst this
        exact hnd.1 hy
    · intro a ha b hb k
      subst k
      obtain ⟨y, hy, k⟩ := List.mem_map.1 hb
      have h1 := edge_lt (i := a.1) (j := a.2) ha
      have h2 := edge_lt (i := y.1) (j := y.2) hy
      rw [← k] at h1
      simp at h1; omega
  refine (List.perm_ext_iff_of_nodup (darts_nodup l) nd).2 ?_
  rintro ⟨i, j⟩
  rw [mem_darts, List.mem_append, mem_edges, List.mem_map]
  constructor
  · rintro ⟨h1, h2, h3 | h3⟩
    · exact .inl ⟨h1, h2, h3⟩
    · exact .inr ⟨(j, i), mem_edges.2 ⟨h2, h1, h3⟩, rfl⟩
  · rintro (⟨h1, h2, h3⟩ | ⟨⟨a, b⟩, h, k⟩)
    · exact ⟨h1, h2, .inl h3⟩
    · simp only [Prod.mk.injEq] at k
      obtain ⟨rfl, rfl⟩ := k
      obtain ⟨h1, h2, h3⟩ := mem_edges.1 h
      exact ⟨h2, h1, .inr h3⟩
theorem tot_filter {α : Type} (L : List α) (P : α → Bool) (sg : α → Seg) (g : Pt → Pt → Int) : tot ((L.filter P).map sg) g = (L.map fun d => if P d = true then g (sg d).1 (sg d).2 else 0).sum := by
  induction L with
  | nil => rfl
  | cons x L ih =>
    rw [List.filter_cons]
    simp only [List.map_cons, List.sum_cons]
    rw [← ih]
    cases hp : P x
    · simp
    · simp only [if_true, List.map_cons, tot_cons]
def B2I (b : Bool) : Int := if b = true then 1 else 0
/-- the boundary's sum, edge by edge -/
theorem bnd_sum (l : List Seg) (test : Pt → Bool) (g : Pt → Pt → Int) (hg : ∀ a b, g b a = - g a b) : tot ((bnd l test).map (segP l)) g = ((Gk01.mapOf l).edges.map fun (d : Gk01.Edge) => g (pa l d.1) (pa l d.2) * (B2I (test (Gk02.leftOf (Gk01.mapOf l) d)) - B2I (test (Gk02.leftOf (Gk01.mapOf l) (d.2, d.1))))).sum := by
  unfold bnd
  have p := (darts_perm l).filter (fun (d : Gk01.Dart) => test (Gk02.leftOf (Gk01.mapOf l) d) && !test (Gk02.leftOf (Gk01.mapOf l) (d.2, d.1)))
  rw [tot_perm (p.map (segP l)), tot_filter, List.map_append, List.sum_append, List.map_map, ← sum_add]
  refine sum_congr fun d _ => ?_
  simp only [Function.comp, Bool.and_eq_true, Bool.not_eq_true']
  rw [hg (pa l d.1) (pa l d.2)]
  cases test (Gk02.leftOf (Gk01.mapOf l) d) <;> cases test (Gk02.leftOf (Gk01.mapOf l) (d.2, d.1)) <;> simp [B2I]
theorem vk_swap (e : Rat) (a b p : Pt) : vk e b a p = - vk e a b p := by
  unfold vk; rw [cross_rev]; grind
/-- a point on the slanted line through p -/
def zY (e k Y : Rat) : Pt := (k - e * Y, Y)
theorem key_zY (e k Y : Rat) : key e (zY e k Y) = k := by unfold key zY; grind
theorem zY_self (e : Rat) (p : Pt) : zY e (key e p) p.2 = p := by rw [pt_ext]; unfold zY key; grind
/-- where that line meets a side's line -/
def hgt (e k : Rat) (a b : Pt) : Rat := a.2 + (k - key e a) / (key e b - key e a) * (b.2 - a.2)
theorem cross_zY {e k : Rat} {a b : Pt} (h : key e a ≠ key e b) (Y : Rat) : cross a b (zY e k Y) = (key e b - key e a) * (Y - hgt e k a b) := by
  have ne : key e b - key e a ≠ 0 := by grind
  have d := Rat.div_mul_cancel (a := k - key e a) ne
  rw [cross_key e, key_zY]
  unfold hgt
  generalize (k - key e a) / (key e b - key e a) = t at *
  show (key e b - key e a) * (Y - a.2) - (b.2 - a.2) * (k - key e a) = _
  grind
theorem zY_hgt {e k : Rat} {a b : Pt} (h : key e a ≠ key e b) : zY e k (hgt e k a b) = pt a b ((k - key e a) / (key e b - key e a)) := by
  have ne : key e b - key e a ≠ 0 := by grind
  have d := Rat.div_mul_cancel (a := k - key e a) ne
  unfold hgt
  generalize (k - key e a) / (key e b - key e a) = t at *
  rw [pt_ext]; unfold zY pt
  refine ⟨?_, rfl⟩
  unfold key at *
  grind
theorem within_hgt {e k : Rat} {a b : Pt} (hl : lt a b) (h1 : key e a < k) (h2 : k < key e b) : Within a b (zY e k (hgt e k a b)) := by
  have ne : key e b - key e a ≠ 0 := by grind
  have d := Rat.div_mul_cancel (a := k - key e a) ne
  rw [zY_hgt (by grind)]
  refine within_pt hl ?_ ?_
  · generalize (k - key e a) / (key e b - key e a) = t at *
    have := sgn t (key e b - key e a)
    grind
  · generalize (k - key e a) / (key e b - key e a) = t at *
    have := sgn (t - 1) (key e b - key e a)
    have : (t - 1) * (key e b - key e a) = t * (key e b - key e a) - (key e b - key e a) := by grind
    grind
theorem edge_unique {l : List Seg} (hn : Nondeg l) {a b a' b' z : Pt} (he : Edge l a b) (he' : Edge l a' b') (hz : Within a b z) (hz' : Within a' b' z) : a = a' ∧ b = b' := by
  obtain ⟨s, hs, oa, ob, _⟩ := he.2.2.2
  have oz : onS z s.1 s.2 := by
    obtain ⟨c, d, cd, hcd, _⟩ := side_or hn hs
    rw [hcd] at oa ob ⊢
    exact onS_between cd oa ob he.1 hz.1 (lt_asymm hz.2.1) (lt_asymm hz.2.2)
  obtain ⟨oa', ob'⟩ := edge_in hn he' hs hz' oz
  have lin : ∀ x y w, onS x s.1 s.2 → onS y s.1 s.2 → onS w s.1 s.2 → cross x y w = 0 := by
    intro x y w hx hy hw
    obtain ⟨t1, _, _, e1⟩ := onS_iff.1 hx
    obtain ⟨t2, _, _, e2⟩ := onS_iff.1 hy
    obtain ⟨t3, _, _, e3⟩ := onS_iff.1 hw
    rw [e1, e2, e3]; unfold cross pt; grind
  constructor
  · rcases lt_tri a a' with k | k | k
    · exact (edge_novert hn he he'.2.1 ⟨lin _ _ _ oa ob oa', k, lt_trans hz'.2.1 hz.2.2⟩).elim
    · exact k
    · exact (edge_novert hn he' he.2.1 ⟨lin _ _ _ oa' ob' oa, k, lt_trans hz.2.1 hz'.2.2⟩).elim
  · rcases lt_tri b b' with k | k | k
    · exact (edge_novert hn he' he.2.2.1 ⟨lin _ _ _ oa' ob' ob, lt_trans hz'.2.1 hz.2.2, k⟩).elim
    · exact k
    · exact (edge_novert hn he he'.2.2.1 ⟨lin _ _ _ oa ob ob', lt_trans hz.2.1 hz'.2.2, k⟩).elim
/-- the same all along an edge -/
theorem along_eq {e : Rat} {l r : List Seg} (c : Ctx e l) (hr : ∀ s ∈ r, s ∈ l) (cl : Closed r) {a b : Pt} (he : Edge l a b) {z : Pt} (hz : Within a b z) : tot r (fun x y => vk e x y z) = val e r a b ∧ tot r (fun x y => vk e x y z + th e x y z) = val e r b a := by
  have kk := (c.gen a b he.2.1 he.2.2.1).1 he.1
  have hm := within_mid he.1
  have e1 : tot r (fun x y => vk e x y z) = tot r (fun x y => vk e x y (mid a b)) := by
    rcases (show key e z < key e (mid a b) ∨ key e (mid a b) < key e z ∨ key e z = key e (mid a b) by grind) with k | k | k
    · exact along c.nd hr cl he hz hm k
    · exact (along c.nd hr cl he hm hz k).symm
    · obtain ⟨t, t0, t1, rfl⟩ := (within_iff he.1).1 hz
      rw [mid_pt, key_pt, key_pt] at k
      have : (t - 1 / 2) * (key e b - key e a) = 0 := by grind
      rcases Rat.mul_eq_zero.1 this with q | q
      · have : t = 1 / 2 := by grind
        rw [this, mid_pt]
      · grind
  have e2 : tot r (fun x y => th e x y z) = tot r (fun x y => th e x y (mid a b)) := tot_congr fun s hs => along_th c.nd he kk hz hm (hr s hs)
  constructor
  · rw [e1, val, if_pos he.1]
  · rw [val, if_neg (lt_asymm he.1), mid_comm b a, tot_add, tot_add, e1, e2]
end My
end
section
open GkBase
set_option Elab.async false
namespace My
theorem side_edge {e : Rat} {l : List Seg} (c : Ctx e l) {p : Pt} (hg : ∀ x, Vert l x → key e x = key e p → x = p) {s : Seg} (hs : s ∈ l) (hc : (key e s.1 ≤ key e p ∧ key e p < key e s.2) ∨ (key e s.2 ≤ key e p ∧ key e p < key e s.1)) (hh : p.2 < hgt e (key e p) s.1 s.2) : ∃ a b, Edge l a b ∧ key e a < key e p ∧ key e p < key e b ∧ hgt e (key e p) a b = hgt e (key e p) s.1 s.2 := by
  have ne : key e s.1 ≠ key e s.2 := by grind
  have cz := cross_zY (k := key e p) ne (hgt e (key e p) s.1 s.2)
  have z0 : cross s.1 s.2 (zY e (key e p) (hgt e (key e p) s.1 s.2)) = 0 := by rw [cz]; grind
  generalize hW : zY e (key e p) (hgt e (key e p) s.1 s.2) = w at *
  have kw : key e w = key e p := by rw [← hW, key_zY]
  have w2 : w.2 = hgt e (key e p) s.1 s.2 := by rw [← hW]; rfl
  have ow : onS w s.1 s.2 := by
    rcases hc with hc | hc
    · exact on_of_key (e := e) z0 (by grind) (by grind)
    · exact on_of_key' (e := e) z0 (by grind) (by grind)
  obtain ⟨a, b, he, _, _, oz⟩ := cover c.nd hs ow
  have kk := (c.gen a b he.2.1 he.2.2.1).1 he.1
  have ok := onS_of_key (e := e) oz
  have na : key e a ≠ key e p := by
    intro q
    have ap := hg a he.2.1 q
    have cc := oz.1
    rw [cross_key e, kw, q] at cc
    have : (key e b - key e p) * (w.2 - a.2) = 0 := by grind
    rcases Rat.mul_eq_zero.1 this with r | r
    · grind
    · rw [ap] at r; grind
  have nb : key e b ≠ key e p := by
    intro q
    have bp := hg b he.2.2.1 q
    have cc := oz.1
    rw [cross_key e, kw, q] at cc
    have : (key e p - key e a) * (w.2 - b.2) = 0 := by grind
    rcases Rat.mul_eq_zero.1 this with r | r
    · grind
    · rw [bp] at r; grind
  refine ⟨a, b, he, by grind, by grind, ?_⟩
  have c2 := cross_zY (e := e) (k := key e p) (a := a) (b := b) (by grind) (hgt e (key e p) s.1 s.2)
  rw [hW, oz.1] at c2
  rcases Rat.mul_eq_zero.1 c2.symm with r | r <;> grind
theorem vk_zY {e k : Rat} {a b : Pt} (Y : Rat) : vk e a b (zY e k Y) = (if key e a ≤ k ∧ k < key e b ∧ Y < hgt e k a b then -1 else if key e b ≤ k ∧ k < key e a ∧ Y < hgt e k a b then 1 else 0) := by
  unfold vk
  rw [key_zY]
  by_cases h : key e a = key e b
  · grind
  · rw [cross_zY h Y]
    have := sgn (key e b - key e a) (Y - hgt e k a b)
    grind
theorem vt_zY {e k : Rat} {a b : Pt} (Y : Rat) : vk e a b (zY e k Y) + th e a b (zY e k Y) = (if key e a ≤ k ∧ k < key e b ∧ Y ≤ hgt e k a b then -1 else if key e b ≤ k ∧ k < key e a ∧ Y ≤ hgt e k a b then 1 else 0) := by
  unfold vk th
  rw [key_zY]
  by_cases h : key e a = key e b
  · grind
  · rw [cross_zY h Y]
    have := sgn (key e b - key e a) (Y - hgt e k a b)
    grind
/-- **once or not at all** -/
theorem bnd_01 {e : Rat} {l r1 r2 : List Seg} (E : Env e l r1 r2) (G : Int → Int → Bool) (G0 : G 0 0 = false) {p : Pt} (hg : ∀ x, Vert l x → key e x = key e p → x = p) : tot ((bnd l (tst r1 r2 G)).map (segP l)) (fun a b => vk e a b p) = B2I (G (tot r1 (fun a b => vk e a b p)) (tot r2 (fun a b => vk e a b p))) := by
  rw [bnd_sum _ _ _ (fun a b => vk_swap e a b p)]
  have ed : ∀ d ∈ (Gk01.mapOf l).edges, Edge l (pa l d.1) (pa l d.2) ∧ key e (pa l d.1) < key e (pa l d.2) := by
    rintro ⟨i, j⟩ h
    obtain ⟨hi, hj, he⟩ := mem_edges.1 h
    exact ⟨he, (E.ctx.gen _ _ he.2.1 he.2.2.1).1 he.1⟩
  have T := tele (edges_nodup l) (fun (d : Gk01.Edge) => key e (pa l d.1) < key e p ∧ key e p < key e (pa l d.2)) (fun (d : Gk01.Edge) => hgt e (key e p) (pa l d.1) (pa l d.2)) (fun Y => B2I (G (tot r1 (fun a b => vk e a b (zY e (key e p) Y))) (tot r2 (fun a b => vk e a b (zY e (key e p) Y))))) (fun (d : Gk01.Edge) => B2I (G (val e r1 (pa l d.2) (pa l d.1)) (val e r2 (pa l d.2) (pa l d.1)))) (fun (d : Gk01.Edge) => B2I (G (val e r1 (pa l d.1) (pa l d.2)) (val e r2 (pa l d.1) (pa l d.2)))) p.2
    (by
      rintro d hd ⟨x1, x2⟩ _
      obtain ⟨he, kk⟩ := ed d hd
      have w := within_hgt he.1 x1 x2
      rw [(along_eq E.ctx E.s1 E.c1 he w).1, (along_eq E.ctx E.s2 E.c2 he w).1])
    (by
      rintro Y hY d hd ⟨x1, x2⟩ hyd hmin
      obtain ⟨he, kk⟩ := ed d hd
      have w := within_hgt he.1 x1 x2
      have per : ∀ r : List Seg, (∀ s ∈ r, s ∈ l) → tot r (fun a b => vk e a b (zY e (key e p) Y)) = tot r (fun a b => vk e a b (zY e (key e p) (hgt e (key e p) (pa l d.1) (pa l d.2))) + th e a b (zY e (key e p) (hgt e (key e p) (pa l d.1) (pa l d.2)))) := by
        intro r hr
        refine tot_congr fun s hs => ?_
        rw [vt_zY, vk_zY]
        by_cases cr : (key e s.1 ≤ key e p ∧ key e p < key e s.2) ∨ (key e s.2 ≤ key e p ∧ key e p < key e s.1)
        · have iff : Y < hgt e (key e p) s.1 s.2 ↔ hgt e (key e p) (pa l d.1) (pa l d.2) ≤ hgt e (key e p) s.1 s.2 := by
            constructor
            · intro h
              obtain ⟨a, b, hab, k1, k2, k3⟩ := side_edge E.ctx hg (hr s hs) cr (by grind)
              obtain ⟨i, hi, rfl⟩ := vert_pa hab.2.1
              obtain ⟨j, hj, rfl⟩ := vert_pa hab.2.2.1
              have := hmin (i, j) (mem_edges.2 ⟨hi, hj, hab⟩) ⟨k1, k2⟩ (by rw [k3]; exact h)
              simp only [] at this
              rw [k3] at this
              exact this
            · intro h; grind
          simp only [iff]
        · grind
      rw [per r1 E.s1, per r2 E.s2, (along_eq E.ctx E.s1 E.c1 he w).2, (along_eq E.ctx E.s2 E.c2 he w).2])
    (by
      intro Y hY hno
      have per : ∀ r : List Seg, (∀ s ∈ r, s ∈ l) → tot r (fun a b => vk e a b (zY e (key e p) Y)) = 0 := by
        intro r hr
        refine tot_zero fun s hs => ?_
        rw [vk_zY]
        by_cases cr : (key e s.1 ≤ key e p ∧ key e p < key e s.2) ∨ (key e s.2 ≤ key e p ∧ key e p < key e s.1)
        · have iff : ¬ Y < hgt e (key e p) s.1 s.2 := by
            intro h
            obtain ⟨a, b, hab, k1, k2, k3⟩ := side_edge E.ctx hg (hr s hs) cr (by grind)
            obtain ⟨i, hi, rfl⟩ := vert_pa hab.2.1
            obtain ⟨j, hj, rfl⟩ := vert_pa hab.2.2.1
            exact hno (i, j) (mem_edges.2 ⟨hi, hj, hab⟩) ⟨k1, k2⟩ (by rw [k3]; exact h)
          grind
        · grind
      rw [per r1 E.s1, per r2 E.s2, G0]; rfl)
    (by
      rintro d hd d' hd' ⟨x1, x2⟩ ⟨y1, y2⟩ _ hq
      obtain ⟨he, kk⟩ := ed d hd
      obtain ⟨he', kk'⟩ := ed d' hd'
      have w := within_hgt he.1 x1 x2
      have w' := within_hgt he'.1 y1 y2
      rw [← hq] at w'
      obtain ⟨q1, q2⟩ := edge_unique E.ctx.nd he he' w w'
      have m1 := mem_edges.1 (show (d.1, d.2) ∈ (Gk01.mapOf l).edges from hd)
      have m2 := mem_edges.1 (show (d'.1, d'.2) ∈ (Gk01.mapOf l).edges from hd')
      exact Prod.ext (pa_inj m1.1 m2.1 q1) (pa_inj m1.2.1 m2.2.1 q2))
    _ p.2 Rat.le_refl (Nat.le_refl _)
  simp only [zY_self] at T
  rw [← T]
  refine sum_congr fun d hd => ?_
  obtain ⟨he, kk⟩ := ed d hd
  have md := mem_edges.1 (show (d.1, d.2) ∈ (Gk01.mapOf l).edges from hd)
  have dd : (d.1, d.2) ∈ Gk01.darts (Gk01.mapOf l) := mem_darts.2 ⟨md.1, md.2.1, .inl he⟩
  have t1 := tst_val E G dd
  have t2 := tst_val E G (dart_swap.1 dd)
  have : (d.1, d.2) = d := rfl
  rw [this] at t1
  rw [t1, t2]
  have v := vk_zY (e := e) (k := key e p) (a := pa l d.1) (b := pa l d.2) p.2
  rw [zY_self] at v
  have na : key e (pa l d.1) = key e p → ¬ p.2 < hgt e (key e p) (pa l d.1) (pa l d.2) := by
    intro q
    have ap := hg _ he.2.1 q
    have cz := cross_zY (e := e) (k := key e p) (a := pa l d.1) (b := pa l d.2) (by grind) p.2
    rw [zY_self, ap] at cz
    have : cross p (pa l d.2) p = 0 := by unfold cross; grind
    rw [this] at cz
    rcases Rat.mul_eq_zero.1 cz.symm with r | r
    · rw [ap] at kk; grind
    · rw [ap]; grind
  rw [v]
  by_cases k : key e (pa l d.1) < key e p ∧ key e p < key e (pa l d.2)
  · by_cases k2 : p.2 < hgt e (key e p) (pa l d.1) (pa l d.2)
    · rw [if_pos ⟨by grind, k.2, k2⟩, if_pos ⟨k, k2⟩]; omega
    · rw [if_neg (by grind), if_neg (by grind), if_neg (by grind)]; omega
  · rw [if_neg (by grind), if_neg (by grind), if_neg (by grind)]; omega
end My
end
section
open GkBase
set_option Elab.async false
namespace My
/-- **a region's rings go round a point once or not at all** -/
theorem region_winds {l r1 r2 : List Seg} (hn : Nondeg l) (s1 : ∀ s ∈ r1, s ∈ l) (s2 : ∀ s ∈ r2, s ∈ l) (c1 : Closed r1) (c2 : Closed r2) (G : Int → Int → Bool) (G0 : G 0 0 = false) {p : Pt} (hp : ∀ s ∈ Gk02.sidesOf (Gk02.regionOf l (tst r1 r2 G)), ¬ onS p s.1 s.2) : Gk02.windsOf (Gk02.regionOf l (tst r1 r2 G)) p = 0 ∨ Gk02.windsOf (Gk02.regionOf l (tst r1 r2 G)) p = 1 := by
  obtain ⟨e, E, g⟩ := env_ex hn s1 s2 c1 c2 [p]
  rw [windsOf_eq]
  have h1 : tot (Gk02.sidesOf (Gk02.regionOf l (tst r1 r2 G))) (fun a b => hc a b p) = tot (Gk02.sidesOf (Gk02.regionOf l (tst r1 r2 G))) (fun a b => vk e a b p + (q1 e p b - q1 e p a)) := tot_congr fun s hs => hv e (hp s hs)
  rw [h1, tot_add, closed_sidesOf, (region_tot E G).1 _ (vk_add e p), bnd_01 E G G0 (fun x hx k => ?_)]
  · unfold B2I; split <;> simp
  · have a1 := g x p (.inl hx) (.inr (by simp))
    have a2 := g p x (.inr (by simp)) (.inl hx)
    rcases lt_tri x p with q | q | q
    · have := a1.1 q; grind
    · exact q
    · have := a2.1 q; grind
theorem region_nondeg {l r1 r2 : List Seg} (hn : Nondeg l) (s1 : ∀ s ∈ r1, s ∈ l) (s2 : ∀ s ∈ r2, s ∈ l) (c1 : Closed r1) (c2 : Closed r2) (G : Int → Int → Bool) : Nondeg (Gk02.sidesOf (Gk02.regionOf l (tst r1 r2 G))) := by
  obtain ⟨e, E, _⟩ := env_ex hn s1 s2 c1 c2 []
  exact (region_tot E G).2
/-- the two tests of the calls -/
theorem ofRings_eq (r : List (List Pt)) : Gk02.ofRings r = Gk02.regionOf (Gk02.sidesOf r) (tst (Gk02.sidesOf r) [] fun w _ => decide (w % 2 = 1)) := by
  unfold Gk02.ofRings tst
  congr 1
  funext p
  rw [windsOf_eq]
theorem combine_eq (k : Nat) (a b : Gk02.Region) : Gk02.combine k a b = Gk02.regionOf (Gk02.sidesOf a ++ Gk02.sidesOf b) (tst (Gk02.sidesOf a) (Gk02.sidesOf b) fun w x => Gk02.combined k (decide (w = 1)) (decide (x = 1))) := by
  unfold Gk02.combine tst Gk02.inside
  congr 1
  funext p
  rw [windsOf_eq, windsOf_eq]
theorem closed_nil : Closed [] := fun _ => rfl
/-- what a kept region is like -/
structure Fine (r : List (List Pt)) : Prop where
  nd : Nondeg (Gk02.sidesOf r)
  once : ∀ p, (∀ s ∈ Gk02.sidesOf r, ¬ onS p s.1 s.2) → Gk02.windsOf r p = 0 ∨ Gk02.windsOf r p = 1
theorem fine_ofRings {r : List (List Pt)} (h : Nondeg (Gk02.sidesOf r)) : Fine (Gk02.ofRings r) := by
  rw [ofRings_eq]
  exact ⟨region_nondeg h (fun _ hs => hs) (fun _ hs => by simp at hs) (closed_sidesOf r) closed_nil _, fun p hp => region_winds h (fun _ hs => hs) (fun _ hs => by simp at hs) (closed_sidesOf r) closed_nil _ (by decide) hp⟩
theorem nondeg_append {a b : List Seg} (h : Nondeg a) (k : Nondeg b) : Nondeg (a ++ b) := by
  intro s hs
  rcases List.mem_append.1 hs with q | q
  · exact h s q
  · exact k s q
theorem fine_combine {a b : Gk02.Region} (k : Nat) (ha : Nondeg (Gk02.sidesOf a)) (hb : Nondeg (Gk02.sidesOf b)) : Fine (Gk02.combine k a b) := by
  rw [combine_eq]
  refine ⟨region_nondeg (nondeg_append ha hb) (fun _ hs => List.mem_append_left _ hs) (fun _ hs => List.mem_append_right _ hs) (closed_sidesOf a) (closed_sidesOf b) _, fun p hp => region_winds (nondeg_append ha hb) (fun _ hs => List.mem_append_left _ hs) (fun _ hs => List.mem_append_right _ hs) (closed_sidesOf a) (closed_sidesOf b) _ ?_ hp⟩
  unfold Gk02.combined
  split
  · rfl
  · split
    · rfl
    · split
      · rfl
      · rfl
theorem fine_nil : Fine [] := ⟨fun s hs => by simp [Gk02.sidesOf] at hs, fun p _ => .inl rfl⟩
/-! Moved. -/
theorem movedPt_inj {w : Gk02.Move} (h : Gk02.det w ≠ 0) {p q : Pt} (k : Gk02.movedPt w p = Gk02.movedPt w q) : p = q := by
  unfold Gk02.movedPt at k
  unfold Gk02.det at h
  rw [Prod.mk.injEq] at k
  have hd : ((w.a : Rat) * (w.d : Rat) - (w.b : Rat) * (w.c : Rat)) ≠ 0 := by
    intro z
    apply h
    have : ((w.a * w.d - w.b * w.c : Int) : Rat) = 0 := by rw [← z]; simp [Rat.intCast_sub, Rat.intCast_mul]
    exact Rat.intCast_inj.1 this
  generalize (w.a : Rat) = a at *
  generalize (w.b : Rat) = b at *
  generalize (w.c : Rat) = c at *
  generalize (w.d : Rat) = d at *
  generalize (w.e : Rat) = e at *
  generalize (w.f : Rat) = f at *
  obtain ⟨k1, k2⟩ := k
  have e1 : (a * d - b * c) * (p.1 - q.1) = 0 := by grind
  have e2 : (a * d - b * c) * (p.2 - q.2) = 0 := by grind
  rw [pt_ext]
  constructor
  · rcases Rat.mul_eq_zero.1 e1 with r | r <;> grind
  · rcases Rat.mul_eq_zero.1 e2 with r | r <;> grind
theorem sides_map (g : Pt → Pt) (c : List Pt) : sides (c.map g) = (sides c).map fun s => (g s.1, g s.2) := by
  cases c with
  | nil => rfl
  | cons o l =>
    simp only [sides, List.map_cons, List.tail_cons]
    have : (l.map g ++ [g o]) = (l ++ [o]).map g := by simp
    rw [this, ← List.map_cons, List.zip_map]
    rfl
theorem nondeg_moved {w : Gk02.Move} (h : Gk02.det w ≠ 0) {r : List (List Pt)} (hr : Nondeg (Gk02.sidesOf r)) : Nondeg (Gk02.sidesOf (r.map fun (c : List Pt) => c.map (Gk02.movedPt w))) := by
  intro s hs
  unfold Gk02.sidesOf at hs
  obtain ⟨c', hc', hs'⟩ := List.mem_flatMap.1 hs
  obtain ⟨c, hc, rfl⟩ := List.mem_map.1 hc'
  rw [sides_map] at hs'
  obtain ⟨t, ht, rfl⟩ := List.mem_map.1 hs'
  intro k
  exact hr t (List.mem_flatMap.2 ⟨c, hc, ht⟩) (movedPt_inj h k)
end My
end
section
open GkBase
set_option Elab.async false
namespace My
/-! Which dart is met first. -/
/-- x is met ahead of y when one turns to the right from the way to u -/
def met (v u x y : Pt) : Prop := ((0 < cross v u x ↔ 0 < cross v u y) ∧ cross v x y < 0) ∨ (¬ 0 < cross v u x ∧ 0 < cross v u y)
instance (v u x y : Pt) : Decidable (met v u x y) := by unfold met; infer_instance
theorem cross_sl {e : Rat} {v x y : Pt} (hx : key e x ≠ key e v) (hy : key e y ≠ key e v) : cross v x y = (key e x - key e v) * (key e y - key e v) * (sl e v y - sl e v x) := by
  have h1 := sl_mul hx
  have h2 := sl_mul hy
  rw [cross_key e, ← h1, ← h2]; grind
theorem cross_sign {e : Rat} {l : List Seg} (c : Ctx e l) {v x y : Pt} (hx : Dart l v x) (hy : Dart l v y) : (0 < cross v x y ↔ ((lt v x ↔ lt v y) ∧ sl e v x < sl e v y) ∨ (¬ (lt v x ↔ lt v y) ∧ sl e v y < sl e v x)) ∧ (cross v x y < 0 ↔ ((lt v x ↔ lt v y) ∧ sl e v y < sl e v x) ∨ (¬ (lt v x ↔ lt v y) ∧ sl e v x < sl e v y)) := by
  have f := cross_sl (dart_key c hx) (dart_key c hy)
  have gx := c.gen _ _ (dart_vert hx).1 (dart_vert hx).2
  have gy := c.gen _ _ (dart_vert hy).1 (dart_vert hy).2
  have nx := dart_key c hx
  have ny := dart_key c hy
  have s1 := sgn (key e x - key e v) (key e y - key e v)
  have s2 := sgn ((key e x - key e v) * (key e y - key e v)) (sl e v y - sl e v x)
  rw [← f] at s2
  rw [gx, gy]
  generalize (key e x - key e v) * (key e y - key e v) = m at *
  generalize cross v x y = cr at *
  generalize sl e v x = sx at *
  generalize sl e v y = sy at *
  grind
theorem met_iff {e : Rat} {l : List Seg} (c : Ctx e l) {v u x y : Pt} (hu : Dart l v u) (hx : Dart l v x) (hy : Dart l v y) (n1 : u ≠ x) (n2 : u ≠ y) (n3 : x ≠ y) : met v u x y ↔ btw (ah e v) u y x := by
  have a1 := cross_sign c hu hx
  have a2 := cross_sign c hu hy
  have a3 := cross_sign c hx hy
  have b1 := dart_edge hu
  have b2 := dart_edge hx
  have b3 := dart_edge hy
  have d1 := dart_sl c hu hx n1
  have d2 := dart_sl c hu hy n2
  have d3 := dart_sl c hx hy n3
  unfold met btw ah
  rw [a1.1, a2.1, a3.2]
  clear a1 a2 a3
  grind (splits := 40)
theorem btw_not {e : Rat} {l : List Seg} (c : Ctx e l) {v x y z : Pt} (hx : Dart l v x) (hy : Dart l v y) (hz : Dart l v z) (n1 : x ≠ y) (n2 : y ≠ z) (n3 : x ≠ z) (h : btw (ah e v) x y z) : ¬ btw (ah e v) x z y := by
  have a1 := ah_total c hx hy n1
  have a2 := ah_total c hy hz n2
  have a3 := ah_total c hx hz n3
  unfold btw at *
  grind
/-- **the one that comes behind is met first** -/
theorem next_met {e : Rat} {l r1 r2 : List Seg} (E : Env e l r1 r2) (G : Int → Int → Bool) {u v w x : Nat} (h : (u, v) ∈ bnd l (tst r1 r2 G)) (hw : Gk02.nextOf (Gk01.rounds (Gk01.mapOf l)) (bnd l (tst r1 r2 G)) (u, v) = (v, w)) (hx : (v, x) ∈ bnd l (tst r1 r2 G)) (ne : x ≠ w) : met (pa l v) (pa l u) (pa l w) (pa l x) ∧ ¬ met (pa l v) (pa l u) (pa l x) (pa l w) := by
  obtain ⟨k, j, hk, ek, hj, h1, h2, h3⟩ := next_spec E G h
  rw [h1] at hw
  simp only [Prod.mk.injEq, true_and] at hw
  rw [hw] at h2
  obtain ⟨srt, nd, hm⟩ := round_spec E.ctx v
  have hxL : x ∈ rd l v := (hm x).2 (mem_bnd.1 hx).1
  obtain ⟨i0, hi0, ei0⟩ := List.getElem_of_mem hxL
  have n0 : 0 < (rd l v).length := by omega
  have so := List.pairwise_iff_getElem.1 srt
  -- x's place, turning right from u
  have place : ∃ i, i < (rd l v).length ∧ (k + 2 * (rd l v).length - 1 - i) % (rd l v).length = i0 ∧ (i < k → i0 = k - 1 - i) ∧ (k ≤ i → i0 = k + (rd l v).length - 1 - i) := by
    by_cases q : i0 < k
    · refine ⟨k - 1 - i0, by omega, ?_, by omega, by omega⟩
      have e1 : k + 2 * (rd l v).length - 1 - (k - 1 - i0) = i0 + (rd l v).length + (rd l v).length := by omega
      rw [e1, Nat.add_mod_right, Nat.add_mod_right]; exact Nat.mod_eq_of_lt hi0
    · refine ⟨k + (rd l v).length - 1 - i0, by omega, ?_, by omega, by omega⟩
      have e1 : k + 2 * (rd l v).length - 1 - (k + (rd l v).length - 1 - i0) = i0 + (rd l v).length := by omega
      rw [e1, Nat.add_mod_right]; exact Nat.mod_eq_of_lt hi0
  obtain ⟨i, hi, pi, pi1, pi2⟩ := place
  have gk : ∀ {k : Nat} (hk : k < (rd l v).length), (rd l v).getD k 0 = (rd l v)[k] := fun hk => by simp [List.getD_eq_getElem?_getD, hk]
  have ij : j < i := by
    rcases Nat.lt_trichotomy i j with q | q | q
    · have := (h3 i q).2
      rw [pi, gk hi0, ei0] at this
      have t := (mem_bnd.1 hx).2.2
      rw [this] at t; simp at t
    · subst q
      rw [pi, gk hi0, ei0] at hw
      exact absurd hw ne
    · exact q
  -- w's place
  have pj : ∃ j0, ∃ hj0 : j0 < (rd l v).length, (rd l v)[j0] = w ∧ (j < k → j0 = k - 1 - j) ∧ (k ≤ j → j0 = k + (rd l v).length - 1 - j) := by
    by_cases q : j < k
    · have e1 : (k + 2 * (rd l v).length - 1 - j) % (rd l v).length = k - 1 - j := by
        have e1 : k + 2 * (rd l v).length - 1 - j = (k - 1 - j) + (rd l v).length + (rd l v).length := by omega
        rw [e1, Nat.add_mod_right, Nat.add_mod_right]; exact Nat.mod_eq_of_lt (by omega)
      rw [e1, gk (by omega)] at hw
      exact ⟨k - 1 - j, by omega, hw, by omega, by omega⟩
    · have e1 : (k + 2 * (rd l v).length - 1 - j) % (rd l v).length = k + (rd l v).length - 1 - j := by
        have e1 : k + 2 * (rd l v).length - 1 - j = (k + (rd l v).length - 1 - j) + (rd l v).length := by omega
        rw [e1, Nat.add_mod_right]; exact Nat.mod_eq_of_lt (by omega)
      rw [e1, gk (by omega)] at hw
      exact ⟨k + (rd l v).length - 1 - j, by omega, hw, by omega, by omega⟩
  obtain ⟨j0, hj0, ej0, pj1, pj2⟩ := pj
  have du := dart_pa (dart_swap.1 (mem_bnd.1 h).1)
  have dx := dart_pa (mem_bnd.1 hx).1
  have dw := dart_pa (mem_bnd.1 h2).1
  have inj : ∀ {a b : Nat}, a < nv l → b < nv l → a ≠ b → pa l a ≠ pa l b := fun ha hb n q => n (pa_inj ha hb q)
  have nux : u ≠ x := by
    rintro rfl
    have a := (mem_bnd.1 h).2.2
    have b := (mem_bnd.1 hx).2.1
    rw [a] at b; simp at b
  have nuw : u ≠ w := by
    rintro rfl
    have a := (mem_bnd.1 h).2.2
    have b := (mem_bnd.1 h2).2.1
    rw [a] at b; simp at b
  have n1 := inj du.2.1 dx.2.1 nux
  have n2 := inj du.2.1 dw.2.1 nuw
  have n3 := inj dx.2.1 dw.2.1 ne
  have nik : i0 ≠ k := by
    rintro rfl
    exact nux (by rw [← ek, ← ei0])
  have njk : j0 ≠ k := by
    rintro rfl
    exact nuw (by rw [← ek, ← ej0])
  have b : btw (fun a b => ahead (pa l v) a b = true) (pa l u) (pa l x) (pa l w) := by
    have A : ∀ a b (ha : a < (rd l v).length) (hb : b < (rd l v).length), a < b → ahead (pa l v) (pa l (rd l v)[a]) (pa l (rd l v)[b]) = true := so
    rw [← ek, ← ei0, ← ej0]
    unfold btw
    by_cases q1 : i < k
    · have := pi1 q1
      have := pj1 (by omega)
      right; left
      exact ⟨A i0 j0 hi0 hj0 (by omega), A j0 k hj0 hk (by omega)⟩
    · have := pi2 (by omega)
      by_cases q2 : j < k
      · have := pj1 q2
        right; right
        exact ⟨A j0 k hj0 hk (by omega), A k i0 hk hi0 (by omega)⟩
      · have := pj2 (by omega)
        left
        exact ⟨A k i0 hk hi0 (by omega), A i0 j0 hi0 hj0 (by omega)⟩
  rw [← btw_iff E.ctx du.2.2 dx.2.2 dw.2.2 n1 n3 n2] at b
  constructor
  · rw [met_iff E.ctx du.2.2 dw.2.2 dx.2.2 n2 n1 (Ne.symm n3)]
    exact b
  · rw [met_iff E.ctx du.2.2 dx.2.2 dw.2.2 n1 n2 n3]
    exact btw_not E.ctx du.2.2 dx.2.2 dw.2.2 n1 n3 n2 b
end My
end
section
open GkBase
set_option Elab.async false
namespace My
/-! The order of rows of points. -/
theorem rb_nil_right (a : List Pt) : Gk02.ringBefore a [] = false := by cases a <;> rfl
theorem rb_nil_left (b : Pt) (k : List Pt) : Gk02.ringBefore [] (b :: k) = true := rfl
theorem rb_cons (a b : Pt) (l k : List Pt) : Gk02.ringBefore (a :: l) (b :: k) = true ↔ lt a b ∨ (a = b ∧ Gk02.ringBefore l k = true) := by
  simp only [Gk02.ringBefore, Bool.or_eq_true, Bool.and_eq_true, decide_eq_true_eq, before_iff]
theorem rb_irrefl (a : List Pt) : ¬ Gk02.ringBefore a a = true := by
  induction a with
  | nil => simp [Gk02.ringBefore]
  | cons x a ih => rw [rb_cons]; have := lt_irrefl x; grind
theorem rb_trans {a b c : List Pt} : Gk02.ringBefore a b = true → Gk02.ringBefore b c = true → Gk02.ringBefore a c = true := by
  induction a generalizing b c with
  | nil =>
    cases b with
    | nil => intro h; simp [Gk02.ringBefore] at h
    | cons y b =>
      cases c with
      | nil => intro _ h; simp [rb_nil_right] at h
      | cons z c => intro _ _; rfl
  | cons x a ih =>
    cases b with
    | nil => intro h; simp [rb_nil_right] at h
    | cons y b =>
      cases c with
      | nil => intro _ h; simp [rb_nil_right] at h
      | cons z c =>
        rw [rb_cons, rb_cons, rb_cons]
        intro h k
        have t := @lt_trans x y z
        have i := @ih b c
        rcases h with h | ⟨rfl, h⟩ <;> rcases k with k | ⟨rfl, k⟩
        · exact .inl (t h k)
        · exact .inl h
        · exact .inl k
        · exact .inr ⟨rfl, i h k⟩
theorem rb_tri (a b : List Pt) : Gk02.ringBefore a b = true ∨ a = b ∨ Gk02.ringBefore b a = true := by
  induction a generalizing b with
  | nil =>
    cases b with
    | nil => exact .inr (.inl rfl)
    | cons y b => exact .inl rfl
  | cons x a ih =>
    cases b with
    | nil => exact .inr (.inr rfl)
    | cons y b =>
      rw [rb_cons, rb_cons]
      rcases lt_tri x y with h | rfl | h
      · exact .inl (.inl h)
      · rcases ih b with k | rfl | k
        · exact .inl (.inr ⟨rfl, k⟩)
        · exact .inr (.inl rfl)
        · exact .inr (.inr (.inr ⟨rfl, k⟩))
      · exact .inr (.inr (.inl h))
theorem rb_asymm {a b : List Pt} (h : Gk02.ringBefore a b = true) : ¬ Gk02.ringBefore b a = true := fun k => rb_irrefl a (rb_trans h k)
/-- the first of all: by a fold -/
theorem fold_least (l : List (List Pt)) (s : List Pt) : (l.foldl (fun (b : List Pt) (x : List Pt) => if Gk02.ringBefore x b = true then x else b) s = s ∨ l.foldl (fun (b : List Pt) (x : List Pt) => if Gk02.ringBefore x b = true then x else b) s ∈ l) ∧ ∀ x, x = s ∨ x ∈ l → ¬ Gk02.ringBefore x (l.foldl (fun (b : List Pt) (x : List Pt) => if Gk02.ringBefore x b = true then x else b) s) = true := by
  induction l generalizing s with
  | nil => exact ⟨.inl rfl, fun x hx => by simp at hx; subst hx; exact rb_irrefl x⟩
  | cons y l ih =>
    rw [List.foldl_cons]
    by_cases k : Gk02.ringBefore y s = true
    · rw [if_pos k]
      obtain ⟨h1, h2⟩ := ih y
      refine ⟨.inr ?_, fun x hx => ?_⟩
      · rcases h1 with h1 | h1
        · rw [h1]; simp
        · simp [h1]
      · rcases hx with rfl | hx
        · intro q
          exact h2 y (.inl rfl) (rb_trans k q)
        · rcases List.mem_cons.1 hx with rfl | hx
          · exact h2 _ (.inl rfl)
          · exact h2 x (.inr hx)
    · rw [if_neg k]
      obtain ⟨h1, h2⟩ := ih s
      refine ⟨?_, fun x hx => ?_⟩
      · rcases h1 with h1 | h1
        · exact .inl h1
        · exact .inr (by simp [h1])
      · rcases hx with rfl | hx
        · exact h2 _ (.inl rfl)
        · rcases List.mem_cons.1 hx with rfl | hx
          · intro q
            rcases rb_tri x s with z | z | z
            · exact k z
            · subst z; exact h2 x (.inl rfl) q
            · exact h2 s (.inl rfl) (rb_trans z q)
          · exact h2 x (.inr hx)
def rots (c : List Pt) : List (List Pt) := (List.range c.length).map fun (i : Nat) => c.drop i ++ c.take i
theorem mem_rots {c x : List Pt} (hx : x ∈ rots c) : ∃ a b, c = a ++ b ∧ x = b ++ a := by
  obtain ⟨i, _, rfl⟩ := List.mem_map.1 hx
  exact ⟨c.take i, c.drop i, by simp, rfl⟩
theorem rots_mem {a b : List Pt} : b ++ a = a ++ b ∨ b ++ a ∈ rots (a ++ b) := by
  cases b with
  | nil => exact .inl (by simp)
  | cons y b =>
    right
    refine List.mem_map.2 ⟨a.length, by simp, ?_⟩
    simp
/-- the first of all beginnings -/
theorem turned_least (a b : List Pt) : ¬ Gk02.ringBefore (b ++ a) (Gk02.turned (a ++ b)) = true := by
  have := (fold_least (rots (a ++ b)) (a ++ b)).2
  exact this (b ++ a) (rots_mem)
/-- two that are first are one -/
theorem turned_eq {a b : List Pt} : Gk02.turned (a ++ b) = Gk02.turned (b ++ a) := by
  obtain ⟨u, w, e1, e2⟩ := turned_rot (a ++ b)
  obtain ⟨u', w', e1', e2'⟩ := turned_rot (b ++ a)
  -- each is a beginning of the other's ring
  have rot2 : ∀ {a b u w : List Pt}, a ++ b = u ++ w → ∃ u' w', b ++ a = u' ++ w' ∧ w ++ u = w' ++ u' := by
    intro a b u w h
    rcases List.append_eq_append_iff.1 h with ⟨c, h1, h2⟩ | ⟨c, h1, h2⟩
    · -- u = a ++ c, b = c ++ w
      subst h1; subst h2
      exact ⟨c, w ++ a, by simp, by simp⟩
    · -- a = u ++ c, w = c ++ b
      subst h1; subst h2
      exact ⟨b ++ u, c, by simp, by simp⟩
  obtain ⟨x1, x2, y1, y2⟩ := rot2 e1
  obtain ⟨z1, z2, t1, t2⟩ := rot2 e1'
  have l1 := turned_least x1 x2
  rw [← y1, ← y2, ← e2] at l1
  have l2 := turned_least z1 z2
  rw [← t1, ← t2, ← e2'] at l2
  rcases rb_tri (Gk02.turned (a ++ b)) (Gk02.turned (b ++ a)) with q | q | q
  · exact absurd q l1
  · exact q
  · exact absurd q l2
/-- a ring of darts told does not hang on where it begins -/
theorem told_rot {α : Type} (g : α → Pt) (a : List α) (x : α) (b : List α) : Gk02.turned (Gk02.corners ((a ++ x :: b).map g)) = Gk02.turned (Gk02.corners ((x :: b ++ a).map g)) := by
  rw [List.map_append, List.map_append]
  obtain ⟨c, d, h1, h2⟩ := corners_rot (a.map g) ((x :: b).map g)
  rw [h1, h2]; exact turned_eq
/-! Rings in order. -/
def Srt (l : List (List Pt)) : Prop := l.Pairwise fun a b => ¬ Gk02.ringBefore b a = true
theorem srt_insertRing {c : List Pt} {l : List (List Pt)} (h : Srt l) : Srt (Gk02.insertRing c l) := by
  unfold Srt at *
  induction l with
  | nil => simp [Gk02.insertRing]
  | cons d l ih =>
    unfold Gk02.insertRing
    rw [List.pairwise_cons] at h
    split
    · rename_i k
      rw [List.pairwise_cons, List.pairwise_cons]
      refine ⟨fun x hx => ?_, h⟩
      rcases List.mem_cons.1 hx with rfl | hx
      · exact rb_asymm k
      · intro q
        exact h.1 x hx (rb_trans q k)
    · rename_i k
      rw [List.pairwise_cons]
      refine ⟨fun x hx => ?_, ih h.2⟩
      rcases List.mem_cons.1 ((perm_insertRing c l).mem_iff.1 hx) with rfl | hx
      · exact k
      · exact h.1 x hx
theorem srt_insertRings (xs l : List (List Pt)) (h : Srt l) : Srt (xs.foldl (fun (l : List (List Pt)) (c : List Pt) => Gk02.insertRing c l) l) := by
  induction xs generalizing l with
  | nil => exact h
  | cons c xs ih => rw [List.foldl_cons]; exact ih _ (srt_insertRing h)
theorem srt_unique {l m : List (List Pt)} (h : l.Perm m) (hl : Srt l) (hm : Srt m) : l = m := by
  unfold Srt at *
  induction l generalizing m with
  | nil => exact (List.Perm.nil_eq h)
  | cons x l ih =>
    cases m with
    | nil => exact absurd h.length_eq (by simp)
    | cons y m =>
      rw [List.pairwise_cons] at hl hm
      have xy : x = y := by
        have h1 : x ∈ y :: m := h.mem_iff.1 (by simp)
        have h2 : y ∈ x :: l := h.mem_iff.2 (by simp)
        rcases List.mem_cons.1 h1 with q | q
        · exact q
        · rcases List.mem_cons.1 h2 with z | z
          · exact z.symm
          · have a := hm.1 x q
            have b := hl.1 y z
            rcases rb_tri x y with w | w | w
            · exact absurd w a
            · exact w
            · exact absurd w b
      subst xy
      rw [ih (List.Perm.cons_inv h) hl.2 hm.2]
end My
end
section
open GkBase
set_option Elab.async false
namespace My
/-! A region from its boundary, in whatever way the places are written. -/
theorem cyc_map {α β : Type} [DecidableEq α] [DecidableEq β] {f : α → α} {f' : β → β} (φ : α → β) {c : List α} (h : Cyc f c) (hf : ∀ x ∈ c, f' (φ x) = φ (f x)) (hi : ∀ x ∈ c, ∀ y ∈ c, φ x = φ y → x = y) : Cyc f' (c.map φ) := by
  have hd : (c.map φ).head (by simpa using h.ne) = φ (c.head h.ne) := by simp
  have it' : ∀ n, it f' n (φ (c.head h.ne)) = φ (it f n (c.head h.ne)) := by
    intro n
    induction n with
    | zero => rfl
    | succ n ih =>
      rw [it_succ, it_succ, ih]
      apply hf
      have := it_cyc h n 0 (List.length_pos_iff.2 h.ne)
      have e0 : c[0]'(List.length_pos_iff.2 h.ne) = c.head h.ne := (List.head_eq_getElem h.ne).symm
      rw [e0] at this
      rw [this]; exact List.getElem_mem _
  refine ⟨by simpa using h.ne, ?_, ?_, ?_⟩
  · have nd := h.nd
    clear it' hd h hf
    induction c with
    | nil => simp
    | cons x c ih =>
      rw [List.nodup_cons] at nd
      rw [List.map_cons, List.nodup_cons]
      refine ⟨fun k => ?_, ih (fun a ha b hb => hi a (by simp [ha]) b (by simp [hb])) nd.2⟩
      obtain ⟨y, hy, e⟩ := List.mem_map.1 k
      have := hi y (by simp [hy]) x (by simp) e
      exact nd.1 (this ▸ hy)
  · intro i hi'
    rw [hd, it']
    simp only [List.getElem_map]
    rw [h.nx i (by simpa using hi')]
  · rw [hd, it']
    have := h.back
    simp only [List.length_map]
    rw [this]
/-- the boundary, told in places -/
def phi {A : Type} (l : List Seg) (tr : Pt → A) (d : Gk01.Dart) : A × A := (tr (pa l d.1), tr (pa l d.2))
theorem region_from {A : Type} [DecidableEq A] (h : A → Pt) (tr : Pt → A) (hh : ∀ p, h (tr p) = p) {e : Rat} {l r1 r2 : List Seg} (E : Env e l r1 r2) (G : Int → Int → Bool) (f' : A × A → A × A) (hf : ∀ d ∈ bnd l (tst r1 r2 G), f' (phi l tr d) = phi l tr (Gk02.nextOf (Gk01.rounds (Gk01.mapOf l)) (bnd l (tst r1 r2 G)) d)) (bt : List (A × A)) (hb : ∀ x, x ∈ bt ↔ ∃ d ∈ bnd l (tst r1 r2 G), phi l tr d = x) {R' : List (List (A × A))} (P' : Parts f' bt R') {out : List (List Pt)} (hs : Srt out) (hp : out.Perm (R'.map fun c => Gk02.turned (Gk02.corners (c.map fun d => h d.1)))) : Gk02.regionOf l (tst r1 r2 G) = out := by
  have P := allc_parts (next_inj E G) (bnd l (tst r1 r2 G)) (fun x => Iff.rfl)
  rw [regionOf_eq]
  generalize hR : allc (Gk02.nextOf (Gk01.rounds (Gk01.mapOf l)) (bnd l (tst r1 r2 G))) (bnd l (tst r1 r2 G)).length (bnd l (tst r1 r2 G)) [] = R at *
  have inB : ∀ c ∈ R, ∀ d ∈ c, d ∈ bnd l (tst r1 r2 G) := fun c hc d hd => (P.mem d).1 (List.mem_flatten.2 ⟨c, hc, hd⟩)
  have inj : ∀ x ∈ bnd l (tst r1 r2 G), ∀ y ∈ bnd l (tst r1 r2 G), phi l tr x = phi l tr y → x = y := by
    rintro ⟨x1, x2⟩ hx ⟨y1, y2⟩ hy k
    unfold phi at k
    simp only [Prod.mk.injEq] at k
    have dx := dart_pa (mem_bnd.1 hx).1
    have dy := dart_pa (mem_bnd.1 hy).1
    have k1 := congrArg h k.1
    have k2 := congrArg h k.2
    rw [hh, hh] at k1 k2
    rw [pa_inj dx.1 dy.1 k1, pa_inj dx.2.1 dy.2.1 k2]
  have pp := parts_perm (f := f') (fun (c : List (A × A)) => Gk02.turned (Gk02.corners (c.map fun d => h d.1))) (fun a x b => told_rot (fun d => h d.1) a x b) (R := R.map (List.map (phi l tr))) (R' := R') (by
      intro c hc
      obtain ⟨c0, hc0, rfl⟩ := List.mem_map.1 hc
      exact cyc_map (phi l tr) (P.cyc c0 hc0) (fun x hx => hf x (inB c0 hc0 x hx)) (fun x hx y hy => inj x (inB c0 hc0 x hx) y (inB c0 hc0 y hy))) P'.cyc (by
      have e : (R.map (List.map (phi l tr))).flatten = R.flatten.map (phi l tr) := by rw [List.map_flatten]
      rw [e]
      have nd := P.nd
      have mem : ∀ x ∈ R.flatten, x ∈ bnd l (tst r1 r2 G) := fun x hx => (P.mem x).1 hx
      generalize R.flatten = F at nd mem ⊢
      induction F with
      | nil => simp
      | cons x F ih =>
        rw [List.nodup_cons] at nd
        rw [List.map_cons, List.nodup_cons]
        refine ⟨fun k => ?_, ih nd.2 (fun y hy => mem y (by simp [hy]))⟩
        obtain ⟨y, hy, q⟩ := List.mem_map.1 k
        have := inj y (mem y (by simp [hy])) x (mem x (by simp)) q
        exact nd.1 (this ▸ hy)) P'.nd (by
      intro x
      rw [P'.mem, hb]
      have e : (R.map (List.map (phi l tr))).flatten = R.flatten.map (phi l tr) := by rw [List.map_flatten]
      rw [e, List.mem_map]
      constructor
      · rintro ⟨d, hd, rfl⟩; exact ⟨d, (P.mem d).1 hd, rfl⟩
      · rintro ⟨d, hd, rfl⟩; exact ⟨d, (P.mem d).2 hd, rfl⟩)
  have same : (R.map (List.map (phi l tr))).map (fun (c : List (A × A)) => Gk02.turned (Gk02.corners (c.map fun d => h d.1))) = R.map (told l) := by
    rw [List.map_map]
    refine List.map_congr_left fun c _ => ?_
    simp only [Function.comp, List.map_map, told, ptsOf]
    congr 2
    refine List.map_congr_left fun d _ => ?_
    exact hh _
  rw [same] at pp
  refine srt_unique ?_ (srt_insertRings _ [] List.Pairwise.nil) hs
  refine ((by simpa using perm_insertRings (R.map (told l)) [] : ((R.map (told l)).foldl (fun (l : List (List Pt)) (c : List Pt) => Gk02.insertRing c l) []).Perm (R.map (told l))).trans pp).trans hp.symm
theorem inj_from {A : Type} [DecidableEq A] (h : A → Pt) (tr : Pt → A) (hh : ∀ p, h (tr p) = p) {e : Rat} {l r1 r2 : List Seg} (E : Env e l r1 r2) (G : Int → Int → Bool) (f' : A × A → A × A) (hf : ∀ d ∈ bnd l (tst r1 r2 G), f' (phi l tr d) = phi l tr (Gk02.nextOf (Gk01.rounds (Gk01.mapOf l)) (bnd l (tst r1 r2 G)) d)) (bt : List (A × A)) (nd : bt.Nodup) (hb : ∀ x, x ∈ bt ↔ ∃ d ∈ bnd l (tst r1 r2 G), phi l tr d = x) : Inj f' bt := by
  have I := next_inj E G
  have inj : ∀ x ∈ bnd l (tst r1 r2 G), ∀ y ∈ bnd l (tst r1 r2 G), phi l tr x = phi l tr y → x = y := by
    rintro ⟨x1, x2⟩ hx ⟨y1, y2⟩ hy k
    unfold phi at k
    simp only [Prod.mk.injEq] at k
    have dx := dart_pa (mem_bnd.1 hx).1
    have dy := dart_pa (mem_bnd.1 hy).1
    have k1 := congrArg h k.1
    have k2 := congrArg h k.2
    rw [hh, hh] at k1 k2
    rw [pa_inj dx.1 dy.1 k1, pa_inj dx.2.1 dy.2.1 k2]
  refine ⟨nd, ?_, ?_⟩
  · intro x hx
    obtain ⟨d, hd, rfl⟩ := (hb x).1 hx
    rw [hf d hd]
    exact (hb _).2 ⟨_, I.map d hd, rfl⟩
  · intro x hx y hy k
    obtain ⟨d, hd, rfl⟩ := (hb x).1 hx
    obtain ⟨d', hd', rfl⟩ := (hb y).1 hy
    rw [hf d hd, hf d' hd'] at k
    rw [I.inj d hd d' hd' (inj _ (I.map d hd) _ (I.map d' hd') k)]
end My
end
section
open GkBase
set_option Elab.async false
namespace My
/-! Places: three whole numbers. -/
abbrev T3 := Int × Int × Int
def toP (t : T3) : Pt := ((t.1 : Rat) / (t.2.2 : Rat), (t.2.1 : Rat) / (t.2.2 : Rat))
def Nrm (t : T3) : Prop := 0 < t.2.2 ∧ ∀ c : Int, c ∣ t.1 → c ∣ t.2.1 → c ∣ t.2.2 → c ∣ 1
def cf (a b : Int) : Int := ((Int.gcd a b : Nat) : Int)
def placeM (x y w : Int) : T3 :=
  let f := if w < 0 then - cf (cf x y) w else cf (cf x y) w
  (x.fdiv f, y.fdiv f, w.fdiv f)
theorem cast_ne {w : Int} (h : w ≠ 0) : (w : Rat) ≠ 0 := fun k => h (Rat.intCast_inj.1 (by simpa using k))
theorem cast_pos {w : Int} (h : 0 < w) : (0 : Rat) < (w : Rat) := Rat.intCast_pos.2 h
theorem place_spec {x y w : Int} (hw : w ≠ 0) : ∃ f a b c : Int, f ≠ 0 ∧ x = f * a ∧ y = f * b ∧ w = f * c ∧ placeM x y w = (a, b, c) ∧ Nrm (a, b, c) := by
  have d1 : (cf (cf x y) w) ∣ x := Int.dvd_trans (Int.gcd_dvd_left _ _) (Int.gcd_dvd_left x y)
  have d2 : (cf (cf x y) w) ∣ y := Int.dvd_trans (Int.gcd_dvd_left _ _) (Int.gcd_dvd_right x y)
  have d3 : (cf (cf x y) w) ∣ w := Int.gcd_dvd_right _ _
  have hg : ∀ c : Int, c ∣ x → c ∣ y → c ∣ w → c ∣ cf (cf x y) w := fun c h1 h2 h3 => Int.dvd_coe_gcd (Int.dvd_coe_gcd h1 h2) h3
  have gne : cf (cf x y) w ≠ 0 := by
    intro k; rw [k] at d3; exact hw (Int.zero_dvd.1 d3)
  have gpos : 0 < cf (cf x y) w := by
    have : 0 ≤ cf (cf x y) w := Int.natCast_nonneg _
    omega
  unfold placeM
  generalize cf (cf x y) w = g at *
  have key : ∀ f : Int, (f = g ∨ f = -g) → (0 < w ↔ 0 < f) → ∃ f' a b c : Int, f' ≠ 0 ∧ x = f' * a ∧ y = f' * b ∧ w = f' * c ∧ (x.fdiv f, y.fdiv f, w.fdiv f) = (a, b, c) ∧ Nrm (a, b, c) := by
    intro f hf hs
    have fne : f ≠ 0 := by omega
    have f1 : f ∣ x := by rcases hf with rfl | rfl; exact d1; exact Int.neg_dvd.2 d1
    have f2 : f ∣ y := by rcases hf with rfl | rfl; exact d2; exact Int.neg_dvd.2 d2
    have f3 : f ∣ w := by rcases hf with rfl | rfl; exact d3; exact Int.neg_dvd.2 d3
    obtain ⟨a, rfl⟩ := f1
    obtain ⟨b, rfl⟩ := f2
    obtain ⟨c, rfl⟩ := f3
    refine ⟨f, a, b, c, fne, rfl, rfl, rfl, ?_, ?_, ?_⟩
    · rw [Int.mul_fdiv_cancel_left _ fne, Int.mul_fdiv_cancel_left _ fne, Int.mul_fdiv_cancel_left _ fne]
    · simp only []
      rcases Int.lt_trichotomy c 0 with q | q | q
      · exfalso
        rcases Int.lt_or_gt_of_ne fne with r | r
        · have := Int.mul_pos_of_neg_of_neg r q; omega
        · have := Int.mul_neg_of_pos_of_neg r q; omega
      · subst q; simp at hw
      · exact q
    · intro d h1 h2 h3
      have := hg (f * d) (Int.mul_dvd_mul_left f h1) (Int.mul_dvd_mul_left f h2) (Int.mul_dvd_mul_left f h3)
      have fg : f * d ∣ f * 1 := by
        rw [Int.mul_one]
        rcases hf with rfl | rfl
        · exact this
        · exact Int.dvd_neg.2 this
      exact Int.dvd_of_mul_dvd_mul_left fne fg
  by_cases k : w < 0
  · simp only [k, if_true]
    exact key (-g) (.inr rfl) (by omega)
  · simp only [k, if_false]
    exact key g (.inl rfl) (by omega)
theorem place_nrm {x y w : Int} (hw : w ≠ 0) : Nrm (placeM x y w) := by
  obtain ⟨f, a, b, c, _, _, _, _, e, n⟩ := place_spec (x := x) (y := y) hw
  rw [e]; exact n
theorem div_cancel {f a c : Int} (hf : f ≠ 0) (hc : c ≠ 0) : ((f * a : Int) : Rat) / ((f * c : Int) : Rat) = (a : Rat) / (c : Rat) := by
  have h1 := cast_ne hf
  have h2 := cast_ne hc
  have h3 : ((f * c : Int) : Rat) ≠ 0 := cast_ne (Int.mul_ne_zero hf hc)
  have e1 := Rat.div_mul_cancel (a := ((f * a : Int) : Rat)) h3
  have e2 := Rat.div_mul_cancel (a := (a : Rat)) h2
  rw [Rat.intCast_mul, Rat.intCast_mul] at *
  generalize (f : Rat) * (a : Rat) / ((f : Rat) * (c : Rat)) = x at *
  generalize (a : Rat) / (c : Rat) = y at *
  have : (f : Rat) * (c : Rat) * (x - y) = 0 := by grind
  rcases Rat.mul_eq_zero.1 this with r | r
  · exact absurd r h3
  · grind
theorem place_toP {x y w : Int} (hw : w ≠ 0) : toP (placeM x y w) = ((x : Rat) / (w : Rat), (y : Rat) / (w : Rat)) := by
  obtain ⟨f, a, b, c, hf, hx, hy, hz, e, n⟩ := place_spec (x := x) (y := y) hw
  rw [e]
  unfold toP
  have hc : c ≠ 0 := by have := n.1; simp only [] at this; omega
  rw [hx, hy, hz, div_cancel hf hc, div_cancel hf hc]
theorem div_eq {a b c d : Int} (hb : b ≠ 0) (hd : d ≠ 0) (h : (a : Rat) / (b : Rat) = (c : Rat) / (d : Rat)) : a * d = c * b := by
  have e1 := Rat.div_mul_cancel (a := (a : Rat)) (cast_ne hb)
  have e2 := Rat.div_mul_cancel (a := (c : Rat)) (cast_ne hd)
  rw [h] at e1
  generalize (c : Rat) / (d : Rat) = x at *
  have : ((a * d : Int) : Rat) = ((c * b : Int) : Rat) := by rw [Rat.intCast_mul, Rat.intCast_mul]; grind
  exact Rat.intCast_inj.1 this
theorem toP_inj {s t : T3} (hs : Nrm s) (ht : Nrm t) (h : toP s = toP t) : s = t := by
  obtain ⟨x, y, w⟩ := s
  obtain ⟨x', y', w'⟩ := t
  obtain ⟨p1, g1⟩ := hs
  obtain ⟨p2, g2⟩ := ht
  simp only [] at p1 p2 g1 g2
  unfold toP at h
  simp only [Prod.mk.injEq] at h
  have h1 := div_eq (by omega) (by omega) h.1
  have h2 := div_eq (by omega) (by omega) h.2
  -- w divides w'
  have key : ∀ {x y w x' y' w' : Int}, x * w' = x' * w → y * w' = y' * w → (∀ c : Int, c ∣ x → c ∣ y → c ∣ w → c ∣ 1) → 0 < w → 0 < w' → w ∣ w' := by
    intro x y w x' y' w' h1 h2 g hw hw'
    have d1 : w ∣ w' * x := ⟨x', by rw [Int.mul_comm, h1, Int.mul_comm]⟩
    have d2 : w ∣ w' * y := ⟨y', by rw [Int.mul_comm, h2, Int.mul_comm]⟩
    have d3 : w ∣ w' * w := Int.dvd_mul_left _ _
    have e1 : w ∣ ((Int.gcd (w' * x) (w' * y) : Nat) : Int) := Int.dvd_coe_gcd d1 d2
    rw [Int.gcd_mul_left] at e1
    have e2 : w ∣ ((Int.gcd (w' * ((Int.gcd x y : Nat) : Int)) (w' * w) : Nat) : Int) := by
      refine Int.dvd_coe_gcd ?_ d3
      have : ((w'.natAbs * Int.gcd x y : Nat) : Int) = w' * ((Int.gcd x y : Nat) : Int) := by
        rw [Int.natCast_mul]; congr 1; omega
      rw [← this]; exact e1
    rw [Int.gcd_mul_left] at e2
    have g1 : Int.gcd ((Int.gcd x y : Nat) : Int) w = 1 := by
      have hd := g ((Int.gcd ((Int.gcd x y : Nat) : Int) w : Nat) : Int) (Int.dvd_trans (Int.gcd_dvd_left _ _) (Int.gcd_dvd_left x y)) (Int.dvd_trans (Int.gcd_dvd_left _ _) (Int.gcd_dvd_right x y)) (Int.gcd_dvd_right _ _)
      have := Int.natAbs_dvd_natAbs.2 hd
      simpa using this
    rw [g1, Nat.mul_one] at e2
    have : ((w'.natAbs : Nat) : Int) = w' := by omega
    rw [this] at e2
    exact e2
  have a1 := key h1 h2 g1 p1 p2
  have a2 := key h1.symm h2.symm g2 p2 p1
  have ww : w = w' := Int.dvd_antisymm (by omega) (by omega) a1 a2
  subst ww
  have hw0 : w ≠ 0 := by omega
  rw [Int.eq_of_mul_eq_mul_right hw0 h1, Int.eq_of_mul_eq_mul_right hw0 h2]
/-- the place of a point -/
def ofP (p : Pt) : T3 := placeM (p.1.num * p.2.den) (p.2.num * p.1.den) (p.1.den * p.2.den)
theorem den_ne (p : Pt) : ((p.1.den : Int) * (p.2.den : Int)) ≠ 0 := Int.mul_ne_zero (by have := p.1.den_nz; omega) (by have := p.2.den_nz; omega)
theorem ofP_nrm (p : Pt) : Nrm (ofP p) := place_nrm (den_ne p)
theorem num_den (x : Rat) : (x.num : Rat) / ((x.den : Int) : Rat) = x := by
  have := Rat.num_divInt_den x
  rw [Rat.divInt_eq_div] at this
  exact this
theorem toP_ofP (p : Pt) : toP (ofP p) = p := by
  unfold ofP
  rw [place_toP (den_ne p), pt_ext]
  have n1 : (p.1.den : Int) ≠ 0 := by have := p.1.den_nz; omega
  have n2 : (p.2.den : Int) ≠ 0 := by have := p.2.den_nz; omega
  constructor
  · simp only []
    rw [Int.mul_comm p.1.num, Int.mul_comm (p.1.den : Int), div_cancel n2 n1, num_den]
  · simp only []
    rw [Int.mul_comm p.2.num, div_cancel n1 n2, num_den]
theorem ofP_toP {t : T3} (h : Nrm t) : ofP (toP t) = t := toP_inj (ofP_nrm _) h (toP_ofP _)
end My
end
section
open GkBase
set_option Elab.async false
namespace My
/-! Signs of whole numbers, signs of points. -/
def beforeM (a b : T3) : Bool := if a.1 * b.2.2 ≠ b.1 * a.2.2 then decide (a.1 * b.2.2 < b.1 * a.2.2) else decide (a.2.1 * b.2.2 < b.2.1 * a.2.2)
def crossM (a b : T3) : T3 := (a.2.1 * b.2.2 - a.2.2 * b.2.1, a.2.2 * b.1 - a.1 * b.2.2, a.1 * b.2.1 - a.2.1 * b.1)
def leftM (l s : T3) : Int := l.1 * s.1 + l.2.1 * s.2.1 + l.2.2 * s.2.2
def midM (a b : T3) : T3 := (a.1 * b.2.2 + b.1 * a.2.2, a.2.1 * b.2.2 + b.2.1 * a.2.2, 2 * a.2.2 * b.2.2)
def meetM (l m : T3) : T3 := placeM (crossM l m).1 (crossM l m).2.1 (crossM l m).2.2
def moveM (s : T3) (a b c d e f : Int) : T3 := placeM (a * s.1 + b * s.2.1 + e * s.2.2) (c * s.1 + d * s.2.1 + f * s.2.2) s.2.2
theorem cast_lt {a b : Int} : (a : Rat) < (b : Rat) ↔ a < b := Rat.intCast_lt_intCast
theorem div_lt_div {a b c d : Int} (hb : 0 < b) (hd : 0 < d) : (a : Rat) / (b : Rat) < (c : Rat) / (d : Rat) ↔ a * d < c * b := by
  have pb := cast_pos hb
  have pd := cast_pos hd
  rw [Rat.div_lt_iff pb]
  have e : (c : Rat) / (d : Rat) * (b : Rat) = ((c * b : Int) : Rat) / (d : Rat) := by rw [Rat.intCast_mul, Rat.div_def, Rat.div_def]; grind
  rw [e, Rat.lt_div_iff pd, ← Rat.intCast_mul, cast_lt]
theorem div_eq_iff {a b c d : Int} (hb : 0 < b) (hd : 0 < d) : (a : Rat) / (b : Rat) = (c : Rat) / (d : Rat) ↔ a * d = c * b := by
  constructor
  · exact div_eq (by omega) (by omega)
  · intro h
    have h1 := div_lt_div (a := a) (c := c) hb hd
    have h2 := div_lt_div (a := c) (c := a) hd hb
    have n1 : ¬ ((a : Rat) / (b : Rat) < (c : Rat) / (d : Rat)) := fun k => by have := h1.1 k; omega
    have n2 : ¬ ((c : Rat) / (d : Rat) < (a : Rat) / (b : Rat)) := fun k => by have := h2.1 k; omega
    grind
theorem before_toP {a b : T3} (ha : 0 < a.2.2) (hb : 0 < b.2.2) : beforeM a b = true ↔ lt (toP a) (toP b) := by
  unfold beforeM lt toP
  simp only []
  rw [div_lt_div ha hb, div_eq_iff ha hb, div_lt_div ha hb]
  split
  · rename_i k; simp only [decide_eq_true_eq]; omega
  · rename_i k; simp only [decide_eq_true_eq]; omega
theorem left_cross {a b s : T3} (ha : a.2.2 ≠ 0) (hb : b.2.2 ≠ 0) (hs : s.2.2 ≠ 0) : ((leftM (crossM a b) s : Int) : Rat) = (a.2.2 : Rat) * (b.2.2 : Rat) * (s.2.2 : Rat) * cross (toP a) (toP b) (toP s) := by
  unfold leftM crossM cross toP
  simp only []
  have a1 := Rat.div_mul_cancel (a := (a.1 : Rat)) (cast_ne ha)
  have a2 := Rat.div_mul_cancel (a := (a.2.1 : Rat)) (cast_ne ha)
  have b1 := Rat.div_mul_cancel (a := (b.1 : Rat)) (cast_ne hb)
  have b2 := Rat.div_mul_cancel (a := (b.2.1 : Rat)) (cast_ne hb)
  have s1 := Rat.div_mul_cancel (a := (s.1 : Rat)) (cast_ne hs)
  have s2 := Rat.div_mul_cancel (a := (s.2.1 : Rat)) (cast_ne hs)
  simp only [Rat.intCast_add, Rat.intCast_sub, Rat.intCast_mul]
  generalize (a.1 : Rat) / (a.2.2 : Rat) = A1 at *
  generalize (a.2.1 : Rat) / (a.2.2 : Rat) = A2 at *
  generalize (b.1 : Rat) / (b.2.2 : Rat) = B1 at *
  generalize (b.2.1 : Rat) / (b.2.2 : Rat) = B2 at *
  generalize (s.1 : Rat) / (s.2.2 : Rat) = S1 at *
  generalize (s.2.1 : Rat) / (s.2.2 : Rat) = S2 at *
  rw [← a1, ← a2, ← b1, ← b2, ← s1, ← s2]
  grind
theorem cast_zero {a : Int} : (a : Rat) = 0 ↔ a = 0 := ⟨fun h => Rat.intCast_inj.1 (by simpa using h), fun h => by rw [h]; rfl⟩
theorem left_sign {a b s : T3} (ha : 0 < a.2.2) (hb : 0 < b.2.2) (hs : 0 < s.2.2) : (0 < leftM (crossM a b) s ↔ 0 < cross (toP a) (toP b) (toP s)) ∧ (leftM (crossM a b) s < 0 ↔ cross (toP a) (toP b) (toP s) < 0) ∧ (leftM (crossM a b) s = 0 ↔ cross (toP a) (toP b) (toP s) = 0) := by
  have h := left_cross (a := a) (b := b) (s := s) (by omega) (by omega) (by omega)
  have p := Rat.mul_pos (Rat.mul_pos (cast_pos ha) (cast_pos hb)) (cast_pos hs)
  generalize (a.2.2 : Rat) * (b.2.2 : Rat) * (s.2.2 : Rat) = k at *
  have q := sgn k (cross (toP a) (toP b) (toP s))
  rw [← h] at q
  have c1 : (0 : Rat) < ((leftM (crossM a b) s : Int) : Rat) ↔ 0 < leftM (crossM a b) s := Rat.intCast_pos
  have c2 : ((leftM (crossM a b) s : Int) : Rat) < 0 ↔ leftM (crossM a b) s < 0 := Rat.intCast_neg_iff
  have c3 := cast_zero (a := leftM (crossM a b) s)
  generalize cross (toP a) (toP b) (toP s) = c at *
  rw [← c1, ← c2, ← c3]
  grind
theorem mid_toP {a b : T3} (ha : 0 < a.2.2) (hb : 0 < b.2.2) : 0 < (midM a b).2.2 ∧ toP (midM a b) = mid (toP a) (toP b) := by
  have hw : 0 < 2 * a.2.2 * b.2.2 := Int.mul_pos (by omega) hb
  refine ⟨hw, ?_⟩
  have na := cast_ne (show a.2.2 ≠ 0 by omega)
  have nb := cast_ne (show b.2.2 ≠ 0 by omega)
  have nw := cast_ne (show 2 * a.2.2 * b.2.2 ≠ 0 by omega)
  unfold midM toP mid
  simp only []
  have key : ∀ x y : Int, ((x * b.2.2 + y * a.2.2 : Int) : Rat) / ((2 * a.2.2 * b.2.2 : Int) : Rat) = ((x : Rat) / (a.2.2 : Rat) + (y : Rat) / (b.2.2 : Rat)) / 2 := by
    intro x y
    have d1 := Rat.div_mul_cancel (a := ((x * b.2.2 + y * a.2.2 : Int) : Rat)) nw
    have d2 := Rat.div_mul_cancel (a := (x : Rat)) na
    have d3 := Rat.div_mul_cancel (a := (y : Rat)) nb
    simp only [Rat.intCast_add, Rat.intCast_mul] at *
    have two : ((2 : Int) : Rat) = 2 := rfl
    rw [two] at *
    generalize ((x : Rat) * (b.2.2 : Rat) + (y : Rat) * (a.2.2 : Rat)) / (2 * (a.2.2 : Rat) * (b.2.2 : Rat)) = u at *
    generalize (x : Rat) / (a.2.2 : Rat) = v at *
    generalize (y : Rat) / (b.2.2 : Rat) = w at *
    have : 2 * (a.2.2 : Rat) * (b.2.2 : Rat) * (u - (v + w) / 2) = 0 := by rw [← d2, ← d3] at d1; grind
    rcases Rat.mul_eq_zero.1 this with r | r
    · exact absurd r nw
    · grind
  rw [key, key]
theorem move_toP {s : T3} (hs : 0 < s.2.2) (w : Gk02.Move) : Nrm (moveM s w.a w.b w.c w.d w.e w.f) ∧ toP (moveM s w.a w.b w.c w.d w.e w.f) = Gk02.movedPt w (toP s) := by
  refine ⟨place_nrm (by omega), ?_⟩
  unfold moveM
  rw [place_toP (by omega)]
  have ns := cast_ne (show s.2.2 ≠ 0 by omega)
  have key : ∀ a b e : Int, ((a * s.1 + b * s.2.1 + e * s.2.2 : Int) : Rat) / (s.2.2 : Rat) = (a : Rat) * ((s.1 : Rat) / (s.2.2 : Rat)) + (b : Rat) * ((s.2.1 : Rat) / (s.2.2 : Rat)) + (e : Rat) := by
    intro a b e
    have d1 := Rat.div_mul_cancel (a := ((a * s.1 + b * s.2.1 + e * s.2.2 : Int) : Rat)) ns
    have d2 := Rat.div_mul_cancel (a := (s.1 : Rat)) ns
    have d3 := Rat.div_mul_cancel (a := (s.2.1 : Rat)) ns
    simp only [Rat.intCast_add, Rat.intCast_mul] at *
    generalize ((a : Rat) * (s.1 : Rat) + (b : Rat) * (s.2.1 : Rat) + (e : Rat) * (s.2.2 : Rat)) / (s.2.2 : Rat) = u at *
    generalize (s.1 : Rat) / (s.2.2 : Rat) = v at *
    generalize (s.2.1 : Rat) / (s.2.2 : Rat) = x at *
    have : (s.2.2 : Rat) * (u - ((a : Rat) * v + (b : Rat) * x + (e : Rat))) = 0 := by rw [← d2, ← d3] at d1; grind
    rcases Rat.mul_eq_zero.1 this with r | r
    · exact absurd r ns
    · grind
  rw [key, key]; rfl
/-- where two lines meet -/
theorem meet_toP {a b c d : T3} (ha : 0 < a.2.2) (hb : 0 < b.2.2) (hc : 0 < c.2.2) (hd : 0 < d.2.2) (hp : par (toP a, toP b) (toP c, toP d) ≠ 0) : Nrm (meetM (crossM a b) (crossM c d)) ∧ cross (toP a) (toP b) (toP (meetM (crossM a b) (crossM c d))) = 0 ∧ cross (toP c) (toP d) (toP (meetM (crossM a b) (crossM c d))) = 0 := by
  have wne : (crossM (crossM a b) (crossM c d)).2.2 ≠ 0 := by
    intro k
    apply hp
    have a1 := Rat.div_mul_cancel (a := (a.1 : Rat)) (cast_ne (show a.2.2 ≠ 0 by omega))
    have a2 := Rat.div_mul_cancel (a := (a.2.1 : Rat)) (cast_ne (show a.2.2 ≠ 0 by omega))
    have b1 := Rat.div_mul_cancel (a := (b.1 : Rat)) (cast_ne (show b.2.2 ≠ 0 by omega))
    have b2 := Rat.div_mul_cancel (a := (b.2.1 : Rat)) (cast_ne (show b.2.2 ≠ 0 by omega))
    have c1 := Rat.div_mul_cancel (a := (c.1 : Rat)) (cast_ne (show c.2.2 ≠ 0 by omega))
    have c2 := Rat.div_mul_cancel (a := (c.2.1 : Rat)) (cast_ne (show c.2.2 ≠ 0 by omega))
    have d1 := Rat.div_mul_cancel (a := (d.1 : Rat)) (cast_ne (show d.2.2 ≠ 0 by omega))
    have d2 := Rat.div_mul_cancel (a := (d.2.1 : Rat)) (cast_ne (show d.2.2 ≠ 0 by omega))
    have k' : (((crossM (crossM a b) (crossM c d)).2.2 : Int) : Rat) = 0 := by rw [k]; rfl
    unfold crossM at k'
    simp only [Rat.intCast_sub, Rat.intCast_mul] at k'
    unfold par toP
    simp only []
    have P := Rat.mul_pos (Rat.mul_pos (cast_pos ha) (cast_pos hb)) (Rat.mul_pos (cast_pos hc) (cast_pos hd))
    generalize (a.1 : Rat) / (a.2.2 : Rat) = A1 at *
    generalize (a.2.1 : Rat) / (a.2.2 : Rat) = A2 at *
    generalize (b.1 : Rat) / (b.2.2 : Rat) = B1 at *
    generalize (b.2.1 : Rat) / (b.2.2 : Rat) = B2 at *
    generalize (c.1 : Rat) / (c.2.2 : Rat) = C1 at *
    generalize (c.2.1 : Rat) / (c.2.2 : Rat) = C2 at *
    generalize (d.1 : Rat) / (d.2.2 : Rat) = D1 at *
    generalize (d.2.1 : Rat) / (d.2.2 : Rat) = D2 at *
    rw [← a1, ← a2, ← b1, ← b2, ← c1, ← c2, ← d1, ← d2] at k'
    have : ((a.2.2 : Rat) * (b.2.2 : Rat) * ((c.2.2 : Rat) * (d.2.2 : Rat))) * ((B1 - A1) * (D2 - C2) - (B2 - A2) * (D1 - C1)) = 0 := by grind
    rcases Rat.mul_eq_zero.1 this with r | r
    · rw [r] at P; exact absurd P (by decide)
    · exact r
  have l1 : leftM (crossM a b) (crossM (crossM a b) (crossM c d)) = 0 := by unfold leftM crossM; grind
  have l2 : leftM (crossM c d) (crossM (crossM a b) (crossM c d)) = 0 := by unfold leftM crossM; grind
  obtain ⟨f, x, y, w, hf, hx, hy, hw, e, n⟩ := place_spec (x := (crossM (crossM a b) (crossM c d)).1) (y := (crossM (crossM a b) (crossM c d)).2.1) wne
  have em : meetM (crossM a b) (crossM c d) = (x, y, w) := e
  rw [em]
  have z1 : leftM (crossM a b) (x, y, w) = 0 := by
    unfold leftM at l1 ⊢
    rw [hx, hy, hw] at l1
    have : f * ((crossM a b).1 * x + (crossM a b).2.1 * y + (crossM a b).2.2 * w) = 0 := by grind
    rcases Int.mul_eq_zero.1 this with r | r
    · exact absurd r hf
    · exact r
  have z2 : leftM (crossM c d) (x, y, w) = 0 := by
    unfold leftM at l2 ⊢
    rw [hx, hy, hw] at l2
    have : f * ((crossM c d).1 * x + (crossM c d).2.1 * y + (crossM c d).2.2 * w) = 0 := by grind
    rcases Int.mul_eq_zero.1 this with r | r
    · exact absurd r hf
    · exact r
  exact ⟨n, (left_sign ha hb n.1).2.2.1 z1, (left_sign hc hd n.1).2.2.1 z2⟩
end My
end
section
open GkBase
set_option Elab.async false
namespace My
/-! Where sides are cut. -/
abbrev Sd := T3 × T3 × T3
def insCut : List T3 → T3 → List T3
  | [], _ => []
  | c :: r, s => if beforeM c s = true then c :: insCut r s else if c ≠ s then s :: c :: r else c :: r
def addCutM (cs : List T3) (s : T3) : List T3 := if beforeM s (cs.headD (0, 0, 0)) = true ∨ beforeM (cs.getLastD (0, 0, 0)) s = true then cs else insCut cs s
def addEndsM (cs : List T3) (sd : Sd) (p q : Int) : List T3 :=
  let cs1 := if p = 0 then addCutM cs sd.1 else cs
  if q = 0 then addCutM cs1 sd.2.1 else cs1
def cutTwoM (one other : Sd) (oc xc : List T3) : List T3 × List T3 :=
  if 0 < leftM one.2.2 other.1 * leftM one.2.2 other.2.1 then (oc, xc) else
  if 0 < leftM other.2.2 one.1 * leftM other.2.2 one.2.1 then (oc, xc) else
  if leftM one.2.2 other.1 * leftM one.2.2 other.2.1 < 0 ∧ leftM other.2.2 one.1 * leftM other.2.2 one.2.1 < 0 then
    (addCutM oc (meetM one.2.2 other.2.2), addCutM xc (meetM one.2.2 other.2.2))
  else (addEndsM oc other (leftM one.2.2 other.1) (leftM one.2.2 other.2.1), addEndsM xc one (leftM other.2.2 one.1) (leftM other.2.2 one.2.1))
/-- a row of places in order -/
def Row (cs : List T3) : Prop := (∀ t ∈ cs, Nrm t) ∧ cs.Pairwise fun a b => lt (toP a) (toP b)
theorem ins_spec {cs : List T3} {s : T3} (hr : Row cs) (hs : Nrm s) (ne : cs ≠ []) (hl : ¬ lt (toP (cs.getLastD (0, 0, 0))) (toP s)) : Row (insCut cs s) ∧ ∀ t, t ∈ insCut cs s ↔ t ∈ cs ∨ t = s := by
  induction cs with
  | nil => exact absurd rfl ne
  | cons c r ih =>
    obtain ⟨hn, hp⟩ := hr
    rw [List.pairwise_cons] at hp
    have nc : Nrm c := hn c (by simp)
    unfold insCut
    by_cases k : beforeM c s = true
    · rw [if_pos k]
      rw [before_toP nc.1 hs.1] at k
      have rne : r ≠ [] := by
        rintro rfl
        exact hl k
      obtain ⟨d, r', rfl⟩ := List.exists_cons_of_ne_nil rne
      have hl' : ¬ lt (toP ((d :: r').getLastD (0, 0, 0))) (toP s) := by
        rw [List.getLastD_cons] at hl ⊢
        rw [List.getLastD_cons] at hl
        exact hl
      obtain ⟨i1, i2⟩ := ih ⟨fun t ht => hn t (by simp at ht ⊢; exact .inr ht), hp.2⟩ rne hl'
      refine ⟨⟨fun t ht => ?_, ?_⟩, fun t => ?_⟩
      · rcases List.mem_cons.1 ht with rfl | ht
        · exact nc
        · exact i1.1 t ht
      · rw [List.pairwise_cons]
        refine ⟨fun t ht => ?_, i1.2⟩
        rcases (i2 t).1 ht with q | rfl
        · exact hp.1 t q
        · exact k
      · rw [List.mem_cons, i2, List.mem_cons]; grind
    · rw [if_neg k]
      rw [before_toP nc.1 hs.1] at k
      by_cases e : c = s
      · subst e
        simp only [ne_eq, not_true_eq_false, if_false]
        refine ⟨⟨hn, List.pairwise_cons.2 hp⟩, fun t => ?_⟩
        rw [List.mem_cons]; grind
      · rw [if_pos e]
        have sc : lt (toP s) (toP c) := by
          rcases lt_tri (toP c) (toP s) with q | q | q
          · exact absurd q k
          · exact absurd (toP_inj nc hs q) e
          · exact q
        refine ⟨⟨fun t ht => ?_, ?_⟩, fun t => ?_⟩
        · rcases List.mem_cons.1 ht with rfl | ht
          · exact hs
          · exact hn t ht
        · rw [List.pairwise_cons, List.pairwise_cons]
          refine ⟨fun t ht => ?_, hp⟩
          rcases List.mem_cons.1 ht with rfl | ht
          · exact sc
          · exact lt_trans sc (hp.1 t ht)
        · rw [List.mem_cons, List.mem_cons]; grind
/-- the cuts of a side from a to b -/
structure Cuts (a b : T3) (cs : List T3) : Prop where
  row : Row cs
  hd : cs.head? = some a
  la : cs.getLast? = some b
theorem Cuts.ne {a b : T3} {cs : List T3} (h : Cuts a b cs) : cs ≠ [] := by
  rintro rfl; have := h.hd; simp at this
theorem Cuts.na {a b : T3} {cs : List T3} (h : Cuts a b cs) : Nrm a := h.row.1 a (List.mem_of_head? h.hd)
theorem Cuts.nb {a b : T3} {cs : List T3} (h : Cuts a b cs) : Nrm b := h.row.1 b (List.mem_of_getLast? h.la)
theorem Cuts.le {a b : T3} {cs : List T3} (h : Cuts a b cs) {t : T3} (ht : t ∈ cs) : ¬ lt (toP t) (toP a) ∧ ¬ lt (toP b) (toP t) := by
  constructor
  · obtain ⟨c, r, e⟩ := List.exists_cons_of_ne_nil h.ne
    subst e
    have := h.hd
    simp at this
    subst this
    have hp := h.row.2
    rw [List.pairwise_cons] at hp
    rcases List.mem_cons.1 ht with rfl | ht
    · exact lt_irrefl _
    · exact lt_asymm (hp.1 t ht)
  · obtain ⟨ys, e⟩ := List.getLast?_eq_some_iff.1 h.la
    subst e
    have hp := h.row.2
    rw [List.pairwise_append] at hp
    rcases List.mem_append.1 ht with ht | ht
    · exact lt_asymm (hp.2.2 t ht b (by simp))
    · simp at ht; subst ht; exact lt_irrefl _
theorem add_spec {a b : T3} {cs : List T3} {s : T3} (h : Cuts a b cs) (hs : Nrm s) : Cuts a b (addCutM cs s) ∧ ∀ t, t ∈ addCutM cs s ↔ t ∈ cs ∨ (t = s ∧ ¬ lt (toP s) (toP a) ∧ ¬ lt (toP b) (toP s)) := by
  have e1 : cs.headD (0, 0, 0) = a := by rw [List.headD_eq_head?_getD, h.hd]; rfl
  have e2 : cs.getLastD (0, 0, 0) = b := by
    obtain ⟨ys, e⟩ := List.getLast?_eq_some_iff.1 h.la
    rw [e]; simp
  unfold addCutM
  rw [e1, e2]
  simp only [before_toP hs.1 h.na.1, before_toP h.nb.1 hs.1]
  by_cases k : lt (toP s) (toP a) ∨ lt (toP b) (toP s)
  · rw [if_pos k]
    exact ⟨h, fun t => by grind⟩
  · rw [if_neg k]
    obtain ⟨i1, i2⟩ := ins_spec h.row hs h.ne (by rw [e2]; exact fun q => k (.inr q))
    refine ⟨⟨i1, ?_, ?_⟩, fun t => by rw [i2]; grind⟩
    · -- the least one
      obtain ⟨c, r, e⟩ := List.exists_cons_of_ne_nil h.ne
      subst e
      have hh := h.hd
      simp at hh
      subst hh
      unfold insCut
      by_cases q : beforeM c s = true
      · rw [if_pos q]; rfl
      · rw [if_neg q]
        rw [before_toP h.na.1 hs.1] at q
        have : c = s := by
          rcases lt_tri (toP c) (toP s) with z | z | z
          · exact absurd z q
          · exact toP_inj h.na hs z
          · exact absurd (.inl z) k
        rw [if_neg (by simpa using this)]; rfl
    · -- the greatest one
      have mb : b ∈ insCut cs s := (i2 b).2 (.inl (List.mem_of_getLast? h.la))
      cases hz : (insCut cs s).getLast? with
      | none => rw [List.getLast?_eq_none_iff] at hz; rw [hz] at mb; simp at mb
      | some z =>
        have mz := List.mem_of_getLast? hz
        obtain ⟨ys, ez⟩ := List.getLast?_eq_some_iff.1 hz
        have hp := i1.2
        rw [ez, List.pairwise_append] at hp
        rw [ez] at mb
        rcases List.mem_append.1 mb with q | q
        · have bz := hp.2.2 b q z (by simp)
          rcases (i2 z).1 mz with w | w
          · exact absurd bz (h.le w).2
          · rw [w] at bz; exact absurd (.inr bz) k
        · simp at q; rw [q]
/-- what two sides have in common, as far as it cuts them -/
def Common (s t : Seg) (v : Pt) : Prop := onS v s.1 s.2 ∧ onS v t.1 t.2 ∧ (par s t ≠ 0 ∨ v = s.1 ∨ v = s.2 ∨ v = t.1 ∨ v = t.2)
def Line (s : Sd) : Prop := s.2.2 = crossM s.1 s.2.1 ∧ Nrm s.1 ∧ Nrm s.2.1 ∧ lt (toP s.1) (toP s.2.1)
def segOfM (s : Sd) : Seg := (toP s.1, toP s.2.1)
theorem cross_left_eq {a b : Pt} : cross a b a = 0 ∧ cross a b b = 0 := by unfold cross; grind
theorem ends_spec {a b : T3} {cs : List T3} (h : Cuts a b cs) {sd : Sd} (hs : Line sd) {p q : Int} : Cuts a b (addEndsM cs sd p q) ∧ ∀ t, t ∈ addEndsM cs sd p q ↔ t ∈ cs ∨ (p = 0 ∧ t = sd.1 ∧ ¬ lt (toP sd.1) (toP a) ∧ ¬ lt (toP b) (toP sd.1)) ∨ (q = 0 ∧ t = sd.2.1 ∧ ¬ lt (toP sd.2.1) (toP a) ∧ ¬ lt (toP b) (toP sd.2.1)) := by
  unfold addEndsM
  simp only []
  obtain ⟨_, n1, n2, _⟩ := hs
  by_cases hp : p = 0
  · rw [if_pos hp]
    obtain ⟨i1, i2⟩ := add_spec h n1
    by_cases hq : q = 0
    · rw [if_pos hq]
      obtain ⟨j1, j2⟩ := add_spec i1 n2
      exact ⟨j1, fun t => by rw [j2, i2]; grind⟩
    · rw [if_neg hq]
      exact ⟨i1, fun t => by rw [i2]; grind⟩
  · rw [if_neg hp]
    by_cases hq : q = 0
    · rw [if_pos hq]
      obtain ⟨j1, j2⟩ := add_spec h n2
      exact ⟨j1, fun t => by rw [j2]; grind⟩
    · rw [if_neg hq]
      exact ⟨h, fun t => by grind⟩
end My
end
section
open GkBase
set_option Elab.async false
namespace My
theorem lines_unique {a b c d x y : Pt} (hp : par (a, b) (c, d) ≠ 0) (h1 : cross a b x = 0) (h2 : cross a b y = 0) (h3 : cross c d x = 0) (h4 : cross c d y = 0) : x = y := by
  unfold par at hp
  unfold cross at *
  simp only [] at hp
  rw [pt_ext]
  have e1 : ((b.1 - a.1) * (d.2 - c.2) - (b.2 - a.2) * (d.1 - c.1)) * (x.1 - y.1) = 0 := by grind
  have e2 : ((b.1 - a.1) * (d.2 - c.2) - (b.2 - a.2) * (d.1 - c.1)) * (x.2 - y.2) = 0 := by grind
  constructor
  · rcases Rat.mul_eq_zero.1 e1 with r | r
    · exact absurd r hp
    · grind
  · rcases Rat.mul_eq_zero.1 e2 with r | r
    · exact absurd r hp
    · grind
theorem par_cross (a b c d : Pt) : cross a b d - cross a b c = par (a, b) (c, d) := by unfold cross par; grind
theorem par_swap (s t : Seg) : par t s = - par s t := by unfold par; grind
theorem common_swap {s t : Seg} {v : Pt} : Common s t v ↔ Common t s v := by
  unfold Common
  rw [par_swap s t]
  have : (-par s t ≠ 0) ↔ par s t ≠ 0 := by grind
  rw [this]; grind
theorem imul_pos {p q : Int} : 0 < p * q ↔ (0 < p ∧ 0 < q) ∨ (p < 0 ∧ q < 0) := by
  constructor
  · intro h
    rcases Int.lt_trichotomy p 0 with a | a | a <;> rcases Int.lt_trichotomy q 0 with b | b | b
    · exact .inr ⟨a, b⟩
    · subst b; simp at h
    · have := Int.mul_neg_of_neg_of_pos a b; omega
    · subst a; simp at h
    · subst a; simp at h
    · subst a; simp at h
    · have := Int.mul_neg_of_pos_of_neg a b; omega
    · subst b; simp at h
    · exact .inl ⟨a, b⟩
  · rintro (⟨a, b⟩ | ⟨a, b⟩)
    · exact Int.mul_pos a b
    · exact Int.mul_pos_of_neg_of_neg a b
theorem imul_neg {p q : Int} : p * q < 0 ↔ (0 < p ∧ q < 0) ∨ (p < 0 ∧ 0 < q) := by
  constructor
  · intro h
    rcases Int.lt_trichotomy p 0 with a | a | a <;> rcases Int.lt_trichotomy q 0 with b | b | b
    · have := Int.mul_pos_of_neg_of_neg a b; omega
    · subst b; simp at h
    · exact .inr ⟨a, b⟩
    · subst a; simp at h
    · subst a; simp at h
    · subst a; simp at h
    · exact .inl ⟨a, b⟩
    · subst b; simp at h
    · have := Int.mul_pos a b; omega
  · rintro (⟨a, b⟩ | ⟨a, b⟩)
    · exact Int.mul_neg_of_pos_of_neg a b
    · exact Int.mul_neg_of_neg_of_pos a b
theorem not_common {a b c d v : Pt} (h : (0 < cross a b c ∧ 0 < cross a b d) ∨ (cross a b c < 0 ∧ cross a b d < 0)) (h1 : onS v a b) (h2 : onS v c d) : False := by
  obtain ⟨t, t0, t1, rfl⟩ := onS_iff.1 h2
  have z := h1.1
  rw [cross_pt] at z
  have s1 := sgn t (cross a b d)
  have s2 := sgn (1 - t) (cross a b c)
  have e1 : (1 - t) * cross a b c = cross a b c - t * cross a b c := by grind
  have e2 : cross a b c + t * (cross a b d - cross a b c) = (1 - t) * cross a b c + t * cross a b d := by grind
  grind
/-- where two sides cross -/
theorem crossing {a b c d : Pt} (h1 : (0 < cross a b c ∧ cross a b d < 0) ∨ (cross a b c < 0 ∧ 0 < cross a b d)) (h2 : (0 < cross c d a ∧ cross c d b < 0) ∨ (cross c d a < 0 ∧ 0 < cross c d b)) {m : Pt} (m1 : cross a b m = 0) (m2 : cross c d m = 0) : onS m a b ∧ onS m c d := by
  have hp : par (a, b) (c, d) ≠ 0 := by rw [← par_cross]; grind
  have key : ∀ {a b c d m : Pt}, par (a, b) (c, d) ≠ 0 → ((0 < cross a b c ∧ cross a b d < 0) ∨ (cross a b c < 0 ∧ 0 < cross a b d)) → cross a b m = 0 → cross c d m = 0 → onS m c d := by
    intro a b c d m hp h m1 m2
    have ne : cross a b c - cross a b d ≠ 0 := by grind
    have dv := Rat.div_mul_cancel (a := cross a b c) ne
    have z0 : cross a b (pt c d (cross a b c / (cross a b c - cross a b d))) = 0 := by
      rw [cross_pt]
      generalize cross a b c / (cross a b c - cross a b d) = t at *
      grind
    have t0 : 0 ≤ cross a b c / (cross a b c - cross a b d) := by
      generalize cross a b c / (cross a b c - cross a b d) = t at *
      have := sgn t (cross a b c - cross a b d)
      grind
    have t1 : cross a b c / (cross a b c - cross a b d) ≤ 1 := by
      generalize cross a b c / (cross a b c - cross a b d) = t at *
      have := sgn (t - 1) (cross a b c - cross a b d)
      have : (t - 1) * (cross a b c - cross a b d) = t * (cross a b c - cross a b d) - (cross a b c - cross a b d) := by grind
      grind
    have on := onS_pt c d t0 t1
    have : m = pt c d (cross a b c / (cross a b c - cross a b d)) := lines_unique hp m1 z0 m2 on.1
    rw [this]; exact on
  refine ⟨?_, key hp h1 m1 m2⟩
  have hp' : par (c, d) (a, b) ≠ 0 := by rw [par_swap]; grind
  exact key hp' h2 m2 m1
theorem cutTwo_spec {one other : Sd} (h1 : Line one) (h2 : Line other) {oc xc : List T3} (c1 : Cuts one.1 one.2.1 oc) (c2 : Cuts other.1 other.2.1 xc) : Cuts one.1 one.2.1 (cutTwoM one other oc xc).1 ∧ Cuts other.1 other.2.1 (cutTwoM one other oc xc).2 ∧ (∀ t, t ∈ (cutTwoM one other oc xc).1 ↔ t ∈ oc ∨ (Nrm t ∧ Common (segOfM one) (segOfM other) (toP t))) ∧ (∀ t, t ∈ (cutTwoM one other oc xc).2 ↔ t ∈ xc ∨ (Nrm t ∧ Common (segOfM one) (segOfM other) (toP t))) := by
  obtain ⟨a, b, L⟩ := one
  obtain ⟨c, d, M⟩ := other
  obtain ⟨e1, na, nb, lab⟩ := h1
  obtain ⟨e2, nc, nd, lcd⟩ := h2
  simp only [] at e1 na nb lab e2 nc nd lcd c1 c2
  subst e1
  subst e2
  have P := left_sign na.1 nb.1 nc.1
  have Q := left_sign na.1 nb.1 nd.1
  have A := left_sign nc.1 nd.1 na.1
  have B := left_sign nc.1 nd.1 nb.1
  unfold cutTwoM segOfM Common
  simp only [imul_pos, imul_neg, P.1, P.2.1, Q.1, Q.2.1, A.1, A.2.1, B.1, B.2.1]
  by_cases k1 : (0 < cross (toP a) (toP b) (toP c) ∧ 0 < cross (toP a) (toP b) (toP d)) ∨ (cross (toP a) (toP b) (toP c) < 0 ∧ cross (toP a) (toP b) (toP d) < 0)
  · simp only [k1, if_true]
    refine ⟨c1, c2, fun t => ?_, fun t => ?_⟩
    · have := @not_common (toP a) (toP b) (toP c) (toP d) (toP t) k1; grind
    · have := @not_common (toP a) (toP b) (toP c) (toP d) (toP t) k1; grind
  · simp only [k1, if_false]
    by_cases k2 : (0 < cross (toP c) (toP d) (toP a) ∧ 0 < cross (toP c) (toP d) (toP b)) ∨ (cross (toP c) (toP d) (toP a) < 0 ∧ cross (toP c) (toP d) (toP b) < 0)
    · simp only [k2, if_true]
      refine ⟨c1, c2, fun t => ?_, fun t => ?_⟩
      · have := @not_common (toP c) (toP d) (toP a) (toP b) (toP t) k2; grind
      · have := @not_common (toP c) (toP d) (toP a) (toP b) (toP t) k2; grind
    · simp only [k2, if_false]
      by_cases k3 : ((0 < cross (toP a) (toP b) (toP c) ∧ cross (toP a) (toP b) (toP d) < 0) ∨ (cross (toP a) (toP b) (toP c) < 0 ∧ 0 < cross (toP a) (toP b) (toP d))) ∧ ((0 < cross (toP c) (toP d) (toP a) ∧ cross (toP c) (toP d) (toP b) < 0) ∨ (cross (toP c) (toP d) (toP a) < 0 ∧ 0 < cross (toP c) (toP d) (toP b)))
      · rw [if_pos k3]
        have hp : par (toP a, toP b) (toP c, toP d) ≠ 0 := by rw [← par_cross]; grind
        obtain ⟨nm, m1, m2⟩ := meet_toP na.1 nb.1 nc.1 nd.1 hp
        obtain ⟨o1, o2⟩ := crossing k3.1 k3.2 m1 m2
        have x1 := (onS_lt lab).1 o1
        have x2 := (onS_lt lcd).1 o2
        obtain ⟨i1, i2⟩ := add_spec c1 nm
        obtain ⟨j1, j2⟩ := add_spec c2 nm
        have cm : ∀ t, (t = meetM (crossM a b) (crossM c d)) ↔ Nrm t ∧ onS (toP t) (toP a) (toP b) ∧ onS (toP t) (toP c) (toP d) := by
          intro t
          constructor
          · rintro rfl; exact ⟨nm, o1, o2⟩
          · rintro ⟨nt, q1, q2⟩
            exact toP_inj nt nm (lines_unique hp q1.1 m1 q2.1 m2)
        refine ⟨i1, j1, fun t => ?_, fun t => ?_⟩
        · rw [i2]; have := cm t; grind
        · rw [j2]; have := cm t; grind
      · rw [if_neg k3]
        have l1 : Line (a, b, crossM a b) := ⟨rfl, na, nb, lab⟩
        have l2 : Line (c, d, crossM c d) := ⟨rfl, nc, nd, lcd⟩
        obtain ⟨i1, i2⟩ := ends_spec c1 l2 (p := leftM (crossM a b) c) (q := leftM (crossM a b) d)
        obtain ⟨j1, j2⟩ := ends_spec c2 l1 (p := leftM (crossM c d) a) (q := leftM (crossM c d) b)
        have ma : a ∈ oc := List.mem_of_head? c1.hd
        have mb : b ∈ oc := List.mem_of_getLast? c1.la
        have mc : c ∈ xc := List.mem_of_head? c2.hd
        have md : d ∈ xc := List.mem_of_getLast? c2.la
        have oa := onS_left (toP a) (toP b)
        have ob := onS_right (toP a) (toP b)
        have oc' := onS_left (toP c) (toP d)
        have od := onS_right (toP c) (toP d)
        have U : ∀ {x y : Pt}, par (toP a, toP b) (toP c, toP d) ≠ 0 → cross (toP a) (toP b) x = 0 → cross (toP a) (toP b) y = 0 → cross (toP c) (toP d) x = 0 → cross (toP c) (toP d) y = 0 → x = y := fun hp => lines_unique hp
        have four : ∀ v : Pt, onS v (toP a) (toP b) → onS v (toP c) (toP d) → (par (toP a, toP b) (toP c, toP d) ≠ 0 ∨ v = toP a ∨ v = toP b ∨ v = toP c ∨ v = toP d) → v = toP a ∨ v = toP b ∨ v = toP c ∨ v = toP d := by
          intro v q1 q2 q3
          rcases q3 with q3 | q3
          · have z : cross (toP a) (toP b) (toP c) = 0 ∨ cross (toP a) (toP b) (toP d) = 0 ∨ cross (toP c) (toP d) (toP a) = 0 ∨ cross (toP c) (toP d) (toP b) = 0 := by grind
            rcases z with z | z | z | z
            · exact .inr (.inr (.inl (U q3 q1.1 z q2.1 oc'.1)))
            · exact .inr (.inr (.inr (U q3 q1.1 z q2.1 od.1)))
            · exact .inl (U q3 q1.1 oa.1 q2.1 z)
            · exact .inr (.inl (U q3 q1.1 ob.1 q2.1 z))
          · exact q3
        refine ⟨i1, j1, fun t => ?_, fun t => ?_⟩
        · rw [i2]
          simp only [P.2.2, Q.2.2]
          constructor
          · rintro (q | ⟨q1, rfl, q2, q3⟩ | ⟨q1, rfl, q2, q3⟩)
            · exact .inl q
            · exact .inr ⟨nc, (onS_lt lab).2 ⟨q1, q2, q3⟩, oc', .inr (.inr (.inr (.inl rfl)))⟩
            · exact .inr ⟨nd, (onS_lt lab).2 ⟨q1, q2, q3⟩, od, .inr (.inr (.inr (.inr rfl)))⟩
          · rintro (q | ⟨nt, q1, q2, q3⟩)
            · exact .inl q
            · have x1 := (onS_lt lab).1 q1
              rcases four _ q1 q2 q3 with z | z | z | z
              · left; rw [toP_inj nt na z]; exact ma
              · left; rw [toP_inj nt nb z]; exact mb
              · right; left
                rw [z] at x1
                exact ⟨x1.1, toP_inj nt nc z, x1.2.1, x1.2.2⟩
              · right; right
                rw [z] at x1
                exact ⟨x1.1, toP_inj nt nd z, x1.2.1, x1.2.2⟩
        · rw [j2]
          simp only [A.2.2, B.2.2]
          constructor
          · rintro (q | ⟨q1, rfl, q2, q3⟩ | ⟨q1, rfl, q2, q3⟩)
            · exact .inl q
            · exact .inr ⟨na, oa, (onS_lt lcd).2 ⟨q1, q2, q3⟩, .inr (.inl rfl)⟩
            · exact .inr ⟨nb, ob, (onS_lt lcd).2 ⟨q1, q2, q3⟩, .inr (.inr (.inl rfl))⟩
          · rintro (q | ⟨nt, q1, q2, q3⟩)
            · exact .inl q
            · have x1 := (onS_lt lcd).1 q2
              rcases four _ q1 q2 q3 with z | z | z | z
              · right; left
                rw [z] at x1
                exact ⟨x1.1, toP_inj nt na z, x1.2.1, x1.2.2⟩
              · right; right
                rw [z] at x1
                exact ⟨x1.1, toP_inj nt nb z, x1.2.1, x1.2.2⟩
              · left; rw [toP_inj nt nc z]; exact mc
              · left; rw [toP_inj nt nd z]; exact md
end My
end
section
open GkBase
set_option Elab.async false
namespace My
/-! All cuts, all stretches. -/
def sd0 : Sd := ((0, 0, 0), (0, 0, 0), (0, 0, 0))
def cutStep (S : List Sd) (k : Nat) (cs : List (List T3)) (j : Nat) : List (List T3) :=
  (cs.set k (cutTwoM (S.getD k sd0) (S.getD j sd0) (cs.getD k []) (cs.getD j [])).1).set j (cutTwoM (S.getD k sd0) (S.getD j sd0) (cs.getD k []) (cs.getD j [])).2
def cutsM (S : List Sd) : List (List T3) := (List.range S.length).foldl (fun cs k => (List.range k).foldl (cutStep S k) cs) (S.map fun s => [s.1, s.2.1])
abbrev sg (S : List Sd) (k : Nat) : Seg := segOfM (S.getD k sd0)
/-- what the cuts hold so far -/
structure Part (S : List Sd) (done : Nat → Nat → Prop) (cs : List (List T3)) : Prop where
  len : cs.length = S.length
  cut : ∀ k, k < S.length → Cuts (S.getD k sd0).1 (S.getD k sd0).2.1 (cs.getD k [])
  snd : ∀ k, k < S.length → ∀ t ∈ cs.getD k [], Nrm t ∧ (toP t = (sg S k).1 ∨ toP t = (sg S k).2 ∨ ∃ j, j < S.length ∧ j ≠ k ∧ Common (sg S k) (sg S j) (toP t))
  cpl : ∀ k j, done k j → ∀ t, Nrm t → Common (sg S k) (sg S j) (toP t) → t ∈ cs.getD k [] ∧ t ∈ cs.getD j []
theorem getD_set {α : Type} (l : List α) (i j : Nat) (x d : α) : (l.set i x).getD j d = if i = j ∧ j < l.length then x else l.getD j d := by
  simp only [List.getD_eq_getElem?_getD, List.getElem?_set]
  by_cases h : i = j
  · subst h
    by_cases k : i < l.length
    · simp [k]
    · simp [k]
  · simp [h]
theorem part_step {S : List Sd} (hS : ∀ k, k < S.length → Line (S.getD k sd0)) {done : Nat → Nat → Prop} {cs : List (List T3)} (h : Part S done cs) {k j : Nat} (hk : k < S.length) (hj : j < k) : Part S (fun a b => done a b ∨ (a = k ∧ b = j)) (cutStep S k cs j) := by
  have hj' : j < S.length := by omega
  obtain ⟨s1, s2, s3, s4⟩ := cutTwo_spec (hS k hk) (hS j hj') (h.cut k hk) (h.cut j hj')
  unfold cutStep
  generalize cutTwoM (S.getD k sd0) (S.getD j sd0) (cs.getD k []) (cs.getD j []) = r at *
  have g : ∀ i, ((cs.set k r.1).set j r.2).getD i [] = if i = j then r.2 else if i = k then r.1 else cs.getD i [] := by
    intro i
    rw [getD_set, getD_set, List.length_set, h.len]
    by_cases a : i = j
    · subst a; simp [hj']
    · by_cases b : i = k
      · subst b
        have : ¬ j = i := fun q => a q.symm
        simp [this, a, hk]
      · have q1 : ¬ j = i := fun q => a q.symm
        have q2 : ¬ k = i := fun q => b q.symm
        simp [q1, q2, a, b]
  have jk : j ≠ k := by omega
  have mono : ∀ i t, t ∈ cs.getD i [] → t ∈ ((cs.set k r.1).set j r.2).getD i [] := by
    intro i t ht
    rw [g]
    by_cases a : i = j
    · subst a; rw [if_pos rfl, s4]; exact .inl ht
    · rw [if_neg a]
      by_cases b : i = k
      · subst b; rw [if_pos rfl, s3]; exact .inl ht
      · rw [if_neg b]; exact ht
  refine ⟨by simp [h.len], ?_, ?_, ?_⟩
  · intro i hi
    rw [g]
    by_cases a : i = j
    · subst a; rw [if_pos rfl]; exact s2
    · rw [if_neg a]
      by_cases b : i = k
      · subst b; rw [if_pos rfl]; exact s1
      · rw [if_neg b]; exact h.cut i hi
  · intro i hi t ht
    rw [g] at ht
    by_cases a : i = j
    · subst a
      rw [if_pos rfl, s4] at ht
      rcases ht with ht | ⟨n, c⟩
      · exact h.snd i hi t ht
      · exact ⟨n, .inr (.inr ⟨k, hk, by omega, common_swap.1 c⟩)⟩
    · rw [if_neg a] at ht
      by_cases b : i = k
      · subst b
        rw [if_pos rfl, s3] at ht
        rcases ht with ht | ⟨n, c⟩
        · exact h.snd i hi t ht
        · exact ⟨n, .inr (.inr ⟨j, hj', by omega, c⟩)⟩
      · rw [if_neg b] at ht; exact h.snd i hi t ht
  · intro a b hd t nt c
    rcases hd with hd | ⟨rfl, rfl⟩
    · obtain ⟨q1, q2⟩ := h.cpl a b hd t nt c
      exact ⟨mono a t q1, mono b t q2⟩
    · rw [g, g, if_neg (by omega), if_pos rfl, if_pos rfl]
      exact ⟨(s3 t).2 (.inr ⟨nt, c⟩), (s4 t).2 (.inr ⟨nt, c⟩)⟩
theorem part_imp {S : List Sd} {d1 d2 : Nat → Nat → Prop} {cs : List (List T3)} (h : Part S d1 cs) (k : ∀ a b, d2 a b → d1 a b) : Part S d2 cs := ⟨h.len, h.cut, h.snd, fun a b q => h.cpl a b (k a b q)⟩
theorem part_inner {S : List Sd} (hS : ∀ k, k < S.length → Line (S.getD k sd0)) {done : Nat → Nat → Prop} {k : Nat} (hk : k < S.length) : ∀ (m : Nat) (cs : List (List T3)), m ≤ k → Part S done cs → Part S (fun a b => done a b ∨ (a = k ∧ b < m)) ((List.range m).foldl (cutStep S k) cs) := by
  intro m
  induction m with
  | zero => intro cs _ h; exact part_imp h (fun a b q => by grind)
  | succ m ih =>
    intro cs hm h
    rw [List.range_succ, List.foldl_append]
    have := part_step hS (ih cs (by omega) h) hk (j := m) (by omega)
    exact part_imp this (fun a b q => by grind)
theorem part_outer {S : List Sd} (hS : ∀ k, k < S.length → Line (S.getD k sd0)) : ∀ (m : Nat) (cs : List (List T3)), m ≤ S.length → Part S (fun _ _ => False) cs → Part S (fun a b => a < m ∧ b < a) ((List.range m).foldl (fun cs k => (List.range k).foldl (cutStep S k) cs) cs) := by
  intro m
  induction m with
  | zero => intro cs _ h; exact part_imp h (fun a b q => by omega)
  | succ m ih =>
    intro cs hm h
    rw [List.range_succ, List.foldl_append]
    have := part_inner hS (k := m) (by omega) m _ (Nat.le_refl m) (ih cs (by omega) h)
    exact part_imp this (fun a b q => by omega)
theorem line_getD {S : List Sd} (hS : ∀ s ∈ S, Line s) : ∀ k, k < S.length → Line (S.getD k sd0) := by
  intro k hk
  rw [List.getD_eq_getElem?_getD, List.getElem?_eq_getElem hk]
  exact hS _ (List.getElem_mem hk)
theorem cutsM_part {S : List Sd} (hS : ∀ s ∈ S, Line s) : Part S (fun a b => a < S.length ∧ b < a) (cutsM S) := by
  refine part_outer (line_getD hS) S.length _ (Nat.le_refl _) ⟨by simp, ?_, ?_, fun _ _ q => q.elim⟩
  · intro k hk
    have e : (S.map fun s => [s.1, s.2.1]).getD k [] = [(S.getD k sd0).1, (S.getD k sd0).2.1] := by
      simp [List.getD_eq_getElem?_getD, List.getElem?_eq_getElem hk]
    rw [e]
    obtain ⟨_, n1, n2, l⟩ := line_getD hS k hk
    exact ⟨⟨fun t ht => by simp at ht; rcases ht with rfl | rfl; exact n1; exact n2, List.pairwise_pair.2 l⟩, rfl, rfl⟩
  · intro k hk t ht
    have e : (S.map fun s => [s.1, s.2.1]).getD k [] = [(S.getD k sd0).1, (S.getD k sd0).2.1] := by
      simp [List.getD_eq_getElem?_getD, List.getElem?_eq_getElem hk]
    rw [e] at ht
    obtain ⟨_, n1, n2, l⟩ := line_getD hS k hk
    simp at ht
    rcases ht with rfl | rfl
    · exact ⟨n1, .inl rfl⟩
    · exact ⟨n2, .inr (.inl rfl)⟩
theorem par_two {s t u : Seg} (hs : s.1 ≠ s.2) (h1 : par s t = 0) (h2 : par s u = 0) : par t u = 0 := by
  unfold par at *
  have : s.2.1 - s.1.1 ≠ 0 ∨ s.2.2 - s.1.2 ≠ 0 := by
    apply Classical.byContradiction
    intro k
    exact hs (by rw [pt_ext]; grind)
  rcases this with q | q
  · have : (s.2.1 - s.1.1) * ((t.2.1 - t.1.1) * (u.2.2 - u.1.2) - (t.2.2 - t.1.2) * (u.2.1 - u.1.1)) = 0 := by grind
    rcases Rat.mul_eq_zero.1 this with r | r
    · exact absurd r q
    · exact r
  · have : (s.2.2 - s.1.2) * ((t.2.1 - t.1.1) * (u.2.2 - u.1.2) - (t.2.2 - t.1.2) * (u.2.1 - u.1.1)) = 0 := by grind
    rcases Rat.mul_eq_zero.1 this with r | r
    · exact absurd r q
    · exact r
/-- **a side's cuts are the vertices on it** -/
theorem mem_cutsM {S : List Sd} (hS : ∀ s ∈ S, Line s) {k : Nat} (hk : k < S.length) {t : T3} : t ∈ (cutsM S).getD k [] ↔ Nrm t ∧ Vert (S.map segOfM) (toP t) ∧ onS (toP t) (sg S k).1 (sg S k).2 := by
  have P := cutsM_part hS
  have sgm : ∀ j, j < S.length → sg S j ∈ S.map segOfM := by
    intro j hj
    refine List.mem_map.2 ⟨S.getD j sd0, ?_, rfl⟩
    rw [List.getD_eq_getElem?_getD, List.getElem?_eq_getElem hj]; exact List.getElem_mem hj
  constructor
  · intro ht
    obtain ⟨n, q⟩ := P.snd k hk t ht
    refine ⟨n, ?_⟩
    rcases q with q | q | ⟨j, hj, jk, c1, c2, c3⟩
    · rw [q]; exact ⟨.inl ⟨sg S k, sgm k hk, .inl rfl⟩, onS_left _ _⟩
    · rw [q]; exact ⟨.inl ⟨sg S k, sgm k hk, .inr rfl⟩, onS_right _ _⟩
    · refine ⟨?_, c1⟩
      rcases c3 with c3 | c3 | c3 | c3 | c3
      · exact .inr ⟨sg S k, sgm k hk, sg S j, sgm j hj, c3, c1, c2⟩
      · exact .inl ⟨sg S k, sgm k hk, .inl c3⟩
      · exact .inl ⟨sg S k, sgm k hk, .inr c3⟩
      · exact .inl ⟨sg S j, sgm j hj, .inl c3⟩
      · exact .inl ⟨sg S j, sgm j hj, .inr c3⟩
  · rintro ⟨n, v, o⟩
    have C := P.cut k hk
    have ends : toP t = (sg S k).1 ∨ toP t = (sg S k).2 → t ∈ (cutsM S).getD k [] := by
      rintro (q | q)
      · rw [toP_inj n C.na q]; exact List.mem_of_head? C.hd
      · rw [toP_inj n C.nb q]; exact List.mem_of_getLast? C.la
    have com : ∀ j, j < S.length → j ≠ k → Common (sg S k) (sg S j) (toP t) → t ∈ (cutsM S).getD k [] := by
      intro j hj jk c
      rcases Nat.lt_or_gt_of_ne jk with q | q
      · exact (P.cpl k j ⟨hk, q⟩ t n c).1
      · exact (P.cpl j k ⟨hj, q⟩ t n (common_swap.1 c)).2
    have idx : ∀ s ∈ S.map segOfM, ∃ j, j < S.length ∧ sg S j = s := by
      intro s hs
      obtain ⟨x, hx, rfl⟩ := List.mem_map.1 hs
      obtain ⟨j, hj, e⟩ := List.getElem_of_mem hx
      exact ⟨j, hj, by show segOfM (S.getD j sd0) = _; rw [List.getD_eq_getElem?_getD, List.getElem?_eq_getElem hj, ← e]; rfl⟩
    have ndk : (sg S k).1 ≠ (sg S k).2 := by
      have := (line_getD hS k hk).2.2.2
      intro q
      exact lt_irrefl (sg S k).1 (by conv => rhs; rw [q]
                                     exact this)
    rcases v with ⟨s, hs, q⟩ | ⟨s, hs, u, hu, p, os, ou⟩
    · obtain ⟨j, hj, rfl⟩ := idx s hs
      by_cases jk : j = k
      · subst jk; exact ends q
      · refine com j hj jk ⟨o, ?_, ?_⟩
        · rcases q with q | q
          · rw [q]; exact onS_left _ _
          · rw [q]; exact onS_right _ _
        · grind
    · obtain ⟨j, hj, rfl⟩ := idx s hs
      obtain ⟨i, hi, rfl⟩ := idx u hu
      by_cases p1 : par (sg S k) (sg S j) = 0
      · by_cases p2 : par (sg S k) (sg S i) = 0
        · exact absurd (par_two ndk p1 p2) p
        · refine com i hi ?_ ⟨o, ou, .inl p2⟩
          rintro rfl; exact p2 (par_self _)
      · refine com j hj ?_ ⟨o, os, .inl p1⟩
        rintro rfl; exact p1 (par_self _)
def dedup {α : Type} [DecidableEq α] (l : List α) : List α := l.foldl (fun acc x => if x ∈ acc then acc else acc ++ [x]) []
theorem dedup_aux {α : Type} [DecidableEq α] (l acc : List α) (h : acc.Nodup) : (l.foldl (fun acc x => if x ∈ acc then acc else acc ++ [x]) acc).Nodup ∧ ∀ x, x ∈ l.foldl (fun acc x => if x ∈ acc then acc else acc ++ [x]) acc ↔ x ∈ acc ∨ x ∈ l := by
  induction l generalizing acc with
  | nil => exact ⟨h, fun x => by simp⟩
  | cons y l ih =>
    rw [List.foldl_cons]
    by_cases k : y ∈ acc
    · rw [if_pos k]
      obtain ⟨i1, i2⟩ := ih acc h
      exact ⟨i1, fun x => by rw [i2, List.mem_cons]; grind⟩
    · rw [if_neg k]
      obtain ⟨i1, i2⟩ := ih (acc ++ [y]) (by
        rw [List.nodup_append]
        refine ⟨h, by simp, ?_⟩
        intro a ha b hb q
        simp at hb; subst hb; subst q; exact k ha)
      exact ⟨i1, fun x => by rw [i2, List.mem_append, List.mem_singleton, List.mem_cons]; grind⟩
theorem mem_dedup {α : Type} [DecidableEq α] {l : List α} {x : α} : x ∈ dedup l ↔ x ∈ l := by
  have := (dedup_aux l [] List.nodup_nil).2 x
  simpa [dedup] using this
theorem dedup_nodup {α : Type} [DecidableEq α] (l : List α) : (dedup l).Nodup := (dedup_aux l [] List.nodup_nil).1
def stretchM (S : List Sd) : List (T3 × T3) := dedup ((cutsM S).flatMap fun row => row.zip row.tail)
/-- **the stretches are the edges** -/
theorem mem_stretchM {S : List Sd} (hS : ∀ s ∈ S, Line s) {p q : T3} : (p, q) ∈ stretchM S ↔ Nrm p ∧ Nrm q ∧ Edge (S.map segOfM) (toP p) (toP q) := by
  have P := cutsM_part hS
  unfold stretchM
  rw [mem_dedup, List.mem_flatMap]
  have row : ∀ k, k < S.length → ((p, q) ∈ ((cutsM S).getD k []).zip ((cutsM S).getD k []).tail ↔ p ∈ (cutsM S).getD k [] ∧ q ∈ (cutsM S).getD k [] ∧ lt (toP p) (toP q) ∧ ∀ v ∈ (cutsM S).getD k [], lt (toP p) (toP v) → ¬ lt (toP v) (toP q)) := by
    intro k hk
    exact mem_zip_tail (R := fun a b => lt (toP a) (toP b)) (fun x => lt_irrefl _) (fun h k => lt_trans h k) _ (P.cut k hk).row.2 p q
  constructor
  · rintro ⟨r, hr, h⟩
    obtain ⟨k, hk, e⟩ := List.getElem_of_mem hr
    have hk' : k < S.length := by rw [P.len] at hk; exact hk
    have er : r = (cutsM S).getD k [] := by rw [List.getD_eq_getElem?_getD, List.getElem?_eq_getElem hk, e]; rfl
    rw [er, row k hk'] at h
    obtain ⟨h1, h2, h3, h4⟩ := h
    obtain ⟨n1, v1, o1⟩ := (mem_cutsM hS hk').1 h1
    obtain ⟨n2, v2, o2⟩ := (mem_cutsM hS hk').1 h2
    refine ⟨n1, n2, h3, v1, v2, sg S k, ?_, o1, o2, ?_⟩
    · refine List.mem_map.2 ⟨S.getD k sd0, ?_, rfl⟩
      rw [List.getD_eq_getElem?_getD, List.getElem?_eq_getElem hk']; exact List.getElem_mem hk'
    · intro v hv ov l1 l2
      have := h4 (ofP v) ((mem_cutsM hS hk').2 ⟨ofP_nrm v, by rw [toP_ofP]; exact hv, by rw [toP_ofP]; exact ov⟩)
      rw [toP_ofP] at this
      exact this l1 l2
  · rintro ⟨n1, n2, h3, v1, v2, s, hs, o1, o2, hno⟩
    obtain ⟨x, hx, rfl⟩ := List.mem_map.1 hs
    obtain ⟨k, hk, e⟩ := List.getElem_of_mem hx
    have es : sg S k = segOfM x := by show segOfM (S.getD k sd0) = _; rw [List.getD_eq_getElem?_getD, List.getElem?_eq_getElem hk, ← e]; rfl
    refine ⟨(cutsM S).getD k [], ?_, ?_⟩
    · have hk2 : k < (cutsM S).length := by rw [P.len]; exact hk
      rw [List.getD_eq_getElem?_getD, List.getElem?_eq_getElem hk2]; exact List.getElem_mem hk2
    · rw [row k hk]
      refine ⟨(mem_cutsM hS hk).2 ⟨n1, v1, by rw [es]; exact o1⟩, (mem_cutsM hS hk).2 ⟨n2, v2, by rw [es]; exact o2⟩, h3, ?_⟩
      intro v hv l1
      obtain ⟨nv', vv, ov⟩ := (mem_cutsM hS hk).1 hv
      rw [es] at ov
      exact hno (toP v) vv ov l1
end My
end
section
open GkBase
set_option Elab.async false
namespace My
/-! Sides of rings, and what is beside a stretch. -/
def sideM (a b : T3) : Sd := if beforeM b a = true then (b, a, crossM b a) else (a, b, crossM a b)
def ringSidesM (ring : List T3) : List Sd := ((ring.getLastD (0, 0, 0) :: ring).zip ring).map fun x => sideM x.1 x.2
def sidesM (rings : List (List T3)) : List Sd := rings.flatMap ringSidesM
abbrev ptsM (rings : List (List T3)) : List (List Pt) := rings.map fun c => c.map toP
/-- a side, from its first place to its last -/
def orient (s : Seg) : Seg := if lt s.2 s.1 then (s.2, s.1) else s
theorem zip_last (x : T3) (l : List T3) (q : T3) : (x :: l).zip (l ++ [q]) = (x :: l).zip l ++ [((x :: l).getLastD x, q)] := by
  induction l generalizing x with
  | nil => rfl
  | cons y l ih =>
    have := ih y
    simp only [List.cons_append, List.zip_cons_cons, List.getLastD_cons] at this ⊢
    rw [this]
theorem ring_perm (c : List T3) : ((c.getLastD (0, 0, 0) :: c).zip c).Perm (match c with | [] => [] | o :: l => (o :: l).zip (l ++ [o])) := by
  cases c with
  | nil => simp
  | cons o l =>
    simp only [List.zip_cons_cons]
    rw [zip_last, List.getLastD_cons, List.getLastD_cons]
    exact List.perm_append_comm (l₁ := [(l.getLastD o, o)])
theorem sides_mapP (c : List T3) : (sides (c.map toP)) = (match c with | [] => [] | o :: l => (o :: l).zip (l ++ [o])).map (fun (x : T3 × T3) => (toP x.1, toP x.2)) := by
  cases c with
  | nil => rfl
  | cons o l =>
    simp only [sides, List.map_cons, List.tail_cons]
    have : (l.map toP ++ [toP o]) = (l ++ [o]).map toP := by simp
    rw [this, ← List.map_cons, List.zip_map]; rfl
theorem side_orient {a b : T3} (ha : Nrm a) (hb : Nrm b) (ne : toP a ≠ toP b) : segOfM (sideM a b) = orient (toP a, toP b) ∧ Line (sideM a b) := by
  unfold sideM orient
  simp only [before_toP hb.1 ha.1]
  by_cases k : lt (toP b) (toP a)
  · simp only [k, if_true]
    exact ⟨rfl, rfl, hb, ha, k⟩
  · simp only [k, if_false]
    refine ⟨rfl, rfl, ha, hb, ?_⟩
    rcases lt_tri (toP a) (toP b) with q | q | q
    · exact q
    · exact absurd q ne
    · exact absurd q k
/-- rings as they are kept: places in lowest terms, no side without a length -/
def Kept (rings : List (List T3)) : Prop := (∀ c ∈ rings, ∀ t ∈ c, Nrm t) ∧ Nondeg (Gk02.sidesOf (ptsM rings))
theorem ringSides_spec {c : List T3} (hn : ∀ t ∈ c, Nrm t) (hd : Nondeg (sides (c.map toP))) : ((ringSidesM c).map segOfM).Perm ((sides (c.map toP)).map orient) ∧ ∀ s ∈ ringSidesM c, Line s := by
  have pm := ring_perm c
  have sm := sides_mapP c
  have each : ∀ x ∈ (c.getLastD (0, 0, 0) :: c).zip c, Nrm x.1 ∧ Nrm x.2 ∧ toP x.1 ≠ toP x.2 := by
    intro x hx
    have h2 := pm.mem_iff.1 hx
    have hs : (toP x.1, toP x.2) ∈ sides (c.map toP) := by rw [sm]; exact List.mem_map.2 ⟨x, h2, rfl⟩
    refine ⟨?_, ?_, hd _ hs⟩
    · cases c with
      | nil => simp at h2
      | cons o l => exact hn x.1 (List.of_mem_zip h2).1
    · cases c with
      | nil => simp at h2
      | cons o l =>
        have := (List.of_mem_zip h2).2
        rcases List.mem_append.1 this with q | q
        · exact hn x.2 (by simp [q])
        · simp at q; rw [q]; exact hn o (by simp)
  constructor
  · unfold ringSidesM
    rw [List.map_map]
    have e : ((c.getLastD (0, 0, 0) :: c).zip c).map (segOfM ∘ fun x => sideM x.1 x.2) = (((c.getLastD (0, 0, 0) :: c).zip c).map fun x => (toP x.1, toP x.2)).map orient := by
      rw [List.map_map]
      refine List.map_congr_left fun x hx => ?_
      obtain ⟨a, b, d⟩ := each x hx
      exact (side_orient a b d).1
    rw [e, sm]
    exact (pm.map _).map orient
  · intro s hs
    obtain ⟨x, hx, rfl⟩ := List.mem_map.1 hs
    obtain ⟨a, b, d⟩ := each x hx
    exact (side_orient a b d).2
theorem sidesM_spec {rings : List (List T3)} (h : Kept rings) : ((sidesM rings).map segOfM).Perm ((Gk02.sidesOf (ptsM rings)).map orient) ∧ ∀ s ∈ sidesM rings, Line s := by
  obtain ⟨h1, h2⟩ := h
  induction rings with
  | nil => exact ⟨List.Perm.refl _, fun s hs => by simp [sidesM] at hs⟩
  | cons c r ih =>
    have e1 : sidesM (c :: r) = ringSidesM c ++ sidesM r := rfl
    have e2 : Gk02.sidesOf (ptsM (c :: r)) = sides (c.map toP) ++ Gk02.sidesOf (ptsM r) := rfl
    rw [e2] at h2
    obtain ⟨i1, i2⟩ := ih (fun d hd => h1 d (by simp [hd])) (fun s hs => h2 s (List.mem_append_right _ hs))
    obtain ⟨j1, j2⟩ := ringSides_spec (h1 c (by simp)) (fun s hs => h2 s (List.mem_append_left _ hs))
    rw [e1, e2, List.map_append, List.map_append]
    refine ⟨j1.append i1, fun s hs => ?_⟩
    rcases List.mem_append.1 hs with q | q
    · exact j2 s q
    · exact i2 s q
/-! Sides told the other way round have the same vertices and edges. -/
def SameS (l k : List Seg) : Prop := ∀ s, (s ∈ l ∨ (s.2, s.1) ∈ l) ↔ (s ∈ k ∨ (s.2, s.1) ∈ k)
theorem orient_or (s : Seg) : orient s = s ∨ orient s = (s.2, s.1) := by
  unfold orient; split
  · exact .inr rfl
  · exact .inl rfl
theorem same_orient (l : List Seg) : SameS (l.map orient) l := by
  intro s
  constructor
  · rintro (h | h)
    · obtain ⟨t, ht, e⟩ := List.mem_map.1 h
      rcases orient_or t with q | q
      · rw [q] at e; exact .inl (e ▸ ht)
      · rw [q] at e; right; rw [← e]; exact ht
    · obtain ⟨t, ht, e⟩ := List.mem_map.1 h
      rcases orient_or t with q | q
      · rw [q] at e; exact .inr (e ▸ ht)
      · rw [q] at e
        have : t = s := by
          have := congrArg (fun x : Seg => (x.2, x.1)) e
          exact this
        exact .inl (this ▸ ht)
  · have key : ∀ t ∈ l, t ∈ l.map orient ∨ (t.2, t.1) ∈ l.map orient := by
      intro t ht
      have : orient t ∈ l.map orient := List.mem_map.2 ⟨t, ht, rfl⟩
      rcases orient_or t with q | q
      · rw [q] at this; exact .inl this
      · rw [q] at this; exact .inr this
    rintro (h | h)
    · exact key s h
    · have := key (s.2, s.1) h
      rcases this with q | q
      · exact .inr q
      · exact .inl q
theorem SameS.symm {l k : List Seg} (h : SameS l k) : SameS k l := fun s => (h s).symm
theorem par_rev (s t : Seg) : par (s.2, s.1) t = - par s t ∧ par s (t.2, t.1) = - par s t := by unfold par; grind
theorem vert_same {l k : List Seg} (h : SameS l k) {v : Pt} (hv : Vert l v) : Vert k v := by
  rcases hv with ⟨s, hs, q⟩ | ⟨s, hs, t, ht, p, o1, o2⟩
  · rcases (h s).1 (.inl hs) with z | z
    · exact .inl ⟨s, z, q⟩
    · exact .inl ⟨(s.2, s.1), z, q.symm⟩
  · have a : ∃ s' ∈ k, onS v s'.1 s'.2 ∧ (s' = s ∨ s' = (s.2, s.1)) := by
      rcases (h s).1 (.inl hs) with z | z
      · exact ⟨s, z, o1, .inl rfl⟩
      · exact ⟨_, z, onS_comm.1 o1, .inr rfl⟩
    have b : ∃ t' ∈ k, onS v t'.1 t'.2 ∧ (t' = t ∨ t' = (t.2, t.1)) := by
      rcases (h t).1 (.inl ht) with z | z
      · exact ⟨t, z, o2, .inl rfl⟩
      · exact ⟨_, z, onS_comm.1 o2, .inr rfl⟩
    obtain ⟨s', hs', os, es⟩ := a
    obtain ⟨t', ht', ot, et⟩ := b
    refine .inr ⟨s', hs', t', ht', ?_, os, ot⟩
    have r1 := par_rev s t
    have r2 := par_rev s (t.2, t.1)
    rcases es with rfl | rfl <;> rcases et with rfl | rfl
    · exact p
    · rw [r1.2]; grind
    · rw [r1.1]; grind
    · rw [r2.1, r1.2]; grind
theorem edge_same {l k : List Seg} (h : SameS l k) {a b : Pt} (he : Edge l a b) : Edge k a b := by
  obtain ⟨lt', va, vb, s, hs, oa, ob, hno⟩ := he
  refine ⟨lt', vert_same h va, vert_same h vb, ?_⟩
  rcases (h s).1 (.inl hs) with z | z
  · exact ⟨s, z, oa, ob, fun v hv o => hno v (vert_same h.symm hv) o⟩
  · exact ⟨_, z, onS_comm.1 oa, onS_comm.1 ob, fun v hv o => hno v (vert_same h.symm hv) (onS_comm.1 o)⟩
theorem same_append {a b c d : List Seg} (h : SameS a b) (k : SameS c d) : SameS (a ++ c) (b ++ d) := by
  intro s
  have h1 := h s
  have h2 := k s
  simp only [List.mem_append]
  grind
theorem same_perm {a b c : List Seg} (h : a.Perm b) (k : SameS b c) : SameS a c := by
  intro s
  rw [h.mem_iff, h.mem_iff]; exact k s
/-- **the stretches of two regions' sides are the edges of the specification's map** -/
theorem stretch_edges {A B : List (List T3)} (hA : Kept A) (hB : Kept B) {p q : T3} : (p, q) ∈ stretchM (sidesM A ++ sidesM B) ↔ Nrm p ∧ Nrm q ∧ Edge (Gk02.sidesOf (ptsM A) ++ Gk02.sidesOf (ptsM B)) (toP p) (toP q) := by
  obtain ⟨a1, a2⟩ := sidesM_spec hA
  obtain ⟨b1, b2⟩ := sidesM_spec hB
  rw [mem_stretchM (fun s hs => by rcases List.mem_append.1 hs with z | z; exact a2 s z; exact b2 s z), List.map_append]
  have sm : SameS ((sidesM A).map segOfM ++ (sidesM B).map segOfM) (Gk02.sidesOf (ptsM A) ++ Gk02.sidesOf (ptsM B)) := same_append (same_perm a1 (same_orient _)) (same_perm b1 (same_orient _))
  constructor
  · rintro ⟨h1, h2, h3⟩; exact ⟨h1, h2, edge_same sm h3⟩
  · rintro ⟨h1, h2, h3⟩; exact ⟨h1, h2, edge_same sm.symm h3⟩
end My
end
section
open GkBase
set_option Elab.async false
namespace My
/-! What is beside a stretch; the border. -/
def cntM (spot : T3) (S : List Sd) : Int × Int := S.foldl (fun (r : Int × Int) (s : Sd) =>
  if beforeM spot s.2.1 = true ∧ beforeM spot s.1 = false then (if leftM s.2.2 spot < 0 then r.1 + 1 else r.1, if leftM s.2.2 spot = 0 then r.2 + 1 else r.2) else r) (0, 0)
def besideM (spot : T3) (S : List Sd) : Bool × Bool := (decide ((cntM spot S).1.fmod 2 = 1), decide (((cntM spot S).1 + (cntM spot S).2).fmod 2 = 1))
def isInM (kind : Int) (a b : Bool) : Bool := if kind = 0 then a || b else if kind = 1 then a && b else if kind = 2 then a && !b else a != b
def partsM (kind : Int) (S1 S2 : List Sd) (st : T3 × T3) : List (T3 × T3) :=
  let b1 := besideM (midM st.1 st.2) S1
  let b2 := besideM (midM st.1 st.2) S2
  (if (isInM kind b1.1 b2.1 && !isInM kind b1.2 b2.2) = true then [(st.1, st.2)] else []) ++ (if (isInM kind b1.2 b2.2 && !isInM kind b1.1 b2.1) = true then [(st.2, st.1)] else [])
def borderM (kind : Int) (S1 S2 : List Sd) : List (T3 × T3) := (stretchM (S1 ++ S2)).flatMap (partsM kind S1 S2)
theorem cnt_aux {e : Rat} {spot : T3} (hs : 0 < spot.2.2) : ∀ (S : List Sd), (∀ s ∈ S, Line s ∧ (lt (toP spot) (toP s.1) ↔ key e (toP spot) < key e (toP s.1)) ∧ (lt (toP spot) (toP s.2.1) ↔ key e (toP spot) < key e (toP s.2.1)) ∧ (lt (toP s.1) (toP s.2.1) ↔ key e (toP s.1) < key e (toP s.2.1))) → ∀ r : Int × Int, (S.foldl (fun (r : Int × Int) (s : Sd) =>
  if beforeM spot s.2.1 = true ∧ beforeM spot s.1 = false then (if leftM s.2.2 spot < 0 then r.1 + 1 else r.1, if leftM s.2.2 spot = 0 then r.2 + 1 else r.2) else r) r).1 = r.1 - tot (S.map segOfM) (fun a b => vk e a b (toP spot)) ∧ (S.foldl (fun (r : Int × Int) (s : Sd) =>
  if beforeM spot s.2.1 = true ∧ beforeM spot s.1 = false then (if leftM s.2.2 spot < 0 then r.1 + 1 else r.1, if leftM s.2.2 spot = 0 then r.2 + 1 else r.2) else r) r).2 = r.2 - tot (S.map segOfM) (fun a b => th e a b (toP spot)) := by
  intro S
  induction S with
  | nil => intro _ r; simp [tot]
  | cons s S ih =>
    intro h r
    obtain ⟨⟨el, n1, n2, l12⟩, g1, g2, g3⟩ := h s (by simp)
    rw [List.foldl_cons]
    obtain ⟨i1, i2⟩ := ih (fun x hx => h x (by simp [hx])) (if beforeM spot s.2.1 = true ∧ beforeM spot s.1 = false then (if leftM s.2.2 spot < 0 then r.1 + 1 else r.1, if leftM s.2.2 spot = 0 then r.2 + 1 else r.2) else r)
    rw [i1, i2, List.map_cons, tot_cons, tot_cons]
    have b1 := before_toP hs n1.1
    have b2 := before_toP hs n2.1
    have ls := left_sign n1.1 n2.1 hs
    rw [← el] at ls
    have k12 := g3.1 l12
    have hb1 : (beforeM spot s.1 = false) ↔ ¬ key e (toP spot) < key e (toP s.1) := by rw [← g1, ← b1]; simp
    have hb2 : (beforeM spot s.2.1 = true) ↔ key e (toP spot) < key e (toP s.2.1) := by rw [b2, g2]
    have v : vk e (segOfM s).1 (segOfM s).2 (toP spot) = if (beforeM spot s.2.1 = true ∧ beforeM spot s.1 = false) ∧ leftM s.2.2 spot < 0 then -1 else 0 := by
      unfold vk segOfM
      simp only [hb1, hb2, ls.2.1]
      grind
    have t : th e (segOfM s).1 (segOfM s).2 (toP spot) = if (beforeM spot s.2.1 = true ∧ beforeM spot s.1 = false) ∧ leftM s.2.2 spot = 0 then -1 else 0 := by
      unfold th segOfM
      simp only [hb1, hb2, ls.2.2]
      grind
    rw [v, t]
    by_cases c : beforeM spot s.2.1 = true ∧ beforeM spot s.1 = false
    · rw [if_pos c]
      simp only [c, and_self, true_and]
      constructor
      · by_cases z : leftM s.2.2 spot < 0
        · rw [if_pos z, if_pos z]; omega
        · rw [if_neg z, if_neg z]; omega
      · by_cases z : leftM s.2.2 spot = 0
        · rw [if_pos z, if_pos z]; omega
        · rw [if_neg z, if_neg z]; omega
    · rw [if_neg c]
      simp only [c, false_and, if_false]
      omega
/-- odd or even: whichever way the sides are told -/
theorem tot_orient_odd (l : List Seg) (g : Pt → Pt → Int) (hg : ∀ a b, g b a = - g a b) : (tot (l.map orient) g - tot l g) % 2 = 0 := by
  induction l with
  | nil => rfl
  | cons s l ih =>
    rw [List.map_cons, tot_cons, tot_cons]
    rcases orient_or s with q | q
    · rw [q]; omega
    · rw [q]; simp only []; rw [hg s.1 s.2]; omega
def odd (w : Int) : Bool := decide (w % 2 = 1)
theorem th_swap (e : Rat) (a b p : Pt) : th e b a p = - th e a b p := by
  unfold th; rw [cross_rev]; grind
theorem beside_odd {e : Rat} {A : List (List T3)} (hA : Kept A) {spot : T3} (hs : 0 < spot.2.2) (hg : ∀ s ∈ sidesM A, (lt (toP spot) (toP s.1) ↔ key e (toP spot) < key e (toP s.1)) ∧ (lt (toP spot) (toP s.2.1) ↔ key e (toP spot) < key e (toP s.2.1)) ∧ (lt (toP s.1) (toP s.2.1) ↔ key e (toP s.1) < key e (toP s.2.1))) : besideM spot (sidesM A) = (odd (tot (Gk02.sidesOf (ptsM A)) (fun a b => vk e a b (toP spot))), odd (tot (Gk02.sidesOf (ptsM A)) (fun a b => vk e a b (toP spot) + th e a b (toP spot)))) := by
  obtain ⟨a1, a2⟩ := sidesM_spec hA
  have c := cnt_aux (e := e) hs (sidesM A) (fun s hs' => ⟨a2 s hs', hg s hs'⟩) (0, 0)
  have o1 := tot_orient_odd (Gk02.sidesOf (ptsM A)) (fun a b => vk e a b (toP spot)) (fun a b => vk_swap e a b _)
  have o2 := tot_orient_odd (Gk02.sidesOf (ptsM A)) (fun a b => th e a b (toP spot)) (fun a b => th_swap e a b _)
  rw [tot_perm a1] at c
  rw [tot_perm a1] at c
  unfold besideM
  have e1 : (cntM spot (sidesM A)).1 = 0 - tot ((Gk02.sidesOf (ptsM A)).map orient) (fun a b => vk e a b (toP spot)) := c.1
  have e2 : (cntM spot (sidesM A)).2 = 0 - tot ((Gk02.sidesOf (ptsM A)).map orient) (fun a b => th e a b (toP spot)) := c.2
  rw [e1, e2, tot_add]
  generalize tot ((Gk02.sidesOf (ptsM A)).map orient) (fun a b => vk e a b (toP spot)) = x1 at *
  generalize tot ((Gk02.sidesOf (ptsM A)).map orient) (fun a b => th e a b (toP spot)) = x2 at *
  generalize tot (Gk02.sidesOf (ptsM A)) (fun a b => vk e a b (toP spot)) = y1 at *
  generalize tot (Gk02.sidesOf (ptsM A)) (fun a b => th e a b (toP spot)) = y2 at *
  unfold odd
  rw [Int.fmod_eq_emod_of_nonneg _ (by decide), Int.fmod_eq_emod_of_nonneg _ (by decide)]
  rw [Prod.mk.injEq]
  constructor
  · have : ((0 - x1) % 2 = 1) ↔ (y1 % 2 = 1) := by omega
    simp only [this]
  · have : ((0 - x1 + (0 - x2)) % 2 = 1) ↔ ((y1 + y2) % 2 = 1) := by omega
    simp only [this]
end My
end
section
open GkBase
set_option Elab.async false
namespace My
abbrev LL (A B : List (List T3)) : List Seg := Gk02.sidesOf (ptsM A) ++ Gk02.sidesOf (ptsM B)
/-- the setting of two kept regions -/
structure Two (e : Rat) (A B : List (List T3)) (kind : Int) (G : Int → Int → Bool) : Prop where
  kA : Kept A
  kB : Kept B
  env : Env e (LL A B) (Gk02.sidesOf (ptsM A)) (Gk02.sidesOf (ptsM B))
  gen : ∀ a b, Edge (LL A B) a b → ∀ x, Vert (LL A B) x → (lt (mid a b) x ↔ key e (mid a b) < key e x)
  hG : ∀ a b, Dart (LL A B) a b → G (val e (Gk02.sidesOf (ptsM A)) a b) (val e (Gk02.sidesOf (ptsM B)) a b) = isInM kind (odd (val e (Gk02.sidesOf (ptsM A)) a b)) (odd (val e (Gk02.sidesOf (ptsM B)) a b))
theorem side_vert {A : List (List T3)} (hA : Kept A) {l : List Seg} (hl : ∀ s ∈ Gk02.sidesOf (ptsM A), s ∈ l) {s : Sd} (hs : s ∈ sidesM A) : Vert l (toP s.1) ∧ Vert l (toP s.2.1) := by
  obtain ⟨a1, a2⟩ := sidesM_spec hA
  have : segOfM s ∈ (Gk02.sidesOf (ptsM A)).map orient := a1.mem_iff.1 (List.mem_map.2 ⟨s, hs, rfl⟩)
  obtain ⟨t, ht, e⟩ := List.mem_map.1 this
  have ht' := hl t ht
  rcases orient_or t with q | q
  · rw [q] at e
    have e1 : t.1 = toP s.1 := by rw [e]; rfl
    have e2 : t.2 = toP s.2.1 := by rw [e]; rfl
    rw [← e1, ← e2]; exact ⟨vert_fst ht', vert_snd ht'⟩
  · rw [q] at e
    have e1 : t.2 = toP s.1 := congrArg Prod.fst e
    have e2 : t.1 = toP s.2.1 := congrArg Prod.snd e
    rw [← e1, ← e2]; exact ⟨vert_snd ht', vert_fst ht'⟩
theorem Two.beside {e : Rat} {A B : List (List T3)} {kind : Int} {G : Int → Int → Bool} (T : Two e A B kind G) {p q : T3} (np : Nrm p) (nq : Nrm q) (he : Edge (LL A B) (toP p) (toP q)) : besideM (midM p q) (sidesM A) = (odd (val e (Gk02.sidesOf (ptsM A)) (toP p) (toP q)), odd (val e (Gk02.sidesOf (ptsM A)) (toP q) (toP p))) ∧ besideM (midM p q) (sidesM B) = (odd (val e (Gk02.sidesOf (ptsM B)) (toP p) (toP q)), odd (val e (Gk02.sidesOf (ptsM B)) (toP q) (toP p))) := by
  obtain ⟨mw, mm⟩ := mid_toP np.1 nq.1
  have key : ∀ C : List (List T3), Kept C → (∀ s ∈ Gk02.sidesOf (ptsM C), s ∈ LL A B) → besideM (midM p q) (sidesM C) = (odd (val e (Gk02.sidesOf (ptsM C)) (toP p) (toP q)), odd (val e (Gk02.sidesOf (ptsM C)) (toP q) (toP p))) := by
    intro C hC hs
    rw [beside_odd (e := e) hC mw (by
      intro s hs'
      obtain ⟨v1, v2⟩ := side_vert hC hs hs'
      rw [mm]
      exact ⟨T.gen _ _ he _ v1, T.gen _ _ he _ v2, T.env.ctx.gen _ _ v1 v2⟩), mm]
    rw [val, if_pos he.1, val, if_neg (lt_asymm he.1), mid_comm (toP q)]
  exact ⟨key A T.kA (fun s hs => List.mem_append_left _ hs), key B T.kB (fun s hs => List.mem_append_right _ hs)⟩
theorem Two.left {e : Rat} {A B : List (List T3)} {kind : Int} {G : Int → Int → Bool} (T : Two e A B kind G) {i j : Nat} (h : (i, j) ∈ Gk01.darts (Gk01.mapOf (LL A B))) : tst (Gk02.sidesOf (ptsM A)) (Gk02.sidesOf (ptsM B)) G (Gk02.leftOf (Gk01.mapOf (LL A B)) (i, j)) = isInM kind (odd (val e (Gk02.sidesOf (ptsM A)) (pa (LL A B) i) (pa (LL A B) j))) (odd (val e (Gk02.sidesOf (ptsM B)) (pa (LL A B) i) (pa (LL A B) j))) := by
  rw [tst_val T.env G h]
  exact T.hG _ _ (dart_pa h).2.2
/-- **the border is the boundary** -/
theorem Two.border {e : Rat} {A B : List (List T3)} {kind : Int} {G : Int → Int → Bool} (T : Two e A B kind G) (x : T3 × T3) : x ∈ borderM kind (sidesM A) (sidesM B) ↔ ∃ d ∈ bnd (LL A B) (tst (Gk02.sidesOf (ptsM A)) (Gk02.sidesOf (ptsM B)) G), phi (LL A B) ofP d = x := by
  unfold borderM
  rw [List.mem_flatMap]
  have inner : ∀ (p q : T3), (p, q) ∈ stretchM (sidesM A ++ sidesM B) → (x ∈ partsM kind (sidesM A) (sidesM B) (p, q) ↔ (x = (p, q) ∧ isInM kind (odd (val e (Gk02.sidesOf (ptsM A)) (toP p) (toP q))) (odd (val e (Gk02.sidesOf (ptsM B)) (toP p) (toP q))) = true ∧ isInM kind (odd (val e (Gk02.sidesOf (ptsM A)) (toP q) (toP p))) (odd (val e (Gk02.sidesOf (ptsM B)) (toP q) (toP p))) = false) ∨ (x = (q, p) ∧ isInM kind (odd (val e (Gk02.sidesOf (ptsM A)) (toP q) (toP p))) (odd (val e (Gk02.sidesOf (ptsM B)) (toP q) (toP p))) = true ∧ isInM kind (odd (val e (Gk02.sidesOf (ptsM A)) (toP p) (toP q))) (odd (val e (Gk02.sidesOf (ptsM B)) (toP p) (toP q))) = false)) := by
    intro p q hs
    obtain ⟨np, nq, he⟩ := (stretch_edges T.kA T.kB).1 hs
    obtain ⟨b1, b2⟩ := T.beside np nq he
    unfold partsM
    simp only []
    rw [b1, b2]
    simp only [List.mem_append]
    generalize isInM kind (odd (val e (Gk02.sidesOf (ptsM A)) (toP p) (toP q))) (odd (val e (Gk02.sidesOf (ptsM B)) (toP p) (toP q))) = u
    generalize isInM kind (odd (val e (Gk02.sidesOf (ptsM A)) (toP q) (toP p))) (odd (val e (Gk02.sidesOf (ptsM B)) (toP q) (toP p))) = w
    cases u <;> cases w <;> simp
  constructor
  · rintro ⟨⟨p, q⟩, hs, hx⟩
    obtain ⟨np, nq, he⟩ := (stretch_edges T.kA T.kB).1 hs
    rw [inner p q hs] at hx
    obtain ⟨i, hi, ei⟩ := vert_pa he.2.1
    obtain ⟨j, hj, ej⟩ := vert_pa he.2.2.1
    have hd : (i, j) ∈ Gk01.darts (Gk01.mapOf (LL A B)) := mem_darts.2 ⟨hi, hj, .inl (by rw [ei, ej]; exact he)⟩
    have t1 := T.left hd
    have t2 := T.left (dart_swap.1 hd)
    rw [ei, ej] at t1 t2
    rcases hx with ⟨rfl, q1, q2⟩ | ⟨rfl, q1, q2⟩
    · refine ⟨(i, j), mem_bnd.2 ⟨hd, by rw [t1, q1], by rw [t2, q2]⟩, ?_⟩
      unfold phi; simp only []; rw [ei, ej, ofP_toP np, ofP_toP nq]
    · refine ⟨(j, i), mem_bnd.2 ⟨dart_swap.1 hd, by rw [t2, q1], by rw [t1, q2]⟩, ?_⟩
      unfold phi; simp only []; rw [ei, ej, ofP_toP np, ofP_toP nq]
  · rintro ⟨⟨i, j⟩, hd, rfl⟩
    obtain ⟨hd, q1, q2⟩ := mem_bnd.1 hd
    have t1 := T.left hd
    have t2 := T.left (dart_swap.1 hd)
    rw [q1] at t1
    rw [q2] at t2
    obtain ⟨hi, hj, he⟩ := dart_pa hd
    rcases he with he | he
    · have st : (ofP (pa (LL A B) i), ofP (pa (LL A B) j)) ∈ stretchM (sidesM A ++ sidesM B) := (stretch_edges T.kA T.kB).2 ⟨ofP_nrm _, ofP_nrm _, by rw [toP_ofP, toP_ofP]; exact he⟩
      refine ⟨_, st, ?_⟩
      rw [inner _ _ st]
      left
      rw [toP_ofP, toP_ofP]
      exact ⟨rfl, t1.symm, t2.symm⟩
    · have st : (ofP (pa (LL A B) j), ofP (pa (LL A B) i)) ∈ stretchM (sidesM A ++ sidesM B) := (stretch_edges T.kA T.kB).2 ⟨ofP_nrm _, ofP_nrm _, by rw [toP_ofP, toP_ofP]; exact he⟩
      refine ⟨_, st, ?_⟩
      rw [inner _ _ st]
      right
      rw [toP_ofP, toP_ofP]
      exact ⟨rfl, t1.symm, t2.symm⟩
theorem partsM_or {kind : Int} {S1 S2 : List Sd} {st x : T3 × T3} (h : x ∈ partsM kind S1 S2 st) : x = st ∨ x = (st.2, st.1) := by
  unfold partsM at h
  simp only [List.mem_append] at h
  rcases h with h | h
  · split at h
    · simp at h; exact .inl h
    · simp at h
  · split at h
    · simp at h; exact .inr h
    · simp at h
theorem border_nodup {A B : List (List T3)} (kA : Kept A) (kB : Kept B) (kind : Int) : (borderM kind (sidesM A) (sidesM B)).Nodup := by
  unfold borderM
  unfold List.Nodup
  rw [List.pairwise_flatMap]
  have mem : ∀ st ∈ stretchM (sidesM A ++ sidesM B), lt (toP st.1) (toP st.2) := fun st h => ((stretch_edges kA kB (p := st.1) (q := st.2)).1 h).2.2.1
  constructor
  · intro st _
    unfold partsM
    simp only []
    generalize isInM kind (besideM (midM st.1 st.2) (sidesM A)).1 (besideM (midM st.1 st.2) (sidesM B)).1 = u
    generalize isInM kind (besideM (midM st.1 st.2) (sidesM A)).2 (besideM (midM st.1 st.2) (sidesM B)).2 = w
    cases u <;> cases w <;> simp
  · have nd : (stretchM (sidesM A ++ sidesM B)).Nodup := dedup_nodup _
    refine List.Pairwise.imp_of_mem ?_ nd
    intro a b ha hb ne x hx y hy q
    subst q
    have la := mem a ha
    have lb := mem b hb
    rcases partsM_or hx with e1 | e1 <;> rcases partsM_or hy with e2 | e2
    · exact ne (e1.symm.trans e2)
    · rw [e1] at e2
      rw [e2] at la
      exact lt_asymm la lb
    · rw [e2] at e1
      rw [e1] at lb
      exact lt_asymm la lb
    · rw [e1] at e2
      simp only [Prod.mk.injEq] at e2
      exact ne (Prod.ext e2.2 e2.1)
end My
end
section
open GkBase
set_option Elab.async false
namespace My
/-! From the border to the rings. -/
def metM (part : T3 × T3) (spot chosen : T3) : Bool :=
  if decide (0 < leftM (crossM part.2 part.1) spot) ≠ decide (0 < leftM (crossM part.2 part.1) chosen) then decide (0 < leftM (crossM part.2 part.1) chosen) else decide (leftM (crossM part.2 spot) chosen < 0)
def wayM (part : T3 × T3) : List T3 → T3
  | [] => (0, 0, 0)
  | c :: cs => cs.foldl (fun chosen spot => if metM part spot chosen = true then spot else chosen) c
def choicesM (b : List (T3 × T3)) (v : T3) : List T3 := (b.filter fun p => decide (p.1 = v)).map fun p => p.2
def nextM (b : List (T3 × T3)) (part : T3 × T3) : T3 × T3 := (part.2, wayM part (choicesM b part.2))
theorem metM_toP {u v x y : T3} (hu : Nrm u) (hv : Nrm v) (hx : Nrm x) (hy : Nrm y) : metM (u, v) x y = true ↔ met (toP v) (toP u) (toP x) (toP y) := by
  have a := left_sign hv.1 hu.1 hx.1
  have b := left_sign hv.1 hu.1 hy.1
  have c := left_sign hv.1 hx.1 hy.1
  unfold metM met
  simp only [a.1, b.1, c.2.1]
  by_cases p : 0 < cross (toP v) (toP u) (toP x) <;> by_cases q : 0 < cross (toP v) (toP u) (toP y) <;> simp [p, q]
theorem fold_best {α : Type} (m : α → α → Bool) (w : α) : ∀ (l : List α) (c : α), (∀ x, (x = c ∨ x ∈ l) → x ≠ w → m w x = true ∧ m x w = false) → (w = c ∨ w ∈ l) → (m w w = true ∨ m w w = false) → l.foldl (fun chosen spot => if m spot chosen = true then spot else chosen) c = w := by
  intro l
  induction l with
  | nil => intro c _ h _; simp at h; exact h.symm
  | cons y l ih =>
    intro c h hw hh
    rw [List.foldl_cons]
    by_cases k : m y c = true
    · rw [if_pos k]
      refine ih y (fun x hx ne => h x (by rcases hx with rfl | hx; exact .inr (by simp); exact .inr (by simp [hx])) ne) ?_ hh
      rcases hw with rfl | hw
      · -- c = w, so y = w
        by_cases q : y = w
        · exact .inl q.symm
        · have := (h y (.inr (by simp)) q).2
          rw [k] at this; simp at this
      · rcases List.mem_cons.1 hw with rfl | hw
        · exact .inl rfl
        · exact .inr hw
    · rw [if_neg k]
      refine ih c (fun x hx ne => h x (by rcases hx with rfl | hx; exact .inl rfl; exact .inr (by simp [hx])) ne) ?_ hh
      rcases hw with rfl | hw
      · exact .inl rfl
      · rcases List.mem_cons.1 hw with rfl | hw
        · by_cases q : c = w
          · exact .inl q.symm
          · have := (h c (.inl rfl) q).1
            exact absurd this k
        · exact .inr hw
theorem way_best {part : T3 × T3} {w : T3} {cs : List T3} (hw : w ∈ cs) (h : ∀ x ∈ cs, x ≠ w → metM part w x = true ∧ metM part x w = false) : wayM part cs = w := by
  cases cs with
  | nil => simp at hw
  | cons c cs =>
    refine fold_best (metM part) w cs c (fun x hx ne => h x (by simpa using hx) ne) (by simpa using hw) ?_
    cases metM part w w <;> simp
theorem mem_choices {b : List (T3 × T3)} {v w : T3} : w ∈ choicesM b v ↔ (v, w) ∈ b := by
  unfold choicesM
  rw [List.mem_map]
  constructor
  · rintro ⟨⟨p, q⟩, h, rfl⟩
    obtain ⟨h1, h2⟩ := List.mem_filter.1 h
    simp at h2; subst h2; exact h1
  · intro h
    exact ⟨(v, w), List.mem_filter.2 ⟨h, by simp⟩, rfl⟩
/-- **what comes behind a part is what comes behind the dart** -/
theorem Two.next {e : Rat} {A B : List (List T3)} {kind : Int} {G : Int → Int → Bool} (T : Two e A B kind G) {d : Gk01.Dart} (hd : d ∈ bnd (LL A B) (tst (Gk02.sidesOf (ptsM A)) (Gk02.sidesOf (ptsM B)) G)) : nextM (borderM kind (sidesM A) (sidesM B)) (phi (LL A B) ofP d) = phi (LL A B) ofP (Gk02.nextOf (Gk01.rounds (Gk01.mapOf (LL A B))) (bnd (LL A B) (tst (Gk02.sidesOf (ptsM A)) (Gk02.sidesOf (ptsM B)) G)) d) := by
  obtain ⟨u, v⟩ := d
  have hm := (next_inj T.env G).map _ hd
  have f1 := next_fst (Gk01.rounds (Gk01.mapOf (LL A B))) (bnd (LL A B) (tst (Gk02.sidesOf (ptsM A)) (Gk02.sidesOf (ptsM B)) G)) (u, v)
  generalize hw : Gk02.nextOf (Gk01.rounds (Gk01.mapOf (LL A B))) (bnd (LL A B) (tst (Gk02.sidesOf (ptsM A)) (Gk02.sidesOf (ptsM B)) G)) (u, v) = d' at *
  obtain ⟨v', w⟩ := d'
  simp only [] at f1
  subst f1
  unfold nextM phi
  simp only []
  congr 1
  refine way_best ?_ ?_
  · rw [mem_choices, T.border]
    exact ⟨_, hm, rfl⟩
  · intro x hx ne
    rw [mem_choices, T.border] at hx
    obtain ⟨⟨a, y⟩, hy, ey⟩ := hx
    unfold phi at ey
    simp only [Prod.mk.injEq] at ey
    obtain ⟨e1, rfl⟩ := ey
    have da := dart_pa (mem_bnd.1 hy).1
    have dv := dart_pa (mem_bnd.1 hm).1
    have : a = v' := by
      refine pa_inj da.1 dv.1 ?_
      have := congrArg toP e1
      rwa [toP_ofP, toP_ofP] at this
    subst this
    have yw : y ≠ w := by rintro rfl; exact ne rfl
    obtain ⟨m1, m2⟩ := next_met T.env G hd hw hy yw
    have k1 := metM_toP (ofP_nrm (pa (LL A B) u)) (ofP_nrm (pa (LL A B) a)) (ofP_nrm (pa (LL A B) w)) (ofP_nrm (pa (LL A B) y))
    have k2 := metM_toP (ofP_nrm (pa (LL A B) u)) (ofP_nrm (pa (LL A B) a)) (ofP_nrm (pa (LL A B) y)) (ofP_nrm (pa (LL A B) w))
    rw [toP_ofP, toP_ofP, toP_ofP, toP_ofP] at k1 k2
    refine ⟨k1.2 m1, ?_⟩
    rw [← Bool.not_eq_true, k2]; exact m2
/-- corners of a ring of places -/
def cornersM (c : List T3) : List T3 := match c with
  | [] => []
  | o :: l => ((((o :: l).getLastD o :: o :: l).zip ((o :: l).zip (l ++ [o]))).filter fun x => decide (leftM (crossM x.1 x.2.1) x.2.2 ≠ 0)).map fun x => x.2.1
theorem filter_map_eq {α β : Type} (g : α → β) (p : β → Bool) (q : α → Bool) : ∀ (l : List α), (∀ x ∈ l, p (g x) = q x) → (l.map g).filter p = (l.filter q).map g := by
  intro l
  induction l with
  | nil => intro _; rfl
  | cons x l ih =>
    intro h
    rw [List.map_cons, List.filter_cons, List.filter_cons, h x (by simp), ih (fun y hy => h y (by simp [hy]))]
    cases q x <;> simp
theorem cornersM_toP {c : List T3} (h : ∀ t ∈ c, Nrm t) : (cornersM c).map toP = Gk02.corners (c.map toP) := by
  cases c with
  | nil => rfl
  | cons o l =>
    have hl : ((o :: l).map toP).getLastD (toP o) = toP ((o :: l).getLastD o) := by
      rw [List.map_cons, List.getLastD_cons, List.getLastD_cons]
      clear h
      induction l generalizing o with
      | nil => rfl
      | cons y l ih => rw [List.map_cons, List.getLastD_cons, List.getLastD_cons]; exact ih y
    have lm : (o :: l).getLastD o ∈ o :: l := by
      rw [List.getLastD_cons]
      clear h hl
      induction l generalizing o with
      | nil => simp
      | cons y l ih => rw [List.getLastD_cons]; exact List.mem_cons_of_mem _ (ih y)
    show _ = (((((o :: l).map toP).getLastD (toP o) :: (o :: l).map toP).zip (((o :: l).map toP).zip (l.map toP ++ [toP o]))).filter (fun (x : Pt × Pt × Pt) => decide (cross x.1 x.2.1 x.2.2 ≠ 0))).map (fun (x : Pt × Pt × Pt) => x.2.1)
    rw [hl]
    have e1 : (l.map toP ++ [toP o]) = (l ++ [o]).map toP := by simp
    rw [e1, List.zip_map, ← List.map_cons]
    have e2 : (List.map toP ((o :: l).getLastD o :: o :: l)).zip (List.map (Prod.map toP toP) ((o :: l).zip (l ++ [o]))) = (((o :: l).getLastD o :: o :: l).zip ((o :: l).zip (l ++ [o]))).map (fun (x : T3 × T3 × T3) => (toP x.1, toP x.2.1, toP x.2.2)) := by
      rw [List.zip_map]; rfl
    rw [e2]
    rw [filter_map_eq (fun (x : T3 × T3 × T3) => (toP x.1, toP x.2.1, toP x.2.2)) _ (fun x => decide (leftM (crossM x.1 x.2.1) x.2.2 ≠ 0))]
    · unfold cornersM
      simp only [List.map_map]
      rfl
    · intro x hx
      have h1 := List.of_mem_zip hx
      have h2 := List.of_mem_zip h1.2
      have n1 : Nrm x.1 := by
        rcases List.mem_cons.1 h1.1 with q | q
        · rw [q]; exact h _ lm
        · exact h _ q
      have n2 : Nrm x.2.1 := h _ h2.1
      have n3 : Nrm x.2.2 := by
        rcases List.mem_append.1 h2.2 with q | q
        · exact h _ (by simp [q])
        · simp at q; rw [q]; exact h o (by simp)
      have := (left_sign n1.1 n2.1 n3.1).2.2
      simp only [ne_eq, this]
theorem mem_cornersM {c : List T3} {t : T3} (h : t ∈ cornersM c) : t ∈ c := by
  cases c with
  | nil => simp [cornersM] at h
  | cons o l =>
    unfold cornersM at h
    obtain ⟨x, hx, rfl⟩ := List.mem_map.1 h
    exact (List.of_mem_zip (List.of_mem_zip (List.mem_filter.1 hx).1).2).1
/-- the rings of a border, as rows of places -/
def ringsM (b : List (T3 × T3)) : List (List T3) := (allc (nextM b) b.length b []).map fun c => cornersM (c.map fun d => d.1)
/-- **the program's way gives the specification's region** -/
theorem Two.region {e : Rat} {A B : List (List T3)} {kind : Int} {G : Int → Int → Bool} (T : Two e A B kind G) : Gk02.regionOf (LL A B) (tst (Gk02.sidesOf (ptsM A)) (Gk02.sidesOf (ptsM B)) G) = (((ringsM (borderM kind (sidesM A) (sidesM B))).map fun c => Gk02.turned (c.map toP)).foldl (fun (l : List (List Pt)) (c : List Pt) => Gk02.insertRing c l) []) ∧ (∀ c ∈ ringsM (borderM kind (sidesM A) (sidesM B)), ∀ t ∈ c, Nrm t) ∧ Inj (nextM (borderM kind (sidesM A) (sidesM B))) (borderM kind (sidesM A) (sidesM B)) := by
  have I : Inj (nextM (borderM kind (sidesM A) (sidesM B))) (borderM kind (sidesM A) (sidesM B)) := inj_from toP ofP toP_ofP T.env G _ (fun d hd => T.next hd) _ (border_nodup T.kA T.kB kind) T.border
  have P := allc_parts I (borderM kind (sidesM A) (sidesM B)) (fun _ => Iff.rfl)
  have nrm : ∀ c ∈ allc (nextM (borderM kind (sidesM A) (sidesM B))) (borderM kind (sidesM A) (sidesM B)).length (borderM kind (sidesM A) (sidesM B)) [], ∀ t ∈ c.map fun d => d.1, Nrm t := by
    intro c hc t ht
    obtain ⟨x, hx, rfl⟩ := List.mem_map.1 ht
    have := (P.mem x).1 (List.mem_flatten.2 ⟨c, hc, hx⟩)
    obtain ⟨d, _, rfl⟩ := (T.border x).1 this
    exact ofP_nrm _
  refine ⟨?_, ?_, I⟩
  · refine region_from toP ofP toP_ofP T.env G _ (fun d hd => T.next hd) _ T.border P (srt_insertRings _ [] List.Pairwise.nil) ?_
    have pm := perm_insertRings ((ringsM (borderM kind (sidesM A) (sidesM B))).map fun c => Gk02.turned (c.map toP)) []
    rw [List.nil_append] at pm
    refine pm.trans ?_
    unfold ringsM
    rw [List.map_map]
    have : (allc (nextM (borderM kind (sidesM A) (sidesM B))) (borderM kind (sidesM A) (sidesM B)).length (borderM kind (sidesM A) (sidesM B)) []).map ((fun c => Gk02.turned (c.map toP)) ∘ fun c => cornersM (c.map fun d => d.1)) = (allc (nextM (borderM kind (sidesM A) (sidesM B))) (borderM kind (sidesM A) (sidesM B)).length (borderM kind (sidesM A) (sidesM B)) []).map fun c => Gk02.turned (Gk02.corners (c.map fun d => toP d.1)) := by
      refine List.map_congr_left fun c hc => ?_
      simp only [Function.comp]
      rw [cornersM_toP (nrm c hc), List.map_map]; rfl
    rw [this]
  · intro c hc t ht
    obtain ⟨c0, hc0, rfl⟩ := List.mem_map.1 hc
    exact nrm c0 hc0 t (mem_cornersM ht)
end My
end
section
open GkBase
set_option Elab.async false
namespace My
/-! The three ways to make a region. -/
theorem leftOf_val {e : Rat} {l r1 r2 : List Seg} (E : Env e l r1 r2) {r : List Seg} (hr : ∀ s ∈ r, s ∈ l) (cl : Closed r) {i j : Nat} (h : (i, j) ∈ Gk01.darts (Gk01.mapOf l)) : tot r (fun a b => hc a b (Gk02.leftOf (Gk01.mapOf l) (i, j))) = val e r (pa l i) (pa l j) := by
  have hb := beside_leftOf E.ctx.nd h
  have ho := E.off _ h
  obtain ⟨hi, hj, hd⟩ := dart_pa h
  rcases dart_edge hd with ⟨k1, k2, k3⟩ | ⟨k1, k2, k3⟩
  · have kk := (E.ctx.gen _ _ (dart_vert hd).1 (dart_vert hd).2).1 k1
    rw [val, if_pos k1]
    exact left_sum E.ctx.nd hr cl k3 kk ho (fun s hs => ⟨E.ctx.midg _ _ k3 _ (vert_fst (hr s hs)), E.ctx.midg _ _ k3 _ (vert_snd (hr s hs))⟩) hb
  · have kk := (E.ctx.gen _ _ (dart_vert hd).2 (dart_vert hd).1).1 k1
    rw [val, if_neg k2, mid_comm]
    refine right_sum E.ctx.nd hr cl k3 kk ?_ (fun s hs => ⟨E.ctx.midg _ _ k3 _ (vert_fst (hr s hs)), E.ctx.midg _ _ k3 _ (vert_snd (hr s hs))⟩) hb
    rw [mid_comm]; exact ho
theorem val_01 {e : Rat} {A B : List (List Pt)} (E : Env e (Gk02.sidesOf A ++ Gk02.sidesOf B) (Gk02.sidesOf A) (Gk02.sidesOf B)) {C : List (List Pt)} (hC : Fine C) (hs : ∀ s ∈ Gk02.sidesOf C, s ∈ Gk02.sidesOf A ++ Gk02.sidesOf B) {a b : Pt} (hd : Dart (Gk02.sidesOf A ++ Gk02.sidesOf B) a b) : val e (Gk02.sidesOf C) a b = 0 ∨ val e (Gk02.sidesOf C) a b = 1 := by
  obtain ⟨i, hi, rfl⟩ := vert_pa (dart_vert hd).1
  obtain ⟨j, hj, rfl⟩ := vert_pa (dart_vert hd).2
  have h : (i, j) ∈ Gk01.darts (Gk01.mapOf (Gk02.sidesOf A ++ Gk02.sidesOf B)) := mem_darts.2 ⟨hi, hj, hd⟩
  rw [← leftOf_val E hs (closed_sidesOf C) h, ← windsOf_eq]
  refine hC.once _ fun s hs' => ?_
  obtain ⟨t, t0, hq, hno⟩ := beside_leftOf E.ctx.nd h
  have := hno 1 (by decide) (by decide) s (hs s hs')
  rwa [pt_one] at this
theorem two_ex {A B : List (List T3)} (kA : Kept A) (kB : Kept B) (kind : Int) (G : Int → Int → Bool) (hG : ∀ e, Env e (LL A B) (Gk02.sidesOf (ptsM A)) (Gk02.sidesOf (ptsM B)) → ∀ a b, Dart (LL A B) a b → G (val e (Gk02.sidesOf (ptsM A)) a b) (val e (Gk02.sidesOf (ptsM B)) a b) = isInM kind (odd (val e (Gk02.sidesOf (ptsM A)) a b)) (odd (val e (Gk02.sidesOf (ptsM B)) a b))) : ∃ e, Two e A B kind G := by
  obtain ⟨e, E, g⟩ := env_ex (nondeg_append kA.2 kB.2) (r1 := Gk02.sidesOf (ptsM A)) (r2 := Gk02.sidesOf (ptsM B)) (fun s hs => List.mem_append_left _ hs) (fun s hs => List.mem_append_right _ hs) (closed_sidesOf _) (closed_sidesOf _) ((Gk01.darts (Gk01.mapOf (LL A B))).map fun d => mid (pa (LL A B) d.1) (pa (LL A B) d.2))
  refine ⟨e, kA, kB, E, ?_, hG e E⟩
  intro a b he x hx
  obtain ⟨i, hi, rfl⟩ := vert_pa he.2.1
  obtain ⟨j, hj, rfl⟩ := vert_pa he.2.2.1
  refine g _ _ (.inr (List.mem_map.2 ⟨(i, j), mem_darts.2 ⟨hi, hj, .inl he⟩, rfl⟩)) (.inl hx)
theorem kept_nil : Kept [] := ⟨fun c hc => by simp at hc, fun s hs => by simp [Gk02.sidesOf] at hs⟩
theorem two_ofRings {A : List (List T3)} (kA : Kept A) : ∃ e, Two e A [] 0 (fun w _ => decide (w % 2 = 1)) := by
  refine two_ex kA kept_nil 0 _ fun e E a b hd => ?_
  have : val e (Gk02.sidesOf (ptsM [])) a b = 0 := by
    unfold val
    split <;> rfl
  rw [this]
  unfold isInM odd
  simp
theorem two_combine {A B : List (List T3)} (kA : Kept A) (kB : Kept B) (fA : Fine (ptsM A)) (fB : Fine (ptsM B)) {k : Nat} (hk : k ≤ 3) : ∃ e, Two e A B (k : Int) (fun w x => Gk02.combined k (decide (w = 1)) (decide (x = 1))) := by
  refine two_ex kA kB (k : Int) _ fun e E a b hd => ?_
  have h1 := val_01 E fA (fun s hs => List.mem_append_left _ hs) hd
  have h2 := val_01 E fB (fun s hs => List.mem_append_right _ hs) hd
  generalize val e (Gk02.sidesOf (ptsM A)) a b = u at *
  generalize val e (Gk02.sidesOf (ptsM B)) a b = w at *
  have o1 : odd u = decide (u = 1) := by rcases h1 with rfl | rfl <;> rfl
  have o2 : odd w = decide (w = 1) := by rcases h2 with rfl | rfl <;> rfl
  rw [o1, o2]
  unfold isInM Gk02.combined
  have e0 : ((k : Int) = 0) ↔ k = 0 := by omega
  have e1 : ((k : Int) = 1) ↔ k = 1 := by omega
  have e2 : ((k : Int) = 2) ↔ k = 2 := by omega
  simp only [e0, e1, e2]
/-- rings brought in their order -/
def orderM (R : List (List T3)) : List (List T3) := ((R.map fun c => Gk02.turned (c.map toP)).foldl (fun (l : List (List Pt)) (c : List Pt) => Gk02.insertRing c l) []).map fun c => c.map ofP
theorem ptsM_ofP (R : List (List Pt)) : ptsM (R.map fun c => c.map ofP) = R := by
  unfold ptsM
  rw [List.map_map]
  conv => rhs; rw [← List.map_id R]
  refine List.map_congr_left fun c _ => ?_
  simp only [Function.comp, List.map_map]
  conv => rhs; rw [id, ← List.map_id c]
  refine List.map_congr_left fun p _ => ?_
  exact toP_ofP p
theorem kept_ofP {R : List (List Pt)} (h : Nondeg (Gk02.sidesOf R)) : Kept (R.map fun c => c.map ofP) := by
  refine ⟨?_, by rw [ptsM_ofP]; exact h⟩
  intro c hc t ht
  obtain ⟨c0, _, rfl⟩ := List.mem_map.1 hc
  obtain ⟨p, _, rfl⟩ := List.mem_map.1 ht
  exact ofP_nrm p
theorem made_ofRings {A : List (List T3)} (kA : Kept A) : ptsM (orderM (ringsM (borderM 0 (sidesM A) []))) = Gk02.ofRings (ptsM A) ∧ Kept (orderM (ringsM (borderM 0 (sidesM A) []))) ∧ Fine (Gk02.ofRings (ptsM A)) ∧ (∀ c ∈ ringsM (borderM 0 (sidesM A) []), ∀ t ∈ c, Nrm t) ∧ Inj (nextM (borderM 0 (sidesM A) [])) (borderM 0 (sidesM A) []) := by
  obtain ⟨e, T⟩ := two_ofRings kA
  obtain ⟨h1, h2, h3⟩ := T.region
  have s0 : sidesM ([] : List (List T3)) = [] := rfl
  rw [s0] at h1 h2 h3
  have e1 : LL A [] = Gk02.sidesOf (ptsM A) := by
    show Gk02.sidesOf (ptsM A) ++ [] = _
    simp
  have e2 : Gk02.sidesOf (ptsM ([] : List (List T3))) = [] := rfl
  have fine := fine_ofRings kA.2
  have eq : Gk02.ofRings (ptsM A) = (((ringsM (borderM 0 (sidesM A) [])).map fun c => Gk02.turned (c.map toP)).foldl (fun (l : List (List Pt)) (c : List Pt) => Gk02.insertRing c l) []) := by
    rw [ofRings_eq, ← h1, e1, e2]
  refine ⟨?_, ?_, fine, h2, h3⟩
  · unfold orderM
    rw [ptsM_ofP, ← eq]
  · unfold orderM
    rw [← eq]
    exact kept_ofP fine.nd
theorem made_combine {A B : List (List T3)} (kA : Kept A) (kB : Kept B) (fA : Fine (ptsM A)) (fB : Fine (ptsM B)) {k : Nat} (hk : k ≤ 3) : ptsM (orderM (ringsM (borderM k (sidesM A) (sidesM B)))) = Gk02.combine k (ptsM A) (ptsM B) ∧ Kept (orderM (ringsM (borderM k (sidesM A) (sidesM B)))) ∧ Fine (Gk02.combine k (ptsM A) (ptsM B)) ∧ (∀ c ∈ ringsM (borderM k (sidesM A) (sidesM B)), ∀ t ∈ c, Nrm t) ∧ Inj (nextM (borderM k (sidesM A) (sidesM B))) (borderM k (sidesM A) (sidesM B)) := by
  obtain ⟨e, T⟩ := two_combine kA kB fA fB hk
  obtain ⟨h1, h2, h3⟩ := T.region
  have fine := fine_combine k kA.2 kB.2
  have eq : Gk02.combine k (ptsM A) (ptsM B) = (((ringsM (borderM k (sidesM A) (sidesM B))).map fun c => Gk02.turned (c.map toP)).foldl (fun (l : List (List Pt)) (c : List Pt) => Gk02.insertRing c l) []) := by
    rw [combine_eq, ← h1]
  refine ⟨?_, ?_, fine, h2, h3⟩
  · unfold orderM
    rw [ptsM_ofP, ← eq]
  · unfold orderM
    rw [← eq]
    exact kept_ofP fine.nd
/-- moved places -/
def movedM (w : Gk02.Move) (A : List (List T3)) : List (List T3) := A.map fun c => c.map fun s => moveM s w.a w.b w.c w.d w.e w.f
theorem movedM_pts {w : Gk02.Move} {A : List (List T3)} (kA : Kept A) : ptsM (movedM w A) = (ptsM A).map fun (c : List Pt) => c.map (Gk02.movedPt w) := by
  unfold movedM ptsM
  rw [List.map_map, List.map_map]
  refine List.map_congr_left fun c hc => ?_
  simp only [Function.comp, List.map_map]
  refine List.map_congr_left fun t ht => ?_
  exact (move_toP (kA.1 c hc t ht).1 w).2
theorem made_moved {w : Gk02.Move} (hw : Gk02.det w ≠ 0) {A : List (List T3)} (kA : Kept A) : Kept (movedM w A) ∧ Gk02.ofRings (ptsM (movedM w A)) = Gk02.moved w (ptsM A) := by
  have e := movedM_pts (w := w) kA
  refine ⟨⟨?_, ?_⟩, ?_⟩
  · intro c hc t ht
    obtain ⟨c0, hc0, rfl⟩ := List.mem_map.1 hc
    obtain ⟨s, hs, rfl⟩ := List.mem_map.1 ht
    exact (move_toP (kA.1 c0 hc0 s hs).1 w).1
  · rw [e]; exact nondeg_moved hw kA.2
  · rw [e]; rfl
/-! Sizes. -/
theorem sides_length (c : List Pt) : (sides c).length = c.length := by
  cases c with
  | nil => rfl
  | cons o l => simp [sides]
theorem sidesOf_length (r : List (List Pt)) : (Gk02.sidesOf r).length = (r.map List.length).sum := by
  induction r with
  | nil => rfl
  | cons c r ih =>
    show (sides c ++ Gk02.sidesOf r).length = _
    rw [List.length_append, sides_length, ih]; rfl
theorem turned_perm (c : List Pt) : (Gk02.turned c).Perm c := by
  obtain ⟨a, b, e1, e2⟩ := turned_rot c
  rw [e2]
  conv => rhs; rw [e1]
  exact List.perm_append_comm
theorem order_size (R : List (List T3)) : (ptsM (orderM R)).length = R.length ∧ (Gk02.sidesOf (ptsM (orderM R))).length = (R.map List.length).sum ∧ ∀ P : Pt → Prop, (∀ c ∈ ptsM (orderM R), ∀ p ∈ c, P p) ↔ ∀ c ∈ R, ∀ t ∈ c, P (toP t) := by
  unfold orderM
  rw [ptsM_ofP]
  have pm := perm_insertRings (R.map fun c => Gk02.turned (c.map toP)) []
  rw [List.nil_append] at pm
  refine ⟨by rw [pm.length_eq]; simp, ?_, ?_⟩
  · rw [(sidesOf_perm pm).length_eq, sidesOf_length, List.map_map]
    congr 1
    refine List.map_congr_left fun c _ => ?_
    simp only [Function.comp]
    rw [(turned_perm _).length_eq]; simp
  · intro P
    constructor
    · intro h c hc t ht
      refine h (Gk02.turned (c.map toP)) (pm.mem_iff.2 (List.mem_map.2 ⟨c, hc, rfl⟩)) (toP t) ?_
      exact (turned_perm _).mem_iff.2 (List.mem_map.2 ⟨t, ht, rfl⟩)
    · intro h c hc p hp
      obtain ⟨c0, hc0, rfl⟩ := List.mem_map.1 (pm.mem_iff.1 hc)
      have := (turned_perm _).mem_iff.1 hp
      obtain ⟨t, ht, rfl⟩ := List.mem_map.1 this
      exact h c0 hc0 t ht
end My
end
section
open GkBase
set_option Elab.async false
namespace My
/-! Where a point is; how two regions stand to one another. -/
def isOnM (s : Sd) (spot : T3) : Bool := if (beforeM spot s.1 || beforeM s.2.1 spot) = true then false else decide (leftM s.2.2 spot = 0)
def whereM (A : List (List T3)) (spot : T3) : Int := if (sidesM A).any (fun s => isOnM s spot) = true then 1 else if (besideM spot (sidesM A)).1 = true then 2 else 0
/-- on a line between two places: on the side -/
theorem onS_iff_lt {a b p : Pt} (hab : lt a b) : onS p a b ↔ cross a b p = 0 ∧ ¬ lt p a ∧ ¬ lt b p := by
  unfold onS lt at *
  obtain ⟨a1, a2⟩ := a
  obtain ⟨b1, b2⟩ := b
  obtain ⟨p1, p2⟩ := p
  simp only [] at *
  unfold cross
  simp only []
  constructor
  · rintro ⟨h0, h1, h2, h3, h4⟩
    refine ⟨h0, ?_, ?_⟩
    · rintro (k | ⟨k1, k2⟩)
      · rcases hab with q | ⟨q1, q2⟩ <;> grind
      · rcases hab with q | ⟨q1, q2⟩
        · subst k1
          have : (b1 - p1) * (p2 - a2) = 0 := by grind
          rcases Rat.mul_eq_zero.1 this with z | z <;> grind
        · grind
    · rintro (k | ⟨k1, k2⟩)
      · rcases hab with q | ⟨q1, q2⟩ <;> grind
      · rcases hab with q | ⟨q1, q2⟩
        · subst k1
          have : (b1 - a1) * (p2 - b2) = 0 := by grind
          rcases Rat.mul_eq_zero.1 this with z | z <;> grind
        · grind
  · rintro ⟨h0, h1, h2⟩
    refine ⟨h0, ?_⟩
    rcases hab with q | ⟨q1, q2⟩
    · have k1 : a1 ≤ p1 := by grind
      have k2 : p1 ≤ b1 := by grind
      refine ⟨.inl k1, .inr k2, ?_⟩
      have e : (b1 - a1) * (p2 - a2) = (b2 - a2) * (p1 - a1) := by grind
      have e' : (b1 - a1) * (b2 - p2) = (b2 - a2) * (b1 - p1) := by grind
      have pos : 0 < b1 - a1 := by grind
      by_cases z : a2 ≤ b2
      · have n1 : 0 ≤ (b2 - a2) * (p1 - a1) := Rat.mul_nonneg (by grind) (by grind)
        have n2 : 0 ≤ (b2 - a2) * (b1 - p1) := Rat.mul_nonneg (by grind) (by grind)
        rw [← e] at n1
        rw [← e'] at n2
        have m1 : 0 ≤ p2 - a2 := Rat.not_lt.1 fun k => by
          have : (b1 - a1) * (p2 - a2) < (b1 - a1) * 0 := Rat.mul_lt_mul_of_pos_left k pos
          grind
        have m2 : 0 ≤ b2 - p2 := Rat.not_lt.1 fun k => by
          have : (b1 - a1) * (b2 - p2) < (b1 - a1) * 0 := Rat.mul_lt_mul_of_pos_left k pos
          grind
        exact ⟨.inl (by grind), .inr (by grind)⟩
      · have n1 : 0 ≤ (a2 - b2) * (p1 - a1) := Rat.mul_nonneg (by grind) (by grind)
        have n2 : 0 ≤ (a2 - b2) * (b1 - p1) := Rat.mul_nonneg (by grind) (by grind)
        have m1 : 0 ≤ a2 - p2 := Rat.not_lt.1 fun k => by
          have : (b1 - a1) * (a2 - p2) < (b1 - a1) * 0 := Rat.mul_lt_mul_of_pos_left k pos
          grind
        have m2 : 0 ≤ p2 - b2 := Rat.not_lt.1 fun k => by
          have : (b1 - a1) * (p2 - b2) < (b1 - a1) * 0 := Rat.mul_lt_mul_of_pos_left k pos
          grind
        exact ⟨.inr (by grind), .inl (by grind)⟩
    · subst q1
      have e : (b2 - a2) * (p1 - a1) = 0 := by grind
      have z : p1 = a1 := by rcases Rat.mul_eq_zero.1 e with z | z <;> grind
      subst z
      refine ⟨.inl (Rat.le_refl), .inr Rat.le_refl, .inl (by grind), .inr (by grind)⟩
theorem isOn_spec {s : Sd} (hs : Line s) {spot : T3} (hp : 0 < spot.2.2) : isOnM s spot = true ↔ onS (toP spot) (toP s.1) (toP s.2.1) := by
  obtain ⟨el, n1, n2, l12⟩ := hs
  rw [onS_iff_lt l12]
  have b1 := before_toP hp n1.1
  have b2 := before_toP n2.1 hp
  have ls := (left_sign n1.1 n2.1 hp).2.2
  rw [← el] at ls
  unfold isOnM
  rw [← b1, ← b2, ← ls]
  cases beforeM spot s.1 <;> cases beforeM s.2.1 spot <;> simp
theorem onS_orient {p : Pt} {s : Seg} : onS p (orient s).1 (orient s).2 ↔ onS p s.1 s.2 := by
  rcases orient_or s with q | q
  · rw [q]
  · rw [q]; exact onS_comm
theorem on_spec {A : List (List T3)} (hA : Kept A) {spot : T3} (hp : 0 < spot.2.2) : (sidesM A).any (fun s => isOnM s spot) = Gk02.on (ptsM A) (toP spot) := by
  obtain ⟨a1, a2⟩ := sidesM_spec hA
  rw [Bool.eq_iff_iff, List.any_eq_true]
  unfold Gk02.on
  rw [List.any_eq_true]
  constructor
  · rintro ⟨s, hs, h⟩
    have h1 := (isOn_spec (a2 s hs) hp).1 h
    have : segOfM s ∈ (Gk02.sidesOf (ptsM A)).map orient := a1.mem_iff.1 (List.mem_map.2 ⟨s, hs, rfl⟩)
    obtain ⟨t, ht, e⟩ := List.mem_map.1 this
    refine ⟨t, ht, (onSeg_iff _ _).2 (onS_orient.1 ?_)⟩
    rw [e]; exact h1
  · rintro ⟨t, ht, h⟩
    have h1 := (onSeg_iff _ _).1 h
    have : orient t ∈ (sidesM A).map segOfM := a1.mem_iff.2 (List.mem_map.2 ⟨t, ht, rfl⟩)
    obtain ⟨s, hs, e⟩ := List.mem_map.1 this
    refine ⟨s, hs, (isOn_spec (a2 s hs) hp).2 ?_⟩
    have := onS_orient.2 h1
    rw [← e] at this; exact this
theorem inside_spec {A : List (List T3)} (hA : Kept A) (fA : Fine (ptsM A)) {spot : T3} (hp : 0 < spot.2.2) (off : Gk02.on (ptsM A) (toP spot) = false) : (besideM spot (sidesM A)).1 = Gk02.inside (ptsM A) (toP spot) := by
  obtain ⟨e, E, g⟩ := env_ex hA.2 (r1 := Gk02.sidesOf (ptsM A)) (r2 := []) (fun _ h => h) (fun _ h => by simp at h) (closed_sidesOf _) closed_nil [toP spot]
  have offs : ∀ s ∈ Gk02.sidesOf (ptsM A), ¬ onS (toP spot) s.1 s.2 := by
    intro s hs k
    have : Gk02.on (ptsM A) (toP spot) = true := by unfold Gk02.on; rw [List.any_eq_true]; exact ⟨s, hs, (onSeg_iff _ _).2 k⟩
    rw [this] at off; cases off
  obtain ⟨a1, a2⟩ := sidesM_spec hA
  have vert : ∀ s ∈ sidesM A, Vert (Gk02.sidesOf (ptsM A)) (toP s.1) ∧ Vert (Gk02.sidesOf (ptsM A)) (toP s.2.1) := by
    intro s hs
    have : segOfM s ∈ (Gk02.sidesOf (ptsM A)).map orient := a1.mem_iff.1 (List.mem_map.2 ⟨s, hs, rfl⟩)
    obtain ⟨t, ht, e⟩ := List.mem_map.1 this
    have e1 : toP s.1 = (orient t).1 := by rw [e]; rfl
    have e2 : toP s.2.1 = (orient t).2 := by rw [e]; rfl
    rw [e1, e2]
    rcases orient_or t with q | q
    · rw [q]; exact ⟨.inl ⟨t, ht, .inl rfl⟩, .inl ⟨t, ht, .inr rfl⟩⟩
    · rw [q]; exact ⟨.inl ⟨t, ht, .inr rfl⟩, .inl ⟨t, ht, .inl rfl⟩⟩
  have b := beside_odd hA hp (e := e) (fun s hs => ⟨g _ _ (.inr (by simp)) (.inl (vert s hs).1), g _ _ (.inr (by simp)) (.inl (vert s hs).2), g _ _ (.inl (vert s hs).1) (.inl (vert s hs).2)⟩)
  rw [b]
  have w : Gk02.windsOf (ptsM A) (toP spot) = tot (Gk02.sidesOf (ptsM A)) (fun a b => vk e a b (toP spot)) := by
    rw [windsOf_eq]
    have h1 : tot (Gk02.sidesOf (ptsM A)) (fun a b => hc a b (toP spot)) = tot (Gk02.sidesOf (ptsM A)) (fun a b => vk e a b (toP spot) + (q1 e (toP spot) b - q1 e (toP spot) a)) := tot_congr fun s hs => hv e (offs s hs)
    rw [h1, tot_add, closed_sidesOf]; simp
  simp only []
  unfold Gk02.inside
  rw [w]
  have o := fA.once _ offs
  rw [w] at o
  rcases o with o | o <;> rw [o] <;> rfl
theorem where_spec {A : List (List T3)} (hA : Kept A) (fA : Fine (ptsM A)) {spot : T3} (hp : 0 < spot.2.2) : whereM A spot = (if Gk02.on (ptsM A) (toP spot) = true then 1 else if Gk02.inside (ptsM A) (toP spot) = true then 2 else 0) := by
  unfold whereM
  rw [on_spec hA hp]
  by_cases k : Gk02.on (ptsM A) (toP spot) = true
  · rw [if_pos k, if_pos k]
  · rw [if_neg k, if_neg k, inside_spec hA fA hp (by simpa using k)]
/-! Compare. -/
theorem pts_inj {A B : List (List T3)} (hA : Kept A) (hB : Kept B) : A = B ↔ ptsM A = ptsM B := by
  constructor
  · rintro rfl; rfl
  · intro h
    have key : ∀ C : List (List T3), Kept C → (ptsM C).map (fun c => c.map ofP) = C := by
      intro C hC
      unfold ptsM
      rw [List.map_map]
      conv => rhs; rw [← List.map_id C]
      refine List.map_congr_left fun c hc => ?_
      simp only [Function.comp, List.map_map, id]
      conv => rhs; rw [← List.map_id c]
      refine List.map_congr_left fun t ht => ?_
      simp only [Function.comp, id]
      exact ofP_toP (hC.1 c hc t ht)
    rw [← key A hA, ← key B hB, h]
theorem allc_grow {α : Type} [DecidableEq α] (f : α → α) (n : Nat) : ∀ (b : List α) (s : List (List α)), s ≠ [] → allc f n b s ≠ [] := by
  intro b
  induction b with
  | nil => intro s h; exact h
  | cons x b ih =>
    intro s h
    unfold allc
    rw [List.foldl_cons]
    refine ih _ ?_
    split
    · exact h
    · simp
theorem ringsM_nil (b : List (T3 × T3)) : ringsM b = [] ↔ b = [] := by
  constructor
  · intro h
    cases b with
    | nil => rfl
    | cons x b =>
      exfalso
      unfold ringsM at h
      rw [List.map_eq_nil_iff] at h
      unfold allc at h
      rw [List.foldl_cons] at h
      exact allc_grow _ _ b _ (by simp) h
  · rintro rfl; rfl
theorem compare_spec {A B : List (List T3)} (kA : Kept A) (kB : Kept B) (fA : Fine (ptsM A)) (fB : Fine (ptsM B)) {k : Nat} (hk : k ≤ 3) : borderM k (sidesM A) (sidesM B) = [] ↔ Gk02.combine k (ptsM A) (ptsM B) = [] := by
  obtain ⟨h, _⟩ := made_combine kA kB fA fB hk
  rw [← h, ← List.length_eq_zero_iff (l := ptsM _), (order_size _).1, List.length_eq_zero_iff, ringsM_nil]
end My
end
section
open GkBase
set_option Elab.async false
namespace My
/-! Fractions, scales, areas. -/
def fracM (a b : Int) : Int × Int := (a.fdiv (cf a b), b.fdiv (cf a b))
theorem cf_zero (a b : Int) : cf (cf a 0) b = cf a b := by
  unfold cf
  rw [Int.gcd_zero_right]
  simp [Int.gcd]
theorem frac_place {a b : Int} (hb : 0 < b) : fracM a b = ((placeM a 0 b).1, (placeM a 0 b).2.2) := by
  unfold fracM placeM
  have : ¬ b < 0 := by omega
  simp only [this, if_false, cf_zero]
theorem nrm_rat (x : Rat) : Nrm (x.num, 0, (x.den : Int)) := by
  refine ⟨by have := x.den_pos; show 0 < (x.den : Int); omega, fun c h1 _ h3 => ?_⟩
  have r := x.reduced
  have g : c.natAbs ∣ Nat.gcd x.num.natAbs x.den := Nat.dvd_gcd (Int.natAbs_dvd_natAbs.2 h1) (by
    have := Int.natAbs_dvd_natAbs.2 h3
    simpa using this)
  rw [r] at g
  exact (Int.natAbs_dvd_natAbs (a := c) (b := 1)).1 (by simpa using g)
theorem frac_told {a b : Int} (hb : 0 < b) : [(fracM a b).1, (fracM a b).2] = GkBase.told ((a : Rat) / (b : Rat)) := by
  have hn := place_nrm (x := a) (y := 0) (w := b) (by omega)
  have hp := place_toP (x := a) (y := 0) (w := b) (by omega)
  have e2 : toP (((a : Rat) / (b : Rat)).num, 0, (((a : Rat) / (b : Rat)).den : Int)) = toP (placeM a 0 b) := by
    rw [hp]
    unfold toP
    simp only []
    rw [num_den]
    have z : ((0 : Int) : Rat) = 0 := rfl
    rw [z, Rat.div_def 0, Rat.div_def 0, Rat.zero_mul, Rat.zero_mul]
  have := toP_inj (nrm_rat _) hn e2
  rw [frac_place hb, ← this]
  rfl
/-- the least common multiple -/
def multStep (m w : Int) : Int := m * (w.fdiv (cf m w))
def multM (R : List (List T3)) : Int := R.foldl (fun m ring => ring.foldl (fun m t => multStep m t.2.2) m) 1
theorem multStep_spec {m w : Int} (hm : 0 < m) (hw : 0 < w) : 0 < multStep m w ∧ m ∣ multStep m w ∧ w ∣ multStep m w := by
  have d1 : cf m w ∣ m := Int.gcd_dvd_left _ _
  have d2 : cf m w ∣ w := Int.gcd_dvd_right _ _
  have gp : 0 < cf m w := by
    have : 0 ≤ cf m w := Int.natCast_nonneg _
    have : cf m w ≠ 0 := by intro k; rw [k] at d1; have := Int.zero_dvd.1 d1; omega
    omega
  unfold multStep
  obtain ⟨u, hu⟩ := d2
  obtain ⟨v, hv⟩ := d1
  generalize cf m w = g at *
  have e : w.fdiv g = u := by rw [hu]; exact Int.mul_fdiv_cancel_left u (by omega)
  rw [e]
  have up : 0 < u := by
    rw [hu] at hw
    exact Int.not_le.1 fun k => by
      have := Int.mul_le_mul_of_nonneg_left k (Int.le_of_lt gp)
      omega
  refine ⟨Int.mul_pos hm up, ⟨u, rfl⟩, ⟨v, ?_⟩⟩
  rw [hv, hu, Int.mul_assoc, Int.mul_assoc, Int.mul_comm v u]
theorem mult_ring (c : List T3) (hc : ∀ t ∈ c, 0 < t.2.2) : ∀ m : Int, 0 < m → 0 < c.foldl (fun m t => multStep m t.2.2) m ∧ m ∣ c.foldl (fun m t => multStep m t.2.2) m ∧ ∀ t ∈ c, t.2.2 ∣ c.foldl (fun m t => multStep m t.2.2) m := by
  induction c with
  | nil => intro m hm; exact ⟨hm, ⟨1, by simp⟩, fun t ht => by simp at ht⟩
  | cons x c ih =>
    intro m hm
    obtain ⟨h1, h2, h3⟩ := multStep_spec hm (hc x (by simp))
    obtain ⟨i1, i2, i3⟩ := ih (fun t ht => hc t (by simp [ht])) _ h1
    rw [List.foldl_cons]
    refine ⟨i1, Int.dvd_trans h2 i2, fun t ht => ?_⟩
    rcases List.mem_cons.1 ht with rfl | q
    · exact Int.dvd_trans h3 i2
    · exact i3 t q
theorem mult_rings (R : List (List T3)) (hR : ∀ c ∈ R, ∀ t ∈ c, 0 < t.2.2) : ∀ m : Int, 0 < m → 0 < R.foldl (fun m ring => ring.foldl (fun m t => multStep m t.2.2) m) m ∧ m ∣ R.foldl (fun m ring => ring.foldl (fun m t => multStep m t.2.2) m) m ∧ ∀ c ∈ R, ∀ t ∈ c, t.2.2 ∣ R.foldl (fun m ring => ring.foldl (fun m t => multStep m t.2.2) m) m := by
  induction R with
  | nil => intro m hm; exact ⟨hm, ⟨1, by simp⟩, fun t ht => by simp at ht⟩
  | cons x c ih =>
    intro m hm
    obtain ⟨h1, h2, h3⟩ := mult_ring x (hR x (by simp)) m hm
    obtain ⟨i1, i2, i3⟩ := ih (fun t ht => hR t (by simp [ht])) _ h1
    rw [List.foldl_cons]
    refine ⟨i1, Int.dvd_trans h2 i2, fun d hd t ht => ?_⟩
    rcases List.mem_cons.1 hd with rfl | q
    · exact Int.dvd_trans (h3 t ht) i2
    · exact i3 d q t ht
theorem mult_spec {R : List (List T3)} (hR : ∀ c ∈ R, ∀ t ∈ c, 0 < t.2.2) : 0 < multM R ∧ ∀ c ∈ R, ∀ t ∈ c, t.2.2 ∣ multM R := by
  obtain ⟨a, _, b⟩ := mult_rings R hR 1 (by decide)
  exact ⟨a, b⟩
def scM (scale : Int) (t : T3) : Int × Int := (t.1 * scale.fdiv t.2.2, t.2.1 * scale.fdiv t.2.2)
def scaledM (c : List T3) (scale : Int) : List (Int × Int) := c.map (scM scale)
def crI (x : (Int × Int) × (Int × Int)) : Int := x.1.1 * x.2.2 - x.1.2 * x.2.1
def dblM (p : List (Int × Int)) : Int := ((p.getLastD (0, 0) :: p).zip p).foldl (fun s x => s + crI x) 0
def dblsM (R : List (List T3)) (scale : Int) : List Int := R.map fun c => dblM (scaledM c scale)
def pieceM (R : List (List T3)) : Int := (((dblsM R (multM R)).filter fun a => decide (0 < a)).length : Nat)
def areaM (R : List (List T3)) : Int × Int := fracM (dblsM R (multM R)).sum (2 * multM R * multM R)
/-- a stretched place -/
theorem sc_toP {s : Int} {t : T3} (hw : 0 < t.2.2) (hd : t.2.2 ∣ s) : (((scM s t).1 : Int) : Rat) = (s : Rat) * (toP t).1 ∧ (((scM s t).2 : Int) : Rat) = (s : Rat) * (toP t).2 := by
  obtain ⟨k, rfl⟩ := hd
  have e : (t.2.2 * k).fdiv t.2.2 = k := Int.mul_fdiv_cancel_left k (by omega)
  unfold scM toP
  simp only [e]
  have w0 : (t.2.2 : Rat) ≠ 0 := cast_ne (by omega)
  simp only [Rat.intCast_mul, Rat.div_def]
  have : (t.2.2 : Rat) * (t.2.2 : Rat)⁻¹ = 1 := Rat.mul_inv_cancel _ w0
  constructor <;> grind
theorem foldl_sumR {α : Type} (f : α → Rat) : ∀ (l : List α) (a : Rat), (l.map f).foldl (fun s y => s + y) a = a + (l.map f).sum := by
  intro l
  induction l with
  | nil => intro a; show a = a + 0; grind
  | cons x l ih =>
    intro a
    rw [List.map_cons, List.foldl_cons, ih, List.sum_cons]; grind
theorem foldl_sumI {α : Type} (f : α → Int) : ∀ (l : List α) (a : Int), l.foldl (fun s x => s + f x) a = a + (l.map f).sum := by
  intro l
  induction l with
  | nil => intro a; simp
  | cons x l ih =>
    intro a
    rw [List.foldl_cons, ih, List.map_cons, List.sum_cons]; omega
theorem sum_permR {l k : List Rat} (h : l.Perm k) : l.sum = k.sum := by
  induction h with
  | nil => rfl
  | cons x _ ih => rw [List.sum_cons, List.sum_cons, ih]
  | swap x y l => simp only [List.sum_cons]; grind
  | trans _ _ a b => rw [a, b]
theorem getLastD_map {α β : Type} (f : α → β) : ∀ (l : List α) (d : α) (d' : β), l ≠ [] → (l.map f).getLastD d' = f (l.getLastD d) := by
  intro l
  induction l with
  | nil => intro d d' h; exact absurd rfl h
  | cons x l ih =>
    intro d d' _
    rw [List.map_cons, List.getLastD_cons, List.getLastD_cons]
    cases l with
    | nil => rfl
    | cons y l => exact ih x (f x) (by simp)
theorem dbl_area {s : Int} {c : List T3} (hc : ∀ t ∈ c, 0 < t.2.2 ∧ t.2.2 ∣ s) : ((dblM (scaledM c s) : Int) : Rat) = (s : Rat) * (s : Rat) * area2 (c.map toP) := by
  cases hcc : c with
  | nil => simp [dblM, scaledM, area2]
  | cons o l =>
    rw [← hcc]
    have ne : c ≠ [] := by rw [hcc]; simp
    have e1 : ((scaledM c s).getLastD (0, 0) :: scaledM c s).zip (scaledM c s) = (((c.getLastD (0, 0, 0)) :: c).zip c).map fun x => (scM s x.1, scM s x.2) := by
      unfold scaledM
      rw [getLastD_map (scM s) c (0, 0, 0) (0, 0) ne, ← List.map_cons, List.zip_map]; rfl
    have e2 : dblM (scaledM c s) = ((((c.getLastD (0, 0, 0)) :: c).zip c).map fun x => crI (scM s x.1, scM s x.2)).sum := by
      unfold dblM
      rw [e1, foldl_sumI, List.map_map, Int.zero_add]; rfl
    have mem : ∀ x ∈ ((c.getLastD (0, 0, 0)) :: c).zip c, x.1 ∈ c ∧ x.2 ∈ c := by
      intro x hx
      obtain ⟨h1, h2⟩ := List.of_mem_zip hx
      refine ⟨?_, h2⟩
      rcases List.mem_cons.1 h1 with q | q
      · rw [q, List.getLastD_eq_getLast?, List.getLast?_eq_some_getLast ne]
        exact List.getLast_mem ne
      · exact q
    have e3 : ((dblM (scaledM c s) : Int) : Rat) = ((((c.getLastD (0, 0, 0)) :: c).zip c).map fun x => (s : Rat) * (s : Rat) * ((toP x.1).1 * (toP x.2).2 - (toP x.1).2 * (toP x.2).1)).sum := by
      rw [e2]
      have : ∀ L : List (T3 × T3), (∀ x ∈ L, x.1 ∈ c ∧ x.2 ∈ c) → (((L.map fun x => crI (scM s x.1, scM s x.2)).sum : Int) : Rat) = (L.map fun x => (s : Rat) * (s : Rat) * ((toP x.1).1 * (toP x.2).2 - (toP x.1).2 * (toP x.2).1)).sum := by
        intro L
        induction L with
        | nil => intro _; rfl
        | cons x L ih =>
          intro hL
          rw [List.map_cons, List.map_cons, List.sum_cons, List.sum_cons, Rat.intCast_add, ih (fun y hy => hL y (by simp [hy]))]
          obtain ⟨m1, m2⟩ := hL x (by simp)
          obtain ⟨p1, p2⟩ := sc_toP (hc _ m1).1 (hc _ m1).2
          obtain ⟨r1, r2⟩ := sc_toP (hc _ m2).1 (hc _ m2).2
          have : ((crI (scM s x.1, scM s x.2) : Int) : Rat) = (s : Rat) * (s : Rat) * ((toP x.1).1 * (toP x.2).2 - (toP x.1).2 * (toP x.2).1) := by
            unfold crI
            simp only [Rat.intCast_sub, Rat.intCast_mul, p1, p2, r1, r2]
            grind
          rw [this]
      exact this _ mem
    rw [e3]
    have e4 : area2 (c.map toP) = ((((c.getLastD (0, 0, 0)) :: c).zip c).map fun x => ((toP x.1).1 * (toP x.2).2 - (toP x.1).2 * (toP x.2).1)).sum := by
      rw [sum_permR ((ring_perm c).map _)]
      have sm := sides_mapP c
      rw [hcc] at sm ⊢
      unfold area2
      simp only [List.map_cons]
      have : sides (toP o :: l.map toP) = (toP o :: l.map toP).zip ((toP o :: l.map toP).tail ++ [toP o]) := rfl
      rw [List.map_cons, this] at sm
      rw [sm, List.map_map, foldl_sumR]
      rw [Rat.zero_add]; rfl
    rw [e4]
    have : ∀ (k : Rat) (L : List (T3 × T3)) (f : T3 × T3 → Rat), (L.map fun x => k * f x).sum = k * (L.map f).sum := by
      intro k L f
      induction L with
      | nil => simp
      | cons x L ih => rw [List.map_cons, List.map_cons, List.sum_cons, List.sum_cons, ih]; grind
    exact this _ _ _
theorem area_spec {A : List (List T3)} (hA : ∀ c ∈ A, ∀ t ∈ c, 0 < t.2.2) : pieceM A = ((Gk02.pieces (ptsM A) : Nat) : Int) ∧ [(areaM A).1, (areaM A).2] = GkBase.told (Gk02.area (ptsM A)) := by
  obtain ⟨sp, sd⟩ := mult_spec hA
  have spR : (0 : Rat) < (multM A : Rat) := cast_pos sp
  have ss : (0 : Rat) < (multM A : Rat) * (multM A : Rat) := Rat.mul_pos spR spR
  have each : ∀ c ∈ A, ((dblM (scaledM c (multM A)) : Int) : Rat) = (multM A : Rat) * (multM A : Rat) * area2 (c.map toP) := fun c hc => dbl_area fun t ht => ⟨hA c hc t ht, sd c hc t ht⟩
  constructor
  · unfold pieceM Gk02.pieces dblsM ptsM
    generalize multM A = s at *
    clear hA sd
    congr 1
    induction A with
    | nil => rfl
    | cons c A ih =>
      rw [List.map_cons, List.map_cons, List.filter_cons, List.filter_cons]
      have e : decide (0 < dblM (scaledM c s)) = decide (0 < area2 (c.map toP)) := by
        rw [decide_eq_decide]
        have h := each c (by simp)
        constructor
        · intro k
          have : (0 : Rat) < (dblM (scaledM c s) : Rat) := cast_pos k
          rw [h] at this
          exact Rat.not_le.1 fun z => by
            have : (s : Rat) * (s : Rat) * area2 (c.map toP) ≤ (s : Rat) * (s : Rat) * 0 := Rat.mul_le_mul_of_nonneg_left z (by grind)
            grind
        · intro k
          have : (0 : Rat) < (s : Rat) * (s : Rat) * area2 (c.map toP) := Rat.mul_pos ss k
          rw [← h] at this
          exact Rat.intCast_pos.1 this
      rw [e]
      have ih := ih fun d hd => each d (by simp [hd])
      split
      · rw [List.length_cons, List.length_cons, ih]
      · exact ih
  · unfold areaM
    rw [frac_told (Int.mul_pos (Int.mul_pos (by decide) sp) sp)]
    congr 1
    unfold Gk02.area ptsM
    rw [show ((A.map fun c => c.map toP).map area2).foldl (fun s y => s + y) 0 = 0 + ((A.map fun c => c.map toP).map area2).sum from foldl_sumR area2 _ 0]
    have sm : (((dblsM A (multM A)).sum : Int) : Rat) = (multM A : Rat) * (multM A : Rat) * ((A.map fun c => c.map toP).map area2).sum := by
      unfold dblsM
      generalize multM A = s at *
      clear hA sd
      induction A with
      | nil => simp
      | cons c A ih =>
        simp only [List.map_cons, List.sum_cons, Rat.intCast_add]
        rw [ih fun d hd => each d (by simp [hd]), each c (by simp)]
        grind
    rw [sm]
    have e2 : ((2 * multM A * multM A : Int) : Rat) = 2 * ((multM A : Rat) * (multM A : Rat)) := by
      rw [Rat.intCast_mul, Rat.intCast_mul]; grind
    rw [e2]
    generalize (multM A : Rat) * (multM A : Rat) = q at *
    generalize ((A.map fun c => c.map toP).map area2).sum = z
    have q0 : q ≠ 0 := by grind
    have : (2 * q) ≠ 0 := by grind
    rw [Rat.zero_add, Rat.div_def, Rat.div_def]
    have h1 : q * q⁻¹ = 1 := Rat.mul_inv_cancel _ q0
    have h2 : (2 * q) * (2 * q)⁻¹ = 1 := Rat.mul_inv_cancel _ this
    have h3 : (2 : Rat) * (2 : Rat)⁻¹ = 1 := Rat.mul_inv_cancel _ (by decide)
    grind
end My
end
section
open GkBase
set_option Elab.async false
namespace My
/-! Rings in their order by whole numbers. -/
def ltP (a b : Int × Int) : Bool := decide (a.1 < b.1) || (decide (a.1 = b.1) && decide (a.2 < b.2))
def ltL : List (Int × Int) → List (Int × Int) → Bool
  | _, [] => false
  | [], _ :: _ => true
  | a :: l, b :: k => ltP a b || (decide (a = b) && ltL l k)
/-- a scale that makes all whole -/
def Sca (s : Int) (c : List T3) : Prop := ∀ t ∈ c, Nrm t ∧ t.2.2 ∣ s
theorem rat_tri (x y : Rat) : x < y ∨ x = y ∨ y < x := by grind
theorem rat_mul_lt {s : Rat} (hs : 0 < s) {x y : Rat} : s * x < s * y ↔ x < y := by
  constructor
  · intro h
    rcases rat_tri x y with q | q | q
    · exact q
    · rw [q] at h; exact absurd h (Rat.lt_irrefl)
    · have := Rat.mul_lt_mul_of_pos_left q hs
      grind
  · intro h; exact Rat.mul_lt_mul_of_pos_left h hs
theorem rat_mul_eq {s : Rat} (hs : 0 < s) {x y : Rat} : s * x = s * y ↔ x = y := by
  constructor
  · intro h
    rcases rat_tri x y with q | q | q
    · rw [← rat_mul_lt hs, h] at q; exact absurd q (Rat.lt_irrefl)
    · exact q
    · rw [← rat_mul_lt hs, h] at q; exact absurd q (Rat.lt_irrefl)
  · rintro rfl; rfl
theorem sc_cmp {s : Int} (hs : 0 < s) {a b : T3} (ha : Nrm a ∧ a.2.2 ∣ s) (hb : Nrm b ∧ b.2.2 ∣ s) : (ltP (scM s a) (scM s b) = true ↔ lt (toP a) (toP b)) ∧ (scM s a = scM s b ↔ toP a = toP b) := by
  obtain ⟨a1, a2⟩ := sc_toP ha.1.1 ha.2
  obtain ⟨b1, b2⟩ := sc_toP hb.1.1 hb.2
  have hs' : (0 : Rat) < (s : Rat) := by exact_mod_cast hs
  have i1 : (scM s a).1 < (scM s b).1 ↔ (toP a).1 < (toP b).1 := by
    rw [← Rat.intCast_lt_intCast, a1, b1, rat_mul_lt hs']
  have i2 : (scM s a).2 < (scM s b).2 ↔ (toP a).2 < (toP b).2 := by
    rw [← Rat.intCast_lt_intCast, a2, b2, rat_mul_lt hs']
  have e1 : (scM s a).1 = (scM s b).1 ↔ (toP a).1 = (toP b).1 := by
    rw [← Rat.intCast_inj, a1, b1, rat_mul_eq hs']
  have e2 : (scM s a).2 = (scM s b).2 ↔ (toP a).2 = (toP b).2 := by
    rw [← Rat.intCast_inj, a2, b2, rat_mul_eq hs']
  constructor
  · unfold ltP lt
    simp only [Bool.or_eq_true, Bool.and_eq_true, decide_eq_true_eq, i1, i2, e1]
  · rw [Prod.ext_iff, Prod.ext_iff, e1, e2]
theorem rb_scaled {s : Int} (hs : 0 < s) : ∀ {c d : List T3}, Sca s c → Sca s d → ltL (scaledM c s) (scaledM d s) = Gk02.ringBefore (c.map toP) (d.map toP)
  | c, [], _, _ => by
    rw [List.map_nil, rb_nil_right]
    cases c <;> rfl
  | [], b :: k, _, _ => rfl
  | a :: l, b :: k, hc, hd => by
    obtain ⟨h1, h2⟩ := sc_cmp hs (hc a List.mem_cons_self) (hd b List.mem_cons_self)
    have ih := rb_scaled hs (c := l) (d := k) (fun t ht => hc t (List.mem_cons_of_mem _ ht)) fun t ht => hd t (List.mem_cons_of_mem _ ht)
    rw [Bool.eq_iff_iff]
    show (ltP (scM s a) (scM s b) || (decide (scM s a = scM s b) && ltL (scaledM l s) (scaledM k s))) = true ↔ _
    rw [List.map_cons, List.map_cons, rb_cons, Bool.or_eq_true, Bool.and_eq_true, decide_eq_true_eq, h1, h2, ih]
/-- a ring from the first of its beginnings -/
def rotM (c : List T3) (k : Nat) : List T3 := c.drop k ++ c.take k
def bestM (s : Int) (c : List T3) : Nat → Nat
  | 0 => 0
  | k + 1 => if ltL (scaledM (rotM c (k + 1)) s) (scaledM (rotM c (bestM s c k)) s) = true then k + 1 else bestM s c k
def firstM (s : Int) (c : List T3) : List T3 := rotM c (bestM s c (c.length - 1))
theorem sca_rot {s : Int} {c : List T3} (h : Sca s c) (k : Nat) : Sca s (rotM c k) := fun t ht => by
  rcases List.mem_append.1 ht with q | q
  · exact h t (List.mem_of_mem_drop q)
  · exact h t (List.mem_of_mem_take q)
theorem fold_best_rot {s : Int} (hs : 0 < s) {c : List T3} (h : Sca s c) : ∀ n, (((List.range (n + 1)).map fun (i : Nat) => (c.map toP).drop i ++ (c.map toP).take i).foldl (fun (b : List Pt) (x : List Pt) => if Gk02.ringBefore x b = true then x else b) (c.map toP)) = (rotM c (bestM s c n)).map toP
  | 0 => by
    have : ¬ Gk02.ringBefore (c.map toP) (c.map toP) = true := rb_irrefl _
    simp [rotM, bestM, this]
  | n + 1 => by
    rw [List.range_succ, List.map_append, List.foldl_append, fold_best_rot hs h n]
    have e : ∀ k, (c.map toP).drop k ++ (c.map toP).take k = (rotM c k).map toP := fun k => by
      unfold rotM
      rw [List.map_append, List.map_drop, List.map_take]
    show (if Gk02.ringBefore ((c.map toP).drop (n + 1) ++ (c.map toP).take (n + 1)) ((rotM c (bestM s c n)).map toP) = true then (c.map toP).drop (n + 1) ++ (c.map toP).take (n + 1) else (rotM c (bestM s c n)).map toP) = _
    rw [e, ← rb_scaled hs (sca_rot h _) (sca_rot h _)]
    show _ = (rotM c (if ltL (scaledM (rotM c (n + 1)) s) (scaledM (rotM c (bestM s c n)) s) = true then n + 1 else bestM s c n)).map toP
    split <;> rfl
theorem first_spec {s : Int} (hs : 0 < s) {c : List T3} (h : Sca s c) (hn : c ≠ []) : (firstM s c).map toP = Gk02.turned (c.map toP) ∧ Sca s (firstM s c) := by
  refine ⟨?_, sca_rot h _⟩
  have hl : 0 < c.length := List.length_pos_iff.2 hn
  unfold firstM Gk02.turned
  rw [← fold_best_rot hs h, List.length_map, Nat.sub_add_cancel hl]
theorem map_toP_inj : ∀ {c d : List T3}, (∀ t ∈ c, Nrm t) → (∀ t ∈ d, Nrm t) → c.map toP = d.map toP → c = d
  | [], [], _, _, _ => rfl
  | [], _ :: _, _, _, h => by simp at h
  | _ :: _, [], _, _, h => by simp at h
  | a :: c, b :: d, hc, hd, h => by
    rw [List.map_cons, List.map_cons] at h
    obtain ⟨h1, h2⟩ := List.cons.inj h
    rw [toP_inj (hc a List.mem_cons_self) (hd b List.mem_cons_self) h1, map_toP_inj (fun t ht => hc t (List.mem_cons_of_mem _ ht)) (fun t ht => hd t (List.mem_cons_of_mem _ ht)) h2]
theorem ofP_map {c : List T3} (h : ∀ t ∈ c, Nrm t) : (c.map toP).map ofP = c := by
  rw [List.map_map]
  conv => rhs; rw [← List.map_id c]
  exact List.map_congr_left fun t ht => ofP_toP (h t ht)
/-- rings sorted by their numbers -/
theorem order_sorted {s : Int} (hs : 0 < s) {R L : List (List T3)} (hR : ∀ c ∈ R, c ≠ [] ∧ Sca s c) (hp : L.Perm (R.map (firstM s))) (hsrt : L.Pairwise fun a b => ltL (scaledM b s) (scaledM a s) = false) : L = orderM R := by
  have hL : ∀ c ∈ L, Sca s c := fun c hc => by
    obtain ⟨c0, h0, rfl⟩ := List.mem_map.1 (hp.mem_iff.1 hc)
    exact (first_spec hs (hR c0 h0).2 (hR c0 h0).1).2
  have e1 : R.map (fun c => Gk02.turned (c.map toP)) = (R.map (firstM s)).map fun c => c.map toP := by
    rw [List.map_map]
    refine List.map_congr_left fun c hc => ?_
    exact (first_spec hs (hR c hc).2 (hR c hc).1).1.symm
  have e2 : L.map (fun c => c.map toP) = (R.map (fun c => Gk02.turned (c.map toP))).foldl (fun (l : List (List Pt)) (c : List Pt) => Gk02.insertRing c l) [] := by
    refine srt_unique ?_ ?_ (srt_insertRings _ _ (by unfold Srt; exact List.Pairwise.nil))
    · refine (hp.map _).trans ?_
      rw [e1]
      have := perm_insertRings ((R.map (firstM s)).map fun c => c.map toP) []
      rw [List.nil_append] at this
      exact this.symm
    · unfold Srt
      rw [List.pairwise_map]
      refine List.Pairwise.imp_of_mem ?_ hsrt
      intro a b ha hb h
      rw [rb_scaled hs (hL b hb) (hL a ha)] at h
      rw [h]; decide
  unfold orderM
  rw [← e2, List.map_map]
  conv => lhs; rw [← List.map_id L]
  refine List.map_congr_left fun c hc => ?_
  exact (ofP_map fun t ht => (hL c hc t ht).1).symm
end My
end
section
open GkBase
set_option Elab.async false
namespace My
/-! No ring is empty. -/
theorem region_ne {e : Rat} {l r1 r2 : List Seg} (E : Env e l r1 r2) (G : Int → Int → Bool) : ∀ c ∈ Gk02.regionOf l (tst r1 r2 G), c ≠ [] := by
  have P := allc_parts (next_inj E G) (bnd l (tst r1 r2 G)) (fun x => Iff.rfl)
  rw [regionOf_eq]
  generalize hR : allc (Gk02.nextOf (Gk01.rounds (Gk01.mapOf l)) (bnd l (tst r1 r2 G))) (bnd l (tst r1 r2 G)).length (bnd l (tst r1 r2 G)) [] = R at *
  have pm : ((R.map (told l)).foldl (fun (l : List (List Pt)) (c : List Pt) => Gk02.insertRing c l) []).Perm (R.map (told l)) := by simpa using perm_insertRings (R.map (told l)) []
  intro c' hc'
  obtain ⟨c, hc, rfl⟩ := List.mem_map.1 (pm.mem_iff.1 hc')
  have cy := P.cyc c hc
  have gc := good_cyc E G cy fun d hd => (P.mem d).1 (List.mem_flatten.2 ⟨c, hc, hd⟩)
  have ne : ptsOf l c ≠ [] := by simpa [ptsOf] using cy.ne
  have h1 : Gk02.corners (ptsOf l c) ≠ [] := by
    cases hp : ptsOf l c with
    | nil => exact absurd hp ne
    | cons o q =>
      rw [hp] at gc
      exact no_corner gc
  have h2 := (turned_perm (Gk02.corners (ptsOf l c))).length_eq
  have e1 : told l c = Gk02.turned (Gk02.corners (ptsOf l c)) := rfl
  intro z
  rw [e1] at z
  rw [z] at h2
  exact h1 (List.length_eq_zero_iff.1 (by simpa using h2.symm))
theorem Two.ne {e : Rat} {A B : List (List T3)} {kind : Int} {G : Int → Int → Bool} (T : Two e A B kind G) : ∀ c ∈ ringsM (borderM kind (sidesM A) (sidesM B)), c ≠ [] := by
  intro c hc z
  obtain ⟨h1, _, _⟩ := T.region
  have pm := perm_insertRings ((ringsM (borderM kind (sidesM A) (sidesM B))).map fun c => Gk02.turned (c.map toP)) []
  rw [List.nil_append] at pm
  have hm := region_ne T.env G (Gk02.turned (c.map toP)) (by rw [h1]; exact pm.mem_iff.2 (List.mem_map.2 ⟨c, hc, rfl⟩))
  subst z
  exact hm rfl
/-- what the program makes: rings of places, none empty, in cycles -/
structure Mk (k : Int) (A B : List (List T3)) : Prop where
  ne : ∀ c ∈ ringsM (borderM k (sidesM A) (sidesM B)), c ≠ []
  nrm : ∀ c ∈ ringsM (borderM k (sidesM A) (sidesM B)), ∀ t ∈ c, Nrm t
  inj : Inj (nextM (borderM k (sidesM A) (sidesM B))) (borderM k (sidesM A) (sidesM B))
theorem mk_ofRings {A : List (List T3)} (kA : Kept A) : Mk 0 A [] := by
  obtain ⟨e, T⟩ := two_ofRings kA
  obtain ⟨_, _, _, h4, h5⟩ := made_ofRings kA
  exact ⟨T.ne, h4, h5⟩
theorem mk_combine {A B : List (List T3)} (kA : Kept A) (kB : Kept B) (fA : Fine (ptsM A)) (fB : Fine (ptsM B)) {k : Nat} (hk : k ≤ 3) : Mk k A B := by
  obtain ⟨e, T⟩ := two_combine kA kB fA fB hk
  obtain ⟨_, _, _, h4, h5⟩ := made_combine kA kB fA fB hk
  exact ⟨T.ne, h4, h5⟩
end My
end
section
set_option Elab.async false
set_option maxRecDepth 100000
namespace Wk
open PySem PySem.Spec PyProof.Rows L2
open My (T3)
/-! Rules that the layer lacks. -/
/-- // by any number that is not 0 and is below 2 ^ 9000 in size -/
def CDivN (_ j : Int) : Prop := j ≠ 0 ∧ j.natAbs.log2 < 9000
theorem op_fdivN2 {X : Cx} : OpR X (binaryOp .FloorDiv) (rI CDivN fun i j => .int (i.fdiv j)) := opI fun i j _ _ _ _ _ hc q => by
  exact floordiv_int hc.1 q (.inl (PyProof.noPylong_of_log2 hc.2))
theorem call_max3 {X : Cx} (hc : X.calm = true) : CallR X (.builtin "max") (fun xs H Q => ∃ i j k : Int, xs = [.int i, .int j, .int k] ∧ Q (.int (max (max i j) k)) H) := by
  intro pins s σ H xs us Q I r h
  obtain ⟨i, j, k, rfl, q⟩ := h
  cases r with
  | cons r1 r => cases r with
    | cons r2 r => cases r with
      | cons r3 r =>
        cases r
        obtain ⟨t1, rfl⟩ := r1
        obtain ⟨t2, rfl⟩ := r2
        obtain ⟨t3, rfl⟩ := r3
        refine PySem.max_three_ints (I.ok.hd hc) fun h' tk kp => ⟨.int (max (max i j) k), H, I.kept kp, ?_, q⟩
        by_cases c1 : j > i
        · rw [if_pos c1]
          by_cases c2 : k > j
          · rw [if_pos c2, show max (max i j) k = k by omega]; exact ⟨_, rfl⟩
          · rw [if_neg c2, show max (max i j) k = j by omega]; exact ⟨_, rfl⟩
        · rw [if_neg c1]
          by_cases c2 : k > i
          · rw [if_pos c2, show max (max i j) k = k by omega]; exact ⟨_, rfl⟩
          · rw [if_neg c2, show max (max i j) k = i by omega]; exact ⟨_, rfl⟩
/-! Dicts whose keys are places, or pairs of places. -/
def PlAt (H : Hp) (a : Addr) (t : T3) : Prop := H a = some (.tup [.int t.1, .int t.2.1, .int t.2.2])
def PaAt (H : Hp) (a : Addr) (p : T3 × T3) : Prop := ∃ u v, H a = some (.tup [.ref u, .ref v]) ∧ PlAt H u p.1 ∧ PlAt H v p.2
def plK (t : T3) : NestedKey := .tup [.num t.1, .num t.2.1, .num t.2.2]
def paK (p : T3 × T3) : NestedKey := .tup [plK p.1, plK p.2]
def KeyAt (H : Hp) (k : NestedKey) (a : Addr) : Prop := (∃ t, k = plK t ∧ PlAt H a t) ∨ ∃ p, k = paK p ∧ PaAt H a p
theorem plK_inj {s t : T3} (h : plK s = plK t) : s = t := by
  unfold plK at h
  simp only [NestedKey.tup.injEq, List.cons.injEq, NestedKey.num.injEq, and_true] at h
  exact Prod.ext h.1 (Prod.ext h.2.1 h.2.2)
theorem paK_inj {s t : T3 × T3} (h : paK s = paK t) : s = t := by
  unfold paK at h
  simp only [NestedKey.tup.injEq, List.cons.injEq, and_true] at h
  exact Prod.ext (plK_inj h.1) (plK_inj h.2)
section
variable {P : Program} {w : World} {H : Hp} {h : Heap} {a : Addr}
theorem pl_is (ok : HOk P w H h) {t : T3} (e : PlAt H a t) : NestedIs h (plK t) (.ref a) := by
  obtain ⟨_, its, r, o, h1, h2, n, h3⟩ := (show ObjOk P w H h a (.tup [.int t.1, .int t.2.1, .int t.2.2]) from ok a _ e)
  cases r with
  | cons r1 r => cases r with
    | cons r2 r => cases r with
      | cons r3 r =>
        cases r
        obtain ⟨t1, rfl⟩ := r1
        obtain ⟨t2, rfl⟩ := r2
        obtain ⟨t3, rfl⟩ := r3
        exact .tup h1 h2 h3 (by simpa using NestedAll.cons (.int t.1 t1) (.cons (.int t.2.1 t2) (.cons (.int t.2.2 t3) .nil)))
theorem pa_is (ok : HOk P w H h) {p : T3 × T3} (e : PaAt H a p) : NestedIs h (paK p) (.ref a) := by
  obtain ⟨u, v, e, e1, e2⟩ := e
  obtain ⟨_, its, r, o, h1, h2, n, h3⟩ := (show ObjOk P w H h a (.tup [.ref u, .ref v]) from ok a _ e)
  cases r with
  | cons r1 r => cases r with
    | cons r2 r =>
      cases r
      cases (show _ = Value.ref u from r1)
      cases (show _ = Value.ref v from r2)
      exact .tup h1 h2 h3 (by simpa using NestedAll.cons (pl_is ok e1) (.cons (pl_is ok e2) .nil))
theorem key_is (ok : HOk P w H h) {k : NestedKey} (e : KeyAt H k a) : (nestedKind P w).is h k a := by
  rcases e with ⟨t, rfl, e⟩ | ⟨p, rfl, e⟩
  · exact ⟨pl_is ok e, by simp [plK, NestedKey.depth, NestedKey.depthAll]⟩
  · exact ⟨pa_is ok e, by simp [paK, plK, NestedKey.depth, NestedKey.depthAll]⟩
end
abbrev NEnt := NestedKey × Addr × Value
/-- what is true of such a dict's object -/
def DictIs (P : Program) (w : World) (a : Addr) (xs : List NEnt) (h : Heap) : Prop := ∃ o es ep, h.get? a = some o ∧ o.ExactDict ∧ o.data = .dict es ep ∧ es.toList = xs.map (entryOfKey (nestedKind P w)) ∧ (xs.map (·.1)).Nodup ∧ xs.length ≤ sizeLine ∧ (a == sysModules) = false
def DN (P : Program) (w : World) (a : Addr) (xs : List NEnt) : HO := .ext (DictIs P w a xs)
/-- the dict at a holds xs, and its keys stand -/
structure DAt (P : Program) (w : World) (H : Hp) (a : Addr) (xs : List NEnt) : Prop where
  ob : H a = some (DN P w a xs)
  ks : ∀ x ∈ xs, KeyAt H x.1 x.2.1
section
variable {P : Program} {w : World} {H : Hp} {h : Heap} {a : Addr} {xs : List NEnt}
theorem DAt.heap (d : DAt P w H a xs) (ok : HOk P w H h) : h.DictOfH (nestedKind P w) a xs ∧ xs.length ≤ sizeLine ∧ (a == sysModules) = false := by
  obtain ⟨⟨o, es, ep, h1, h2, h3, h4, h5, h6, h7⟩, _, _⟩ := (show ObjOk P w H h a (DN P w a xs) from ok a _ d.ob)
  exact ⟨⟨o, es, ep, h1, h2, h3, h4, fun x hx => key_is ok (d.ks x hx), h5⟩, h6, h7⟩
theorem dictIs_stay {h1 h2 : Heap} (k : DictIs P w a xs h1) (e : ∀ o, h1.get? a = some o → h2.get? a = some o) : DictIs P w a xs h2 := by
  obtain ⟨o, es, ep, q1, q⟩ := k
  exact ⟨o, es, ep, e o q1, q⟩
theorem dn_ok {H' : Hp} {h' : Heap} (k : DictIs P w a xs h') : ObjOk P w H' h' a (DN P w a xs) := by
  obtain ⟨o, es, ep, q1, q⟩ := k
  exact ⟨⟨o, es, ep, q1, q⟩, ⟨o, q1⟩, fun _ _ k1 e => dictIs_stay k1 e⟩
end
section
variable {X : Cx} {pins : List (Addr × Obj)} {σ : L2.St} {H : Hp} {s : Shared} {a b : Addr} {k : NestedKey} {xs : List NEnt} {A : Around} {E : Value → Shared → Prop}
theorem n_room (hu : A.units + 9 < cLine) : (nestedKind X.prog X.w).room A.in1 := by
  show A.in1.units + 8 < cLine
  have : A.in1.units = A.units + 1 := rfl
  omega
theorem n_in {Q : Value → Shared → Prop} (hu : A.units + 9 < cLine) (I : Inv X pins σ H s) (d : DAt X.prog X.w H a xs) (hk : KeyAt H k b) (h : ∀ s', Inv X pins σ H s' → Q (.bool (atKey xs k).isSome) s') :
    wpAny (model X.prog X.w) A (compareOp .In (.ref b) (.ref a)) Q E s := by
  obtain ⟨d1, d2, d3⟩ := d.heap I.hok
  exact wpAny_in_heap (n_room hu) (key_is I.hok hk) d3 d1 (h _ (I.tok _))
theorem n_notIn {Q : Value → Shared → Prop} (hu : A.units + 9 < cLine) (I : Inv X pins σ H s) (d : DAt X.prog X.w H a xs) (hk : KeyAt H k b) (h : ∀ s', Inv X pins σ H s' → Q (.bool (!(atKey xs k).isSome)) s') :
    wpAny (model X.prog X.w) A (compareOp .NotIn (.ref b) (.ref a)) Q E s := by
  obtain ⟨d1, d2, d3⟩ := d.heap I.hok
  exact wpAny_notIn_heap (n_room hu) (key_is I.hok hk) d3 d1 (h _ (I.tok _))
theorem n_get {p : Addr × Value} {Q : Value → Shared → Prop} (hu : A.units + 9 < cLine) (I : Inv X pins σ H s) (d : DAt X.prog X.w H a xs) (hk : KeyAt H k b) (hp : atKey xs k = some p) (h : ∀ s', Inv X pins σ H s' → Q p.2 s') :
    wpAny (model X.prog X.w) A (getItem (.ref a) (.ref b)) Q E s := by
  obtain ⟨d1, d2, d3⟩ := d.heap I.hok
  exact wpAny_getItem_heap (n_room hu) (key_is I.hok hk) d1 hp (h _ (I.tok _))
theorem keyAt_upd {H : Hp} {a c : Addr} {o : HO} {k : NestedKey} (ho : ∀ vs, H a ≠ some (.tup vs)) (h : KeyAt H k c) : KeyAt (upd H a o) k c := by
  have pl : ∀ {c t}, PlAt H c t → PlAt (upd H a o) c t := by
    intro c t e
    unfold PlAt at *
    rw [upd_ne (by rintro rfl; exact ho _ e)]; exact e
  rcases h with ⟨t, e, p⟩ | ⟨q, e, u, v, e1, e2, e3⟩
  · exact .inl ⟨t, e, pl p⟩
  · refine .inr ⟨q, e, u, v, ?_, pl e2, pl e3⟩
    rw [upd_ne (by rintro rfl; exact ho _ e1)]; exact e1
theorem storedH_len {xs : List NEnt} {k : NestedKey} {b : Addr} {v : Value} : (storedH xs k b v).length ≤ xs.length + 1 := by
  unfold storedH
  split
  · simp
  · simp
theorem storedH_keys {xs : List NEnt} {k : NestedKey} {b : Addr} {v : Value} {P : NestedKey → Addr → Prop} (h : ∀ x ∈ xs, P x.1 x.2.1) (hk : P k b) : ∀ x ∈ storedH xs k b v, P x.1 x.2.1 := by
  unfold storedH
  split
  · intro x hx
    obtain ⟨y, hy, rfl⟩ := List.mem_map.1 hx
    unfold putAt
    split
    · exact h y hy
    · exact h y hy
  · intro x hx
    rcases List.mem_append.1 hx with q | q
    · exact h x q
    · simp at q; rw [q]; exact hk
theorem n_set {r : Value} {Q : Unit → Shared → Prop} (hu : A.units + 9 < cLine) (I : Inv X pins σ H s) (d : DAt X.prog X.w H a xs) (hk : KeyAt H k b) (hl : xs.length < sizeLine) (h : ∀ s', Inv X pins σ (upd H a (DN X.prog X.w a (storedH xs k b r))) s' → Q () s') :
    wpAny (model X.prog X.w) A (setItem (.ref a) (.ref b) r) Q E s := by
  obtain ⟨d1, d2, d3⟩ := d.heap I.hok
  refine wpAny_setItem_heap (hsz := d2) (n_room hu) (key_is I.hok hk) d1 fun h' dd' hs => h _ ?_
  obtain ⟨o, es, ep, q1, q2, q3, q4, _, q5⟩ := dd'
  have hz : (storedH xs k b r).length ≤ sizeLine := by have := storedH_len (xs := xs) (k := k) (b := b) (v := r); omega
  exact d_write I (by rw [d.ob]; exact True.intro) hs ⟨o, q1⟩ (dn_ok ⟨o, es, ep, q1, q2, q3, q4, q5, hz, d3⟩)
theorem DAt.set {v : Value} (d : DAt X.prog X.w H a xs) (hk : KeyAt H k b) : DAt X.prog X.w (upd H a (DN X.prog X.w a (storedH xs k b v))) a (storedH xs k b v) :=
  ⟨upd_same, fun x hx => keyAt_upd (fun vs e => by rw [d.ob] at e; cases e) (storedH_keys d.ks hk x hx)⟩
end
/-! readings and rules -/
def tNNot (X : Cx) (ty td : TE) : TE := fun σ H Q => ty σ H fun y H1 => td σ H1 fun x H2 => ∃ a b k xs, x = .ref a ∧ y = .ref b ∧ DAt X.prog X.w H2 a xs ∧ KeyAt H2 k b ∧ Q (.bl (!(atKey xs k).isSome)) H2
def tNGet (X : Cx) (td ty : TE) : TE := fun σ H Q => td σ H fun x H1 => ty σ H1 fun y H2 => ∃ a b k xs p v, x = .ref a ∧ y = .ref b ∧ DAt X.prog X.w H2 a xs ∧ KeyAt H2 k b ∧ atKey xs k = some p ∧ RelV v p.2 ∧ Q v H2
def sNPut (X : Cx) (td ty tv : TE) : TS := fun D σ H => tv σ H fun v H1 => td σ H1 fun x H2 => ty σ H2 fun y H3 => ∃ a b k xs, x = .ref a ∧ y = .ref b ∧ DAt X.prog X.w H3 a xs ∧ KeyAt H3 k b ∧ xs.length < sizeLine ∧ ∀ r, RelV v r → D.nx σ (upd H3 a (DN X.prog X.w a (storedH xs k b r)))
section
variable {X : Cx} {o i e value : Expr} {pos pos' : Pos} {td ty tv : TE}
theorem pc_nnotin (hu : X.A.units + 9 < cLine) (hi : PE X i ty) (ho : PE X o td) : PC X .NotIn i o (tNNot X ty td) := by
  refine ⟨fun pins s σ H Q I h => ?_⟩
  refine thn (hi.run pins s σ H _ I h) fun iv s1 ⟨y, H1, I1, ry, q1⟩ => thn (ho.run pins s1 σ H1 _ I1 q1) fun u s2 ⟨x, H2, I2, rx, a, b, k, xs, ex, ey, d, hk, q2⟩ => ?_
  subst ex; subst ey
  obtain rfl : u = Value.ref a := rx
  obtain rfl : iv = Value.ref b := ry
  exact n_notIn hu I2 d hk fun s3 I3 => ⟨.bl (!(atKey xs k).isSome), H2, I3, rfl, q2⟩
theorem pe_nget (hu : X.A.units + 9 < cLine) (ho : PE X o td) (hi : PE X i ty) (hs : NoSl i) : PE X (.Subscript o i pos) (tNGet X td ty) := by
  refine ⟨fun pins s σ H Q I h => ?_⟩
  refine subD_of PySem.F.slot_dict_getitem.lookup hs (thn (ho.run pins s σ H _ I h) fun u s1 ⟨x, H1, I1, rx, q1⟩ => thn (hi.run pins s1 σ H1 _ I1 q1) fun iv s2 ⟨y, H2, I2, ry, a, b, k, xs, p, v, ex, ey, d, hk, hp, rv, q2⟩ => ?_)
  subst ex; subst ey
  obtain rfl : u = Value.ref a := rx
  obtain rfl : iv = Value.ref b := ry
  exact ⟨(d.heap I2.hok).1.typeIs, n_get hu I2 d hk hp fun s3 I3 => ⟨v, H2, I3, rv, q2⟩⟩
theorem ps_nput (hu : X.A.units + 9 < cLine) (ho : PE X o td) (hi : PE X i ty) (hv : PE X value tv) (hs : swapsWith value (some (.Subscript o i pos')) pos.line X.env = pure false) :
    PS X (.Assign [.Subscript o i pos'] value pos) (sNPut X td ty tv) := by
  refine ⟨fun pins s σ H D I h => ?_⟩
  refine wpAny_Assign_Subscript (thn (hv.run pins s σ H _ I h) fun r s1 ⟨v, H1, I1, rv, q1⟩ => thn (ho.run pins s1 σ H1 _ I1 q1) fun u s2 ⟨x, H2, I2, rx, q2⟩ => thn (hi.run pins s2 σ H2 _ I2 q2) fun iv s3 ⟨y, H3, I3, ry, a, b, k, xs, ex, ey, d, hk, hl, q3⟩ => ?_) hs
  subst ex; subst ey
  obtain rfl : u = Value.ref a := rx
  obtain rfl : iv = Value.ref b := ry
  exact n_set hu I3 d hk hl fun s4 I4 => ⟨σ, _, I4, q3 r rv⟩
def tNNew (X : Cx) : TE := fun _ H Q => ∀ p, H p = none → Q (.ref p) (upd H p (DN X.prog X.w p []))
theorem pe_nnew : PE X (.Dict [] [] pos) (tNNew X) := ⟨fun pins s σ H Q I h => by
  refine wpAny_Dict_empty ⟨.ref s.heap.objs.size, _, I.laid (a := s.heap.objs.size) (o := DN X.prog X.w s.heap.objs.size []) (t' := s.toks) (fun _ _ q => Heap.get?_push_of_some _ q) (Nat.le_refl _) ?_, rfl, h _ (I.hok.fresh (Nat.le_refl _))⟩
  exact dn_ok ⟨_, #[], 0, Heap.get?_push_size _ rfl, ⟨rfl, rfl, rfl⟩, rfl, rfl, List.nodup_nil, Nat.zero_le _, beq_eq_false_iff_ne.mpr (Ne.symm (Nat.ne_of_lt I.big))⟩⟩
end
end Wk
end
section
set_option Elab.async false
set_option maxRecDepth 100000
namespace Wk
open PySem PySem.Spec PyProof.Rows L2
open My (T3)
/-! list(d), d.setdefault(k, v) of such a dict. -/
theorem list_refs {es : Array DictEntry} {P : Program} {w : World} {xs : List NEnt} {acc : Array Value} (he : es.toList = xs.map (entryOfKey (nestedKind P w))) (hs : acc.size = es.size) (it : ∀ (j : Nat) (v : Value), acc[j]? = some v → ∃ en : DictEntry, es[j]? = some en ∧ v = en.key) : acc.toList = (xs.map fun x => x.2.1).map Value.ref := by
  have l1 : es.size = xs.length := size_of_entries he
  refine List.ext_getElem (by simp [hs, l1]) fun j h1 h2 => ?_
  have hj : j < acc.size := by simpa using h1
  obtain ⟨en, hen, hv⟩ := it j acc[j] (Array.getElem?_eq_getElem hj)
  have qe := entry_at he j
  rw [hen] at qe
  have hjx : j < xs.length := by omega
  rw [List.getElem?_eq_getElem hjx] at qe
  have e2 : en = entryOfKey (nestedKind P w) xs[j] := Option.some.inj qe
  rw [Array.getElem_toList, hv, e2, List.getElem_map, List.getElem_map]
  rfl
theorem call_list_dN {X : Cx} (hc : X.calm = true) : CallR X (.type "list") (fun vs H Q => ∃ d xs, vs = [V.ref d] ∧ DAt X.prog X.w H d xs ∧ ∀ p, H p = none → Q (.ref p) (upd H p (.lst ((xs.map fun x => x.2.1).map V.ref)))) := by
  intro pins s σ H vs us Q I r h
  obtain ⟨d, xs, rfl, hd, q⟩ := h
  obtain ⟨u, rfl, rx⟩ := r.one
  cases rx
  obtain ⟨⟨o, es, ep, ho, hx, hdt, he, hn, hz, hs⟩, _, _⟩ := (show ObjOk X.prog X.w H s.heap d (DN X.prog X.w d xs) from I.hok d _ hd.ob)
  have l1 : es.size = xs.length := size_of_entries he
  refine PySem.W.kdl_call (kdl_raw hs hx hdt) (I.ok.hd hc) ho (by omega) fun h' tk acc' c' kp e it => ?_
  have ea := list_refs he it.1 it.2
  have rv : Vals ((xs.map fun x => x.2.1).map V.ref) acc'.toList := by rw [ea]; exact vals_refs _
  have hl : ((xs.map fun x => x.2.1).map V.ref).length ≤ sizeLine := by rw [List.length_map, List.length_map]; omega
  refine ⟨.ref s.heap.objs.size, _, I.laid (t' := tk) (o := .lst ((xs.map fun x => x.2.1).map V.ref)) kp (Nat.le_refl _) ?_, rfl, q _ (I.hok.fresh (Nat.le_refl _))⟩
  exact ⟨hl, acc'.toList, c', rv, by rw [Array.toArray_toList]; exact e⟩
theorem n_setd {X : Cx} {pins : List (Addr × Obj)} {σ : L2.St} {H : Hp} {s : Shared} {a b : Addr} {k : NestedKey} {xs : List NEnt} {A : Around} {E : Value → Shared → Prop} {r : Value} {Q : Value → Shared → Prop} (hu : A.units + 9 < cLine) (I : Inv X pins σ H s) (d : DAt X.prog X.w H a xs) (hk : KeyAt H k b) (hl : xs.length < sizeLine)
    (h1 : ∀ p, atKey xs k = some p → ∀ s', Inv X pins σ H s' → Q p.2 s') (h2 : atKey xs k = none → ∀ s', Inv X pins σ (upd H a (DN X.prog X.w a (storedH xs k b r))) s' → Q r s') :
    wpAny (model X.prog X.w) A (call (.builtin "dict.setdefault") [.ref a, .ref b, r]) Q E s := by
  obtain ⟨d1, d2, d3⟩ := d.heap I.hok
  refine call_setdefault_heap (hsz := d2) (n_room hu) (key_is I.hok hk) d3 d1 (fun p hp => h1 p hp _ (I.tok _)) fun hn h' dd' hs => h2 hn _ ?_
  obtain ⟨o, es, ep, q1, q2, q3, q4, _, q5⟩ := dd'
  have hz : (storedH xs k b r).length ≤ sizeLine := by have := storedH_len (xs := xs) (k := k) (b := b) (v := r); omega
  exact d_write I (by rw [d.ob]; exact True.intro) hs ⟨o, q1⟩ (dn_ok ⟨o, es, ep, q1, q2, q3, q4, q5, hz, d3⟩)
def tNSetd (X : Cx) (td ty tx : TE) : TE := fun σ H Q => td σ H fun x H1 => ∃ a xs, x = .ref a ∧ DAt X.prog X.w H1 a xs ∧ ty σ H1 fun y H2 => tx σ H2 fun z H3 => ∃ b k ys, y = .ref b ∧ DAt X.prog X.w H3 a ys ∧ KeyAt H3 k b ∧ ys.length < sizeLine ∧
  (∀ p v, atKey ys k = some p → RelV v p.2 → Q v H3) ∧ (atKey ys k = none → ∀ r, RelV z r → Q z (upd H3 a (DN X.prog X.w a (storedH ys k b r)))) ∧ (∀ p, atKey ys k = some p → ∃ v, RelV v p.2)
theorem pe_nsetd {X : Cx} {o e f : Expr} {td ty tx : TE} {apos cpos : Pos} (hu : X.A.units + 9 < cLine) (ho : PE X o td) (he : PE X e ty) (hf : PE X f tx) (m : M2 X o "setdefault" apos e f cpos) : PE X (.Call (.Attribute o "setdefault" apos) [e, f] [] cpos) (tNSetd X td ty tx) := by
  refine ⟨fun pins s σ H Q I h => ?_⟩
  refine wpAny_Call_method m.base m.few m.line PySem.F.plainAttrs_dict PySem.F.slot_dict_setdefault PySem.F.type_dict_setdefault (thn (ho.run pins s σ H _ I h) fun u s1 ⟨x, H1, I1, rx, a, xs, ex, d, q1⟩ => ?_)
  subst ex
  obtain rfl : u = Value.ref a := rx
  have dd := (d.heap I1.hok).1
  refine ⟨dd.typeIs, fun b q => ?_, ?_⟩
  · cases q
    obtain ⟨ob, _, _, h1, h2, _⟩ := dd
    exact ⟨ob, h1, h2.2.1⟩
  rw [m.trees]
  refine Calls.callWith_builtin rfl (Calls.evalArgs_plain (Calls.spliced_cons (thn (he.run pins s1 σ H1 _ I1 q1) fun iv s2 ⟨y, H2, I2, ry, q2⟩ =>
    Calls.spliced_cons (thn (hf.run pins s2 σ H2 _ I2 q2) fun fv s3 ⟨z, H3, I3, rz, b, k, ys, ey, d3, hk, hl, w1, w2, w3⟩ => Calls.spliced_nil ?_))))
  subst ey
  obtain rfl : iv = Value.ref b := ry
  refine n_setd hu I3 d3 hk hl (fun p hp s4 I4 => ?_) fun hn s4 I4 => ⟨z, _, I4, rz, w2 hn fv rz⟩
  obtain ⟨v, rv⟩ := w3 p hp
  exact ⟨v, H3, I4, rv, w1 p v hp rv⟩
end Wk
end
section
set_option Elab.async false
set_option maxRecDepth 100000
namespace Wk
open PySem PySem.Spec PyProof.Rows L2 LamX
open My (T3)
open PySem.W (WData Codec OpenSpec Well WellAll ReadsW)
/-! The end of a row whose def gets one list of whole numbers, with tables of code objects. -/
theorem spec_callT {P : Program} {w : World} {K : PySem.W.Frag} {mg mb : Str → Option Value} {CX : CXT} {k : Nat} {fa a : Addr} {cs : List (Addr × Addr)} {fd : FuncData} {x : Str} {sp : Sp} {s₁ : Shared} {vs : List Value} {ns : List Int} {R : PySem.W.WRecords} {cl : Str → Option Addr} {d0 : WData}
    (KX : K.In s₁.heap) (hns : s₁.heap.Ns mainGlobals mg) (hb : s₁.heap.Ns builtinsNs mb) (hbb : ∀ x : Str, x ≠ "__name__" → mb x = bootBuiltins x) (hlim : s₁.heap.NoLimit) (hg : s₁.gens = #[]) (hT : ∀ p ∈ cs, s₁.heap.get? p.2 = some { cls := .none, data := .fields #[] }) (nT : ∀ p ∈ cs, K.lookup p.2 = none) (C : ∀ p ∈ cs, PySem.W.CodeHd s₁.heap p.1 p.2)
    (hbm : ∃ (bm : Addr) (ob : Obj), mg "__builtins__" = some (.ref bm) ∧ bm ≠ builtinsNs ∧ s₁.heap.get? bm = some ob ∧ ob.cls = .type "module" ∧ ob.dict = some builtinsNs ∧ ob.data = .plain) (ha : s₁.heap.get? a = some { cls := .type "list", data := .seq vs.toArray }) (hi : IntsAre vs ns) (hl : ns.length ≤ sizeLine) (hr : Room k callerA)
    (F : ∀ base : Heap, K.In base → base.Ns mainGlobals mg → (∀ p ∈ cs, TabB base mg p.1 p.2) → FnOk P w K mg base CX k fa fd [x] sp) (hbind : ∀ (s : Shared) (us : List Value), us.length = ([x] : List Str).length → BindsTo s fd ⟨us, []⟩ (([x] : List Str).zip us))
    (hsp : ∀ H : Hp, (∀ p ∈ cs, H p.2 = some (.tbl #[])) → SqL K H a (ns.map V.int) → sp [.ref a] H (fun v H' => Dw K H' v d0) fun _ _ _ => False) (hCX : ∀ H e s', CX [] H s₁ (fun _ _ _ => False) e s' → False) :
    codeAny (model P w) callerA (.call (.ref fa) ⟨[.ref a], []⟩) (fun r s' => ∃ u as, r = .ok (.ret u) ∧ ReadsW R cl s'.heap u d0 as ∧ OldK s₁.heap s'.heap ∧ s'.os = s₁.os ∧ AllBare s'.gens) s₁ := by
  have rv := vals_ints hi
  have lenV := hi.length
  have tabOf : ∀ {b : Addr}, b ∈ cs.map Prod.snd → s₁.heap.get? b = some { cls := .none, data := .fields #[] } := by
    intro b hb
    obtain ⟨p, hp, rfl⟩ := List.mem_map.mp hb
    exact hT p hp
  have inT : ∀ p ∈ cs, p.2 ∈ cs.map Prod.snd := fun p hp => List.mem_map.mpr ⟨p, hp, rfl⟩
  have aNot : a ∉ cs.map Prod.snd := by
    intro z
    have q := tabOf z
    rw [ha] at q
    exact nomatch (congrArg Obj.data (Option.some.inj q))
  -- what is tracked: the tables, and the list if the written part does not hold it
  have core : ∀ H : Hp, (∀ p ∈ cs, H p.2 = some (.tbl #[])) → (∀ b u, H b = some u → (b ∈ cs.map Prod.snd ∧ u = .tbl #[]) ∨ (b = a ∧ K.lookup a = none ∧ u = .frz { cls := .type "list", data := .seq vs.toArray } (.lst (ns.map V.int)))) → SqL K H a (ns.map V.int) →
      codeAny (model P w) callerA (.call (.ref fa) ⟨[.ref a], []⟩) (fun r s' => ∃ u as, r = .ok (.ret u) ∧ ReadsW R cl s'.heap u d0 as ∧ OldK s₁.heap s'.heap ∧ s'.os = s₁.os ∧ AllBare s'.gens) s₁ := by
    intro H hH hA hS
    have hok : HOk P w H s₁.heap := by
      intro b u e
      rcases hA b u e with ⟨m, rfl⟩ | ⟨rfl, _, rfl⟩
      · exact tabOf m
      · exact ⟨ha, by rw [List.length_map]; exact hl, vs, _, rv, ha⟩
    have noT : ∀ {b : Addr} {o : Obj}, s₁.heap.get? b = some o → (∀ l n, o.data ≠ .seq l n) → o.data ≠ .fields #[] → H b = none := by
      intro b o e h1 h2
      cases q : H b with
      | none => rfl
      | some u =>
        rcases hA b u q with ⟨m, _⟩ | ⟨rfl, _, _⟩
        · rw [tabOf m] at e
          cases e
          exact absurd rfl h2
        · rw [ha] at e
          cases e
          exact absurd rfl (h1 _ _)
    have dictNot : ∀ {b : Addr} {o : Obj} {es : Array DictEntry} {ep : Nat}, s₁.heap.get? b = some o → o.data = .dict es ep → H b = none := by
      intro b o es ep e d
      exact noT e (fun l n z => nomatch (d.symm.trans z)) (fun z => nomatch (d.symm.trans z))
    have low : ∀ {b : Addr} {o : Obj}, s₁.heap.get? b = some o → H b = none → (hidT s₁.heap H).get? b = some o := fun e n => hidT_get e n
    have nsL : ∀ {b : Addr} {m : Str → Option Value}, s₁.heap.Ns b m → (hidT s₁.heap H).Ns b m := by
      rintro b m ⟨o, es, ep, e, d, r⟩
      exact ⟨o, es, ep, low e (dictNot e d), d, r⟩
    have kLow : K.In (hidT s₁.heap H) := by
      intro b o e
      refine low (KX b o e) ?_
      cases q : H b with
      | none => rfl
      | some u =>
        rcases hA b u q with ⟨m, _⟩ | ⟨rfl, h2, _⟩
        · obtain ⟨p, hp, rfl⟩ := List.mem_map.mp m
          rw [nT p hp] at e
          cases e
        · rw [h2] at e
          cases e
    have tabs : ∀ p ∈ cs, TabB (hidT s₁.heap H) mg p.1 p.2 := by
      intro p hp
      have tp := hT p hp
      refine ⟨?_, ?_, ?_⟩
      · obtain ⟨o, us, file, tf, flags, tg, inF, text, tt, e1, r1, r2, r3, rest⟩ := C p hp
        refine ⟨o, us, file, tf, flags, tg, inF, text, tt, low e1 (noT e1 (fun l n z => nomatch (r2.symm.trans z)) fun z => ?_), r1, r2, r3, rest⟩
        have z' := r2.symm.trans z
        cases z'
        simp at r3
      · obtain ⟨bm, ob, b1, b2, b3, b4, b5, b6⟩ := hbm
        have n1 : bm ≠ mainGlobals := by
          rintro rfl
          obtain ⟨o, es, ep, e, hd, _⟩ := hns
          rw [e] at b3
          cases b3
          exact nomatch (hd.symm.trans b6)
        have n2 : bm ≠ p.2 := by
          rintro rfl
          rw [tp] at b3
          cases b3
          cases b6
        exact ⟨bm, ob, b1, b2, n1, n2, low b3 (noT b3 (fun l n z => nomatch (b6.symm.trans z)) (fun z => nomatch (b6.symm.trans z))), b4, b5, b6⟩
      · intro z
        obtain ⟨o, es, ep, e, hd, _⟩ := hns
        rw [z, tp] at e
        cases e
        cases hd
    have hM : L2.Mod K mg (hidT s₁.heap H) := by
      obtain ⟨mc, l1, l2⟩ := hlim
      exact ⟨kLow, nsL hns, ⟨mb, nsL hb, hbb⟩, mc, nsL l1, l2⟩
    have e0 : Env0 P w K mg (hidT s₁.heap H) callerA [] s₁ H := ⟨rfl, hM, fun b o e => of_hidT e, Nat.le_of_eq (hidT_size _ _), trivial, fun b m => absurd (show b ∈ ([] : List Addr) from m) (by simp), hok, .of_eq hg⟩
    refine codeAny_mono ((F _ kLow (nsL hns) tabs).run callerA [] s₁ H ⟨[.ref a], []⟩ [.ref a] [.ref a] _ _ hr e0 (hbind s₁ [.ref a] rfl) (.cons rfl .nil) (hsp H hH hS)) fun r s' h => ?_
    cases r with
    | error e => exact (hCX H e s' h).elim
    | ok fl =>
      cases fl with
      | next => exact False.elim h
      | brk => exact False.elim h
      | cont => exact False.elim h
      | ret u =>
        obtain ⟨v, H', os, bare, un, hok', r', q⟩ := h
        have same : ∀ b o, b ∉ cs.map Prod.snd → s₁.heap.get? b = some o → s'.heap.get? b = some o := by
          intro b o nb e
          cases hb : H b with
          | none => exact un.keep b o e hb (fun z => absurd (show b ∈ ([] : List Addr) from z) (by simp)) (by simp)
          | some u2 =>
            rcases hA b u2 hb with ⟨m, _⟩ | ⟨_, _, rfl⟩
            · exact absurd m nb
            · obtain ⟨e1, _⟩ := hok b _ hb
              obtain ⟨e2, _⟩ := hok' b _ (un.frzs b _ _ hb)
              rw [e] at e1
              cases e1
              exact e2
        have grew : ∀ p ∈ cs, ∃ more : Array Value, s'.heap.get? p.2 = some { cls := .none, data := .fields more } := by
          intro p hp
          obtain ⟨more, z⟩ := un.tbls p.2 #[] (hH p hp)
          exact ⟨_, hok' p.2 _ z⟩
        have KX' : K.In s'.heap := by
          intro b o e
          refine same b o (fun m => ?_) (KX b o e)
          obtain ⟨p, hp, rfl⟩ := List.mem_map.mp m
          rw [nT p hp] at e
          cases e
        obtain ⟨as, hrd⟩ := Dw.reads (R := R) (cl := cl) hok' KX' d0 v u q r'
        refine ⟨u, as, rfl, hrd, ⟨fun b o e => ?_, fun b o e => ?_⟩, os, bare⟩
        · by_cases m : b ∈ cs.map Prod.snd
          · obtain ⟨p, hp, rfl⟩ := List.mem_map.mp m
            obtain ⟨more, hm⟩ := grew p hp
            rw [hT p hp] at e
            cases e
            exact .inr (.inl ⟨((C p hp).tab (hT p hp)).isCodeTable, rfl, #[], more, rfl, by rw [Array.empty_append]; exact hm⟩)
          · exact .inl (same b o m e)
        · by_cases m : b ∈ cs.map Prod.snd
          · obtain ⟨p, hp, rfl⟩ := List.mem_map.mp m
            obtain ⟨more, hm⟩ := grew p hp
            exact ⟨_, hm⟩
          · exact ⟨o, same b o m e⟩
  cases hk : K.lookup a with
  | some o =>
    have e := KX a o hk
    rw [ha] at e
    cases e
    refine core (fun b => if b ∈ cs.map Prod.snd then some (.tbl #[]) else none) (fun p hp => if_pos (inT p hp)) (fun b u e => ?_) (.inr ⟨_, vs.toArray, _, hk, rfl, rfl, rfl, by rw [List.size_toArray, lenV]; exact hl, by simpa using rv⟩)
    by_cases m : b ∈ cs.map Prod.snd
    · rw [if_pos m] at e
      exact .inl ⟨m, (Option.some.inj e).symm⟩
    · rw [if_neg m] at e
      cases e
  | none =>
    refine core (fun b => if b = a then some (.frz { cls := .type "list", data := .seq vs.toArray } (.lst (ns.map V.int))) else if b ∈ cs.map Prod.snd then some (.tbl #[]) else none) (fun p hp => ?_) (fun b u e => ?_) (.inl (.inr ⟨_, if_pos rfl⟩))
    · have z : ¬ p.2 = a := fun z => aNot (z ▸ inT p hp)
      show (if p.2 = a then _ else _) = _
      rw [if_neg z, if_pos (inT p hp)]
    · by_cases m : b = a
      · rw [if_pos m] at e
        exact .inr ⟨m, hk, (Option.some.inj e).symm⟩
      · rw [if_neg m] at e
        by_cases m2 : b ∈ cs.map Prod.snd
        · rw [if_pos m2] at e
          exact .inl ⟨m2, (Option.some.inj e).symm⟩
        · rw [if_neg m2] at e
          cases e
/-- what is known of the def's promise at the head's heap h -/
def SpecAt (r : OpenSpec) (w : World) (K : PySem.W.Frag) (CX : CXT) (k : Nat) (x : Str) (mg : Str → Option Value) (fa : Addr) (h : Heap) (good : List Int → Prop) (due : List Int → WData) : Prop :=
  ∃ (fd : FuncData) (cs : List (Addr × Addr)) (sp : Sp), (∀ p ∈ cs, h.get? p.2 = some { cls := .none, data := .fields #[] }) ∧ (∀ p ∈ cs, K.lookup p.2 = none) ∧ (∀ p ∈ cs, PySem.W.CodeHd h p.1 p.2) ∧
    (∀ (s : Shared) (us : List Value), us.length = ([x] : List Str).length → BindsTo s fd ⟨us, []⟩ (([x] : List Str).zip us)) ∧
    (∀ (H : Hp) (a : Addr) (ns : List Int), good ns → (∀ p ∈ cs, H p.2 = some (.tbl #[])) → SqL K H a (ns.map V.int) → sp [.ref a] H (fun v H' => Dw K H' v (due ns)) fun _ _ _ => False) ∧
    ∀ base : Heap, K.In base → base.Ns mainGlobals mg → (∀ p ∈ cs, TabB base mg p.1 p.2) → FnOk r.prog w K mg base CX k fa fd [x] sp
end Wk
end
section
set_option Elab.async false
set_option linter.all false
set_option maxRecDepth 100000
namespace Wk
open PySem PySem.Spec PyProof.Rows L2
open Evl (Ex ex_l ex_t sq_of st_of)
/-! ### data, as it lies in the heap -/
mutual
inductive Rp (H : Hp) : V → PyData → Prop
  | int (i : Int) : Rp H (.int i) (.int i)
  | bl (b : Bool) : Rp H (.bl b) (.bool b)
  | lst {a : Addr} {xs : List V} {ds : List PyData} : H a = some (.lst xs) → RpAll H xs ds → Rp H (.ref a) (.list ds)
  | tup {a : Addr} {xs : List V} {ds : List PyData} : H a = some (.tup xs) → RpAll H xs ds → Rp H (.ref a) (.tuple ds)
inductive RpAll (H : Hp) : List V → List PyData → Prop
  | nil : RpAll H [] []
  | cons {v : V} {vs : List V} {d : PyData} {ds : List PyData} : Rp H v d → RpAll H vs ds → RpAll H (v :: vs) (d :: ds)
end
mutual
theorem Rp.ex {H H' : Hp} (e : Ex H H') : ∀ {v : V} {d : PyData}, Rp H v d → Rp H' v d
  | _, _, .int i => .int i
  | _, _, .bl b => .bl b
  | _, _, .lst h r => .lst (e _ _ h) (RpAll.ex e r)
  | _, _, .tup h r => .tup (e _ _ h) (RpAll.ex e r)
theorem RpAll.ex {H H' : Hp} (e : Ex H H') : ∀ {vs : List V} {ds : List PyData}, RpAll H vs ds → RpAll H' vs ds
  | _, _, .nil => .nil
  | _, _, .cons h r => .cons (Rp.ex e h) (RpAll.ex e r)
end
mutual
theorem Rp.dp {K : PySem.W.Frag} {H : Hp} : ∀ {v : V} {d : PyData}, Rp H v d → Dp K H v d
  | _, _, .int i => .int i
  | _, _, .bl b => .bl b
  | _, _, .lst h r => .lst (sq_of h) (RpAll.dp r)
  | _, _, .tup h r => .tup (st_of h) (RpAll.dp r)
theorem RpAll.dp {K : PySem.W.Frag} {H : Hp} : ∀ {vs : List V} {ds : List PyData}, RpAll H vs ds → DpAll K H vs ds
  | _, _, .nil => .nil
  | _, _, .cons h r => .cons (Rp.dp h) (RpAll.dp r)
end
section
variable {H : Hp} {vs ws : List V} {ds es : List PyData} {v : V} {d : PyData}
theorem RpAll.len (h : RpAll H vs ds) : vs.length = ds.length := by
  induction ds generalizing vs with
  | nil => cases h; rfl
  | cons d ds ih =>
    cases h with
    | cons a b => rw [List.length_cons, List.length_cons, ih b]
theorem RpAll.get (h : RpAll H vs ds) {i : Nat} (hd : ds[i]? = some d) : ∃ v, vs[i]? = some v ∧ Rp H v d := by
  induction ds generalizing vs i with
  | nil => simp at hd
  | cons e ds ih =>
    cases h with
    | cons a b =>
      cases i with
      | zero => simp at hd; subst hd; exact ⟨_, rfl, a⟩
      | succ i => simp at hd; simpa using ih b hd
theorem RpAll.getv (h : RpAll H vs ds) {i : Nat} (hv : vs[i]? = some v) : ∃ d, ds[i]? = some d ∧ Rp H v d := by
  have hl := h.len
  have hi : i < vs.length := (List.getElem?_eq_some_iff.1 hv).1
  obtain ⟨w, hw, r⟩ := h.get (List.getElem?_eq_getElem (by omega : i < ds.length))
  rw [hv] at hw
  cases hw
  exact ⟨_, List.getElem?_eq_getElem (by omega), r⟩
theorem RpAll.append (h : RpAll H vs ds) (k : RpAll H ws es) : RpAll H (vs ++ ws) (ds ++ es) := by
  induction ds generalizing vs with
  | nil => cases h; exact k
  | cons d ds ih =>
    cases h with
    | cons a b => exact .cons a (ih b)
theorem RpAll.push (h : RpAll H vs ds) (k : Rp H v d) : RpAll H (vs ++ [v]) (ds ++ [d]) := h.append (.cons k .nil)
theorem RpAll.take (h : RpAll H vs ds) (n : Nat) : RpAll H (vs.take n) (ds.take n) := by
  induction ds generalizing vs n with
  | nil => cases h; cases n <;> exact .nil
  | cons d ds ih =>
    cases h with
    | cons a b =>
      cases n with
      | zero => exact .nil
      | succ n => exact .cons a (ih b n)
theorem RpAll.drop (h : RpAll H vs ds) (n : Nat) : RpAll H (vs.drop n) (ds.drop n) := by
  induction ds generalizing vs n with
  | nil => cases h; cases n <;> exact .nil
  | cons d ds ih =>
    cases h with
    | cons a b =>
      cases n with
      | zero => exact .cons a b
      | succ n => exact ih b n
theorem RpAll.ints {ns : List Int} (h : RpAll H vs (ns.map PyData.int)) : vs = ns.map V.int := by
  induction ns generalizing vs with
  | nil => cases h; rfl
  | cons n ns ih =>
    cases h with
    | cons a b => cases a; rw [ih b]; rfl
theorem RpAll.bools {ns : List Bool} (h : RpAll H vs (ns.map PyData.bool)) : vs = ns.map V.bl := by
  induction ns generalizing vs with
  | nil => cases h; rfl
  | cons n ns ih =>
    cases h with
    | cons a b => cases a; rw [ih b]; rfl
theorem rpAll_ints (ns : List Int) : RpAll H (ns.map V.int) (ns.map PyData.int) := by
  induction ns with
  | nil => exact .nil
  | cons n ns ih => exact .cons (.int n) ih
theorem Rp.list (h : Rp H v (.list ds)) : ∃ a xs, v = .ref a ∧ H a = some (.lst xs) ∧ RpAll H xs ds := by
  cases h with
  | lst a b => exact ⟨_, _, rfl, a, b⟩
theorem Rp.tuple (h : Rp H v (.tuple ds)) : ∃ a xs, v = .ref a ∧ H a = some (.tup xs) ∧ RpAll H xs ds := by
  cases h with
  | tup a b => exact ⟨_, _, rfl, a, b⟩
end
theorem atI_get {α : Type} {xs : List α} {i : Int} {x : α} (h : atI xs i = some x) : ∃ j, ixN xs.length i = some j ∧ xs[j]? = some x := by
  unfold atI at h
  cases e : ixN xs.length i with
  | none => rw [e] at h; cases h
  | some j => rw [e] at h; exact ⟨j, rfl, h⟩
theorem RpAll.at {H : Hp} {vs : List V} {ds : List PyData} {d : PyData} {i : Int} (h : RpAll H vs ds) (hd : atI ds i = some d) : ∃ v, atI vs i = some v ∧ Rp H v d := by
  obtain ⟨j, hj, e⟩ := atI_get hd
  obtain ⟨v, hv, r⟩ := h.get e
  refine ⟨v, ?_, r⟩
  unfold atI
  rw [h.len, hj]; exact hv
/-! ### a solid part G of a heap H, and how both go on -/
structure Wn (G H G' H' : Hp) : Prop where
  up : Ex G G'
  dn : Ex G' H'
  old : Ex H H'
  new : ∀ a o, G' a = some o → H a = none ∨ G a = some o
theorem Wn.rfl' {G H : Hp} (e : Ex G H) : Wn G H G H := ⟨Ex.refl _, e, Ex.refl _, fun _ _ h => .inr h⟩
theorem Wn.stay {G H H' : Hp} (e : Ex G H) (h : Ex H H') : Wn G H G H' := ⟨Ex.refl _, e.trans h, h, fun _ _ h => .inr h⟩
theorem ex_none {H H' : Hp} {a : Addr} (e : Ex H H') (h : H' a = none) : H a = none := Evl.fresh_back e h
theorem Wn.trans {G0 H0 G1 H1 G2 H2 : Hp} (a : Wn G0 H0 G1 H1) (b : Wn G1 H1 G2 H2) : Wn G0 H0 G2 H2 := by
  refine ⟨a.up.trans b.up, b.dn, a.old.trans b.old, fun x o h => ?_⟩
  rcases b.new x o h with k | k
  · exact .inl (ex_none a.old k)
  · exact a.new x o k
theorem Wn.exGH {G H G' H' : Hp} (w : Wn G H G' H') : Ex G H' := w.up.trans w.dn
/-- a new thing that is not to be changed -/
theorem Wn.put {G H : Hp} {p : Addr} {o : HO} (e : Ex G H) (hp : H p = none) : Wn G H (upd G p o) (upd H p o) := by
  refine ⟨Ex.new (ex_none e hp), fun a u h => ?_, Ex.new hp, fun a u h => ?_⟩
  · by_cases k : a = p
    · subst k; rw [upd_same] at h ⊢; exact h
    · rw [upd_ne k] at h ⊢; exact e a u h
  · by_cases k : a = p
    · subst k; exact .inl hp
    · rw [upd_ne k] at h; exact .inr h
/-- a new thing that will be changed -/
theorem Wn.open {G H : Hp} {p : Addr} {o : HO} (e : Ex G H) (hp : H p = none) : Wn G H G (upd H p o) := Wn.stay e (Ex.new hp)
/-- a thing of one's own changed -/
theorem Wn.mut {G0 H0 G H : Hp} {p : Addr} {o : HO} (w : Wn G0 H0 G H) (h0 : H0 p = none) (hg : G p = none) : Wn G0 H0 G (upd H p o) :=
  ⟨w.up, Ex.mut w.dn hg, Ex.mut w.old h0, w.new⟩
/-- it comes to rest -/
theorem Wn.rest {G0 H0 G H : Hp} {p : Addr} {o : HO} (w : Wn G0 H0 G H) (h0 : H0 p = none) (hg : G p = none) (hp : H p = some o) : Wn G0 H0 (upd G p o) H := by
  refine ⟨w.up.trans (Ex.new hg), fun a u h => ?_, w.old, fun a u h => ?_⟩
  · by_cases k : a = p
    · subst k; rw [upd_same] at h; rw [hp]; exact h
    · rw [upd_ne k] at h; exact w.dn a u h
  · by_cases k : a = p
    · subst k; exact .inl h0
    · rw [upd_ne k] at h; exact w.new a u h
/-- the same over a greater solid part -/
theorem Wn.wide {G H G1 H1 G' : Hp} (w : Wn G H G1 H1) (e : Ex G G') (e' : Ex G' H) : ∃ G2, Wn G' H G2 H1 ∧ Ex G1 G2 := by
  refine ⟨fun a => match H a with | none => G1 a | some _ => G' a, ⟨fun a o h => ?_, fun a o h => ?_, w.old, fun a o h => ?_⟩, fun a o h => ?_⟩
  · simp only [e' a o h]; exact h
  · cases k : H a with
    | none => simp only [k] at h; exact w.dn a o h
    | some u => simp only [k] at h; exact w.old a o (e' a o h)
  · cases k : H a with
    | none => exact .inl rfl
    | some u => simp only [k] at h; exact .inr h
  · cases k : H a with
    | none => simp only [k]; exact h
    | some u =>
      rcases w.new a o h with z | z
      · rw [z] at k; cases k
      · simp only [k]; exact e a o z
/-! ### what evaluates to what data -/
def EvD (te : TE) (σ : L2.St) (G : Hp) (d : PyData) : Prop := ∀ H, Ex G H → ∀ Q : VK, (∀ v G' H', Wn G H G' H' → Rp G' v d → Q v H') → te σ H Q
def EvB (tt : TT) (σ : L2.St) (G : Hp) (b : Bool) : Prop := ∀ H, Ex G H → ∀ Q : Bool → Hp → Prop, (∀ H', Ex H H' → Q b H') → tt σ H Q
def EvA (ta : TA) (σ : L2.St) (G : Hp) (ds : List PyData) : Prop := ∀ H, Ex G H → ∀ Q : List V → Hp → Prop, (∀ vs G' H', Wn G H G' H' → RpAll G' vs ds → Q vs H') → ta σ H Q
def EvO (to : TO) (σ : L2.St) (G : Hp) (o : Option Int) : Prop := ∀ H, Ex G H → ∀ Q : Option Int → Hp → Prop, (∀ H', Ex H H' → Q o H') → to σ H Q
section
variable {K : PySem.W.Frag} {σ : L2.St} {G G' H : Hp} {ta tb te : TE} {t u : TT} {d e : PyData} {r : R2}
theorem EvD.mono (h : EvD te σ G d) (k : Ex G G') : EvD te σ G' d := fun H e Q q => h H (k.trans e) Q fun v G1 H1 w r => by
  obtain ⟨G2, w2, e2⟩ := w.wide k e
  exact q v G2 H1 w2 (r.ex e2)
theorem EvB.mono {b : Bool} (h : EvB t σ G b) (k : Ex G G') : EvB t σ G' b := fun H e Q q => h H (k.trans e) Q q
theorem EvA.mono {ta : TA} {ds : List PyData} (h : EvA ta σ G ds) (k : Ex G G') : EvA ta σ G' ds := fun H e Q q => h H (k.trans e) Q fun v G1 H1 w r => by
  obtain ⟨G2, w2, e2⟩ := w.wide k e
  exact q v G2 H1 w2 (r.ex e2)
theorem ev_v {i : Nat} {v : V} (h : σ[i]? = some (some v)) (r : Rp G v d) : EvD (tVar i) σ G d := fun H e Q q => ⟨v, h, q v G H (Wn.rfl' e) r⟩
theorem ev_i {i : Int} : EvD (tC (.int i)) σ G (.int i) := fun H e Q q => q _ G H (Wn.rfl' e) (.int i)
theorem ev_b {b : Bool} : EvD (tC (.bl b)) σ G (.bool b) := fun H e Q q => q _ G H (Wn.rfl' e) (.bl b)
/-- an operation on two pieces of data whose answer needs nothing new -/
theorem ev_op (ha : EvD ta σ G d) (hb : EvD tb σ G e) {z : PyData} (hr : ∀ (x y : V) (G1 H1 : Hp) (Q : VK), Ex G1 H1 → Rp G1 x d → Rp G1 y e → (∀ v G2 H2, Wn G1 H1 G2 H2 → Rp G2 v z → Q v H2) → r x y H1 Q) : EvD (tOp r ta tb) σ G z := fun H e Q q =>
  ha H e _ fun x G1 H1 w1 r1 => (hb.mono w1.up) H1 w1.dn _ fun y G2 H2 w2 r2 => hr x y G2 H2 Q w2.dn (r1.ex w2.up) r2 fun v G3 H3 w3 r3 => q v G3 H3 ((w1.trans w2).trans w3) r3
theorem ev_I {C : Int → Int → Prop} {g : Int → Int → Int} {i j : Int} (ha : EvD ta σ G (.int i)) (hb : EvD tb σ G (.int j)) (hc : C i j) : EvD (tOp (rI C fun i j => .int (g i j)) ta tb) σ G (.int (g i j)) := ev_op ha hb fun x y G1 H1 Q e1 r1 r2 q => by
  cases r1; cases r2
  exact ⟨i, j, rfl, rfl, hc, q _ G1 H1 (Wn.rfl' e1) (.int _)⟩
theorem ev_I0 {g : Int → Int → Int} {i j : Int} (ha : EvD ta σ G (.int i)) (hb : EvD tb σ G (.int j)) : EvD (tOp (rI0 fun i j => .int (g i j)) ta tb) σ G (.int (g i j)) := ev_op ha hb fun x y G1 H1 Q e1 r1 r2 q => by
  cases r1; cases r2
  exact ⟨i, j, rfl, rfl, q _ G1 H1 (Wn.rfl' e1) (.int _)⟩
theorem ev_C0 {g : Int → Int → Bool} {i j : Int} (ha : EvD ta σ G (.int i)) (hb : EvD tb σ G (.int j)) : EvD (tOp (rI0 fun i j => .bl (g i j)) ta tb) σ G (.bool (g i j)) := ev_op ha hb fun x y G1 H1 Q e1 r1 r2 q => by
  cases r1; cases r2
  exact ⟨i, j, rfl, rfl, q _ G1 H1 (Wn.rfl' e1) (.bl _)⟩
theorem ev_eq {i j : Int} (ha : EvD ta σ G (.int i)) (hb : EvD tb σ G (.int j)) : EvD (tOp rEq ta tb) σ G (.bool (decide (i = j))) := ev_op ha hb fun x y G1 H1 Q e1 r1 r2 q => by
  cases r1; cases r2
  refine ⟨rfl, q _ G1 H1 (Wn.rfl' e1) ?_⟩
  have : decide (V.int i = V.int j) = decide (i = j) := by simp
  rw [this]; exact .bl _
theorem ev_ne {i j : Int} (ha : EvD ta σ G (.int i)) (hb : EvD tb σ G (.int j)) : EvD (tOp rNe ta tb) σ G (.bool (!decide (i = j))) := ev_op ha hb fun x y G1 H1 Q e1 r1 r2 q => by
  cases r1; cases r2
  refine ⟨rfl, q _ G1 H1 (Wn.rfl' e1) ?_⟩
  have : decide (V.int i = V.int j) = decide (i = j) := by simp
  rw [this]; exact .bl _
theorem ev_neB {a b : Bool} (ha : EvD ta σ G (.bool a)) (hb : EvD tb σ G (.bool b)) : EvD (tOp rNe ta tb) σ G (.bool (a != b)) := ev_op ha hb fun x y G1 H1 Q e1 r1 r2 q => by
  cases r1; cases r2
  refine ⟨rfl, q _ G1 H1 (Wn.rfl' e1) ?_⟩
  have : (!decide (V.bl a = V.bl b)) = (a != b) := by cases a <;> cases b <;> simp
  rw [this]; exact .bl _
theorem ev_eqD (ha : EvD ta σ G d) (hb : EvD tb σ G e) (sd : SeqAt.shaped d = true) (se : SeqAt.shaped e = true) : EvD (tOp (rEqD K) ta tb) σ G (.bool (PyData.eqv d e)) := ev_op ha hb fun x y G1 H1 Q e1 r1 r2 q =>
  ⟨d, e, (r1.ex e1).dp, (r2.ex e1).dp, sd, se, q _ G1 H1 (Wn.rfl' e1) (.bl _)⟩
theorem ev_neD (ha : EvD ta σ G d) (hb : EvD tb σ G e) (sd : SeqAt.shaped d = true) (se : SeqAt.shaped e = true) : EvD (tOp (rNeD K) ta tb) σ G (.bool (!PyData.eqv d e)) := ev_op ha hb fun x y G1 H1 Q e1 r1 r2 q =>
  ⟨d, e, (r1.ex e1).dp, (r2.ex e1).dp, sd, se, q _ G1 H1 (Wn.rfl' e1) (.bl _)⟩
theorem ev_ixT {ds : List PyData} {i : Int} (ha : EvD ta σ G (.tuple ds)) (hb : EvD tb σ G (.int i)) (h : atI ds i = some d) : EvD (tOp (rIx K) ta tb) σ G d := ev_op ha hb fun x y G1 H1 Q e1 r1 r2 q => by
  cases r2
  obtain ⟨a, xs, rfl, ha, hx⟩ := r1.tuple
  obtain ⟨v, hv, rv⟩ := hx.at h
  exact .inr (.inl ⟨a, xs, i, v, rfl, rfl, st_of (e1 _ _ ha), hv, q v G1 H1 (Wn.rfl' e1) rv⟩)
theorem ev_ixL {ds : List PyData} {i : Int} (ha : EvD ta σ G (.list ds)) (hb : EvD tb σ G (.int i)) (h : atI ds i = some d) : EvD (tOp (rIx K) ta tb) σ G d := ev_op ha hb fun x y G1 H1 Q e1 r1 r2 q => by
  cases r2
  obtain ⟨a, xs, rfl, ha, hx⟩ := r1.list
  obtain ⟨v, hv, rv⟩ := hx.at h
  exact .inl ⟨a, xs, i, v, rfl, rfl, sq_of (e1 _ _ ha), hv, q v G1 H1 (Wn.rfl' e1) rv⟩
theorem ev_cat {ds es : List PyData} (ha : EvD ta σ G (.list ds)) (hb : EvD tb σ G (.list es)) (hl : ds.length + es.length ≤ sizeLine) : EvD (tOp rCat ta tb) σ G (.list (ds ++ es)) := ev_op ha hb fun x y G1 H1 Q e1 r1 r2 q => by
  obtain ⟨a, xs, rfl, ha, hx⟩ := r1.list
  obtain ⟨b, ys, rfl, hb, hy⟩ := r2.list
  refine ⟨a, b, xs, ys, rfl, rfl, e1 _ _ ha, e1 _ _ hb, by rw [hx.len, hy.len]; exact hl, fun p hp => ?_⟩
  have w := Wn.put (o := .lst (xs ++ ys)) e1 hp
  exact q _ _ _ w (.lst upd_same ((hx.append hy).ex w.up))
theorem ev_un {r : V → Hp → VK → Prop} {z : PyData} (ha : EvD ta σ G d) (hr : ∀ (x : V) (G1 H1 : Hp) (Q : VK), Ex G1 H1 → Rp G1 x d → (∀ v G2 H2, Wn G1 H1 G2 H2 → Rp G2 v z → Q v H2) → r x H1 Q) : EvD (tUn r ta) σ G z := fun H e Q q =>
  ha H e _ fun x G1 H1 w1 r1 => hr x G1 H1 Q w1.dn r1 fun v G3 H3 w3 r3 => q v G3 H3 (w1.trans w3) r3
theorem ev_neg {i : Int} (ha : EvD ta σ G (.int i)) : EvD (tUn (rU fun i => .int (-i)) ta) σ G (.int (-i)) := ev_un ha fun x G1 H1 Q e1 r1 q => by
  cases r1
  exact ⟨i, rfl, q _ G1 H1 (Wn.rfl' e1) (.int _)⟩
/-! tests -/
theorem eb_test {b : Bool} (h : EvD te σ G (.bool b)) : EvB (tTest te) σ G b := fun H e Q q => h H e _ fun v G1 H1 w r => by
  cases r
  exact ⟨b, rfl, q H1 w.old⟩
theorem eb_B {b : Bool} (h : EvD te σ G (.bool b)) : EvB (tB te) σ G b := fun H e Q q => h H e _ fun v G1 H1 w r => by
  cases r
  exact ⟨b, rfl, q H1 w.old⟩
theorem eb_and {a b : Bool} (h1 : EvB t σ G a) (h2 : a = true → EvB u σ G b) : EvB (tAnd t u) σ G (a && b) := fun H e Q q => h1 H e _ fun H2 e2 => by
  cases a with
  | true => show u σ H2 Q; exact h2 rfl H2 (e.trans e2) Q fun H3 e3 => q H3 (e2.trans e3)
  | false => show Q false H2; exact q H2 e2
theorem eb_or {a b : Bool} (h1 : EvB t σ G a) (h2 : a = false → EvB u σ G b) : EvB (tOr t u) σ G (a || b) := fun H e Q q => h1 H e _ fun H2 e2 => by
  cases a with
  | true => show Q true H2; exact q H2 e2
  | false => show u σ H2 Q; exact h2 rfl H2 (e.trans e2) Q fun H3 e3 => q H3 (e2.trans e3)
theorem eb_not {a : Bool} (h1 : EvB t σ G a) : EvB (tNot t) σ G (!a) := fun H e Q q => h1 H e _ fun H2 e2 => q H2 e2
theorem ev_and {a b : Bool} (h1 : EvD ta σ G (.bool a)) (h2 : a = true → EvD tb σ G (.bool b)) : EvD (tAndV ta tb) σ G (.bool (a && b)) := fun H e Q q => h1 H e _ fun v G1 H1 w r => by
  cases r
  refine ⟨a, rfl, ?_⟩
  cases a with
  | true => show tb σ H1 Q; exact ((h2 rfl).mono w.up) H1 w.dn Q fun v G2 H2 w2 r2 => q v G2 H2 (w.trans w2) r2
  | false => show Q (.bl false) H1; exact q _ G1 H1 w (.bl _)
theorem ev_or {a b : Bool} (h1 : EvD ta σ G (.bool a)) (h2 : a = false → EvD tb σ G (.bool b)) : EvD (tOrV ta tb) σ G (.bool (a || b)) := fun H e Q q => h1 H e _ fun v G1 H1 w r => by
  cases r
  refine ⟨a, rfl, ?_⟩
  cases a with
  | true => show Q (.bl true) H1; exact q _ G1 H1 w (.bl _)
  | false => show tb σ H1 Q; exact ((h2 rfl).mono w.up) H1 w.dn Q fun v G2 H2 w2 r2 => q v G2 H2 (w.trans w2) r2
theorem ev_not {a : Bool} (h1 : EvD ta σ G (.bool a)) : EvD (tNotV ta) σ G (.bool (!a)) := fun H e Q q => h1 H e _ fun v G1 H1 w r => by
  cases r
  exact ⟨a, rfl, q _ G1 H1 w (.bl _)⟩
/-! arguments, displays -/
theorem ea_nil : EvA tNil σ G [] := fun H e Q q => q [] G H (Wn.rfl' e) .nil
theorem ea_cons {tr : TA} {ds : List PyData} (h : EvD ta σ G d) (hr : EvA tr σ G ds) : EvA (tCons ta tr) σ G (d :: ds) := fun H e Q q =>
  h H e _ fun v G1 H1 w1 r1 => (hr.mono w1.up) H1 w1.dn _ fun vs G2 H2 w2 r2 => q _ G2 H2 (w1.trans w2) (.cons (r1.ex w2.up) r2)
theorem ev_tup {ta : TA} {ds : List PyData} (h : EvA ta σ G ds) (hl : ds.length ≤ 100000 := by decide) : EvD (tTup ta) σ G (.tuple ds) := fun H e Q q => h H e _ fun vs G1 H1 w1 r1 =>
  ⟨by rw [r1.len]; exact Evl.sz_of hl, fun p hp => by
    have w := Wn.put (o := .tup vs) w1.dn hp
    exact q _ _ _ (w1.trans w) (.tup upd_same (r1.ex w.up))⟩
theorem ev_lst {ta : TA} {ds : List PyData} (h : EvA ta σ G ds) (hl : ds.length ≤ 100000 := by decide) : EvD (tLst ta) σ G (.list ds) := fun H e Q q => h H e _ fun vs G1 H1 w1 r1 =>
  ⟨by rw [r1.len]; exact Evl.sz_of hl, fun p hp => by
    have w := Wn.put (o := .lst vs) w1.dn hp
    exact q _ _ _ (w1.trans w) (.lst upd_same (r1.ex w.up))⟩
/-! slices -/
theorem eo_none : EvO tNoPart σ G none := fun H e Q q => q H (Ex.refl _)
theorem eo_some {i : Int} (h : EvD te σ G (.int i)) : EvO (tPart te) σ G (some i) := fun H e Q q => h H e _ fun v G1 H1 w r => by
  cases r
  exact ⟨i, rfl, q H1 w.old⟩
def cutD (ds : List PyData) (lo hi : Option Int) : List PyData := (ds.drop (HT.sIx ds.length 0 lo)).take (HT.sIx ds.length ds.length hi - HT.sIx ds.length 0 lo)
theorem ev_sl {ds : List PyData} {lo hi : Option Int} {tl th : TO} (ha : EvD ta σ G (.list ds)) (hl : EvO tl σ G lo) (hh : EvO th σ G hi) : EvD (tSl (rSlL K) ta tl th) σ G (.list (cutD ds lo hi)) := fun H e Q q =>
  ha H e _ fun v G1 H1 w1 r1 => hl H1 (w1.up.trans w1.dn) _ fun H2 e2 => hh H2 ((w1.up.trans w1.dn).trans e2) _ fun H3 e3 => by
    obtain ⟨a, xs, rfl, ha, hx⟩ := r1.list
    have w3 : Wn G H G1 H3 := w1.trans (Wn.stay w1.dn (e2.trans e3))
    refine ⟨a, xs, rfl, sq_of (w3.dn _ _ ha), fun p hp => ?_⟩
    have w := Wn.put (o := .lst (cutV xs lo hi)) w3.dn hp
    refine q _ _ _ (w3.trans w) (.lst upd_same (RpAll.ex w.up ?_))
    unfold cutV cutD
    rw [hx.len]
    exact (hx.drop _).take _
end
end Wk
end
section
set_option Elab.async false
set_option linter.all false
set_option maxRecDepth 100000
namespace Wk
open PySem PySem.Spec PyProof.Rows L2
open Evl (Ex ex_l ex_t sq_of st_of)
/-! ### promises of defs that change nothing -/
/-- handed data ds of which R ds d, it answers d -/
def spP (R : List PyData → PyData → Prop) : Sp := fun vs H Q _ => ∃ G ds d, Ex G H ∧ RpAll G vs ds ∧ R ds d ∧ ∀ v G' H', Wn G H G' H' → Rp G' v d → Q v H'
/-- a def of the top that keeps its promise -/
def Ok (P : Program) (w : World) (K : PySem.W.Frag) (mg : Str → Option Value) (base : Heap) (k : Nat) (x : Str) (ps : List Str) (sp : Sp) : Prop :=
  ∃ f fd, FnOk P w K mg base CX0 k f fd ps sp ∧ Binds K fd ps [] ∧ mg x = some (.ref f) ∧ PySem.W.keepIn K (.ref f) = true
/-- a def of the top -/
def Df (K : PySem.W.Frag) (mg : Str → Option Value) (x : Str) (st : Stmt) (ps : List Str) : Prop :=
  ∃ f fd, Fun K x x st f fd ∧ Binds K fd ps [] ∧ mg x = some (.ref f)
theorem Ok.up {P : Program} {w : World} {K : PySem.W.Frag} {mg : Str → Option Value} {base : Heap} {j k : Nat} {x : Str} {ps : List Str} {sp : Sp} (h : Ok P w K mg base j x ps sp) (e : j ≤ k) : Ok P w K mg base k x ps sp := by
  obtain ⟨f, fd, a, b, c, d⟩ := h
  exact ⟨f, fd, a.mono e, b, c, d⟩
theorem pe_own {X : Cx} {k : Nat} {x : Str} {p pos : Pos} {ps : List Str} {sp : Sp} {e : Expr} {es : List Expr} {t : TA} (h : Ok X.prog X.w X.K X.mg X.base k x ps sp) (hr : Room k X.A) (hg : Gl X x) (ha : PA X (e :: es) t) (hdb : (x == ("__debug__" : Str)) = false := by decide)
    (he : starEach (e :: es) X.env = (false, eval e X.env) :: starEach es X.env := by rfl) (hpl : (backTo pos (starEach es X.env)).any (·.1) = false := by rfl) : PE X (.Call (.Name x p) (e :: es) [] pos) (tCall sp [] E0 t) := by
  obtain ⟨f, fd, F, b, m, kp⟩ := h
  exact pe_call F hr hg m kp b .nil pass0 ha hdb he hpl
/-- the rule for a def -/
theorem Df.ok {P : Program} {w : World} {K : PySem.W.Frag} {mg : Str → Option Value} {base : Heap} {x : Str} {st : Stmt} {ps N : List Str} {k : Nat} {sp : Sp} (D : Df K mg x st ps) (S : FnScope N ps (defScope st)) (len : ∀ vs H Q E, sp vs H Q E → vs.length = ps.length)
    (hbody : ∀ (f : Addr) (cdv : Value) (A : Around) (outer : List Env) (s : Shared) (H : Hp) (vs : List V) (Q : VK) (E : XK), Room k (A.deeper (envOfC x (defScope st) s.heap.objs.size f cdv)) → sp vs H Q E →
      ∃ t, PSs (cxOf CX0 P w K mg base N x (defScope st) f cdv A outer s H E).nox (defBody st) t ∧ t { nx := fun _ H' => Q .non H', rt := Q } (start N vs) H) : Ok P w K mg base (k + 1) x ps sp := by
  obtain ⟨f, fd, F, b, m⟩ := D
  exact ⟨f, fd, F.ok S len (fun cdv A outer s H vs Q E hr h => hbody f cdv A outer s H vs Q E hr h), b, m, F.kp⟩
section
variable {K : PySem.W.Frag} {σ : L2.St} {G G' G0 H H0 : Hp} {ta tb te tl : TE} {t : TT} {d e : PyData} {D : Ends} {tu tw tz : TS}
theorem ev_call {R : List PyData → PyData → Prop} {ta : TA} {ds : List PyData} (h : EvA ta σ G ds) (r : R ds d) : EvD (tCall (spP R) [] E0 ta) σ G d := fun H e Q q => h H e _ fun vs G1 H1 w1 r1 => by
  refine ⟨G1, ds, d, w1.dn, ?_, r, fun v G2 H2 w2 r2 => q v G2 H2 (w1.trans w2) r2⟩
  rw [List.append_nil]; exact r1
/-! ### statements -/
theorem q_asg {i : Nat} (w : Wn G0 H0 G H) (h : EvD te σ G d) (k : ∀ v G' H', Wn G0 H0 G' H' → Ex G G' → Ex H H' → Rp G' v d → tz D (σ.set i (some v)) H') : tSeq (tAsg te (gName i)) tz D σ H :=
  h H w.dn _ fun v G1 H1 w1 r1 => k v G1 H1 (w.trans w1) w1.up w1.old r1
theorem s_asg {i : Nat} (w : Wn G0 H0 G H) (h : EvD te σ G d) (k : ∀ v G' H', Wn G0 H0 G' H' → Ex G G' → Ex H H' → Rp G' v d → D.nx (σ.set i (some v)) H') : tAsg te (gName i) D σ H :=
  h H w.dn _ fun v G1 H1 w1 r1 => k v G1 H1 (w.trans w1) w1.up w1.old r1
/-- a number or a truth value -/
theorem q_asgI {i : Nat} {n : Int} (w : Wn G0 H0 G H) (h : EvD te σ G (.int n)) (k : ∀ H', Wn G0 H0 G H' → Ex H H' → tz D (σ.set i (some (.int n))) H') : tSeq (tAsg te (gName i)) tz D σ H :=
  h H w.dn _ fun v G1 H1 w1 r1 => by cases r1; exact k H1 (w.trans (Wn.stay w.dn w1.old)) w1.old
theorem s_asgI {i : Nat} {n : Int} (w : Wn G0 H0 G H) (h : EvD te σ G (.int n)) (k : ∀ H', Wn G0 H0 G H' → Ex H H' → D.nx (σ.set i (some (.int n))) H') : tAsg te (gName i) D σ H :=
  h H w.dn _ fun v G1 H1 w1 r1 => by cases r1; exact k H1 (w.trans (Wn.stay w.dn w1.old)) w1.old
theorem q_asgB {i : Nat} {n : Bool} (w : Wn G0 H0 G H) (h : EvD te σ G (.bool n)) (k : ∀ H', Wn G0 H0 G H' → Ex H H' → tz D (σ.set i (some (.bl n))) H') : tSeq (tAsg te (gName i)) tz D σ H :=
  h H w.dn _ fun v G1 H1 w1 r1 => by cases r1; exact k H1 (w.trans (Wn.stay w.dn w1.old)) w1.old
theorem s_ret (w : Wn G0 H0 G H) (h : EvD te σ G d) (k : ∀ v G' H', Wn G0 H0 G' H' → Rp G' v d → D.rt v H') : tRet te D σ H :=
  h H w.dn _ fun v G1 H1 w1 r1 => k v G1 H1 (w.trans w1) r1
theorem q_if {b : Bool} (w : Wn G0 H0 G H) (h : EvB t σ G b) (h1 : b = true → ∀ H1, Wn G0 H0 G H1 → Ex H H1 → tu { D with nx := tz D } σ H1) (h2 : b = false → ∀ H1, Wn G0 H0 G H1 → Ex H H1 → tw { D with nx := tz D } σ H1) : tSeq (tIfS t tu tw) tz D σ H :=
  h H w.dn _ fun H1 e1 => by
    cases b with
    | true => exact h1 rfl H1 (w.trans (Wn.stay w.dn e1)) e1
    | false => exact h2 rfl H1 (w.trans (Wn.stay w.dn e1)) e1
theorem s_if {b : Bool} (w : Wn G0 H0 G H) (h : EvB t σ G b) (h1 : b = true → ∀ H1, Wn G0 H0 G H1 → Ex H H1 → tu D σ H1) (h2 : b = false → ∀ H1, Wn G0 H0 G H1 → Ex H H1 → tw D σ H1) : tIfS t tu tw D σ H :=
  h H w.dn _ fun H1 e1 => by
    cases b with
    | true => exact h1 rfl H1 (w.trans (Wn.stay w.dn e1)) e1
    | false => exact h2 rfl H1 (w.trans (Wn.stay w.dn e1)) e1
/-- an if without else -/
theorem q_when {b : Bool} (w : Wn G0 H0 G H) (h : EvB t σ G b) (h1 : b = true → ∀ H1, Wn G0 H0 G H1 → Ex H H1 → tu { D with nx := tz D } σ H1) (h2 : b = false → ∀ H1, Wn G0 H0 G H1 → Ex H H1 → tz D σ H1) : tSeq (tIfS t tu tNext) tz D σ H := q_if w h h1 h2
theorem s_when {b : Bool} (w : Wn G0 H0 G H) (h : EvB t σ G b) (h1 : b = true → ∀ H1, Wn G0 H0 G H1 → Ex H H1 → tu D σ H1) (h2 : b = false → ∀ H1, Wn G0 H0 G H1 → Ex H H1 → D.nx σ H1) : tIfS t tu tNext D σ H := s_if w h h1 h2
theorem s_augI {i : Nat} {f : Int → Int → Int} {a b : Int} (w : Wn G0 H0 G H) (hx : σ[i]? = some (some (.int a))) (h : EvD te σ G (.int b)) (k : ∀ H1, Wn G0 H0 G H1 → Ex H H1 → D.nx (σ.set i (some (.int (f a b)))) H1) : tAug i te (ipI f) D σ H :=
  ⟨.int a, hx, h H w.dn _ fun v G1 H1 w1 r1 => by cases r1; exact ⟨a, b, rfl, rfl, k H1 (w.trans (Wn.stay w.dn w1.old)) w1.old⟩⟩
theorem q_augI {i : Nat} {f : Int → Int → Int} {a b : Int} (w : Wn G0 H0 G H) (hx : σ[i]? = some (some (.int a))) (h : EvD te σ G (.int b)) (k : ∀ H1, Wn G0 H0 G H1 → Ex H H1 → tz D (σ.set i (some (.int (f a b)))) H1) : tSeq (tAug i te (ipI f)) tz D σ H :=
  s_augI (D := { D with nx := tz D }) w hx h k
/-- a new list or dict that will be changed: x = [] -/
theorem q_open {i : Nat} (w : Wn G0 H0 G H) (k : ∀ p, H p = none → H0 p = none → G p = none → Wn G0 H0 G (upd H p (.lst [])) → tz D (σ.set i (some (.ref p))) (upd H p (.lst []))) : tSeq (tAsg (tLst tNil) (gName i)) tz D σ H :=
  ⟨Nat.zero_le _, fun p hp => k p hp (ex_none w.old hp) (ex_none w.dn hp) (w.trans (Wn.open w.dn hp))⟩
/-- xs.append(e), xs of one's own at p -/
theorem s_push {p : Addr} {xs : List V} {i : Nat} (w : Wn G0 H0 G H) (hi : σ[i]? = some (some (.ref p))) (h0 : H0 p = none) (hp : H p = some (.lst xs)) (hg : G p = none) (h : EvD te σ G d) (hz : xs.length < sizeLine)
    (k : ∀ v G' H', Wn G0 H0 G' (upd H' p (.lst (xs ++ [v]))) → Ex G G' → G' p = none → Ex H H' → Rp G' v d → D.nx σ (upd H' p (.lst (xs ++ [v])))) : tDrop (tBM K "list" rAppend (tVar i) (tCons te tNil)) D σ H := by
  refine ⟨.ref p, hi, .inl ⟨rfl, _, sq_of hp⟩, h H w.dn _ fun v G1 H1 w1 r1 => ⟨p, xs, v, rfl, rfl, w1.old _ _ hp, hz, ?_⟩⟩
  have g1 : G1 p = none := by
    cases q : G1 p with
    | none => rfl
    | some o =>
      rcases w1.new p o q with z | z
      · rw [hp] at z; cases z
      · rw [hg] at z; cases z
  exact k v G1 H1 ((w.trans w1).mut h0 g1) w1.up g1 w1.old r1
theorem q_push {p : Addr} {xs : List V} {i : Nat} (w : Wn G0 H0 G H) (hi : σ[i]? = some (some (.ref p))) (h0 : H0 p = none) (hp : H p = some (.lst xs)) (hg : G p = none) (h : EvD te σ G d) (hz : xs.length < sizeLine)
    (k : ∀ v G' H', Wn G0 H0 G' (upd H' p (.lst (xs ++ [v]))) → Ex G G' → G' p = none → Ex H H' → Rp G' v d → tz D σ (upd H' p (.lst (xs ++ [v])))) : tSeq (tDrop (tBM K "list" rAppend (tVar i) (tCons te tNil))) tz D σ H :=
  s_push (D := { D with nx := tz D }) w hi h0 hp hg h hz k
/-- return of one's own list, which comes to rest -/
theorem s_retOwn {p : Addr} {xs : List V} {ds : List PyData} {i : Nat} (w : Wn G0 H0 G H) (hi : σ[i]? = some (some (.ref p))) (h0 : H0 p = none) (hp : H p = some (.lst xs)) (hg : G p = none) (r : RpAll G xs ds) (k : ∀ v G' H', Wn G0 H0 G' H' → Rp G' v (.list ds) → D.rt v H') : tRet (tVar i) D σ H :=
  ⟨.ref p, hi, k _ _ _ (w.rest h0 hg hp) (.lst upd_same (r.ex (Ex.new hg)))⟩
/-! ### loops -/
theorem s_forL {j : Nat} {ds : List PyData} (w : Wn G0 H0 G H) (h : EvD tl σ G (.list ds)) (Pv : Nat → L2.St → Hp → Hp → Prop) (h0 : ∀ G' H', Wn G0 H0 G' H' → Ex G G' → Ex H H' → Pv 0 σ G' H') (hw : ∀ i σ' G' H', Pv i σ' G' H' → Ex G' H')
    (hs : ∀ i x dx G1 σ' G' H', Ex G G1 → Ex G1 G' → ds[i]? = some dx → Pv i σ' G' H' → Rp G' x dx → tu { D with nx := fun σ2 H2 => ∃ G2, Ex G1 G2 ∧ Pv (i + 1) σ2 G2 H2, ct := fun σ2 H2 => ∃ G2, Ex G1 G2 ∧ Pv (i + 1) σ2 G2 H2, bk := D.nx } (σ'.set j (some x)) H')
    (hd : ∀ σ' G' H', Ex G G' → Pv ds.length σ' G' H' → D.nx σ' H') : tFor (iList K tl) (gName j) tu D σ H := by
  refine h H w.dn _ fun v G1 H1 w1 r1 => ?_
  obtain ⟨a, xs, rfl, ha, hx⟩ := r1.list
  refine ⟨a, rfl, ⟨xs, sq_of (w1.dn _ _ ha)⟩, for_list (K := K) (a := a) (xs := xs) (fun i σ' H' => ∃ G', Ex G1 G' ∧ Pv i σ' G' H') ⟨G1, Ex.refl _, h0 G1 H1 (w.trans w1) w1.up w1.old⟩ ?_ ?_ ?_⟩
  · rintro i σ' H' _ ⟨G', e1, p⟩
    exact sq_of (hw i σ' G' H' p _ _ (e1 _ _ ha))
  · rintro i x σ' H' hi ⟨G', e1, p⟩
    obtain ⟨dx, hdx, rx⟩ := hx.getv hi
    exact hs i x dx G1 σ' G' H' w1.up e1 hdx p (rx.ex e1)
  · rintro σ' H' ⟨G', e1, p⟩
    rw [hx.len] at p
    exact hd σ' G' H' (w1.up.trans e1) p
theorem q_forL {j : Nat} {ds : List PyData} (w : Wn G0 H0 G H) (h : EvD tl σ G (.list ds)) (Pv : Nat → L2.St → Hp → Hp → Prop) (h0 : ∀ G' H', Wn G0 H0 G' H' → Ex G G' → Ex H H' → Pv 0 σ G' H') (hw : ∀ i σ' G' H', Pv i σ' G' H' → Ex G' H')
    (hs : ∀ i x dx G1 σ' G' H', Ex G G1 → Ex G1 G' → ds[i]? = some dx → Pv i σ' G' H' → Rp G' x dx → tu { D with nx := fun σ2 H2 => ∃ G2, Ex G1 G2 ∧ Pv (i + 1) σ2 G2 H2, ct := fun σ2 H2 => ∃ G2, Ex G1 G2 ∧ Pv (i + 1) σ2 G2 H2, bk := tz D } (σ'.set j (some x)) H')
    (hd : ∀ σ' G' H', Ex G G' → Pv ds.length σ' G' H' → tz D σ' H') : tSeq (tFor (iList K tl) (gName j) tu) tz D σ H :=
  s_forL (D := { D with nx := tz D }) w h Pv h0 hw hs hd
theorem s_forR {ta : TA} {j : Nat} {n : Nat} (w : Wn G0 H0 G H) (h : EvA ta σ G [.int n]) (hn : n ≤ 1000000) (Pv : Nat → L2.St → Hp → Prop) (h0 : ∀ H', Wn G0 H0 G H' → Ex H H' → Pv 0 σ H')
    (hs : ∀ i σ' H', i < n → Pv i σ' H' → tu { D with nx := Pv (i + 1), ct := Pv (i + 1), bk := D.nx } (σ'.set j (some (.int (i : Int)))) H') (hd : ∀ σ' H', Pv n σ' H' → D.nx σ' H') : tFor (iRng1 ta) (gName j) tu D σ H := by
  refine h H w.dn _ fun vs G1 H1 w1 r1 => ?_
  obtain rfl : vs = [.int (n : Int)] := by
    cases r1 with
    | cons a b => cases a; cases b; rfl
  refine ⟨(n : Int), rfl, by omega, by omega, ?_⟩
  have := for_range (lo := 0) (n := n) (g := gName j) (tb := tu) (D := D) (σ := σ) (H := H1) Pv (h0 H1 (w.trans (Wn.stay w.dn w1.old)) w1.old) (fun i σ' H' hi p => by
    have e0 : (0 : Int) + (i : Int) = (i : Int) := Int.zero_add _
    show tu _ (σ'.set j (some (.int ((0 : Int) + (i : Int))))) H'
    rw [e0]; exact hs i σ' H' hi p) hd
  rw [Int.toNat_natCast]
  exact this
theorem q_forR {ta : TA} {j : Nat} {n : Nat} (w : Wn G0 H0 G H) (h : EvA ta σ G [.int n]) (hn : n ≤ 1000000) (Pv : Nat → L2.St → Hp → Prop) (h0 : ∀ H', Wn G0 H0 G H' → Ex H H' → Pv 0 σ H')
    (hs : ∀ i σ' H', i < n → Pv i σ' H' → tu { D with nx := Pv (i + 1), ct := Pv (i + 1), bk := tz D } (σ'.set j (some (.int (i : Int)))) H') (hd : ∀ σ' H', Pv n σ' H' → tz D σ' H') : tSeq (tFor (iRng1 ta) (gName j) tu) tz D σ H :=
  s_forR (D := { D with nx := tz D }) w h hn Pv h0 hs hd
/-! ### comprehensions -/
structure Cw (G H : Hp) (L : Addr) (f : Nat → PyData) (i : Nat) (H' : Hp) : Prop where
  ex : ∃ G' xs, Wn G H G' H' ∧ G' L = none ∧ H' L = some (.lst xs) ∧ RpAll G' xs ((List.range i).map f)
theorem cw_turn {L : Addr} {f : Nat → PyData} {i : Nat} {H' : Hp} {σ2 : L2.St} (hL : H L = none) (p : Cw G H L f i H') (hi : i < 1000000) (he : ∀ G', Ex G G' → EvD te σ2 G' (f i)) :
    te σ2 H' fun y H4 => ∃ acc, H4 L = some (.lst acc) ∧ acc.length < sizeLine ∧ Cw G H L f (i + 1) (upd H4 L (.lst (acc ++ [y]))) := by
  obtain ⟨G', xs, w, g, hx, r⟩ := p.ex
  refine he G' w.up H' w.dn _ fun v G2 H2 w2 r2 => ⟨xs, w2.old _ _ hx, ?_, ⟨G2, xs ++ [v], ?_, ?_, upd_same, ?_⟩⟩
  · rw [r.len, List.length_map, List.length_range]; exact Nat.lt_of_lt_of_le hi (by decide)
  · refine (w.trans w2).mut hL ?_
    cases q : G2 L with
    | none => rfl
    | some o =>
      rcases w2.new L o q with z | z
      · rw [hx] at z; cases z
      · rw [g] at z; cases z
  · cases q : G2 L with
    | none => rfl
    | some o =>
      rcases w2.new L o q with z | z
      · rw [hx] at z; cases z
      · rw [g] at z; cases z
  · rw [List.range_succ, List.map_append]
    exact (r.ex w2.up).push r2
theorem cw_turnY {L : Addr} {f : Nat → PyData} {i : Nat} {H' : Hp} {σ2 : L2.St} (hL : H L = none) (p : Cw G H L f i H') (hi : i < 1000000) (he : ∀ G', Ex G G' → EvD te σ2 G' (f i)) :
    tYes σ2 H' fun b H3 => if b = true then te σ2 H3 fun y H4 => ∃ acc, H4 L = some (.lst acc) ∧ acc.length < sizeLine ∧ Cw G H L f (i + 1) (upd H4 L (.lst (acc ++ [y]))) else Cw G H L f (i + 1) H3 := by
  show (if true = true then (te σ2 H' fun y H4 => ∃ acc, H4 L = some (.lst acc) ∧ acc.length < sizeLine ∧ Cw G H L f (i + 1) (upd H4 L (.lst (acc ++ [y])))) else Cw G H L f (i + 1) H')
  rw [if_pos rfl]
  exact cw_turn hL p hi he
def gAt (ds : List PyData) (g : PyData → PyData) (i : Nat) : PyData := ((ds[i]?).map g).getD .none
theorem map_range_get (ds : List PyData) (g : PyData → PyData) : (List.range ds.length).map (gAt ds g) = ds.map g := by
  refine List.ext_getElem (by simp) fun i h1 h2 => ?_
  simp at h1 h2
  simp [gAt, h1]
/-- [e for x in xs] -/
theorem ev_lcL {j : Nat} {vs : List Nat} {ds : List PyData} (g : PyData → PyData) (h : EvD tl σ G (.list ds)) (hz : ds.length ≤ 1000000) (hw : ∀ x, wipe ((wipe σ vs).set j (some x)) vs = wipe σ vs)
    (he : ∀ x dx G1, Ex G G1 → dx ∈ ds → Rp G1 x dx → EvD te ((wipe σ vs).set j (some x)) G1 (g dx)) : EvD (tLc (iList K tl) (gName j) tYes te vs) σ G (.list (ds.map g)) := fun H e Q q => h H e _ fun v G1 H1 w1 r1 => by
  obtain ⟨a, xs, rfl, ha, hx⟩ := r1.list
  refine ⟨a, rfl, ⟨xs, sq_of (w1.dn _ _ ha)⟩, fun L hL => ?_⟩
  refine lc_list (K := K) (a := a) (xs := xs) (Cw G1 H1 L (gAt ds g)) ⟨G1, [], Wn.open w1.dn hL, ex_none w1.dn hL, upd_same, .nil⟩ ?_ ?_ ?_
  · rintro i H' _ p
    obtain ⟨G', _, w, _⟩ := p.ex
    exact sq_of (w.dn _ _ (w.up _ _ ha))
  · intro i x H' hi p
    obtain ⟨dx, hdx, rx⟩ := hx.getv hi
    refine ⟨hw x, cw_turnY hL p (by have := (List.getElem?_eq_some_iff.1 hdx).1; omega) fun G' e' => ?_⟩
    have e0 : gAt ds g i = g dx := by unfold gAt; rw [hdx]; rfl
    rw [e0]
    exact he x dx G' (w1.up.trans e') (List.mem_of_getElem? hdx) (rx.ex e')
  · intro H' p
    obtain ⟨G', ys, w, gn, hy, r⟩ := p.ex
    rw [hx.len, map_range_get] at r
    have w2 := (w1.trans w).rest (ex_none w1.old hL) gn hy
    exact q _ _ _ w2 (.lst upd_same (r.ex (Ex.new gn)))
/-- [e for x in range(n)] -/
theorem ev_lcR {ta : TA} {j n : Nat} {vs : List Nat} (g : Nat → PyData) (h : EvA ta σ G [.int n]) (hn : n ≤ 1000000) (hw : ∀ x, wipe ((wipe σ vs).set j (some x)) vs = wipe σ vs)
    (he : ∀ i G1, Ex G G1 → i < n → EvD te ((wipe σ vs).set j (some (.int (i : Int)))) G1 (g i)) : EvD (tLc (iRng1 ta) (gName j) tYes te vs) σ G (.list ((List.range n).map g)) := fun H e Q q => h H e _ fun us G1 H1 w1 r1 => by
  obtain rfl : us = [.int (n : Int)] := by
    cases r1 with
    | cons a b => cases a; cases b; rfl
  refine ⟨(n : Int), rfl, by omega, by omega, fun L hL => ?_⟩
  have := lc_range (lo := 0) (n := n) (g := gName j) (tt := tYes) (te := te) (vs := vs) (σ := σ) (H1 := H1) (D := L) (Qd := fun H' => Q (.ref L) H') (Cw G1 H1 L g) ⟨G1, [], Wn.open w1.dn hL, ex_none w1.dn hL, upd_same, .nil⟩ (fun i H' hi p => by
    have e0 : (0 : Int) + (i : Int) = (i : Int) := Int.zero_add _
    show wipe ((wipe σ vs).set j (some (.int ((0 : Int) + (i : Int))))) vs = wipe σ vs ∧ tYes ((wipe σ vs).set j (some (.int ((0 : Int) + (i : Int))))) H' _
    rw [e0]
    exact ⟨hw _, cw_turnY hL p (by omega) fun G' e' => he i G' (w1.up.trans e') hi⟩) (fun H' p => by
    obtain ⟨G', ys, w, gn, hy, r⟩ := p.ex
    have w2 := (w1.trans w).rest (ex_none w1.old hL) gn hy
    exact q _ _ _ w2 (.lst upd_same (r.ex (Ex.new gn))))
  rw [Int.toNat_natCast]
  exact this
end
end Wk
end
section
set_option Elab.async false
set_option linter.all false
set_option maxRecDepth 100000
namespace Wk
open PySem PySem.Spec PyProof.Rows L2
open Evl (Ex ex_l ex_t sq_of st_of)
/-! ### what slots and cells hold; how a run goes on -/
structure SP where
  p : Hp → V → Prop
  mono : ∀ {G G' : Hp} {v : V}, Ex G G' → p G v → p G' v
structure CP where
  p : Hp → HO → Prop
  mono : ∀ {G G' : Hp} {o : HO}, Ex G G' → p G o → p G' o
def dt (d : PyData) : SP := ⟨fun G v => Rp G v d, fun e h => h.ex e⟩
def rf (a : Addr) : SP := ⟨fun _ v => v = .ref a, fun _ h => h⟩
def nn : SP := ⟨fun _ v => v = .non, fun _ h => h⟩
abbrev it (i : Int) : SP := dt (.int i)
abbrev bo (b : Bool) : SP := dt (.bool b)
def cL (ds : List PyData) : CP := ⟨fun G o => ∃ xs, o = .lst xs ∧ RpAll G xs ds, fun e h => by
  obtain ⟨xs, h1, h2⟩ := h
  exact ⟨xs, h1, h2.ex e⟩⟩
abbrev Cs := List (Addr × CP)
abbrev Sls := List (Option SP)
def In (C : Cs) (a : Addr) : Prop := a ∈ C.map Prod.fst
structure Cl (C : Cs) (G H : Hp) : Prop where
  nd : (C.map Prod.fst).Nodup
  at' : ∀ a c, (a, c) ∈ C → ∃ o, H a = some o ∧ c.p G o ∧ G a = none
structure Tr (C : Cs) (G H : Hp) (C' : Cs) (G' H' : Hp) : Prop where
  up : Ex G G'
  dn : Ex G' H'
  old : ∀ a o, ¬ In C a → H a = some o → H' a = some o
  new : ∀ a o, G' a = some o → H a = none ∨ G a = some o
  cl : Cl C' G' H'
  sub : ∀ a, In C' a → In C a ∨ H a = none
  kee : ∀ a, In C a → In C' a
structure Sl (G : Hp) (σ : L2.St) (L : Sls) : Prop where
  len : σ.length = L.length
  at' : ∀ (i : Nat) (s : SP), L[i]? = some (some s) → ∃ v, σ[i]? = some (some v) ∧ s.p G v
section
variable {C C1 C2 C' Ca Cb Ca' : Cs} {G H G1 H1 G2 H2 G' H' : Hp} {σ : L2.St} {L : Sls}
theorem in_mem {a : Addr} (h : In C a) : ∃ c, (a, c) ∈ C := by
  obtain ⟨x, hx, rfl⟩ := List.mem_map.1 h
  exact ⟨x.2, hx⟩
theorem mem_in {a : Addr} {c : CP} (h : (a, c) ∈ C) : In C a := List.mem_map.2 ⟨_, h, rfl⟩
theorem in_app {a : Addr} : In (Ca ++ Cb) a ↔ In Ca a ∨ In Cb a := by unfold In; rw [List.map_append, List.mem_append]
theorem in_cons {a p : Addr} {c : CP} : In ((p, c) :: C) a ↔ a = p ∨ In C a := by unfold In; rw [List.map_cons, List.mem_cons]
theorem Cl.some (c : Cl C G H) {a : Addr} (h : In C a) : ∃ o, H a = some o ∧ G a = none := by
  obtain ⟨x, hx⟩ := in_mem h
  obtain ⟨o, h1, _, h2⟩ := c.at' a x hx
  exact ⟨o, h1, h2⟩
theorem Cl.not (c : Cl C G H) {a : Addr} (h : H a = none) : ¬ In C a := fun q => by
  obtain ⟨o, h1, _⟩ := c.some q
  rw [h] at h1; cases h1
theorem Tr.rfl' (e : Ex G H) (c : Cl C G H) : Tr C G H C G H := ⟨Ex.refl _, e, fun _ _ _ h => h, fun _ _ h => .inr h, c, fun _ h => .inl h, fun _ h => h⟩
theorem Tr.none (t : Tr C G H C1 G1 H1) (c : Cl C G H) {a : Addr} (h : H1 a = Option.none) : H a = Option.none := by
  cases q : H a with
  | none => rfl
  | some o =>
    by_cases k : In C a
    · obtain ⟨o, h1, _⟩ := t.cl.some (t.kee a k)
      rw [h] at h1; cases h1
    · rw [t.old a o k q] at h; cases h
theorem Tr.trans (c : Cl C G H) (t : Tr C G H C1 G1 H1) (u : Tr C1 G1 H1 C2 G2 H2) : Tr C G H C2 G2 H2 := by
  refine ⟨t.up.trans u.up, u.dn, fun a o n h => u.old a o (fun k => ?_) (t.old a o n h), fun a o h => ?_, u.cl, fun a h => ?_, fun a h => u.kee a (t.kee a h)⟩
  · rcases t.sub a k with z | z
    · exact n z
    · rw [z] at h; cases h
  · rcases u.new a o h with z | z
    · exact .inl (t.none c z)
    · exact t.new a o z
  · rcases u.sub a h with z | z
    · exact t.sub a z
    · exact .inr (t.none c z)
/-- a step that changes no cell -/
theorem Tr.of (c : Cl C G H) (w : Wn G H G' H') : Tr C G H C G' H' := by
  refine ⟨w.up, w.dn, fun a o _ h => w.old a o h, w.new, ⟨c.nd, fun a x h => ?_⟩, fun _ h => .inl h, fun _ h => h⟩
  obtain ⟨o, h1, h2, h3⟩ := c.at' a x h
  refine ⟨o, w.old a o h1, x.mono w.up h2, ?_⟩
  cases q : G' a with
  | none => rfl
  | some u =>
    rcases w.new a u q with z | z
    · rw [h1] at z; cases z
    · rw [h3] at z; cases z
theorem Cl.left (c : Cl (Ca ++ Cb) G H) : Cl Ca G H := by
  refine ⟨?_, fun a x h => c.at' a x (List.mem_append.2 (.inl h))⟩
  have := c.nd
  rw [List.map_append] at this
  exact (List.nodup_append.1 this).1
theorem Cl.dis (c : Cl (Ca ++ Cb) G H) {a : Addr} (h : In Cb a) : ¬ In Ca a := fun k => by
  have := c.nd
  rw [List.map_append] at this
  exact (List.nodup_append.1 this).2.2 a k a h rfl
/-- the frame -/
theorem Tr.frame (c : Cl (Ca ++ Cb) G H) (t : Tr Ca G H Ca' G' H') : Tr (Ca ++ Cb) G H (Ca' ++ Cb) G' H' := by
  have kp : ∀ a x, (a, x) ∈ Cb → ∃ o, H a = some o ∧ H' a = some o ∧ x.p G' o ∧ G' a = Option.none := by
    intro a x h
    obtain ⟨o, h1, h2, h3⟩ := c.at' a x (List.mem_append.2 (.inr h))
    refine ⟨o, h1, t.old a o (c.dis (mem_in h)) h1, x.mono t.up h2, ?_⟩
    cases q : G' a with
    | none => rfl
    | some u =>
      rcases t.new a u q with z | z
      · rw [h1] at z; cases z
      · rw [h3] at z; cases z
  refine ⟨t.up, t.dn, fun a o n h => t.old a o (fun k => n (in_app.2 (.inl k))) h, t.new, ⟨?_, fun a x h => ?_⟩, fun a h => ?_, fun a h => ?_⟩
  · rw [List.map_append]
    refine List.nodup_append.2 ⟨t.cl.nd, ?_, fun a ha b hb => ?_⟩
    · have := c.nd
      rw [List.map_append] at this
      exact (List.nodup_append.1 this).2.1
    · rintro rfl
      obtain ⟨x, hx⟩ := in_mem (C := Cb) hb
      obtain ⟨o, h1, _⟩ := kp a x hx
      rcases t.sub a ha with z | z
      · exact c.dis hb z
      · rw [h1] at z; cases z
  · rcases List.mem_append.1 h with k | k
    · exact t.cl.at' a x k
    · obtain ⟨o, _, h2, h3, h4⟩ := kp a x k
      exact ⟨o, h2, h3, h4⟩
  · rcases in_app.1 h with k | k
    · rcases t.sub a k with z | z
      · exact .inl (in_app.2 (.inl z))
      · exact .inr z
    · exact .inl (in_app.2 (.inr k))
  · rcases in_app.1 h with k | k
    · exact in_app.2 (.inl (t.kee a k))
    · exact in_app.2 (.inr k)
theorem Cl.perm (c : Cl C G H) (p : C.Perm C') : Cl C' G H := ⟨(p.map _).nodup_iff.1 c.nd, fun a x h => c.at' a x (p.mem_iff.2 h)⟩
theorem in_perm {a : Addr} (p : C.Perm C') : In C a ↔ In C' a := (p.map Prod.fst).mem_iff
theorem Tr.perm (t : Tr C G H C1 G' H') (p : C.Perm C') (q : C1.Perm C2) : Tr C' G H C2 G' H' :=
  ⟨t.up, t.dn, fun a o n h => t.old a o (fun k => n ((in_perm p).1 k)) h, t.new, t.cl.perm q, fun a h => (t.sub a ((in_perm q).2 h)).imp (in_perm p).1 id, fun a h => (in_perm q).1 (t.kee a ((in_perm p).2 h))⟩
/-- a new cell -/
theorem Tr.open (e : Ex G H) (c : Cl C G H) {p : Addr} {o : HO} {x : CP} (hp : H p = Option.none) (hx : x.p G o) : Tr C G H ((p, x) :: C) G (upd H p o) := by
  have ne : ∀ {a : Addr} {u : HO}, H a = some u → a ≠ p := fun h k => by rw [k, hp] at h; cases h
  refine ⟨Ex.refl _, e.trans (Ex.new hp), fun a u _ h => by rw [upd_ne (ne h)]; exact h, fun _ _ h => .inr h, ⟨?_, fun a y h => ?_⟩, fun a h => ?_, fun a h => in_cons.2 (.inr h)⟩
  · exact List.nodup_cons.2 ⟨c.not hp, c.nd⟩
  · rcases List.mem_cons.1 h with k | k
    · cases k
      exact ⟨o, upd_same, hx, ex_none e hp⟩
    · obtain ⟨u, h1, h2, h3⟩ := c.at' a y k
      exact ⟨u, by rw [upd_ne (ne h1)]; exact h1, h2, h3⟩
  · rcases in_cons.1 h with k | k
    · rw [k]; exact .inr hp
    · exact .inl k
/-- a cell changed -/
theorem Tr.put {p : Addr} {x y : CP} {o : HO} (e : Ex G H) (c : Cl (Ca ++ (p, x) :: Cb) G H) (hx : y.p G o) : Tr (Ca ++ (p, x) :: Cb) G H (Ca ++ (p, y) :: Cb) G (upd H p o) := by
  have hm : (p, x) ∈ Ca ++ (p, x) :: Cb := List.mem_append.2 (.inr List.mem_cons_self)
  obtain ⟨o1, h1, h2, h3⟩ := c.at' p x hm
  have ia : ∀ a, In (Ca ++ (p, y) :: Cb) a ↔ In (Ca ++ (p, x) :: Cb) a := fun a => by unfold In; rw [List.map_append, List.map_append]; rfl
  have nd := c.nd
  rw [List.map_append, List.map_cons] at nd
  obtain ⟨_, n2, n3⟩ := List.nodup_append.1 nd
  refine ⟨Ex.refl _, Ex.mut e h3, fun a u n h => ?_, fun _ _ h => .inr h, ⟨?_, fun a z h => ?_⟩, fun a h => .inl ((ia a).1 h), fun a h => (ia a).2 h⟩
  · rw [upd_ne (fun k => n (by rw [k]; exact mem_in hm))]; exact h
  · rw [List.map_append, List.map_cons]; exact nd
  · by_cases k : a = p
    · subst k
      rcases List.mem_append.1 h with q | q
      · exact absurd rfl (n3 a (mem_in q) a List.mem_cons_self)
      · rcases List.mem_cons.1 q with q | q
        · cases q; exact ⟨o, upd_same, hx, h3⟩
        · exact absurd (mem_in q) (List.nodup_cons.1 n2).1
    · have h' : (a, z) ∈ Ca ++ (p, x) :: Cb := by
        rcases List.mem_append.1 h with q | q
        · exact List.mem_append.2 (.inl q)
        · rcases List.mem_cons.1 q with q | q
          · cases q; exact absurd rfl k
          · exact List.mem_append.2 (.inr (List.mem_cons_of_mem _ q))
      obtain ⟨u, q1, q2, q3⟩ := c.at' a z h'
      exact ⟨u, by rw [upd_ne k]; exact q1, q2, q3⟩
/-- a cell of one's own comes to rest -/
theorem Tr.rest {p : Addr} {x : CP} {C0 : Cs} {G0 H0 : Hp} (t : Tr C0 G0 H0 (Ca ++ (p, x) :: Cb) G H) (n : ¬ In C0 p) : ∃ o, x.p G o ∧ G p = Option.none ∧ H p = some o ∧ Tr C0 G0 H0 (Ca ++ Cb) (upd G p o) H := by
  have hm : (p, x) ∈ Ca ++ (p, x) :: Cb := List.mem_append.2 (.inr List.mem_cons_self)
  obtain ⟨o, h1, h2, h3⟩ := t.cl.at' p x hm
  have nd := t.cl.nd
  rw [List.map_append, List.map_cons] at nd
  obtain ⟨m1, n2, n3⟩ := List.nodup_append.1 nd
  obtain ⟨m2, m3⟩ := List.nodup_cons.1 n2
  have out : ¬ In (Ca ++ Cb) p := fun k => by
    rcases in_app.1 k with q | q
    · exact n3 p q p List.mem_cons_self rfl
    · exact m2 q
  have h0 : H0 p = Option.none := by
    rcases t.sub p (mem_in hm) with z | z
    · exact absurd z n
    · exact z
  refine ⟨o, h2, h3, h1, ⟨t.up.trans (Ex.new h3), fun a u h => ?_, t.old, fun a u h => ?_, ⟨?_, fun a z h => ?_⟩, fun a h => ?_, fun a h => ?_⟩⟩
  · by_cases k : a = p
    · subst k; rw [upd_same] at h; rw [h1]; exact h
    · rw [upd_ne k] at h; exact t.dn a u h
  · by_cases k : a = p
    · subst k; exact .inl h0
    · rw [upd_ne k] at h; exact t.new a u h
  · rw [List.map_append]
    exact List.nodup_append.2 ⟨m1, m3, fun a ha b hb => n3 a ha b (List.mem_cons_of_mem _ hb)⟩
  · have k : a ≠ p := by rintro rfl; exact out (mem_in h)
    obtain ⟨u, q1, q2, q3⟩ := t.cl.at' a z (by
      rcases List.mem_append.1 h with q | q
      · exact List.mem_append.2 (.inl q)
      · exact List.mem_append.2 (.inr (List.mem_cons_of_mem _ q)))
    exact ⟨u, q1, z.mono (Ex.new h3) q2, by rw [upd_ne k]; exact q3⟩
  · refine t.sub a ?_
    rcases in_app.1 h with q | q
    · exact in_app.2 (.inl q)
    · exact in_app.2 (.inr (in_cons.2 (.inr q)))
  · rcases in_app.1 (t.kee a h) with q | q
    · exact in_app.2 (.inl q)
    · rcases in_cons.1 q with q | q
      · rw [q] at h; exact absurd h n
      · exact in_app.2 (.inr q)
/-- a cell is left -/
theorem Tr.drop {p : Addr} {x : CP} {C0 : Cs} {G0 H0 : Hp} (t : Tr C0 G0 H0 (Ca ++ (p, x) :: Cb) G H) (n : ¬ In C0 p) : Tr C0 G0 H0 (Ca ++ Cb) G H := by
  have nd := t.cl.nd
  rw [List.map_append, List.map_cons] at nd
  obtain ⟨m1, n2, n3⟩ := List.nodup_append.1 nd
  obtain ⟨m2, m3⟩ := List.nodup_cons.1 n2
  refine ⟨t.up, t.dn, t.old, t.new, ⟨?_, fun a z h => ?_⟩, fun a h => ?_, fun a h => ?_⟩
  · rw [List.map_append]
    exact List.nodup_append.2 ⟨m1, m3, fun a ha b hb => n3 a ha b (List.mem_cons_of_mem _ hb)⟩
  · exact t.cl.at' a z (by
      rcases List.mem_append.1 h with q | q
      · exact List.mem_append.2 (.inl q)
      · exact List.mem_append.2 (.inr (List.mem_cons_of_mem _ q)))
  · refine t.sub a ?_
    rcases in_app.1 h with q | q
    · exact in_app.2 (.inl q)
    · exact in_app.2 (.inr (in_cons.2 (.inr q)))
  · rcases in_app.1 (t.kee a h) with q | q
    · exact in_app.2 (.inl q)
    · rcases in_cons.1 q with q | q
      · rw [q] at h; exact absurd h n
      · exact in_app.2 (.inr q)
theorem Sl.ex (s : Sl G σ L) (e : Ex G G') : Sl G' σ L := ⟨s.len, fun i x h => by
  obtain ⟨v, h1, h2⟩ := s.at' i x h
  exact ⟨v, h1, x.mono e h2⟩⟩
theorem Sl.set (s : Sl G σ L) {i : Nat} {v : V} {x : SP} (h : x.p G v) : Sl G (σ.set i (some v)) (L.set i (some x)) := by
  refine ⟨by rw [List.length_set, List.length_set]; exact s.len, fun j y hj => ?_⟩
  rw [List.getElem?_set] at hj ⊢
  by_cases k : i = j
  · subst k
    rw [if_pos rfl] at hj ⊢
    by_cases l : i < L.length
    · rw [if_pos l] at hj
      rw [if_pos (by rw [s.len]; exact l)]
      cases hj
      exact ⟨v, rfl, h⟩
    · rw [if_neg l] at hj; cases hj
  · rw [if_neg k] at hj ⊢
    exact s.at' j y hj
theorem Sl.none (s : Sl G σ L) (i : Nat) (o : Option V) : Sl G (σ.set i o) (L.set i Option.none) := by
  refine ⟨by rw [List.length_set, List.length_set]; exact s.len, fun j y hj => ?_⟩
  rw [List.getElem?_set] at hj ⊢
  by_cases k : i = j
  · subst k
    rw [if_pos rfl] at hj
    by_cases l : i < L.length
    · rw [if_pos l] at hj; cases hj
    · rw [if_neg l] at hj; cases hj
  · rw [if_neg k] at hj ⊢
    exact s.at' j y hj
def wipeL (L : Sls) : List Nat → Sls
  | [] => L
  | j :: r => (wipeL L r).set j Option.none
theorem Sl.forget (s : Sl G σ L) (i : Nat) : Sl G σ (L.set i Option.none) := by
  refine ⟨by rw [List.length_set]; exact s.len, fun j y hj => ?_⟩
  rw [List.getElem?_set] at hj
  by_cases k : i = j
  · subst k
    rw [if_pos rfl] at hj
    by_cases l : i < L.length
    · rw [if_pos l] at hj; cases hj
    · rw [if_neg l] at hj; cases hj
  · rw [if_neg k] at hj
    exact s.at' j y hj
theorem Sl.wipe (s : Sl G σ L) : ∀ ws : List Nat, Sl G σ (wipeL L ws)
  | [] => s
  | j :: r => (s.wipe r).forget j
theorem Sl.wipe2 (s : Sl G σ L) : ∀ ws : List Nat, Sl G (L2.wipe σ ws) (wipeL L ws)
  | [] => s
  | j :: r => (s.wipe2 r).none j _
end
end Wk
end
section
set_option Elab.async false
set_option linter.all false
set_option maxRecDepth 100000
namespace Wk
open PySem PySem.Spec PyProof.Rows L2
open Evl (Ex ex_l ex_t sq_of st_of)
/-! ### what an expression gives -/
inductive Ar (G : Hp) : List V → List SP → Prop
  | nil : Ar G [] []
  | cons {v : V} {vs : List V} {s : SP} {ss : List SP} : s.p G v → Ar G vs ss → Ar G (v :: vs) (s :: ss)
theorem Ar.ex {G G' : Hp} {vs : List V} {ss : List SP} (h : Ar G vs ss) (e : Ex G G') : Ar G' vs ss := by
  induction h with
  | nil => exact .nil
  | @cons v vs s ss h _ ih => exact .cons (s.mono e h) ih
theorem Ar.len {G : Hp} {vs : List V} {ss : List SP} (h : Ar G vs ss) : vs.length = ss.length := by
  induction h with
  | nil => rfl
  | cons _ _ ih => rw [List.length_cons, List.length_cons, ih]
theorem Ar.rp {G : Hp} {vs : List V} {ds : List PyData} (h : Ar G vs (ds.map dt)) : RpAll G vs ds := by
  induction ds generalizing vs with
  | nil => cases h; exact .nil
  | cons d ds ih =>
    cases h with
    | cons a b => exact .cons a (ih b)
def Xe (te : TE) (L : Sls) (C : Cs) (s : SP) (C' : Cs) : Prop := ∀ σ G H, Sl G σ L → Ex G H → Cl C G H → ∀ Q : VK, (∀ v G' H', Tr C G H C' G' H' → s.p G' v → Q v H') → te σ H Q
def Xt (tt : TT) (L : Sls) (C : Cs) (b : Bool) (C' : Cs) : Prop := ∀ σ G H, Sl G σ L → Ex G H → Cl C G H → ∀ Q : Bool → Hp → Prop, (∀ G' H', Tr C G H C' G' H' → Q b H') → tt σ H Q
def Xa (ta : TA) (L : Sls) (C : Cs) (ss : List SP) (C' : Cs) : Prop := ∀ σ G H, Sl G σ L → Ex G H → Cl C G H → ∀ Q : List V → Hp → Prop, (∀ vs G' H', Tr C G H C' G' H' → Ar G' vs ss → Q vs H') → ta σ H Q
def Xo (to : TO) (L : Sls) (C : Cs) (o : Option Int) (C' : Cs) : Prop := ∀ σ G H, Sl G σ L → Ex G H → Cl C G H → ∀ Q : Option Int → Hp → Prop, (∀ G' H', Tr C G H C' G' H' → Q o H') → to σ H Q
/-- values of two things -/
def V2 (r : R2) (C : Cs) (s u z : SP) (C' : Cs) : Prop := ∀ x y G H (Q : VK), Ex G H → Cl C G H → s.p G x → u.p G y → (∀ v G' H', Tr C G H C' G' H' → z.p G' v → Q v H') → r x y H Q
def V1 (r : V → Hp → VK → Prop) (C : Cs) (s z : SP) (C' : Cs) : Prop := ∀ x G H (Q : VK), Ex G H → Cl C G H → s.p G x → (∀ v G' H', Tr C G H C' G' H' → z.p G' v → Q v H') → r x H Q
def Vn (r : List V → Hp → VK → Prop) (C : Cs) (ss : List SP) (z : SP) (C' : Cs) : Prop := ∀ xs G H (Q : VK), Ex G H → Cl C G H → Ar G xs ss → (∀ v G' H', Tr C G H C' G' H' → z.p G' v → Q v H') → r xs H Q
section
variable {K : PySem.W.Frag} {L : Sls} {C C' C1 C2 C3 Ca Cb Ca' : Cs} {ta tb te tl : TE} {t u : TT} {d e : PyData} {r : R2} {s z : SP} {i j : Int} {a b : Bool} {ds es : List PyData}
theorem xe_frame (h : Xe te L Ca s Ca') : Xe te L (Ca ++ Cb) s (Ca' ++ Cb) := fun σ G H sl e c Q q => h σ G H sl e c.left Q fun v G' H' t p => q v G' H' (t.frame c) p
theorem xe_perm (h : Xe te L C s C') (p : C.Perm C1) (p' : C'.Perm C2) : Xe te L C1 s C2 := fun σ G H sl e c Q q => h σ G H sl e (c.perm p.symm) Q fun v G' H' t k => q v G' H' (t.perm p p') k
theorem xe_v (i : Nat) (h : L[i]? = some (some s)) : Xe (tVar i) L C s C := fun σ G H sl e c Q q => by
  obtain ⟨v, h1, h2⟩ := sl.at' i s h
  exact ⟨v, h1, q v G H (Tr.rfl' e c) h2⟩
theorem xe_i : Xe (tC (.int i)) L C (it i) C := fun σ G H sl e c Q q => q _ G H (Tr.rfl' e c) (.int i)
theorem xe_b : Xe (tC (.bl a)) L C (bo a) C := fun σ G H sl e c Q q => q _ G H (Tr.rfl' e c) (.bl a)
theorem xe_op {u : SP} (ha : Xe ta L C s C1) (hb : Xe tb L C1 u C2) (hr : V2 r C2 s u z C3) : Xe (tOp r ta tb) L C z C3 := fun σ G H sl e c Q q =>
  ha σ G H sl e c _ fun x G1 H1 t1 p1 => hb σ G1 H1 (sl.ex t1.up) t1.dn t1.cl _ fun y G2 H2 t2 p2 => hr x y G2 H2 Q t2.dn t2.cl (s.mono t2.up p1) p2 fun v G3 H3 t3 p3 => q v G3 H3 ((t1.trans c t2).trans c t3) p3
theorem xe_un {r : V → Hp → VK → Prop} (ha : Xe ta L C s C1) (hr : V1 r C1 s z C2) : Xe (tUn r ta) L C z C2 := fun σ G H sl e c Q q =>
  ha σ G H sl e c _ fun x G1 H1 t1 p1 => hr x G1 H1 Q t1.dn t1.cl p1 fun v G3 H3 t3 p3 => q v G3 H3 (t1.trans c t3) p3
theorem xe_I {Cc : Int → Int → Prop} {g : Int → Int → Int} (ha : Xe ta L C (it i) C1) (hb : Xe tb L C1 (it j) C2) (hc : Cc i j) : Xe (tOp (rI Cc fun i j => .int (g i j)) ta tb) L C (it (g i j)) C2 := xe_op ha hb fun x y G H Q e c r1 r2 q => by
  cases r1; cases r2
  exact ⟨i, j, rfl, rfl, hc, q _ G H (Tr.rfl' e c) (.int _)⟩
theorem xe_I0 {g : Int → Int → Int} (ha : Xe ta L C (it i) C1) (hb : Xe tb L C1 (it j) C2) : Xe (tOp (rI0 fun i j => .int (g i j)) ta tb) L C (it (g i j)) C2 := xe_op ha hb fun x y G H Q e c r1 r2 q => by
  cases r1; cases r2
  exact ⟨i, j, rfl, rfl, q _ G H (Tr.rfl' e c) (.int _)⟩
theorem xe_C0 {g : Int → Int → Bool} (ha : Xe ta L C (it i) C1) (hb : Xe tb L C1 (it j) C2) : Xe (tOp (rI0 fun i j => .bl (g i j)) ta tb) L C (bo (g i j)) C2 := xe_op ha hb fun x y G H Q e c r1 r2 q => by
  cases r1; cases r2
  exact ⟨i, j, rfl, rfl, q _ G H (Tr.rfl' e c) (.bl _)⟩
theorem xe_eq (ha : Xe ta L C (it i) C1) (hb : Xe tb L C1 (it j) C2) : Xe (tOp rEq ta tb) L C (bo (decide (i = j))) C2 := xe_op ha hb fun x y G H Q e c r1 r2 q => by
  cases r1; cases r2
  refine ⟨rfl, q _ G H (Tr.rfl' e c) ?_⟩
  have : decide (V.int i = V.int j) = decide (i = j) := by simp
  rw [this]; exact .bl _
theorem xe_ne (ha : Xe ta L C (it i) C1) (hb : Xe tb L C1 (it j) C2) : Xe (tOp rNe ta tb) L C (bo (!decide (i = j))) C2 := xe_op ha hb fun x y G H Q e c r1 r2 q => by
  cases r1; cases r2
  refine ⟨rfl, q _ G H (Tr.rfl' e c) ?_⟩
  have : decide (V.int i = V.int j) = decide (i = j) := by simp
  rw [this]; exact .bl _
theorem xe_neB (ha : Xe ta L C (bo a) C1) (hb : Xe tb L C1 (bo b) C2) : Xe (tOp rNe ta tb) L C (bo (a != b)) C2 := xe_op ha hb fun x y G H Q e c r1 r2 q => by
  cases r1; cases r2
  refine ⟨rfl, q _ G H (Tr.rfl' e c) ?_⟩
  have : (!decide (V.bl a = V.bl b)) = (a != b) := by cases a <;> cases b <;> simp
  rw [this]; exact .bl _
theorem xe_eqD (ha : Xe ta L C (dt d) C1) (hb : Xe tb L C1 (dt e) C2) (sd : SeqAt.shaped d = true) (se : SeqAt.shaped e = true) : Xe (tOp (rEqD K) ta tb) L C (bo (PyData.eqv d e)) C2 := xe_op ha hb fun x y G H Q e1 c r1 r2 q =>
  ⟨d, e, (Rp.ex e1 r1).dp, (Rp.ex e1 r2).dp, sd, se, q _ G H (Tr.rfl' e1 c) (.bl _)⟩
theorem xe_neD (ha : Xe ta L C (dt d) C1) (hb : Xe tb L C1 (dt e) C2) (sd : SeqAt.shaped d = true) (se : SeqAt.shaped e = true) : Xe (tOp (rNeD K) ta tb) L C (bo (!PyData.eqv d e)) C2 := xe_op ha hb fun x y G H Q e1 c r1 r2 q =>
  ⟨d, e, (Rp.ex e1 r1).dp, (Rp.ex e1 r2).dp, sd, se, q _ G H (Tr.rfl' e1 c) (.bl _)⟩
theorem xe_ixT (ha : Xe ta L C (dt (.tuple ds)) C1) (hb : Xe tb L C1 (it i) C2) (h : atI ds i = some d) : Xe (tOp (rIx K) ta tb) L C (dt d) C2 := xe_op ha hb fun x y G H Q e c r1 r2 q => by
  cases r2
  obtain ⟨a, xs, rfl, ha, hx⟩ := Rp.tuple r1
  obtain ⟨v, hv, rv⟩ := hx.at h
  exact .inr (.inl ⟨a, xs, i, v, rfl, rfl, st_of (e _ _ ha), hv, q v G H (Tr.rfl' e c) rv⟩)
theorem xe_ixL (ha : Xe ta L C (dt (.list ds)) C1) (hb : Xe tb L C1 (it i) C2) (h : atI ds i = some d) : Xe (tOp (rIx K) ta tb) L C (dt d) C2 := xe_op ha hb fun x y G H Q e c r1 r2 q => by
  cases r2
  obtain ⟨a, xs, rfl, ha, hx⟩ := Rp.list r1
  obtain ⟨v, hv, rv⟩ := hx.at h
  exact .inl ⟨a, xs, i, v, rfl, rfl, sq_of (e _ _ ha), hv, q v G H (Tr.rfl' e c) rv⟩
/-- xs[i], xs a cell -/
theorem xe_ixC {p : Addr} (ha : Xe ta L C (rf p) C1) (hb : Xe tb L C1 (it i) C2) (hp : (p, cL ds) ∈ C2) (h : atI ds i = some d) : Xe (tOp (rIx K) ta tb) L C (dt d) C2 := xe_op ha hb fun x y G H Q e c r1 r2 q => by
  cases r2
  cases r1
  obtain ⟨o, h1, ⟨xs, rfl, hx⟩, h3⟩ := c.at' p _ hp
  obtain ⟨v, hv, rv⟩ := hx.at h
  exact .inl ⟨p, xs, i, v, rfl, rfl, sq_of h1, hv, q v G H (Tr.rfl' e c) rv⟩
theorem xe_cat (ha : Xe ta L C (dt (.list ds)) C1) (hb : Xe tb L C1 (dt (.list es)) C2) (hl : ds.length + es.length ≤ sizeLine) : Xe (tOp rCat ta tb) L C (dt (.list (ds ++ es))) C2 := xe_op ha hb fun x y G H Q e c r1 r2 q => by
  obtain ⟨a, xs, rfl, ha, hx⟩ := Rp.list r1
  obtain ⟨b, ys, rfl, hb, hy⟩ := Rp.list r2
  refine ⟨a, b, xs, ys, rfl, rfl, e _ _ ha, e _ _ hb, by rw [hx.len, hy.len]; exact hl, fun p hp => ?_⟩
  have w := Wn.put (o := .lst (xs ++ ys)) e hp
  exact q _ _ _ (Tr.of c w) (.lst upd_same ((hx.append hy).ex w.up))
theorem xe_neg (ha : Xe ta L C (it i) C1) : Xe (tUn (rU fun i => .int (-i)) ta) L C (it (-i)) C1 := xe_un ha fun x G H Q e c r1 q => by
  cases r1
  exact ⟨i, rfl, q _ G H (Tr.rfl' e c) (.int _)⟩
/-! tests -/
theorem xt_test (h : Xe te L C (bo b) C') : Xt (tTest te) L C b C' := fun σ G H sl e c Q q => h σ G H sl e c _ fun v G1 H1 w r => by
  cases r
  exact ⟨b, rfl, q G1 H1 w⟩
theorem xt_B (h : Xe te L C (bo b) C') : Xt (tB te) L C b C' := fun σ G H sl e c Q q => h σ G H sl e c _ fun v G1 H1 w r => by
  cases r
  exact ⟨b, rfl, q G1 H1 w⟩
theorem xt_and (h1 : Xt t L C a C) (h2 : a = true → Xt u L C b C) : Xt (tAnd t u) L C (a && b) C := fun σ G H sl e c Q q => h1 σ G H sl e c _ fun G2 H2 e2 => by
  cases a with
  | true => show u σ H2 Q; exact h2 rfl σ G2 H2 (sl.ex e2.up) e2.dn e2.cl Q fun G3 H3 e3 => q G3 H3 (e2.trans c e3)
  | false => show Q false H2; exact q G2 H2 e2
theorem xt_or (h1 : Xt t L C a C) (h2 : a = false → Xt u L C b C) : Xt (tOr t u) L C (a || b) C := fun σ G H sl e c Q q => h1 σ G H sl e c _ fun G2 H2 e2 => by
  cases a with
  | true => show Q true H2; exact q G2 H2 e2
  | false => show u σ H2 Q; exact h2 rfl σ G2 H2 (sl.ex e2.up) e2.dn e2.cl Q fun G3 H3 e3 => q G3 H3 (e2.trans c e3)
theorem xt_not (h1 : Xt t L C a C') : Xt (tNot t) L C (!a) C' := fun σ G H sl e c Q q => h1 σ G H sl e c _ fun G2 H2 e2 => q G2 H2 e2
theorem xe_and (h1 : Xe ta L C (bo a) C) (h2 : a = true → Xe tb L C (bo b) C) : Xe (tAndV ta tb) L C (bo (a && b)) C := fun σ G H sl e c Q q => h1 σ G H sl e c _ fun v G1 H1 w r => by
  cases r
  refine ⟨a, rfl, ?_⟩
  cases a with
  | true => show tb σ H1 Q; exact h2 rfl σ G1 H1 (sl.ex w.up) w.dn w.cl Q fun v G2 H2 w2 r2 => q v G2 H2 (w.trans c w2) r2
  | false => show Q (.bl false) H1; exact q _ G1 H1 w (.bl _)
theorem xe_or (h1 : Xe ta L C (bo a) C) (h2 : a = false → Xe tb L C (bo b) C) : Xe (tOrV ta tb) L C (bo (a || b)) C := fun σ G H sl e c Q q => h1 σ G H sl e c _ fun v G1 H1 w r => by
  cases r
  refine ⟨a, rfl, ?_⟩
  cases a with
  | true => show Q (.bl true) H1; exact q _ G1 H1 w (.bl _)
  | false => show tb σ H1 Q; exact h2 rfl σ G1 H1 (sl.ex w.up) w.dn w.cl Q fun v G2 H2 w2 r2 => q v G2 H2 (w.trans c w2) r2
theorem xe_not (h1 : Xe ta L C (bo a) C') : Xe (tNotV ta) L C (bo (!a)) C' := fun σ G H sl e c Q q => h1 σ G H sl e c _ fun v G1 H1 w r => by
  cases r
  exact ⟨a, rfl, q _ G1 H1 w (.bl _)⟩
/-! arguments, displays -/
theorem xa_nil : Xa tNil L C [] C := fun σ G H sl e c Q q => q [] G H (Tr.rfl' e c) .nil
theorem xa_cons {tr : TA} {ss : List SP} (h : Xe ta L C s C1) (hr : Xa tr L C1 ss C2) : Xa (tCons ta tr) L C (s :: ss) C2 := fun σ G H sl e c Q q =>
  h σ G H sl e c _ fun v G1 H1 w1 r1 => hr σ G1 H1 (sl.ex w1.up) w1.dn w1.cl _ fun vs G2 H2 w2 r2 => q _ G2 H2 (w1.trans c w2) (.cons (s.mono w2.up r1) r2)
/-- arguments that are data -/
def Xd (ta : TA) (L : Sls) (C : Cs) (ds : List PyData) (C' : Cs) : Prop := Xa ta L C (ds.map dt) C'
theorem xd_nil : Xd tNil L C [] C := xa_nil
theorem xd_cons {tr : TA} (h : Xe ta L C (dt d) C1) (hr : Xd tr L C1 ds C2) : Xd (tCons ta tr) L C (d :: ds) C2 := xa_cons h hr
theorem xe_tup {ta : TA} (h : Xd ta L C ds C') (hl : ds.length ≤ 100000 := by (simp only [List.length_cons, List.length_nil]; omega)) : Xe (tTup ta) L C (dt (.tuple ds)) C' := fun σ G H sl e c Q q => h σ G H sl e c _ fun vs G1 H1 w1 r1 =>
  ⟨by rw [r1.rp.len]; exact Evl.sz_of hl, fun p hp => by
    have w := Wn.put (o := .tup vs) w1.dn hp
    exact q _ _ _ (w1.trans c (Tr.of w1.cl w)) (.tup upd_same (r1.rp.ex w.up))⟩
theorem xe_lst {ta : TA} (h : Xd ta L C ds C') (hl : ds.length ≤ 100000 := by (simp only [List.length_cons, List.length_nil]; omega)) : Xe (tLst ta) L C (dt (.list ds)) C' := fun σ G H sl e c Q q => h σ G H sl e c _ fun vs G1 H1 w1 r1 =>
  ⟨by rw [r1.rp.len]; exact Evl.sz_of hl, fun p hp => by
    have w := Wn.put (o := .lst vs) w1.dn hp
    exact q _ _ _ (w1.trans c (Tr.of w1.cl w)) (.lst upd_same (r1.rp.ex w.up))⟩
/-! slices -/
theorem xo_none : Xo tNoPart L C none C := fun σ G H sl e c Q q => q G H (Tr.rfl' e c)
theorem xo_some (h : Xe te L C (it i) C') : Xo (tPart te) L C (some i) C' := fun σ G H sl e c Q q => h σ G H sl e c _ fun v G1 H1 w r => by
  cases r
  exact ⟨i, rfl, q G1 H1 w⟩
theorem xe_sl {lo hi : Option Int} {tl th : TO} (ha : Xe ta L C (dt (.list ds)) C1) (hl : Xo tl L C1 lo C2) (hh : Xo th L C2 hi C3) : Xe (tSl (rSlL K) ta tl th) L C (dt (.list (cutD ds lo hi))) C3 := fun σ G H sl e c Q q =>
  ha σ G H sl e c _ fun v G1 H1 w1 r1 => hl σ G1 H1 (sl.ex w1.up) w1.dn w1.cl _ fun G2 H2 w2 => hh σ G2 H2 ((sl.ex w1.up).ex w2.up) w2.dn w2.cl _ fun G3 H3 w3 => by
    obtain ⟨a, xs, rfl, ha, hx⟩ := Rp.list r1
    have e3 : Ex G1 G3 := w2.up.trans w3.up
    refine ⟨a, xs, rfl, sq_of (w3.dn _ _ (e3 _ _ ha)), fun p hp => ?_⟩
    have w := Wn.put (o := .lst (cutV xs lo hi)) w3.dn hp
    refine q _ _ _ (((w1.trans c w2).trans c w3).trans c (Tr.of w3.cl w)) (.lst upd_same (RpAll.ex (e3.trans w.up) ?_))
    unfold cutV cutD
    rw [hx.len]
    exact (hx.drop _).take _
/-! calls of what is built in -/
theorem xe_cb {r : List V → Hp → VK → Prop} {ta : TA} {ss : List SP} (h : Xa ta L C ss C1) (hr : Vn r C1 ss z C2) : Xe (tCB r ta) L C z C2 := fun σ G H sl e c Q q => h σ G H sl e c _ fun vs G1 H1 w1 r1 => hr vs G1 H1 Q w1.dn w1.cl r1 fun v G2 H2 w2 r2 => q v G2 H2 (w1.trans c w2) r2
theorem vn_len {ds : List PyData} : Vn (fun xs H Q => ∃ p ys, xs = [.ref p] ∧ (SqL K H p ys ∨ SqT K H p ys) ∧ Q (.int ys.length) H) C [dt (.list ds)] (it (ds.length : Nat)) C := fun xs G H Q e c r q => by
  cases r with
  | cons a b =>
    cases b
    obtain ⟨p, ys, rfl, hp, hy⟩ := Rp.list a
    refine ⟨p, ys, rfl, .inl (sq_of (e _ _ hp)), ?_⟩
    rw [hy.len]
    exact q _ G H (Tr.rfl' e c) (.int _)
theorem vn_lenC {p : Addr} {ds : List PyData} (hp : (p, cL ds) ∈ C) : Vn (fun xs H Q => ∃ p ys, xs = [.ref p] ∧ (SqL K H p ys ∨ SqT K H p ys) ∧ Q (.int ys.length) H) C [rf p] (it (ds.length : Nat)) C := fun xs G H Q e c r q => by
  cases r with
  | cons a b =>
    cases b
    cases a
    obtain ⟨o, h1, ⟨xs, rfl, hx⟩, h3⟩ := c.at' p _ hp
    refine ⟨p, xs, rfl, .inl (sq_of h1), ?_⟩
    rw [hx.len]
    exact q _ G H (Tr.rfl' e c) (.int _)
theorem vn_abs : Vn (fun xs H Q => ∃ i, xs = [.int i] ∧ Q (.int (if i < 0 then -i else i)) H) C [it i] (it (if i < 0 then -i else i)) C := fun xs G H Q e c r q => by
  cases r with
  | cons a b =>
    cases b; cases a
    exact ⟨i, rfl, q _ G H (Tr.rfl' e c) (.int _)⟩
theorem vn_sum {ns : List Int} : Vn (rSum K) C [dt (.list (ns.map PyData.int))] (it ns.sum) C := fun xs G H Q e c r q => by
  cases r with
  | cons a b =>
    cases b
    obtain ⟨p, ys, rfl, hp, hy⟩ := Rp.list a
    have := hy.ints
    subst this
    exact ⟨p, ns, rfl, sq_of (e _ _ hp), q _ G H (Tr.rfl' e c) (.int _)⟩
theorem vn_any {ns : List Bool} : Vn (rAny K) C [dt (.list (ns.map PyData.bool))] (bo (ns.any id)) C := fun xs G H Q e c r q => by
  cases r with
  | cons a b =>
    cases b
    obtain ⟨p, ys, rfl, hp, hy⟩ := Rp.list a
    have := hy.bools
    subst this
    exact ⟨p, ns, rfl, sq_of (e _ _ hp), q _ G H (Tr.rfl' e c) (.bl _)⟩
theorem vn_all {ns : List Bool} : Vn (rAll K) C [dt (.list (ns.map PyData.bool))] (bo (ns.all id)) C := fun xs G H Q e c r q => by
  cases r with
  | cons a b =>
    cases b
    obtain ⟨p, ys, rfl, hp, hy⟩ := Rp.list a
    have := hy.bools
    subst this
    exact ⟨p, ns, rfl, sq_of (e _ _ hp), q _ G H (Tr.rfl' e c) (.bl _)⟩
/-! promises -/
/-- handed ss, with the cells C, of which R, it answers s and leaves the cells C' -/
def spF (R : List SP → Cs → SP → Cs → Prop) : Sp := fun vs H Q _ => ∃ G ss C s C', Ex G H ∧ Cl C G H ∧ Ar G vs ss ∧ R ss C s C' ∧ ∀ v G' H', Tr C G H C' G' H' → s.p G' v → Q v H'
/-- data in, data out -/
def pR (R : List PyData → PyData → Prop) : List SP → Cs → SP → Cs → Prop := fun ss C s C' => ∃ ds d, ss = ds.map dt ∧ C = [] ∧ s = dt d ∧ C' = [] ∧ R ds d
theorem xe_callC {R : List SP → Cs → SP → Cs → Prop} {ta : TA} {ss : List SP} (h : Xa ta L C ss (Ca ++ Cb)) (r : R ss Ca s Ca') : Xe (tCall (spF R) [] E0 ta) L C s (Ca' ++ Cb) := fun σ G H sl e c Q q => h σ G H sl e c _ fun vs G1 H1 w1 r1 => by
  refine ⟨G1, ss, Ca, s, Ca', w1.dn, w1.cl.left, ?_, r, fun v G2 H2 w2 r2 => q v G2 H2 (w1.trans c (w2.frame w1.cl)) r2⟩
  rw [List.append_nil]; exact r1
theorem xe_call {R : List PyData → PyData → Prop} {ta : TA} (h : Xd ta L C ds C') (r : R ds d) : Xe (tCall (spF (pR R)) [] E0 ta) L C (dt d) C' := xe_callC (Ca := []) (Ca' := []) h ⟨ds, d, rfl, rfl, rfl, rfl, r⟩
end
/-! ### statements -/
def WP (t : TS) (C0 : Cs) (L : Sls) (C : Cs) (N : Sls → Cs → Prop) (R : SP → Cs → Prop) : Prop :=
  ∀ G0 H0 σ G H D, Cl C0 G0 H0 → Tr C0 G0 H0 C G H → Sl G σ L → (∀ L' C' σ' G' H', N L' C' → Tr C0 G0 H0 C' G' H' → Ex G G' → Sl G' σ' L' → D.nx σ' H') → (∀ v s C' G' H', R s C' → Tr C0 G0 H0 C' G' H' → s.p G' v → D.rt v H') → t D σ H
section
variable {K : PySem.W.Frag} {L L' : Sls} {C C' C0 C1 C2 C3 Ca Cb Ca' : Cs} {te tl : TE} {t : TT} {ta tb tu tw : TS} {d e : PyData} {s z : SP} {b : Bool} {ds es : List PyData} {N N' : Sls → Cs → Prop} {R R' : SP → Cs → Prop}
theorem wp_seq (h : WP ta C0 L C (fun L' C' => WP tb C0 L' C' N R) R) : WP (tSeq ta tb) C0 L C N R := fun G0 H0 σ G H D c0 tr sl hn hr =>
  h G0 H0 σ G H { D with nx := tb D } c0 tr sl (fun L' C' σ' G' H' hw tr' e sl' => hw G0 H0 σ' G' H' D c0 tr' sl' (fun L2 C2 σ2 G2 H2 q t2 e2 s2 => hn L2 C2 σ2 G2 H2 q t2 (e.trans e2) s2) hr) hr
theorem wp_mono (h : WP ta C0 L C N R) (k : ∀ L' C', N L' C' → N' L' C') (k' : ∀ s C', R s C' → R' s C') : WP ta C0 L C N' R' := fun G0 H0 σ G H D c0 tr sl hn hr =>
  h G0 H0 σ G H D c0 tr sl (fun L' C' σ' G' H' q => hn L' C' σ' G' H' (k _ _ q)) fun v s C' G' H' q => hr v s C' G' H' (k' _ _ q)
theorem wp_next (k : N L C) : WP tNext C0 L C N R := fun G0 H0 σ G H D c0 tr sl hn hr => hn L C σ G H k tr (Ex.refl _) sl
theorem wp_asg {i : Nat} (h : Xe te L C s C') (k : N (L.set i (some s)) C') : WP (tAsg te (gName i)) C0 L C N R := fun G0 H0 σ G H D c0 tr sl hn hr =>
  h σ G H sl tr.dn tr.cl _ fun v G1 H1 t1 p1 => hn _ _ _ G1 H1 k (tr.trans c0 t1) t1.up ((sl.ex t1.up).set p1)
theorem wp_set {i : Nat} (h : Xe te L C s C') (k : WP tb C0 (L.set i (some s)) C' N R) : WP (tSeq (tAsg te (gName i)) tb) C0 L C N R := wp_seq (wp_asg h k)
theorem wp_expr (h : Xe te L C s C') (k : N L C') : WP (tDrop te) C0 L C N R := fun G0 H0 σ G H D c0 tr sl hn hr =>
  h σ G H sl tr.dn tr.cl _ fun v G1 H1 t1 p1 => hn _ _ _ G1 H1 k (tr.trans c0 t1) t1.up (sl.ex t1.up)
theorem wp_ret (h : Xe te L C s C') (k : R s C') : WP (tRet te) C0 L C N R := fun G0 H0 σ G H D c0 tr sl hn hr =>
  h σ G H sl tr.dn tr.cl _ fun v G1 H1 t1 p1 => hr v s C' G1 H1 k (tr.trans c0 t1) p1
theorem wp_retN (k : R nn C) : WP tRetN C0 L C N R := fun G0 H0 σ G H D c0 tr sl hn hr => hr .non nn C G H k tr rfl
theorem wp_if (h : Xt t L C b C') (h1 : b = true → WP tu C0 L C' N R) (h2 : b = false → WP tw C0 L C' N R) : WP (tIfS t tu tw) C0 L C N R := fun G0 H0 σ G H D c0 tr sl hn hr =>
  h σ G H sl tr.dn tr.cl _ fun G1 H1 t1 => by
    have hn' := fun L2 C2 σ2 G2 H2 q t2 e2 s2 => hn L2 C2 σ2 G2 H2 q t2 (t1.up.trans e2) s2
    cases b with
    | true => exact h1 rfl G0 H0 σ G1 H1 D c0 (tr.trans c0 t1) (sl.ex t1.up) hn' hr
    | false => exact h2 rfl G0 H0 σ G1 H1 D c0 (tr.trans c0 t1) (sl.ex t1.up) hn' hr
/-- if c: return .. and what follows -/
theorem wp_when (h : Xt t L C b C') (h1 : b = true → WP tu C0 L C' (fun L' C' => WP tb C0 L' C' N R) R) (h2 : b = false → WP tb C0 L C' N R) : WP (tSeq (tIfS t tu tNext) tb) C0 L C N R :=
  wp_seq (wp_if h h1 fun q => wp_next (h2 q))
theorem wp_augI {i : Nat} {f : Int → Int → Int} {a c : Int} (hx : L[i]? = some (some (it a))) (h : Xe te L C (it c) C') (k : N (L.set i (some (it (f a c)))) C') : WP (tAug i te (ipI f)) C0 L C N R := fun G0 H0 σ G H D c0 tr sl hn hr => by
  obtain ⟨v, h1, h2⟩ := sl.at' i _ hx
  cases h2
  refine ⟨.int a, h1, h σ G H sl tr.dn tr.cl _ fun v G1 H1 t1 r1 => ?_⟩
  cases r1
  exact ⟨a, c, rfl, rfl, hn _ _ _ G1 H1 k (tr.trans c0 t1) t1.up ((sl.ex t1.up).set (x := it (f a c)) (.int _))⟩
/-- x = [], which will be changed -/
theorem wp_open {i : Nat} (k : ∀ p, ¬ In C p → ¬ In C0 p → N (L.set i (some (rf p))) ((p, cL []) :: C)) : WP (tAsg (tLst tNil) (gName i)) C0 L C N R := fun G0 H0 σ G H D c0 tr sl hn hr =>
  ⟨Nat.zero_le _, fun p hp => by
    have n := tr.cl.not hp
    refine hn _ _ _ G _ (k p n fun q => n (tr.kee p q)) (tr.trans c0 (Tr.open tr.dn tr.cl hp ⟨[], rfl, .nil⟩)) (Ex.refl _) (sl.set (x := rf p) rfl)⟩
theorem wp_new {i : Nat} (k : ∀ p, ¬ In C p → ¬ In C0 p → WP tb C0 (L.set i (some (rf p))) ((p, cL []) :: C) N R) : WP (tSeq (tAsg (tLst tNil) (gName i)) tb) C0 L C N R := wp_seq (wp_open k)
/-- xs.append(e) -/
theorem wp_push {p : Addr} {i : Nat} (Ca Cb : Cs) (hi : L[i]? = some (some (rf p))) (hc : (p, cL ds) ∈ C) (h : Xe te L C (dt d) (Ca ++ (p, cL es) :: Cb)) (hz : es.length < 1000000) (k : N L (Ca ++ (p, cL (es ++ [d])) :: Cb)) : WP (tDrop (tBM K "list" rAppend (tVar i) (tCons te tNil))) C0 L C N R := fun G0 H0 σ G H D c0 tr sl hn hr => by
  obtain ⟨v, h1, h2⟩ := sl.at' i _ hi
  cases h2
  obtain ⟨o, q1, ⟨xs, rfl, hx⟩, q3⟩ := tr.cl.at' p _ hc
  refine ⟨.ref p, h1, .inl ⟨rfl, _, sq_of q1⟩, h σ G H sl tr.dn tr.cl _ fun v G1 H1 t1 r1 => ?_⟩
  obtain ⟨o, k1, ⟨ys, rfl, hy⟩, k3⟩ := t1.cl.at' p (cL es) (List.mem_append.2 (.inr List.mem_cons_self))
  refine ⟨p, ys, v, rfl, rfl, k1, ?_, hn _ _ _ G1 _ k ((tr.trans c0 t1).trans c0 (Tr.put t1.dn t1.cl ⟨ys ++ [v], rfl, hy.push r1⟩)) t1.up (sl.ex t1.up)⟩
  rw [hy.len]; exact Nat.lt_of_lt_of_le hz (by decide)
/-- xs.extend(e) -/
theorem wp_ext {p : Addr} {i : Nat} {fs : List PyData} (Ca Cb : Cs) (hi : L[i]? = some (some (rf p))) (hc : (p, cL ds) ∈ C) (h : Xe te L C (dt (.list fs)) (Ca ++ (p, cL es) :: Cb)) (hz : es.length + fs.length ≤ 1000000) (k : N L (Ca ++ (p, cL (es ++ fs)) :: Cb)) : WP (tDrop (tBM K "list" rExtend (tVar i) (tCons te tNil))) C0 L C N R := fun G0 H0 σ G H D c0 tr sl hn hr => by
  obtain ⟨v, h1, h2⟩ := sl.at' i _ hi
  cases h2
  obtain ⟨o, q1, ⟨xs, rfl, hx⟩, q3⟩ := tr.cl.at' p _ hc
  refine ⟨.ref p, h1, .inl ⟨rfl, _, sq_of q1⟩, h σ G H sl tr.dn tr.cl _ fun v G1 H1 t1 r1 => ?_⟩
  obtain ⟨o, k1, ⟨ys, rfl, hy⟩, k3⟩ := t1.cl.at' p (cL es) (List.mem_append.2 (.inr List.mem_cons_self))
  obtain ⟨b, zs, rfl, hb, hz2⟩ := Rp.list r1
  refine ⟨p, b, ys, zs, rfl, rfl, k1, t1.dn _ _ hb, ?_, hn _ _ _ G1 _ k ((tr.trans c0 t1).trans c0 (Tr.put t1.dn t1.cl ⟨ys ++ zs, rfl, hy.append hz2⟩)) t1.up (sl.ex t1.up)⟩
  rw [hy.len, hz2.len]; exact Nat.le_trans hz (by decide)
/-- xs[i] = e -/
theorem wp_ret0 {p : Addr} {i : Nat} (hi : L[i]? = some (some s)) (k : R s C) : WP (tRet (tVar i)) C0 L C N R := wp_ret (xe_v i hi) k
/-- return of one's own list, which comes to rest -/
theorem wp_retOwn {p : Addr} {i : Nat} (Ca Cb : Cs) (hi : L[i]? = some (some (rf p))) (hc : C = Ca ++ (p, cL ds) :: Cb) (n : ¬ In C0 p) (k : R (dt (.list ds)) (Ca ++ Cb)) : WP (tRet (tVar i)) C0 L C N R := fun G0 H0 σ G H D c0 tr sl hn hr => by
  subst hc
  obtain ⟨v, h1, h2⟩ := sl.at' i _ hi
  cases h2
  obtain ⟨o, ⟨xs, rfl, hx⟩, q2, q3, t1⟩ := tr.rest n
  exact ⟨.ref p, h1, hr _ _ _ _ _ k t1 (.lst upd_same (hx.ex (Ex.new q2)))⟩
/-- one's own list comes to rest -/
theorem wp_still {p : Addr} {i : Nat} (Ca Cb : Cs) (hi : L[i]? = some (some (rf p))) (hc : C = Ca ++ (p, cL ds) :: Cb) (n : ¬ In C0 p) (k : WP ta C0 (L.set i (some (dt (.list ds)))) (Ca ++ Cb) N R) : WP ta C0 L C N R := fun G0 H0 σ G H D c0 tr sl hn hr => by
  subst hc
  obtain ⟨v, h1, h2⟩ := sl.at' i _ hi
  cases h2
  obtain ⟨o, ⟨xs, rfl, hx⟩, q2, q3, t1⟩ := tr.rest n
  have e := Ex.new (o := .lst xs) q2
  have s2 := (sl.ex e).set (i := i) (v := .ref p) (x := dt (.list ds)) (.lst upd_same (hx.ex e))
  have es : σ.set i (some (.ref p)) = σ := by
    refine List.ext_getElem? fun k => ?_
    rw [List.getElem?_set]
    by_cases q : i = k
    · subst q
      rw [if_pos rfl, if_pos (List.getElem?_eq_some_iff.1 h1).1, h1]
    · rw [if_neg q]
  rw [es] at s2
  exact k G0 H0 σ _ H D c0 t1 s2 (fun L2 C2 σ2 G2 H2 q t2 e2 s2 => hn L2 C2 σ2 G2 H2 q t2 (e.trans e2) s2) hr
theorem wp_wipe (ws : List Nat) (k : WP ta C0 (wipeL L ws) C N R) : WP ta C0 L C N R := fun G0 H0 σ G H D c0 tr sl hn hr => k G0 H0 σ G H D c0 tr (sl.wipe ws) hn hr
theorem wp_drop {p : Addr} {c : CP} (Ca Cb : Cs) (hc : C = Ca ++ (p, c) :: Cb) (n : ¬ In C0 p) (k : WP ta C0 L (Ca ++ Cb) N R) : WP ta C0 L C N R := fun G0 H0 σ G H D c0 tr sl hn hr => by
  subst hc
  exact k G0 H0 σ G H D c0 (tr.drop n) sl hn hr
theorem wp_perm (p : C.Perm C') (k : WP ta C0 L C' N R) : WP ta C0 L C N R := fun G0 H0 σ G H D c0 tr sl hn hr => k G0 H0 σ G H D c0 (tr.perm (List.Perm.refl _) p) sl hn hr
/-! ### loops -/
theorem wp_for {j : Nat} (I : Nat → Sls → Cs → Prop) (h : Xe tl L C (dt (.list ds)) C') (h0 : I 0 L C') (hs : ∀ i d L' C1, ds[i]? = some d → I i L' C1 → WP tu C0 (L'.set j (some (dt d))) C1 (I (i + 1)) R)
    (hd : ∀ L' C1, I ds.length L' C1 → N L' C1) : WP (tFor (iList K tl) (gName j) tu) C0 L C N R := fun G0 H0 σ G H D c0 tr sl hn hr => by
  refine h σ G H sl tr.dn tr.cl _ fun v G1 H1 t1 r1 => ?_
  obtain ⟨a, xs, rfl, ha, hx⟩ := Rp.list r1
  refine ⟨a, rfl, ⟨xs, sq_of (t1.dn _ _ ha)⟩, for_list (K := K) (a := a) (xs := xs) (fun i σ' H' => ∃ L' C1 G', I i L' C1 ∧ Ex G1 G' ∧ Tr C0 G0 H0 C1 G' H' ∧ Sl G' σ' L') ⟨L, C', G1, h0, Ex.refl _, tr.trans c0 t1, sl.ex t1.up⟩ ?_ ?_ ?_⟩
  · rintro i σ' H' _ ⟨L', C1, G', _, e, t, _⟩
    exact sq_of (t.dn _ _ (e _ _ ha))
  · rintro i x σ' H' hi ⟨L', C1, G', hI, e, t, sl'⟩
    obtain ⟨dx, hdx, rx⟩ := hx.getv hi
    refine hs i dx L' C1 hdx hI G0 H0 (σ'.set j (some x)) G' H' _ c0 t (sl'.set (x := dt dx) (rx.ex e)) (fun L2 C2 σ2 G2 H2 q t2 e2 s2 => ?_) hr
    exact ⟨L2, C2, G2, q, e.trans e2, t2, s2⟩
  · rintro σ' H' ⟨L', C1, G', hI, e, t, sl'⟩
    rw [hx.len] at hI
    exact hn L' C1 σ' G' H' (hd _ _ hI) t (t1.up.trans e) sl'
theorem one_int {G : Hp} {vs : List V} {i : Int} (h : Ar G vs [it i]) : vs = [.int i] := by
  cases h with
  | cons a b => cases a; cases b; rfl
theorem two_int {G : Hp} {vs : List V} {i j : Int} (h : Ar G vs [it i, it j]) : vs = [.int i, .int j] := by
  cases h with
  | cons a b =>
    cases a
    rw [one_int b]
theorem three_int {G : Hp} {vs : List V} {i j k : Int} (h : Ar G vs [it i, it j, it k]) : vs = [.int i, .int j, .int k] := by
  cases h with
  | cons a b =>
    cases a
    rw [two_int b]
theorem wp_rng {ta : TA} {j n : Nat} (I : Nat → Sls → Cs → Prop) (h : Xa ta L C [it n] C') (hn0 : n ≤ 1000000) (h0 : I 0 L C') (hs : ∀ i L' C1, i < n → I i L' C1 → WP tu C0 (L'.set j (some (it (i : Nat)))) C1 (I (i + 1)) R)
    (hd : ∀ L' C1, I n L' C1 → N L' C1) : WP (tFor (iRng1 ta) (gName j) tu) C0 L C N R := fun G0 H0 σ G H D c0 tr sl hn hr => by
  refine h σ G H sl tr.dn tr.cl _ fun vs G1 H1 t1 r1 => ?_
  obtain rfl := one_int r1
  refine ⟨(n : Int), rfl, by omega, by omega, ?_⟩
  have := for_range (lo := 0) (n := n) (g := gName j) (tb := tu) (D := D) (σ := σ) (H := H1) (fun i σ' H' => ∃ L' C1 G', I i L' C1 ∧ Ex G1 G' ∧ Tr C0 G0 H0 C1 G' H' ∧ Sl G' σ' L') ⟨L, C', G1, h0, Ex.refl _, tr.trans c0 t1, sl.ex t1.up⟩ (fun i σ' H' hi ⟨L', C1, G', hI, e, t, sl'⟩ => by
    have e0 : (0 : Int) + (i : Int) = (i : Int) := Int.zero_add _
    show tu _ (σ'.set j (some (.int ((0 : Int) + (i : Int))))) H'
    rw [e0]
    refine hs i L' C1 hi hI G0 H0 (σ'.set j (some (.int (i : Int)))) G' H' _ c0 t (sl'.set (x := it (i : Nat)) (.int _)) (fun L2 C2 σ2 G2 H2 q t2 e2 s2 => ?_) hr
    exact ⟨L2, C2, G2, q, e.trans e2, t2, s2⟩) (fun σ' H' ⟨L', C1, G', hI, e, t, sl'⟩ => hn L' C1 σ' G' H' (hd _ _ hI) t (t1.up.trans e) sl')
  rw [Int.toNat_natCast]
  exact this
/-- for j in range(1, n) -/
theorem wp_rng1 {ta : TA} {j n : Nat} (I : Nat → Sls → Cs → Prop) (h : Xa ta L C [it 1, it n] C') (hn0 : n ≤ 1000000) (h0 : I 0 L C') (hs : ∀ i L' C1, i < n - 1 → I i L' C1 → WP tu C0 (L'.set j (some (it ((i + 1 : Nat) : Int)))) C1 (I (i + 1)) R)
    (hd : ∀ L' C1, I (n - 1) L' C1 → N L' C1) : WP (tFor (iRng2 ta) (gName j) tu) C0 L C N R := fun G0 H0 σ G H D c0 tr sl hn hr => by
  refine h σ G H sl tr.dn tr.cl _ fun vs G1 H1 t1 r1 => ?_
  obtain rfl := two_int r1
  refine ⟨1, (n : Int), rfl, by omega, ?_⟩
  have := for_range (lo := 1) (n := n - 1) (g := gName j) (tb := tu) (D := D) (σ := σ) (H := H1) (fun i σ' H' => ∃ L' C1 G', I i L' C1 ∧ Ex G1 G' ∧ Tr C0 G0 H0 C1 G' H' ∧ Sl G' σ' L') ⟨L, C', G1, h0, Ex.refl _, tr.trans c0 t1, sl.ex t1.up⟩ (fun i σ' H' hi ⟨L', C1, G', hI, e, t, sl'⟩ => by
    have e0 : (1 : Int) + (i : Int) = ((i + 1 : Nat) : Int) := by omega
    show tu _ (σ'.set j (some (.int ((1 : Int) + (i : Int))))) H'
    rw [e0]
    refine hs i L' C1 hi hI G0 H0 (σ'.set j (some (.int ((i + 1 : Nat) : Int)))) G' H' _ c0 t (sl'.set (x := it ((i + 1 : Nat) : Int)) (.int _)) (fun L2 C2 σ2 G2 H2 q t2 e2 s2 => ?_) hr
    exact ⟨L2, C2, G2, q, e.trans e2, t2, s2⟩) (fun σ' H' ⟨L', C1, G', hI, e, t, sl'⟩ => hn L' C1 σ' G' H' (hd _ _ hI) t (t1.up.trans e) sl')
  have en : ((n : Int) - 1).toNat = n - 1 := by omega
  rw [en]
  exact this
theorem wp_while {m0 : Nat} (I : Nat → Sls → Cs → Prop) (h0 : I m0 L C) (hs : ∀ m L' C1, I m L' C1 → ∃ b C2, Xt t L' C1 b C2 ∧ (b = true → WP tu C0 L' C2 (fun L2 C3 => ∃ m', m' < m ∧ I m' L2 C3) R) ∧ (b = false → N L' C2)) : WP (tWhile t tu) C0 L C N R := fun G0 H0 σ G H D c0 tr sl hn hr => by
  refine ⟨fun m σ' H' => ∃ L' C1 G', I m L' C1 ∧ Ex G G' ∧ Tr C0 G0 H0 C1 G' H' ∧ Sl G' σ' L', ⟨m0, L, C, G, h0, Ex.refl _, tr, sl⟩, ?_⟩
  rintro m σ' H' ⟨L', C1, G', hI, e, t1, s1⟩
  obtain ⟨b, C2, ht, k1, k2⟩ := hs m L' C1 hI
  refine ht σ' G' H' s1 t1.dn t1.cl _ fun G2 H2 t2 => ?_
  cases b with
  | true =>
    refine ⟨fun σ3 H3 => ∃ m', m' < m ∧ ∃ L' C1 G', I m' L' C1 ∧ Ex G G' ∧ Tr C0 G0 H0 C1 G' H3 ∧ Sl G' σ3 L', fun σ3 H3 h => h, ?_⟩
    refine k1 rfl G0 H0 σ' G2 H2 _ c0 (t1.trans c0 t2) (s1.ex t2.up) (fun L3 C3 σ3 G3 H3 ⟨m', lt, q⟩ t3 e3 s3 => ?_) hr
    exact ⟨m', lt, L3, C3, G3, q, (e.trans t2.up).trans e3, t3, s3⟩
  | false =>
    exact hn L' C2 σ' G2 H2 (k2 rfl) (t1.trans c0 t2) (e.trans t2.up) (s1.ex t2.up)
end
end Wk
end
section
set_option Elab.async false
set_option linter.all false
set_option maxRecDepth 100000
namespace Wk
open PySem PySem.Spec PyProof.Rows L2
open Evl (Ex ex_l ex_t sq_of st_of)
/-! ### comprehensions -/
theorem wipe_one (σ : L2.St) (j : Nat) (x : V) : wipe ((wipe σ [j]).set j (some x)) [j] = wipe σ [j] := by
  show ((σ.set j none).set j (some x)).set j none = σ.set j none
  rw [List.set_set, List.set_set]
section
variable {K : PySem.W.Frag} {L : Sls} {C C' C0 Ca Cb : Cs} {te tl : TE} {tt : TT} {d : PyData} {ds : List PyData} {N : Sls → Cs → Prop} {R : SP → Cs → Prop}
theorem xt_frame {t : TT} {b : Bool} {Ca' : Cs} (h : Xt t L Ca b Ca') : Xt t L (Ca ++ Cb) b (Ca' ++ Cb) := fun σ G H sl e c Q q => h σ G H sl e c.left Q fun G' H' t => q G' H' (t.frame c)
theorem xt_yes : Xt tYes L C true C := fun σ G H sl e c Q q => q G H (Tr.rfl' e c)
theorem lcC {J : It} {n j : Nat} {Gd : Hp → Prop} {Y : Nat → Hp → V → Hp → Prop} {G1 H1 : Hp} {σ : L2.St} {D : Addr} {Q : Hp → Prop} (w : Walk J n Gd Y) (f : Nat → SP) (p : Nat → Bool) (g : Nat → PyData)
    (hG : ∀ G' H', Ex G1 G' → Ex G' H' → Gd H') (hY : ∀ i H x H', i < n → Y i H x H' → H' = H ∧ (f i).p G1 x) (ht : ∀ i, i < n → Xt tt ((wipeL L [j]).set j (some (f i))) C (p i) C) (he : ∀ i, i < n → p i = true → Xe te ((wipeL L [j]).set j (some (f i))) C (dt (g i)) C)
    (hn : n ≤ 1000000) (sl : Sl G1 σ L) (e : Ex G1 H1) (c : Cl C G1 H1) (hD : H1 D = none) (k : ∀ G' H', Tr C G1 H1 (C ++ [(D, cL (((List.range n).filter p).map g))]) G' H' → Q H') :
    ∃ W : Nat → Nat → Hp → Prop, (∃ m, W 0 m (upd H1 D (.lst []))) ∧ ∀ i m H, W i m H →
      (J.stop i H ∧ Q H) ∨ (J.go i H ∧ ∃ Nx : Hp → Prop, (∀ H', Nx H' → ∃ m', m' < m ∧ W (i + 1) m' H') ∧ ∀ x H', J.yld i H x H' → gName j x (wipe σ [j]) H' fun σ2 H2 => wipe σ2 [j] = wipe σ [j] ∧ tt σ2 H2 fun b H3 =>
        if b = true then te σ2 H3 fun y H4 => ∃ acc, H4 D = some (.lst acc) ∧ acc.length < sizeLine ∧ Nx (upd H4 D (.lst (acc ++ [y]))) else Nx H3) := by
  refine lc_it (Qd := Q) w (fun i H' => ∃ G', Tr C G1 H1 (C ++ [(D, cL (((List.range i).filter p).map g))]) G' H') ⟨G1, (Tr.open (x := cL []) e c hD ⟨[], rfl, .nil⟩).perm (List.Perm.refl _) (List.perm_append_comm (l₁ := [_]))⟩ ?_ ?_ ?_
  · rintro i H' _ ⟨G', t⟩
    exact hG G' H' t.up t.dn
  · rintro i x H' H2 hi ⟨G', t⟩ hy
    obtain ⟨rfl, hf⟩ := hY i H' x H2 hi hy
    refine ⟨wipe_one σ j x, ?_⟩
    have s2 : Sl G' ((wipe σ [j]).set j (some x)) ((wipeL L [j]).set j (some (f i))) := ((sl.ex t.up).wipe2 [j]).set ((f i).mono t.up hf)
    have hd' : ¬ In C D := c.not hD
    refine xt_frame (ht i hi) _ G' H2 s2 t.dn t.cl _ fun G3 H3 t3 => ?_
    have er : (List.range (i + 1)).filter p = (List.range i).filter p ++ (if p i = true then [i] else []) := by
      rw [List.range_succ, List.filter_append]
      congr 1
      cases q : p i <;> simp [List.filter, q]
    by_cases hp : p i = true
    · rw [if_pos hp] at er ⊢
      refine xe_frame (he i hi hp) _ G3 H3 (s2.ex t3.up) t3.dn t3.cl _ fun v G4 H4 t4 r4 => ?_
      obtain ⟨o, k1, ⟨ys, rfl, hy2⟩, k3⟩ := t4.cl.at' D _ (List.mem_append.2 (.inr List.mem_cons_self))
      refine ⟨ys, k1, ?_, G4, ?_⟩
      · rw [hy2.len, List.length_map]
        have := List.length_filter_le p (List.range i)
        rw [List.length_range] at this
        exact Nat.lt_of_lt_of_le (by omega : _ < 1000000) (by decide)
      · rw [er, List.map_append]
        exact ((t.trans c t3).trans c t4).trans c (Tr.put (y := cL (((List.range i).filter p).map g ++ [g i])) t4.dn t4.cl ⟨ys ++ [v], rfl, hy2.push r4⟩)
    · rw [if_neg hp] at er ⊢
      rw [er, List.append_nil]
      exact ⟨G3, t.trans c t3⟩
  · rintro H' ⟨G', t⟩
    exact k G' H' t
/-- [e for x in xs if ..] -/
theorem xe_lcF {j : Nat} (p : PyData → Bool) (g : PyData → PyData) (h : Xe tl L C (dt (.list ds)) C') (hz : ds.length ≤ 1000000) (ht : ∀ dx, dx ∈ ds → Xt tt ((wipeL L [j]).set j (some (dt dx))) C' (p dx) C')
    (he : ∀ dx, dx ∈ ds → p dx = true → Xe te ((wipeL L [j]).set j (some (dt dx))) C' (dt (g dx)) C') : Xe (tLc (iList K tl) (gName j) tt te [j]) L C (dt (.list ((ds.filter p).map g))) C' := fun σ G H sl e c Q q => h σ G H sl e c _ fun v G1 H1 t1 r1 => by
  obtain ⟨a, xs, rfl, ha, hx⟩ := Rp.list r1
  refine ⟨a, rfl, ⟨xs, sq_of (t1.dn _ _ ha)⟩, fun D hD => ?_⟩
  have hm : ∀ i, i < xs.length → ds.getD i .none ∈ ds := fun i hi => by
    rw [hx.len] at hi
    rw [List.getD_eq_getElem?_getD, List.getElem?_eq_getElem hi]
    exact List.getElem_mem hi
  refine lcC (C := C') (walk_list (K := K) (a := a) (xs := xs)) (fun i => dt (ds.getD i .none)) (fun i => p (ds.getD i .none)) (fun i => g (ds.getD i .none)) (fun G' H' e1 e2 => sq_of (e2 _ _ (e1 _ _ ha))) (fun i H x H' hi y => ?_) (fun i hi => ht _ (hm i hi)) (fun i hi hp => he _ (hm i hi) hp)
    (by rw [hx.len]; exact hz) (sl.ex t1.up) t1.dn t1.cl hD fun G' H' t => ?_
  · obtain ⟨rfl, hy⟩ := y
    obtain ⟨dx, hdx, rx⟩ := hx.getv hy
    refine ⟨rfl, ?_⟩
    rw [List.getD_eq_getElem?_getD, hdx]
    exact rx
  · have el : ((List.range xs.length).filter fun i => p (ds.getD i .none)).map (fun i => g (ds.getD i .none)) = (ds.filter p).map g := by
      rw [hx.len]
      have e1 : ds = (List.range ds.length).map (fun i => ds.getD i .none) := List.ext_getElem (by simp) fun i h1 h2 => by simp [h1]
      conv => rhs; rw [e1, List.filter_map, List.map_map]
      rfl
    rw [el] at t
    obtain ⟨o, ⟨ys, rfl, hy⟩, k1, k2, t2⟩ := t.rest (t1.cl.not hD)
    rw [List.append_nil] at t2
    exact q _ _ _ (t1.trans c t2) (.lst upd_same (hy.ex (Ex.new k1)))
theorem xe_lc {j : Nat} (g : PyData → PyData) (h : Xe tl L C (dt (.list ds)) C') (hz : ds.length ≤ 1000000) (he : ∀ dx, dx ∈ ds → Xe te ((wipeL L [j]).set j (some (dt dx))) C' (dt (g dx)) C') : Xe (tLc (iList K tl) (gName j) tYes te [j]) L C (dt (.list (ds.map g))) C' := by
  have := xe_lcF (K := K) (tt := tYes) (fun _ => true) g h hz (fun _ _ => xt_yes) fun dx hd _ => he dx hd
  rwa [List.filter_eq_self.2 (fun _ _ => rfl)] at this
/-- [e for x in range(n)] -/
theorem xe_lcR {ta : TA} {j n : Nat} (g : Nat → PyData) (h : Xa ta L C [it n] C') (hn : n ≤ 1000000) (he : ∀ i, i < n → Xe te ((wipeL L [j]).set j (some (it (i : Nat)))) C' (dt (g i)) C') : Xe (tLc (iRng1 ta) (gName j) tYes te [j]) L C (dt (.list ((List.range n).map g))) C' := fun σ G H sl e c Q q => h σ G H sl e c _ fun us G1 H1 t1 r1 => by
  obtain rfl := one_int r1
  refine ⟨(n : Int), rfl, by omega, by omega, fun D hD => ?_⟩
  rw [Int.toNat_natCast]
  refine lcC (C := C') (walk_range (lo := 0) (n := n)) (fun i => it (i : Nat)) (fun _ => true) g (fun _ _ _ _ => trivial) (fun i H x H' hi y => ?_) (fun i hi => xt_yes) (fun i hi _ => he i hi) hn (sl.ex t1.up) t1.dn t1.cl hD fun G' H' t => ?_
  · obtain ⟨rfl, rfl⟩ := y
    have : (0 : Int) + (i : Int) = (i : Int) := Int.zero_add _
    refine ⟨rfl, ?_⟩
    show Rp G1 (V.int (0 + (i : Int))) (.int (i : Int))
    rw [this]
    exact .int _
  · rw [List.filter_eq_self.2 (fun _ _ => rfl)] at t
    obtain ⟨o, ⟨ys, rfl, hy⟩, k1, k2, t2⟩ := t.rest (t1.cl.not hD)
    rw [List.append_nil] at t2
    exact q _ _ _ (t1.trans c t2) (.lst upd_same (hy.ex (Ex.new k1)))
/-- the same, of which a cell is made -/
theorem wp_lcRc {ta : TA} {i0 j n : Nat} (g : Nat → PyData) (h : Xa ta L C [it n] C') (hn : n ≤ 1000000) (he : ∀ i, i < n → Xe te ((wipeL L [j]).set j (some (it (i : Nat)))) C' (dt (g i)) C') (k : ∀ p, ¬ In C' p → ¬ In C0 p → N (L.set i0 (some (rf p))) (C' ++ [(p, cL ((List.range n).map g))])) : WP (tAsg (tLc (iRng1 ta) (gName j) tYes te [j]) (gName i0)) C0 L C N R := fun G0 H0 σ G H D0 c0 tr sl hn' hr => by
  refine h σ G H sl tr.dn tr.cl _ fun us G1 H1 t1 r1 => ?_
  obtain rfl := one_int r1
  refine ⟨(n : Int), rfl, by omega, by omega, fun D hD => ?_⟩
  rw [Int.toNat_natCast]
  refine lcC (C := C') (walk_range (lo := 0) (n := n)) (fun i => it (i : Nat)) (fun _ => true) g (fun _ _ _ _ => trivial) (fun i H x H' hi y => ?_) (fun i hi => xt_yes) (fun i hi _ => he i hi) hn (sl.ex t1.up) t1.dn t1.cl hD fun G' H' t => ?_
  · obtain ⟨rfl, rfl⟩ := y
    have : (0 : Int) + (i : Int) = (i : Int) := Int.zero_add _
    refine ⟨rfl, ?_⟩
    show Rp G1 (V.int (0 + (i : Int))) (.int (i : Int))
    rw [this]
    exact .int _
  · rw [List.filter_eq_self.2 (fun _ _ => rfl)] at t
    have n1 := t1.cl.not hD
    have tt := tr.trans c0 t1
    exact hn' _ _ _ G' H' (k D n1 fun q => n1 (tt.kee D q)) (tt.trans c0 t) (t1.up.trans t.up) (((sl.ex t1.up).ex t.up).set (x := rf D) rfl)
/-- [e for x in range(0, m, 2)], m = 2 * n -/
theorem xe_lcR2 {ta : TA} {j n : Nat} (g : Nat → PyData) (h : Xa ta L C [it 0, it ((2 * n : Nat) : Int), it 2] C') (hn : n ≤ 1000000) (he : ∀ i, i < n → Xe te ((wipeL L [j]).set j (some (it ((2 * i : Nat) : Int)))) C' (dt (g i)) C') : Xe (tLc (iRng3 ta) (gName j) tYes te [j]) L C (dt (.list ((List.range n).map g))) C' := fun σ G H sl e c Q q => h σ G H sl e c _ fun us G1 H1 t1 r1 => by
  obtain rfl := three_int r1
  have sz : Builtin.Range.rangeSize 0 ((2 * n : Nat) : Int) 2 = (n : Int) := by
    unfold Builtin.Range.rangeSize
    rw [if_pos (by decide)]
    split <;> omega
  refine ⟨0, ((2 * n : Nat) : Int), 2, n, rfl, ⟨by decide, by decide, ?_, sz⟩, fun D hD => ?_⟩
  · unfold Builtin.Range.small
    rw [sz]
    have ft : ∀ z : Int, -9000000 ≤ z → z ≤ 9000000 → Builtin.Range.rangeFitsLong z = true := fun z h1 h2 => by
      unfold Builtin.Range.rangeFitsLong
      rw [Bool.and_eq_true, decide_eq_true_eq, decide_eq_true_eq]
      constructor <;> omega
    rw [ft 0 (by decide) (by decide), ft _ (by omega) (by omega), ft 2 (by decide) (by decide), ft (n : Int) (by omega) (by omega), if_pos (by decide), ft _ (by omega) (by omega)]
    simp
  refine lcC (C := C') (walk_rangeC (lo := 0) (c := 2) (n := n)) (fun i => it ((2 * i : Nat) : Int)) (fun _ => true) g (fun _ _ _ _ => trivial) (fun i H x H' hi y => ?_) (fun i hi => xt_yes) (fun i hi _ => he i hi) hn (sl.ex t1.up) t1.dn t1.cl hD fun G' H' t => ?_
  · obtain ⟨rfl, rfl⟩ := y
    have : (0 : Int) + (i : Int) * 2 = ((2 * i : Nat) : Int) := by omega
    refine ⟨rfl, ?_⟩
    show Rp G1 (V.int (0 + (i : Int) * 2)) (.int ((2 * i : Nat) : Int))
    rw [this]
    exact .int _
  · rw [List.filter_eq_self.2 (fun _ _ => rfl)] at t
    obtain ⟨o, ⟨ys, rfl, hy⟩, k1, k2, t2⟩ := t.rest (t1.cl.not hD)
    rw [List.append_nil] at t2
    exact q _ _ _ (t1.trans c t2) (.lst upd_same (hy.ex (Ex.new k1)))
end
end Wk
end
section
set_option Elab.async false
set_option linter.all false
set_option maxRecDepth 100000
namespace Wk
open PySem PySem.Spec PyProof.Rows L2
open Evl (Ex ex_l ex_t sq_of st_of)
open My (T3 cf placeM)
def topS (i : Nat) : Stmt := PySem.Challenge.pw_holedregions_s01_answers.main.body.getD i (.Pass ⟨0, 0, 0, 0⟩)
/-- a number of the module -/
def Ct (mg : Str → Option Value) (x : Str) (n : Int) : Prop := ∃ t, mg x = some (.int n t)
theorem pe_ct {X : Cx} {x : Str} {n : Int} {pos : Pos} (h : Ct X.mg x n) (hg : Gl X x) (hdb : (x == ("__debug__" : Str)) = false := by decide) : PE X (.Name x pos) (tC (.int n)) := by
  obtain ⟨t, h⟩ := h
  exact pe_glob hg h ⟨t, rfl⟩ hdb
theorem sl_start {G : Hp} {N : List Str} {vs : List V} {ss : List SP} (h : Ar G vs ss) : Sl G (L2.start N vs) (ss.map some ++ List.replicate (N.length - ss.length) none) := by
  unfold L2.start
  have hl := h.len
  refine ⟨by simp [hl], fun i s hs => ?_⟩
  have key : ∀ {vs : List V} {ss : List SP}, Ar G vs ss → ∀ (i : Nat) (r : Sls) (r' : L2.St), (∀ i : Nat, r[i]? ≠ some (some s)) → (ss.map some ++ r)[i]? = some (some s) → ∃ v, (vs.map some ++ r')[i]? = some (some v) ∧ s.p G v := by
    intro vs ss h
    induction h with
    | nil => intro i r r' hr hi; exact absurd hi (hr i)
    | @cons v vs z ss hz _ ih =>
      intro i r r' hr hi
      cases i with
      | zero =>
        simp at hi
        subst hi
        exact ⟨v, rfl, hz⟩
      | succ i => exact ih i r r' hr (by simpa using hi)
  refine key h i _ _ (fun j hj => ?_) hs
  rw [List.getElem?_replicate] at hj
  split at hj <;> cases hj
theorem Df.okF {P : Program} {w : World} {K : PySem.W.Frag} {mg : Str → Option Value} {base : Heap} {x : Str} {st : Stmt} {ps N : List Str} {k : Nat} {R : List SP → Cs → SP → Cs → Prop} (D : Df K mg x st ps) (S : FnScope N ps (defScope st)) (len : ∀ ss C s C', R ss C s C' → ss.length = ps.length)
    (hbody : ∀ (f : Addr) (cdv : Value) (A : Around) (outer : List Env) (s : Shared) (H : Hp) (E : XK), Room k (A.deeper (envOfC x (defScope st) s.heap.objs.size f cdv)) →
      ∃ t, PSs (cxOf CX0 P w K mg base N x (defScope st) f cdv A outer s H E).nox (defBody st) t ∧ ∀ ss C z C', R ss C z C' → WP t C (ss.map some ++ List.replicate (N.length - ss.length) none) C (fun _ C1 => z = nn ∧ C1 = C') (fun z1 C1 => z1 = z ∧ C1 = C')) : Ok P w K mg base (k + 1) x ps (spF R) := by
  refine D.ok S (fun vs H Q E h => ?_) fun f cdv A outer s H vs Q E hr h => ?_
  · obtain ⟨G, ss, C, z, C', e, c, ar, r, q⟩ := h
    rw [ar.len]; exact len _ _ _ _ r
  · obtain ⟨G, ss, C, z, C', e, c, ar, r, q⟩ := h
    obtain ⟨t, ht, hw⟩ := hbody f cdv A outer s H E hr
    refine ⟨t, ht, hw ss C z C' r G H (L2.start N vs) G H _ c (Tr.rfl' e c) (sl_start ar) (fun L' C1 σ' G' H' h tr _ _ => ?_) fun v s' C1 G' H' h tr p => ?_⟩
    · obtain ⟨rfl, rfl⟩ := h
      exact q _ G' H' tr rfl
    · obtain ⟨rfl, rfl⟩ := h
      exact q _ G' H' tr p
theorem Df.okP {P : Program} {w : World} {K : PySem.W.Frag} {mg : Str → Option Value} {base : Heap} {x : Str} {st : Stmt} {ps N : List Str} {k : Nat} {R : List PyData → PyData → Prop} (D : Df K mg x st ps) (S : FnScope N ps (defScope st)) (len : ∀ ds d, R ds d → ds.length = ps.length)
    (hbody : ∀ (f : Addr) (cdv : Value) (A : Around) (outer : List Env) (s : Shared) (H : Hp) (E : XK), Room k (A.deeper (envOfC x (defScope st) s.heap.objs.size f cdv)) →
      ∃ t, PSs (cxOf CX0 P w K mg base N x (defScope st) f cdv A outer s H E).nox (defBody st) t ∧ ∀ ds d, R ds d → WP t [] (ds.map (fun d => some (dt d)) ++ List.replicate (N.length - ds.length) none) [] (fun _ _ => False) (fun z1 C1 => z1 = dt d ∧ C1 = [])) : Ok P w K mg base (k + 1) x ps (spF (pR R)) := by
  refine D.okF S (fun ss C s C' h => ?_) fun f cdv A outer s H E hr => ?_
  · obtain ⟨ds, d, rfl, rfl, rfl, rfl, r⟩ := h
    rw [List.length_map]; exact len _ _ r
  · obtain ⟨t, ht, hw⟩ := hbody f cdv A outer s H E hr
    refine ⟨t, ht, fun ss C z C' h => ?_⟩
    obtain ⟨ds, d, rfl, rfl, rfl, rfl, r⟩ := h
    have := hw ds d r
    rw [List.map_map, List.length_map]
    exact wp_mono this (fun _ _ h => h.elim) fun _ _ h => h
/-! ### common_factor -/
def R_cf : List PyData → PyData → Prop := fun ds d => ∃ a b : Int, ds = [.int a, .int b] ∧ d = .int (cf a b)
theorem sc_cf : FnScope ["one", "other", "rest"] ["one", "other"] (defScope (topS 1)) := ⟨rfl, rfl, rfl, by decide +kernel, rfl, by decide +kernel, by decide +kernel⟩
theorem cf_step (a b : Int) (h : b ≠ 0) : cf b (a.fmod b) = cf a b ∧ (a.fmod b).natAbs < b.natAbs := by
  constructor
  · unfold cf
    congr 1
    have e : a = a.fmod b + b * a.fdiv b := (Int.fmod_add_mul_fdiv a b).symm
    conv => rhs; rw [e]
    rw [Int.gcd_comm (a.fmod b + b * a.fdiv b), Int.gcd_add_mul_left_right]
  · rcases Int.lt_or_gt_of_ne h with k | k
    · have h1 : a.fmod b = -((-a).fmod (-b)) := by
        have := Int.neg_fmod_neg a b
        omega
      have h2 := Int.fmod_nonneg_of_pos (-a) (by omega : 0 < -b)
      have h3 := Int.fmod_lt_of_pos (-a) (by omega : 0 < -b)
      omega
    · have h1 := Int.fmod_nonneg_of_pos a k
      have h2 := Int.fmod_lt_of_pos a k
      omega
theorem ok_cf {P : Program} {w : World} {K : PySem.W.Frag} {mg : Str → Option Value} {base : Heap} (D : Df K mg "common_factor" (topS 1) ["one", "other"]) (mabs : mg "abs" = none) : Ok P w K mg base 1 "common_factor" ["one", "other"] (spF (pR R_cf)) := by
  refine D.okP sc_cf (fun ds d h => by obtain ⟨a, b, rfl, _⟩ := h; rfl) fun f cdv A outer s H E hr => ⟨_, pss_cons (ps_while PassesOwn.never (pt_cmpR op_ne (pv 1) pe_int (nomark _)) (pss_cons (ps_set (i := 2) sc_cf.nd rfl (Or.inl rfl) (pe_op op_modN (pv 0) (pv 1))) (pss_cons (ps_set (i := 0) sc_cf.nd rfl (Or.inl rfl) (pv 1)) (pss_one (ps_set (i := 1) sc_cf.nd rfl (Or.inl rfl) (pv 2))))))
    (pss_one (ps_ret (pe_callB call_abs (by rfl) mabs boot_abs (pa_cons (pv 0) pa_nil)))), fun ds d h => ?_⟩
  obtain ⟨a, b, rfl, rfl⟩ := h
  refine wp_seq (wp_while (m0 := b.natAbs) (fun m L C => C = [] ∧ ∃ x y o, L = [some (it x), some (it y), o] ∧ m = y.natAbs ∧ cf x y = cf a b) ⟨rfl, a, b, none, rfl, rfl, rfl⟩ ?_)
  rintro m L C ⟨rfl, x, y, o, rfl, rfl, e⟩
  refine ⟨_, _, xt_test (xe_ne (xe_v 1 rfl) xe_i), fun h => ?_, fun h => ?_⟩
  · have hy : y ≠ 0 := by simpa using h
    refine wp_set (xe_I (xe_v 0 rfl) (xe_v 1 rfl) hy) (wp_set (xe_v 1 rfl) (wp_asg (xe_v 2 rfl) ?_))
    obtain ⟨h1, h2⟩ := cf_step x y hy
    exact ⟨_, h2, rfl, y, x.fmod y, _, rfl, rfl, h1.trans e⟩
  · have hy : y = 0 := by simpa using h
    subst hy
    refine wp_ret (xe_cb (xa_cons (xe_v 0 rfl) xa_nil) vn_abs) ⟨?_, rfl⟩
    have : (if x < 0 then -x else x) = cf a b := by
      rw [← e]
      unfold cf
      rw [Int.gcd_zero_right]
      split <;> omega
    rw [this]
end Wk
end
section
set_option Elab.async false
set_option linter.all false
set_option maxRecDepth 100000
namespace Wk
open PySem PySem.Spec PyProof.Rows L2
open Evl (Ex ex_l ex_t sq_of st_of)
open My (T3 Sd cf placeM beforeM crossM leftM midM meetM moveM fracM)
/-! ### how great numbers are -/
abbrev Bi (n : Nat) (i : Int) : Prop := i.natAbs < 2 ^ n
def Bt (n : Nat) (t : T3) : Prop := Bi n t.1 ∧ Bi n t.2.1 ∧ Bi n t.2.2
theorem Bi.mono {m n : Nat} {i : Int} (h : Bi m i) (k : m ≤ n) : Bi n i := Nat.lt_of_lt_of_le h (Nat.pow_le_pow_right (by decide) k)
theorem Bt.mono {m n : Nat} {t : T3} (h : Bt m t) (k : m ≤ n) : Bt n t := ⟨h.1.mono k, h.2.1.mono k, h.2.2.mono k⟩
theorem Bi.mul {m n : Nat} {i j : Int} (h : Bi m i) (k : Bi n j) : Bi (m + n) (i * j) := by
  unfold Bi at *
  rw [Int.natAbs_mul, Nat.pow_add]
  exact Nat.mul_lt_mul'' h k
theorem Bi.add {n : Nat} {i j : Int} (h : Bi n i) (k : Bi n j) : Bi (n + 1) (i + j) := by
  unfold Bi at *
  have := Int.natAbs_add_le i j
  rw [Nat.pow_succ]; omega
theorem Bi.sub {n : Nat} {i j : Int} (h : Bi n i) (k : Bi n j) : Bi (n + 1) (i - j) := by
  unfold Bi at *
  have := Int.natAbs_sub_le i j
  rw [Nat.pow_succ]; omega
theorem mul_ok {m n : Nat} {i j : Int} (h : Bi m i) (k : Bi n j) (h0 : 0 < m := by decide) (k0 : 0 < n := by decide) (l : m + n ≤ 1000000 := by decide) : CMulW i j := wide_mul h k h0 k0 l
theorem div_ok {n : Nat} {i j : Int} (h : j ≠ 0) (k : Bi n j) (h0 : 0 < n := by decide) (l : n ≤ 9000 := by decide) : CDivN i j := ⟨h, Nat.lt_of_lt_of_le (PySem.Flt.log2_lt_of h0 k) l⟩
theorem cross_bt {n : Nat} {a b : T3} (h : Bt n a) (k : Bt n b) : Bt (n + n + 1) (crossM a b) :=
  ⟨(h.2.1.mul k.2.2).sub (h.2.2.mul k.2.1), (h.2.2.mul k.1).sub (h.1.mul k.2.2), (h.1.mul k.2.1).sub (h.2.1.mul k.1)⟩
theorem fac_bi {n : Nat} {x f a : Int} (h : Bi n x) (hf : f ≠ 0) (e : x = f * a) : Bi n a := by
  unfold Bi at *
  refine Nat.lt_of_le_of_lt ?_ h
  rw [e, Int.natAbs_mul]
  exact Nat.le_mul_of_pos_left _ (Int.natAbs_pos.2 hf)
theorem place_bt {n : Nat} {x y z : Int} (hz : z ≠ 0) (hx : Bi n x) (hy : Bi n y) (h : Bi n z) : Bt n (placeM x y z) := by
  obtain ⟨f, a, b, c, hf, e1, e2, e3, e, _⟩ := My.place_spec (x := x) (y := y) hz
  rw [e]
  exact ⟨fac_bi hx hf e1, fac_bi hy hf e2, fac_bi h hf e3⟩
/-! ### data -/
def plD (t : T3) : PyData := .tuple [.int t.1, .int t.2.1, .int t.2.2]
def paD (p : T3 × T3) : PyData := .tuple [plD p.1, plD p.2]
def sdD (s : Sd) : PyData := .tuple [plD s.1, plD s.2.1, plD s.2.2]
def rgD (c : List T3) : PyData := .list (c.map plD)
def rsD (r : List (List T3)) : PyData := .list (r.map rgD)
def inD (l : List Int) : PyData := .list (l.map PyData.int)
/-! ### the program's names -/
structure Tx (K : PySem.W.Frag) (mg : Str → Option Value) : Prop where
  d_common_factor : Df K mg "common_factor" (topS 1) ["one", "other"]
  d_place : Df K mg "place" (topS 2) ["x", "y", "w"]
  d_fraction : Df K mg "fraction" (topS 3) ["above", "below"]
  d_moved : Df K mg "moved" (topS 4) ["spot", "move"]
  d_before : Df K mg "before" (topS 5) ["one", "other"]
  d_middle : Df K mg "middle" (topS 6) ["one", "other"]
  d_cross_product : Df K mg "cross_product" (topS 7) ["one", "other"]
  d_line_through : Df K mg "line_through" (topS 8) ["one", "other"]
  d_meeting : Df K mg "meeting" (topS 9) ["one", "other"]
  d_leftness : Df K mg "leftness" (topS 10) ["line", "spot"]
  d_side_between : Df K mg "side_between" (topS 16) ["one", "other"]
  d_sides_of : Df K mg "sides_of" (topS 17) ["rings"]
  d_is_on : Df K mg "is_on" (topS 18) ["side", "spot"]
  d_add_cut : Df K mg "add_cut" (topS 19) ["cuts", "spot"]
  d_cut_two : Df K mg "cut_two" (topS 20) ["one", "other", "one_cuts", "other_cuts"]
  d_add_ends : Df K mg "add_ends" (topS 21) ["cuts", "side", "first_off", "last_off"]
  d_stretches : Df K mg "stretches" (topS 22) ["sides"]
  d_beside : Df K mg "beside" (topS 23) ["spot", "sides"]
  d_is_in : Df K mg "is_in" (topS 24) ["kind", "in_one", "in_other"]
  d_border : Df K mg "border" (topS 25) ["kind", "one_sides", "other_sides"]
  d_rings_of : Df K mg "rings_of" (topS 27) ["border"]
  d_ways_on : Df K mg "ways_on" (topS 28) ["border"]
  d_ring_from : Df K mg "ring_from" (topS 29) ["part", "ways", "used"]
  d_way_on : Df K mg "way_on" (topS 30) ["part", "choices"]
  d_is_met_first : Df K mg "is_met_first" (topS 31) ["part", "spot", "chosen"]
  d_corners : Df K mg "corners" (topS 32) ["ring"]
  d_in_order : Df K mg "in_order" (topS 33) ["rings"]
  d_first_beginning : Df K mg "first_beginning" (topS 34) ["ring", "scale"]
  d_common_multiple : Df K mg "common_multiple" (topS 35) ["rings"]
  d_scaled : Df K mg "scaled" (topS 36) ["ring", "scale"]
  d_piece_count : Df K mg "piece_count" (topS 41) ["rings"]
  d_area_of : Df K mg "area_of" (topS 42) ["rings"]
  d_doubled_areas : Df K mg "doubled_areas" (topS 43) ["rings", "scale"]
  d_doubled_area : Df K mg "doubled_area" (topS 44) ["points"]
  d_whereabouts : Df K mg "whereabouts" (topS 45) ["rings", "spot"]
  d_is_within : Df K mg "is_within" (topS 46) ["one", "other"]
  d_are_apart : Df K mg "are_apart" (topS 47) ["one", "other"]
  d_answers : Df K mg "answers" (topS 71) ["calls"]
  d_answer_of : Df K mg "answer_of" (topS 72) ["regions", "call", "numbers", "rows"]
  d_answer_rings : Df K mg "answer_rings" (topS 73) ["regions", "goal", "rows"]
  d_answer_put : Df K mg "answer_put" (topS 74) ["regions", "kind", "one", "other", "goal"]
  d_answer_move : Df K mg "answer_move" (topS 75) ["regions", "one", "goal", "move"]
  d_moved_ring : Df K mg "moved_ring" (topS 76) ["ring", "move"]
  d_answer_tells : Df K mg "answer_tells" (topS 77) ["regions", "region"]
  d_answer_area : Df K mg "answer_area" (topS 78) ["regions", "region"]
  d_answer_where : Df K mg "answer_where" (topS 79) ["regions", "region", "point"]
  d_answer_compare : Df K mg "answer_compare" (topS 80) ["regions", "one", "other"]
  d_told_place : Df K mg "told_place" (topS 81) ["spot"]
  d_whole_places : Df K mg "whole_places" (topS 82) ["row"]
  d_are_rings : Df K mg "are_rings" (topS 83) ["rows"]
  d_is_ring : Df K mg "is_ring" (topS 84) ["row"]
  d_is_point : Df K mg "is_point" (topS 85) ["numbers"]
  d_is_told_fraction : Df K mg "is_told_fraction" (topS 86) ["above", "below"]
  d_is_beyond : Df K mg "is_beyond" (topS 87) ["numbers", "most"]
  d_keep : Df K mg "keep" (topS 88) ["regions", "goal", "parts"]
  d_side_count : Df K mg "side_count" (topS 89) ["rings"]
  d_is_too_large : Df K mg "is_too_large" (topS 90) ["rings"]
  c_EITHER : Ct mg "EITHER" (0)
  c_BOTH : Ct mg "BOTH" (1)
  c_FIRST_ALONE : Ct mg "FIRST_ALONE" (2)
  c_JUST_ONE : Ct mg "JUST_ONE" (3)
  c_ELSEWHERE : Ct mg "ELSEWHERE" (0)
  c_ON_A_SIDE : Ct mg "ON_A_SIDE" (1)
  c_INSIDE : Ct mg "INSIDE" (2)
  c_RINGS : Ct mg "RINGS" (0)
  c_PUT : Ct mg "PUT" (1)
  c_MOVE : Ct mg "MOVE" (2)
  c_TELLS : Ct mg "TELLS" (3)
  c_AREA : Ct mg "AREA" (4)
  c_WHERE : Ct mg "WHERE" (5)
  c_NOT_AS_TOLD : Ct mg "NOT_AS_TOLD" (-1)
  c_TOO_LARGE : Ct mg "TOO_LARGE" (-2)
  c_NO_SUCH_REGION : Ct mg "NO_SUCH_REGION" (-3)
  c_NO_SUCH_POINT : Ct mg "NO_SUCH_POINT" (-4)
  c_REGIONS : Ct mg "REGIONS" (6)
  c_MOST_RINGS : Ct mg "MOST_RINGS" (4)
  c_MOST_POINTS : Ct mg "MOST_POINTS" (16)
  c_FEWEST_RING_POINTS : Ct mg "FEWEST_RING_POINTS" (3)
  c_MOST_RING_POINTS : Ct mg "MOST_RING_POINTS" (10)
  c_MOST_HANDED_OVER : Ct mg "MOST_HANDED_OVER" (100)
  c_MOST_SIDES : Ct mg "MOST_SIDES" (16)
  c_MOST_IN_FRACTION : Ct mg "MOST_IN_FRACTION" (1000000000000)
  c_POINT_NUMBERS : Ct mg "POINT_NUMBERS" (4)
  c_MOST_ABOVE : Ct mg "MOST_ABOVE" (100000)
  c_MOST_BELOW : Ct mg "MOST_BELOW" (1000)
  m_len : mg "len" = none
  m_range : mg "range" = none
  m_abs : mg "abs" = none
  m_sum : mg "sum" = none
  m_any : mg "any" = none
  m_all : mg "all" = none
  m_max : mg "max" = none
  m_int : mg "int" = none
  m_list : mg "list" = none
  m_min : mg "min" = none
  m_sorted : mg "sorted" = none
theorem x_common_factor {L : Sls} {C C' : Cs} {ta : TA} {a b : Int} (h : Xd ta L C [.int a, .int b] C') : Xe (tCall (spF (pR R_cf)) [] E0 ta) L C (it (cf a b)) C' := xe_call h ⟨a, b, rfl, rfl⟩
section
variable {P : Program} {w : World} {K : PySem.W.Frag} {mg : Str → Option Value} {base : Heap} (T : Tx K mg)
/-! ### place -/
def R_place : List PyData → PyData → Prop := fun ds d => ∃ x y z : Int, z ≠ 0 ∧ Bi 9000 z ∧ ds = [.int x, .int y, .int z] ∧ d = plD (placeM x y z)
theorem sc_place : FnScope ["x", "y", "w", "factor"] ["x", "y", "w"] (defScope (topS 2)) := ⟨rfl, rfl, rfl, by decide +kernel, rfl, by decide +kernel, by decide +kernel⟩
theorem cf_ne {a b : Int} (h : b ≠ 0) : cf a b ≠ 0 := by
  unfold cf
  have := Int.gcd_pos_of_ne_zero_right a h
  omega
theorem cf_le {a b : Int} (h : b ≠ 0) : (cf a b).natAbs ≤ b.natAbs := by
  unfold cf
  exact Nat.le_of_dvd (Int.natAbs_pos.2 h) (Int.natAbs_dvd_natAbs.2 (Int.gcd_dvd_right a b))
include T in
theorem ok_place : Ok P w K mg base 2 "place" ["x", "y", "w"] (spF (pR R_place)) := by
  have nd := sc_place.nd
  have o_common_factor := ok_cf (P := P) (w := w) (base := base) T.d_common_factor T.m_abs
  refine T.d_place.okP sc_place (fun ds d h => by obtain ⟨x, y, z, _, _, rfl, _⟩ := h; rfl) fun f cdv A outer s H E hr => ⟨_, (pss_cons (ps_set (i := 3) nd rfl (Or.inl rfl) (pe_own o_common_factor hr rfl (pa_cons (pe_own o_common_factor hr rfl (pa_cons (pv 0) (pa_cons (pv 1) pa_nil))) (pa_cons (pv 2) pa_nil)))) (pss_cons (ps_if (pt_cmpR op_lt (pv 2) pe_int (nomark _)) (pss_one (ps_set (i := 3) nd rfl (Or.inl rfl) (pe_un un_neg (pv 3)))) pss_nil) (pss_one (ps_ret (pe_tup (pa_cons (pe_op op_fdivN2 (pv 0) (pv 3)) (pa_cons (pe_op op_fdivN2 (pv 1) (pv 3)) (pa_cons (pe_op op_fdivN2 (pv 2) (pv 3)) pa_nil)))))))), fun ds d h => ?_⟩
  obtain ⟨x, y, z, hz, bz, rfl, rfl⟩ := h
  refine wp_set (x_common_factor (xd_cons (x_common_factor (xd_cons (xe_v 0 rfl) (xd_cons (xe_v 1 rfl) xd_nil)) ) (xd_cons (xe_v 2 rfl) xd_nil)) ) ?_
  have h0 : cf (cf x y) z ≠ 0 := cf_ne hz
  have h1 : Bi 9000 (cf (cf x y) z) := Nat.lt_of_le_of_lt (cf_le hz) bz
  refine wp_when (xt_test (xe_C0 (xe_v 2 rfl) xe_i)) (fun h => ?_) fun h => ?_
  · have hw : z < 0 := by simpa using h
    have n1 : -cf (cf x y) z ≠ 0 := by omega
    have n2 : Bi 9000 (-cf (cf x y) z) := by unfold Bi; rw [Int.natAbs_neg]; exact h1
    refine wp_asg (xe_neg (xe_v 3 rfl)) (wp_ret (xe_tup (xd_cons (xe_I (xe_v 0 rfl) (xe_v 3 rfl) ?_) (xd_cons (xe_I (xe_v 1 rfl) (xe_v 3 rfl) ?_) (xd_cons (xe_I (xe_v 2 rfl) (xe_v 3 rfl) ?_) xd_nil)))) ?_)
    · exact div_ok n1 n2
    · exact div_ok n1 n2
    · exact div_ok n1 n2
    · refine ⟨?_, rfl⟩
      unfold plD placeM
      rw [if_pos hw]
  · have hw : ¬ z < 0 := by simpa using h
    refine wp_ret (xe_tup (xd_cons (xe_I (xe_v 0 rfl) (xe_v 3 rfl) ?_) (xd_cons (xe_I (xe_v 1 rfl) (xe_v 3 rfl) ?_) (xd_cons (xe_I (xe_v 2 rfl) (xe_v 3 rfl) ?_) xd_nil)))) ?_
    · exact div_ok h0 h1
    · exact div_ok h0 h1
    · exact div_ok h0 h1
    · refine ⟨?_, rfl⟩
      unfold plD placeM
      rw [if_neg hw]
theorem x_place {L : Sls} {C C' : Cs} {ta : TA} {x y z : Int} (h : Xd ta L C [.int x, .int y, .int z] C') (r : z ≠ 0 ∧ Bi 9000 z) : Xe (tCall (spF (pR R_place)) [] E0 ta) L C (dt (plD (placeM x y z))) C' := xe_call h ⟨x, y, z, r.1, r.2, rfl, rfl⟩
end
end Wk
end
section
set_option Elab.async false
set_option linter.all false
set_option maxRecDepth 100000
namespace Wk
open PySem PySem.Spec PyProof.Rows L2
open Evl (Ex ex_l ex_t sq_of st_of)
open My (T3 Sd cf placeM beforeM crossM leftM midM meetM moveM fracM)
section
variable {P : Program} {w : World} {K : PySem.W.Frag} {mg : Str → Option Value} {base : Heap} (T : Tx K mg)
/-! ### fraction -/
def frD (p : Int × Int) : PyData := .tuple [.int p.1, .int p.2]
def R_fraction : List PyData → PyData → Prop := fun ds d => ∃ x z : Int, z ≠ 0 ∧ Bi 9000 z ∧ ds = [.int x, .int z] ∧ d = frD (fracM x z)
theorem sc_fraction : FnScope ["above", "below", "factor"] ["above", "below"] (defScope (topS 3)) := ⟨rfl, rfl, rfl, by decide +kernel, rfl, by decide +kernel, by decide +kernel⟩
include T in
theorem ok_fraction : Ok P w K mg base 2 "fraction" ["above", "below"] (spF (pR R_fraction)) := by
  have nd := sc_fraction.nd
  have o_common_factor := ok_cf (P := P) (w := w) (base := base) T.d_common_factor T.m_abs
  refine T.d_fraction.okP sc_fraction (fun ds d h => by obtain ⟨x, z, _, _, rfl, _⟩ := h; rfl) fun f cdv A outer s H E hr => ⟨_, (pss_cons (ps_set (i := 2) nd rfl (Or.inl rfl) (pe_own o_common_factor hr rfl (pa_cons (pv 0) (pa_cons (pv 1) pa_nil)))) (pss_one (ps_ret (pe_tup (pa_cons (pe_op op_fdivN2 (pv 0) (pv 2)) (pa_cons (pe_op op_fdivN2 (pv 1) (pv 2)) pa_nil)))))), fun ds d h => ?_⟩
  obtain ⟨x, z, hz, bz, rfl, rfl⟩ := h
  have h0 : cf x z ≠ 0 := cf_ne hz
  have h1 : Bi 9000 (cf x z) := Nat.lt_of_le_of_lt (cf_le hz) bz
  refine wp_set (x_common_factor (xd_cons (xe_v 0 rfl) (xd_cons (xe_v 1 rfl) xd_nil)) ) (wp_ret (xe_tup (xd_cons (xe_I (xe_v 0 rfl) (xe_v 2 rfl) ?_) (xd_cons (xe_I (xe_v 1 rfl) (xe_v 2 rfl) ?_) xd_nil))) ⟨rfl, rfl⟩)
  · exact div_ok h0 h1
  · exact div_ok h0 h1
theorem x_fraction {L : Sls} {C C' : Cs} {ta : TA} {x z : Int} (h : Xd ta L C [.int x, .int z] C') (r : z ≠ 0 ∧ Bi 9000 z) : Xe (tCall (spF (pR R_fraction)) [] E0 ta) L C (dt (frD (fracM x z))) C' := xe_call h ⟨x, z, r.1, r.2, rfl, rfl⟩
/-! ### moved -/
def R_moved : List PyData → PyData → Prop := fun ds d => ∃ (t : T3) (a b c e f g : Int), t.2.2 ≠ 0 ∧ Bt 2000 t ∧ (∀ z ∈ [a, b, c, e, f, g], Bi 2000 z) ∧ ds = [plD t, inD [a, b, c, e, f, g]] ∧ d = plD (moveM t a b c e f g)
theorem sc_moved : FnScope ["spot", "move", "across", "up"] ["spot", "move"] (defScope (topS 4)) := ⟨rfl, rfl, rfl, by decide +kernel, rfl, by decide +kernel, by decide +kernel⟩
include T in
theorem ok_moved : Ok P w K mg base 3 "moved" ["spot", "move"] (spF (pR R_moved)) := by
  have nd := sc_moved.nd
  have o_place := ok_place (P := P) (w := w) (base := base) T
  refine T.d_moved.okP sc_moved (fun ds d h => by obtain ⟨_, _, _, _, _, _, _, _, _, _, rfl, _⟩ := h; rfl) fun f cdv A outer s H E hr => ⟨_, (pss_cons (ps_set (i := 2) nd rfl (Or.inl rfl) (pe_op op_add (pe_op op_add (pe_op op_mulW (pe_ix ix_seq (pv 1) pe_int (fun _ _ => rfl)) (pe_ix ix_seq (pv 0) pe_int (fun _ _ => rfl))) (pe_op op_mulW (pe_ix ix_seq (pv 1) pe_int (fun _ _ => rfl)) (pe_ix ix_seq (pv 0) pe_int (fun _ _ => rfl)))) (pe_op op_mulW (pe_ix ix_seq (pv 1) pe_int (fun _ _ => rfl)) (pe_ix ix_seq (pv 0) pe_int (fun _ _ => rfl))))) (pss_cons (ps_set (i := 3) nd rfl (Or.inl rfl) (pe_op op_add (pe_op op_add (pe_op op_mulW (pe_ix ix_seq (pv 1) pe_int (fun _ _ => rfl)) (pe_ix ix_seq (pv 0) pe_int (fun _ _ => rfl))) (pe_op op_mulW (pe_ix ix_seq (pv 1) pe_int (fun _ _ => rfl)) (pe_ix ix_seq (pv 0) pe_int (fun _ _ => rfl)))) (pe_op op_mulW (pe_ix ix_seq (pv 1) pe_int (fun _ _ => rfl)) (pe_ix ix_seq (pv 0) pe_int (fun _ _ => rfl))))) (pss_one (ps_ret (pe_own o_place hr rfl (pa_cons (pv 2) (pa_cons (pv 3) (pa_cons (pe_ix ix_seq (pv 0) pe_int (fun _ _ => rfl)) pa_nil)))))))), fun ds d h => ?_⟩
  obtain ⟨t, a, b, c, e, f, g, h0, bt, bm, rfl, rfl⟩ := h
  have ba := bm a (by simp)
  have bb := bm b (by simp)
  have bc := bm c (by simp)
  have be := bm e (by simp)
  have bf := bm f (by simp)
  have bg := bm g (by simp)
  refine wp_set (xe_I0 (xe_I0 (xe_I (xe_ixL (xe_v 1 rfl) xe_i rfl) (xe_ixT (xe_v 0 rfl) xe_i rfl) (mul_ok ba bt.1)) (xe_I (xe_ixL (xe_v 1 rfl) xe_i rfl) (xe_ixT (xe_v 0 rfl) xe_i rfl) (mul_ok bb bt.2.1))) (xe_I (xe_ixL (xe_v 1 rfl) xe_i rfl) (xe_ixT (xe_v 0 rfl) xe_i rfl) (mul_ok bf bt.2.2)))
    (wp_set (xe_I0 (xe_I0 (xe_I (xe_ixL (xe_v 1 rfl) xe_i rfl) (xe_ixT (xe_v 0 rfl) xe_i rfl) (mul_ok bc bt.1)) (xe_I (xe_ixL (xe_v 1 rfl) xe_i rfl) (xe_ixT (xe_v 0 rfl) xe_i rfl) (mul_ok be bt.2.1))) (xe_I (xe_ixL (xe_v 1 rfl) xe_i rfl) (xe_ixT (xe_v 0 rfl) xe_i rfl) (mul_ok bg bt.2.2)))
    (wp_ret (x_place (xd_cons (xe_v 2 rfl) (xd_cons (xe_v 3 rfl) (xd_cons (xe_ixT (xe_v 0 rfl) xe_i rfl) xd_nil))) ?_) ⟨rfl, rfl⟩))
  exact ⟨h0, bt.2.2.mono (by decide)⟩
theorem x_moved {L : Sls} {C C' : Cs} {ta : TA} {t : T3} {a b c e f g : Int} (h : Xd ta L C [plD t, inD [a, b, c, e, f, g]] C') (r : t.2.2 ≠ 0 ∧ Bt 2000 t ∧ ∀ z ∈ [a, b, c, e, f, g], Bi 2000 z) : Xe (tCall (spF (pR R_moved)) [] E0 ta) L C (dt (plD (moveM t a b c e f g))) C' := xe_call h ⟨t, a, b, c, e, f, g, r.1, r.2.1, r.2.2, rfl, rfl⟩
/-! ### before -/
def R_before : List PyData → PyData → Prop := fun ds d => ∃ a b : T3, Bt 2000 a ∧ Bt 2000 b ∧ ds = [plD a, plD b] ∧ d = .bool (beforeM a b)
theorem sc_before : FnScope ["one", "other", "left", "right"] ["one", "other"] (defScope (topS 5)) := ⟨rfl, rfl, rfl, by decide +kernel, rfl, by decide +kernel, by decide +kernel⟩
include T in
theorem ok_before : Ok P w K mg base 1 "before" ["one", "other"] (spF (pR R_before)) := by
  have nd := sc_before.nd
  refine T.d_before.okP sc_before (fun ds d h => by obtain ⟨_, _, _, _, rfl, _⟩ := h; rfl) fun f cdv A outer s H E hr => ⟨_, (pss_cons (ps_set (i := 2) nd rfl (Or.inl rfl) (pe_op op_mulW (pe_ix ix_seq (pv 0) pe_int (fun _ _ => rfl)) (pe_ix ix_seq (pv 1) pe_int (fun _ _ => rfl)))) (pss_cons (ps_set (i := 3) nd rfl (Or.inl rfl) (pe_op op_mulW (pe_ix ix_seq (pv 1) pe_int (fun _ _ => rfl)) (pe_ix ix_seq (pv 0) pe_int (fun _ _ => rfl)))) (pss_cons (ps_if (pt_cmpR op_ne (pv 2) (pv 3) (nomark _)) (pss_one (ps_ret (pe_cmpR op_lt (pv 2) (pv 3) (nomark _)))) pss_nil) (pss_one (ps_ret (pe_cmpR op_lt (pe_op op_mulW (pe_ix ix_seq (pv 0) pe_int (fun _ _ => rfl)) (pe_ix ix_seq (pv 1) pe_int (fun _ _ => rfl))) (pe_op op_mulW (pe_ix ix_seq (pv 1) pe_int (fun _ _ => rfl)) (pe_ix ix_seq (pv 0) pe_int (fun _ _ => rfl))) (nomark _))))))), fun ds d h => ?_⟩
  obtain ⟨a, b, ha, hb, rfl, rfl⟩ := h
  refine wp_set (xe_I (xe_ixT (xe_v 0 rfl) xe_i rfl) (xe_ixT (xe_v 1 rfl) xe_i rfl) (mul_ok ha.1 hb.2.2)) (wp_set (xe_I (xe_ixT (xe_v 1 rfl) xe_i rfl) (xe_ixT (xe_v 0 rfl) xe_i rfl) (mul_ok hb.1 ha.2.2)) (wp_when (xt_test (xe_ne (xe_v 2 rfl) (xe_v 3 rfl))) (fun h => ?_) fun h => ?_))
  · have hn : a.1 * b.2.2 ≠ b.1 * a.2.2 := by simpa using h
    refine wp_ret (xe_C0 (xe_v 2 rfl) (xe_v 3 rfl)) ⟨?_, rfl⟩
    unfold beforeM
    rw [if_pos hn]
  · have hn : ¬ a.1 * b.2.2 ≠ b.1 * a.2.2 := by simpa using h
    refine wp_ret (xe_C0 (xe_I (xe_ixT (xe_v 0 rfl) xe_i rfl) (xe_ixT (xe_v 1 rfl) xe_i rfl) (mul_ok ha.2.1 hb.2.2)) (xe_I (xe_ixT (xe_v 1 rfl) xe_i rfl) (xe_ixT (xe_v 0 rfl) xe_i rfl) (mul_ok hb.2.1 ha.2.2))) ⟨?_, rfl⟩
    unfold beforeM
    rw [if_neg hn]
theorem x_before {L : Sls} {C C' : Cs} {ta : TA} {a b : T3} (h : Xd ta L C [plD a, plD b] C') (r : Bt 2000 a ∧ Bt 2000 b) : Xe (tCall (spF (pR R_before)) [] E0 ta) L C (bo (beforeM a b)) C' := xe_call h ⟨a, b, r.1, r.2, rfl, rfl⟩
/-! ### middle -/
def R_middle : List PyData → PyData → Prop := fun ds d => ∃ a b : T3, Bt 2000 a ∧ Bt 2000 b ∧ ds = [plD a, plD b] ∧ d = plD (midM a b)
theorem sc_middle : FnScope ["one", "other"] ["one", "other"] (defScope (topS 6)) := ⟨rfl, rfl, rfl, by decide +kernel, rfl, by decide +kernel, by decide +kernel⟩
include T in
theorem ok_middle : Ok P w K mg base 1 "middle" ["one", "other"] (spF (pR R_middle)) := by
  have nd := sc_middle.nd
  refine T.d_middle.okP sc_middle (fun ds d h => by obtain ⟨_, _, _, _, rfl, _⟩ := h; rfl) fun f cdv A outer s H E hr => ⟨_, (pss_one (ps_ret (pe_tup (pa_cons (pe_op op_add (pe_op op_mulW (pe_ix ix_seq (pv 0) pe_int (fun _ _ => rfl)) (pe_ix ix_seq (pv 1) pe_int (fun _ _ => rfl))) (pe_op op_mulW (pe_ix ix_seq (pv 1) pe_int (fun _ _ => rfl)) (pe_ix ix_seq (pv 0) pe_int (fun _ _ => rfl)))) (pa_cons (pe_op op_add (pe_op op_mulW (pe_ix ix_seq (pv 0) pe_int (fun _ _ => rfl)) (pe_ix ix_seq (pv 1) pe_int (fun _ _ => rfl))) (pe_op op_mulW (pe_ix ix_seq (pv 1) pe_int (fun _ _ => rfl)) (pe_ix ix_seq (pv 0) pe_int (fun _ _ => rfl)))) (pa_cons (pe_op op_mulW (pe_op op_mulW pe_int (pe_ix ix_seq (pv 0) pe_int (fun _ _ => rfl))) (pe_ix ix_seq (pv 1) pe_int (fun _ _ => rfl))) pa_nil)))))), fun ds d h => ?_⟩
  obtain ⟨a, b, ha, hb, rfl, rfl⟩ := h
  have two : Bi 2 2 := by decide
  refine wp_ret (xe_tup (xd_cons (xe_I0 (xe_I (xe_ixT (xe_v 0 rfl) xe_i rfl) (xe_ixT (xe_v 1 rfl) xe_i rfl) ?_) (xe_I (xe_ixT (xe_v 1 rfl) xe_i rfl) (xe_ixT (xe_v 0 rfl) xe_i rfl) ?_)) (xd_cons (xe_I0 (xe_I (xe_ixT (xe_v 0 rfl) xe_i rfl) (xe_ixT (xe_v 1 rfl) xe_i rfl) ?_) (xe_I (xe_ixT (xe_v 1 rfl) xe_i rfl) (xe_ixT (xe_v 0 rfl) xe_i rfl) ?_)) (xd_cons (xe_I (xe_I xe_i (xe_ixT (xe_v 0 rfl) xe_i rfl) ?_) (xe_ixT (xe_v 1 rfl) xe_i rfl) ?_) xd_nil)))) ⟨rfl, rfl⟩
  · exact mul_ok ha.1 hb.2.2
  · exact mul_ok hb.1 ha.2.2
  · exact mul_ok ha.2.1 hb.2.2
  · exact mul_ok hb.2.1 ha.2.2
  · exact mul_ok two ha.2.2
  · exact mul_ok (two.mul ha.2.2) hb.2.2
theorem x_middle {L : Sls} {C C' : Cs} {ta : TA} {a b : T3} (h : Xd ta L C [plD a, plD b] C') (r : Bt 2000 a ∧ Bt 2000 b) : Xe (tCall (spF (pR R_middle)) [] E0 ta) L C (dt (plD (midM a b))) C' := xe_call h ⟨a, b, r.1, r.2, rfl, rfl⟩
/-! ### lines -/
def R_cross : List PyData → PyData → Prop := fun ds d => ∃ a b : T3, Bt 2000 a ∧ Bt 2000 b ∧ ds = [plD a, plD b] ∧ d = plD (crossM a b)
theorem sc_cross_product : FnScope ["one", "other"] ["one", "other"] (defScope (topS 7)) := ⟨rfl, rfl, rfl, by decide +kernel, rfl, by decide +kernel, by decide +kernel⟩
include T in
theorem ok_cross_product : Ok P w K mg base 1 "cross_product" ["one", "other"] (spF (pR R_cross)) := by
  have nd := sc_cross_product.nd
  refine T.d_cross_product.okP sc_cross_product (fun ds d h => by obtain ⟨_, _, _, _, rfl, _⟩ := h; rfl) fun f cdv A outer s H E hr => ⟨_, (pss_one (ps_ret (pe_tup (pa_cons (pe_op op_sub (pe_op op_mulW (pe_ix ix_seq (pv 0) pe_int (fun _ _ => rfl)) (pe_ix ix_seq (pv 1) pe_int (fun _ _ => rfl))) (pe_op op_mulW (pe_ix ix_seq (pv 0) pe_int (fun _ _ => rfl)) (pe_ix ix_seq (pv 1) pe_int (fun _ _ => rfl)))) (pa_cons (pe_op op_sub (pe_op op_mulW (pe_ix ix_seq (pv 0) pe_int (fun _ _ => rfl)) (pe_ix ix_seq (pv 1) pe_int (fun _ _ => rfl))) (pe_op op_mulW (pe_ix ix_seq (pv 0) pe_int (fun _ _ => rfl)) (pe_ix ix_seq (pv 1) pe_int (fun _ _ => rfl)))) (pa_cons (pe_op op_sub (pe_op op_mulW (pe_ix ix_seq (pv 0) pe_int (fun _ _ => rfl)) (pe_ix ix_seq (pv 1) pe_int (fun _ _ => rfl))) (pe_op op_mulW (pe_ix ix_seq (pv 0) pe_int (fun _ _ => rfl)) (pe_ix ix_seq (pv 1) pe_int (fun _ _ => rfl)))) pa_nil)))))), fun ds d h => ?_⟩
  obtain ⟨a, b, ha, hb, rfl, rfl⟩ := h
  refine wp_ret (xe_tup (xd_cons (xe_I0 (xe_I (xe_ixT (xe_v 0 rfl) xe_i rfl) (xe_ixT (xe_v 1 rfl) xe_i rfl) ?_) (xe_I (xe_ixT (xe_v 0 rfl) xe_i rfl) (xe_ixT (xe_v 1 rfl) xe_i rfl) ?_)) (xd_cons (xe_I0 (xe_I (xe_ixT (xe_v 0 rfl) xe_i rfl) (xe_ixT (xe_v 1 rfl) xe_i rfl) ?_) (xe_I (xe_ixT (xe_v 0 rfl) xe_i rfl) (xe_ixT (xe_v 1 rfl) xe_i rfl) ?_)) (xd_cons (xe_I0 (xe_I (xe_ixT (xe_v 0 rfl) xe_i rfl) (xe_ixT (xe_v 1 rfl) xe_i rfl) ?_) (xe_I (xe_ixT (xe_v 0 rfl) xe_i rfl) (xe_ixT (xe_v 1 rfl) xe_i rfl) ?_)) xd_nil)))) ⟨rfl, rfl⟩
  · exact mul_ok ha.2.1 hb.2.2
  · exact mul_ok ha.2.2 hb.2.1
  · exact mul_ok ha.2.2 hb.1
  · exact mul_ok ha.1 hb.2.2
  · exact mul_ok ha.1 hb.2.1
  · exact mul_ok ha.2.1 hb.1
theorem x_cross_product {L : Sls} {C C' : Cs} {ta : TA} {a b : T3} (h : Xd ta L C [plD a, plD b] C') (r : Bt 2000 a ∧ Bt 2000 b) : Xe (tCall (spF (pR R_cross)) [] E0 ta) L C (dt (plD (crossM a b))) C' := xe_call h ⟨a, b, r.1, r.2, rfl, rfl⟩
theorem x_line_through {L : Sls} {C C' : Cs} {ta : TA} {a b : T3} (h : Xd ta L C [plD a, plD b] C') (r : Bt 2000 a ∧ Bt 2000 b) : Xe (tCall (spF (pR R_cross)) [] E0 ta) L C (dt (plD (crossM a b))) C' := x_cross_product h r
theorem sc_line_through : FnScope ["one", "other"] ["one", "other"] (defScope (topS 8)) := ⟨rfl, rfl, rfl, by decide +kernel, rfl, by decide +kernel, by decide +kernel⟩
include T in
theorem ok_line_through : Ok P w K mg base 2 "line_through" ["one", "other"] (spF (pR R_cross)) := by
  have nd := sc_line_through.nd
  have o_cross_product := ok_cross_product (P := P) (w := w) (base := base) T
  refine T.d_line_through.okP sc_line_through (fun ds d h => by obtain ⟨_, _, _, _, rfl, _⟩ := h; rfl) fun f cdv A outer s H E hr => ⟨_, (pss_one (ps_ret (pe_own o_cross_product hr rfl (pa_cons (pv 0) (pa_cons (pv 1) pa_nil))))), fun ds d h => ?_⟩
  obtain ⟨a, b, ha, hb, rfl, rfl⟩ := h
  exact wp_ret (x_cross_product (xd_cons (xe_v 0 rfl) (xd_cons (xe_v 1 rfl) xd_nil)) ⟨ha, hb⟩) ⟨rfl, rfl⟩
def R_meeting : List PyData → PyData → Prop := fun ds d => ∃ a b : T3, Bt 2000 a ∧ Bt 2000 b ∧ (crossM a b).2.2 ≠ 0 ∧ ds = [plD a, plD b] ∧ d = plD (meetM a b)
theorem sc_meeting : FnScope ["one", "other", "found"] ["one", "other"] (defScope (topS 9)) := ⟨rfl, rfl, rfl, by decide +kernel, rfl, by decide +kernel, by decide +kernel⟩
include T in
theorem ok_meeting : Ok P w K mg base 3 "meeting" ["one", "other"] (spF (pR R_meeting)) := by
  have nd := sc_meeting.nd
  have o_cross_product := (ok_cross_product (P := P) (w := w) (base := base) T).up (k := 2) (by decide)
  have o_place := ok_place (P := P) (w := w) (base := base) T
  refine T.d_meeting.okP sc_meeting (fun ds d h => by obtain ⟨_, _, _, _, _, rfl, _⟩ := h; rfl) fun f cdv A outer s H E hr => ⟨_, (pss_cons (ps_set (i := 2) nd rfl (Or.inl rfl) (pe_own o_cross_product hr rfl (pa_cons (pv 0) (pa_cons (pv 1) pa_nil)))) (pss_one (ps_ret (pe_own o_place hr rfl (pa_cons (pe_ix ix_seq (pv 2) pe_int (fun _ _ => rfl)) (pa_cons (pe_ix ix_seq (pv 2) pe_int (fun _ _ => rfl)) (pa_cons (pe_ix ix_seq (pv 2) pe_int (fun _ _ => rfl)) pa_nil))))))), fun ds d h => ?_⟩
  obtain ⟨a, b, ha, hb, h0, rfl, rfl⟩ := h
  refine wp_set (x_cross_product (xd_cons (xe_v 0 rfl) (xd_cons (xe_v 1 rfl) xd_nil)) ⟨ha, hb⟩) (wp_ret (x_place (xd_cons (xe_ixT (xe_v 2 rfl) xe_i rfl) (xd_cons (xe_ixT (xe_v 2 rfl) xe_i rfl) (xd_cons (xe_ixT (xe_v 2 rfl) xe_i rfl) xd_nil))) ?_) ⟨rfl, rfl⟩)
  exact ⟨h0, (cross_bt ha hb).2.2.mono (by decide)⟩
theorem x_meeting {L : Sls} {C C' : Cs} {ta : TA} {a b : T3} (h : Xd ta L C [plD a, plD b] C') (r : Bt 2000 a ∧ Bt 2000 b ∧ (crossM a b).2.2 ≠ 0) : Xe (tCall (spF (pR R_meeting)) [] E0 ta) L C (dt (plD (meetM a b))) C' := xe_call h ⟨a, b, r.1, r.2.1, r.2.2, rfl, rfl⟩
def R_leftness : List PyData → PyData → Prop := fun ds d => ∃ a b : T3, Bt 9000 a ∧ Bt 9000 b ∧ ds = [plD a, plD b] ∧ d = .int (leftM a b)
theorem sc_leftness : FnScope ["line", "spot"] ["line", "spot"] (defScope (topS 10)) := ⟨rfl, rfl, rfl, by decide +kernel, rfl, by decide +kernel, by decide +kernel⟩
include T in
theorem ok_leftness : Ok P w K mg base 1 "leftness" ["line", "spot"] (spF (pR R_leftness)) := by
  have nd := sc_leftness.nd
  refine T.d_leftness.okP sc_leftness (fun ds d h => by obtain ⟨_, _, _, _, rfl, _⟩ := h; rfl) fun f cdv A outer s H E hr => ⟨_, (pss_one (ps_ret (pe_op op_add (pe_op op_add (pe_op op_mulW (pe_ix ix_seq (pv 0) pe_int (fun _ _ => rfl)) (pe_ix ix_seq (pv 1) pe_int (fun _ _ => rfl))) (pe_op op_mulW (pe_ix ix_seq (pv 0) pe_int (fun _ _ => rfl)) (pe_ix ix_seq (pv 1) pe_int (fun _ _ => rfl)))) (pe_op op_mulW (pe_ix ix_seq (pv 0) pe_int (fun _ _ => rfl)) (pe_ix ix_seq (pv 1) pe_int (fun _ _ => rfl)))))), fun ds d h => ?_⟩
  obtain ⟨a, b, ha, hb, rfl, rfl⟩ := h
  refine wp_ret (xe_I0 (xe_I0 (xe_I (xe_ixT (xe_v 0 rfl) xe_i rfl) (xe_ixT (xe_v 1 rfl) xe_i rfl) ?_) (xe_I (xe_ixT (xe_v 0 rfl) xe_i rfl) (xe_ixT (xe_v 1 rfl) xe_i rfl) ?_)) (xe_I (xe_ixT (xe_v 0 rfl) xe_i rfl) (xe_ixT (xe_v 1 rfl) xe_i rfl) ?_)) ⟨rfl, rfl⟩
  · exact mul_ok ha.1 hb.1
  · exact mul_ok ha.2.1 hb.2.1
  · exact mul_ok ha.2.2 hb.2.2
theorem x_leftness {L : Sls} {C C' : Cs} {ta : TA} {a b : T3} (h : Xd ta L C [plD a, plD b] C') (r : Bt 9000 a ∧ Bt 9000 b) : Xe (tCall (spF (pR R_leftness)) [] E0 ta) L C (it (leftM a b)) C' := xe_call h ⟨a, b, r.1, r.2, rfl, rfl⟩
end
end Wk
end
section
set_option Elab.async false
set_option linter.all false
set_option maxRecDepth 100000
namespace Wk
open PySem PySem.Spec PyProof.Rows L2
open Evl (Ex ex_l ex_t sq_of st_of)
open My (T3 Sd cf placeM beforeM crossM leftM midM meetM moveM fracM sideM ringSidesM sidesM cntM besideM isInM isOnM)
def Bs (s : Sd) : Prop := Bt 2000 s.1 ∧ Bt 2000 s.2.1 ∧ Bt 9000 s.2.2
/-! ### places in lists -/
theorem atI_nat' {α : Type} {l : List α} {k : Nat} {x : α} (h : l[k]? = some x) : atI l (k : Int) = some x := atI_nat h
def prv (c : List T3) (k : Nat) : T3 := (c.getLastD (0, 0, 0) :: c).getD k (0, 0, 0)
def cur (c : List T3) (k : Nat) : T3 := c.getD k (0, 0, 0)
theorem cur_at {c : List T3} {k : Nat} (h : k < c.length) : c[k]? = some (cur c k) := by
  unfold cur
  rw [List.getD_eq_getElem?_getD, List.getElem?_eq_getElem h]; rfl
theorem cur_mem {c : List T3} {k : Nat} (h : k < c.length) : cur c k ∈ c := List.mem_of_getElem? (cur_at h)
theorem atI_cur {c : List T3} {k : Nat} (h : k < c.length) : atI (c.map plD) (k : Int) = some (plD (cur c k)) := by
  refine atI_nat' ?_
  rw [List.getElem?_map, cur_at h]; rfl
theorem getLastD_mem {α : Type} : ∀ (c : List α) (d : α), c ≠ [] → c.getLastD d ∈ c
  | [], _, h => absurd rfl h
  | [x], d, _ => by simp
  | x :: y :: r, d, _ => by
    have := getLastD_mem (y :: r) x (by simp)
    rw [List.getLastD_cons]
    exact List.mem_cons_of_mem _ this
theorem prv_mem {c : List T3} {k : Nat} (h : k < c.length) : prv c k ∈ c := by
  cases k with
  | zero =>
    show c.getLastD (0, 0, 0) ∈ c
    exact getLastD_mem c _ (by rintro rfl; simp at h)
  | succ k =>
    show c.getD k (0, 0, 0) ∈ c
    exact cur_mem (k := k) (by omega)
theorem atI_last {α : Type} {l : List α} (d : α) (h : 0 < l.length) : atI l (-1) = some (l.getLastD d) := by
  unfold atI ixN
  rw [if_neg (by decide), if_pos (by omega)]
  have e : (-1 + (l.length : Int)).toNat = l.length - 1 := by omega
  rw [e]
  show l[l.length - 1]? = _
  rw [← List.getLast?_eq_getElem?]
  cases l with
  | nil => simp at h
  | cons x r => rw [List.getLastD_cons, List.getLast?_cons, List.getLastD_eq_getLast?]
theorem atI_prev {α β : Type} (f : α → β) {c : List α} {k : Nat} (d : α) (h : k < c.length) : atI (c.map f) ((k : Int) - 1) = some (f ((c.getLastD d :: c).getD k d)) := by
  cases k with
  | zero =>
    have hp : 0 < (c.map f).length := by rw [List.length_map]; exact h
    show atI (c.map f) (-1) = _
    rw [atI_last (f d) hp]
    cases c with
    | nil => simp at h
    | cons x r => rw [My.getLastD_map f (x :: r) d (f d) (by simp)]; rfl
  | succ k =>
    have e : ((k + 1 : Nat) : Int) - 1 = (k : Int) := by omega
    rw [e]
    refine atI_nat' ?_
    rw [List.getElem?_map, List.getElem?_eq_getElem (by omega)]
    show some (f c[k]) = some (f (c.getD k d))
    rw [List.getD_eq_getElem?_getD, List.getElem?_eq_getElem (by omega)]; rfl
/-! ### side_between, sides_of -/
section
variable {P : Program} {w : World} {K : PySem.W.Frag} {mg : Str → Option Value} {base : Heap} (T : Tx K mg)
def R_side_between : List PyData → PyData → Prop := fun ds d => ∃ a b : T3, Bt 2000 a ∧ Bt 2000 b ∧ ds = [plD a, plD b] ∧ d = sdD (sideM a b)
theorem sc_side_between : FnScope ["one", "other"] ["one", "other"] (defScope (topS 16)) := ⟨rfl, rfl, rfl, by decide +kernel, rfl, by decide +kernel, by decide +kernel⟩
include T in
theorem ok_side_between : Ok P w K mg base 3 "side_between" ["one", "other"] (spF (pR R_side_between)) := by
  have nd := sc_side_between.nd
  have o_before := (ok_before (P := P) (w := w) (base := base) T).up (k := 2) (by decide)
  have o_line_through := ok_line_through (P := P) (w := w) (base := base) T
  refine T.d_side_between.okP sc_side_between (fun ds d h => by obtain ⟨_, _, _, _, rfl, _⟩ := h; rfl) fun f cdv A outer s H E hr => ⟨_, (pss_cons (ps_if (pt_val (pe_own o_before hr rfl (pa_cons (pv 1) (pa_cons (pv 0) pa_nil)))) (pss_one (ps_ret (pe_tup (pa_cons (pv 1) (pa_cons (pv 0) (pa_cons (pe_own o_line_through hr rfl (pa_cons (pv 1) (pa_cons (pv 0) pa_nil))) pa_nil)))))) pss_nil) (pss_one (ps_ret (pe_tup (pa_cons (pv 0) (pa_cons (pv 1) (pa_cons (pe_own o_line_through hr rfl (pa_cons (pv 0) (pa_cons (pv 1) pa_nil))) pa_nil))))))), fun ds d h => ?_⟩
  obtain ⟨a, b, ha, hb, rfl, rfl⟩ := h
  refine wp_when (xt_B (x_before (xd_cons (xe_v 1 rfl) (xd_cons (xe_v 0 rfl) xd_nil)) ⟨hb, ha⟩)) (fun h => ?_) fun h => ?_
  · refine wp_ret (xe_tup (xd_cons (xe_v 1 rfl) (xd_cons (xe_v 0 rfl) (xd_cons (x_line_through (xd_cons (xe_v 1 rfl) (xd_cons (xe_v 0 rfl) xd_nil)) ⟨hb, ha⟩) xd_nil)))) ⟨?_, rfl⟩
    unfold sideM
    rw [if_pos h]; rfl
  · refine wp_ret (xe_tup (xd_cons (xe_v 0 rfl) (xd_cons (xe_v 1 rfl) (xd_cons (x_line_through (xd_cons (xe_v 0 rfl) (xd_cons (xe_v 1 rfl) xd_nil)) ⟨ha, hb⟩) xd_nil)))) ⟨?_, rfl⟩
    unfold sideM
    rw [if_neg (by rw [h]; decide)]; rfl
theorem x_side_between {L : Sls} {C C' : Cs} {ta : TA} {a b : T3} (h : Xd ta L C [plD a, plD b] C') (r : Bt 2000 a ∧ Bt 2000 b) : Xe (tCall (spF (pR R_side_between)) [] E0 ta) L C (dt (sdD (sideM a b))) C' := xe_call h ⟨a, b, r.1, r.2, rfl, rfl⟩
theorem ringSides_at {c : List T3} {k : Nat} (h : k < c.length) : (ringSidesM c)[k]? = some (sideM (prv c k) (cur c k)) := by
  unfold ringSidesM
  rw [List.getElem?_map, List.getElem?_zip_eq_some (z := (prv c k, cur c k)) |>.2]
  · rfl
  · refine ⟨?_, cur_at h⟩
    unfold prv
    rw [List.getD_eq_getElem?_getD, List.getElem?_eq_getElem (by simp; omega)]; rfl
theorem ringSides_len (c : List T3) : (ringSidesM c).length = c.length := by
  unfold ringSidesM
  rw [List.length_map, List.length_zip, List.length_cons]; omega
theorem take_more {α : Type} {l : List α} {i : Nat} {x : α} (h : l[i]? = some x) : l.take (i + 1) = l.take i ++ [x] := by rw [List.take_add_one, h]; rfl
theorem flat_more {α β : Type} {l : List α} {i : Nat} {x : α} (f : α → List β) (h : l[i]? = some x) : (l.take (i + 1)).flatMap f = (l.take i).flatMap f ++ f x := by rw [take_more h, List.flatMap_append]; simp
theorem flat_len {α β : Type} {l : List α} {i : Nat} {x : α} (f : α → List β) (h : l[i]? = some x) (k : Nat) : ((l.take i).flatMap f ++ (f x).take k).length ≤ (l.flatMap f).length := by
  have e : l = l.take i ++ x :: l.drop (i + 1) := by
    have h1 := List.getElem?_eq_some_iff.1 h
    exact (List.take_append_drop i l).symm.trans (by rw [List.drop_eq_getElem_cons h1.1, h1.2])
  conv => rhs; rw [e]
  rw [List.flatMap_append, List.flatMap_cons, List.length_append, List.length_append, List.length_append, List.length_take]
  omega
theorem map_at {α β : Type} {l : List α} {f : α → β} {i : Nat} {d : β} (h : (l.map f)[i]? = some d) : ∃ x, l[i]? = some x ∧ d = f x := by
  rw [List.getElem?_map] at h
  cases e : l[i]? with
  | none => rw [e] at h; cases h
  | some x => rw [e] at h; exact ⟨x, rfl, (Option.some.inj h).symm⟩
def R_sides_of : List PyData → PyData → Prop := fun ds d => ∃ r : List (List T3), (∀ c ∈ r, ∀ t ∈ c, Bt 2000 t) ∧ (sidesM r).length ≤ 100000 ∧ ds = [rsD r] ∧ d = .list ((sidesM r).map sdD)
theorem sc_sides_of : FnScope ["rings", "sides", "ring", "k"] ["rings"] (defScope (topS 17)) := ⟨rfl, rfl, rfl, by decide +kernel, rfl, by decide +kernel, by decide +kernel⟩
include T in
theorem ok_sides_of : Ok P w K mg base 4 "sides_of" ["rings"] (spF (pR R_sides_of)) := by
  have nd := sc_sides_of.nd
  have o_side_between := ok_side_between (P := P) (w := w) (base := base) T
  refine T.d_sides_of.okP sc_sides_of (fun ds d h => by obtain ⟨_, _, _, rfl, _⟩ := h; rfl) fun f cdv A outer s H E hr => ⟨_, (pss_cons (ps_set (i := 1) nd rfl (Or.inl rfl) (pe_lst pa_nil)) (pss_cons (ps_for PassesOwn.never rfl (pi_list (pv 0)) (pg_name (i := 2) nd rfl (Or.inl rfl)) (pss_one (ps_for PassesOwn.never rfl (pi_range1 rfl T.m_range (pa_cons (pe_callB call_len_seq (by rfl) T.m_len PySem.boot_len (pa_cons (pv 2) pa_nil)) pa_nil)) (pg_name (i := 3) nd rfl (Or.inl rfl)) (pss_one (ps_expr (pe_bm PySem.F.plainAttrs_list PySem.F.slot_list_append PySem.F.type_list_append mt_append (pv 1) (pa_cons (pe_own o_side_between hr rfl (pa_cons (pe_ix ix_seq (pv 2) (pe_op op_sub (pv 3) pe_int) (fun _ _ => rfl)) (pa_cons (pe_ix ix_seq (pv 2) (pv 3) (fun _ _ => rfl)) pa_nil))) pa_nil))))))) (pss_one (ps_ret (pv 1))))), fun ds d h => ?_⟩
  obtain ⟨r, hr, hl, rfl, rfl⟩ := h
  refine wp_new fun p n n0 => wp_seq (wp_for (fun i L C => ∃ o2 o3, L = [some (dt (rsD r)), some (rf p), o2, o3] ∧ C = [(p, cL (((r.take i).flatMap ringSidesM).map sdD))]) (xe_v 0 rfl) ⟨none, none, rfl, rfl⟩ ?_ ?_)
  · rintro i d L C hd ⟨o2, o3, rfl, rfl⟩
    obtain ⟨c, hc, rfl⟩ := map_at hd
    have hcm := List.mem_of_getElem? hc
    refine wp_rng (n := c.length) (fun k L C => ∃ o3, L = [some (dt (rsD r)), some (rf p), some (dt (rgD c)), o3] ∧ C = [(p, cL (((r.take i).flatMap ringSidesM ++ (ringSidesM c).take k).map sdD))]) (by
        have := xa_cons (xe_cb (xd_cons (xe_v (L := [some (dt (rsD r)), some (rf p), some (dt (rgD c)), o3]) (C := [(p, cL (((r.take i).flatMap ringSidesM).map sdD))]) 2 rfl) xd_nil) (vn_len (K := K))) xa_nil
        rwa [List.length_map] at this) ?_ ⟨o3, rfl, by rw [List.take_zero, List.append_nil]⟩ ?_ ?_
    · have h1 := flat_len ringSidesM hc c.length
      rw [List.length_append, List.length_take, ringSides_len] at h1
      have : (sidesM r).length = (r.flatMap ringSidesM).length := rfl
      omega
    · rintro k L C hk ⟨o3, rfl, rfl⟩
      refine wp_push [] [] rfl List.mem_cons_self (x_side_between (a := prv c k) (b := cur c k) (xd_cons (xe_ixL (xe_v 2 rfl) (xe_I0 (xe_v 3 rfl) xe_i) (atI_prev plD _ hk)) (xd_cons (xe_ixL (xe_v 2 rfl) (xe_v 3 rfl) (atI_cur hk)) xd_nil)) ⟨hr c hcm _ (prv_mem hk), hr c hcm _ (cur_mem hk)⟩) ?_ ⟨_, rfl, ?_⟩
      · rw [List.length_map]
        have h1 := flat_len ringSidesM hc k
        have : (sidesM r).length = (r.flatMap ringSidesM).length := rfl
        omega
      · simp only [take_more (ringSides_at hk), List.map_append, List.nil_append, List.map_cons, List.map_nil, List.append_assoc]
    · rintro L C ⟨o3, rfl, rfl⟩
      refine ⟨_, _, rfl, ?_⟩
      rw [flat_more ringSidesM hc, List.take_of_length_le (l := ringSidesM c) (by rw [ringSides_len]; exact Nat.le_refl _)]
  · rintro L C ⟨o2, o3, rfl, rfl⟩
    refine wp_retOwn [] [] rfl rfl n0 ⟨?_, rfl⟩
    rw [show (r.map rgD).length = r.length from List.length_map .., List.take_length]; rfl
theorem x_sides_of {L : Sls} {C C' : Cs} {ta : TA} {r : List (List T3)} (h : Xd ta L C [rsD r] C') (k : (∀ c ∈ r, ∀ t ∈ c, Bt 2000 t) ∧ (sidesM r).length ≤ 100000) : Xe (tCall (spF (pR R_sides_of)) [] E0 ta) L C (dt (.list ((sidesM r).map sdD))) C' := xe_call h ⟨r, k.1, k.2, rfl, rfl⟩
/-! ### is_on, beside, is_in -/
def R_is_on : List PyData → PyData → Prop := fun ds d => ∃ (s : Sd) (t : T3), Bs s ∧ Bt 2000 t ∧ ds = [sdD s, plD t] ∧ d = .bool (isOnM s t)
theorem sc_is_on : FnScope ["side", "spot"] ["side", "spot"] (defScope (topS 18)) := ⟨rfl, rfl, rfl, by decide +kernel, rfl, by decide +kernel, by decide +kernel⟩
include T in
theorem ok_is_on : Ok P w K mg base 2 "is_on" ["side", "spot"] (spF (pR R_is_on)) := by
  have nd := sc_is_on.nd
  have o_before := ok_before (P := P) (w := w) (base := base) T
  have o_leftness := ok_leftness (P := P) (w := w) (base := base) T
  refine T.d_is_on.okP sc_is_on (fun ds d h => by obtain ⟨_, _, _, _, rfl, _⟩ := h; rfl) fun f cdv A outer s H E hr => ⟨_, (pss_cons (ps_if (PW.pt (pw_or (pt_val (pe_own o_before hr rfl (pa_cons (pv 1) (pa_cons (pe_ix ix_seq (pv 0) pe_int (fun _ _ => rfl)) pa_nil)))) (pw_or1 (pt_val (pe_own o_before hr rfl (pa_cons (pe_ix ix_seq (pv 0) pe_int (fun _ _ => rfl)) (pa_cons (pv 1) pa_nil))))))) (pss_one (ps_ret pe_bl)) pss_nil) (pss_one (ps_ret (pe_cmpR op_eq (pe_own o_leftness hr rfl (pa_cons (pe_ix ix_seq (pv 0) pe_int (fun _ _ => rfl)) (pa_cons (pv 1) pa_nil))) pe_int (nomark _))))), fun ds d h => ?_⟩
  obtain ⟨s, t, hs, ht, rfl, rfl⟩ := h
  refine wp_when (xt_or (xt_B (x_before (a := t) (b := s.1) (xd_cons (xe_v 1 rfl) (xd_cons (xe_ixT (xe_v 0 rfl) xe_i rfl) xd_nil)) ⟨ht, hs.1⟩)) fun _ => (xt_B (x_before (a := s.2.1) (b := t) (xd_cons (xe_ixT (xe_v 0 rfl) xe_i rfl) (xd_cons (xe_v 1 rfl) xd_nil)) ⟨hs.2.1, ht⟩))) (fun h => ?_) fun h => ?_
  · refine wp_ret xe_b ⟨?_, rfl⟩
    unfold isOnM
    rw [if_pos h]
  · refine wp_ret (xe_eq (x_leftness (a := s.2.2) (b := t) (xd_cons (xe_ixT (xe_v 0 rfl) xe_i rfl) (xd_cons (xe_v 1 rfl) xd_nil)) ⟨hs.2.2, ht.mono (by decide)⟩) xe_i) ⟨?_, rfl⟩
    unfold isOnM
    rw [if_neg (by rw [h]; decide)]
theorem x_is_on {L : Sls} {C C' : Cs} {ta : TA} {s : Sd} {t : T3} (h : Xd ta L C [sdD s, plD t] C') (k : Bs s ∧ Bt 2000 t) : Xe (tCall (spF (pR R_is_on)) [] E0 ta) L C (bo (isOnM s t)) C' := xe_call h ⟨s, t, k.1, k.2, rfl, rfl⟩
def bbD (b : Bool × Bool) : PyData := .tuple [.bool b.1, .bool b.2]
def R_beside : List PyData → PyData → Prop := fun ds d => ∃ (t : T3) (S : List Sd), Bt 2000 t ∧ (∀ s ∈ S, Bs s) ∧ ds = [plD t, .list (S.map sdD)] ∧ d = bbD (besideM t S)
theorem cnt_more {t : T3} {S : List Sd} {i : Nat} {s : Sd} (h : S[i]? = some s) : cntM t (S.take (i + 1)) = (if beforeM t s.2.1 = true ∧ beforeM t s.1 = false then (if leftM s.2.2 t < 0 then (cntM t (S.take i)).1 + 1 else (cntM t (S.take i)).1, if leftM s.2.2 t = 0 then (cntM t (S.take i)).2 + 1 else (cntM t (S.take i)).2) else cntM t (S.take i)) := by
  unfold cntM
  rw [take_more h, List.foldl_append]; rfl
theorem sc_beside : FnScope ["spot", "sides", "above", "here", "side", "off"] ["spot", "sides"] (defScope (topS 23)) := ⟨rfl, rfl, rfl, by decide +kernel, rfl, by decide +kernel, by decide +kernel⟩
include T in
theorem ok_beside : Ok P w K mg base 2 "beside" ["spot", "sides"] (spF (pR R_beside)) := by
  have nd := sc_beside.nd
  have o_before := ok_before (P := P) (w := w) (base := base) T
  have o_leftness := ok_leftness (P := P) (w := w) (base := base) T
  refine T.d_beside.okP sc_beside (fun ds d h => by obtain ⟨_, _, _, _, rfl, _⟩ := h; rfl) fun f cdv A outer s H E hr => ⟨_, (pss_cons (ps_set (i := 2) nd rfl (Or.inl rfl) pe_int) (pss_cons (ps_set (i := 3) nd rfl (Or.inl rfl) pe_int) (pss_cons (ps_for PassesOwn.never rfl (pi_list (pv 1)) (pg_name (i := 4) nd rfl (Or.inl rfl)) (pss_one (ps_if (PW.pt (pw_and (pt_val (pe_own o_before hr rfl (pa_cons (pv 0) (pa_cons (pe_ix ix_seq (pv 4) pe_int (fun _ _ => rfl)) pa_nil)))) (pw_and1 (pt_not (pt_val (pe_own o_before hr rfl (pa_cons (pv 0) (pa_cons (pe_ix ix_seq (pv 4) pe_int (fun _ _ => rfl)) pa_nil)))))))) (pss_cons (ps_set (i := 5) nd rfl (Or.inl rfl) (pe_own o_leftness hr rfl (pa_cons (pe_ix ix_seq (pv 4) pe_int (fun _ _ => rfl)) (pa_cons (pv 0) pa_nil)))) (pss_cons (ps_if (pt_cmpR op_lt (pv 5) pe_int (nomark _)) (pss_one (ps_aug (i := 2) nd rfl (Or.inl rfl) pe_int ip_add)) pss_nil) (pss_one (ps_if (pt_cmpR op_eq (pv 5) pe_int (nomark _)) (pss_one (ps_aug (i := 3) nd rfl (Or.inl rfl) pe_int ip_add)) pss_nil)))) pss_nil))) (pss_one (ps_ret (pe_tup (pa_cons (pe_cmpR op_eq (pe_op op_modN (pv 2) pe_int) pe_int (nomark _)) (pa_cons (pe_cmpR op_eq (pe_op op_modN (pe_op op_add (pv 2) (pv 3)) pe_int) pe_int (nomark _)) pa_nil)))))))), fun ds d h => ?_⟩
  obtain ⟨t, S, ht, hS, rfl, rfl⟩ := h
  refine wp_set xe_i (wp_set xe_i (wp_seq (wp_for (fun i L C => ∃ o4 o5, L = [some (dt (plD t)), some (dt (.list (S.map sdD))), some (it (cntM t (S.take i)).1), some (it (cntM t (S.take i)).2), o4, o5] ∧ C = []) (xe_v 1 rfl) ⟨none, none, rfl, rfl⟩ ?_ ?_)))
  · rintro i d L C hd ⟨o4, o5, rfl, rfl⟩
    obtain ⟨s, hs, rfl⟩ := map_at hd
    have bs := hS s (List.mem_of_getElem? hs)
    have em := cnt_more (t := t) hs
    refine wp_if (xt_and (xt_B (x_before (a := t) (b := s.2.1) (xd_cons (xe_v 0 rfl) (xd_cons (xe_ixT (xe_v 4 rfl) xe_i rfl) xd_nil)) ⟨ht, bs.2.1⟩)) fun _ => (xt_not (xt_B (x_before (a := t) (b := s.1) (xd_cons (xe_v 0 rfl) (xd_cons (xe_ixT (xe_v 4 rfl) xe_i rfl) xd_nil)) ⟨ht, bs.1⟩)))) (fun h => ?_) fun h => ?_
    · have h' : beforeM t s.2.1 = true ∧ beforeM t s.1 = false := by simpa using h
      rw [if_pos h'] at em
      refine wp_set (x_leftness (a := s.2.2) (b := t) (xd_cons (xe_ixT (xe_v 4 rfl) xe_i rfl) (xd_cons (xe_v 0 rfl) xd_nil)) ⟨bs.2.2, ht.mono (by decide)⟩) ?_
      refine wp_when (xt_test (xe_C0 (xe_v 5 rfl) xe_i)) (fun h1 => wp_augI rfl xe_i ?_) fun h1 => ?_
      · have h1' : leftM s.2.2 t < 0 := by simpa using h1
        refine wp_if (xt_test (xe_eq (xe_v 5 rfl) xe_i)) (fun h2 => wp_augI rfl xe_i ⟨some (dt (sdD s)), some (it (leftM s.2.2 t)), ?_, rfl⟩) fun h2 => wp_next ⟨some (dt (sdD s)), some (it (leftM s.2.2 t)), ?_, rfl⟩
        · have h2' : leftM s.2.2 t = 0 := by simpa using h2
          omega
        · have h2' : ¬ leftM s.2.2 t = 0 := by simpa using h2
          rw [em, if_pos h1', if_neg h2']; rfl
      · have h1' : ¬ leftM s.2.2 t < 0 := by simpa using h1
        refine wp_if (xt_test (xe_eq (xe_v 5 rfl) xe_i)) (fun h2 => wp_augI rfl xe_i ⟨some (dt (sdD s)), some (it (leftM s.2.2 t)), ?_, rfl⟩) fun h2 => wp_next ⟨some (dt (sdD s)), some (it (leftM s.2.2 t)), ?_, rfl⟩
        · have h2' : leftM s.2.2 t = 0 := by simpa using h2
          rw [em, if_neg h1', if_pos h2']; rfl
        · have h2' : ¬ leftM s.2.2 t = 0 := by simpa using h2
          rw [em, if_neg h1', if_neg h2']; rfl
    · have h' : ¬ (beforeM t s.2.1 = true ∧ beforeM t s.1 = false) := by simpa using h
      rw [if_neg h'] at em
      exact wp_next ⟨_, _, by rw [em]; rfl, rfl⟩
  · rintro L C ⟨o4, o5, rfl, rfl⟩
    rw [List.length_map, List.take_length]
    refine wp_ret (xe_tup (xd_cons (xe_eq (xe_I (xe_v 2 rfl) xe_i (by decide)) xe_i) (xd_cons (xe_eq (xe_I (xe_I0 (xe_v 2 rfl) (xe_v 3 rfl)) xe_i (by decide)) xe_i) xd_nil))) ⟨?_, rfl⟩
    rfl
theorem x_beside {L : Sls} {C C' : Cs} {ta : TA} {t : T3} {S : List Sd} (h : Xd ta L C [plD t, .list (S.map sdD)] C') (k : Bt 2000 t ∧ ∀ s ∈ S, Bs s) : Xe (tCall (spF (pR R_beside)) [] E0 ta) L C (dt (bbD (besideM t S))) C' := xe_call h ⟨t, S, k.1, k.2, rfl, rfl⟩
def R_is_in : List PyData → PyData → Prop := fun ds d => ∃ (k : Int) (a b : Bool), ds = [.int k, .bool a, .bool b] ∧ d = .bool (isInM k a b)
theorem sc_is_in : FnScope ["kind", "in_one", "in_other"] ["kind", "in_one", "in_other"] (defScope (topS 24)) := ⟨rfl, rfl, rfl, by decide +kernel, rfl, by decide +kernel, by decide +kernel⟩
include T in
theorem ok_is_in : Ok P w K mg base 1 "is_in" ["kind", "in_one", "in_other"] (spF (pR R_is_in)) := by
  have nd := sc_is_in.nd
  refine T.d_is_in.okP sc_is_in (fun ds d h => by obtain ⟨_, _, _, rfl, _⟩ := h; rfl) fun f cdv A outer s H E hr => ⟨_, (pss_cons (ps_if (pt_cmpR op_eq (pv 0) (pe_ct T.c_EITHER rfl) (nomark _)) (pss_one (ps_ret (pe_or (pv 1) (pe_one (pv 2))))) pss_nil) (pss_cons (ps_if (pt_cmpR op_eq (pv 0) (pe_ct T.c_BOTH rfl) (nomark _)) (pss_one (ps_ret (pe_and (pv 1) (pe_one (pv 2))))) pss_nil) (pss_cons (ps_if (pt_cmpR op_eq (pv 0) (pe_ct T.c_FIRST_ALONE rfl) (nomark _)) (pss_one (ps_ret (pe_and (pv 1) (pe_one (pe_not (pv 2)))))) pss_nil) (pss_one (ps_ret (pe_cmpR op_ne (pv 1) (pv 2) (nomark _))))))), fun ds d h => ?_⟩
  obtain ⟨k, a, b, rfl, rfl⟩ := h
  refine wp_when (xt_test (xe_eq (xe_v 0 rfl) xe_i)) (fun h => ?_) fun h => wp_when (xt_test (xe_eq (xe_v 0 rfl) xe_i)) (fun h2 => ?_) fun h2 => wp_when (xt_test (xe_eq (xe_v 0 rfl) xe_i)) (fun h3 => ?_) fun h3 => ?_
  · have h : k = 0 := by simpa using h
    refine wp_ret (xe_or (xe_v 1 rfl) fun _ => (xe_v 2 rfl)) ⟨?_, rfl⟩
    unfold isInM; rw [if_pos h]
  · have h : ¬ k = 0 := by simpa using h
    have h2 : k = 1 := by simpa using h2
    refine wp_ret (xe_and (xe_v 1 rfl) fun _ => (xe_v 2 rfl)) ⟨?_, rfl⟩
    unfold isInM; rw [if_neg h, if_pos h2]
  · have h : ¬ k = 0 := by simpa using h
    have h2 : ¬ k = 1 := by simpa using h2
    have h3 : k = 2 := by simpa using h3
    refine wp_ret (xe_and (xe_v 1 rfl) fun _ => (xe_not (xe_v 2 rfl))) ⟨?_, rfl⟩
    unfold isInM; rw [if_neg h, if_neg h2, if_pos h3]
  · have h : ¬ k = 0 := by simpa using h
    have h2 : ¬ k = 1 := by simpa using h2
    have h3 : ¬ k = 2 := by simpa using h3
    refine wp_ret (xe_neB (xe_v 1 rfl) (xe_v 2 rfl)) ⟨?_, rfl⟩
    unfold isInM; rw [if_neg h, if_neg h2, if_neg h3]
theorem x_is_in {L : Sls} {C C' : Cs} {ta : TA} {k : Int} {a b : Bool} (h : Xd ta L C [.int k, .bool a, .bool b] C') : Xe (tCall (spF (pR R_is_in)) [] E0 ta) L C (bo (isInM k a b)) C' := xe_call h ⟨k, a, b, rfl, rfl⟩
end
end Wk
end
section
set_option Elab.async false
set_option linter.all false
set_option maxRecDepth 100000
namespace Wk
open PySem PySem.Spec PyProof.Rows L2
open Evl (Ex ex_l ex_t sq_of st_of)
open My (T3 Sd cf placeM beforeM crossM leftM midM meetM moveM fracM sideM ringSidesM sidesM cntM besideM isInM isOnM addCutM insCut addEndsM cutTwoM)
def Bz (s : Sd) : Prop := Bt 100 s.1 ∧ Bt 100 s.2.1 ∧ Bt 201 s.2.2
theorem Bz.bs {s : Sd} (h : Bz s) : Bs s := ⟨h.1.mono (by decide), h.2.1.mono (by decide), h.2.2.mono (by decide)⟩
theorem eqv_int (i j : Int) : PyData.eqv (.int i) (.int j) = decide (i = j) := by
  show (i == j) = _
  by_cases h : i = j <;> simp [h]
theorem eqv_pl (a b : T3) : PyData.eqv (plD a) (plD b) = decide (a = b) := by
  obtain ⟨a1, a2, a3⟩ := a
  obtain ⟨b1, b2, b3⟩ := b
  show (PyData.eqv (.int a1) (.int b1) && (PyData.eqv (.int a2) (.int b2) && (PyData.eqv (.int a3) (.int b3) && true))) = _
  rw [eqv_int, eqv_int, eqv_int]
  by_cases h1 : a1 = b1 <;> by_cases h2 : a2 = b2 <;> by_cases h3 : a3 = b3 <;> simp [h1, h2, h3]
theorem shaped_pl (a : T3) : SeqAt.shaped (plD a) = true := by rfl
theorem ins_at : ∀ {cs : List T3} {s c : T3} {k : Nat}, (∀ j x, j < k → cs[j]? = some x → beforeM x s = true) → cs[k]? = some c → beforeM c s = false → insCut cs s = if c ≠ s then cs.take k ++ s :: cs.drop k else cs
  | [], s, c, k, _, h, _ => by simp at h
  | x :: r, s, c, 0, _, h, hb => by
    simp at h
    subst h
    unfold insCut
    rw [if_neg (by rw [hb]; decide)]
    by_cases q : x = s
    · rw [if_neg (by simpa using q), if_neg (by simpa using q)]
    · rw [if_pos q, if_pos q]; rfl
  | x :: r, s, c, k + 1, hp, h, hb => by
    have h0 := hp 0 x (by omega) rfl
    unfold insCut
    rw [if_pos h0, ins_at (k := k) (fun j y hj hy => hp (j + 1) y (by omega) (by simpa using hy)) (by simpa using h) hb]
    by_cases q : c = s
    · rw [if_neg (by simpa using q), if_neg (by simpa using q)]
    · rw [if_pos q, if_pos q]; rfl
section
variable {K : PySem.W.Frag} {L : Sls} {C C' C0 C1 C2 Ca Cb Ca' : Cs} {te t1 t2 : TE} {s : SP} {N : Sls → Cs → Prop} {R : SP → Cs → Prop} {ds : List PyData} {d : PyData}
theorem xe_callP {R : List SP → Cs → SP → Cs → Prop} {ta : TA} {ss : List SP} (h : Xa ta L C ss C1) (p : C1.Perm (Ca ++ Cb)) (p' : (Ca' ++ Cb).Perm C2) (r : R ss Ca s Ca') : Xe (tCall (spF R) [] E0 ta) L C s C2 := fun σ G H sl e c Q q => h σ G H sl e c _ fun vs G1 H1 w1 r1 => by
  have c1 := w1.cl.perm p
  refine ⟨G1, ss, Ca, s, Ca', w1.dn, c1.left, ?_, r, fun v G2 H2 w2 r2 => q v G2 H2 (w1.trans c ((w2.frame c1).perm p.symm p')) r2⟩
  rw [List.append_nil]; exact r1
/-- xs.insert(i, e) -/
theorem wp_ins {p : Addr} {i : Nat} {k : Nat} (Ca Cb : Cs) (hi : L[i]? = some (some (rf p))) (hc : C = Ca ++ (p, cL ds) :: Cb) (h1 : Xe t1 L C (it (k : Nat)) C) (h2 : Xe t2 L C (dt d) C) (hz : ds.length < 1000000) (hk : k < 1000000) (q : N L (Ca ++ (p, cL (ds.take k ++ d :: ds.drop k)) :: Cb)) :
    WP (tDrop (tBM K "list" (fun x vs H Q => ∃ (l : Addr) (xs : List V) (i : Int) (y : V), x = .ref l ∧ vs = [.int i, y] ∧ H l = some (.lst xs) ∧ xs.length < sizeLine ∧ 0 ≤ i ∧ i < 2 ^ 63 ∧ Q .non (upd H l (.lst (xs.take i.toNat ++ [y] ++ xs.drop i.toNat)))) (tVar i) (tCons t1 (tCons t2 tNil)))) C0 L C N R := fun G0 H0 σ G H D c0 tr sl hn hr => by
  subst hc
  obtain ⟨v, e1, e2⟩ := sl.at' i _ hi
  cases e2
  have hm : (p, cL ds) ∈ Ca ++ (p, cL ds) :: Cb := List.mem_append.2 (.inr List.mem_cons_self)
  obtain ⟨o, q1, ⟨xs, rfl, hx⟩, q3⟩ := tr.cl.at' p _ hm
  refine ⟨.ref p, e1, .inl ⟨rfl, _, sq_of q1⟩, h1 σ G H sl tr.dn tr.cl _ fun v1 G1 H1 t1 r1 => h2 σ G1 H1 (sl.ex t1.up) t1.dn t1.cl _ fun v2 G2 H2 t2 r2 => ?_⟩
  cases r1
  obtain ⟨o, k1, ⟨ys, rfl, hy⟩, k3⟩ := t2.cl.at' p _ hm
  refine ⟨p, ys, (k : Int), v2, rfl, rfl, k1, ?_, by omega, by omega, hn _ _ _ G2 _ q (((tr.trans c0 t1).trans c0 t2).trans c0 (Tr.put t2.dn t2.cl ⟨_, rfl, ?_⟩)) (t1.up.trans t2.up) ((sl.ex t1.up).ex t2.up)⟩
  · rw [hy.len]; exact Nat.lt_of_lt_of_le hz (by decide)
  · rw [Int.toNat_natCast, List.append_assoc]
    exact (hy.take k).append (.cons r2 (hy.drop k))
end
section
variable {P : Program} {w : World} {K : PySem.W.Frag} {mg : Str → Option Value} {base : Heap} (T : Tx K mg)
/-! ### add_cut -/
def ctD (cs : List T3) : CP := cL (cs.map plD)
def R_add_cut : List SP → Cs → SP → Cs → Prop := fun ss C s C' => ∃ (p : Addr) (cs : List T3) (t : T3), cs ≠ [] ∧ (∀ c ∈ cs, Bt 2000 c) ∧ Bt 2000 t ∧ cs.length < 1000000 ∧ ss = [rf p, dt (plD t)] ∧ C = [(p, ctD cs)] ∧ s = nn ∧ C' = [(p, ctD (addCutM cs t))]
theorem sc_add_cut : FnScope ["cuts", "spot", "k"] ["cuts", "spot"] (defScope (topS 19)) := ⟨rfl, rfl, rfl, by decide +kernel, rfl, by decide +kernel, by decide +kernel⟩
include T in
theorem ok_add_cut : Ok P w K mg base 2 "add_cut" ["cuts", "spot"] (spF R_add_cut) := by
  have nd := sc_add_cut.nd
  have o_before := ok_before (P := P) (w := w) (base := base) T
  refine T.d_add_cut.okF sc_add_cut (fun ss C s C' h => by obtain ⟨_, _, _, _, _, _, _, rfl, _⟩ := h; rfl) fun f cdv A outer s H E hr => ⟨_, (pss_cons (ps_if (PW.pt (pw_or (pt_val (pe_own o_before hr rfl (pa_cons (pv 1) (pa_cons (pe_ix ix_seq (pv 0) pe_int (fun _ _ => rfl)) pa_nil)))) (pw_or1 (pt_val (pe_own o_before hr rfl (pa_cons (pe_ix ix_seq (pv 0) (pe_un un_neg pe_int) (fun _ _ => rfl)) (pa_cons (pv 1) pa_nil))))))) (pss_one ps_retN) pss_nil) (pss_cons (ps_set (i := 2) nd rfl (Or.inl rfl) pe_int) (pss_cons (ps_while PassesOwn.never (pt_val (pe_own o_before hr rfl (pa_cons (pe_ix ix_seq (pv 0) (pv 2) (fun _ _ => rfl)) (pa_cons (pv 1) pa_nil)))) (pss_one (ps_aug (i := 2) nd rfl (Or.inl rfl) pe_int ip_add))) (pss_one (ps_if (pt_cmpR (op_neD hr.units) (pe_ix ix_seq (pv 0) (pv 2) (fun _ _ => rfl)) (pv 1) (nomark _)) (pss_one (ps_expr (pe_bm PySem.F.plainAttrs_list PySem.F.slot_list_insert PySem.F.type_list_insert mt_insert (pv 0) (pa_cons (pv 2) (pa_cons (pv 1) pa_nil))))) pss_nil))))), fun ss C z C' h => ?_⟩
  obtain ⟨p, cs, t, ne, bc, bt, hl, rfl, rfl, rfl, rfl⟩ := h
  have hp : 0 < cs.length := List.length_pos_iff.2 ne
  have hd0 : cs.headD (0, 0, 0) ∈ cs := by
    cases cs with
    | nil => exact absurd rfl ne
    | cons x r => exact List.mem_cons_self
  have e0 : atI (cs.map plD) 0 = some (plD (cs.headD (0, 0, 0))) := by
    cases cs with
    | nil => exact absurd rfl ne
    | cons x r => exact atI_nat' (k := 0) rfl
  have e1 : atI (cs.map plD) (-1) = some (plD (cs.getLastD (0, 0, 0))) := by
    rw [atI_last (plD (0, 0, 0)) (by rw [List.length_map]; exact hp), My.getLastD_map plD cs (0, 0, 0) _ ne]
  have hm : (p, cL (cs.map plD)) ∈ [(p, ctD cs)] := List.mem_cons_self
  refine wp_when (xt_or (xt_B (x_before (xd_cons (xe_v 1 rfl) (xd_cons (xe_ixC (xe_v 0 rfl) xe_i hm e0) xd_nil)) ⟨bt, bc _ hd0⟩)) fun _ => (xt_B (x_before (xd_cons (xe_ixC (xe_v 0 rfl) (xe_neg xe_i) hm e1) (xd_cons (xe_v 1 rfl) xd_nil)) ⟨bc _ (getLastD_mem cs _ ne), bt⟩))) (fun h => ?_) fun h => ?_
  · refine wp_retN ⟨rfl, ?_⟩
    have h' : beforeM t (cs.headD (0, 0, 0)) = true ∨ beforeM (cs.getLastD (0, 0, 0)) t = true := by simpa using h
    unfold addCutM
    rw [if_pos h']
  · have h' : ¬ (beforeM t (cs.headD (0, 0, 0)) = true ∨ beforeM (cs.getLastD (0, 0, 0)) t = true) := by simpa using h
    have ea : addCutM cs t = insCut cs t := by unfold addCutM; rw [if_neg h']
    rw [ea]
    refine wp_set xe_i (wp_seq (wp_while (m0 := cs.length) (fun m L C => ∃ k : Nat, m = cs.length - k ∧ k < cs.length ∧ L = [some (rf p), some (dt (plD t)), some (it (k : Nat))] ∧ C = [(p, ctD cs)] ∧ ∀ j x, j < k → cs[j]? = some x → beforeM x t = true) ⟨0, rfl, hp, rfl, rfl, fun j x hj => absurd hj (by omega)⟩ ?_))
    rintro m L C ⟨k, rfl, hk, rfl, rfl, hb⟩
    have ek : atI (cs.map plD) (k : Int) = some (plD (cur cs k)) := atI_cur hk
    refine ⟨_, _, xt_B (x_before (xd_cons (xe_ixC (xe_v 0 rfl) (xe_v 2 rfl) hm ek) (xd_cons (xe_v 1 rfl) xd_nil)) ⟨bc _ (cur_mem hk), bt⟩), fun hc => ?_, fun hc => ?_⟩
    · have hlt : k + 1 < cs.length := by
        refine Nat.lt_of_le_of_ne hk fun e => ?_
        have e2 : cs.getLastD (0, 0, 0) = cur cs k := by
          have q := cur_at hk
          have e3 : k = cs.length - 1 := by omega
          rw [e3, ← List.getLast?_eq_getElem?] at q
          rw [List.getLastD_eq_getLast?, q, ← e3]; rfl
        exact h' (.inr (by rw [e2]; exact hc))
      refine wp_augI rfl xe_i ⟨cs.length - (k + 1), by omega, k + 1, rfl, hlt, ?_, rfl, fun j x hj hx => ?_⟩
      · show [some (rf p), some (dt (plD t)), some (it ((k : Int) + 1))] = _
        rw [show ((k : Int) + 1) = ((k + 1 : Nat) : Int) by omega]
      · by_cases q : j = k
        · subst q
          rw [cur_at hk] at hx
          cases hx
          exact hc
        · exact hb j x (by omega) hx
    · have ei := ins_at hb (cur_at hk) hc
      refine wp_if (xt_test (xe_neD (xe_ixC (xe_v 0 rfl) (xe_v 2 rfl) hm ek) (xe_v 1 rfl) (shaped_pl _) (shaped_pl _))) (fun hq => ?_) fun hq => ?_
      · rw [eqv_pl] at hq
        have hq' : cur cs k ≠ t := by simpa using hq
        rw [if_pos hq'] at ei
        refine wp_ins [] [] rfl rfl (xe_v 2 rfl) (xe_v 1 rfl) (by rw [List.length_map]; exact hl) (by omega) ⟨rfl, ?_⟩
        rw [ei]
        unfold ctD
        simp only [List.map_append, List.map_cons, List.map_take, List.map_drop, List.nil_append]
      · rw [eqv_pl] at hq
        have hq' : ¬ cur cs k ≠ t := by simpa using hq
        rw [if_neg hq'] at ei
        exact wp_next ⟨rfl, by rw [ei]⟩
theorem x_add_cut {L : Sls} {C C1 C2 Cb : Cs} {ta : TA} {p : Addr} {cs : List T3} {t : T3} (h : Xa ta L C [rf p, dt (plD t)] C1) (p1 : C1.Perm ((p, ctD cs) :: Cb)) (p2 : ((p, ctD (addCutM cs t)) :: Cb).Perm C2) (k : cs ≠ [] ∧ (∀ c ∈ cs, Bt 2000 c) ∧ Bt 2000 t ∧ cs.length < 1000000) : Xe (tCall (spF R_add_cut) [] E0 ta) L C nn C2 :=
  xe_callP (Ca := [_]) (Ca' := [_]) h p1 p2 ⟨p, cs, t, k.1, k.2.1, k.2.2.1, k.2.2.2, rfl, rfl, rfl, rfl⟩
end
end Wk
end
section
set_option Elab.async false
set_option linter.all false
set_option maxRecDepth 100000
namespace Wk
open PySem PySem.Spec PyProof.Rows L2
open Evl (Ex ex_l ex_t sq_of st_of)
open My (T3 Sd cf placeM beforeM crossM leftM midM meetM moveM fracM sideM ringSidesM sidesM cntM besideM isInM isOnM addCutM insCut addEndsM cutTwoM)
/-- what a row of cuts is like -/
structure Ro (cs : List T3) : Prop where
  ne : cs ≠ []
  bt : ∀ c ∈ cs, Bt 403 c
theorem Ro.bt2 {cs : List T3} (h : Ro cs) : ∀ c ∈ cs, Bt 2000 c := fun c hc => (h.bt c hc).mono (by decide)
theorem ins_mem {s t : T3} : ∀ {cs : List T3}, t ∈ insCut cs s → t ∈ cs ∨ t = s
  | [], h => by simp [insCut] at h
  | c :: r, h => by
    unfold insCut at h
    split at h
    · rcases List.mem_cons.1 h with q | q
      · exact .inl (by rw [q]; exact List.mem_cons_self)
      · exact (ins_mem q).imp (List.mem_cons_of_mem _) id
    · split at h
      · rcases List.mem_cons.1 h with q | q
        · exact .inr q
        · exact .inl q
      · exact .inl h
theorem ins_len {s : T3} : ∀ (cs : List T3), cs.length ≤ (insCut cs s).length ∧ (insCut cs s).length ≤ cs.length + 1
  | [] => by simp [insCut]
  | c :: r => by
    have := ins_len (s := s) r
    unfold insCut
    split
    · simp only [List.length_cons]; omega
    · split <;> simp only [List.length_cons] <;> omega
theorem add_mem {s t : T3} {cs : List T3} (h : t ∈ addCutM cs s) : t ∈ cs ∨ t = s := by
  unfold addCutM at h
  split at h
  · exact .inl h
  · exact ins_mem h
theorem add_len {s : T3} (cs : List T3) : cs.length ≤ (addCutM cs s).length ∧ (addCutM cs s).length ≤ cs.length + 1 := by
  unfold addCutM
  split
  · omega
  · exact ins_len cs
theorem Ro.add {cs : List T3} {s : T3} (h : Ro cs) (hs : Bt 403 s) : Ro (addCutM cs s) := by
  refine ⟨fun e => ?_, fun c hc => ?_⟩
  · have := (add_len (s := s) cs).1
    rw [e] at this
    exact h.ne (List.length_eq_zero_iff.1 (by simpa using this))
  · rcases add_mem hc with q | q
    · exact h.bt c q
    · rw [q]; exact hs
theorem Ro.ends {cs : List T3} {sd : Sd} (h : Ro cs) (hs : Bz sd) (p q : Int) : Ro (addEndsM cs sd p q) ∧ (addEndsM cs sd p q).length ≤ cs.length + 2 := by
  have b1 := hs.1.mono (show 100 ≤ 403 by decide)
  have b2 := hs.2.1.mono (show 100 ≤ 403 by decide)
  unfold addEndsM
  have k1 : Ro (if p = 0 then addCutM cs sd.1 else cs) ∧ (if p = 0 then addCutM cs sd.1 else cs).length ≤ cs.length + 1 := by
    split
    · exact ⟨h.add b1, (add_len cs).2⟩
    · exact ⟨h, by omega⟩
  dsimp only
  split
  · exact ⟨k1.1.add b2, by have := (add_len (s := sd.2.1) (if p = 0 then addCutM cs sd.1 else cs)).2; omega⟩
  · exact ⟨k1.1, by omega⟩
theorem meet_ne {l c d : T3} (hc : 0 < c.2.2) (hd : 0 < d.2.2) (h : leftM l c * leftM l d < 0) : (crossM l (crossM c d)).2.2 ≠ 0 := by
  have e : (crossM l (crossM c d)).2.2 = c.2.2 * leftM l d - d.2.2 * leftM l c := by unfold crossM leftM; grind
  rw [e]
  rcases My.imul_neg.1 h with ⟨h1, h2⟩ | ⟨h1, h2⟩
  · have a := Int.mul_pos hd h1
    have b := Int.mul_neg_of_pos_of_neg hc h2
    omega
  · have a := Int.mul_neg_of_pos_of_neg hd h1
    have b := Int.mul_pos hc h2
    omega
theorem meet_bt {l m : T3} (hl : Bt 201 l) (hm : Bt 201 m) (h : (crossM l m).2.2 ≠ 0) : Bt 403 (meetM l m) := by
  have := cross_bt hl hm
  exact place_bt h this.1 this.2.1 this.2.2
section
variable {P : Program} {w : World} {K : PySem.W.Frag} {mg : Str → Option Value} {base : Heap} (T : Tx K mg)
/-! ### add_ends -/
def R_add_ends : List SP → Cs → SP → Cs → Prop := fun ss C s C' => ∃ (p : Addr) (cs : List T3) (sd : Sd) (a b : Int), Ro cs ∧ Bz sd ∧ cs.length < 900000 ∧ ss = [rf p, dt (sdD sd), it a, it b] ∧ C = [(p, ctD cs)] ∧ s = nn ∧ C' = [(p, ctD (addEndsM cs sd a b))]
theorem sc_add_ends : FnScope ["cuts", "side", "first_off", "last_off"] ["cuts", "side", "first_off", "last_off"] (defScope (topS 21)) := ⟨rfl, rfl, rfl, by decide +kernel, rfl, by decide +kernel, by decide +kernel⟩
include T in
theorem ok_add_ends : Ok P w K mg base 3 "add_ends" ["cuts", "side", "first_off", "last_off"] (spF R_add_ends) := by
  have nd := sc_add_ends.nd
  have o_add_cut := ok_add_cut (P := P) (w := w) (base := base) T
  refine T.d_add_ends.okF sc_add_ends (fun ss C s C' h => by obtain ⟨_, _, _, _, _, _, _, _, rfl, _⟩ := h; rfl) fun f cdv A outer s H E hr => ⟨_, (pss_cons (ps_if (pt_cmpR op_eq (pv 2) pe_int (nomark _)) (pss_one (ps_expr (pe_own o_add_cut hr rfl (pa_cons (pv 0) (pa_cons (pe_ix ix_seq (pv 1) pe_int (fun _ _ => rfl)) pa_nil))))) pss_nil) (pss_one (ps_if (pt_cmpR op_eq (pv 3) pe_int (nomark _)) (pss_one (ps_expr (pe_own o_add_cut hr rfl (pa_cons (pv 0) (pa_cons (pe_ix ix_seq (pv 1) pe_int (fun _ _ => rfl)) pa_nil))))) pss_nil))), fun ss C z C' h => ?_⟩
  obtain ⟨p, cs, sd, a, b, hc, hs, hl, rfl, rfl, rfl, rfl⟩ := h
  have b1 := hs.1.mono (show 100 ≤ 403 by decide)
  have b2 := hs.2.1.mono (show 100 ≤ 403 by decide)
  have last : ∀ cs1 : List T3, Ro cs1 → cs1.length < 1000000 → (if b = 0 then addCutM cs1 sd.2.1 else cs1) = addEndsM cs sd a b → WP (tIfS (tTest (tOp rEq (tVar 3) (tC (V.int 0)))) (tDrop (tCall (spF R_add_cut) [] E0 (tCons (tVar 0) (tCons (tOp (rIx K) (tVar 1) (tC (V.int 1))) tNil)))) tNext) [(p, ctD cs)] [some (rf p), some (dt (sdD sd)), some (it a), some (it b)] [(p, ctD cs1)] (fun _ C1 => nn = nn ∧ C1 = [(p, ctD (addEndsM cs sd a b))]) (fun z1 C1 => z1 = nn ∧ C1 = [(p, ctD (addEndsM cs sd a b))]) := by
    intro cs1 h1 l1 e1
    refine wp_if (xt_test (xe_eq (xe_v 3 rfl) xe_i)) (fun h => ?_) fun h => ?_
    · have h' : b = 0 := by simpa using h
      rw [if_pos h'] at e1
      exact wp_expr (x_add_cut (t := sd.2.1) (Cb := []) (xa_cons (xe_v 0 rfl) (xa_cons (xe_ixT (xe_v 1 rfl) xe_i rfl) xa_nil)) (List.Perm.refl _) (List.Perm.refl _) ⟨h1.ne, h1.bt2, b2.mono (by decide), l1⟩) ⟨rfl, by rw [e1]⟩
    · have h' : ¬ b = 0 := by simpa using h
      rw [if_neg h'] at e1
      exact wp_next ⟨rfl, by rw [e1]⟩
  refine wp_when (xt_test (xe_eq (xe_v 2 rfl) xe_i)) (fun h => ?_) fun h => ?_
  · have h' : a = 0 := by simpa using h
    refine wp_expr (x_add_cut (t := sd.1) (Cb := []) (xa_cons (xe_v 0 rfl) (xa_cons (xe_ixT (xe_v 1 rfl) xe_i rfl) xa_nil)) (List.Perm.refl _) (List.Perm.refl _) ⟨hc.ne, hc.bt2, b1.mono (by decide), by omega⟩) (last _ (hc.add b1) (by have := (add_len (s := sd.1) cs).2; omega) ?_)
    unfold addEndsM
    rw [if_pos h']
  · have h' : ¬ a = 0 := by simpa using h
    refine last cs hc (by omega) ?_
    unfold addEndsM
    rw [if_neg h']
theorem x_add_ends {L : Sls} {C C1 C2 Cb : Cs} {ta : TA} {p : Addr} {cs : List T3} {sd : Sd} {a b : Int} (h : Xa ta L C [rf p, dt (sdD sd), it a, it b] C1) (p1 : C1.Perm ((p, ctD cs) :: Cb)) (p2 : ((p, ctD (addEndsM cs sd a b)) :: Cb).Perm C2) (k : Ro cs ∧ Bz sd ∧ cs.length < 900000) : Xe (tCall (spF R_add_ends) [] E0 ta) L C nn C2 :=
  xe_callP (Ca := [_]) (Ca' := [_]) h p1 p2 ⟨p, cs, sd, a, b, k.1, k.2.1, k.2.2, rfl, rfl, rfl, rfl⟩
/-! ### cut_two -/
structure Sz (s : Sd) : Prop where
  b : Bz s
  ln : s.2.2 = crossM s.1 s.2.1
  w1 : 0 < s.1.2.2
  w2 : 0 < s.2.1.2.2
def R_cut_two : List SP → Cs → SP → Cs → Prop := fun ss C s C' => ∃ (p q : Addr) (oc xc : List T3) (one other : Sd), Ro oc ∧ Ro xc ∧ Sz one ∧ Sz other ∧ oc.length < 900000 ∧ xc.length < 900000 ∧ ss = [dt (sdD one), dt (sdD other), rf p, rf q] ∧ C = [(p, ctD oc), (q, ctD xc)] ∧ s = nn ∧ C' = [(p, ctD (cutTwoM one other oc xc).1), (q, ctD (cutTwoM one other oc xc).2)]
theorem sc_cut_two : FnScope ["one", "other", "one_cuts", "other_cuts", "first_off", "last_off", "other_first_off", "other_last_off", "spot"] ["one", "other", "one_cuts", "other_cuts"] (defScope (topS 20)) := ⟨rfl, rfl, rfl, by decide +kernel, rfl, by decide +kernel, by decide +kernel⟩
include T in
theorem ok_cut_two : Ok P w K mg base 4 "cut_two" ["one", "other", "one_cuts", "other_cuts"] (spF R_cut_two) := by
  have nd := sc_cut_two.nd
  have o_add_cut := (ok_add_cut (P := P) (w := w) (base := base) T).up (k := 3) (by decide)
  have o_add_ends := ok_add_ends (P := P) (w := w) (base := base) T
  have o_leftness := (ok_leftness (P := P) (w := w) (base := base) T).up (k := 3) (by decide)
  have o_meeting := ok_meeting (P := P) (w := w) (base := base) T
  refine T.d_cut_two.okF sc_cut_two (fun ss C s C' h => by obtain ⟨_, _, _, _, _, _, _, _, _, _, _, _, rfl, _⟩ := h; rfl) fun f cdv A outer s H E hr => ⟨_, (pss_cons (ps_set (i := 4) nd rfl (Or.inl rfl) (pe_own o_leftness hr rfl (pa_cons (pe_ix ix_seq (pv 0) pe_int (fun _ _ => rfl)) (pa_cons (pe_ix ix_seq (pv 1) pe_int (fun _ _ => rfl)) pa_nil)))) (pss_cons (ps_set (i := 5) nd rfl (Or.inl rfl) (pe_own o_leftness hr rfl (pa_cons (pe_ix ix_seq (pv 0) pe_int (fun _ _ => rfl)) (pa_cons (pe_ix ix_seq (pv 1) pe_int (fun _ _ => rfl)) pa_nil)))) (pss_cons (ps_if (pt_cmpR op_gt (pe_op op_mulW (pv 4) (pv 5)) pe_int (nomark _)) (pss_one ps_retN) pss_nil) (pss_cons (ps_set (i := 6) nd rfl (Or.inl rfl) (pe_own o_leftness hr rfl (pa_cons (pe_ix ix_seq (pv 1) pe_int (fun _ _ => rfl)) (pa_cons (pe_ix ix_seq (pv 0) pe_int (fun _ _ => rfl)) pa_nil)))) (pss_cons (ps_set (i := 7) nd rfl (Or.inl rfl) (pe_own o_leftness hr rfl (pa_cons (pe_ix ix_seq (pv 1) pe_int (fun _ _ => rfl)) (pa_cons (pe_ix ix_seq (pv 0) pe_int (fun _ _ => rfl)) pa_nil)))) (pss_cons (ps_if (pt_cmpR op_gt (pe_op op_mulW (pv 6) (pv 7)) pe_int (nomark _)) (pss_one ps_retN) pss_nil) (pss_cons (ps_if (PW.pt (pw_and (pt_cmpR op_lt (pe_op op_mulW (pv 4) (pv 5)) pe_int (nomark _)) (pw_and1 (pt_cmpR op_lt (pe_op op_mulW (pv 6) (pv 7)) pe_int (nomark _))))) (pss_cons (ps_set (i := 8) nd rfl (Or.inl rfl) (pe_own o_meeting hr rfl (pa_cons (pe_ix ix_seq (pv 0) pe_int (fun _ _ => rfl)) (pa_cons (pe_ix ix_seq (pv 1) pe_int (fun _ _ => rfl)) pa_nil)))) (pss_cons (ps_expr (pe_own o_add_cut hr rfl (pa_cons (pv 2) (pa_cons (pv 8) pa_nil)))) (pss_cons (ps_expr (pe_own o_add_cut hr rfl (pa_cons (pv 3) (pa_cons (pv 8) pa_nil)))) (pss_one ps_retN)))) pss_nil) (pss_cons (ps_expr (pe_own o_add_ends hr rfl (pa_cons (pv 2) (pa_cons (pv 1) (pa_cons (pv 4) (pa_cons (pv 5) pa_nil)))))) (pss_one (ps_expr (pe_own o_add_ends hr rfl (pa_cons (pv 3) (pa_cons (pv 0) (pa_cons (pv 6) (pa_cons (pv 7) pa_nil))))))))))))))), fun ss C z C' h => ?_⟩
  obtain ⟨p, q, oc, xc, one, other, ho, hx, so, sx, lo, lx, rfl, rfl, rfl, rfl⟩ := h
  have bl : ∀ {a b : T3}, Bt 201 a → Bt 100 b → Bi 303 (leftM a b) := fun {a b} h k =>
    (((h.1.mul k.1).add (h.2.1.mul k.2.1)).add ((h.2.2.mul k.2.2).mono (by decide)))
  have l9 : ∀ {a b : T3}, Bt 201 a → Bt 100 b → Bt 9000 a ∧ Bt 9000 b := fun {a b} h k => ⟨h.mono (by decide), k.mono (by decide)⟩
  refine wp_set (x_leftness (a := one.2.2) (b := other.1) (xd_cons (xe_ixT (xe_v 0 rfl) xe_i rfl) (xd_cons (xe_ixT (xe_v 1 rfl) xe_i rfl) xd_nil)) (l9 so.b.2.2 sx.b.1)) ?_
  refine wp_set (x_leftness (a := one.2.2) (b := other.2.1) (xd_cons (xe_ixT (xe_v 0 rfl) xe_i rfl) (xd_cons (xe_ixT (xe_v 1 rfl) xe_i rfl) xd_nil)) (l9 so.b.2.2 sx.b.2.1)) ?_
  have m1 : CMulW (leftM one.2.2 other.1) (leftM one.2.2 other.2.1) := mul_ok (bl so.b.2.2 sx.b.1) (bl so.b.2.2 sx.b.2.1)
  have m2 : CMulW (leftM other.2.2 one.1) (leftM other.2.2 one.2.1) := mul_ok (bl sx.b.2.2 so.b.1) (bl sx.b.2.2 so.b.2.1)
  refine wp_when (xt_test (xe_C0 (xe_I (xe_v 4 rfl) (xe_v 5 rfl) m1) xe_i)) (fun h => wp_retN ⟨rfl, ?_⟩) fun h => ?_
  · have h' : 0 < leftM one.2.2 other.1 * leftM one.2.2 other.2.1 := by simpa using h
    unfold cutTwoM
    rw [if_pos h']
  have h1 : ¬ 0 < leftM one.2.2 other.1 * leftM one.2.2 other.2.1 := by simpa using h
  refine wp_set (x_leftness (a := other.2.2) (b := one.1) (xd_cons (xe_ixT (xe_v 1 rfl) xe_i rfl) (xd_cons (xe_ixT (xe_v 0 rfl) xe_i rfl) xd_nil)) (l9 sx.b.2.2 so.b.1)) ?_
  refine wp_set (x_leftness (a := other.2.2) (b := one.2.1) (xd_cons (xe_ixT (xe_v 1 rfl) xe_i rfl) (xd_cons (xe_ixT (xe_v 0 rfl) xe_i rfl) xd_nil)) (l9 sx.b.2.2 so.b.2.1)) ?_
  refine wp_when (xt_test (xe_C0 (xe_I (xe_v 6 rfl) (xe_v 7 rfl) m2) xe_i)) (fun h => wp_retN ⟨rfl, ?_⟩) fun h => ?_
  · have h' : 0 < leftM other.2.2 one.1 * leftM other.2.2 one.2.1 := by simpa using h
    unfold cutTwoM
    rw [if_neg h1, if_pos h']
  have h2 : ¬ 0 < leftM other.2.2 one.1 * leftM other.2.2 one.2.1 := by simpa using h
  refine wp_when (xt_and (xt_test (xe_C0 (xe_I (xe_v 4 rfl) (xe_v 5 rfl) m1) xe_i)) fun _ => (xt_test (xe_C0 (xe_I (xe_v 6 rfl) (xe_v 7 rfl) m2) xe_i))) (fun h => ?_) fun h => ?_
  · have h' : leftM one.2.2 other.1 * leftM one.2.2 other.2.1 < 0 ∧ leftM other.2.2 one.1 * leftM other.2.2 one.2.1 < 0 := by simpa using h
    have n0 : (crossM one.2.2 other.2.2).2.2 ≠ 0 := by rw [sx.ln]; exact meet_ne sx.w1 sx.w2 h'.1
    have bm := meet_bt so.b.2.2 sx.b.2.2 n0
    have em : cutTwoM one other oc xc = (addCutM oc (meetM one.2.2 other.2.2), addCutM xc (meetM one.2.2 other.2.2)) := by
      unfold cutTwoM
      rw [if_neg h1, if_neg h2, if_pos h']
    rw [em]
    refine wp_set (x_meeting (a := one.2.2) (b := other.2.2) (xd_cons (xe_ixT (xe_v 0 rfl) xe_i rfl) (xd_cons (xe_ixT (xe_v 1 rfl) xe_i rfl) xd_nil)) ⟨so.b.2.2.mono (by decide), sx.b.2.2.mono (by decide), n0⟩) ?_
    refine wp_seq (wp_expr (x_add_cut (t := meetM one.2.2 other.2.2) (cs := oc) (Cb := [(q, ctD xc)]) (xa_cons (xe_v 2 rfl) (xa_cons (xe_v 8 rfl) xa_nil)) (List.Perm.refl _) (List.Perm.refl _) ⟨ho.ne, ho.bt2, bm.mono (by decide), by omega⟩) ?_)
    refine wp_seq (wp_expr (x_add_cut (t := meetM one.2.2 other.2.2) (cs := xc) (Cb := [(p, ctD (addCutM oc (meetM one.2.2 other.2.2)))]) (xa_cons (xe_v 3 rfl) (xa_cons (xe_v 8 rfl) xa_nil)) (List.Perm.swap ..) (List.Perm.swap ..) ⟨hx.ne, hx.bt2, bm.mono (by decide), by omega⟩) ?_)
    exact wp_retN ⟨rfl, rfl⟩
  · have h' : ¬ (leftM one.2.2 other.1 * leftM one.2.2 other.2.1 < 0 ∧ leftM other.2.2 one.1 * leftM other.2.2 one.2.1 < 0) := by simpa using h
    have em : cutTwoM one other oc xc = (addEndsM oc other (leftM one.2.2 other.1) (leftM one.2.2 other.2.1), addEndsM xc one (leftM other.2.2 one.1) (leftM other.2.2 one.2.1)) := by
      unfold cutTwoM
      rw [if_neg h1, if_neg h2, if_neg h']
    rw [em]
    refine wp_seq (wp_expr (x_add_ends (cs := oc) (sd := other) (a := leftM one.2.2 other.1) (b := leftM one.2.2 other.2.1) (Cb := [(q, ctD xc)]) (xa_cons (xe_v 2 rfl) (xa_cons (xe_v 1 rfl) (xa_cons (xe_v 4 rfl) (xa_cons (xe_v 5 rfl) xa_nil)))) (List.Perm.refl _) (List.Perm.refl _) ⟨ho, sx.b, lo⟩) ?_)
    exact wp_expr (x_add_ends (cs := xc) (sd := one) (a := leftM other.2.2 one.1) (b := leftM other.2.2 one.2.1) (Cb := [(p, ctD (addEndsM oc other (leftM one.2.2 other.1) (leftM one.2.2 other.2.1)))]) (xa_cons (xe_v 3 rfl) (xa_cons (xe_v 0 rfl) (xa_cons (xe_v 6 rfl) (xa_cons (xe_v 7 rfl) xa_nil)))) (List.Perm.swap ..) (List.Perm.swap ..) ⟨hx, so.b, lx⟩) ⟨rfl, rfl⟩
theorem x_cut_two {L : Sls} {C C1 C2 Cb : Cs} {ta : TA} {p q : Addr} {oc xc : List T3} {one other : Sd} (h : Xa ta L C [dt (sdD one), dt (sdD other), rf p, rf q] C1) (p1 : C1.Perm ((p, ctD oc) :: (q, ctD xc) :: Cb)) (p2 : ((p, ctD (cutTwoM one other oc xc).1) :: (q, ctD (cutTwoM one other oc xc).2) :: Cb).Perm C2) (k : Ro oc ∧ Ro xc ∧ Sz one ∧ Sz other ∧ oc.length < 900000 ∧ xc.length < 900000) : Xe (tCall (spF R_cut_two) [] E0 ta) L C nn C2 :=
  xe_callP (Ca := [_, _]) (Ca' := [_, _]) h p1 p2 ⟨p, q, oc, xc, one, other, k.1, k.2.1, k.2.2.1, k.2.2.2.1, k.2.2.2.2.1, k.2.2.2.2.2, rfl, rfl, rfl, rfl⟩
end
end Wk
end
section
set_option Elab.async false
set_option linter.all false
set_option maxRecDepth 100000
namespace Wk
open PySem PySem.Spec PyProof.Rows L2
open Evl (Ex ex_l ex_t sq_of st_of)
open My (T3 Sd)
/-! ### lists of references to cells -/
def rfs (ps : List Addr) : SP := ⟨fun G v => ∃ a, v = .ref a ∧ G a = some (.lst (ps.map V.ref)), fun e h => by
  obtain ⟨a, h1, h2⟩ := h
  exact ⟨a, h1, e _ _ h2⟩⟩
def cRf (ps : List Addr) : CP := ⟨fun _ o => o = .lst (ps.map V.ref), fun _ h => h⟩
def zc (ps : List Addr) (rs : List (List PyData)) : Cs := (ps.zip rs).map fun x => (x.1, cL x.2)
section
variable {K : PySem.W.Frag} {L : Sls} {C C' C0 C1 C2 Ca Cb : Cs} {te tl ta tb : TE} {N : Sls → Cs → Prop} {R : SP → Cs → Prop} {ds : List PyData} {d : PyData}
theorem zc_snoc {ps : List Addr} {rs : List (List PyData)} {p : Addr} {r : List PyData} (h : ps.length = rs.length) : zc (ps ++ [p]) (rs ++ [r]) = zc ps rs ++ [(p, cL r)] := by
  unfold zc
  rw [List.zip_append h, List.map_append]; rfl
theorem in_zc {ps : List Addr} {rs : List (List PyData)} {a : Addr} (h : In (zc ps rs) a) : a ∈ ps := by
  unfold In zc at h
  rw [List.map_map] at h
  obtain ⟨x, hx, rfl⟩ := List.mem_map.1 h
  exact (List.of_mem_zip hx).1
theorem zc_in {ps : List Addr} {rs : List (List PyData)} {a : Addr} (hl : ps.length = rs.length) (h : a ∈ ps) : In (zc ps rs) a := by
  unfold In zc
  rw [List.map_map]
  obtain ⟨i, hi, e⟩ := List.mem_iff_getElem.1 h
  have hm : (ps.zip rs)[i]? = some (a, rs[i]'(by omega)) := List.getElem?_zip_eq_some.2 ⟨by rw [List.getElem?_eq_getElem hi, e], List.getElem?_eq_getElem _⟩
  exact List.mem_map.2 ⟨_, List.mem_of_getElem? hm, rfl⟩
theorem tyes_of {σ : L2.St} {H : Hp} {Q : Bool → Hp → Prop} (h : Q true H) : tYes σ H Q := h
/-- x = [[..] for y in ys], whose rows will be changed -/
theorem wp_lcCells {j i0 : Nat} {tr : TA} (g : PyData → List PyData) (h : Xe tl L C (dt (.list ds)) C) (hz : ds.length ≤ 100000) (hg : ∀ dx, dx ∈ ds → (g dx).length ≤ 100000) (he : ∀ dx, dx ∈ ds → Xd tr ((wipeL L [j]).set j (some (dt dx))) C (g dx) C)
    (k : ∀ ps : List Addr, ps.length = ds.length → (∀ p ∈ ps, ¬ In C0 p) → N (L.set i0 (some (rfs ps))) (C ++ zc ps (ds.map g))) : WP (tAsg (tLc (iList K tl) (gName j) tYes (tLst tr) [j]) (gName i0)) C0 L C N R := fun G0 H0 σ G H D0 c0 tr0 sl hn hr => by
  refine h σ G H sl tr0.dn tr0.cl _ fun v G1 H1 t1 r1 => ?_
  obtain ⟨a, xs, rfl, ha, hx⟩ := Rp.list r1
  refine ⟨a, rfl, ⟨xs, sq_of (t1.dn _ _ ha)⟩, fun D hD => ?_⟩
  have c1 := t1.cl
  have nD : ¬ In C D := c1.not hD
  refine lc_list (K := K) (a := a) (xs := xs) (fun i H' => ∃ ps G', ps.length = i ∧ (∀ p ∈ ps, H1 p = none) ∧ Tr C G1 H1 (C ++ ((D, cRf ps) :: zc ps ((ds.take i).map g))) G' H') ⟨[], G1, rfl, by simp, (Tr.open (x := cRf []) t1.dn c1 hD rfl).perm (List.Perm.refl _) (List.perm_append_comm (l₁ := [_]))⟩ ?_ ?_ ?_
  · rintro i H' _ ⟨ps, G', _, _, t⟩
    exact sq_of (t.dn _ _ (t.up _ _ ha))
  · rintro i x H' hi ⟨ps, G', hl, hf, t⟩
    obtain ⟨dx, hdx, rx⟩ := hx.getv hi
    have hm := List.mem_of_getElem? hdx
    have hil : i < ds.length := (List.getElem?_eq_some_iff.1 hdx).1
    refine ⟨wipe_one σ j x, ?_⟩
    refine tyes_of ?_
    rw [if_pos rfl]
    have s2 : Sl G' ((wipe σ [j]).set j (some x)) ((wipeL L [j]).set j (some (dt dx))) := (((sl.ex t1.up).ex t.up).wipe2 [j]).set (x := dt dx) (rx.ex t.up)
    refine he dx hm _ G' H' s2 t.dn t.cl.left _ fun vs G2 H2 t2 r2 => ?_
    have t3 := t.trans c1 (t2.frame t.cl)
    have r3 := r2.rp
    refine ⟨by rw [r3.len]; exact Evl.sz_of (hg dx hm), fun p hp => ?_⟩
    have t4 := t3.trans c1 (Tr.open (x := cL (g dx)) (o := .lst vs) t3.dn t3.cl hp ⟨vs, rfl, r3⟩)
    obtain ⟨o, k1, e1, k3⟩ := t4.cl.at' D (cRf ps) (List.mem_cons_of_mem _ (List.mem_append.2 (.inr List.mem_cons_self)))
    cases e1
    refine ⟨_, k1, ?_, ps ++ [p], G2, by rw [List.length_append, hl]; rfl, fun q hq => ?_, ?_⟩
    · rw [List.length_map, hl]; exact Nat.lt_of_lt_of_le (by omega : i < 100001) (by decide)
    · rcases List.mem_append.1 hq with z | z
      · exact hf q z
      · simp at z
        subst z
        exact t3.none c1 hp
    · have t5 := t4.trans c1 (Tr.put (Ca := (p, cL (g dx)) :: C) (y := cRf (ps ++ [p])) (o := .lst (ps.map V.ref ++ [.ref p])) t4.dn t4.cl (by show _ = _; rw [List.map_append]; rfl))
      refine t5.perm (List.Perm.refl _) ?_
      rw [take_more hdx, List.map_append, List.map_cons, List.map_nil, zc_snoc (by rw [hl, List.length_map, List.length_take]; omega)]
      show ((p, cL (g dx)) :: (C ++ (D, cRf (ps ++ [p])) :: zc ps ((ds.take i).map g))).Perm (C ++ (D, cRf (ps ++ [p])) :: (zc ps ((ds.take i).map g) ++ [(p, cL (g dx))]))
      refine (List.perm_append_comm (l₁ := [(p, cL (g dx))]) (l₂ := C ++ (D, cRf (ps ++ [p])) :: zc ps ((ds.take i).map g))).trans (List.Perm.of_eq ?_)
      rw [List.append_assoc, List.cons_append]
  · rintro H' ⟨ps, G', hl, hf, t⟩
    rw [hx.len, List.take_length] at t
    obtain ⟨o, e1, k1, k2, t2⟩ := t.rest nD
    cases e1
    have tt := (tr0.trans c0 t1).trans c0 t2
    refine hn _ _ _ _ H' (k ps (by rw [hl, hx.len]) fun p hp q => ?_) tt (t1.up.trans t2.up) (((sl.ex t1.up).ex t2.up).set (x := rfs ps) ⟨D, rfl, upd_same⟩)
    have := (tr0.trans c0 t1).cl.some ((tr0.trans c0 t1).kee p q)
    obtain ⟨o, ho, _⟩ := this
    rw [hf p hp] at ho; cases ho
theorem xe_ixR {ps : List Addr} {i : Nat} {p : Addr} (ha : Xe ta L C (rfs ps) C1) (hb : Xe tb L C1 (it (i : Nat)) C2) (h : ps[i]? = some p) : Xe (tOp (rIx K) ta tb) L C (rf p) C2 := xe_op ha hb fun x y G H Q e c r1 r2 q => by
  cases r2
  obtain ⟨a, rfl, ha⟩ := r1
  refine .inl ⟨a, ps.map V.ref, (i : Int), .ref p, rfl, rfl, sq_of (e _ _ ha), atI_nat' (by rw [List.getElem?_map, h]; rfl), q _ G H (Tr.rfl' e c) rfl⟩
/-- the rows come to rest -/
theorem wp_stillAll {t : TS} {ps : List Addr} {rs : List (List PyData)} {i : Nat} (hl : ps.length = rs.length) (hi : L[i]? = some (some (rfs ps))) (n : ∀ p ∈ ps, ¬ In C0 p) (k : WP t C0 (L.set i (some (dt (.list (rs.map PyData.list))))) C N R) : WP t C0 L (C ++ zc ps rs) N R := fun G0 H0 σ G H D c0 tr sl hn hr => by
  have go : ∀ (ps : List Addr) (rs : List (List PyData)) (G : Hp), ps.length = rs.length → (∀ p ∈ ps, ¬ In C0 p) → Tr C0 G0 H0 (C ++ zc ps rs) G H → ∃ G', Ex G G' ∧ Tr C0 G0 H0 C G' H ∧ RpAll G' (ps.map V.ref) (rs.map PyData.list) := by
    intro ps
    induction ps with
    | nil =>
      intro rs G hl n tr
      cases rs with
      | nil => exact ⟨G, Ex.refl _, by simpa [zc] using tr, .nil⟩
      | cons _ _ => cases hl
    | cons p ps ih =>
      intro rs G hl n tr
      cases rs with
      | nil => cases hl
      | cons r rs =>
        have tr' : Tr C0 G0 H0 (C ++ (p, cL r) :: zc ps rs) G H := tr
        obtain ⟨o, ⟨xs, rfl, hx⟩, k1, k2, t2⟩ := tr'.rest (n p List.mem_cons_self)
        have e := Ex.new (o := .lst xs) k1
        obtain ⟨G', e2, t3, r3⟩ := ih rs _ (by simpa using hl) (fun q hq => n q (List.mem_cons_of_mem _ hq)) t2
        exact ⟨G', e.trans e2, t3, .cons (.lst (e2 _ _ upd_same) (hx.ex (e.trans e2))) r3⟩
  obtain ⟨G', e, t, r⟩ := go ps rs G hl n tr
  obtain ⟨v, h1, a, rfl, ha⟩ := sl.at' i _ hi
  have s2 := (sl.ex e).set (i := i) (v := .ref a) (x := dt (.list (rs.map PyData.list))) (.lst (e _ _ ha) r)
  have es : σ.set i (some (.ref a)) = σ := by
    refine List.ext_getElem? fun k => ?_
    rw [List.getElem?_set]
    by_cases q : i = k
    · subst q
      rw [if_pos rfl, if_pos (List.getElem?_eq_some_iff.1 h1).1, h1]
    · rw [if_neg q]
  rw [es] at s2
  exact k G0 H0 σ G' H D c0 t s2 (fun L2 C2 σ2 G2 H2 q t2 e2 s2 => hn L2 C2 σ2 G2 H2 q t2 (e.trans e2) s2) hr
theorem perm_erase {α : Type} : ∀ {l : List α} {i : Nat} {x : α}, l[i]? = some x → (x :: l.eraseIdx i).Perm l
  | [], i, x, h => by simp at h
  | a :: l, 0, x, h => by
    simp at h
    subst h
    exact List.Perm.refl _
  | a :: l, i + 1, x, h => by
    have := perm_erase (l := l) (i := i) (x := x) (by simpa using h)
    exact (List.Perm.swap a x _).trans (List.Perm.cons a this)
theorem zc_set : ∀ {ps : List Addr} {rs : List (List PyData)} {k : Nat} {p : Addr} {x : List PyData}, ps[k]? = some p → zc ps (rs.set k x) = (zc ps rs).set k (p, cL x)
  | [], rs, k, p, x, h => by simp at h
  | q :: ps, [], k, p, x, h => by simp [zc]
  | q :: ps, r :: rs, 0, p, x, h => by
    simp at h
    subst h
    rfl
  | q :: ps, r :: rs, k + 1, p, x, h => by
    have := zc_set (ps := ps) (rs := rs) (k := k) (p := p) (x := x) (by simpa using h)
    show (q, cL r) :: zc ps (rs.set k x) = (q, cL r) :: (zc ps rs).set k (p, cL x)
    rw [this]
theorem perm_two {α : Type} {l : List α} {k j : Nat} {x y : α} (hj : j < k) (hk : l[k]? = some x) (hy : l[j]? = some y) : ∃ r, l.Perm (x :: y :: r) ∧ ∀ x' y', ((x' :: y' :: r)).Perm ((l.set k x').set j y') := by
  obtain ⟨lk, ek⟩ := List.getElem?_eq_some_iff.1 hk
  obtain ⟨lj, ej⟩ := List.getElem?_eq_some_iff.1 hy
  have base : ∀ (l : List α) (x y : α), l[k]? = some x → l[j]? = some y → l.Perm (x :: y :: (l.eraseIdx k).eraseIdx j) := by
    intro l x y hk hy
    have h1 := perm_erase hk
    have hy2 : (l.eraseIdx k)[j]? = some y := by rw [List.getElem?_eraseIdx_of_lt hj]; exact hy
    have h2 := perm_erase hy2
    exact h1.symm.trans (List.Perm.cons x h2.symm)
  refine ⟨(l.eraseIdx k).eraseIdx j, base l x y hk hy, fun x' y' => ?_⟩
  have h3 := base ((l.set k x').set j y') x' y' (by rw [List.getElem?_set, if_neg (by omega), List.getElem?_set, if_pos rfl, if_pos lk]) (by rw [List.getElem?_set, if_pos rfl, if_pos (by rw [List.length_set]; exact lj)])
  have e3 : (((l.set k x').set j y').eraseIdx k).eraseIdx j = (l.eraseIdx k).eraseIdx j := by
    rw [List.eraseIdx_set_gt hj, List.eraseIdx_set_eq, List.eraseIdx_set_eq]
  rw [e3] at h3
  exact h3.symm
theorem zc_two {ps : List Addr} {rs : List (List PyData)} {k j : Nat} {p q : Addr} {x y : List PyData} (hj : j < k) (h1 : ps[k]? = some p) (h2 : rs[k]? = some x) (h3 : ps[j]? = some q) (h4 : rs[j]? = some y) : ∃ r, (zc ps rs).Perm ((p, cL x) :: (q, cL y) :: r) ∧ ∀ x' y', (((p, cL x') :: (q, cL y') :: r) : Cs).Perm (zc ps ((rs.set k x').set j y')) := by
  have a1 : (zc ps rs)[k]? = some (p, cL x) := by unfold zc; rw [List.getElem?_map, List.getElem?_zip_eq_some (z := (p, x)) |>.2 ⟨h1, h2⟩]; rfl
  have a2 : (zc ps rs)[j]? = some (q, cL y) := by unfold zc; rw [List.getElem?_map, List.getElem?_zip_eq_some (z := (q, y)) |>.2 ⟨h3, h4⟩]; rfl
  obtain ⟨r, b1, b2⟩ := perm_two hj a1 a2
  refine ⟨r, b1, fun x' y' => ?_⟩
  have e : zc ps ((rs.set k x').set j y') = ((zc ps rs).set k (p, cL x')).set j (q, cL y') := by
    rw [zc_set h3, zc_set h1]
  rw [e]
  exact b2 _ _
end
end Wk
end
section
set_option Elab.async false
set_option linter.all false
set_option maxRecDepth 100000
namespace Wk
open PySem PySem.Spec PyProof.Rows L2
open Evl (Ex ex_l ex_t sq_of st_of)
open My (T3 Sd)
theorem ixK {X : Cx} (K : PySem.W.Frag) (h : X.K = K) : IxR X (rIx K) := by subst h; exact ix_seq
theorem slK {X : Cx} (K : PySem.W.Frag) (h : X.K = K) : SlR X (rSlL K) := by subst h; exact sl_list
theorem neDK {X : Cx} (K : PySem.W.Frag) (h : X.K = K) (hu : X.A.units + 64 < cLine) : OpR X (compareOp .NotEq) (rNeD K) := by subst h; exact op_neD hu
theorem lenK {X : Cx} (K : PySem.W.Frag) (h : X.K = K) : CallR X (.builtin "len") (fun xs H Q => ∃ p ys, xs = [.ref p] ∧ (SqL K H p ys ∨ SqT K H p ys) ∧ Q (.int ys.length) H) := by subst h; exact call_len_seq
theorem hu9 {A : Around} {k : Nat} (hr : Room k A) : A.units + 9 < cLine := by have := hr.units; omega
/-! ### dicts whose keys are pairs of places -/
theorem PlAt.ex {G G' : Hp} {a : Addr} {t : T3} (h : PlAt G a t) (e : Ex G G') : PlAt G' a t := e _ _ h
theorem PaAt.ex {G G' : Hp} {a : Addr} {t : T3 × T3} (h : PaAt G a t) (e : Ex G G') : PaAt G' a t := by
  obtain ⟨u, v, h1, h2, h3⟩ := h
  exact ⟨u, v, e _ _ h1, h2.ex e, h3.ex e⟩
theorem KeyAt.ex {G G' : Hp} {a : Addr} {k : NestedKey} (h : KeyAt G k a) (e : Ex G G') : KeyAt G' k a := by
  rcases h with ⟨t, h1, h2⟩ | ⟨p, h1, h2⟩
  · exact .inl ⟨t, h1, h2.ex e⟩
  · exact .inr ⟨p, h1, h2.ex e⟩
theorem pl_of {G : Hp} {v : V} {t : T3} (h : Rp G v (plD t)) : ∃ a, v = .ref a ∧ PlAt G a t := by
  obtain ⟨a, xs, rfl, ha, hx⟩ := Rp.tuple h
  refine ⟨a, rfl, ?_⟩
  cases hx with
  | cons h1 hx => cases hx with
    | cons h2 hx => cases hx with
      | cons h3 hx =>
        cases hx; cases h1; cases h2; cases h3
        exact ha
theorem pa_of {G : Hp} {v : V} {p : T3 × T3} (h : Rp G v (paD p)) : ∃ a, v = .ref a ∧ PaAt G a p := by
  obtain ⟨a, xs, rfl, ha, hx⟩ := Rp.tuple h
  refine ⟨a, rfl, ?_⟩
  cases hx with
  | cons h1 hx => cases hx with
    | cons h2 hx =>
      cases hx
      obtain ⟨u, rfl, k1⟩ := pl_of h1
      obtain ⟨v, rfl, k2⟩ := pl_of h2
      exact ⟨u, v, ha, k1, k2⟩
theorem rp_pl {G : Hp} {a : Addr} {t : T3} (h : PlAt G a t) : Rp G (.ref a) (plD t) := .tup h (.cons (.int _) (.cons (.int _) (.cons (.int _) .nil)))
theorem rp_pa {G : Hp} {a : Addr} {p : T3 × T3} (h : PaAt G a p) : Rp G (.ref a) (paD p) := by
  obtain ⟨u, v, h1, h2, h3⟩ := h
  exact .tup h1 (.cons (rp_pl h2) (.cons (rp_pl h3) .nil))
theorem key_pa {G : Hp} {a : Addr} {p : T3 × T3} (h : KeyAt G (paK p) a) : PaAt G a p := by
  rcases h with ⟨t, h1, h2⟩ | ⟨q, h1, h2⟩
  · unfold paK plK at h1
    simp at h1
  · rw [paK_inj h1]; exact h2
theorem key_pl {G : Hp} {a : Addr} {t : T3} (h : KeyAt G (plK t) a) : PlAt G a t := by
  rcases h with ⟨q, h1, h2⟩ | ⟨q, h1, h2⟩
  · rw [plK_inj h1]; exact h2
  · unfold paK plK at h1
    simp at h1
def cS (P : Program) (w : World) (a : Addr) (ks : List (T3 × T3)) : CP := ⟨fun G o => ∃ xs, o = DN P w a xs ∧ xs.map (·.1) = ks.map paK ∧ ∀ x ∈ xs, KeyAt G x.1 x.2.1, fun e h => by
  obtain ⟨xs, h1, h2, h3⟩ := h
  exact ⟨xs, h1, h2, fun x hx => (h3 x hx).ex e⟩⟩
def addK {α : Type} [DecidableEq α] (ks : List α) (k : α) : List α := if k ∈ ks then ks else ks ++ [k]
theorem atKey_some {xs : List NEnt} {k : NestedKey} : (atKey xs k).isSome = true ↔ k ∈ xs.map (·.1) := by
  unfold atKey
  rw [Option.isSome_map, List.find?_isSome]
  constructor
  · rintro ⟨x, hx, e⟩
    have : x.1 = k := by simpa using e
    exact List.mem_map.2 ⟨x, hx, this⟩
  · intro h
    obtain ⟨x, hx, e⟩ := List.mem_map.1 h
    exact ⟨x, hx, by simpa using e⟩
theorem mem_pa {ks : List (T3 × T3)} {k : T3 × T3} : paK k ∈ ks.map paK ↔ k ∈ ks := by
  constructor
  · intro h
    obtain ⟨x, hx, e⟩ := List.mem_map.1 h
    rw [← paK_inj e]; exact hx
  · exact fun h => List.mem_map.2 ⟨k, h, rfl⟩
theorem stored_keys {xs : List NEnt} {ks : List (T3 × T3)} {k : T3 × T3} {b : Addr} {v : Value} (h : xs.map (·.1) = ks.map paK) : (storedH xs (paK k) b v).map (·.1) = (addK ks k).map paK := by
  unfold storedH addK
  by_cases q : k ∈ ks
  · rw [if_pos (atKey_some.2 (by rw [h]; exact mem_pa.2 q)), if_pos q, List.map_map, ← h]
    refine List.map_congr_left fun x _ => ?_
    show (putAt (paK k) v x).1 = x.1
    unfold putAt
    split <;> rfl
  · rw [if_neg (fun z => q (mem_pa.1 (h ▸ atKey_some.1 z))), if_neg q, List.map_append, List.map_append, h]; rfl
section
variable {X : Cx} {K : PySem.W.Frag} {L : Sls} {C C' C0 C1 C2 Ca Cb : Cs} {te tl ta tb td ty tv : TE} {N : Sls → Cs → Prop} {R : SP → Cs → Prop} {ks : List (T3 × T3)} {k : T3 × T3} {p : Addr}
theorem dat_of {G H : Hp} {o : HO} (e : Ex G H) (hp : H p = some o) (h : (cS X.prog X.w p ks).p G o) : ∃ xs, DAt X.prog X.w H p xs ∧ xs.map (·.1) = ks.map paK ∧ ∀ x ∈ xs, KeyAt G x.1 x.2.1 := by
  obtain ⟨xs, rfl, h2, h3⟩ := h
  exact ⟨xs, ⟨hp, fun x hx => (h3 x hx).ex e⟩, h2, h3⟩
theorem wp_dnew {i : Nat} (q : ∀ p, ¬ In C p → ¬ In C0 p → N (L.set i (some (rf p))) ((p, cS X.prog X.w p []) :: C)) : WP (tAsg (tNNew X) (gName i)) C0 L C N R := fun G0 H0 σ G H D c0 tr sl hn hr => fun p hp => by
  have n := tr.cl.not hp
  exact hn _ _ _ G _ (q p n fun z => n (tr.kee p z)) (tr.trans c0 (Tr.open (x := cS X.prog X.w p []) tr.dn tr.cl hp ⟨[], rfl, rfl, fun x hx => absurd hx (by simp)⟩)) (Ex.refl _) (sl.set (x := rf p) rfl)
theorem wp_dput {i : Nat} {b : Bool} (Ca Cb : Cs) (hv : Xe tv L C (bo b) C) (hi : L[i]? = some (some (rf p))) (hk : Xe ty L C (dt (paD k)) C) (hc : C = Ca ++ (p, cS X.prog X.w p ks) :: Cb) (hz : ks.length < 1000000) (q : N L (Ca ++ (p, cS X.prog X.w p (addK ks k)) :: Cb)) : WP (sNPut X (tVar i) ty tv) C0 L C N R := fun G0 H0 σ G H D c0 tr sl hn hr => by
  subst hc
  refine hv σ G H sl tr.dn tr.cl _ fun v G1 H1 t1 r1 => ?_
  obtain ⟨x, h1, h2⟩ := sl.at' i _ hi
  cases h2
  refine ⟨.ref p, h1, hk σ G1 H1 (sl.ex t1.up) t1.dn t1.cl _ fun y G2 H2 t2 r2 => ?_⟩
  obtain ⟨b, rfl, kb⟩ := pa_of r2
  obtain ⟨o, k1, k2, k3⟩ := t2.cl.at' p _ (List.mem_append.2 (.inr List.mem_cons_self))
  obtain ⟨xs, d1, d2, d3⟩ := dat_of t2.dn k1 k2
  have hlen : xs.length = ks.length := by have := congrArg List.length d2; simpa using this
  refine ⟨p, b, paK k, xs, rfl, rfl, d1, .inr ⟨k, rfl, kb.ex t2.dn⟩, by rw [hlen]; exact Nat.lt_of_lt_of_le hz (by decide), fun r _ => ?_⟩
  exact hn _ _ _ G2 _ q (((tr.trans c0 t1).trans c0 t2).trans c0 (Tr.put t2.dn t2.cl ⟨_, rfl, stored_keys d2, storedH_keys d3 (.inr ⟨k, rfl, kb⟩)⟩)) (t1.up.trans t2.up) ((sl.ex t1.up).ex t2.up)
theorem xe_nin (hk : Xe ty L C (dt (paD k)) C) (hd : Xe td L C (rf p) C) (hm : (p, cS X.prog X.w p ks) ∈ C) : Xe (tNNot X ty td) L C (bo (!decide (k ∈ ks))) C := fun σ G H sl e c Q q => hk σ G H sl e c _ fun y G1 H1 t1 r1 => hd σ G1 H1 (sl.ex t1.up) t1.dn t1.cl _ fun x G2 H2 t2 r2 => by
  obtain ⟨b, rfl, kb⟩ := pa_of r1
  cases r2
  obtain ⟨o, k1, k2, k3⟩ := t2.cl.at' p _ hm
  obtain ⟨xs, d1, d2, d3⟩ := dat_of t2.dn k1 k2
  refine ⟨p, b, paK k, xs, rfl, rfl, d1, .inr ⟨k, rfl, (kb.ex t2.up).ex t2.dn⟩, ?_⟩
  have e : (atKey xs (paK k)).isSome = decide (k ∈ ks) := by
    by_cases z : k ∈ ks
    · rw [atKey_some.2 (by rw [d2]; exact mem_pa.2 z)]; simp [z]
    · have : ¬ (atKey xs (paK k)).isSome = true := fun y => z (mem_pa.1 (d2 ▸ atKey_some.1 y))
      simp [z]
      simpa using this
  rw [e]
  exact q _ G2 H2 (t1.trans c t2) (.bl _)
theorem vn_dlist (hm : (p, cS X.prog X.w p ks) ∈ C) : Vn (fun vs H Q => ∃ d xs, vs = [V.ref d] ∧ DAt X.prog X.w H d xs ∧ ∀ p, H p = none → Q (.ref p) (upd H p (.lst ((xs.map fun x => x.2.1).map V.ref)))) C [rf p] (dt (.list (ks.map paD))) C := fun vs G H Q e c r q => by
  cases r with
  | cons a b =>
    cases b
    cases a
    obtain ⟨o, k1, k2, k3⟩ := c.at' p _ hm
    obtain ⟨xs, d1, d2, d3⟩ := dat_of e k1 k2
    refine ⟨p, xs, rfl, d1, fun a ha => ?_⟩
    have w := Wn.put (o := .lst ((xs.map fun x => x.2.1).map V.ref)) e ha
    refine q _ _ _ (Tr.of c w) (.lst upd_same ?_)
    have go : ∀ (xs : List NEnt) (ks : List (T3 × T3)), xs.map (·.1) = ks.map paK → (∀ x ∈ xs, KeyAt G x.1 x.2.1) → RpAll G ((xs.map fun x => x.2.1).map V.ref) (ks.map paD) := by
      intro xs
      induction xs with
      | nil => intro ks h _; cases ks with
        | nil => exact .nil
        | cons _ _ => cases h
      | cons x xs ih =>
        intro ks h h3
        cases ks with
        | nil => cases h
        | cons y ks =>
          rw [List.map_cons, List.map_cons] at h
          obtain ⟨e1, e2⟩ := List.cons.inj h
          have := h3 x List.mem_cons_self
          rw [e1] at this
          exact .cons (rp_pa (key_pa this)) (ih ks e2 fun z hz => h3 z (List.mem_cons_of_mem _ hz))
    exact (go xs ks d2 d3).ex w.up
end
end Wk
end
section
set_option Elab.async false
set_option linter.all false
set_option maxRecDepth 100000
set_option exponentiation.threshold 3000
namespace Wk
open PySem PySem.Spec PyProof.Rows L2
open Evl (Ex ex_l ex_t sq_of st_of)
open My (T3 Sd cf placeM beforeM crossM leftM midM meetM moveM fracM sideM ringSidesM sidesM cntM besideM isInM isOnM addCutM insCut addEndsM cutTwoM cutStep cutsM stretchM sd0 dedup partsM borderM)
theorem cut_ro {one other : Sd} {oc xc : List T3} (so : Sz one) (sx : Sz other) (ho : Ro oc) (hx : Ro xc) : (Ro (cutTwoM one other oc xc).1 ∧ (cutTwoM one other oc xc).1.length ≤ oc.length + 2) ∧ Ro (cutTwoM one other oc xc).2 ∧ (cutTwoM one other oc xc).2.length ≤ xc.length + 2 := by
  unfold cutTwoM
  split
  · exact ⟨⟨ho, Nat.le_add_right _ 2⟩, hx, Nat.le_add_right _ 2⟩
  · split
    · exact ⟨⟨ho, Nat.le_add_right _ 2⟩, hx, Nat.le_add_right _ 2⟩
    · split
      · rename_i h
        have n0 : (crossM one.2.2 other.2.2).2.2 ≠ 0 := by rw [sx.ln]; exact meet_ne sx.w1 sx.w2 h.1
        have bm := meet_bt so.b.2.2 sx.b.2.2 n0
        have a1 := (add_len (s := meetM one.2.2 other.2.2) oc).2
        have a2 := (add_len (s := meetM one.2.2 other.2.2) xc).2
        exact ⟨⟨ho.add bm, by dsimp only; omega⟩, hx.add bm, by dsimp only; omega⟩
      · exact ⟨ho.ends sx.b _ _, hx.ends so.b _ _⟩
/-- the rows behind so many steps -/
structure Rw (n m : Nat) (rows : List (List T3)) : Prop where
  len : rows.length = n
  ro : ∀ r ∈ rows, Ro r ∧ r.length ≤ 2 + 2 * m
theorem Rw.mono {n m m' : Nat} {rows : List (List T3)} (h : Rw n m rows) (k : m ≤ m') : Rw n m' rows := ⟨h.len, fun r hr => ⟨(h.ro r hr).1, by have := (h.ro r hr).2; omega⟩⟩
theorem getD_at {α : Type} {l : List α} {k : Nat} {d : α} (h : k < l.length) : l[k]? = some (l.getD k d) := by rw [List.getD_eq_getElem?_getD, List.getElem?_eq_getElem h]; rfl
theorem Rw.at {n m : Nat} {rows : List (List T3)} (h : Rw n m rows) {k : Nat} (hk : k < n) : Ro (rows.getD k []) ∧ (rows.getD k []).length ≤ 2 + 2 * m := h.ro _ (List.mem_of_getElem? (getD_at (by rw [h.len]; exact hk)))
theorem Rw.step {S : List Sd} (hS : ∀ s ∈ S, Sz s) {m k j : Nat} {rows : List (List T3)} (h : Rw S.length m rows) (hk : k < S.length) (hj : j < k) : Rw S.length (m + 1) (cutStep S k rows j) := by
  have sk := hS _ (List.mem_of_getElem? (getD_at (d := sd0) hk))
  have sj := hS _ (List.mem_of_getElem? (getD_at (d := sd0) (by omega : j < S.length)))
  have rk := h.at hk
  have rj := h.at (by omega : j < S.length)
  obtain ⟨c1, c2⟩ := cut_ro sk sj rk.1 rj.1
  unfold cutStep
  refine ⟨by rw [List.length_set, List.length_set]; exact h.len, fun r hr => ?_⟩
  rcases List.mem_or_eq_of_mem_set hr with q | q
  · rcases List.mem_or_eq_of_mem_set q with z | z
    · exact ⟨(h.ro r z).1, by have := (h.ro r z).2; omega⟩
    · rw [z]; exact ⟨c1.1, by have := c1.2; have := rk.2; omega⟩
  · rw [q]; exact ⟨c2.1, by have := c2.2; have := rj.2; omega⟩
def rowsI (S : List Sd) (k j : Nat) (cs : List (List T3)) : List (List T3) := (List.range j).foldl (cutStep S k) cs
def rowsO (S : List Sd) (k : Nat) : List (List T3) := (List.range k).foldl (fun cs k => (List.range k).foldl (cutStep S k) cs) (S.map fun s => [s.1, s.2.1])
theorem rowsI_succ {S : List Sd} {k j : Nat} {cs : List (List T3)} : rowsI S k (j + 1) cs = cutStep S k (rowsI S k j cs) j := by unfold rowsI; rw [List.range_succ, List.foldl_append]; rfl
theorem rowsO_succ {S : List Sd} {k : Nat} : rowsO S (k + 1) = rowsI S k k (rowsO S k) := by unfold rowsO rowsI; rw [List.range_succ, List.foldl_append]; rfl
theorem rowsI_rw {S : List Sd} (hS : ∀ s ∈ S, Sz s) {k m : Nat} {cs : List (List T3)} (hk : k < S.length) (h : Rw S.length m cs) : ∀ j, j ≤ k → Rw S.length (m + j) (rowsI S k j cs)
  | 0, _ => h
  | j + 1, hj => by
    rw [rowsI_succ]
    exact (rowsI_rw hS hk h j (by omega)).step hS hk (by omega)
theorem rowsO_rw {S : List Sd} (hS : ∀ s ∈ S, Sz s) : ∀ k, k ≤ S.length → Rw S.length (k * S.length) (rowsO S k)
  | 0, _ => by
    refine ⟨by simp [rowsO], fun r hr => ?_⟩
    obtain ⟨s, hs, rfl⟩ := List.mem_map.1 (show r ∈ S.map fun s => [s.1, s.2.1] from hr)
    have z := hS s hs
    refine ⟨⟨by simp, fun c hc => ?_⟩, by simp⟩
    rcases List.mem_cons.1 hc with q | q
    · rw [q]; exact z.b.1.mono (by decide)
    · simp at q; rw [q]; exact z.b.2.1.mono (by decide)
  | k + 1, hk => by
    rw [rowsO_succ]
    have := rowsI_rw hS (by omega : k < S.length) (rowsO_rw hS k (by omega)) k (Nat.le_refl _)
    refine this.mono ?_
    rw [Nat.succ_mul]; omega
theorem atI_pred {c : List T3} {i : Nat} (h : i < c.length) : atI (c.map plD) (((i + 1 : Nat) : Int) - 1) = some (plD (cur c i)) := by
  rw [show ((i + 1 : Nat) : Int) - 1 = (i : Int) by omega]
  exact atI_cur h
def prs (row : List T3) : List (T3 × T3) := row.zip row.tail
theorem prs_at {row : List T3} {i : Nat} (h : i < row.length - 1) : (prs row)[i]? = some (cur row i, cur row (i + 1)) := by
  unfold prs
  refine (List.getElem?_zip_eq_some (z := (cur row i, cur row (i + 1)))).2 ⟨cur_at (by omega), ?_⟩
  rw [List.getElem?_tail]
  exact cur_at (by omega)
theorem prs_len (row : List T3) : (prs row).length = row.length - 1 := by unfold prs; rw [List.length_zip, List.length_tail]; omega
theorem prs_mem {row : List T3} {p : T3 × T3} (h : p ∈ prs row) : p.1 ∈ row ∧ p.2 ∈ row := by
  have := List.of_mem_zip h
  exact ⟨this.1, List.mem_of_mem_tail this.2⟩
theorem addK_len {α : Type} [DecidableEq α] (l acc : List α) : (l.foldl addK acc).length ≤ acc.length + l.length := by
  induction l generalizing acc with
  | nil => simp
  | cons x l ih =>
    have h1 : (addK acc x).length ≤ acc.length + 1 := by unfold addK; split <;> simp
    have := ih (addK acc x)
    rw [List.foldl_cons, List.length_cons]
    omega
theorem flat_bound {α β : Type} (f : α → List β) (b : Nat) : ∀ (l : List α), (∀ x ∈ l, (f x).length ≤ b) → (l.flatMap f).length ≤ l.length * b
  | [], _ => by simp
  | x :: l, h => by
    have h1 := h x List.mem_cons_self
    have h2 := flat_bound f b l fun y hy => h y (List.mem_cons_of_mem _ hy)
    rw [List.flatMap_cons, List.length_append, List.length_cons, Nat.succ_mul]
    omega
theorem stretch_mem {S : List Sd} (hS : ∀ s ∈ S, Sz s) {p : T3 × T3} (h : p ∈ stretchM S) : Bt 403 p.1 ∧ Bt 403 p.2 := by
  unfold stretchM at h
  rw [My.mem_dedup] at h
  obtain ⟨row, hr, hp⟩ := List.mem_flatMap.1 h
  have ro := (rowsO_rw hS S.length (Nat.le_refl _)).ro row hr
  have := prs_mem hp
  exact ⟨ro.1.bt _ this.1, ro.1.bt _ this.2⟩
theorem stretch_len {S : List Sd} (hS : ∀ s ∈ S, Sz s) (hl : S.length ≤ 40) : (stretchM S).length ≤ 140000 ∧ ((cutsM S).flatMap prs).length ≤ 140000 := by
  have rw := rowsO_rw hS S.length (Nat.le_refl _)
  have h1 : ((cutsM S).flatMap prs).length ≤ (cutsM S).length * 3300 := flat_bound prs 3300 _ fun r hr => by
    have := (rw.ro r hr).2
    rw [prs_len]
    have : S.length * S.length ≤ 40 * 40 := Nat.mul_le_mul hl hl
    omega
  have h2 : (cutsM S).length = S.length := rw.len
  have h3 : (stretchM S).length ≤ ([] : List (T3 × T3)).length + ((cutsM S).flatMap prs).length := addK_len _ _
  rw [h2] at h1
  have : S.length * 3300 ≤ 40 * 3300 := Nat.mul_le_mul_right _ hl
  simp only [List.length_nil] at h3
  omega
theorem wp_retD {L : Sls} {C C0 : Cs} {te : TE} {s : SP} {N : Sls → Cs → Prop} {R : SP → Cs → Prop} {p : Addr} {c : CP} (Ca Cb : Cs) (h : Xe te L C s (Ca ++ (p, c) :: Cb)) (n : ¬ In C0 p) (k : R s (Ca ++ Cb)) : WP (tRet te) C0 L C N R := fun G0 H0 σ G H D c0 tr sl hn hr =>
  h σ G H sl tr.dn tr.cl _ fun v G1 H1 t1 p1 => hr v s _ G1 H1 k ((tr.trans c0 t1).drop n) p1
section
variable {P : Program} {w : World} {K : PySem.W.Frag} {mg : Str → Option Value} {base : Heap} (T : Tx K mg)
def rowsD (rows : List (List T3)) : List (List PyData) := rows.map fun r => r.map plD
def R_stretches : List PyData → PyData → Prop := fun ds d => ∃ S : List Sd, (∀ s ∈ S, Sz s) ∧ S.length ≤ 40 ∧ ds = [.list (S.map sdD)] ∧ d = .list ((stretchM S).map paD)
theorem sc_stretches : FnScope ["sides", "cuts", "k", "found", "row", "j", "side"] ["sides"] (defScope (topS 22)) := ⟨rfl, rfl, rfl, by decide +kernel, rfl, by decide +kernel, by decide +kernel⟩
include T in
theorem ok_stretches : Ok P w K mg base 5 "stretches" ["sides"] (spF (pR R_stretches)) := by
  have nd := sc_stretches.nd
  have o_cut_two := ok_cut_two (P := P) (w := w) (base := base) T
  refine T.d_stretches.okP sc_stretches (fun ds d h => by obtain ⟨_, _, _, rfl, _⟩ := h; rfl) fun f cdv A outer s H E hr => ⟨_, (pss_cons (ps_setLc (i := 1) rfl nd rfl rfl (sw_true rfl rfl rfl (by decide +kernel)) (own := [("side", 6)]) (pi_list (pv 0)) (blkOk_by (N := ["sides", "cuts", "k", "found", "row", "j", "side"]) (sc := defScope (topS 22)) (by decide +kernel)) (fun _ _ _ _ _ => pg_name (i := 6) nd rfl (Or.inl rfl)) (fun _ _ _ _ _ => pts_nil) (fun _ _ _ _ _ => (pe_lst (pa_cons (pe_ix (ixK K rfl) (pv 6) pe_int (fun _ _ => rfl)) (pa_cons (pe_ix (ixK K rfl) (pv 6) pe_int (fun _ _ => rfl)) pa_nil))))) (pss_cons (ps_for PassesOwn.never rfl (pi_range1 rfl T.m_range (pa_cons (pe_callB call_len_seq (by rfl) T.m_len PySem.boot_len (pa_cons (pv 0) pa_nil)) pa_nil)) (pg_name (i := 2) nd rfl (Or.inl rfl)) (pss_one (ps_for PassesOwn.never rfl (pi_range1 rfl T.m_range (pa_cons (pv 2) pa_nil)) (pg_name (i := 5) nd rfl (Or.inl rfl)) (pss_one (ps_expr (pe_own o_cut_two hr rfl (pa_cons (pe_ix ix_seq (pv 0) (pv 2) (fun _ _ => rfl)) (pa_cons (pe_ix ix_seq (pv 0) (pv 5) (fun _ _ => rfl)) (pa_cons (pe_ix ix_seq (pv 1) (pv 2) (fun _ _ => rfl)) (pa_cons (pe_ix ix_seq (pv 1) (pv 5) (fun _ _ => rfl)) pa_nil)))))))))) (pss_cons (ps_set (i := 3) nd rfl (Or.inl rfl) pe_nnew) (pss_cons (ps_for PassesOwn.never rfl (pi_list (pv 1)) (pg_name (i := 4) nd rfl (Or.inl rfl)) (pss_one (ps_for PassesOwn.never rfl (pi_range2 rfl T.m_range (pa_cons pe_int (pa_cons (pe_callB call_len_seq (by rfl) T.m_len PySem.boot_len (pa_cons (pv 4) pa_nil)) pa_nil))) (pg_name (i := 2) nd rfl (Or.inl rfl)) (pss_one (ps_nput (hu9 hr) (pv 3) (pe_tup (pa_cons (pe_ix ix_seq (pv 4) (pe_op op_sub (pv 2) pe_int) (fun _ _ => rfl)) (pa_cons (pe_ix ix_seq (pv 4) (pv 2) (fun _ _ => rfl)) pa_nil))) pe_bl rfl))))) (pss_one (ps_ret (pe_callTy (call_list_dN rfl) (by rfl) T.m_list boot_list (pa_cons (pv 3) pa_nil)))))))), fun ds d h => ?_⟩
  obtain ⟨S, hS, hl, rfl, rfl⟩ := h
  refine wp_seq (wp_lcCells (C := []) (fun d => match d with | .tuple (a :: b :: _) => [a, b] | _ => []) (xe_v 0 rfl) (by rw [List.length_map]; omega) (fun dx hd => ?_) (fun dx hd => ?_) fun ps hps nps => ?_)
  · obtain ⟨s, _, rfl⟩ := List.mem_map.1 hd
    show 2 ≤ 100000
    decide
  · obtain ⟨s, _, rfl⟩ := List.mem_map.1 hd
    exact xd_cons (xe_ixT (xe_v 6 rfl) xe_i rfl) (xd_cons (xe_ixT (xe_v 6 rfl) xe_i rfl) xd_nil)
  rw [List.length_map] at hps
  have ei : List.map (fun d => match d with | PyData.tuple (a :: b :: _) => [a, b] | _ => []) (S.map sdD) = rowsD (rowsO S 0) := by
    show _ = rowsD (S.map fun s => [s.1, s.2.1])
    unfold rowsD
    rw [List.map_map, List.map_map]; rfl
  rw [ei]
  refine wp_seq (wp_rng (n := S.length) (fun k L C => ∃ o2 o5, L = [some (dt (.list (S.map sdD))), some (rfs ps), o2, none, none, o5, none] ∧ C = zc ps (rowsD (rowsO S k))) (by
      have := xa_cons (xe_cb (xd_cons (xe_v (L := [some (dt (.list (S.map sdD))), some (rfs ps), none, none, none, none, none]) (C := [] ++ zc ps (rowsD (rowsO S 0))) 0 rfl) xd_nil) (vn_len (K := K))) xa_nil
      rwa [List.length_map] at this) (by omega) ⟨none, none, rfl, rfl⟩ ?_ ?_)
  · rintro k L C hk ⟨o2, o5, rfl, rfl⟩
    refine wp_rng (n := k) (fun j L C => ∃ o5, L = [some (dt (.list (S.map sdD))), some (rfs ps), some (it (k : Nat)), none, none, o5, none] ∧ C = zc ps (rowsD (rowsI S k j (rowsO S k)))) (xa_cons (xe_v 2 rfl) xa_nil) (by omega) ⟨o5, rfl, rfl⟩ ?_ ?_
    · rintro j L C hj ⟨o5, rfl, rfl⟩
      have rw := rowsI_rw hS hk (rowsO_rw hS k (by omega)) j (by omega)
      generalize hrows : rowsI S k j (rowsO S k) = rows at rw
      have hk2 : k < rows.length := by rw [rw.len]; exact hk
      have hj2 : j < rows.length := by rw [rw.len]; omega
      have p1 : ps[k]? = some (ps.getD k 0) := getD_at (by omega)
      have p2 : ps[j]? = some (ps.getD j 0) := getD_at (by omega)
      have r1 : (rowsD rows)[k]? = some ((rows.getD k []).map plD) := by unfold rowsD; rw [List.getElem?_map, getD_at (d := []) hk2]; rfl
      have r2 : (rowsD rows)[j]? = some ((rows.getD j []).map plD) := by unfold rowsD; rw [List.getElem?_map, getD_at (d := []) hj2]; rfl
      obtain ⟨rest, z1, z2⟩ := zc_two hj p1 r1 p2 r2
      have s1 : atI (S.map sdD) (k : Int) = some (sdD (S.getD k sd0)) := atI_nat' (by rw [List.getElem?_map, getD_at (d := sd0) hk]; rfl)
      have s2 : atI (S.map sdD) (j : Int) = some (sdD (S.getD j sd0)) := atI_nat' (by rw [List.getElem?_map, getD_at (d := sd0) (by omega : j < S.length)]; rfl)
      have hm : (k * S.length + j) ≤ 40 * 40 + 40 := by
        have : k * S.length ≤ 40 * 40 := Nat.mul_le_mul (by omega) hl
        omega
      have ak := rw.at hk
      have aj := rw.at (by omega : j < S.length)
      refine wp_expr (x_cut_two (one := S.getD k sd0) (other := S.getD j sd0) (oc := rows.getD k []) (xc := rows.getD j []) (Cb := rest) (xa_cons (xe_ixL (xe_v 0 rfl) (xe_v 2 rfl) s1) (xa_cons (xe_ixL (xe_v 0 rfl) (xe_v 5 rfl) s2) (xa_cons (xe_ixR (xe_v 1 rfl) (xe_v 2 rfl) p1) (xa_cons (xe_ixR (xe_v 1 rfl) (xe_v 5 rfl) p2) xa_nil)))) z1 (z2 _ _)
        ⟨ak.1, aj.1, hS _ (List.mem_of_getElem? (getD_at hk)), hS _ (List.mem_of_getElem? (getD_at (by omega : j < S.length))), by have := ak.2; omega, by have := aj.2; omega⟩) ⟨_, rfl, ?_⟩
      rw [rowsI_succ, hrows]
      unfold cutStep rowsD
      rw [List.map_set, List.map_set]
    · rintro L C ⟨o5, rfl, rfl⟩
      exact ⟨_, _, rfl, by rw [rowsO_succ]⟩
  · rintro L C ⟨o2, o5, rfl, rfl⟩
    have rw := rowsO_rw hS S.length (Nat.le_refl _)
    have ec : rowsO S S.length = cutsM S := rfl
    rw [ec] at rw ⊢
    have hrl := rw.len
    refine wp_stillAll (C := []) (i := 1) (by unfold rowsD; rw [List.length_map, rw.len]; exact hps) rfl nps ?_
    have el : (rowsD (cutsM S)).map PyData.list = (cutsM S).map rgD := by unfold rowsD; rw [List.map_map]; rfl
    rw [el]
    have hb := (stretch_len hS hl).2
    refine wp_seq (wp_dnew fun p n n0 => wp_seq (wp_for (fun i L C => ∃ o2 o4, L = [some (dt (.list (S.map sdD))), some (dt (.list ((cutsM S).map rgD))), o2, some (rf p), o4, o5, none] ∧ C = [(p, cS P w p ((((cutsM S).take i).flatMap prs).foldl addK []))]) (xe_v 1 rfl) ⟨_, _, rfl, rfl⟩ ?_ ?_))
    · rintro i d L C hd ⟨o2, o4, rfl, rfl⟩
      obtain ⟨row, hrow, rfl⟩ := map_at hd
      have hlen : row.length ≤ 4000 := by
        have h1 := (rw.ro row (List.mem_of_getElem? hrow)).2
        have : S.length * S.length ≤ 40 * 40 := Nat.mul_le_mul hl hl
        omega
      refine wp_rng1 (n := row.length) (fun k L C => ∃ o2, L = [some (dt (.list (S.map sdD))), some (dt (.list ((cutsM S).map rgD))), o2, some (rf p), some (dt (rgD row)), o5, none] ∧ C = [(p, cS P w p ((((cutsM S).take i).flatMap prs ++ (prs row).take k).foldl addK []))]) (by
          have := xa_cons (xe_i (i := 1)) (xa_cons (xe_cb (xd_cons (xe_v (L := [some (dt (.list (S.map sdD))), some (dt (.list ((cutsM S).map rgD))), o2, some (rf p), some (dt (rgD row)), o5, none]) (C := [(p, cS P w p ((((cutsM S).take i).flatMap prs).foldl addK []))]) 4 rfl) xd_nil) (vn_len (K := K))) xa_nil)
          rwa [List.length_map] at this) (by omega) ⟨_, rfl, by rw [List.take_zero, List.append_nil]⟩ ?_ ?_
      · rintro k L C hk ⟨o2, rfl, rfl⟩
        refine wp_dput (k := (cur row k, cur row (k + 1))) [] [] xe_b rfl (xe_tup (xd_cons (xe_ixL (xe_v 4 rfl) (xe_I0 (xe_v 2 rfl) xe_i) (atI_pred (by omega))) (xd_cons (xe_ixL (xe_v 4 rfl) (xe_v 2 rfl) (atI_cur (by omega))) xd_nil))) rfl ?_ ⟨_, rfl, ?_⟩
        · have h1 := addK_len (((cutsM S).take i).flatMap prs ++ (prs row).take k) []
          have h2 := flat_len prs hrow k
          simp only [List.length_nil] at h1
          omega
        · rw [take_more (prs_at hk), ← List.append_assoc, List.foldl_append (l' := [_])]; rfl
      · rintro L C ⟨o2, rfl, rfl⟩
        refine ⟨_, _, rfl, ?_⟩
        rw [flat_more prs hrow, List.take_of_length_le (l := prs row) (by rw [prs_len]; exact Nat.le_refl _)]
    · rintro L C ⟨o2, o4, rfl, rfl⟩
      rw [List.length_map, List.take_length]
      exact wp_retD [] [] (xe_cb (xa_cons (xe_v 3 rfl) xa_nil) (vn_dlist List.mem_cons_self)) n0 ⟨rfl, rfl⟩
end
end Wk
end
section
set_option Elab.async false
set_option linter.all false
set_option maxRecDepth 100000
set_option exponentiation.threshold 3000
namespace Wk
open PySem PySem.Spec PyProof.Rows L2
open Evl (Ex ex_l ex_t sq_of st_of)
open My (T3 Sd cf placeM beforeM crossM leftM midM meetM moveM fracM sideM ringSidesM sidesM cntM besideM isInM isOnM stretchM partsM borderM metM wayM cornersM)
theorem mid_bt {a b : T3} (ha : Bt 403 a) (hb : Bt 403 b) : Bt 2000 (midM a b) := by
  have two : Bi 2 2 := by decide
  exact ⟨((ha.1.mul hb.2.2).add (hb.1.mul ha.2.2)).mono (by decide), ((ha.2.1.mul hb.2.2).add (hb.2.1.mul ha.2.2)).mono (by decide), ((two.mul ha.2.2).mul hb.2.2).mono (by decide)⟩
theorem parts_len (kind : Int) (S1 S2 : List Sd) (st : T3 × T3) : (partsM kind S1 S2 st).length ≤ 2 := by
  unfold partsM
  dsimp only
  rw [List.length_append]
  split <;> split <;> simp
section
variable {P : Program} {w : World} {K : PySem.W.Frag} {mg : Str → Option Value} {base : Heap} (T : Tx K mg)
/-! ### border -/
def R_border : List PyData → PyData → Prop := fun ds d => ∃ (k : Int) (S1 S2 : List Sd), (∀ s ∈ S1, Sz s) ∧ (∀ s ∈ S2, Sz s) ∧ S1.length + S2.length ≤ 40 ∧ ds = [.int k, .list (S1.map sdD), .list (S2.map sdD)] ∧ d = .list ((borderM k S1 S2).map paD)
theorem x_stretches {L : Sls} {C C' : Cs} {ta : TA} {S : List Sd} (h : Xd ta L C [.list (S.map sdD)] C') (k : (∀ s ∈ S, Sz s) ∧ S.length ≤ 40) : Xe (tCall (spF (pR R_stretches)) [] E0 ta) L C (dt (.list ((stretchM S).map paD))) C' := xe_call h ⟨S, k.1, k.2, rfl, rfl⟩
theorem sc_border : FnScope ["kind", "one_sides", "other_sides", "parts", "stretch", "spot", "one", "other", "at_left", "at_right"] ["kind", "one_sides", "other_sides"] (defScope (topS 25)) := ⟨rfl, rfl, rfl, by decide +kernel, rfl, by decide +kernel, by decide +kernel⟩
include T in
theorem ok_border : Ok P w K mg base 6 "border" ["kind", "one_sides", "other_sides"] (spF (pR R_border)) := by
  have nd := sc_border.nd
  have o_stretches := ok_stretches (P := P) (w := w) (base := base) T
  have o_middle := (ok_middle (P := P) (w := w) (base := base) T).up (k := 5) (by decide)
  have o_beside := (ok_beside (P := P) (w := w) (base := base) T).up (k := 5) (by decide)
  have o_is_in := (ok_is_in (P := P) (w := w) (base := base) T).up (k := 5) (by decide)
  refine T.d_border.okP sc_border (fun ds d h => by obtain ⟨_, _, _, _, _, _, rfl, _⟩ := h; rfl) fun f cdv A outer s H E hr => ⟨_, (pss_cons (ps_set (i := 3) nd rfl (Or.inl rfl) (pe_lst pa_nil)) (pss_cons (ps_for PassesOwn.never rfl (pi_list (pe_own o_stretches hr rfl (pa_cons (pe_op op_cat (pv 1) (pv 2)) pa_nil))) (pg_name (i := 4) nd rfl (Or.inl rfl)) (pss_cons (ps_set (i := 5) nd rfl (Or.inl rfl) (pe_own o_middle hr rfl (pa_cons (pe_ix ix_seq (pv 4) pe_int (fun _ _ => rfl)) (pa_cons (pe_ix ix_seq (pv 4) pe_int (fun _ _ => rfl)) pa_nil)))) (pss_cons (ps_set (i := 6) nd rfl (Or.inl rfl) (pe_own o_beside hr rfl (pa_cons (pv 5) (pa_cons (pv 1) pa_nil)))) (pss_cons (ps_set (i := 7) nd rfl (Or.inl rfl) (pe_own o_beside hr rfl (pa_cons (pv 5) (pa_cons (pv 2) pa_nil)))) (pss_cons (ps_set (i := 8) nd rfl (Or.inl rfl) (pe_own o_is_in hr rfl (pa_cons (pv 0) (pa_cons (pe_ix ix_seq (pv 6) pe_int (fun _ _ => rfl)) (pa_cons (pe_ix ix_seq (pv 7) pe_int (fun _ _ => rfl)) pa_nil))))) (pss_cons (ps_set (i := 9) nd rfl (Or.inl rfl) (pe_own o_is_in hr rfl (pa_cons (pv 0) (pa_cons (pe_ix ix_seq (pv 6) pe_int (fun _ _ => rfl)) (pa_cons (pe_ix ix_seq (pv 7) pe_int (fun _ _ => rfl)) pa_nil))))) (pss_cons (ps_if (PW.pt (pw_and (pt_val (pv 8)) (pw_and1 (pt_not (pt_val (pv 9)))))) (pss_one (ps_expr (pe_bm PySem.F.plainAttrs_list PySem.F.slot_list_append PySem.F.type_list_append mt_append (pv 3) (pa_cons (pe_tup (pa_cons (pe_ix ix_seq (pv 4) pe_int (fun _ _ => rfl)) (pa_cons (pe_ix ix_seq (pv 4) pe_int (fun _ _ => rfl)) pa_nil))) pa_nil)))) pss_nil) (pss_one (ps_if (PW.pt (pw_and (pt_val (pv 9)) (pw_and1 (pt_not (pt_val (pv 8)))))) (pss_one (ps_expr (pe_bm PySem.F.plainAttrs_list PySem.F.slot_list_append PySem.F.type_list_append mt_append (pv 3) (pa_cons (pe_tup (pa_cons (pe_ix ix_seq (pv 4) pe_int (fun _ _ => rfl)) (pa_cons (pe_ix ix_seq (pv 4) pe_int (fun _ _ => rfl)) pa_nil))) pa_nil)))) pss_nil))))))))) (pss_one (ps_ret (pv 3))))), fun ds d h => ?_⟩
  obtain ⟨kind, S1, S2, h1, h2, hl, rfl, rfl⟩ := h
  have hS : ∀ s ∈ S1 ++ S2, Sz s := fun s hs => (List.mem_append.1 hs).elim (h1 s) (h2 s)
  have hL : (S1 ++ S2).length ≤ 40 := by rw [List.length_append]; exact hl
  have hst := (stretch_len hS hL).1
  have b1 : ∀ s ∈ S1, Bs s := fun s hs => (h1 s hs).b.bs
  have b2 : ∀ s ∈ S2, Bs s := fun s hs => (h2 s hs).b.bs
  have hcat : sizeLine ≥ 1000 := by decide
  refine wp_new fun p n n0 => wp_seq (wp_for (ds := (stretchM (S1 ++ S2)).map paD) (fun i L C => ∃ o4 o5 o6 o7 o8 o9, L = [some (it kind), some (dt (.list (S1.map sdD))), some (dt (.list (S2.map sdD))), some (rf p), o4, o5, o6, o7, o8, o9] ∧ C = [(p, cL ((((stretchM (S1 ++ S2)).take i).flatMap (partsM kind S1 S2)).map paD))])
    (x_stretches (xd_cons (by
      have := xe_cat (ta := tVar 1) (tb := tVar 2) (xe_v (L := [some (it kind), some (dt (.list (S1.map sdD))), some (dt (.list (S2.map sdD))), some (rf p), none, none, none, none, none, none]) (C := [(p, cL [])]) 1 rfl) (xe_v 2 rfl) (by rw [List.length_map, List.length_map]; omega)
      rwa [← List.map_append] at this) xd_nil) ⟨hS, hL⟩) ⟨none, none, none, none, none, none, rfl, rfl⟩ ?_ ?_)
  · rintro i d L C hd ⟨o4, o5, o6, o7, o8, o9, rfl, rfl⟩
    obtain ⟨st, hi, rfl⟩ := map_at hd
    have bst := stretch_mem hS (List.mem_of_getElem? hi)
    have bm := mid_bt bst.1 bst.2
    have hlen : (((stretchM (S1 ++ S2)).take i).flatMap (partsM kind S1 S2)).length ≤ 280000 := by
      have h3 := flat_bound (partsM kind S1 S2) 2 ((stretchM (S1 ++ S2)).take i) fun x _ => parts_len kind S1 S2 x
      rw [List.length_take] at h3
      omega
    refine wp_set (x_middle (a := st.1) (b := st.2) (xd_cons (xe_ixT (xe_v 4 rfl) xe_i rfl) (xd_cons (xe_ixT (xe_v 4 rfl) xe_i rfl) xd_nil)) ⟨bst.1.mono (by decide), bst.2.mono (by decide)⟩) ?_
    refine wp_set (x_beside (xd_cons (xe_v 5 rfl) (xd_cons (xe_v 1 rfl) xd_nil)) ⟨bm, b1⟩) ?_
    refine wp_set (x_beside (xd_cons (xe_v 5 rfl) (xd_cons (xe_v 2 rfl) xd_nil)) ⟨bm, b2⟩) ?_
    refine wp_set (x_is_in (a := (besideM (midM st.1 st.2) S1).1) (b := (besideM (midM st.1 st.2) S2).1) (xd_cons (xe_v 0 rfl) (xd_cons (xe_ixT (xe_v 6 rfl) xe_i rfl) (xd_cons (xe_ixT (xe_v 7 rfl) xe_i rfl) xd_nil)))) ?_
    refine wp_set (x_is_in (a := (besideM (midM st.1 st.2) S1).2) (b := (besideM (midM st.1 st.2) S2).2) (xd_cons (xe_v 0 rfl) (xd_cons (xe_ixT (xe_v 6 rfl) xe_i rfl) (xd_cons (xe_ixT (xe_v 7 rfl) xe_i rfl) xd_nil)))) ?_
    have em := flat_more (partsM kind S1 S2) hi
    have ep : partsM kind S1 S2 st = (if (isInM kind (besideM (midM st.1 st.2) S1).1 (besideM (midM st.1 st.2) S2).1 && !isInM kind (besideM (midM st.1 st.2) S1).2 (besideM (midM st.1 st.2) S2).2) = true then [(st.1, st.2)] else []) ++ (if (isInM kind (besideM (midM st.1 st.2) S1).2 (besideM (midM st.1 st.2) S2).2 && !isInM kind (besideM (midM st.1 st.2) S1).1 (besideM (midM st.1 st.2) S2).1) = true then [(st.2, st.1)] else []) := rfl
    have second : ∀ out : List (T3 × T3), out.length ≤ 290000 → ((stretchM (S1 ++ S2)).take i).flatMap (partsM kind S1 S2) ++ partsM kind S1 S2 st = out ++ (if (isInM kind (besideM (midM st.1 st.2) S1).2 (besideM (midM st.1 st.2) S2).2 && !isInM kind (besideM (midM st.1 st.2) S1).1 (besideM (midM st.1 st.2) S2).1) = true then [(st.2, st.1)] else []) → ∀ tz, tz = tIfS (tAnd (tB (tVar 9)) (tNot (tB (tVar 8)))) (tDrop (tBM K "list" rAppend (tVar 3) (tCons (tTup (tCons (tOp (rIx K) (tVar 4) (tC (V.int 1))) (tCons (tOp (rIx K) (tVar 4) (tC (V.int 0))) tNil))) tNil))) tNext →
        WP tz [] [some (it kind), some (dt (.list (S1.map sdD))), some (dt (.list (S2.map sdD))), some (rf p), some (dt (paD st)), some (dt (plD (midM st.1 st.2))), some (dt (bbD (besideM (midM st.1 st.2) S1))), some (dt (bbD (besideM (midM st.1 st.2) S2))), some (bo (isInM kind (besideM (midM st.1 st.2) S1).1 (besideM (midM st.1 st.2) S2).1)), some (bo (isInM kind (besideM (midM st.1 st.2) S1).2 (besideM (midM st.1 st.2) S2).2))] [(p, cL (out.map paD))]
          (fun L C => ∃ o4 o5 o6 o7 o8 o9, L = [some (it kind), some (dt (.list (S1.map sdD))), some (dt (.list (S2.map sdD))), some (rf p), o4, o5, o6, o7, o8, o9] ∧ C = [(p, cL ((((stretchM (S1 ++ S2)).take (i + 1)).flatMap (partsM kind S1 S2)).map paD))]) (fun z1 C1 => z1 = dt (.list ((borderM kind S1 S2).map paD)) ∧ C1 = []) := by
      intro out ho eo tz etz
      subst etz
      rw [em, eo]
      refine wp_if (xt_and (xt_B (xe_v 9 rfl)) fun _ => (xt_not (xt_B (xe_v 8 rfl)))) (fun h => ?_) fun h => ?_
      · rw [if_pos h]
        refine wp_push [] [] rfl List.mem_cons_self (d := paD (st.2, st.1)) (xe_tup (xd_cons (xe_ixT (xe_v 4 rfl) xe_i rfl) (xd_cons (xe_ixT (xe_v 4 rfl) xe_i rfl) xd_nil))) (by rw [List.length_map]; omega) ⟨_, _, _, _, _, _, rfl, ?_⟩
        rw [List.map_append]; rfl
      · rw [if_neg (by rw [h]; decide), List.append_nil]
        exact wp_next ⟨_, _, _, _, _, _, rfl, rfl⟩
    refine wp_when (xt_and (xt_B (xe_v 8 rfl)) fun _ => (xt_not (xt_B (xe_v 9 rfl)))) (fun h => ?_) fun h => ?_
    · rw [if_pos h] at ep
      refine wp_push [] [] rfl List.mem_cons_self (d := paD (st.1, st.2)) (xe_tup (xd_cons (xe_ixT (xe_v 4 rfl) xe_i rfl) (xd_cons (xe_ixT (xe_v 4 rfl) xe_i rfl) xd_nil))) (by rw [List.length_map]; omega) ?_
      have := second (((stretchM (S1 ++ S2)).take i).flatMap (partsM kind S1 S2) ++ [(st.1, st.2)]) (by rw [List.length_append]; show _ + 1 ≤ _; omega) (by rw [ep, List.append_assoc]) _ rfl
      rw [List.map_append] at this
      exact this
    · rw [if_neg (by rw [h]; decide), List.nil_append] at ep
      exact second _ (by omega) (by rw [ep]) _ rfl
  · rintro L C ⟨o4, o5, o6, o7, o8, o9, rfl, rfl⟩
    rw [List.length_map, List.take_length]
    exact wp_retOwn [] [] rfl rfl n0 ⟨rfl, rfl⟩
theorem x_border {L : Sls} {C C' : Cs} {ta : TA} {k : Int} {S1 S2 : List Sd} (h : Xd ta L C [.int k, .list (S1.map sdD), .list (S2.map sdD)] C') (r : (∀ s ∈ S1, Sz s) ∧ (∀ s ∈ S2, Sz s) ∧ S1.length + S2.length ≤ 40) : Xe (tCall (spF (pR R_border)) [] E0 ta) L C (dt (.list ((borderM k S1 S2).map paD))) C' := xe_call h ⟨k, S1, S2, r.1, r.2.1, r.2.2, rfl, rfl⟩
end
end Wk
end
section
set_option Elab.async false
set_option linter.all false
set_option maxRecDepth 100000
set_option exponentiation.threshold 3000
namespace Wk
open PySem PySem.Spec PyProof.Rows L2
open Evl (Ex ex_l ex_t sq_of st_of)
open My (T3 Sd cf placeM beforeM crossM leftM midM meetM metM wayM cornersM)
theorem vn_lenM {K : PySem.W.Frag} {C : Cs} {α : Type} {f : α → PyData} {c : List α} : Vn (fun xs H Q => ∃ p ys, xs = [V.ref p] ∧ (SqL K H p ys ∨ SqT K H p ys) ∧ Q (.int ys.length) H) C [dt (.list (c.map f))] (it (c.length : Nat)) C := by
  have := vn_len (K := K) (C := C) (ds := c.map f)
  rwa [List.length_map] at this
section
variable {P : Program} {w : World} {K : PySem.W.Frag} {mg : Str → Option Value} {base : Heap} (T : Tx K mg)
/-! ### is_met_first, way_on -/
def R_is_met_first : List PyData → PyData → Prop := fun ds d => ∃ (p : T3 × T3) (a b : T3), Bt 403 p.1 ∧ Bt 403 p.2 ∧ Bt 403 a ∧ Bt 403 b ∧ ds = [paD p, plD a, plD b] ∧ d = .bool (metM p a b)
theorem sc_is_met_first : FnScope ["part", "spot", "chosen", "back", "spot_is_late", "chosen_is_late"] ["part", "spot", "chosen"] (defScope (topS 31)) := ⟨rfl, rfl, rfl, by decide +kernel, rfl, by decide +kernel, by decide +kernel⟩
include T in
theorem ok_is_met_first : Ok P w K mg base 3 "is_met_first" ["part", "spot", "chosen"] (spF (pR R_is_met_first)) := by
  have nd := sc_is_met_first.nd
  have o_line_through := ok_line_through (P := P) (w := w) (base := base) T
  have o_leftness := (ok_leftness (P := P) (w := w) (base := base) T).up (k := 2) (by decide)
  refine T.d_is_met_first.okP sc_is_met_first (fun ds d h => by obtain ⟨_, _, _, _, _, _, _, rfl, _⟩ := h; rfl) fun f cdv A outer s H E hr => ⟨_, (pss_cons (ps_set (i := 3) nd rfl (Or.inl rfl) (pe_own o_line_through hr rfl (pa_cons (pe_ix ix_seq (pv 0) pe_int (fun _ _ => rfl)) (pa_cons (pe_ix ix_seq (pv 0) pe_int (fun _ _ => rfl)) pa_nil)))) (pss_cons (ps_set (i := 4) nd rfl (Or.inl rfl) (pe_cmpR op_gt (pe_own o_leftness hr rfl (pa_cons (pv 3) (pa_cons (pv 1) pa_nil))) pe_int (nomark _))) (pss_cons (ps_set (i := 5) nd rfl (Or.inl rfl) (pe_cmpR op_gt (pe_own o_leftness hr rfl (pa_cons (pv 3) (pa_cons (pv 2) pa_nil))) pe_int (nomark _))) (pss_cons (ps_if (pt_cmpR op_ne (pv 4) (pv 5) (nomark _)) (pss_one (ps_ret (pv 5))) pss_nil) (pss_one (ps_ret (pe_cmpR op_lt (pe_own o_leftness hr rfl (pa_cons (pe_own o_line_through hr rfl (pa_cons (pe_ix ix_seq (pv 0) pe_int (fun _ _ => rfl)) (pa_cons (pv 1) pa_nil))) (pa_cons (pv 2) pa_nil))) pe_int (nomark _)))))))), fun ds d h => ?_⟩
  obtain ⟨p, a, b, h1, h2, ha, hb, rfl, rfl⟩ := h
  have up : ∀ {t : T3}, Bt 403 t → Bt 2000 t := fun h => h.mono (by decide)
  have bb : Bt 9000 (crossM p.2 p.1) := (cross_bt h2 h1).mono (by decide)
  refine wp_set (x_line_through (a := p.2) (b := p.1) (xd_cons (xe_ixT (xe_v 0 rfl) xe_i rfl) (xd_cons (xe_ixT (xe_v 0 rfl) xe_i rfl) xd_nil)) ⟨up h2, up h1⟩) ?_
  refine wp_set (xe_C0 (x_leftness (xd_cons (xe_v 3 rfl) (xd_cons (xe_v 1 rfl) xd_nil)) ⟨bb, ha.mono (by decide)⟩) xe_i) ?_
  refine wp_set (xe_C0 (x_leftness (xd_cons (xe_v 3 rfl) (xd_cons (xe_v 2 rfl) xd_nil)) ⟨bb, hb.mono (by decide)⟩) xe_i) ?_
  refine wp_when (xt_test (xe_neB (xe_v 4 rfl) (xe_v 5 rfl))) (fun h => ?_) fun h => ?_
  · refine wp_ret (xe_v 5 rfl) ⟨?_, rfl⟩
    have h' : decide (0 < leftM (crossM p.2 p.1) a) ≠ decide (0 < leftM (crossM p.2 p.1) b) := by simpa using h
    unfold metM
    rw [if_pos h']
  · refine wp_ret (xe_C0 (x_leftness (xd_cons (x_line_through (a := p.2) (b := a) (xd_cons (xe_ixT (xe_v 0 rfl) xe_i rfl) (xd_cons (xe_v 1 rfl) xd_nil)) ⟨up h2, up ha⟩) (xd_cons (xe_v 2 rfl) xd_nil)) ⟨(cross_bt h2 ha).mono (by decide), hb.mono (by decide)⟩) xe_i) ⟨?_, rfl⟩
    have h' : ¬ decide (0 < leftM (crossM p.2 p.1) a) ≠ decide (0 < leftM (crossM p.2 p.1) b) := by simpa using h
    unfold metM
    rw [if_neg h']
theorem x_is_met_first {L : Sls} {C C' : Cs} {ta : TA} {p : T3 × T3} {a b : T3} (h : Xd ta L C [paD p, plD a, plD b] C') (r : Bt 403 p.1 ∧ Bt 403 p.2 ∧ Bt 403 a ∧ Bt 403 b) : Xe (tCall (spF (pR R_is_met_first)) [] E0 ta) L C (bo (metM p a b)) C' := xe_call h ⟨p, a, b, r.1, r.2.1, r.2.2.1, r.2.2.2, rfl, rfl⟩
theorem cut_tail (x : PyData) (l : List PyData) : cutD (x :: l) (some 1) none = l := by
  unfold cutD HT.sIx
  simp
def wayF (p : T3 × T3) (c : T3) (cs : List T3) : T3 := cs.foldl (fun chosen spot => if metM p spot chosen = true then spot else chosen) c
theorem wayF_mem {p : T3 × T3} {c : T3} {cs : List T3} : wayF p c cs = c ∨ wayF p c cs ∈ cs := by
  unfold wayF
  induction cs generalizing c with
  | nil => exact .inl rfl
  | cons x cs ih =>
    rw [List.foldl_cons]
    by_cases h : metM p x c = true
    · rw [if_pos h]
      rcases ih (c := x) with q | q
      · exact .inr (by rw [q]; exact List.mem_cons_self)
      · exact .inr (List.mem_cons_of_mem _ q)
    · rw [if_neg h]
      exact (ih (c := c)).imp id (List.mem_cons_of_mem _)
def R_way_on : List PyData → PyData → Prop := fun ds d => ∃ (p : T3 × T3) (c : T3) (cs : List T3), Bt 403 p.1 ∧ Bt 403 p.2 ∧ (∀ t ∈ c :: cs, Bt 403 t) ∧ ds = [paD p, rgD (c :: cs)] ∧ d = plD (wayM p (c :: cs))
theorem sc_way_on : FnScope ["part", "choices", "chosen", "spot"] ["part", "choices"] (defScope (topS 30)) := ⟨rfl, rfl, rfl, by decide +kernel, rfl, by decide +kernel, by decide +kernel⟩
include T in
theorem ok_way_on : Ok P w K mg base 4 "way_on" ["part", "choices"] (spF (pR R_way_on)) := by
  have nd := sc_way_on.nd
  have o_is_met_first := ok_is_met_first (P := P) (w := w) (base := base) T
  refine T.d_way_on.okP sc_way_on (fun ds d h => by obtain ⟨_, _, _, _, _, _, rfl, _⟩ := h; rfl) fun f cdv A outer s H E hr => ⟨_, (pss_cons (ps_set (i := 2) nd rfl (Or.inl rfl) (pe_ix ix_seq (pv 1) pe_int (fun _ _ => rfl))) (pss_cons (ps_for PassesOwn.never rfl (pi_list (pe_slice sl_list (pv 1) (po_some pe_int) po_none)) (pg_name (i := 3) nd rfl (Or.inl rfl)) (pss_one (ps_if (pt_val (pe_own o_is_met_first hr rfl (pa_cons (pv 0) (pa_cons (pv 3) (pa_cons (pv 2) pa_nil))))) (pss_one (ps_set (i := 2) nd rfl (Or.inl rfl) (pv 3))) pss_nil))) (pss_one (ps_ret (pv 2))))), fun ds d h => ?_⟩
  obtain ⟨p, c, cs, h1, h2, hc, rfl, rfl⟩ := h
  refine wp_set (xe_ixL (xe_v 1 rfl) xe_i (atI_nat' (k := 0) rfl)) (wp_seq (wp_for (ds := cs.map plD) (fun i L C => ∃ o3, L = [some (dt (paD p)), some (dt (rgD (c :: cs))), some (dt (plD (wayF p c (cs.take i)))), o3] ∧ C = []) (by
      have := xe_sl (K := K) (ds := (c :: cs).map plD) (xe_v (L := [some (dt (paD p)), some (dt (rgD (c :: cs))), some (dt (plD c)), none]) (C := []) 1 rfl) (xo_some (xe_i (i := 1))) xo_none
      rwa [List.map_cons, cut_tail] at this) ⟨none, rfl, rfl⟩ ?_ ?_))
  · rintro i d L C hd ⟨o3, rfl, rfl⟩
    obtain ⟨t, ht, rfl⟩ := map_at hd
    have hm : wayF p c (cs.take i) ∈ c :: cs := by
      rcases wayF_mem (p := p) (c := c) (cs := cs.take i) with q | q
      · rw [q]; exact List.mem_cons_self
      · exact List.mem_cons_of_mem _ (List.mem_of_mem_take q)
    have em : wayF p c (cs.take (i + 1)) = if metM p t (wayF p c (cs.take i)) = true then t else wayF p c (cs.take i) := by
      unfold wayF
      rw [take_more ht, List.foldl_append]; rfl
    refine wp_if (xt_B (x_is_met_first (xd_cons (xe_v 0 rfl) (xd_cons (xe_v 3 rfl) (xd_cons (xe_v 2 rfl) xd_nil))) ⟨h1, h2, hc t (List.mem_cons_of_mem _ (List.mem_of_getElem? ht)), hc _ hm⟩)) (fun h => ?_) fun h => ?_
    · refine wp_asg (xe_v 3 rfl) ⟨some (dt (plD t)), ?_, rfl⟩
      rw [em, if_pos h]; rfl
    · refine wp_next ⟨some (dt (plD t)), ?_, rfl⟩
      rw [em, if_neg (by rw [h]; decide)]; rfl
  · rintro L C ⟨o3, rfl, rfl⟩
    rw [List.length_map, List.take_length]
    exact wp_ret (xe_v 2 rfl) ⟨rfl, rfl⟩
theorem x_way_on {L : Sls} {C C' : Cs} {ta : TA} {p : T3 × T3} {cs : List T3} (h : Xd ta L C [paD p, rgD cs] C') (r : Bt 403 p.1 ∧ Bt 403 p.2 ∧ cs ≠ [] ∧ ∀ t ∈ cs, Bt 403 t) : Xe (tCall (spF (pR R_way_on)) [] E0 ta) L C (dt (plD (wayM p cs))) C' := by
  cases cs with
  | nil => exact absurd rfl r.2.2.1
  | cons c cs => exact xe_call h ⟨p, c, cs, r.1, r.2.1, r.2.2.2, rfl, rfl⟩
/-! ### corners -/
def nxt (c : List T3) (k : Nat) : T3 := c.getD ((k + 1) % c.length) (0, 0, 0)
theorem corners_eq (c : List T3) : cornersM c = (((List.range c.length).map fun k => (prv c k, cur c k, nxt c k)).filter fun x => decide (leftM (crossM x.1 x.2.1) x.2.2 ≠ 0)).map fun x => x.2.1 := by
  cases c with
  | nil => rfl
  | cons o l =>
    unfold cornersM
    have e : ((o :: l).getLastD o :: o :: l).zip ((o :: l).zip (l ++ [o])) = (List.range (o :: l).length).map fun k => (prv (o :: l) k, cur (o :: l) k, nxt (o :: l) k) := by
      refine List.ext_getElem? fun k => ?_
      by_cases hk : k < (o :: l).length
      · rw [List.getElem?_map, List.getElem?_range hk]
        refine (List.getElem?_zip_eq_some (z := (prv (o :: l) k, cur (o :: l) k, nxt (o :: l) k))).2 ⟨?_, (List.getElem?_zip_eq_some (z := (cur (o :: l) k, nxt (o :: l) k))).2 ⟨cur_at hk, ?_⟩⟩
        · unfold prv
          rw [List.getLastD_cons, List.getLastD_cons]
          exact getD_at (by simp at hk ⊢; omega)
        · unfold nxt
          have hk' : k < l.length + 1 := by simpa using hk
          by_cases q : k = l.length
          · subst q
            rw [List.getElem?_append_right (by omega)]
            simp
          · rw [List.getElem?_append_left (by omega), show (o :: l).length = l.length + 1 from rfl, Nat.mod_eq_of_lt (by omega)]
            show l[k]? = some ((o :: l).getD (k + 1) (0, 0, 0))
            rw [← getD_at (l := o :: l) (d := (0, 0, 0)) (k := k + 1) (by simp; omega)]; rfl
      · rw [List.getElem?_eq_none (by simp at hk ⊢; omega), List.getElem?_eq_none (by simp at hk ⊢; omega)]
    rw [← e]
theorem nxt_at {c : List T3} {k : Nat} (h : k < c.length) : atI (c.map plD) (((k : Int) + 1).fmod (c.length : Nat)) = some (plD (nxt c k)) := by
  have e : ((k : Int) + 1).fmod (c.length : Nat) = (((k + 1) % c.length : Nat) : Int) := by
    rw [Int.fmod_eq_emod_of_nonneg _ (by omega), Int.natCast_emod]; rfl
  rw [e]
  refine atI_nat' ?_
  rw [List.getElem?_map, getD_at (d := (0, 0, 0)) (Nat.mod_lt _ (by omega))]; rfl
theorem nxt_mem {c : List T3} {k : Nat} (h : k < c.length) : nxt c k ∈ c := List.mem_of_getElem? (getD_at (Nat.mod_lt _ (by omega)))
def cornF (c : List T3) (k : Nat) : List T3 := (((List.range k).map fun k => (prv c k, cur c k, nxt c k)).filter fun x => decide (leftM (crossM x.1 x.2.1) x.2.2 ≠ 0)).map fun x => x.2.1
theorem cornF_len (c : List T3) (k : Nat) : (cornF c k).length ≤ k := by
  unfold cornF
  rw [List.length_map]
  refine Nat.le_trans (List.length_filter_le _ _) ?_
  simp
theorem cornF_succ (c : List T3) (k : Nat) : cornF c (k + 1) = cornF c k ++ (if leftM (crossM (prv c k) (cur c k)) (nxt c k) ≠ 0 then [cur c k] else []) := by
  unfold cornF
  rw [List.range_succ, List.map_append, List.filter_append, List.map_append]
  congr 1
  by_cases h : leftM (crossM (prv c k) (cur c k)) (nxt c k) = 0 <;> simp [h]
def R_corners : List PyData → PyData → Prop := fun ds d => ∃ c : List T3, (∀ t ∈ c, Bt 403 t) ∧ c.length < 1000000 ∧ ds = [rgD c] ∧ d = rgD (cornersM c)
theorem sc_corners : FnScope ["ring", "kept", "k", "behind"] ["ring"] (defScope (topS 32)) := ⟨rfl, rfl, rfl, by decide +kernel, rfl, by decide +kernel, by decide +kernel⟩
include T in
theorem ok_corners : Ok P w K mg base 3 "corners" ["ring"] (spF (pR R_corners)) := by
  have nd := sc_corners.nd
  have o_line_through := ok_line_through (P := P) (w := w) (base := base) T
  have o_leftness := (ok_leftness (P := P) (w := w) (base := base) T).up (k := 2) (by decide)
  refine T.d_corners.okP sc_corners (fun ds d h => by obtain ⟨_, _, _, rfl, _⟩ := h; rfl) fun f cdv A outer s H E hr => ⟨_, (pss_cons (ps_set (i := 1) nd rfl (Or.inl rfl) (pe_lst pa_nil)) (pss_cons (ps_for PassesOwn.never rfl (pi_range1 rfl T.m_range (pa_cons (pe_callB call_len_seq (by rfl) T.m_len PySem.boot_len (pa_cons (pv 0) pa_nil)) pa_nil)) (pg_name (i := 2) nd rfl (Or.inl rfl)) (pss_cons (ps_set (i := 3) nd rfl (Or.inl rfl) (pe_ix ix_seq (pv 0) (pe_op op_modN (pe_op op_add (pv 2) pe_int) (pe_callB call_len_seq (by rfl) T.m_len PySem.boot_len (pa_cons (pv 0) pa_nil))) (fun _ _ => rfl))) (pss_one (ps_if (pt_cmpR op_ne (pe_own o_leftness hr rfl (pa_cons (pe_own o_line_through hr rfl (pa_cons (pe_ix ix_seq (pv 0) (pe_op op_sub (pv 2) pe_int) (fun _ _ => rfl)) (pa_cons (pe_ix ix_seq (pv 0) (pv 2) (fun _ _ => rfl)) pa_nil))) (pa_cons (pv 3) pa_nil))) pe_int (nomark _)) (pss_one (ps_expr (pe_bm PySem.F.plainAttrs_list PySem.F.slot_list_append PySem.F.type_list_append mt_append (pv 1) (pa_cons (pe_ix ix_seq (pv 0) (pv 2) (fun _ _ => rfl)) pa_nil)))) pss_nil)))) (pss_one (ps_ret (pv 1))))), fun ds d h => ?_⟩
  obtain ⟨c, hc, hl, rfl, rfl⟩ := h
  have up : ∀ {t : T3}, Bt 403 t → Bt 2000 t := fun h => h.mono (by decide)
  refine wp_new fun p n n0 => wp_seq (wp_rng (n := c.length) (fun k L C => ∃ o2 o3, L = [some (dt (rgD c)), some (rf p), o2, o3] ∧ C = [(p, cL ((cornF c k).map plD))]) (xa_cons (xe_cb (xd_cons (xe_v 0 rfl) xd_nil) (vn_lenM (f := plD))) xa_nil) (by omega) ⟨none, none, rfl, rfl⟩ ?_ ?_)
  · rintro k L C hk ⟨o2, o3, rfl, rfl⟩
    refine wp_set (xe_ixL (xe_v 0 rfl) (xe_I (xe_I0 (xe_v 2 rfl) xe_i) (xe_cb (xd_cons (xe_v 0 rfl) xd_nil) (vn_lenM (f := plD))) (by omega)) (nxt_at hk)) ?_
    have bp := hc _ (prv_mem hk)
    have bc := hc _ (cur_mem hk)
    have bn := hc _ (nxt_mem hk)
    refine wp_if (xt_test (xe_ne (x_leftness (xd_cons (x_line_through (a := prv c k) (b := cur c k) (xd_cons (xe_ixL (xe_v 0 rfl) (xe_I0 (xe_v 2 rfl) xe_i) (atI_prev plD _ hk)) (xd_cons (xe_ixL (xe_v 0 rfl) (xe_v 2 rfl) (atI_cur hk)) xd_nil)) ⟨up bp, up bc⟩) (xd_cons (xe_v 3 rfl) xd_nil)) ⟨(cross_bt bp bc).mono (by decide), bn.mono (by decide)⟩) xe_i)) (fun h => ?_) fun h => ?_
    · have h' : leftM (crossM (prv c k) (cur c k)) (nxt c k) ≠ 0 := by simpa using h
      refine wp_push [] [] rfl List.mem_cons_self (xe_ixL (xe_v 0 rfl) (xe_v 2 rfl) (atI_cur hk)) (by rw [List.length_map]; have := cornF_len c k; omega) ⟨_, _, rfl, ?_⟩
      rw [cornF_succ, if_pos h', List.map_append]; rfl
    · have h' : ¬ leftM (crossM (prv c k) (cur c k)) (nxt c k) ≠ 0 := by simpa using h
      refine wp_next ⟨_, _, rfl, ?_⟩
      rw [cornF_succ, if_neg h', List.append_nil]
  · rintro L C ⟨o2, o3, rfl, rfl⟩
    refine wp_retOwn [] [] rfl rfl n0 ⟨?_, rfl⟩
    rw [corners_eq]; rfl
theorem x_corners {L : Sls} {C C' : Cs} {ta : TA} {c : List T3} (h : Xd ta L C [rgD c] C') (r : (∀ t ∈ c, Bt 403 t) ∧ c.length < 1000000) : Xe (tCall (spF (pR R_corners)) [] E0 ta) L C (dt (rgD (cornersM c))) C' := xe_call h ⟨c, r.1, r.2, rfl, rfl⟩
end
end Wk
end
section
set_option Elab.async false
set_option linter.all false
set_option maxRecDepth 100000
set_option exponentiation.threshold 3000
namespace Wk
open PySem PySem.Spec PyProof.Rows L2
open Evl (Ex ex_l ex_t sq_of st_of)
open My (T3 Sd cf fracM multStep multM scM scaledM crI dblM dblsM pieceM areaM)
section
variable {K : PySem.W.Frag} {L : Sls} {C C' : Cs} {te tl : TE} {tt : TT}
/-- comprehensions over typed lists -/
theorem xe_lcFM {α : Type} {j : Nat} {f : α → PyData} {xs : List α} (p : α → Bool) (g : α → PyData) (h : Xe tl L C (dt (.list (xs.map f))) C') (hz : xs.length ≤ 1000000) (ht : ∀ x, x ∈ xs → Xt tt ((wipeL L [j]).set j (some (dt (f x)))) C' (p x) C')
    (he : ∀ x, x ∈ xs → p x = true → Xe te ((wipeL L [j]).set j (some (dt (f x)))) C' (dt (g x)) C') : Xe (tLc (iList K tl) (gName j) tt te [j]) L C (dt (.list ((xs.filter p).map g))) C' := fun σ G H sl e c Q q => h σ G H sl e c _ fun v G1 H1 t1 r1 => by
  obtain ⟨a, ys, rfl, ha, hx⟩ := Rp.list r1
  refine ⟨a, rfl, ⟨ys, sq_of (t1.dn _ _ ha)⟩, fun D hD => ?_⟩
  have hl : ys.length = xs.length := by rw [hx.len, List.length_map]
  have at_ : ∀ i, i < ys.length → ∃ x, xs[i]? = some x ∧ x ∈ xs ∧ (xs.map f).getD i .none = f x ∧ (xs.map p).getD i false = p x ∧ (xs.map g).getD i .none = g x := fun i hi => by
    have h1 : xs[i]? = some (xs[i]'(by omega)) := List.getElem?_eq_getElem _
    refine ⟨_, h1, List.mem_of_getElem? h1, ?_, ?_, ?_⟩ <;> rw [List.getD_eq_getElem?_getD, List.getElem?_map, h1] <;> rfl
  refine lcC (C := C') (walk_list (K := K) (a := a) (xs := ys)) (fun i => dt ((xs.map f).getD i .none)) (fun i => (xs.map p).getD i false) (fun i => (xs.map g).getD i .none) (fun G' H' e1 e2 => sq_of (e2 _ _ (e1 _ _ ha))) (fun i H x H' hi y => ?_) (fun i hi => ?_) (fun i hi hp => ?_)
    (by rw [hl]; exact hz) (sl.ex t1.up) t1.dn t1.cl hD fun G' H' t => ?_
  · obtain ⟨rfl, hy⟩ := y
    obtain ⟨dx, hdx, rx⟩ := hx.getv hy
    refine ⟨rfl, ?_⟩
    rw [List.getD_eq_getElem?_getD, hdx]
    exact rx
  · obtain ⟨x, _, hm, e1, e2, e3⟩ := at_ i hi
    rw [e1, e2]; exact ht x hm
  · obtain ⟨x, _, hm, e1, e2, e3⟩ := at_ i hi
    rw [e1, e3]
    rw [e2] at hp
    exact he x hm hp
  · have el : ((List.range ys.length).filter fun i => (xs.map p).getD i false).map (fun i => (xs.map g).getD i .none) = (xs.filter p).map g := by
      rw [hl]
      have go : ∀ (xs : List α), ((List.range xs.length).filter fun i => (xs.map p).getD i false).map (fun i => (xs.map g).getD i .none) = (xs.filter p).map g := by
        intro xs
        induction xs with
        | nil => rfl
        | cons x xs ih =>
          rw [List.length_cons, List.range_succ_eq_map, List.filter_cons]
          have e0 : ((x :: xs).map p).getD 0 false = p x := rfl
          have e1 : ((List.range xs.length).map Nat.succ).filter (fun i => ((x :: xs).map p).getD i false) = ((List.range xs.length).filter fun i => (xs.map p).getD i false).map Nat.succ := by
            rw [List.filter_map]; rfl
          have e2 : (((List.range xs.length).filter fun i => (xs.map p).getD i false).map Nat.succ).map (fun i => ((x :: xs).map g).getD i .none) = (xs.filter p).map g := by
            rw [List.map_map, ← ih]; rfl
          by_cases q : p x = true
          · rw [if_pos (by rw [e0]; exact q), e1, List.map_cons, e2, List.filter_cons, if_pos q]; rfl
          · rw [if_neg (by rw [e0]; exact q), e1, e2, List.filter_cons, if_neg q]
      exact go xs
    rw [el] at t
    obtain ⟨o, ⟨zs, rfl, hy⟩, k1, k2, t2⟩ := t.rest (t1.cl.not hD)
    rw [List.append_nil] at t2
    exact q _ _ _ (t1.trans c t2) (.lst upd_same (hy.ex (Ex.new k1)))
theorem xe_lcM {α : Type} {j : Nat} {f : α → PyData} {xs : List α} (g : α → PyData) (h : Xe tl L C (dt (.list (xs.map f))) C') (hz : xs.length ≤ 1000000) (he : ∀ x, x ∈ xs → Xe te ((wipeL L [j]).set j (some (dt (f x)))) C' (dt (g x)) C') : Xe (tLc (iList K tl) (gName j) tYes te [j]) L C (dt (.list (xs.map g))) C' := by
  have := xe_lcFM (K := K) (tt := tYes) (fun _ => true) g h hz (fun _ _ => xt_yes) fun x hd _ => he x hd
  rwa [List.filter_eq_self.2 (fun _ _ => rfl)] at this
end
section
variable {P : Program} {w : World} {K : PySem.W.Frag} {mg : Str → Option Value} {base : Heap} (T : Tx K mg)
/-! ### told_place, is_beyond, side_count -/
def toldM (t : T3) : List Int := [(fracM t.1 t.2.2).1, (fracM t.1 t.2.2).2, (fracM t.2.1 t.2.2).1, (fracM t.2.1 t.2.2).2]
def R_told_place : List PyData → PyData → Prop := fun ds d => ∃ t : T3, t.2.2 ≠ 0 ∧ Bi 9000 t.2.2 ∧ ds = [plD t] ∧ d = inD (toldM t)
theorem sc_told_place : FnScope ["spot", "across", "up"] ["spot"] (defScope (topS 81)) := ⟨rfl, rfl, rfl, by decide +kernel, rfl, by decide +kernel, by decide +kernel⟩
include T in
theorem ok_told_place : Ok P w K mg base 3 "told_place" ["spot"] (spF (pR R_told_place)) := by
  have nd := sc_told_place.nd
  have o_fraction := ok_fraction (P := P) (w := w) (base := base) T
  refine T.d_told_place.okP sc_told_place (fun ds d h => by obtain ⟨_, _, _, rfl, _⟩ := h; rfl) fun f cdv A outer s H E hr => ⟨_, (pss_cons (ps_set (i := 1) nd rfl (Or.inl rfl) (pe_own o_fraction hr rfl (pa_cons (pe_ix ix_seq (pv 0) pe_int (fun _ _ => rfl)) (pa_cons (pe_ix ix_seq (pv 0) pe_int (fun _ _ => rfl)) pa_nil)))) (pss_cons (ps_set (i := 2) nd rfl (Or.inl rfl) (pe_own o_fraction hr rfl (pa_cons (pe_ix ix_seq (pv 0) pe_int (fun _ _ => rfl)) (pa_cons (pe_ix ix_seq (pv 0) pe_int (fun _ _ => rfl)) pa_nil)))) (pss_one (ps_ret (pe_lst (pa_cons (pe_ix ix_seq (pv 1) pe_int (fun _ _ => rfl)) (pa_cons (pe_ix ix_seq (pv 1) pe_int (fun _ _ => rfl)) (pa_cons (pe_ix ix_seq (pv 2) pe_int (fun _ _ => rfl)) (pa_cons (pe_ix ix_seq (pv 2) pe_int (fun _ _ => rfl)) pa_nil))))))))), fun ds d h => ?_⟩
  obtain ⟨t, h0, hb, rfl, rfl⟩ := h
  refine wp_set (x_fraction (x := t.1) (z := t.2.2) (xd_cons (xe_ixT (xe_v 0 rfl) xe_i rfl) (xd_cons (xe_ixT (xe_v 0 rfl) xe_i rfl) xd_nil)) ⟨h0, hb⟩) ?_
  refine wp_set (x_fraction (x := t.2.1) (z := t.2.2) (xd_cons (xe_ixT (xe_v 0 rfl) xe_i rfl) (xd_cons (xe_ixT (xe_v 0 rfl) xe_i rfl) xd_nil)) ⟨h0, hb⟩) ?_
  exact wp_ret (xe_lst (xd_cons (xe_ixT (xe_v 1 rfl) xe_i rfl) (xd_cons (xe_ixT (xe_v 1 rfl) xe_i rfl) (xd_cons (xe_ixT (xe_v 2 rfl) xe_i rfl) (xd_cons (xe_ixT (xe_v 2 rfl) xe_i rfl) xd_nil))))) ⟨rfl, rfl⟩
theorem x_told_place {L : Sls} {C C' : Cs} {ta : TA} {t : T3} (h : Xd ta L C [plD t] C') (r : t.2.2 ≠ 0 ∧ Bi 9000 t.2.2) : Xe (tCall (spF (pR R_told_place)) [] E0 ta) L C (dt (inD (toldM t))) C' := xe_call h ⟨t, r.1, r.2, rfl, rfl⟩
def beyM (ns : List Int) (m : Int) : Bool := ns.any fun z => decide ((if z < 0 then -z else z) > m)
def R_is_beyond : List PyData → PyData → Prop := fun ds d => ∃ (ns : List Int) (m : Int), ns.length ≤ 1000000 ∧ ds = [inD ns, .int m] ∧ d = .bool (beyM ns m)
theorem sc_is_beyond : FnScope ["numbers", "most", "number"] ["numbers", "most"] (defScope (topS 87)) := ⟨rfl, rfl, rfl, by decide +kernel, rfl, by decide +kernel, by decide +kernel⟩
include T in
theorem ok_is_beyond : Ok P w K mg base 1 "is_beyond" ["numbers", "most"] (spF (pR R_is_beyond)) := by
  have nd := sc_is_beyond.nd
  refine T.d_is_beyond.okP sc_is_beyond (fun ds d h => by obtain ⟨_, _, _, rfl, _⟩ := h; rfl) fun f cdv A outer s H E hr => ⟨_, (pss_one (ps_ret (pe_callB (cr_any rfl) (by rfl) T.m_any boot_any (pa_cons (pe_lc rfl nd (own := [("number", 2)]) (pi_list (pv 0)) (blkOk_by (N := ["numbers", "most", "number"]) (sc := defScope (topS 87)) (by decide +kernel)) (fun _ _ _ _ _ => pg_name (i := 2) nd rfl (Or.inl rfl)) (fun _ _ _ _ _ => pts_nil) (fun _ _ _ _ _ => (pe_cmpR op_gt (pe_callB call_abs (by rfl) T.m_abs boot_abs (pa_cons (pv 2) pa_nil)) (pv 1) (nomark _)))) pa_nil)))), fun ds d h => ?_⟩
  obtain ⟨ns, m, hl, rfl, rfl⟩ := h
  refine wp_ret (s := bo (beyM ns m)) (C' := []) ?_ ⟨rfl, rfl⟩
  have h1 := xe_lcM (K := K) (j := 2) (f := PyData.int) (xs := ns) (L := [some (dt (inD ns)), some (it m), none]) (C := []) (fun z => PyData.bool (decide ((if z < 0 then -z else z) > m))) (xe_v 0 rfl) hl (fun z _ => xe_C0 (g := fun i j => decide (i > j)) (xe_cb (xa_cons (xe_v 2 rfl) xa_nil) (vn_abs (i := z))) (xe_v 1 rfl))
  have e : ns.map (fun z => PyData.bool (decide ((if z < 0 then -z else z) > m))) = (ns.map fun z => decide ((if z < 0 then -z else z) > m)).map PyData.bool := by rw [List.map_map]; rfl
  rw [e] at h1
  have h2 := xe_cb (xa_cons h1 xa_nil) (vn_any (K := K))
  have e2 : (ns.map fun z => decide ((if z < 0 then -z else z) > m)).any id = beyM ns m := by unfold beyM; rw [List.any_map]; rfl
  rw [e2] at h2
  exact h2
theorem x_is_beyond {L : Sls} {C C' : Cs} {ta : TA} {ns : List Int} {m : Int} (h : Xd ta L C [inD ns, .int m] C') (r : ns.length ≤ 1000000) : Xe (tCall (spF (pR R_is_beyond)) [] E0 ta) L C (bo (beyM ns m)) C' := xe_call h ⟨ns, m, r, rfl, rfl⟩
def R_side_count : List PyData → PyData → Prop := fun ds d => ∃ r : List (List T3), r.length ≤ 1000000 ∧ ds = [rsD r] ∧ d = .int ((r.map List.length).sum : Nat)
theorem sum_cast (l : List Nat) : (l.map fun n : Nat => (n : Int)).sum = ((l.sum : Nat) : Int) := by
  induction l with
  | nil => rfl
  | cons x l ih => rw [List.map_cons, List.sum_cons, List.sum_cons, ih]; omega
theorem sc_side_count : FnScope ["rings", "ring"] ["rings"] (defScope (topS 89)) := ⟨rfl, rfl, rfl, by decide +kernel, rfl, by decide +kernel, by decide +kernel⟩
include T in
theorem ok_side_count : Ok P w K mg base 1 "side_count" ["rings"] (spF (pR R_side_count)) := by
  have nd := sc_side_count.nd
  refine T.d_side_count.okP sc_side_count (fun ds d h => by obtain ⟨_, _, rfl, _⟩ := h; rfl) fun f cdv A outer s H E hr => ⟨_, (pss_one (ps_ret (pe_callB (cr_sum rfl) (by rfl) T.m_sum boot_sum (pa_cons (pe_lc rfl nd (own := [("ring", 1)]) (pi_list (pv 0)) (blkOk_by (N := ["rings", "ring"]) (sc := defScope (topS 89)) (by decide +kernel)) (fun _ _ _ _ _ => pg_name (i := 1) nd rfl (Or.inl rfl)) (fun _ _ _ _ _ => pts_nil) (fun _ _ _ _ _ => (pe_callB (lenK K rfl) (by rfl) T.m_len PySem.boot_len (pa_cons (pv 1) pa_nil)))) pa_nil)))), fun ds d h => ?_⟩
  obtain ⟨r, hl, rfl, rfl⟩ := h
  refine wp_ret (s := it ((r.map List.length).sum : Nat)) (C' := []) ?_ ⟨rfl, rfl⟩
  have h1 := xe_lcM (K := K) (j := 1) (f := rgD) (xs := r) (L := [some (dt (rsD r)), none]) (C := []) (fun c => PyData.int (c.length : Nat)) (xe_v 0 rfl) hl (fun c _ => xe_cb (xa_cons (xe_v 1 rfl) xa_nil) (vn_lenM (K := K) (f := plD)))
  have e : r.map (fun c => PyData.int (c.length : Nat)) = ((r.map List.length).map fun n : Nat => (n : Int)).map PyData.int := by rw [List.map_map, List.map_map]; rfl
  rw [e] at h1
  have h2 := xe_cb (xa_cons h1 xa_nil) (vn_sum (K := K))
  rw [sum_cast] at h2
  exact h2
theorem x_side_count {L : Sls} {C C' : Cs} {ta : TA} {r : List (List T3)} (h : Xd ta L C [rsD r] C') (k : r.length ≤ 1000000) : Xe (tCall (spF (pR R_side_count)) [] E0 ta) L C (it ((r.map List.length).sum : Nat)) C' := xe_call h ⟨r, k, rfl, rfl⟩
/-! ### is_told_fraction -/
def tfM (a b : Int) : Bool := decide ((if a < 0 then -a else a) ≤ 100000) && (decide (b ≥ 1) && decide (b ≤ 1000))
def R_is_told_fraction : List PyData → PyData → Prop := fun ds d => ∃ a b : Int, ds = [.int a, .int b] ∧ d = .bool (tfM a b)
theorem sc_is_told_fraction : FnScope ["above", "below"] ["above", "below"] (defScope (topS 86)) := ⟨rfl, rfl, rfl, by decide +kernel, rfl, by decide +kernel, by decide +kernel⟩
include T in
theorem ok_is_told_fraction : Ok P w K mg base 1 "is_told_fraction" ["above", "below"] (spF (pR R_is_told_fraction)) := by
  have nd := sc_is_told_fraction.nd
  refine T.d_is_told_fraction.okP sc_is_told_fraction (fun ds d h => by obtain ⟨_, _, rfl, _⟩ := h; rfl) fun f cdv A outer s H E hr => ⟨_, (pss_one (ps_ret (pe_and (pe_cmpR op_le (pe_callB call_abs (by rfl) T.m_abs boot_abs (pa_cons (pv 0) pa_nil)) (pe_ct T.c_MOST_ABOVE rfl) (nomark _)) (pe_and (pe_cmpR op_ge (pv 1) pe_int (nomark _)) (pe_one (pe_cmpR op_le (pv 1) (pe_ct T.c_MOST_BELOW rfl) (nomark _))))))), fun ds d h => ?_⟩
  obtain ⟨a, b, rfl, rfl⟩ := h
  exact wp_ret (xe_and (xe_C0 (xe_cb (xa_cons (xe_v 0 rfl) xa_nil) vn_abs) xe_i) fun _ => (xe_and (xe_C0 (xe_v 1 rfl) xe_i) fun _ => (xe_C0 (xe_v 1 rfl) xe_i))) ⟨rfl, rfl⟩
theorem x_is_told_fraction {L : Sls} {C C' : Cs} {ta : TA} {a b : Int} (h : Xd ta L C [.int a, .int b] C') : Xe (tCall (spF (pR R_is_told_fraction)) [] E0 ta) L C (bo (tfM a b)) C' := xe_call h ⟨a, b, rfl, rfl⟩
end
end Wk
end
section
set_option Elab.async false
set_option linter.all false
set_option maxRecDepth 100000
set_option exponentiation.threshold 3000
namespace Wk
open PySem PySem.Spec PyProof.Rows L2
open Evl (Ex ex_l ex_t sq_of st_of)
open My (T3 Sd cf fracM multStep multM scM scaledM crI dblM dblsM pieceM areaM)
/-! ### what is known of kept rings -/
structure Kr (r : List (List T3)) : Prop where
  pt : ∀ c ∈ r, ∀ t ∈ c, 0 < t.2.2 ∧ Bt 80 t
  n : r.flatten.length ≤ 16
  m : r.length ≤ 16
def multF (l : List T3) : Int := l.foldl (fun m t => multStep m t.2.2) 1
theorem fold_flat {α β : Type} (f : β → α → β) : ∀ (r : List (List α)) (b : β), r.flatten.foldl f b = r.foldl (fun b l => l.foldl f b) b
  | [], b => rfl
  | l :: r, b => by rw [List.flatten_cons, List.foldl_append, List.foldl_cons, fold_flat f r]
theorem multM_flat (r : List (List T3)) : multM r = multF r.flatten := (fold_flat _ r 1).symm
theorem cf_dvd (a b : Int) : b = cf a b * (b.fdiv (cf a b)) := by
  unfold cf
  exact (Int.mul_fdiv_cancel' (Int.gcd_dvd_right a b)).symm
theorem step_bi {m w : Int} {n : Nat} (hm : Bi n m) (hw : w ≠ 0) (bw : Bi 80 w) : Bi 80 (w.fdiv (cf m w)) ∧ Bi (n + 80) (multStep m w) := by
  have h1 : Bi 80 (w.fdiv (cf m w)) := fac_bi bw (cf_ne hw) (cf_dvd m w)
  exact ⟨h1, hm.mul h1⟩
theorem mult_aux : ∀ (l : List T3), (∀ t ∈ l, 0 < t.2.2 ∧ Bt 80 t) → ∀ (m : Int) (n : Nat), 0 < m → Bi n m → 0 < l.foldl (fun m t => multStep m t.2.2) m ∧ Bi (n + 80 * l.length) (l.foldl (fun m t => multStep m t.2.2) m)
  | [], _, m, n, h0, hb => ⟨h0, hb⟩
  | t :: l, h, m, n, h0, hb => by
    have ht := h t List.mem_cons_self
    have s := step_bi hb (by omega : t.2.2 ≠ 0) ht.2.2.2
    have := mult_aux l (fun x hx => h x (List.mem_cons_of_mem _ hx)) (multStep m t.2.2) (n + 80) (My.multStep_spec h0 ht.1).1 s.2
    rw [List.foldl_cons, List.length_cons]
    exact ⟨this.1, this.2.mono (by omega)⟩
theorem multF_bi {l : List T3} (h : ∀ t ∈ l, 0 < t.2.2 ∧ Bt 80 t) (hl : l.length ≤ 16) : 0 < multF l ∧ Bi 1281 (multF l) := by
  have := mult_aux l h 1 1 (by decide) (by decide)
  exact ⟨this.1, this.2.mono (by omega)⟩
theorem Kr.scale {r : List (List T3)} (h : Kr r) : 0 < multM r ∧ Bi 1281 (multM r) := by
  rw [multM_flat]
  refine multF_bi (fun t ht => ?_) h.n
  obtain ⟨c, hc, htc⟩ := List.mem_flatten.1 ht
  exact h.pt c hc t htc
section
variable {P : Program} {w : World} {K : PySem.W.Frag} {mg : Str → Option Value} {base : Heap} (T : Tx K mg)
def R_common_multiple : List PyData → PyData → Prop := fun ds d => ∃ r : List (List T3), Kr r ∧ ds = [rsD r] ∧ d = .int (multM r)
theorem sc_common_multiple : FnScope ["rings", "multiple", "ring", "spot"] ["rings"] (defScope (topS 35)) := ⟨rfl, rfl, rfl, by decide +kernel, rfl, by decide +kernel, by decide +kernel⟩
include T in
theorem ok_common_multiple : Ok P w K mg base 2 "common_multiple" ["rings"] (spF (pR R_common_multiple)) := by
  have nd := sc_common_multiple.nd
  have o_common_factor := ok_cf (P := P) (w := w) (base := base) T.d_common_factor T.m_abs
  refine T.d_common_multiple.okP sc_common_multiple (fun ds d h => by obtain ⟨_, _, rfl, _⟩ := h; rfl) fun f cdv A outer s H E hr => ⟨_, (pss_cons (ps_set (i := 1) nd rfl (Or.inl rfl) pe_int) (pss_cons (ps_for PassesOwn.never rfl (pi_list (pv 0)) (pg_name (i := 2) nd rfl (Or.inl rfl)) (pss_one (ps_for PassesOwn.never rfl (pi_list (pv 2)) (pg_name (i := 3) nd rfl (Or.inl rfl)) (pss_one (ps_set (i := 1) nd rfl (Or.inl rfl) (pe_op op_mulW (pv 1) (pe_op op_fdivN2 (pe_ix ix_seq (pv 3) pe_int (fun _ _ => rfl)) (pe_own o_common_factor hr rfl (pa_cons (pv 1) (pa_cons (pe_ix ix_seq (pv 3) pe_int (fun _ _ => rfl)) pa_nil)))))))))) (pss_one (ps_ret (pv 1))))), fun ds d h => ?_⟩
  obtain ⟨r, hk, rfl, rfl⟩ := h
  refine wp_set xe_i (wp_seq (wp_for (fun i L C => ∃ o2 o3, L = [some (dt (rsD r)), some (it (multF ((r.take i).flatMap id))), o2, o3] ∧ C = []) (xe_v 0 rfl) ⟨none, none, rfl, rfl⟩ ?_ ?_))
  · rintro i d L C hd ⟨o2, o3, rfl, rfl⟩
    obtain ⟨c, hc, rfl⟩ := map_at hd
    have hcm := List.mem_of_getElem? hc
    refine wp_for (ds := c.map plD) (fun k L C => ∃ o3, L = [some (dt (rsD r)), some (it (multF ((r.take i).flatMap id ++ c.take k))), some (dt (rgD c)), o3] ∧ C = []) (xe_v 2 rfl) ⟨o3, by rw [List.take_zero, List.append_nil]; rfl, rfl⟩ ?_ ?_
    · rintro k d L C hd ⟨o3, rfl, rfl⟩
      obtain ⟨t, ht, rfl⟩ := map_at hd
      have bt := hk.pt c hcm t (List.mem_of_getElem? ht)
      have hb : 0 < multF ((r.take i).flatMap id ++ c.take k) ∧ Bi 1281 (multF ((r.take i).flatMap id ++ c.take k)) := by
        refine multF_bi (fun x hx => ?_) ?_
        · rcases List.mem_append.1 hx with q | q
          · obtain ⟨c', hc', hx'⟩ := List.mem_flatMap.1 q
            exact hk.pt c' (List.mem_of_mem_take hc') x hx'
          · exact hk.pt c hcm x (List.mem_of_mem_take q)
        · have h1 := flat_len (id : List T3 → List T3) hc k
          have h2 := hk.n
          have e : r.flatMap id = r.flatten := by simp [List.flatMap]
          rw [e] at h1
          exact Nat.le_trans h1 h2
      have n0 : t.2.2 ≠ 0 := by omega
      have st := step_bi hb.2 n0 bt.2.2.2
      refine wp_asg (xe_I (xe_v 1 rfl) (xe_I (xe_ixT (xe_v 3 rfl) xe_i rfl) (x_common_factor (xd_cons (xe_v 1 rfl) (xd_cons (xe_ixT (xe_v 3 rfl) xe_i rfl) xd_nil))) (div_ok (n := 80) (cf_ne n0) (Nat.lt_of_le_of_lt (cf_le n0) bt.2.2.2))) (mul_ok hb.2 st.1)) ⟨some (dt (plD t)), ?_, rfl⟩
      rw [take_more ht, ← List.append_assoc]
      unfold multF
      rw [List.foldl_append (l' := [t])]; rfl
    · rintro L C ⟨o3, rfl, rfl⟩
      refine ⟨some (dt (rgD c)), o3, ?_, rfl⟩
      rw [List.length_map, List.take_length, flat_more id hc]; rfl
  · rintro L C ⟨o2, o3, rfl, rfl⟩
    refine wp_ret (xe_v 1 rfl) ⟨?_, rfl⟩
    rw [List.length_map, List.take_length, multM_flat]
    have e : r.flatMap id = r.flatten := by simp [List.flatMap]
    rw [e]
theorem x_common_multiple {L : Sls} {C C' : Cs} {ta : TA} {r : List (List T3)} (h : Xd ta L C [rsD r] C') (k : Kr r) : Xe (tCall (spF (pR R_common_multiple)) [] E0 ta) L C (it (multM r)) C' := xe_call h ⟨r, k, rfl, rfl⟩
/-! ### scaled -/
theorem fdiv_bi {n : Nat} {s w : Int} (h : Bi n s) (hw : 0 < w) : Bi n (s.fdiv w) := by
  unfold Bi at *
  rw [Int.fdiv_eq_ediv_of_nonneg _ (by omega)]
  exact Nat.lt_of_le_of_lt (Int.natAbs_ediv_le_natAbs s w) h
def R_scaled : List PyData → PyData → Prop := fun ds d => ∃ (c : List T3) (s : Int), (∀ t ∈ c, 0 < t.2.2 ∧ Bt 80 t) ∧ Bi 1281 s ∧ c.length ≤ 1000000 ∧ ds = [rgD c, .int s] ∧ d = .list ((scaledM c s).map frD)
theorem sc_scaled : FnScope ["ring", "scale", "spot"] ["ring", "scale"] (defScope (topS 36)) := ⟨rfl, rfl, rfl, by decide +kernel, rfl, by decide +kernel, by decide +kernel⟩
include T in
theorem ok_scaled : Ok P w K mg base 1 "scaled" ["ring", "scale"] (spF (pR R_scaled)) := by
  have nd := sc_scaled.nd
  refine T.d_scaled.okP sc_scaled (fun ds d h => by obtain ⟨_, _, _, _, _, rfl, _⟩ := h; rfl) fun f cdv A outer s H E hr => ⟨_, (pss_one (ps_ret (pe_lc rfl nd (own := [("spot", 2)]) (pi_list (pv 0)) (blkOk_by (N := ["ring", "scale", "spot"]) (sc := defScope (topS 36)) (by decide +kernel)) (fun _ _ _ _ _ => pg_name (i := 2) nd rfl (Or.inl rfl)) (fun _ _ _ _ _ => pts_nil) (fun _ _ _ _ _ => (pe_tup (pa_cons (pe_op op_mulW (pe_ix (ixK K rfl) (pv 2) pe_int (fun _ _ => rfl)) (pe_op op_fdivN2 (pv 1) (pe_ix (ixK K rfl) (pv 2) pe_int (fun _ _ => rfl)))) (pa_cons (pe_op op_mulW (pe_ix (ixK K rfl) (pv 2) pe_int (fun _ _ => rfl)) (pe_op op_fdivN2 (pv 1) (pe_ix (ixK K rfl) (pv 2) pe_int (fun _ _ => rfl)))) pa_nil))))))), fun ds d h => ?_⟩
  obtain ⟨c, s, hc, hs, hl, rfl, rfl⟩ := h
  have e : (scaledM c s).map frD = c.map fun t => frD (scM s t) := by unfold scaledM; rw [List.map_map]; rfl
  rw [e]
  refine wp_ret (xe_lcM (f := plD) (xs := c) (fun t => frD (scM s t)) (xe_v 0 rfl) hl fun t ht => ?_) ⟨rfl, rfl⟩
  have h := hc t ht
  have dv : CDivN s t.2.2 := div_ok (n := 80) (by omega) h.2.2.2
  exact xe_tup (ds := [.int (scM s t).1, .int (scM s t).2]) (xd_cons (xe_I (xe_ixT (xe_v 2 rfl) xe_i rfl) (xe_I (xe_v 1 rfl) (xe_ixT (xe_v 2 rfl) xe_i rfl) dv) (mul_ok h.2.1 (fdiv_bi hs h.1))) (xd_cons (xe_I (xe_ixT (xe_v 2 rfl) xe_i rfl) (xe_I (xe_v 1 rfl) (xe_ixT (xe_v 2 rfl) xe_i rfl) dv) (mul_ok h.2.2.1 (fdiv_bi hs h.1))) xd_nil))
theorem x_scaled {L : Sls} {C C' : Cs} {ta : TA} {c : List T3} {s : Int} (h : Xd ta L C [rgD c, .int s] C') (k : (∀ t ∈ c, 0 < t.2.2 ∧ Bt 80 t) ∧ Bi 1281 s ∧ c.length ≤ 1000000) : Xe (tCall (spF (pR R_scaled)) [] E0 ta) L C (dt (.list ((scaledM c s).map frD))) C' := xe_call h ⟨c, s, k.1, k.2.1, k.2.2, rfl, rfl⟩
theorem scaled_bi {c : List T3} {s : Int} (hc : ∀ t ∈ c, 0 < t.2.2 ∧ Bt 80 t) (hs : Bi 1281 s) : ∀ p ∈ scaledM c s, Bi 1400 p.1 ∧ Bi 1400 p.2 := by
  intro p hp
  obtain ⟨t, ht, rfl⟩ := List.mem_map.1 hp
  have h := hc t ht
  exact ⟨(h.2.1.mul (fdiv_bi hs h.1)).mono (by decide), (h.2.2.1.mul (fdiv_bi hs h.1)).mono (by decide)⟩
/-! ### doubled areas -/
def prv2 (p : List (Int × Int)) (k : Nat) : Int × Int := (p.getLastD (0, 0) :: p).getD k (0, 0)
def cur2 (p : List (Int × Int)) (k : Nat) : Int × Int := p.getD k (0, 0)
theorem prv2_mem {p : List (Int × Int)} {k : Nat} (h : k < p.length) : prv2 p k ∈ p := by
  cases k with
  | zero => exact getLastD_mem p _ (by rintro rfl; simp at h)
  | succ k => exact List.mem_of_getElem? (getD_at (l := p) (by omega))
def R_doubled_area : List PyData → PyData → Prop := fun ds d => ∃ p : List (Int × Int), (∀ x ∈ p, Bi 1400 x.1 ∧ Bi 1400 x.2) ∧ p.length ≤ 1000000 ∧ ds = [.list (p.map frD)] ∧ d = .int (dblM p)
theorem sc_doubled_area : FnScope ["points", "total", "k", "one", "other"] ["points"] (defScope (topS 44)) := ⟨rfl, rfl, rfl, by decide +kernel, rfl, by decide +kernel, by decide +kernel⟩
include T in
theorem ok_doubled_area : Ok P w K mg base 1 "doubled_area" ["points"] (spF (pR R_doubled_area)) := by
  have nd := sc_doubled_area.nd
  refine T.d_doubled_area.okP sc_doubled_area (fun ds d h => by obtain ⟨_, _, _, rfl, _⟩ := h; rfl) fun f cdv A outer s H E hr => ⟨_, (pss_cons (ps_set (i := 1) nd rfl (Or.inl rfl) pe_int) (pss_cons (ps_for PassesOwn.never rfl (pi_range1 rfl T.m_range (pa_cons (pe_callB call_len_seq (by rfl) T.m_len PySem.boot_len (pa_cons (pv 0) pa_nil)) pa_nil)) (pg_name (i := 2) nd rfl (Or.inl rfl)) (pss_cons (ps_set (i := 3) nd rfl (Or.inl rfl) (pe_ix ix_seq (pv 0) (pe_op op_sub (pv 2) pe_int) (fun _ _ => rfl))) (pss_cons (ps_set (i := 4) nd rfl (Or.inl rfl) (pe_ix ix_seq (pv 0) (pv 2) (fun _ _ => rfl))) (pss_one (ps_aug (i := 1) nd rfl (Or.inl rfl) (pe_op op_sub (pe_op op_mulW (pe_ix ix_seq (pv 3) pe_int (fun _ _ => rfl)) (pe_ix ix_seq (pv 4) pe_int (fun _ _ => rfl))) (pe_op op_mulW (pe_ix ix_seq (pv 3) pe_int (fun _ _ => rfl)) (pe_ix ix_seq (pv 4) pe_int (fun _ _ => rfl)))) ip_add))))) (pss_one (ps_ret (pv 1))))), fun ds d h => ?_⟩
  obtain ⟨p, hp, hl, rfl, rfl⟩ := h
  refine wp_set xe_i (wp_seq (wp_rng (n := p.length) (fun k L C => ∃ o2 o3 o4, L = [some (dt (.list (p.map frD))), some (it ((((p.getLastD (0, 0) :: p).zip p).take k).foldl (fun s x => s + crI x) 0)), o2, o3, o4] ∧ C = []) (xa_cons (xe_cb (xd_cons (xe_v 0 rfl) xd_nil) (vn_lenM (f := frD))) xa_nil) hl ⟨none, none, none, rfl, rfl⟩ ?_ ?_))
  · rintro k L C hk ⟨o2, o3, o4, rfl, rfl⟩
    have e2 : atI (p.map frD) (k : Int) = some (frD (cur2 p k)) := atI_nat' (by rw [List.getElem?_map, getD_at (d := ((0 : Int), (0 : Int))) hk]; rfl)
    have b1 := hp _ (prv2_mem hk)
    have b2 := hp (cur2 p k) (List.mem_of_getElem? (getD_at hk))
    refine wp_set (xe_ixL (xe_v 0 rfl) (xe_I0 (xe_v 2 rfl) xe_i) (atI_prev frD ((0 : Int), (0 : Int)) hk)) (wp_set (xe_ixL (xe_v 0 rfl) (xe_v 2 rfl) e2) ?_)
    refine wp_augI rfl (xe_I0 (xe_I (xe_ixT (xe_v 3 rfl) xe_i rfl) (xe_ixT (xe_v 4 rfl) xe_i rfl) (mul_ok b1.1 b2.2)) (xe_I (xe_ixT (xe_v 3 rfl) xe_i rfl) (xe_ixT (xe_v 4 rfl) xe_i rfl) (mul_ok b1.2 b2.1))) ⟨some (it (k : Nat)), some (dt (frD (prv2 p k))), some (dt (frD (cur2 p k))), ?_, rfl⟩
    have ez : ((p.getLastD (0, 0) :: p).zip p)[k]? = some (prv2 p k, cur2 p k) := (List.getElem?_zip_eq_some (z := (prv2 p k, cur2 p k))).2 ⟨getD_at (by simp; omega), getD_at hk⟩
    rw [take_more ez, List.foldl_append]; rfl
  · rintro L C ⟨o2, o3, o4, rfl, rfl⟩
    refine wp_ret (xe_v 1 rfl) ⟨?_, rfl⟩
    rw [List.take_of_length_le (by rw [List.length_zip, List.length_cons]; omega)]; rfl
theorem x_doubled_area {L : Sls} {C C' : Cs} {ta : TA} {p : List (Int × Int)} (h : Xd ta L C [.list (p.map frD)] C') (k : (∀ x ∈ p, Bi 1400 x.1 ∧ Bi 1400 x.2) ∧ p.length ≤ 1000000) : Xe (tCall (spF (pR R_doubled_area)) [] E0 ta) L C (it (dblM p)) C' := xe_call h ⟨p, k.1, k.2, rfl, rfl⟩
end
end Wk
end
section
set_option Elab.async false
set_option linter.all false
set_option maxRecDepth 100000
set_option exponentiation.threshold 3000
namespace Wk
open PySem PySem.Spec PyProof.Rows L2
open Evl (Ex ex_l ex_t sq_of st_of)
open My (T3 Sd cf fracM multStep multM scM scaledM crI dblM dblsM pieceM areaM sidesM ringSidesM sideM crossM beforeM isOnM besideM whereM borderM moveM placeM)
/-! ### shapes -/
def Shp (n : Nat) (d : PyData) : Prop := PyData.canLay0 d = true ∧ PyData.depth d ≤ n
theorem shp_all {n : Nat} : ∀ {ds : List PyData}, (∀ d ∈ ds, Shp n d) → PyData.canLayAll0 ds = true ∧ PyData.depthAll ds ≤ n
  | [], _ => ⟨rfl, Nat.zero_le _⟩
  | d :: ds, h => by
    have h1 := h d List.mem_cons_self
    have h2 := shp_all (ds := ds) fun x hx => h x (List.mem_cons_of_mem _ hx)
    refine ⟨?_, ?_⟩
    · show (PyData.canLay0 d && PyData.canLayAll0 ds) = true
      rw [h1.1, h2.1]; rfl
    · show max (PyData.depth d) (PyData.depthAll ds) ≤ n
      have := h1.2; have := h2.2
      omega
theorem shp_list {n : Nat} {ds : List PyData} (h : ∀ d ∈ ds, Shp n d) : Shp (n + 1) (.list ds) := by
  have := shp_all h
  exact ⟨this.1, by show PyData.depthAll ds + 1 ≤ n + 1; have := this.2; omega⟩
theorem shp_pl (t : T3) : Shp 2 (plD t) := ⟨rfl, Nat.le_of_ble_eq_true rfl⟩
theorem shp_pa (p : T3 × T3) : Shp 3 (paD p) := ⟨rfl, Nat.le_of_ble_eq_true rfl⟩
theorem Shp.ok {n : Nat} {d : PyData} (h : Shp n d) (k : n ≤ 64) : SeqAt.shaped d = true := by
  unfold SeqAt.shaped
  rw [h.1]
  have : PyData.depth d ≤ 64 := Nat.le_trans h.2 k
  simp [this]
theorem eqv_nil (ds : List PyData) : PyData.eqv (.list ds) (.list []) = decide (ds = []) := by
  cases ds with
  | nil => rfl
  | cons d ds => rfl
/-! ### rings whose sides can be told -/
def Rg (r : List (List T3)) : Prop := ∀ c ∈ r, ∀ t ∈ c, 0 < t.2.2 ∧ Bt 100 t
theorem Kr.rg {r : List (List T3)} (h : Kr r) : Rg r := fun c hc t ht => ⟨(h.pt c hc t ht).1, (h.pt c hc t ht).2.mono (by decide)⟩
theorem side_sz {a b : T3} (ha : 0 < a.2.2 ∧ Bt 100 a) (hb : 0 < b.2.2 ∧ Bt 100 b) : Sz (sideM a b) := by
  unfold sideM
  split
  · exact ⟨⟨hb.2, ha.2, cross_bt hb.2 ha.2⟩, rfl, hb.1, ha.1⟩
  · exact ⟨⟨ha.2, hb.2, cross_bt ha.2 hb.2⟩, rfl, ha.1, hb.1⟩
theorem sides_sz {r : List (List T3)} (h : Rg r) : ∀ s ∈ sidesM r, Sz s := by
  intro s hs
  obtain ⟨c, hc, hs⟩ := List.mem_flatMap.1 hs
  obtain ⟨x, hx, rfl⟩ := List.mem_map.1 hs
  have hm := List.of_mem_zip hx
  have hcn : c ≠ [] := by rintro rfl; simp at hm
  have h1 : x.1 ∈ c := by
    rcases List.mem_cons.1 hm.1 with q | q
    · rw [q]; exact getLastD_mem c _ hcn
    · exact q
  exact side_sz (h c hc _ h1) (h c hc _ hm.2)
theorem sides_len (r : List (List T3)) : (sidesM r).length = r.flatten.length := by
  unfold sidesM
  induction r with
  | nil => rfl
  | cons c r ih => rw [List.flatMap_cons, List.length_append, ih, ringSides_len, List.flatten_cons, List.length_append]
theorem Rg.bt {r : List (List T3)} (h : Rg r) : ∀ c ∈ r, ∀ t ∈ c, Bt 2000 t := fun c hc t ht => (h c hc t ht).2.mono (by decide)
section
variable {P : Program} {w : World} {K : PySem.W.Frag} {mg : Str → Option Value} {base : Heap} (T : Tx K mg)
/-! ### areas -/
def R_doubled_areas : List PyData → PyData → Prop := fun ds d => ∃ (r : List (List T3)) (s : Int), Kr r ∧ Bi 1281 s ∧ ds = [rsD r, .int s] ∧ d = inD (dblsM r s)
theorem sc_doubled_areas : FnScope ["rings", "scale", "ring"] ["rings", "scale"] (defScope (topS 43)) := ⟨rfl, rfl, rfl, by decide +kernel, rfl, by decide +kernel, by decide +kernel⟩
include T in
theorem ok_doubled_areas : Ok P w K mg base 2 "doubled_areas" ["rings", "scale"] (spF (pR R_doubled_areas)) := by
  have nd := sc_doubled_areas.nd
  have o_scaled := ok_scaled (P := P) (w := w) (base := base) T
  have o_doubled_area := ok_doubled_area (P := P) (w := w) (base := base) T
  refine T.d_doubled_areas.okP sc_doubled_areas (fun ds d h => by obtain ⟨_, _, _, _, rfl, _⟩ := h; rfl) fun f cdv A outer s H E hr => ⟨_, (pss_one (ps_ret (pe_lc rfl nd (own := [("ring", 2)]) (pi_list (pv 0)) (blkOk_by (N := ["rings", "scale", "ring"]) (sc := defScope (topS 43)) (by decide +kernel)) (fun _ _ _ _ _ => pg_name (i := 2) nd rfl (Or.inl rfl)) (fun _ _ _ _ _ => pts_nil) (fun _ _ _ _ _ => (pe_own o_doubled_area hr rfl (pa_cons (pe_own o_scaled hr rfl (pa_cons (pv 2) (pa_cons (pv 1) pa_nil))) pa_nil)))))), fun ds d h => ?_⟩
  obtain ⟨r, s, hk, hs, rfl, rfl⟩ := h
  have e : inD (dblsM r s) = .list (r.map fun c => .int (dblM (scaledM c s))) := by unfold inD dblsM; rw [List.map_map]; rfl
  rw [e]
  refine wp_ret (xe_lcM (f := rgD) (xs := r) (fun c => .int (dblM (scaledM c s))) (xe_v 0 rfl) (by have := hk.m; omega) fun c hc => ?_) ⟨rfl, rfl⟩
  have hcl : c.length ≤ 16 := by
    have h1 := hk.n
    obtain ⟨i, hi, ei⟩ := List.mem_iff_getElem.1 hc
    have h2 := flat_len (id : List T3 → List T3) (List.getElem?_eq_some_iff.2 ⟨hi, ei⟩) c.length
    have e : r.flatMap id = r.flatten := by simp [List.flatMap]
    rw [e, List.length_append, List.length_take] at h2
    have e3 : (id c : List T3).length = c.length := rfl
    omega
  exact x_doubled_area (xd_cons (x_scaled (xd_cons (xe_v 2 rfl) (xd_cons (xe_v 1 rfl) xd_nil)) ⟨hk.pt c hc, hs, by omega⟩) xd_nil) ⟨scaled_bi (hk.pt c hc) hs, by unfold scaledM; rw [List.length_map]; omega⟩
theorem x_doubled_areas {L : Sls} {C C' : Cs} {ta : TA} {r : List (List T3)} {s : Int} (h : Xd ta L C [rsD r, .int s] C') (k : Kr r ∧ Bi 1281 s) : Xe (tCall (spF (pR R_doubled_areas)) [] E0 ta) L C (dt (inD (dblsM r s))) C' := xe_call h ⟨r, s, k.1, k.2, rfl, rfl⟩
def R_piece_count : List PyData → PyData → Prop := fun ds d => ∃ r : List (List T3), Kr r ∧ ds = [rsD r] ∧ d = .int (pieceM r)
theorem sc_piece_count : FnScope ["rings", "areas", "area"] ["rings"] (defScope (topS 41)) := ⟨rfl, rfl, rfl, by decide +kernel, rfl, by decide +kernel, by decide +kernel⟩
include T in
theorem ok_piece_count : Ok P w K mg base 3 "piece_count" ["rings"] (spF (pR R_piece_count)) := by
  have nd := sc_piece_count.nd
  have o_common_multiple := ok_common_multiple (P := P) (w := w) (base := base) T
  have o_doubled_areas := ok_doubled_areas (P := P) (w := w) (base := base) T
  refine T.d_piece_count.okP sc_piece_count (fun ds d h => by obtain ⟨_, _, rfl, _⟩ := h; rfl) fun f cdv A outer s H E hr => ⟨_, (pss_cons (ps_set (i := 1) nd rfl (Or.inl rfl) (pe_own o_doubled_areas hr rfl (pa_cons (pv 0) (pa_cons (pe_own o_common_multiple hr rfl (pa_cons (pv 0) pa_nil)) pa_nil)))) (pss_one (ps_ret (pe_callB call_len_seq (by rfl) T.m_len PySem.boot_len (pa_cons (pe_lc rfl nd (own := [("area", 2)]) (pi_list (pv 1)) (blkOk_by (N := ["rings", "areas", "area"]) (sc := defScope (topS 41)) (by decide +kernel)) (fun _ _ _ _ _ => pg_name (i := 2) nd rfl (Or.inl rfl)) (fun _ _ _ _ _ => pts_one (pt_cmpR op_gt (pv 2) pe_int (nomark _))) (fun _ _ _ _ _ => (pv 2))) pa_nil))))), fun ds d h => ?_⟩
  obtain ⟨r, hk, rfl, rfl⟩ := h
  refine wp_set (x_doubled_areas (xd_cons (xe_v 0 rfl) (xd_cons (x_common_multiple (xd_cons (xe_v 0 rfl) xd_nil) hk) xd_nil)) ⟨hk, hk.scale.2⟩) ?_
  refine wp_ret (xe_cb (xa_cons (xe_lcFM (f := PyData.int) (xs := dblsM r (multM r)) (fun a => decide (a > 0)) PyData.int (xe_v 1 rfl) (by unfold dblsM; rw [List.length_map]; have := hk.m; omega) (fun a _ => xt_test (xe_C0 (xe_v 2 rfl) xe_i)) fun a _ _ => xe_v 2 rfl) xa_nil) (vn_lenM (f := PyData.int))) ⟨rfl, rfl⟩
theorem x_piece_count {L : Sls} {C C' : Cs} {ta : TA} {r : List (List T3)} (h : Xd ta L C [rsD r] C') (k : Kr r) : Xe (tCall (spF (pR R_piece_count)) [] E0 ta) L C (it (pieceM r)) C' := xe_call h ⟨r, k, rfl, rfl⟩
def R_area_of : List PyData → PyData → Prop := fun ds d => ∃ r : List (List T3), Kr r ∧ ds = [rsD r] ∧ d = frD (areaM r)
theorem sc_area_of : FnScope ["rings", "scale"] ["rings"] (defScope (topS 42)) := ⟨rfl, rfl, rfl, by decide +kernel, rfl, by decide +kernel, by decide +kernel⟩
include T in
theorem ok_area_of : Ok P w K mg base 3 "area_of" ["rings"] (spF (pR R_area_of)) := by
  have nd := sc_area_of.nd
  have o_common_multiple := ok_common_multiple (P := P) (w := w) (base := base) T
  have o_doubled_areas := ok_doubled_areas (P := P) (w := w) (base := base) T
  have o_fraction := ok_fraction (P := P) (w := w) (base := base) T
  refine T.d_area_of.okP sc_area_of (fun ds d h => by obtain ⟨_, _, rfl, _⟩ := h; rfl) fun f cdv A outer s H E hr => ⟨_, (pss_cons (ps_set (i := 1) nd rfl (Or.inl rfl) (pe_own o_common_multiple hr rfl (pa_cons (pv 0) pa_nil))) (pss_one (ps_ret (pe_own o_fraction hr rfl (pa_cons (pe_callB (cr_sum rfl) (by rfl) T.m_sum boot_sum (pa_cons (pe_own o_doubled_areas hr rfl (pa_cons (pv 0) (pa_cons (pv 1) pa_nil))) pa_nil)) (pa_cons (pe_op op_mulW (pe_op op_mulW pe_int (pv 1)) (pv 1)) pa_nil)))))), fun ds d h => ?_⟩
  obtain ⟨r, hk, rfl, rfl⟩ := h
  have hs := hk.scale
  have two : Bi 2 2 := by decide
  refine wp_set (x_common_multiple (xd_cons (xe_v 0 rfl) xd_nil) hk) ?_
  refine wp_ret (x_fraction (xd_cons (xe_cb (xa_cons (x_doubled_areas (xd_cons (xe_v 0 rfl) (xd_cons (xe_v 1 rfl) xd_nil)) ⟨hk, hs.2⟩) xa_nil) (vn_sum (ns := dblsM r (multM r)))) (xd_cons (xe_I (xe_I xe_i (xe_v 1 rfl) (mul_ok two hs.2)) (xe_v 1 rfl) (mul_ok (two.mul hs.2) hs.2)) xd_nil)) ⟨?_, ?_⟩) ⟨rfl, rfl⟩
  · have := Int.mul_pos (Int.mul_pos (by decide : (0 : Int) < 2) hs.1) hs.1
    exact Int.ne_of_gt this
  · exact ((two.mul hs.2).mul hs.2).mono (by decide)
theorem x_area_of {L : Sls} {C C' : Cs} {ta : TA} {r : List (List T3)} (h : Xd ta L C [rsD r] C') (k : Kr r) : Xe (tCall (spF (pR R_area_of)) [] E0 ta) L C (dt (frD (areaM r))) C' := xe_call h ⟨r, k, rfl, rfl⟩
/-! ### whereabouts, is_within, are_apart -/
def R_whereabouts : List PyData → PyData → Prop := fun ds d => ∃ (r : List (List T3)) (t : T3), Rg r ∧ r.flatten.length ≤ 100000 ∧ Bt 2000 t ∧ ds = [rsD r, plD t] ∧ d = .int (whereM r t)
theorem sc_whereabouts : FnScope ["rings", "spot", "sides", "side"] ["rings", "spot"] (defScope (topS 45)) := ⟨rfl, rfl, rfl, by decide +kernel, rfl, by decide +kernel, by decide +kernel⟩
include T in
theorem ok_whereabouts : Ok P w K mg base 5 "whereabouts" ["rings", "spot"] (spF (pR R_whereabouts)) := by
  have nd := sc_whereabouts.nd
  have o_sides_of := ok_sides_of (P := P) (w := w) (base := base) T
  have o_is_on := (ok_is_on (P := P) (w := w) (base := base) T).up (k := 4) (by decide)
  have o_beside := (ok_beside (P := P) (w := w) (base := base) T).up (k := 4) (by decide)
  refine T.d_whereabouts.okP sc_whereabouts (fun ds d h => by obtain ⟨_, _, _, _, _, rfl, _⟩ := h; rfl) fun f cdv A outer s H E hr => ⟨_, (pss_cons (ps_set (i := 2) nd rfl (Or.inl rfl) (pe_own o_sides_of hr rfl (pa_cons (pv 0) pa_nil))) (pss_cons (ps_if (pt_val (pe_callB (cr_any rfl) (by rfl) T.m_any boot_any (pa_cons (pe_lc rfl nd (own := [("side", 3)]) (pi_list (pv 2)) (blkOk_by (N := ["rings", "spot", "sides", "side"]) (sc := defScope (topS 45)) (by decide +kernel)) (fun _ _ _ _ _ => pg_name (i := 3) nd rfl (Or.inl rfl)) (fun _ _ _ _ _ => pts_nil) (fun _ _ _ _ _ => (pe_own o_is_on hr rfl (pa_cons (pv 3) (pa_cons (pv 1) pa_nil))))) pa_nil))) (pss_one (ps_ret (pe_ct T.c_ON_A_SIDE rfl))) pss_nil) (pss_cons (ps_if (pt_val (pe_ix ix_seq (pe_own o_beside hr rfl (pa_cons (pv 1) (pa_cons (pv 2) pa_nil))) pe_int (fun _ _ => rfl))) (pss_one (ps_ret (pe_ct T.c_INSIDE rfl))) pss_nil) (pss_one (ps_ret (pe_ct T.c_ELSEWHERE rfl)))))), fun ds d h => ?_⟩
  obtain ⟨r, t, hk, hn, bt, rfl, rfl⟩ := h
  have hl : (sidesM r).length ≤ 100000 := by rw [sides_len]; exact hn
  have hb : ∀ s ∈ sidesM r, Bs s := fun s hs => (sides_sz hk s hs).b.bs
  refine wp_set (x_sides_of (xd_cons (xe_v 0 rfl) xd_nil) ⟨hk.bt, hl⟩) ?_
  have ea : ((sidesM r).map fun s => isOnM s t).any id = (sidesM r).any fun s => isOnM s t := by rw [List.any_map]; rfl
  have em : (sidesM r).map (fun s => PyData.bool (isOnM s t)) = ((sidesM r).map fun s => isOnM s t).map PyData.bool := by rw [List.map_map]; rfl
  refine wp_when (xt_B (xe_cb (xa_cons (by
      have h1 := xe_lcM (K := K) (j := 3) (f := sdD) (xs := sidesM r) (L := [some (dt (rsD r)), some (dt (plD t)), some (dt (.list ((sidesM r).map sdD))), none]) (C := []) (fun s => PyData.bool (isOnM s t)) (xe_v 2 rfl) (by omega) (fun s hs => x_is_on (xd_cons (xe_v 3 rfl) (xd_cons (xe_v 1 rfl) xd_nil)) ⟨hb s hs, bt⟩)
      rw [em] at h1
      exact h1) xa_nil) (vn_any (ns := (sidesM r).map fun s => isOnM s t)))) (fun h => ?_) fun h => ?_
  · rw [ea] at h
    refine wp_ret xe_i ⟨?_, rfl⟩
    unfold whereM
    rw [if_pos h]
  · rw [ea] at h
    refine wp_when (xt_B (xe_ixT (d := .bool (besideM t (sidesM r)).1) (x_beside (xd_cons (xe_v 1 rfl) (xd_cons (xe_v 2 rfl) xd_nil)) ⟨bt, hb⟩) xe_i rfl)) (fun h2 => ?_) fun h2 => ?_
    · refine wp_ret xe_i ⟨?_, rfl⟩
      unfold whereM
      rw [if_neg (by rw [h]; decide), if_pos h2]
    · refine wp_ret xe_i ⟨?_, rfl⟩
      unfold whereM
      rw [if_neg (by rw [h]; decide), if_neg (by rw [h2]; decide)]
theorem x_whereabouts {L : Sls} {C C' : Cs} {ta : TA} {r : List (List T3)} {t : T3} (h : Xd ta L C [rsD r, plD t] C') (k : Rg r ∧ r.flatten.length ≤ 100000 ∧ Bt 2000 t) : Xe (tCall (spF (pR R_whereabouts)) [] E0 ta) L C (it (whereM r t)) C' := xe_call h ⟨r, t, k.1, k.2.1, k.2.2, rfl, rfl⟩
def R_none (k : Int) : List PyData → PyData → Prop := fun ds d => ∃ a b : List (List T3), Rg a ∧ Rg b ∧ a.flatten.length + b.flatten.length ≤ 40 ∧ ds = [rsD a, rsD b] ∧ d = .bool (decide (borderM k (sidesM a) (sidesM b) = []))
theorem none_of {k : Int} {S1 S2 : List Sd} : PyData.eqv (.list ((borderM k S1 S2).map paD)) (.list []) = decide (borderM k S1 S2 = []) := by
  rw [eqv_nil]
  simp
theorem sc_is_within : FnScope ["one", "other"] ["one", "other"] (defScope (topS 46)) := ⟨rfl, rfl, rfl, by decide +kernel, rfl, by decide +kernel, by decide +kernel⟩
include T in
theorem ok_is_within : Ok P w K mg base 7 "is_within" ["one", "other"] (spF (pR (R_none 2))) := by
  have nd := sc_is_within.nd
  have o_sides_of := (ok_sides_of (P := P) (w := w) (base := base) T).up (k := 6) (by decide)
  have o_border := ok_border (P := P) (w := w) (base := base) T
  refine T.d_is_within.okP sc_is_within (fun ds d h => by obtain ⟨_, _, _, _, _, rfl, _⟩ := h; rfl) fun f cdv A outer s H E hr => ⟨_, (pss_one (ps_ret (pe_cmpR (op_eqD hr.units) (pe_own o_border hr rfl (pa_cons (pe_ct T.c_FIRST_ALONE rfl) (pa_cons (pe_own o_sides_of hr rfl (pa_cons (pv 0) pa_nil)) (pa_cons (pe_own o_sides_of hr rfl (pa_cons (pv 1) pa_nil)) pa_nil)))) (pe_lst pa_nil) (nomark _)))), fun ds d h => ?_⟩
  obtain ⟨a, b, ha, hb, hl, rfl, rfl⟩ := h
  rw [← none_of]
  exact wp_ret (xe_eqD (x_border (S1 := sidesM a) (S2 := sidesM b) (xd_cons xe_i (xd_cons (x_sides_of (xd_cons (xe_v 0 rfl) xd_nil) ⟨ha.bt, by rw [sides_len]; omega⟩) (xd_cons (x_sides_of (xd_cons (xe_v 1 rfl) xd_nil) ⟨hb.bt, by rw [sides_len]; omega⟩) xd_nil))) ⟨sides_sz ha, sides_sz hb, by rw [sides_len, sides_len]; exact hl⟩) (xe_lst xd_nil) ((shp_list fun d hd => by obtain ⟨p, _, rfl⟩ := List.mem_map.1 hd; exact shp_pa p).ok (by decide)) rfl) ⟨rfl, rfl⟩
theorem sc_are_apart : FnScope ["one", "other"] ["one", "other"] (defScope (topS 47)) := ⟨rfl, rfl, rfl, by decide +kernel, rfl, by decide +kernel, by decide +kernel⟩
include T in
theorem ok_are_apart : Ok P w K mg base 7 "are_apart" ["one", "other"] (spF (pR (R_none 1))) := by
  have nd := sc_are_apart.nd
  have o_sides_of := (ok_sides_of (P := P) (w := w) (base := base) T).up (k := 6) (by decide)
  have o_border := ok_border (P := P) (w := w) (base := base) T
  refine T.d_are_apart.okP sc_are_apart (fun ds d h => by obtain ⟨_, _, _, _, _, rfl, _⟩ := h; rfl) fun f cdv A outer s H E hr => ⟨_, (pss_one (ps_ret (pe_cmpR (op_eqD hr.units) (pe_own o_border hr rfl (pa_cons (pe_ct T.c_BOTH rfl) (pa_cons (pe_own o_sides_of hr rfl (pa_cons (pv 0) pa_nil)) (pa_cons (pe_own o_sides_of hr rfl (pa_cons (pv 1) pa_nil)) pa_nil)))) (pe_lst pa_nil) (nomark _)))), fun ds d h => ?_⟩
  obtain ⟨a, b, ha, hb, hl, rfl, rfl⟩ := h
  rw [← none_of]
  exact wp_ret (xe_eqD (x_border (S1 := sidesM a) (S2 := sidesM b) (xd_cons xe_i (xd_cons (x_sides_of (xd_cons (xe_v 0 rfl) xd_nil) ⟨ha.bt, by rw [sides_len]; omega⟩) (xd_cons (x_sides_of (xd_cons (xe_v 1 rfl) xd_nil) ⟨hb.bt, by rw [sides_len]; omega⟩) xd_nil))) ⟨sides_sz ha, sides_sz hb, by rw [sides_len, sides_len]; exact hl⟩) (xe_lst xd_nil) ((shp_list fun d hd => by obtain ⟨p, _, rfl⟩ := List.mem_map.1 hd; exact shp_pa p).ok (by decide)) rfl) ⟨rfl, rfl⟩
theorem x_none {k : Int} {L : Sls} {C C' : Cs} {ta : TA} {a b : List (List T3)} (h : Xd ta L C [rsD a, rsD b] C') (r : Rg a ∧ Rg b ∧ a.flatten.length + b.flatten.length ≤ 40) : Xe (tCall (spF (pR (R_none k))) [] E0 ta) L C (bo (decide (borderM k (sidesM a) (sidesM b) = []))) C' := xe_call h ⟨a, b, r.1, r.2.1, r.2.2, rfl, rfl⟩
end
end Wk
end
section
set_option Elab.async false
set_option linter.all false
set_option maxRecDepth 100000
set_option exponentiation.threshold 3000
namespace Wk
open PySem PySem.Spec PyProof.Rows L2
open Evl (Ex ex_l ex_t sq_of st_of)
open My (T3 Sd cf fracM sidesM moveM placeM)
section
variable {P : Program} {w : World} {K : PySem.W.Frag} {mg : Str → Option Value} {base : Heap} (T : Tx K mg)
/-! ### moved_ring -/
def R_moved_ring : List PyData → PyData → Prop := fun ds d => ∃ (r : List T3) (a b c e f g : Int), (∀ t ∈ r, t.2.2 ≠ 0 ∧ Bt 2000 t) ∧ (∀ z ∈ [a, b, c, e, f, g], Bi 2000 z) ∧ r.length ≤ 1000000 ∧ ds = [rgD r, inD [a, b, c, e, f, g]] ∧ d = rgD (r.map fun t => moveM t a b c e f g)
theorem sc_moved_ring : FnScope ["ring", "move", "spot"] ["ring", "move"] (defScope (topS 76)) := ⟨rfl, rfl, rfl, by decide +kernel, rfl, by decide +kernel, by decide +kernel⟩
include T in
theorem ok_moved_ring : Ok P w K mg base 4 "moved_ring" ["ring", "move"] (spF (pR R_moved_ring)) := by
  have nd := sc_moved_ring.nd
  have o_moved := ok_moved (P := P) (w := w) (base := base) T
  refine T.d_moved_ring.okP sc_moved_ring (fun ds d h => by obtain ⟨_, _, _, _, _, _, _, _, _, _, rfl, _⟩ := h; rfl) fun f cdv A outer s H E hr => ⟨_, (pss_one (ps_ret (pe_lc rfl nd (own := [("spot", 2)]) (pi_list (pv 0)) (blkOk_by (N := ["ring", "move", "spot"]) (sc := defScope (topS 76)) (by decide +kernel)) (fun _ _ _ _ _ => pg_name (i := 2) nd rfl (Or.inl rfl)) (fun _ _ _ _ _ => pts_nil) (fun _ _ _ _ _ => (pe_own o_moved hr rfl (pa_cons (pv 2) (pa_cons (pv 1) pa_nil))))))), fun ds d h => ?_⟩
  obtain ⟨r, a, b, c, e, f, g, hr, hm, hl, rfl, rfl⟩ := h
  have ed : rgD (r.map fun t => moveM t a b c e f g) = .list (r.map fun t => plD (moveM t a b c e f g)) := by unfold rgD; rw [List.map_map]; rfl
  rw [ed]
  exact wp_ret (xe_lcM (f := plD) (xs := r) (fun t => plD (moveM t a b c e f g)) (xe_v 0 rfl) hl fun t ht => x_moved (xd_cons (xe_v 2 rfl) (xd_cons (xe_v 1 rfl) xd_nil)) ⟨(hr t ht).1, (hr t ht).2, hm⟩) ⟨rfl, rfl⟩
theorem x_moved_ring {L : Sls} {C C' : Cs} {ta : TA} {r : List T3} {a b c e f g : Int} (h : Xd ta L C [rgD r, inD [a, b, c, e, f, g]] C') (k : (∀ t ∈ r, t.2.2 ≠ 0 ∧ Bt 2000 t) ∧ (∀ z ∈ [a, b, c, e, f, g], Bi 2000 z) ∧ r.length ≤ 1000000) : Xe (tCall (spF (pR R_moved_ring)) [] E0 ta) L C (dt (rgD (r.map fun t => moveM t a b c e f g))) C' := xe_call h ⟨r, a, b, c, e, f, g, k.1, k.2.1, k.2.2, rfl, rfl⟩
/-! ### is_point -/
def ptM (ns : List Int) : Bool := if ns.length ≠ 4 then false else tfM (ns.getD 0 0) (ns.getD 1 0) && tfM (ns.getD 2 0) (ns.getD 3 0)
def R_is_point : List PyData → PyData → Prop := fun ds d => ∃ ns : List Int, ds = [inD ns] ∧ d = .bool (ptM ns)
theorem atI_int {ns : List Int} {k : Nat} (h : k < ns.length) : atI (ns.map PyData.int) (k : Int) = some (.int (ns.getD k 0)) := atI_nat' (by rw [List.getElem?_map, getD_at (d := 0) h]; rfl)
theorem sc_is_point : FnScope ["numbers"] ["numbers"] (defScope (topS 85)) := ⟨rfl, rfl, rfl, by decide +kernel, rfl, by decide +kernel, by decide +kernel⟩
include T in
theorem ok_is_point : Ok P w K mg base 2 "is_point" ["numbers"] (spF (pR R_is_point)) := by
  have nd := sc_is_point.nd
  have o_is_told_fraction := ok_is_told_fraction (P := P) (w := w) (base := base) T
  refine T.d_is_point.okP sc_is_point (fun ds d h => by obtain ⟨_, rfl, _⟩ := h; rfl) fun f cdv A outer s H E hr => ⟨_, (pss_cons (ps_if (pt_cmpR op_ne (pe_callB call_len_seq (by rfl) T.m_len PySem.boot_len (pa_cons (pv 0) pa_nil)) (pe_ct T.c_POINT_NUMBERS rfl) (nomark _)) (pss_one (ps_ret pe_bl)) pss_nil) (pss_one (ps_ret (pe_and (pe_own o_is_told_fraction hr rfl (pa_cons (pe_ix ix_seq (pv 0) pe_int (fun _ _ => rfl)) (pa_cons (pe_ix ix_seq (pv 0) pe_int (fun _ _ => rfl)) pa_nil))) (pe_one (pe_own o_is_told_fraction hr rfl (pa_cons (pe_ix ix_seq (pv 0) pe_int (fun _ _ => rfl)) (pa_cons (pe_ix ix_seq (pv 0) pe_int (fun _ _ => rfl)) pa_nil)))))))), fun ds d h => ?_⟩
  obtain ⟨ns, rfl, rfl⟩ := h
  refine wp_when (xt_test (xe_ne (xe_cb (xa_cons (xe_v 0 rfl) xa_nil) (vn_lenM (f := PyData.int))) xe_i)) (fun h => ?_) fun h => ?_
  · have h' : ns.length ≠ 4 := by
      have : ¬ ((ns.length : Nat) : Int) = 4 := by simpa using h
      omega
    refine wp_ret xe_b ⟨?_, rfl⟩
    unfold ptM; rw [if_pos h']
  · have h' : ns.length = 4 := by
      have : ((ns.length : Nat) : Int) = 4 := by simpa using h
      omega
    refine wp_ret (xe_and (x_is_told_fraction (xd_cons (xe_ixL (xe_v 0 rfl) xe_i (atI_int (k := 0) (by omega))) (xd_cons (xe_ixL (xe_v 0 rfl) xe_i (atI_int (k := 1) (by omega))) xd_nil))) fun _ => x_is_told_fraction (xd_cons (xe_ixL (xe_v 0 rfl) xe_i (atI_int (k := 2) (by omega))) (xd_cons (xe_ixL (xe_v 0 rfl) xe_i (atI_int (k := 3) (by omega))) xd_nil))) ⟨?_, rfl⟩
    unfold ptM; rw [if_neg (by omega)]
theorem x_is_point {L : Sls} {C C' : Cs} {ta : TA} {ns : List Int} (h : Xd ta L C [inD ns] C') : Xe (tCall (spF (pR R_is_point)) [] E0 ta) L C (bo (ptM ns)) C' := xe_call h ⟨ns, rfl, rfl⟩
/-! ### whole_places -/
def wholeM (row : List Int) : List T3 := (List.range (row.length / 2)).map fun k => placeM (row.getD (2 * k) 0) (row.getD (2 * k + 1) 0) 1
def R_whole_places : List PyData → PyData → Prop := fun ds d => ∃ row : List Int, row.length % 2 = 0 ∧ row.length ≤ 1000000 ∧ ds = [inD row] ∧ d = rgD (wholeM row)
theorem sc_whole_places : FnScope ["row", "k"] ["row"] (defScope (topS 82)) := ⟨rfl, rfl, rfl, by decide +kernel, rfl, by decide +kernel, by decide +kernel⟩
include T in
theorem ok_whole_places : Ok P w K mg base 3 "whole_places" ["row"] (spF (pR R_whole_places)) := by
  have nd := sc_whole_places.nd
  have o_place := ok_place (P := P) (w := w) (base := base) T
  refine T.d_whole_places.okP sc_whole_places (fun ds d h => by obtain ⟨_, _, _, rfl, _⟩ := h; rfl) fun f cdv A outer s H E hr => ⟨_, (pss_one (ps_ret (pe_lc rfl nd (own := [("k", 1)]) (pi_range3 rfl T.m_range (pa_cons pe_int (pa_cons (pe_callB call_len_seq (by rfl) T.m_len PySem.boot_len (pa_cons (pv 0) pa_nil)) (pa_cons pe_int pa_nil)))) (blkOk_by (N := ["row", "k"]) (sc := defScope (topS 82)) (by decide +kernel)) (fun _ _ _ _ _ => pg_name (i := 1) nd rfl (Or.inl rfl)) (fun _ _ _ _ _ => pts_nil) (fun _ _ _ _ _ => (pe_own o_place hr rfl (pa_cons (pe_ix (ixK K rfl) (pv 0) (pv 1) (fun _ _ => rfl)) (pa_cons (pe_ix (ixK K rfl) (pv 0) (pe_op op_add (pv 1) pe_int) (fun _ _ => rfl)) (pa_cons pe_int pa_nil)))))))), fun ds d h => ?_⟩
  obtain ⟨row, h2, hl, rfl, rfl⟩ := h
  have ed : rgD (wholeM row) = .list ((List.range (row.length / 2)).map fun k => plD (placeM (row.getD (2 * k) 0) (row.getD (2 * k + 1) 0) 1)) := by unfold rgD wholeM; rw [List.map_map]; rfl
  rw [ed]
  have el : row.length = 2 * (row.length / 2) := by omega
  refine wp_ret (xe_lcR2 (n := row.length / 2) (fun k => plD (placeM (row.getD (2 * k) 0) (row.getD (2 * k + 1) 0) 1)) (by
      rw [← el]
      exact xa_cons xe_i (xa_cons (xe_cb (xa_cons (xe_v 0 rfl) xa_nil) (vn_lenM (f := PyData.int))) (xa_cons xe_i xa_nil))) (by omega) fun k hk => ?_) ⟨rfl, rfl⟩
  refine x_place (xd_cons (xe_ixL (xe_v 0 rfl) (xe_v 1 rfl) (atI_int (by omega))) (xd_cons (xe_ixL (xe_v 0 rfl) (xe_I0 (xe_v 1 rfl) xe_i) ?_) (xd_cons xe_i xd_nil))) ⟨by decide, by decide⟩
  have := atI_int (ns := row) (k := 2 * k + 1) (by omega)
  rw [show ((2 * k + 1 : Nat) : Int) = ((2 * k : Nat) : Int) + 1 by omega] at this
  exact this
theorem x_whole_places {L : Sls} {C C' : Cs} {ta : TA} {row : List Int} (h : Xd ta L C [inD row] C') (k : row.length % 2 = 0 ∧ row.length ≤ 1000000) : Xe (tCall (spF (pR R_whole_places)) [] E0 ta) L C (dt (rgD (wholeM row))) C' := xe_call h ⟨row, k.1, k.2, rfl, rfl⟩
/-! ### is_ring, are_rings -/
def isRingM (row : List Int) : Bool := if row.length % 2 ≠ 0 ∨ beyM row 100 = true then false else if (wholeM row).length < 3 ∨ (wholeM row).length > 10 then false else (List.range (wholeM row).length).all fun k => !decide (prv (wholeM row) k = cur (wholeM row) k)
def R_is_ring : List PyData → PyData → Prop := fun ds d => ∃ row : List Int, row.length ≤ 1000000 ∧ ds = [inD row] ∧ d = .bool (isRingM row)
theorem sc_is_ring : FnScope ["row", "spots", "k"] ["row"] (defScope (topS 84)) := ⟨rfl, rfl, rfl, by decide +kernel, rfl, by decide +kernel, by decide +kernel⟩
include T in
theorem ok_is_ring : Ok P w K mg base 4 "is_ring" ["row"] (spF (pR R_is_ring)) := by
  have nd := sc_is_ring.nd
  have o_is_beyond := (ok_is_beyond (P := P) (w := w) (base := base) T).up (k := 3) (by decide)
  have o_whole_places := ok_whole_places (P := P) (w := w) (base := base) T
  refine T.d_is_ring.okP sc_is_ring (fun ds d h => by obtain ⟨_, _, rfl, _⟩ := h; rfl) fun f cdv A outer s H E hr => ⟨_, (pss_cons (ps_if (PW.pt (pw_or (pt_cmpR op_ne (pe_op op_modN (pe_callB call_len_seq (by rfl) T.m_len PySem.boot_len (pa_cons (pv 0) pa_nil)) pe_int) pe_int (nomark _)) (pw_or1 (pt_val (pe_own o_is_beyond hr rfl (pa_cons (pv 0) (pa_cons (pe_ct T.c_MOST_HANDED_OVER rfl) pa_nil))))))) (pss_one (ps_ret pe_bl)) pss_nil) (pss_cons (ps_set (i := 1) nd rfl (Or.inr rfl) (pe_own o_whole_places hr rfl (pa_cons (pv 0) pa_nil))) (pss_cons (ps_if (PW.pt (pw_or (pt_cmpR op_lt (pe_callB call_len_seq (by rfl) T.m_len PySem.boot_len (pa_cons (pv 1) pa_nil)) (pe_ct T.c_FEWEST_RING_POINTS rfl) (nomark _)) (pw_or1 (pt_cmpR op_gt (pe_callB call_len_seq (by rfl) T.m_len PySem.boot_len (pa_cons (pv 1) pa_nil)) (pe_ct T.c_MOST_RING_POINTS rfl) (nomark _))))) (pss_one (ps_ret pe_bl)) pss_nil) (pss_one (ps_ret (pe_callB (cr_all rfl) (by rfl) T.m_all boot_all (pa_cons (pe_lc rfl nd (own := [("k", 2)]) (pi_range1 rfl T.m_range (pa_cons (pe_callB call_len_seq (by rfl) T.m_len PySem.boot_len (pa_cons (pv 1) pa_nil)) pa_nil)) (blkOk_by (N := ["row", "spots", "k"]) (sc := defScope (topS 84)) (by decide +kernel)) (fun _ _ _ _ _ => pg_name (i := 2) nd rfl (Or.inl rfl)) (fun _ _ _ _ _ => pts_nil) (fun _ _ _ _ _ => (pe_cmpR (neDK K rfl hr.units) (pe_ix (ixK K rfl) (pv 1) (pe_op op_sub (pv 2) pe_int) (fun _ _ => rfl)) (pe_ix (ixK K rfl) (pv 1) (pv 2) (fun _ _ => rfl)) (nomark _)))) pa_nil))))))), fun ds d h => ?_⟩
  obtain ⟨row, hl, rfl, rfl⟩ := h
  have em : ((row.length : Nat) : Int).fmod 2 = ((row.length % 2 : Nat) : Int) := by
    rw [Int.fmod_eq_emod_of_nonneg _ (by decide), Int.natCast_emod]; rfl
  refine wp_when (xt_or (xt_test (xe_ne (xe_I (xe_cb (xa_cons (xe_v 0 rfl) xa_nil) (vn_lenM (f := PyData.int))) xe_i (by decide)) xe_i)) fun _ => (xt_B (x_is_beyond (xd_cons (xe_v 0 rfl) (xd_cons xe_i xd_nil)) hl))) (fun h => ?_) fun h => ?_
  · rw [em] at h
    have h' : row.length % 2 ≠ 0 ∨ beyM row 100 = true := by
      rcases Bool.or_eq_true_iff.1 h with q | q
      · left
        have : ¬ ((row.length % 2 : Nat) : Int) = 0 := by simpa using q
        omega
      · exact .inr q
    refine wp_ret xe_b ⟨?_, rfl⟩
    unfold isRingM; rw [if_pos h']
  · rw [em] at h
    have hh := Bool.or_eq_false_iff.1 h
    have h0 : row.length % 2 = 0 := by
      have : ((row.length % 2 : Nat) : Int) = 0 := by simpa using hh.1
      omega
    have h' : ¬ (row.length % 2 ≠ 0 ∨ beyM row 100 = true) := by
      rintro (q | q)
      · exact q h0
      · have := hh.2; rw [q] at this; cases this
    refine wp_set (x_whole_places (xd_cons (xe_v 0 rfl) xd_nil) ⟨h0, hl⟩) ?_
    refine wp_when (xt_or (xt_test (xe_C0 (xe_cb (xa_cons (xe_v 1 rfl) xa_nil) (vn_lenM (f := plD))) xe_i)) fun _ => (xt_test (xe_C0 (xe_cb (xa_cons (xe_v 1 rfl) xa_nil) (vn_lenM (f := plD))) xe_i))) (fun k => ?_) fun k => ?_
    · have k' : (wholeM row).length < 3 ∨ (wholeM row).length > 10 := by
        rcases Bool.or_eq_true_iff.1 k with q | q
        · left
          have : ((wholeM row).length : Int) < 3 := by simpa using q
          omega
        · right
          have : ((wholeM row).length : Int) > 10 := by simpa using q
          omega
      refine wp_ret xe_b ⟨?_, rfl⟩
      unfold isRingM; rw [if_neg h', if_pos k']
    · have kk := Bool.or_eq_false_iff.1 k
      have k' : ¬ ((wholeM row).length < 3 ∨ (wholeM row).length > 10) := by
        rintro (q | q)
        · have : ¬ ((wholeM row).length : Int) < 3 := by simpa using kk.1
          omega
        · have : ¬ ((wholeM row).length : Int) > 10 := by simpa using kk.2
          omega
      have ea : ((List.range (wholeM row).length).map fun k => !decide (prv (wholeM row) k = cur (wholeM row) k)).all id = (List.range (wholeM row).length).all fun k => !decide (prv (wholeM row) k = cur (wholeM row) k) := by rw [List.all_map]; rfl
      refine wp_ret (xe_cb (xa_cons (s := dt (.list (((List.range (wholeM row).length).map fun k => !decide (prv (wholeM row) k = cur (wholeM row) k)).map PyData.bool))) (by
          rw [List.map_map]
          refine xe_lcR (n := (wholeM row).length) _ (xa_cons (xe_cb (xa_cons (xe_v 1 rfl) xa_nil) (vn_lenM (f := plD))) xa_nil) (by omega) fun i hi => ?_
          have := xe_neD (K := K) (xe_ixL (K := K) (xe_v (L := [some (dt (inD row)), some (dt (rgD (wholeM row))), some (it (i : Nat))]) (C := []) 1 rfl) (xe_I0 (g := fun i j => i - j) (xe_v 2 rfl) (xe_i (i := 1))) (atI_prev plD (0, 0, 0) hi)) (xe_ixL (K := K) (xe_v 1 rfl) (xe_v 2 rfl) (atI_cur hi)) (shaped_pl _) (shaped_pl _)
          rw [eqv_pl] at this
          exact this) xa_nil) (vn_all (ns := (List.range (wholeM row).length).map fun k => !decide (prv (wholeM row) k = cur (wholeM row) k)))) ⟨?_, rfl⟩
      rw [ea]
      unfold isRingM; rw [if_neg h', if_neg k']
theorem x_is_ring {L : Sls} {C C' : Cs} {ta : TA} {row : List Int} (h : Xd ta L C [inD row] C') (k : row.length ≤ 1000000) : Xe (tCall (spF (pR R_is_ring)) [] E0 ta) L C (bo (isRingM row)) C' := xe_call h ⟨row, k, rfl, rfl⟩
end
end Wk
end
section
set_option Elab.async false
set_option linter.all false
set_option maxRecDepth 100000
set_option exponentiation.threshold 10000
namespace Wk
open PySem PySem.Spec PyProof.Rows L2
open Evl (Ex ex_l ex_t sq_of st_of)
open My (T3 Sd cf fracM sidesM moveM placeM)
section
variable {P : Program} {w : World} {K : PySem.W.Frag} {mg : Str → Option Value} {base : Heap} (T : Tx K mg)
/-! ### are_rings -/
def insD (rows : List (List Int)) : PyData := .list (rows.map inD)
def areRingsM (rows : List (List Int)) : Bool := if rows.length > 4 then false else if (rows.map List.length).sum > 32 then false else rows.all isRingM
def R_are_rings : List PyData → PyData → Prop := fun ds d => ∃ rows : List (List Int), rows.length ≤ 1000000 ∧ (∀ r ∈ rows, r.length ≤ 1000000) ∧ ds = [insD rows] ∧ d = .bool (areRingsM rows)
theorem sc_are_rings : FnScope ["rows", "row"] ["rows"] (defScope (topS 83)) := ⟨rfl, rfl, rfl, by decide +kernel, rfl, by decide +kernel, by decide +kernel⟩
include T in
theorem ok_are_rings : Ok P w K mg base 5 "are_rings" ["rows"] (spF (pR R_are_rings)) := by
  have nd := sc_are_rings.nd
  have o_is_ring := ok_is_ring (P := P) (w := w) (base := base) T
  refine T.d_are_rings.okP sc_are_rings (fun ds d h => by obtain ⟨_, _, _, rfl, _⟩ := h; rfl) fun f cdv A outer s H E hr => ⟨_, (pss_cons (ps_if (pt_cmpR op_gt (pe_callB call_len_seq (by rfl) T.m_len PySem.boot_len (pa_cons (pv 0) pa_nil)) (pe_ct T.c_MOST_RINGS rfl) (nomark _)) (pss_one (ps_ret pe_bl)) pss_nil) (pss_cons (ps_if (pt_cmpR op_gt (pe_callB (cr_sum rfl) (by rfl) T.m_sum boot_sum (pa_cons (pe_lc rfl nd (own := [("row", 1)]) (pi_list (pv 0)) (blkOk_by (N := ["rows", "row"]) (sc := defScope (topS 83)) (by decide +kernel)) (fun _ _ _ _ _ => pg_name (i := 1) nd rfl (Or.inl rfl)) (fun _ _ _ _ _ => pts_nil) (fun _ _ _ _ _ => (pe_callB (lenK K rfl) (by rfl) T.m_len PySem.boot_len (pa_cons (pv 1) pa_nil)))) pa_nil)) (pe_op op_mulW pe_int (pe_ct T.c_MOST_POINTS rfl)) (nomark _)) (pss_one (ps_ret pe_bl)) pss_nil) (pss_one (ps_ret (pe_callB (cr_all rfl) (by rfl) T.m_all boot_all (pa_cons (pe_lc rfl nd (own := [("row", 1)]) (pi_list (pv 0)) (blkOk_by (N := ["rows", "row"]) (sc := defScope (topS 83)) (by decide +kernel)) (fun _ _ _ _ _ => pg_name (i := 1) nd rfl (Or.inl rfl)) (fun _ _ _ _ _ => pts_nil) (fun _ _ _ _ _ => (pe_own o_is_ring hr rfl (pa_cons (pv 1) pa_nil)))) pa_nil)))))), fun ds d h => ?_⟩
  obtain ⟨rows, hl, hr, rfl, rfl⟩ := h
  have two : CMulW 2 16 := mul_ok (show Bi 2 2 by decide) (show Bi 5 16 by decide)
  refine wp_when (xt_test (xe_C0 (xe_cb (xa_cons (xe_v 0 rfl) xa_nil) (vn_lenM (f := inD))) xe_i)) (fun h => ?_) fun h => ?_
  · have h' : rows.length > 4 := by
      have : ((rows.length : Nat) : Int) > 4 := by simpa using h
      omega
    refine wp_ret xe_b ⟨?_, rfl⟩
    unfold areRingsM; rw [if_pos h']
  · have h' : ¬ rows.length > 4 := by
      have : ¬ ((rows.length : Nat) : Int) > 4 := by simpa using h
      omega
    have e : rows.map (fun c => PyData.int (c.length : Nat)) = ((rows.map List.length).map fun n : Nat => (n : Int)).map PyData.int := by rw [List.map_map, List.map_map]; rfl
    refine wp_when (xt_test (xe_C0 (xe_cb (xa_cons (s := dt (.list (((rows.map List.length).map fun n : Nat => (n : Int)).map PyData.int))) (by
        rw [← e]
        exact xe_lcM (f := inD) (xs := rows) (fun c => PyData.int (c.length : Nat)) (xe_v 0 rfl) hl fun c _ => xe_cb (xa_cons (xe_v 1 rfl) xa_nil) (vn_lenM (f := PyData.int))) xa_nil) (vn_sum (ns := (rows.map List.length).map fun n : Nat => (n : Int)))) (xe_I xe_i xe_i two))) (fun k => ?_) fun k => ?_
    · rw [sum_cast] at k
      have k' : (rows.map List.length).sum > 32 := by
        have : (((rows.map List.length).sum : Nat) : Int) > 2 * 16 := by simpa using k
        omega
      refine wp_ret xe_b ⟨?_, rfl⟩
      unfold areRingsM; rw [if_neg h', if_pos k']
    · rw [sum_cast] at k
      have k' : ¬ (rows.map List.length).sum > 32 := by
        have : ¬ (((rows.map List.length).sum : Nat) : Int) > 2 * 16 := by simpa using k
        omega
      have ea : (rows.map isRingM).all id = rows.all isRingM := by rw [List.all_map]; rfl
      refine wp_ret (xe_cb (xa_cons (s := dt (.list ((rows.map isRingM).map PyData.bool))) (by
        rw [List.map_map]
        exact xe_lcM (f := inD) (xs := rows) (PyData.bool ∘ isRingM) (xe_v 0 rfl) hl fun c hc => x_is_ring (xd_cons (xe_v 1 rfl) xd_nil) (hr c hc)) xa_nil) (vn_all (ns := rows.map isRingM))) ⟨?_, rfl⟩
      rw [ea]
      unfold areRingsM; rw [if_neg h', if_neg k']
theorem x_are_rings {L : Sls} {C C' : Cs} {ta : TA} {rows : List (List Int)} (h : Xd ta L C [insD rows] C') (k : rows.length ≤ 1000000 ∧ ∀ r ∈ rows, r.length ≤ 1000000) : Xe (tCall (spF (pR R_are_rings)) [] E0 ta) L C (bo (areRingsM rows)) C' := xe_call h ⟨rows, k.1, k.2, rfl, rfl⟩
/-! ### is_too_large -/
def farM (t : T3) : Bool := beyM (toldM t) 1000000000000
def tooM (r : List (List T3)) : Bool := if (r.map List.length).sum > 16 then true else r.any fun c => c.any farM
def R_is_too_large : List PyData → PyData → Prop := fun ds d => ∃ r : List (List T3), (∀ c ∈ r, ∀ t ∈ c, t.2.2 ≠ 0 ∧ Bi 9000 t.2.2) ∧ r.length ≤ 1000000 ∧ ds = [rsD r] ∧ d = .bool (tooM r)
theorem sc_is_too_large : FnScope ["rings", "ring", "spot"] ["rings"] (defScope (topS 90)) := ⟨rfl, rfl, rfl, by decide +kernel, rfl, by decide +kernel, by decide +kernel⟩
include T in
theorem ok_is_too_large : Ok P w K mg base 4 "is_too_large" ["rings"] (spF (pR R_is_too_large)) := by
  have nd := sc_is_too_large.nd
  have o_side_count := (ok_side_count (P := P) (w := w) (base := base) T).up (k := 3) (by decide)
  have o_told_place := ok_told_place (P := P) (w := w) (base := base) T
  have o_is_beyond := (ok_is_beyond (P := P) (w := w) (base := base) T).up (k := 3) (by decide)
  refine T.d_is_too_large.okP sc_is_too_large (fun ds d h => by obtain ⟨_, _, _, rfl, _⟩ := h; rfl) fun f cdv A outer s H E hr => ⟨_, (pss_cons (ps_if (pt_cmpR op_gt (pe_own o_side_count hr rfl (pa_cons (pv 0) pa_nil)) (pe_ct T.c_MOST_SIDES rfl) (nomark _)) (pss_one (ps_ret pe_bl)) pss_nil) (pss_cons (ps_for PassesOwn.never rfl (pi_list (pv 0)) (pg_name (i := 1) nd rfl (Or.inl rfl)) (pss_one (ps_for PassesOwn.never rfl (pi_list (pv 1)) (pg_name (i := 2) nd rfl (Or.inl rfl)) (pss_one (ps_if (pt_val (pe_own o_is_beyond hr rfl (pa_cons (pe_own o_told_place hr rfl (pa_cons (pv 2) pa_nil)) (pa_cons (pe_ct T.c_MOST_IN_FRACTION rfl) pa_nil)))) (pss_one (ps_ret pe_bl)) pss_nil))))) (pss_one (ps_ret pe_bl)))), fun ds d h => ?_⟩
  obtain ⟨r, hk, hl, rfl, rfl⟩ := h
  refine wp_when (xt_test (xe_C0 (x_side_count (xd_cons (xe_v 0 rfl) xd_nil) hl) xe_i)) (fun h => ?_) fun h => ?_
  · have h' : (r.map List.length).sum > 16 := by
      have : (((r.map List.length).sum : Nat) : Int) > 16 := by simpa using h
      omega
    refine wp_ret xe_b ⟨?_, rfl⟩
    unfold tooM; rw [if_pos h']
  · have h' : ¬ (r.map List.length).sum > 16 := by
      have : ¬ (((r.map List.length).sum : Nat) : Int) > 16 := by simpa using h
      omega
    have et : tooM r = r.any fun c => c.any farM := by unfold tooM; rw [if_neg h']
    rw [et]
    refine wp_seq (wp_for (fun i L C => ∃ o1 o2, L = [some (dt (rsD r)), o1, o2] ∧ C = [] ∧ ∀ c ∈ r.take i, c.any farM = false) (xe_v 0 rfl) ⟨none, none, rfl, rfl, by simp⟩ ?_ ?_)
    · rintro i d L C hd ⟨o1, o2, rfl, rfl, hi⟩
      obtain ⟨c, hc, rfl⟩ := map_at hd
      have hcm := List.mem_of_getElem? hc
      refine wp_for (ds := c.map plD) (fun k L C => ∃ o2, L = [some (dt (rsD r)), some (dt (rgD c)), o2] ∧ C = [] ∧ ∀ t ∈ c.take k, farM t = false) (xe_v 1 rfl) ⟨o2, rfl, rfl, by simp⟩ ?_ ?_
      · rintro k d L C hd ⟨o2, rfl, rfl, hk2⟩
        obtain ⟨t, ht, rfl⟩ := map_at hd
        have htm := List.mem_of_getElem? ht
        refine wp_if (xt_B (x_is_beyond (xd_cons (x_told_place (xd_cons (xe_v 2 rfl) xd_nil) (hk c hcm t htm)) (xd_cons xe_i xd_nil)) (by show 4 ≤ 1000000; decide))) (fun q => ?_) fun q => ?_
        · refine wp_ret xe_b ⟨?_, rfl⟩
          have : (r.any fun c => c.any farM) = true := List.any_eq_true.2 ⟨c, hcm, List.any_eq_true.2 ⟨t, htm, q⟩⟩
          rw [this]
        · refine wp_next ⟨_, rfl, rfl, fun x hx => ?_⟩
          rw [take_more ht] at hx
          rcases List.mem_append.1 hx with z | z
          · exact hk2 x z
          · simp at z; rw [z]; exact q
      · rintro L C ⟨o2, rfl, rfl, hk2⟩
        refine ⟨_, _, rfl, rfl, fun x hx => ?_⟩
        rw [take_more hc] at hx
        rcases List.mem_append.1 hx with z | z
        · exact hi x z
        · simp at z
          rw [z]
          rw [List.length_map, List.take_length] at hk2
          exact List.any_eq_false.2 fun t ht => by rw [hk2 t ht]; decide
    · rintro L C ⟨o1, o2, rfl, rfl, hi⟩
      refine wp_ret xe_b ⟨?_, rfl⟩
      rw [List.length_map, List.take_length] at hi
      have : (r.any fun c => c.any farM) = false := List.any_eq_false.2 fun c hc => by rw [hi c hc]; decide
      rw [this]
theorem x_is_too_large {L : Sls} {C C' : Cs} {ta : TA} {r : List (List T3)} (h : Xd ta L C [rsD r] C') (k : (∀ c ∈ r, ∀ t ∈ c, t.2.2 ≠ 0 ∧ Bi 9000 t.2.2) ∧ r.length ≤ 1000000) : Xe (tCall (spF (pR R_is_too_large)) [] E0 ta) L C (bo (tooM r)) C' := xe_call h ⟨r, k.1, k.2, rfl, rfl⟩
end
end Wk
end
section
set_option Elab.async false
set_option linter.all false
set_option maxRecDepth 100000
set_option exponentiation.threshold 10000
namespace Wk
open PySem PySem.Spec PyProof.Rows L2
open Evl (Ex ex_l ex_t sq_of st_of)
open My (T3 Sd choicesM nextM wayM cornersM Cyc Inj)
/-! ### the dict of ways -/
theorem DAt.ex {P : Program} {w : World} {G G' : Hp} {a : Addr} {xs : List NEnt} (h : DAt P w G a xs) (e : Ex G G') : DAt P w G' a xs := ⟨e _ _ h.ob, fun x hx => (h.ks x hx).ex e⟩
def waysS (P : Program) (w : World) (b : List (T3 × T3)) : SP := ⟨fun G v => ∃ a xs, v = .ref a ∧ DAt P w G a xs ∧ ∀ t, t ∈ b.map Prod.fst → ∃ p q, atKey xs (plK t) = some p ∧ p.2 = Value.ref q ∧ Rp G (.ref q) (rgD (choicesM b t)), fun e h => by
  obtain ⟨a, xs, h1, h2, h3⟩ := h
  refine ⟨a, xs, h1, h2.ex e, fun t ht => ?_⟩
  obtain ⟨p, q, k1, k2, k3⟩ := h3 t ht
  exact ⟨p, q, k1, k2, k3.ex e⟩⟩
theorem xe_wget {X : Cx} {L : Sls} {C C1 C2 : Cs} {td ty : TE} {b : List (T3 × T3)} {t : T3} (hd : Xe td L C (waysS X.prog X.w b) C1) (hk : Xe ty L C1 (dt (plD t)) C2) (ht : t ∈ b.map Prod.fst) : Xe (tNGet X td ty) L C (dt (rgD (choicesM b t))) C2 := fun σ G H sl e c Q q => hd σ G H sl e c _ fun x G1 H1 t1 r1 => hk σ G1 H1 (sl.ex t1.up) t1.dn t1.cl _ fun y G2 H2 t2 r2 => by
  obtain ⟨a, xs, rfl, h2, h3⟩ := (waysS X.prog X.w b).mono t2.up r1
  obtain ⟨k, rfl, kb⟩ := pl_of r2
  obtain ⟨p, z, k1, k2, k3⟩ := h3 t ht
  exact ⟨a, k, plK t, xs, p, .ref z, rfl, rfl, h2.ex t2.dn, .inl ⟨t, rfl, kb.ex t2.dn⟩, k1, k2, q _ G2 H2 (t1.trans c t2) k3⟩
section
variable {P : Program} {w : World} {K : PySem.W.Frag} {mg : Str → Option Value} {base : Heap} (T : Tx K mg)
/-! ### ring_from -/
structure RF (b c ks : List (T3 × T3)) : Prop where
  inj : Inj (nextM b) b
  cyc : Cyc (nextM b) c
  sub : ∀ x ∈ c, x ∈ b
  dis : ∀ x ∈ c, x ∉ ks
  bt : ∀ x ∈ b, Bt 403 x.1 ∧ Bt 403 x.2
  len : ks.length + c.length < 1000000
def p0 : T3 × T3 := ((0, 0, 0), (0, 0, 0))
def R_ring_from (P : Program) (w : World) : List SP → Cs → SP → Cs → Prop := fun ss C s C' => ∃ (u : Addr) (b c ks : List (T3 × T3)), RF b c ks ∧ ss = [dt (paD (c.getD 0 p0)), waysS P w b, rf u] ∧ C = [(u, cS P w u ks)] ∧ s = dt (rgD (c.map Prod.fst)) ∧ C' = [(u, cS P w u (ks ++ c))]
theorem RF.next {b c ks : List (T3 × T3)} (h : RF b c ks) {i : Nat} (hi : i < c.length) : nextM b (c.getD i p0) = c.getD ((i + 1) % c.length) p0 ∧ (c.getD i p0).2 ∈ b.map Prod.fst ∧ choicesM b (c.getD i p0).2 ≠ [] ∧ (∀ t ∈ choicesM b (c.getD i p0).2, Bt 403 t) ∧ c.getD i p0 ∈ c := by
  have hm : c.getD i p0 ∈ c := List.mem_of_getElem? (getD_at hi)
  have hx := h.inj.it_mem (h.sub _ hm) 1
  have e1 : My.it (nextM b) 1 (c.getD i p0) = nextM b (c.getD i p0) := rfl
  rw [e1] at hx
  have hin : (c.getD i p0).2 ∈ b.map Prod.fst := List.mem_map.2 ⟨_, hx, rfl⟩
  refine ⟨?_, hin, fun z => ?_, fun t ht => (h.bt _ (My.mem_choices.1 ht)).2, hm⟩
  · have := My.cyc_next h.cyc hi
    have e2 : c.getD i p0 = c[i] := by rw [List.getD_eq_getElem?_getD, List.getElem?_eq_getElem hi]; rfl
    have hlt : (i + 1) % c.length < c.length := Nat.mod_lt _ (by omega)
    have e3 : c.getD ((i + 1) % c.length) p0 = c[(i + 1) % c.length] := by rw [List.getD_eq_getElem?_getD, List.getElem?_eq_getElem hlt]; rfl
    rw [e2, e3]; exact this
  · have : wayM (c.getD i p0) (choicesM b (c.getD i p0).2) ∈ choicesM b (c.getD i p0).2 := My.mem_choices.2 hx
    rw [z] at this
    simp at this
theorem sc_ring_from : FnScope ["part", "ways", "used", "ring"] ["part", "ways", "used"] (defScope (topS 29)) := ⟨rfl, rfl, rfl, by decide +kernel, rfl, by decide +kernel, by decide +kernel⟩
include T in
theorem ok_ring_from : Ok P w K mg base 5 "ring_from" ["part", "ways", "used"] (spF (R_ring_from P w)) := by
  have nd := sc_ring_from.nd
  have o_way_on := ok_way_on (P := P) (w := w) (base := base) T
  refine T.d_ring_from.okF sc_ring_from (fun ss C s C' h => by obtain ⟨_, _, _, _, _, rfl, _⟩ := h; rfl) fun f cdv A outer s H E hr => ⟨_, (pss_cons (ps_set (i := 3) nd rfl (Or.inl rfl) (pe_lst pa_nil)) (pss_cons (ps_while PassesOwn.never (pt_cmp (pc_nnotin (hu9 hr) (pv 0) (pv 2))) (pss_cons (ps_nput (hu9 hr) (pv 2) (pv 0) pe_bl rfl) (pss_cons (ps_expr (pe_bm PySem.F.plainAttrs_list PySem.F.slot_list_append PySem.F.type_list_append mt_append (pv 3) (pa_cons (pe_ix ix_seq (pv 0) pe_int (fun _ _ => rfl)) pa_nil))) (pss_one (ps_set (i := 0) nd rfl (Or.inl rfl) (pe_tup (pa_cons (pe_ix ix_seq (pv 0) pe_int (fun _ _ => rfl)) (pa_cons (pe_own o_way_on hr rfl (pa_cons (pv 0) (pa_cons (pe_nget (hu9 hr) (pv 1) (pe_ix ix_seq (pv 0) pe_int (fun _ _ => rfl)) (fun _ _ => rfl)) pa_nil))) pa_nil)))))))) (pss_one (ps_ret (pv 3))))), fun ss C z C' h => ?_⟩
  obtain ⟨u, b, c, ks, h, rfl, rfl, rfl, rfl⟩ := h
  have hc0 : 0 < c.length := List.length_pos_iff.2 h.cyc.ne
  refine wp_new fun p n n0 => wp_seq (wp_while (m0 := c.length) (fun m L C => ∃ i, i ≤ c.length ∧ m = c.length - i ∧ L = [some (dt (paD (c.getD (i % c.length) p0))), some (waysS P w b), some (rf u), some (rf p)] ∧ C = [(p, cL ((c.take i).map fun x => plD x.1)), (u, cS P w u (ks ++ c.take i))]) ⟨0, Nat.zero_le _, rfl, by rw [Nat.zero_mod]; rfl, by simp⟩ ?_)
  rintro m L C ⟨i, hi, rfl, rfl, rfl⟩
  refine ⟨_, _, xt_B (xe_nin (xe_v 0 rfl) (xe_v 2 rfl) (List.mem_cons_of_mem _ List.mem_cons_self)), fun q => ?_, fun q => ?_⟩
  · have q' : c.getD (i % c.length) p0 ∉ ks ++ c.take i := by simpa only [Bool.not_eq_true', decide_eq_false_iff_not] using q
    have hlt : i < c.length := by
      refine Nat.lt_of_le_of_ne hi fun e => q' ?_
      rw [e, Nat.mod_self, List.take_length]
      exact List.mem_append.2 (.inr (List.mem_of_getElem? (getD_at hc0)))
    rw [Nat.mod_eq_of_lt hlt] at q' ⊢
    obtain ⟨x1, x2, x3, x4, x5⟩ := h.next hlt
    have bx := h.bt _ (h.sub _ x5)
    have ek : addK (ks ++ c.take i) (c.getD i p0) = ks ++ c.take (i + 1) := by
      unfold addK
      rw [if_neg q', take_more (getD_at (d := p0) hlt), List.append_assoc]
    refine wp_seq (wp_dput (k := c.getD i p0) [_] [] xe_b rfl (xe_v 0 rfl) rfl (by rw [List.length_append, List.length_take]; have := h.len; omega) ?_)
    rw [ek]
    refine wp_seq (wp_push [] [_] rfl List.mem_cons_self (d := plD (c.getD i p0).1) (xe_ixT (xe_v 0 rfl) xe_i rfl) (by rw [List.length_map, List.length_take]; have := h.len; omega) ?_)
    refine wp_asg (xe_tup (ds := [plD (c.getD i p0).2, plD (wayM (c.getD i p0) (choicesM b (c.getD i p0).2))]) (xd_cons (xe_ixT (xe_v 0 rfl) xe_i rfl) (xd_cons (x_way_on (xd_cons (xe_v 0 rfl) (xd_cons (xe_wget (t := (c.getD i p0).2) (xe_v 1 rfl) (xe_ixT (xe_v 0 rfl) xe_i rfl) x2) xd_nil)) ⟨bx.1, bx.2, x3, x4⟩) xd_nil))) ⟨c.length - (i + 1), by omega, i + 1, hlt, rfl, ?_, ?_⟩
    · have e : c.getD ((i + 1) % c.length) p0 = ((c.getD i p0).2, wayM (c.getD i p0) (choicesM b (c.getD i p0).2)) := by rw [← x1]; rfl
      rw [e]; rfl
    · rw [take_more (getD_at (d := p0) hlt), List.map_append]; rfl
  · have q' : c.getD (i % c.length) p0 ∈ ks ++ c.take i := by simpa only [Bool.not_eq_false', decide_eq_true_eq] using q
    have hi' : i = c.length := by
      refine Nat.le_antisymm hi (Nat.le_of_not_lt fun hlt => ?_)
      rw [Nat.mod_eq_of_lt hlt] at q'
      obtain ⟨x1, x2, x3, x4, x5⟩ := h.next hlt
      rcases List.mem_append.1 q' with z | z
      · exact h.dis _ x5 z
      · obtain ⟨j, hj, ej⟩ := List.mem_iff_getElem.1 z
        rw [List.length_take] at hj
        rw [List.getElem_take] at ej
        have e2 : c.getD i p0 = c[i] := by rw [List.getD_eq_getElem?_getD, List.getElem?_eq_getElem hlt]; rfl
        rw [e2] at ej
        exact List.pairwise_iff_getElem.1 h.cyc.nd j i (by omega) hlt (by omega) ej
    subst hi'
    rw [List.take_length]
    refine wp_retOwn [] [_] rfl rfl n0 ⟨?_, rfl⟩
    unfold rgD
    rw [List.map_map]; rfl
theorem x_ring_from {P : Program} {w : World} {L : Sls} {C C1 C2 Cb : Cs} {ta : TA} {u : Addr} {b c ks : List (T3 × T3)} (h : Xa ta L C [dt (paD (c.getD 0 p0)), waysS P w b, rf u] C1) (p1 : C1.Perm ((u, cS P w u ks) :: Cb)) (p2 : ((u, cS P w u (ks ++ c)) :: Cb).Perm C2) (k : RF b c ks) : Xe (tCall (spF (R_ring_from P w)) [] E0 ta) L C (dt (rgD (c.map Prod.fst))) C2 :=
  xe_callP (Ca := [_]) (Ca' := [_]) h p1 p2 ⟨u, b, c, ks, k, rfl, rfl, rfl, rfl⟩
end
end Wk
end
section
set_option Elab.async false
set_option linter.all false
set_option maxRecDepth 100000
set_option exponentiation.threshold 10000
namespace Wk
open PySem PySem.Spec PyProof.Rows L2
open Evl (Ex ex_l ex_t sq_of st_of)
open My (T3 Sd choicesM nextM wayM cornersM Cyc Inj)
/-! ### a dict of lists by places -/
def cW (P : Program) (w : World) (a : Addr) (ks : List T3) (ps : List Addr) : CP := ⟨fun G o => ∃ xs : List NEnt, o = DN P w a xs ∧ xs.map (·.1) = ks.map plK ∧ xs.map (fun x => x.2.2) = ps.map Value.ref ∧ ∀ x ∈ xs, KeyAt G x.1 x.2.1, fun e h => by
  obtain ⟨xs, h1, h2, h3, h4⟩ := h
  exact ⟨xs, h1, h2, h3, fun x hx => (h4 x hx).ex e⟩⟩
theorem plK_nodup {ks : List T3} (h : ks.Nodup) : (ks.map plK).Nodup := by
  unfold List.Nodup at *
  rw [List.pairwise_map]
  exact h.imp fun {a b} n e => n (plK_inj e)
theorem ent_at {xs : List NEnt} {ks : List T3} {ps : List Addr} (h1 : xs.map (·.1) = ks.map plK) (h2 : xs.map (fun x => x.2.2) = ps.map Value.ref) {k : Nat} {t : T3} {p : Addr} (hk : ks[k]? = some t) (hp : ps[k]? = some p) : ∃ b, xs[k]? = some (plK t, b, Value.ref p) := by
  have e1 : (xs.map (·.1))[k]? = some (plK t) := by rw [h1, List.getElem?_map, hk]; rfl
  have e2 : (xs.map (fun x => x.2.2))[k]? = some (Value.ref p) := by rw [h2, List.getElem?_map, hp]; rfl
  rw [List.getElem?_map] at e1 e2
  cases q : xs[k]? with
  | none => rw [q] at e1; simp at e1
  | some x =>
    rw [q] at e1 e2
    obtain ⟨a, b, c⟩ := x
    simp at e1 e2
    subst e1; subst e2
    exact ⟨b, rfl⟩
theorem key_at {xs : List NEnt} {ks : List T3} {ps : List Addr} (nd : ks.Nodup) (h1 : xs.map (·.1) = ks.map plK) (h2 : xs.map (fun x => x.2.2) = ps.map Value.ref) {k : Nat} {t : T3} {p : Addr} (hk : ks[k]? = some t) (hp : ps[k]? = some p) : ∃ b, atKey xs (plK t) = some (b, Value.ref p) := by
  obtain ⟨b, hb⟩ := ent_at h1 h2 hk hp
  exact ⟨b, atKey_of_get (by rw [h1]; exact plK_nodup nd) hb⟩
theorem key_none {xs : List NEnt} {ks : List T3} (h1 : xs.map (·.1) = ks.map plK) {t : T3} (ht : t ∉ ks) : atKey xs (plK t) = none := by
  cases q : atKey xs (plK t) with
  | none => rfl
  | some p =>
    have := atKey_some (xs := xs) (k := plK t) |>.1 (by rw [q]; rfl)
    rw [h1] at this
    obtain ⟨u, hu, e⟩ := List.mem_map.1 this
    rw [plK_inj e] at hu
    exact absurd hu ht
theorem map_set {α β : Type} (f g : α → β) {l : List α} (nd : l.Nodup) {k : Nat} {x : α} (h : l[k]? = some x) (hg : ∀ y, y ≠ x → g y = f y) : l.map g = (l.map f).set k (g x) := by
  refine List.ext_getElem? fun j => ?_
  rw [List.getElem?_set, List.getElem?_map, List.getElem?_map, List.length_map]
  by_cases e : k = j
  · subst e
    rw [if_pos rfl, if_pos (List.getElem?_eq_some_iff.1 h).1, h]; rfl
  · rw [if_neg e]
    cases q : l[j]? with
    | none => rfl
    | some y =>
      have : y ≠ x := by
        rintro rfl
        obtain ⟨a1, a2⟩ := List.getElem?_eq_some_iff.1 h
        obtain ⟨b1, b2⟩ := List.getElem?_eq_some_iff.1 q
        rcases Nat.lt_or_gt_of_ne e with z | z
        · exact List.pairwise_iff_getElem.1 nd k j a1 b1 z (a2.trans b2.symm)
        · exact List.pairwise_iff_getElem.1 nd j k b1 a1 z (b2.trans a2.symm)
      show some (g y) = some (f y)
      rw [hg y this]
theorem split_at {α : Type} {l : List α} {k : Nat} {x : α} (h : l[k]? = some x) : l = l.take k ++ x :: l.drop (k + 1) ∧ ∀ y, l.set k y = l.take k ++ y :: l.drop (k + 1) := by
  obtain ⟨h1, h2⟩ := List.getElem?_eq_some_iff.1 h
  subst h2
  refine ⟨?_, fun y => ?_⟩
  · rw [List.getElem_cons_drop, List.take_append_drop]
  · rw [List.set_eq_take_append_cons_drop, if_pos h1]
section
variable {X : Cx} {L : Sls} {C0 : Cs} {ty te : TE} {N : Sls → Cs → Prop} {R : SP → Cs → Prop} {ks : List T3} {t v : T3} {ps : List Addr} {a : Addr} {f g : T3 → List PyData}
theorem wp_wput {i : Nat} (nd : ks.Nodup) (hl : ps.length = ks.length) (hi : L[i]? = some (some (rf a))) (hk : ∀ C, Xe ty L C (dt (plD t)) C) (he : ∀ C, Xe te L C (dt (plD v)) C) (sm : ks.length < 1000000) (smr : (f t).length < 1000000) (nC : ∀ p ∈ ps, ¬ In C0 p) (hg : ∀ u, u ≠ t → g u = f u) (hgt : g t = f t ++ [plD v]) (hf : t ∉ ks → f t = [])
    (k : ∀ ps' : List Addr, ps'.length = (addK ks t).length → (∀ p ∈ ps', ¬ In C0 p) → N L ((a, cW X.prog X.w a (addK ks t) ps') :: zc ps' ((addK ks t).map g))) :
    WP (tDrop (tBM X.K "list" rAppend (tNSetd X (tVar i) ty (tLst tNil)) (tCons te tNil))) C0 L ((a, cW X.prog X.w a ks ps) :: zc ps (ks.map f)) N R := fun G0 H0 σ G H D c0 tr sl hn hr => by
  obtain ⟨x, h1, h2⟩ := sl.at' i _ hi
  cases h2
  have dat : ∀ {G H : Hp} {C : Cs}, Ex G H → Cl ((a, cW X.prog X.w a ks ps) :: C) G H → ∃ xs, DAt X.prog X.w H a xs ∧ xs.map (·.1) = ks.map plK ∧ xs.map (fun x => x.2.2) = ps.map Value.ref ∧ (∀ x ∈ xs, KeyAt G x.1 x.2.1) := by
    intro G H C e c
    obtain ⟨o, k1, ⟨xs, rfl, d1, d2, d3⟩, k3⟩ := c.at' a _ List.mem_cons_self
    exact ⟨xs, ⟨k1, fun x hx => (d3 x hx).ex e⟩, d1, d2, d3⟩
  obtain ⟨xs0, D0, _⟩ := dat tr.dn tr.cl
  refine ⟨.ref a, h1, a, xs0, rfl, D0, hk _ σ G H sl tr.dn tr.cl _ fun y G1 H1 t1 r1 => ⟨Nat.zero_le _, fun z hz => ?_⟩⟩
  obtain ⟨b, rfl, kb⟩ := pl_of r1
  obtain ⟨xs, D1, d1, d2, d3⟩ := dat t1.dn t1.cl
  have hlen : xs.length = ks.length := by have := congrArg List.length d1; simpa using this
  have nz : ¬ In ((a, cW X.prog X.w a ks ps) :: zc ps (ks.map f)) z := t1.cl.not hz
  have za : z ≠ a := fun q => nz (in_cons.2 (.inl q))
  have D3 : DAt X.prog X.w (upd H1 z (.lst [])) a xs := D1.ex (Ex.new hz)
  have kb3 : KeyAt (upd H1 z (.lst [])) (plK t) b := .inl ⟨t, rfl, (kb.ex t1.dn).ex (Ex.new hz)⟩
  refine ⟨b, plK t, xs, rfl, D3, kb3, by rw [hlen]; exact Nat.lt_of_lt_of_le sm (by decide), ?_⟩
  by_cases ht : t ∈ ks
  · obtain ⟨j, hj, ej⟩ := List.mem_iff_getElem.1 ht
    have hkj : ks[j]? = some t := by rw [List.getElem?_eq_getElem hj, ej]
    have hpj : ps[j]? = some (ps[j]'(by omega)) := List.getElem?_eq_getElem (by omega)
    generalize ps[j]'(by omega) = p at hpj
    obtain ⟨b', hb'⟩ := key_at nd d1 d2 hkj hpj
    have ea : addK ks t = ks := if_pos ht
    refine ⟨fun q u hq ru => ?_, fun hq => ?_, fun q hq => ?_⟩
    · rw [hb'] at hq
      cases hq
      obtain rfl : u = V.ref p := by
        cases u with
        | ref z => cases ru; rfl
        | int _ => obtain ⟨_, q⟩ := ru; cases q
        | str _ => obtain ⟨_, q⟩ := ru; cases q
        | byt _ => obtain ⟨_, q⟩ := ru; cases q
        | flt _ => obtain ⟨_, q⟩ := ru; cases q
        | _ => cases ru
      have t2 := (tr.trans c0 t1).trans c0 (Tr.of t1.cl (Wn.put (o := .lst []) t1.dn hz))
      have hzc : (zc ps (ks.map f))[j]? = some (p, cL (f t)) := by
        unfold zc
        rw [List.getElem?_map, List.getElem?_zip_eq_some (z := (p, f t)) |>.2 ⟨hpj, by rw [List.getElem?_map, hkj]; rfl⟩]; rfl
      have hm : (p, cL (f t)) ∈ ((a, cW X.prog X.w a ks ps) :: zc ps (ks.map f)) := List.mem_cons_of_mem _ (List.mem_of_getElem? hzc)
      obtain ⟨o, k1, ⟨ys, rfl, hy⟩, k3⟩ := t2.cl.at' p _ hm
      refine ⟨.inl ⟨rfl, _, sq_of k1⟩, he _ σ _ _ ((sl.ex t1.up).ex (Ex.new (ex_none t1.dn hz))) t2.dn t2.cl _ fun u G4 H4 t4 r4 => ?_⟩
      obtain ⟨o, k1, ⟨ys, rfl, hy⟩, k3⟩ := t4.cl.at' p _ hm
      refine ⟨p, ys, u, rfl, rfl, k1, by rw [hy.len]; exact Nat.lt_of_lt_of_le smr (by decide), ?_⟩
      have tt := t2.trans c0 t4
      obtain ⟨sp1, sp2⟩ := split_at hzc
      have cl4 := t4.cl
      have e1 : ((a, cW X.prog X.w a ks ps) :: zc ps (ks.map f)) = ((a, cW X.prog X.w a ks ps) :: (zc ps (ks.map f)).take j) ++ (p, cL (f t)) :: (zc ps (ks.map f)).drop (j + 1) := by
        rw [List.cons_append, ← sp1]
      rw [e1] at cl4
      have t5 := Tr.put (y := cL (g t)) (o := .lst (ys ++ [u])) t4.dn cl4 ⟨ys ++ [u], rfl, by rw [hgt]; exact hy.push r4⟩
      rw [← e1, List.cons_append, ← sp2, ← zc_set hpj, ← map_set f g nd hkj hg] at t5
      have := k ps (by rw [ea]; exact hl) nC
      rw [ea] at this
      exact hn _ _ _ G4 _ this (tt.trans c0 t5) ((t1.up.trans (Ex.new (ex_none t1.dn hz))).trans t4.up) (((sl.ex t1.up).ex (Ex.new (ex_none t1.dn hz))).ex t4.up)
    · rw [hb'] at hq; cases hq
    · rw [hb'] at hq
      cases hq
      exact ⟨.ref p, rfl⟩
  · have kn := key_none d1 ht
    have ea : addK ks t = ks ++ [t] := if_neg ht
    refine ⟨fun q u hq ru => ?_, fun hq r hr' => ?_, fun q hq => ?_⟩
    · rw [kn] at hq; cases hq
    · cases hr'
      have t2 := (tr.trans c0 t1).trans c0 (Tr.open (x := cL []) (o := .lst []) t1.dn t1.cl hz ⟨[], rfl, .nil⟩)
      have t3 := t2.trans c0 (Tr.put (Ca := [(z, cL [])]) (Cb := zc ps (ks.map f)) (p := a) (y := cW X.prog X.w a (ks ++ [t]) (ps ++ [z])) (o := DN X.prog X.w a (storedH xs (plK t) b (Value.ref z))) t2.dn t2.cl ⟨_, rfl, by rw [storedH_new kn, List.map_append, d1, List.map_append]; rfl, by rw [storedH_new kn, List.map_append, d2, List.map_append]; rfl, storedH_keys d3 (.inl ⟨t, rfl, kb⟩)⟩)
      have hm : (z, cL []) ∈ ([(z, cL [])] ++ (a, cW X.prog X.w a (ks ++ [t]) (ps ++ [z])) :: zc ps (ks.map f)) := List.mem_cons_self
      obtain ⟨o, k1, ⟨ys, rfl, hy⟩, k3⟩ := t3.cl.at' z _ hm
      refine ⟨.inl ⟨rfl, _, sq_of k1⟩, he _ σ _ _ (sl.ex t1.up) t3.dn t3.cl _ fun u G4 H4 t4 r4 => ?_⟩
      obtain ⟨o, k1, ⟨ys, rfl, hy⟩, k3⟩ := t4.cl.at' z _ hm
      refine ⟨z, ys, u, rfl, rfl, k1, by rw [hy.len]; exact by decide, ?_⟩
      have cl4 := t4.cl
      have t5 := Tr.put (Ca := []) (Cb := (a, cW X.prog X.w a (ks ++ [t]) (ps ++ [z])) :: zc ps (ks.map f)) (p := z) (y := cL (g t)) (o := .lst (ys ++ [u])) t4.dn cl4 ⟨ys ++ [u], rfl, by rw [hgt, hf ht]; exact hy.push r4⟩
      have tt := (t3.trans c0 t4).trans c0 t5
      have em : (ks ++ [t]).map g = ks.map f ++ [g t] := by
        rw [List.map_append]
        congr 1
        exact List.map_congr_left fun u hu => hg u fun q => ht (q ▸ hu)
      have pz : ¬ In C0 z := fun q => nz (by have := (tr.trans c0 t1).kee z q; exact this)
      have := k (ps ++ [z]) (by rw [ea, List.length_append, List.length_append, hl]; rfl) (fun p hp => by
        rcases List.mem_append.1 hp with q | q
        · exact nC p q
        · simp at q; rw [q]; exact pz)
      rw [ea, em, zc_snoc (by rw [List.length_map]; exact hl)] at this
      refine hn _ _ _ G4 _ this (tt.perm (List.Perm.refl _) ?_) (t1.up.trans t4.up) ((sl.ex t1.up).ex t4.up)
      show ((z, cL (g t)) :: ((a, cW X.prog X.w a (ks ++ [t]) (ps ++ [z])) :: zc ps (ks.map f))).Perm ((a, cW X.prog X.w a (ks ++ [t]) (ps ++ [z])) :: (zc ps (ks.map f) ++ [(z, cL (g t))]))
      exact List.perm_append_comm (l₁ := [(z, cL (g t))]) (l₂ := (a, cW X.prog X.w a (ks ++ [t]) (ps ++ [z])) :: zc ps (ks.map f))
    · rw [kn] at hq; cases hq
theorem wp_wnew {i : Nat} {C : Cs} (q : ∀ p, ¬ In C p → ¬ In C0 p → N (L.set i (some (rf p))) ((p, cW X.prog X.w p [] []) :: C)) : WP (tAsg (tNNew X) (gName i)) C0 L C N R := fun G0 H0 σ G H D c0 tr sl hn hr => fun p hp => by
  have n := tr.cl.not hp
  exact hn _ _ _ G _ (q p n fun z => n (tr.kee p z)) (tr.trans c0 (Tr.open (x := cW X.prog X.w p [] []) tr.dn tr.cl hp ⟨[], rfl, rfl, rfl, fun x hx => absurd hx (by simp)⟩)) (Ex.refl _) (sl.set (x := rf p) rfl)
theorem still_all {C : Cs} {G0 H0 H : Hp} : ∀ (ps : List Addr) (rs : List (List PyData)) (G : Hp), ps.length = rs.length → (∀ p ∈ ps, ¬ In C0 p) → Tr C0 G0 H0 (C ++ zc ps rs) G H → ∃ G', Ex G G' ∧ Tr C0 G0 H0 C G' H ∧ RpAll G' (ps.map V.ref) (rs.map PyData.list) := by
  intro ps
  induction ps with
  | nil =>
    intro rs G hl n tr
    cases rs with
    | nil => exact ⟨G, Ex.refl _, by simpa [zc] using tr, .nil⟩
    | cons _ _ => cases hl
  | cons p ps ih =>
    intro rs G hl n tr
    cases rs with
    | nil => cases hl
    | cons r rs =>
      have tr' : Tr C0 G0 H0 (C ++ (p, cL r) :: zc ps rs) G H := tr
      obtain ⟨o, ⟨xs, rfl, hx⟩, k1, k2, t2⟩ := tr'.rest (n p List.mem_cons_self)
      have e := Ex.new (o := .lst xs) k1
      obtain ⟨G', e2, t3, r3⟩ := ih rs _ (by simpa using hl) (fun q hq => n q (List.mem_cons_of_mem _ hq)) t2
      exact ⟨G', e.trans e2, t3, .cons (.lst (e2 _ _ upd_same) (hx.ex (e.trans e2))) r3⟩
theorem wp_retWays {P : Program} {w : World} {i : Nat} {b : List (T3 × T3)} (nd : ks.Nodup) (hks : ∀ t, t ∈ b.map Prod.fst → t ∈ ks) (hl : ps.length = ks.length) (hi : L[i]? = some (some (rf a))) (na : ¬ In C0 a) (nC : ∀ p ∈ ps, ¬ In C0 p) (k : R (waysS P w b) []) : WP (tRet (tVar i)) C0 L ((a, cW P w a ks ps) :: zc ps (ks.map fun t => (choicesM b t).map plD)) N R := fun G0 H0 σ G H D c0 tr sl hn hr => by
  obtain ⟨x, h1, h2⟩ := sl.at' i _ hi
  cases h2
  obtain ⟨G1, e1, t1, r1⟩ := still_all (C := [(a, cW P w a ks ps)]) ps (ks.map fun t => (choicesM b t).map plD) G (by rw [List.length_map]; exact hl) nC tr
  obtain ⟨o, ⟨xs, rfl, d1, d2, d3⟩, k1, k2, t2⟩ := Tr.rest (Ca := []) (Cb := []) t1 na
  have e2 := Ex.new (o := DN P w a xs) k1
  refine ⟨.ref a, h1, hr _ _ _ _ _ k t2 ⟨a, xs, rfl, ⟨upd_same, fun x hx => (d3 x hx).ex e2⟩, fun t ht => ?_⟩⟩
  obtain ⟨j, hj, ej⟩ := List.mem_iff_getElem.1 (hks t ht)
  have hkj : ks[j]? = some t := by rw [List.getElem?_eq_getElem hj, ej]
  have hpj : ps[j]? = some (ps[j]'(by omega)) := List.getElem?_eq_getElem (by omega)
  generalize ps[j]'(by omega) = p at hpj
  obtain ⟨b', hb'⟩ := key_at nd d1 d2 hkj hpj
  refine ⟨_, p, hb', rfl, ?_⟩
  obtain ⟨u, hu, ru⟩ := r1.get (i := j) (d := .list ((choicesM b t).map plD)) (by rw [List.getElem?_map, List.getElem?_map, hkj]; rfl)
  rw [List.getElem?_map, hpj] at hu
  cases hu
  exact ru.ex e2
end
theorem choices_snoc (b : List (T3 × T3)) (p : T3 × T3) (u : T3) : choicesM (b ++ [p]) u = choicesM b u ++ (if p.1 = u then [p.2] else []) := by
  unfold choicesM
  rw [List.filter_append, List.map_append]
  congr 1
  by_cases h : p.1 = u
  · simp [h]
  · simp [h]
theorem addK_nodup {α : Type} [DecidableEq α] {ks : List α} (h : ks.Nodup) (k : α) : (addK ks k).Nodup := by
  unfold addK
  split
  · exact h
  · rename_i q
    exact List.nodup_append.2 ⟨h, by simp, fun a ha b hb => by simp at hb; subst hb; rintro rfl; exact q ha⟩
theorem addK_le {α : Type} [DecidableEq α] (ks : List α) (k : α) : (addK ks k).length ≤ ks.length + 1 := by
  unfold addK
  split
  · omega
  · simp
theorem addK_mem {α : Type} [DecidableEq α] {ks : List α} {k x : α} : x ∈ addK ks k ↔ x ∈ ks ∨ x = k := by
  unfold addK
  split
  · rename_i q
    constructor
    · exact .inl
    · rintro (h | rfl)
      · exact h
      · exact q
  · simp
section
variable {P : Program} {w : World} {K : PySem.W.Frag} {mg : Str → Option Value} {base : Heap} (T : Tx K mg)
/-! ### ways_on -/
def R_ways_on (P : Program) (w : World) : List SP → Cs → SP → Cs → Prop := fun ss C s C' => ∃ b : List (T3 × T3), b.length < 1000000 ∧ ss = [dt (.list (b.map paD))] ∧ C = [] ∧ s = waysS P w b ∧ C' = []
theorem sc_ways_on : FnScope ["border", "ways", "part"] ["border"] (defScope (topS 28)) := ⟨rfl, rfl, rfl, by decide +kernel, rfl, by decide +kernel, by decide +kernel⟩
include T in
theorem ok_ways_on : Ok P w K mg base 1 "ways_on" ["border"] (spF (R_ways_on P w)) := by
  have nd := sc_ways_on.nd
  refine T.d_ways_on.okF sc_ways_on (fun ss C s C' h => by obtain ⟨_, _, rfl, _⟩ := h; rfl) fun f cdv A outer s H E hr => ⟨_, (pss_cons (ps_set (i := 1) nd rfl (Or.inl rfl) pe_nnew) (pss_cons (ps_for PassesOwn.never rfl (pi_list (pv 0)) (pg_name (i := 2) nd rfl (Or.inl rfl)) (pss_one (ps_expr (pe_bm PySem.F.plainAttrs_list PySem.F.slot_list_append PySem.F.type_list_append mt_append (pe_nsetd (hu9 hr) (pv 1) (pe_ix ix_seq (pv 2) pe_int (fun _ _ => rfl)) (pe_lst pa_nil) ⟨rfl, rfl, rfl, rfl⟩) (pa_cons (pe_ix ix_seq (pv 2) pe_int (fun _ _ => rfl)) pa_nil))))) (pss_one (ps_ret (pv 1))))), fun ss C z C' h => ?_⟩
  obtain ⟨b, hb, rfl, rfl, rfl, rfl⟩ := h
  refine wp_seq (wp_wnew fun a _ na => wp_seq (wp_for (fun i L C => i ≤ b.length ∧ ∃ ks ps o, ks.Nodup ∧ ps.length = ks.length ∧ ks.length ≤ i ∧ (∀ t, t ∈ ks ↔ t ∈ (b.take i).map Prod.fst) ∧ L = [some (dt (.list (b.map paD))), some (rf a), o] ∧ C = (a, cW P w a ks ps) :: zc ps (ks.map fun t => (choicesM (b.take i) t).map plD)) (xe_v 0 rfl) ⟨Nat.zero_le _, [], [], none, List.nodup_nil, rfl, Nat.le_refl _, by simp, rfl, rfl⟩ ?_ ?_))
  · rintro i d L C hd ⟨hi, ks, ps, o, hnd, hl, hki, hm, rfl, rfl⟩
    rw [List.getElem?_map] at hd
    cases q : b[i]? with
    | none => rw [q] at hd; cases hd
    | some x =>
      rw [q] at hd
      cases hd
      have hlt : i < b.length := (List.getElem?_eq_some_iff.1 q).1
      have hlc : ∀ t, (choicesM (b.take i) t).length ≤ i := fun t => by
        unfold choicesM
        rw [List.length_map]
        refine Nat.le_trans (List.length_filter_le _ _) ?_
        rw [List.length_take]; omega
      refine wp_wput (t := x.1) (v := x.2) (f := fun t => (choicesM (b.take i) t).map plD) (g := fun t => (choicesM (b.take (i + 1)) t).map plD) hnd hl rfl (fun C => xe_ixT (xe_v 2 rfl) xe_i rfl) (fun C => xe_ixT (xe_v 2 rfl) xe_i rfl) (by omega) (by rw [List.length_map]; have := hlc x.1; omega) (fun p _ z => by simp [In] at z) (fun u hu => ?_) ?_ (fun hx => ?_) fun ps' hl' _ => ⟨hlt, addK ks x.1, ps', some (dt (paD x)), addK_nodup hnd _, hl', ?_, fun t => ?_, rfl, rfl⟩
      · rw [take_more q, choices_snoc, if_neg (fun z => hu z.symm), List.append_nil]
      · rw [take_more q, choices_snoc, if_pos rfl, List.map_append]; rfl
      · have : choicesM (b.take i) x.1 = [] := by
          refine List.eq_nil_iff_forall_not_mem.2 fun v hv => hx ((hm _).2 (List.mem_map.2 ⟨_, My.mem_choices.1 hv, rfl⟩))
        rw [this]; rfl
      · have := addK_le ks x.1
        omega
      · rw [addK_mem, hm, take_more q, List.map_append, List.mem_append]
        simp
  · rintro L C ⟨_, ks, ps, o, hnd, hl, hki, hm, rfl, rfl⟩
    rw [List.length_map, List.take_length] at hm
    rw [List.length_map, List.take_length]
    show WP (tRet (tVar 1)) _ _ _ _ _
    exact wp_retWays (P := P) (w := w) (i := 1) hnd (fun t ht => (hm t).2 ht) hl rfl na (fun p _ z => by simp [In] at z) ⟨rfl, rfl⟩
theorem x_ways_on {P : Program} {w : World} {L : Sls} {C C1 : Cs} {ta : TA} {b : List (T3 × T3)} (h : Xd ta L C [.list (b.map paD)] C1) (k : b.length < 1000000) : Xe (tCall (spF (R_ways_on P w)) [] E0 ta) L C (waysS P w b) C1 :=
  xe_callC (Ca := []) (Ca' := []) h ⟨b, k, rfl, rfl, rfl, rfl⟩
end
end Wk
end
section
set_option Elab.async false
set_option linter.all false
set_option maxRecDepth 100000
set_option exponentiation.threshold 10000
namespace Wk
open PySem PySem.Spec PyProof.Rows L2
open Evl (Ex ex_l ex_t sq_of st_of)
open My (T3 Sd choicesM nextM wayM cornersM Cyc Inj ringsM allc orb)
/-- a border that goes round -/
structure Bd (b : List (T3 × T3)) : Prop where
  inj : Inj (nextM b) b
  bt : ∀ x ∈ b, Bt 403 x.1 ∧ Bt 403 x.2
  len : b.length < 1000000
theorem allc_snoc {α : Type} [DecidableEq α] (f : α → α) (n : Nat) (b : List α) (d : α) : allc f n (b ++ [d]) [] = if d ∈ (allc f n b []).flatten then allc f n b [] else allc f n b [] ++ [orb f d n d] := by
  unfold allc
  rw [List.foldl_append]
  show (if _ then _ else _) = _
  have e : ∀ s : List (List α), (s.any (fun c => c.contains d) = true) ↔ d ∈ s.flatten := fun s => by
    rw [List.any_eq_true, List.mem_flatten]
    constructor
    · rintro ⟨c, h1, h2⟩
      exact ⟨c, h1, by simpa using h2⟩
    · rintro ⟨c, h1, h2⟩
      exact ⟨c, h1, by simpa using h2⟩
  simp only [e]
theorem allc_len {α : Type} [DecidableEq α] (f : α → α) (n : Nat) : ∀ (b : List α) (s : List (List α)), (allc f n b s).length ≤ s.length + b.length
  | [], s => Nat.le_refl _
  | d :: b, s => by
    show (allc f n b (if _ then s else s ++ [orb f d n d])).length ≤ _
    split
    · have := allc_len f n b s
      rw [List.length_cons]; omega
    · have := allc_len f n b (s ++ [orb f d n d])
      rw [List.length_append] at this
      rw [List.length_cons]; simp at this; omega
section
variable {b : List (T3 × T3)}
theorem Bd.part (h : Bd b) {i : Nat} {x : T3 × T3} (hx : b[i]? = some x) (hn : x ∉ (allc (nextM b) b.length (b.take i) []).flatten) : RF b (orb (nextM b) x b.length x) (allc (nextM b) b.length (b.take i) []).flatten ∧ (orb (nextM b) x b.length x).getD 0 p0 = x := by
  have hm := List.mem_of_getElem? hx
  obtain ⟨o1, o2, o3⟩ := h.inj.orb_cyc hm
  obtain ⟨_, a2, _⟩ := My.allc_aux h.inj (b.take (i + 1)) [] (fun y hy => List.mem_of_mem_take hy) (by simp) (by simp)
  obtain ⟨a4, _, _⟩ := My.allc_aux h.inj (b.take i) [] (fun y hy => List.mem_of_mem_take hy) (by simp) (by simp)
  rw [take_more hx, allc_snoc, if_neg hn, List.flatten_append] at a2
  have e1 : [orb (nextM b) x b.length x].flatten = orb (nextM b) x b.length x := by simp
  rw [e1] at a2
  obtain ⟨_, _, n3⟩ := List.nodup_append.1 a2
  refine ⟨⟨h.inj, o1, o2, fun y hy z => n3 y z y hy rfl, h.bt, ?_⟩, ?_⟩
  · rw [← List.length_append]
    refine Nat.lt_of_le_of_lt (List.Nodup.length_le_of_subset a2 ?_) h.len
    intro y hy
    rcases List.mem_append.1 hy with q | q
    · obtain ⟨c, hc, hyc⟩ := List.mem_flatten.1 q
      exact (a4 c hc).2 y hyc
    · exact o2 y q
  · rw [List.getD_eq_getElem?_getD, ← List.head?_eq_getElem?, o3]; rfl
end
section
variable {P : Program} {w : World} {K : PySem.W.Frag} {mg : Str → Option Value} {base : Heap} (T : Tx K mg)
/-! ### rings_of -/
def R_rings_of : List PyData → PyData → Prop := fun ds d => ∃ b : List (T3 × T3), Bd b ∧ ds = [.list (b.map paD)] ∧ d = rsD (ringsM b)
theorem sc_rings_of : FnScope ["border", "ways", "used", "rings", "part"] ["border"] (defScope (topS 27)) := ⟨rfl, rfl, rfl, by decide +kernel, rfl, by decide +kernel, by decide +kernel⟩
include T in
theorem ok_rings_of : Ok P w K mg base 6 "rings_of" ["border"] (spF (pR R_rings_of)) := by
  have nd := sc_rings_of.nd
  have o_ways_on := (ok_ways_on (P := P) (w := w) (base := base) T).up (k := 5) (by decide)
  have o_ring_from := ok_ring_from (P := P) (w := w) (base := base) T
  have o_corners := (ok_corners (P := P) (w := w) (base := base) T).up (k := 5) (by decide)
  refine T.d_rings_of.okP sc_rings_of (fun ds d h => by obtain ⟨_, _, rfl, _⟩ := h; rfl) fun f cdv A outer s H E hr => ⟨_, (pss_cons (ps_set (i := 1) nd rfl (Or.inl rfl) (pe_own o_ways_on hr rfl (pa_cons (pv 0) pa_nil))) (pss_cons (ps_set (i := 2) nd rfl (Or.inl rfl) pe_nnew) (pss_cons (ps_set (i := 3) nd rfl (Or.inl rfl) (pe_lst pa_nil)) (pss_cons (ps_for PassesOwn.never rfl (pi_list (pv 0)) (pg_name (i := 4) nd rfl (Or.inl rfl)) (pss_one (ps_if (pt_cmp (pc_nnotin (hu9 hr) (pv 4) (pv 2))) (pss_one (ps_expr (pe_bm PySem.F.plainAttrs_list PySem.F.slot_list_append PySem.F.type_list_append mt_append (pv 3) (pa_cons (pe_own o_corners hr rfl (pa_cons (pe_own o_ring_from hr rfl (pa_cons (pv 4) (pa_cons (pv 1) (pa_cons (pv 2) pa_nil)))) pa_nil)) pa_nil)))) pss_nil))) (pss_one (ps_ret (pv 3))))))), fun ds d h => ?_⟩
  obtain ⟨b, hb, rfl, rfl⟩ := h
  refine wp_set (x_ways_on (b := b) (xd_cons (xe_v 0 rfl) xd_nil) hb.len) ?_
  refine wp_seq (wp_dnew (X := (cxOf CX0 P w K mg base _ _ _ f cdv A outer s H E).nox) fun u _ nu => wp_new fun p _ np => wp_seq (wp_for (fun i L C => i ≤ b.length ∧ ∃ o, L = [some (dt (.list (b.map paD))), some (waysS P w b), some (rf u), some (rf p), o] ∧ C = [(p, cL ((allc (nextM b) b.length (b.take i) []).map fun c => rgD (cornersM (c.map Prod.fst)))), (u, cS P w u (allc (nextM b) b.length (b.take i) []).flatten)]) (xe_v 0 rfl) ⟨Nat.zero_le _, none, rfl, rfl⟩ ?_ ?_))
  · rintro i d L C hd ⟨hi, o, rfl, rfl⟩
    rw [List.getElem?_map] at hd
    cases q : b[i]? with
    | none => rw [q] at hd; cases hd
    | some x =>
      rw [q] at hd
      cases hd
      have hlt : i < b.length := (List.getElem?_eq_some_iff.1 q).1
      refine wp_if (xt_B (xe_nin (X := (cxOf CX0 P w K mg base _ _ _ f cdv A outer s H E).nox) (p := u) (k := x) (xe_v 4 rfl) (xe_v 2 rfl) (List.mem_cons_of_mem _ List.mem_cons_self))) (fun z => ?_) fun z => ?_
      · have z' : x ∉ (allc (nextM b) b.length (b.take i) []).flatten := by simpa only [Bool.not_eq_true', decide_eq_false_iff_not] using z
        obtain ⟨rf0, e0⟩ := hb.part q z'
        have hc : (∀ t ∈ (orb (nextM b) x b.length x).map Prod.fst, Bt 403 t) ∧ ((orb (nextM b) x b.length x).map Prod.fst).length < 1000000 := by
          refine ⟨fun t ht => ?_, ?_⟩
          · obtain ⟨y, hy, rfl⟩ := List.mem_map.1 ht
            exact (hb.bt y (rf0.sub y hy)).1
          · rw [List.length_map]; have := rf0.len; omega
        have hl : (allc (nextM b) b.length (b.take i) []).length < 1000000 := by
          have := allc_len (nextM b) b.length (b.take i) []
          rw [List.length_take] at this
          have := hb.len
          simp at *
          omega
        have ea : allc (nextM b) b.length (b.take (i + 1)) [] = allc (nextM b) b.length (b.take i) [] ++ [orb (nextM b) x b.length x] := by rw [take_more q, allc_snoc, if_neg z']
        refine wp_push [] [(u, cS P w u ((allc (nextM b) b.length (b.take i) []).flatten ++ orb (nextM b) x b.length x))] rfl List.mem_cons_self (d := rgD (cornersM ((orb (nextM b) x b.length x).map Prod.fst))) (x_corners (xd_cons (x_ring_from (u := u) (b := b) (c := orb (nextM b) x b.length x) (xa_cons (by rw [e0]; exact xe_v 4 rfl) (xa_cons (xe_v 1 rfl) (xa_cons (xe_v 2 rfl) xa_nil))) (List.Perm.swap _ _ _) (List.Perm.swap _ _ _) rf0) xd_nil) hc) (by rw [List.length_map]; exact hl) ⟨hlt, some (dt (paD x)), rfl, ?_⟩
        rw [ea, List.map_append, List.flatten_append]
        simp
      · have z' : x ∈ (allc (nextM b) b.length (b.take i) []).flatten := by simpa only [Bool.not_eq_false', decide_eq_true_eq] using z
        have ea : allc (nextM b) b.length (b.take (i + 1)) [] = allc (nextM b) b.length (b.take i) [] := by rw [take_more q, allc_snoc, if_pos z']
        refine wp_next ⟨hlt, some (dt (paD x)), rfl, ?_⟩
        rw [ea]
  · rintro L C ⟨_, o, rfl, rfl⟩
    rw [List.length_map, List.take_length]
    refine wp_drop [_] [] rfl nu (wp_retOwn [] [] rfl rfl np ⟨?_, rfl⟩)
    unfold rsD ringsM
    rw [List.map_map]; rfl
theorem x_rings_of {L : Sls} {C C1 : Cs} {ta : TA} {b : List (T3 × T3)} (h : Xd ta L C [.list (b.map paD)] C1) (k : Bd b) : Xe (tCall (spF (pR R_rings_of)) [] E0 ta) L C (dt (rsD (ringsM b))) C1 := xe_call h ⟨b, k, rfl, rfl⟩
end
end Wk
end
section
set_option Elab.async false
set_option linter.all false
set_option maxRecDepth 100000
set_option maxHeartbeats 2000000
namespace Wk
open PySem PySem.Spec PyProof.Rows L2 LamX
open Evl (Ex ex_l ex_t sq_of st_of)
/-! ### a lambda is made -/
/-- its code object stands at cd: it was found in the table at tb, or is new there -/
def Made (H : Hp) (tb : Addr) (q : Str) (cd : Addr) (H1 : Hp) : Prop := H1 cd = some (CodeO cd q) ∧ ((∃ ps pos, H tb = some (.tbl ps) ∧ codeAmong pos ps.toList = some (.ref cd) ∧ H1 = H) ∨ ∃ ps pos, H tb = some (.tbl ps) ∧ H cd = none ∧ H1 = upd (upd H tb (.tbl (ps ++ #[rawInt (Pos.line pos), rawInt (Pos.col pos), .ref cd]))) cd (CodeO cd q))
section
variable {X : Cx} {pins : List (Addr × Obj)} {σ : L2.St} {H : Hp} {s : Shared}
theorem lam_mk {co tb : Addr} {params : Arguments} {body : Expr} {scope : Scope} {pos : Pos} {E Q : Value → Shared → Prop} (I : Inv X pins σ H s) (B : TabB X.base X.mg co tb) (hco : X.env.code = .ref co) (hT : TabS H tb (X.env.qual ++ "<lambda>"))
    (hd : defaultsOf params X.env = ([], [])) (hfr : ∀ y ∈ scope.names, y.2 = .free → ∃ c, X.env.cells.lookup y.1 = some c)
    (h : ∀ (f cd : Addr) (pm ctv : Value) (H1 : Hp) (s1 : Shared), Made H tb (X.env.qual ++ "<lambda>") cd H1 → Inv X pins σ H1 s1 →
      s1.heap.get? f = some (PySem.W.kla_obj "<lambda>" (X.env.qual ++ "<lambda>") params body scope (cloFrom X.env.cells scope.names []) pm cd ctv) → H1 f = none → s.heap.objs.size ≤ f → Q (.ref f) s1) :
    wpAny (model X.prog X.w) X.A (eval (.Lambda params body scope pos) X.env) Q E s := by
  obtain ⟨ps, e1, e2, e3⟩ := hT
  have tabH : s.heap.get? tb = some { cls := .none, data := .fields ps } := I.hok tb _ e1
  have bm : s.heap.BuiltinsAt X.mg tb := B.bm.keeps I.bk
  refine PySem.W.kla_eval hd ?_
  cases am : codeAmong pos ps.toList with
  | some cv =>
    obtain ⟨cd, rfl, hcd⟩ := e3 pos cv am
    refine PySem.W.kla_makeFunctionHit (mg := X.mg) (c := co) (P := tb) (ps := ps) (closure_ok hfr) I.ok.glob (I.mod.glob.keeps I.bk) hco (B.code.keeps I.bk) tabH e2 am bm fun ctv g tk kp sz => ?_
    refine h g.objs.size cd ((X.mg "__name__").getD .none) ctv H _ ⟨hcd, .inl ⟨ps, pos, e1, am, rfl⟩⟩ (I.kept fun b o e => Heap.get?_push_of_some _ (kp b o e)) (Heap.get?_push_size _ rfl) (I.hok.fresh sz) sz
  | none =>
    refine PySem.W.kla_makeFunction (mg := X.mg) (c := co) (P := tb) (ps := ps) (closure_ok hfr) I.ok.glob (I.mod.glob.keeps I.bk) hco (B.code.keeps I.bk) tabH e2 am B.gP bm fun cd ctv g tk kp ge lt rec tab => ?_
    obtain ⟨c2, oc, vs, t, ec, w1, w2, w3⟩ := rec
    cases ec
    have big : s.heap.objs.size ≤ g.objs.size := Nat.le_trans ge (Nat.le_of_lt lt)
    have none' : H cd = none := I.hok.fresh ge
    have J := inv_table (t' := tk) (more := #[rawInt pos.line, rawInt pos.col, .ref cd]) (h' := g.push (PySem.W.kla_obj "<lambda>" (X.env.qual ++ "<lambda>") params body scope (cloFrom X.env.cells scope.names []) ((X.mg "__name__").getD .none) cd ctv)) I e1
      (fun b o nb e => Heap.get?_push_of_some _ (kp b o nb e)) (Heap.get?_push_of_some _ tab) ge ⟨oc, vs, t, Heap.get?_push_of_some _ w1, w2, w3⟩
    refine h g.objs.size cd ((X.mg "__name__").getD .none) ctv _ _ ⟨upd_same, .inr ⟨ps, pos, e1, none', rfl⟩⟩ J (Heap.get?_push_size _ rfl) ?_ big
    · have n1 : g.objs.size ≠ cd := Nat.ne_of_gt lt
      have n2 : g.objs.size ≠ tb := Nat.ne_of_gt (Nat.lt_of_lt_of_le (Heap.lt_size tabH) big)
      rw [upd_ne n1, upd_ne n2]
      exact I.hok.fresh big
end
/-! ### its body: one parameter, captured names -/
structure LamP (sc scope : Scope) (p fr : Str) : Prop where
  kind : scope.kind = .function
  co : scope.isCoroutine = false
  gen : scope.isGenerator = false
  own : ∀ y ∈ scope.names, y.2 ≠ .cell
  par : scope.names.lookup p = some .local
  cap : scope.names.lookup fr = some .free
  free : ∀ y ∈ scope.names, y.2 = .free → sc.names.lookup y.1 = some .cell
def lamPB (sc scope : Scope) (p fr : Str) : Bool :=
  decide (scope.kind = .function) && !scope.isCoroutine && !scope.isGenerator && decide (scope.names.lookup p = some .local) && decide (scope.names.lookup fr = some .free) && scope.names.all fun y => !decide (y.2 = .cell) && (!decide (y.2 = .free) || decide (sc.names.lookup y.1 = some .cell))
theorem lamP_by {sc scope : Scope} {p fr : Str} (h : lamPB sc scope p fr = true) : LamP sc scope p fr := by
  unfold lamPB at h
  simp only [Bool.and_eq_true, Bool.or_eq_true, Bool.not_eq_true', decide_eq_true_eq, decide_eq_false_iff_not, List.all_eq_true] at h
  obtain ⟨⟨⟨⟨⟨h1, h2⟩, h3⟩, h4⟩, h5⟩, h6⟩ := h
  refine ⟨h1, h2, h3, fun y hy => (h6 y hy).1, h4, h5, fun y hy e => ?_⟩
  rcases (h6 y hy).2 with z | z
  · exact absurd e z
  · exact z
/-- the body's context -/
def lamX (X : Cx) (A : Around) (s : Shared) (H : Hp) (scope : Scope) (f cd : Addr) (p fr : Str) : Cx where
  prog := X.prog
  w := X.w
  K := X.K
  mg := X.mg
  base := X.base
  A := A.deeper (lamEnv X scope s.heap.objs.size f cd)
  N := [p, fr]
  s_0 := s
  H_0 := H
  env := lamEnv X scope s.heap.objs.size f cd
  outer := X.stack
  stack := lamEnv X scope s.heap.objs.size f cd :: X.stack
  ex := []
  fn := fun _ => false
  calm := true
  pn := []
  xe := fun _ _ => False
section
variable {X : Cx} {pins : List (Addr × Obj)} {σ : L2.St} {H : Hp} {s : Shared}
theorem lam_in {A : Around} {scope : Scope} {f cd : Addr} {p fr : Str} {g : Heap} {tk : Nat} {x y : V} {v : Value} {j : Nat} (I : Inv X pins σ H s) (L : LamP X.env.scope scope p fr) (hA : A.frames = X.A.frames) (hd : A.handled = none)
    (hj : X.N[j]? = some fr) (hy : σ[j]? = some (some y)) (rx : RelV x v) (pf : p ≠ fr) (hns : g.Ns s.heap.objs.size fun z => ([(p, v)] : List (Str × Value)).reverse.lookup z) (kp : ∀ b o, s.heap.get? b = some o → g.get? b = some o) :
    Inv (lamX X A s H scope f cd p fr) [] [some x, some y] H { s with heap := g, toks := tk } := by
  have has : ∀ z ∈ scope.names, z.2 = .free → ∃ c, X.env.cells.lookup z.1 = some c := fun z hz e => I.ok.has _ (.inl (L.free z hz e))
  have sub : ∀ {z c}, (cloFrom X.env.cells scope.names []).lookup z = some c → X.env.cells.lookup z = some c := by
    intro z c e
    rcases cloFrom_mem (PySem.mem_of_lookup e) with hm | ⟨h1, h2⟩
    · cases hm
    · obtain ⟨c1, hc⟩ := has _ h1 rfl
      have hc' : X.env.cells.lookup z = some c1 := hc
      have : c = c1 := by rw [h2, hc'] <;> rfl
      rw [this]; exact hc'
  have there : ∀ {z}, scope.names.lookup z = some .free → ∃ c, (cloFrom X.env.cells scope.names []).lookup z = some c := by
    intro z hl
    exact mem_lookup (cloFrom_has (cells := X.env.cells) (acc := []) (PySem.mem_of_lookup hl))
  have cellK : ∀ {c : Addr} {o : Option Value}, s.heap.IsCell c o → g.IsCell c o := fun ⟨o, ho, hd⟩ => ⟨o, kp _ _ ho, hd⟩
  have e0 := I.env0
  have none' : ∀ b : Addr, b ∉ (lamX X A s H scope f cd p fr).ex := fun b z => absurd (show b ∈ ([] : List Addr) from z) (by simp)
  refine ⟨⟨e0.mod, L.kind, rfl, rfl, Nat.le_refl _, fun a b c e1 e2 => I.ok.inj a b c (sub e1) (sub e2), fun z hz => ?_, fun _ _ z _ => absurd (show false = true from z) (by decide), fun _ => hd, Around.frames_deeper (hA.trans e0.frames), .inr ⟨rfl, rfl⟩, fun b z => absurd z (none' b), e0.bs, e0.bsz, fun b _ _ => none' b,
      fun b z => absurd z (none' b), e0.funs, e0.frf⟩,
    rfl, e0.bare, Un.kept kp, ⟨_, hns, fun i z u h1 h2 h3 => ?_⟩, fun z c e => ?_, e0.hok.fresh (Nat.le_refl _), fun z c e => I.freeC z c (sub e), fun q hq => absurd (show q ∈ ([] : List (Addr × Obj)) ++ [] from hq) (by simp), e0.hok.kept kp, rfl⟩
  · have hz : scope.names.lookup z = some .cell ∨ scope.names.lookup z = some .free := hz
    rcases hz with hz | hz
    · exact absurd rfl (L.own _ (PySem.mem_of_lookup hz))
    · exact there hz
  · match i with
    | 0 =>
      have e1 : z = p := (Option.some.inj (show some p = some z from h1)).symm
      have e2 : u = x := (Option.some.inj (Option.some.inj (show some (some x) = some (some u) from h2))).symm
      subst e1; subst e2
      refine ⟨v, rx, .inl ⟨L.par, ?_⟩⟩
      show ([(z, v)] : List (Str × Value)).reverse.lookup z = some v
      simp [List.lookup]
    | 1 =>
      have e1 : z = fr := (Option.some.inj (show some fr = some z from h1)).symm
      have e2 : u = y := (Option.some.inj (Option.some.inj (show some (some y) = some (some u) from h2))).symm
      subst e1; subst e2
      obtain ⟨m, hm, hl⟩ := I.loc
      have kc : X.env.scope.names.lookup z = some .cell := L.free _ (PySem.mem_of_lookup L.cap) rfl
      obtain ⟨w', r, q⟩ := hl j z u hj hy (.inr (.inl kc))
      obtain ⟨c2, h4⟩ := there L.cap
      refine ⟨w', r, .inr ⟨.inr L.cap, c2, h4, ?_⟩⟩
      have c1 := sub h4
      rcases q with ⟨k', _⟩ | ⟨_, c3, e', q⟩
      · have k' : X.env.scope.names.lookup z = some .local := k'
        rw [kc] at k'; cases k'
      · rw [c1] at e'
        cases e'
        exact cellK q
    | n + 2 => exact absurd h1 (by show ¬ ([p, fr] : List Str)[n + 2]? = some z; simp)
  · obtain ⟨w', q⟩ := I.cell z c (sub e)
    exact ⟨w', cellK q⟩
/-- f(v) while the builtin at A walks -/
theorem lam_call {A : Around} {params : Arguments} {body : Expr} {scope : Scope} {f cd : Addr} {pm ctv : Value} {p fr : Str} {x y : V} {v : Value} {j k : Nat} {tb : TE} {Q : VK} {E : Value → Shared → Prop} (I : Inv X pins σ H s) (L : LamP X.env.scope scope p fr) (hA : A.frames = X.A.frames) (hr : Room (k + 1) A)
    (hf : s.heap.get? f = some (PySem.W.kla_obj "<lambda>" (X.env.qual ++ "<lambda>") params body scope (cloFrom X.env.cells scope.names []) pm cd ctv)) (hc : H cd = some (CodeO cd (X.env.qual ++ "<lambda>")))
    (hb : ∀ (q : Str) (cl : List (Str × Addr)) (pm cv ctv u : Value), bindArgs (PySem.W.kla_fn "<lambda>" q params body scope cl pm cv ctv) ⟨[u], []⟩ = pure [(p, u)])
    (hj : X.N[j]? = some fr) (hy : σ[j]? = some (some y)) (rx : RelV x v) (pf : p ≠ fr)
    (hbody : ∀ (s : Shared) (H : Hp), Room k (A.deeper (lamEnv X scope s.heap.objs.size f cd)) → PE (lamX X A s H scope f cd p fr) body tb) (ht : tb [some x, some y] H Q) :
    wpAny (model X.prog X.w) A (call (.ref f) [v]) (EP X pins σ Q) E s := by
  obtain ⟨⟨oc, vs, t, h1, h2, h3⟩, _, _⟩ := I.hok cd _ hc
  have rc : codeAny (model X.prog X.w) A (.call (.ref f) ⟨[v], []⟩) (CR CX0 X.stack X.prog X.w H s Q E0) s := by
    refine PySem.W.kla_callFunE hr.depth hf rfl L.co L.gen rfl ⟨cd, oc, vs, t, rfl, h1, h2, h3⟩ ?_
    rw [hb]
    refine wpAny_pure (wpAny_newFunctionEnv L.own (fun z hz => ?_) (fun g hns hsb => ⟨I.nolimit.fresh _ hsb, ?_⟩) L.kind)
    · simp at hz
      rw [hz]; exact L.par
    · have kp : ∀ b o, s.heap.get? b = some o → g.get? b = some o := fun b o e => hsb.extBut b o (Nat.ne_of_lt (Heap.lt_size e)) (Heap.get?_push_of_some _ e)
      show codeAny _ _ (.expr body (lamEnv X scope s.heap.objs.size f cd)) _ _
      have J : Inv (lamX X A s H scope f cd p fr) [] [some x, some y] H { s with heap := g, toks := s.toks + ([(p, v)] : List (Str × Value)).length } := lam_in I L hA hr.hd hj hy rx pf hns kp
      refine PySem.W.kla_codeExpr (wpAny_mono ((hbody s H (hr.deeper _)).run [] _ _ H Q J ht) (fun u s' hq => ?_) fun e s' hq => hq.elim)
      obtain ⟨w', H', J', rv, q⟩ := hq
      exact ⟨w', H', J'.os, J'.bare, J'.base, J'.hok, rv, q⟩
  refine wpAny_call (codeAny_mono rc fun r s' hq => ?_)
  cases r with
  | error e => exact False.elim hq
  | ok fl =>
    cases fl with
    | ret u => exact I.after hq
    | next => exact False.elim hq
    | brk => exact False.elim hq
    | cont => exact False.elim hq
end
end Wk
end
section
set_option Elab.async false
set_option linter.all false
set_option maxRecDepth 100000
set_option maxHeartbeats 2000000
namespace Wk
open PySem PySem.Spec PyProof.Rows L2 LamX PySem.W
open Evl (Ex ex_l ex_t sq_of st_of)
theorem FpOk.re {X : Cx} {pins : List (Addr × Obj)} {H H' : Hp} {b : Addr} (f : FpOk X pins H b) (h : H' b = none) : FpOk X pins H' b := ⟨h, f.2⟩
theorem vals_of : ∀ {xs : List V} {us : List Value} {i : Nat} {u : Value}, Vals xs us → us[i]? = some u → ∃ x, xs[i]? = some x ∧ RelV x u
  | _, _, _, _, .nil, e => by simp at e
  | _, _, 0, _, .cons r _, e => by simp at e; subst e; exact ⟨_, rfl, r⟩
  | _, _, i + 1, u, .cons _ t, e => by
    obtain ⟨x, h1, h2⟩ := vals_of (i := i) (u := u) t (by simpa using e)
    exact ⟨x, by simpa using h1, h2⟩
theorem each_rp {G : Hp} : ∀ {xs : List V} {us : List Value} {ds : List PyData}, Vals xs us → RpAll G xs ds → EachIs (fun v d => ∃ u, RelV u v ∧ Rp G u d) us ds
  | _, _, _, .nil, .nil => .nil
  | _, _, _, .cons r t, .cons h k => .cons ⟨_, r, h⟩ (each_rp t k)
theorem rp_each {G : Hp} : ∀ {us : List Value} {ds : List PyData}, EachIs (fun v d => ∃ u, RelV u v ∧ Rp G u d) us ds → ∃ xs, Vals xs us ∧ RpAll G xs ds
  | _, _, .nil => ⟨[], .nil, .nil⟩
  | _, _, .cons ⟨u, r, h⟩ t => by
    obtain ⟨xs, a, b⟩ := rp_each t
    exact ⟨u :: xs, .cons r a, .cons h b⟩
theorem each_reads {X : Cx} {pins : List (Addr × Obj)} {σ : L2.St} {H : Hp} {s : Shared} (I : Inv X pins σ H s) : ∀ {ks : List V} {us : List Value} {ds : List PyData}, Vals ks us → DpAll X.K H ks ds → EachIs (fun v k => ∃ as, Reads s.heap v k as) us ds
  | _, _, _, .nil, .nil => .nil
  | _, _, _, .cons r t, .cons h k => .cons (Dp.reads I _ _ _ h r) (each_reads I t k)
/-- sorted(xs, key=f) -/
theorem sorted_by {X : Cx} {pins : List (Addr × Obj)} {σ : L2.St} {H : Hp} {s : Shared} {f l : Addr} {xs : List V} {ds : List PyData} {key : PyData → PyData} {G : Hp} {W : Nat → List V → Hp → Prop} {Q : VK} (I : Inv X pins σ H s) (hl : SqL X.K H l xs) (hG : RpAll G xs ds)
    (hal : AllAlike (ds.map key)) (hsk : Sortable (ds.map key)) (hu : ∀ d ∈ ds, X.A.units + 2 + (key d).depth < cLine) (w0 : W 0 [] H)
    (turn : ∀ (pins' : List (Addr × Obj)) (i : Nat) (x : V) (v : Value) (ks : List V) (H : Hp) (s : Shared) (E : Value → Shared → Prop), (∀ p ∈ pins, p ∈ pins') → xs[i]? = some x → RelV x v → W i ks H → Inv X pins' σ H s →
      wpAny (model X.prog X.w) X.A.in1.in1 (call (.ref f) [v]) (EP X pins' σ fun k H' => W (i + 1) (ks ++ [k]) H') E s)
    (fin : ∀ ks H', W xs.length ks H' → DpAll X.K H' ks (ds.map key) ∧ ∀ p ys, H' p = none → RpAll G ys (ds.mergeSort (dataLe false key)) → Q (.ref p) (upd H' p (.lst ys))) :
    wpAny (model X.prog X.w) X.A (call (.builtin "sorted") [.ref l] [(Str.ofString "key", .ref f)]) (EP X pins σ Q) X.xe s := by
  obtain ⟨its, rv, hpl, hz⟩ := I.list hl
  have hzi : its.length ≤ sizeLine := by rw [← rv.length]; exact hz
  refine sorted_of_sort hpl.isList hzi (ksk_s1 _ _) (fun _ => ksk_l1 _ _) fun E' => ?_
  rw [ksk_t1]
  have ho := copyHeap_at s.heap its
  have up0 : ∀ b o, s.heap.get? b = some o → (copyHeap s.heap its).get? b = some o := fun b o e => copyHeap_old e
  generalize hh0 : copyHeap s.heap its = h0 at ho up0 ⊢
  generalize ha : s.heap.objs.size + 1 = a at ho ⊢
  have nea : ∀ b o, s.heap.get? b = some o → b ≠ a := fun b o e z => by
    have h1 : b < s.heap.objs.size := Heap.lt_size e
    rw [z, ← ha] at h1
    exact absurd h1 (Nat.not_lt_of_le (Nat.le_succ _))
  obtain ⟨e1, ho1⟩ : ∃ e1, (h0.update a (Obj.mapSeq fun _ => (#[] : Array Value))).get? a = some (seqObj "list" #[] e1) := ⟨_, get?_update_seq ho fun _ => #[]⟩
  have up1 : ∀ b o, s.heap.get? b = some o → (h0.update a (Obj.mapSeq fun _ => (#[] : Array Value))).get? b = some o := fun b o e => (Heap.get?_update_ne _ _ _ _ (nea b o e)).trans (up0 b o e)
  have big1 : s.heap.objs.size ≤ (h0.update a (Obj.mapSeq fun _ => (#[] : Array Value))).objs.size := by
    have h1 : a < (h0.update a (Obj.mapSeq fun _ => (#[] : Array Value))).objs.size := Heap.lt_size ho1
    have h2 : s.heap.objs.size + 1 ≤ a := Nat.le_of_eq ha
    exact Nat.le_of_lt (Nat.lt_of_lt_of_le h2 (Nat.le_of_lt h1))
  unfold ksk_tree
  refine wpAny_bind (listItems_at ho rfl ?_)
  refine wpAny_bind (listUpdate_at ho rfl ?_ (by rw [List.size_toArray]; exact hzi) (Nat.zero_le _))
  refine wpAny_bind (seqEpoch_at ho1 rfl ?_)
  refine wpAny_bind (wpAny_newTuple ?_ (by show its.length ≤ _; exact hzi))
  refine wpAny_bind (wpAny_newList ?_ (Nat.zero_le _))
  refine wpAny_holding ?_
  generalize hh1 : h0.update a (Obj.mapSeq fun _ => (#[] : Array Value)) = h1 at ho1 up1 big1 ⊢
  have hk0 : ((h1.push { cls := .type "tuple", data := .seq its.toArray }).push { cls := .type "list", data := .seq ([] : List Value).toArray }).get? (h1.push { cls := .type "tuple", data := .seq its.toArray }).objs.size = some (seqObj "list" #[] 0) := Heap.get?_push_size _ rfl
  have ha0 : ((h1.push { cls := .type "tuple", data := .seq its.toArray }).push { cls := .type "list", data := .seq ([] : List Value).toArray }).get? a = some (seqObj "list" #[] e1) := Heap.get?_push_of_some _ (Heap.get?_push_of_some _ ho1)
  have up2 : ∀ b o, s.heap.get? b = some o → ((h1.push { cls := .type "tuple", data := .seq its.toArray }).push { cls := .type "list", data := .seq ([] : List Value).toArray }).get? b = some o := fun b o e => Heap.get?_push_of_some _ (Heap.get?_push_of_some _ (up1 b o e))
  have bigK : s.heap.objs.size ≤ (h1.push { cls := .type "tuple", data := .seq its.toArray }).objs.size := by rw [size_push']; omega
  have neK : (h1.push { cls := .type "tuple", data := .seq its.toArray }).objs.size ≠ a := by
    have h1 : a < h1.objs.size := Heap.lt_size ho1
    rw [size_push']
    exact Nat.ne_of_gt (Nat.lt_succ_of_lt h1)
  generalize hkS : (h1.push { cls := .type "tuple", data := .seq its.toArray }).objs.size = kS at hk0 bigK neK ⊢
  generalize hh2 : (h1.push { cls := .type "tuple", data := .seq its.toArray }).push { cls := .type "list", data := .seq ([] : List Value).toArray } = h2 at hk0 ha0 up2 ⊢
  have I2 : Inv X pins σ H { s with heap := h2 } := I.kept (t' := s.toks) up2
  have biga : s.heap.objs.size ≤ a := by omega
  have fa : FpOk X pins H a := I.fpOk biga (I.hok.fresh biga)
  have fk : FpOk X pins H kS := I.fpOk bigK (I.hok.fresh bigK)
  have pinned : ∀ {kA : Array Value} {e : Nat} {H' : Hp} {s' : Shared}, Inv X pins σ H' s' → s'.heap.get? kS = some (seqObj "list" kA e) → s'.heap.get? a = some (seqObj "list" #[] e1) → H' kS = none → H' a = none → Inv X ((kS, seqObj "list" kA e) :: (a, seqObj "list" #[] e1) :: pins) σ H' s' := by
    intro kA e H' s' J g1 g2 n1 n2
    refine J.pins_of fun p hp => ?_
    rcases List.mem_cons.1 hp with rfl | hp
    · exact ⟨g1, n1, fk.2.1, fk.2.2.1, fun v z => nomatch z⟩
    rcases List.mem_cons.1 hp with rfl | hp
    · exact ⟨g2, n2, fa.2.1, fa.2.2.1, fun v z => nomatch z⟩
    · exact J.pin p (List.mem_append.2 (.inr hp))
  have unp : ∀ {kA : Array Value} {e : Nat} {H' : Hp} {s' : Shared}, Inv X ((kS, seqObj "list" kA e) :: (a, seqObj "list" #[] e1) :: pins) σ H' s' → Inv X pins σ H' s' ∧ s'.heap.get? kS = some (seqObj "list" kA e) ∧ s'.heap.get? a = some (seqObj "list" #[] e1) ∧ H' kS = none ∧ H' a = none := by
    intro kA e H' s' J
    have p1 := J.pin (kS, seqObj "list" kA e) (List.mem_append.2 (.inr List.mem_cons_self))
    have p2 := J.pin (a, seqObj "list" #[] e1) (List.mem_append.2 (.inr (List.mem_cons_of_mem _ List.mem_cons_self)))
    exact ⟨J.pins_of fun p hp => J.pin p (List.mem_append.2 (.inr (List.mem_cons_of_mem _ (List.mem_cons_of_mem _ hp)))), p1.1, p2.1, p1.2.1, p2.2.1⟩
  unfold ksk_rest
  refine wpAny_bind (wpAny_rule ?_)
  rw [List.forIn_toArray]
  refine wpAny_bind (ksk_fold (fun i s' => ∃ kA e ks H', Inv X ((kS, seqObj "list" kA e) :: (a, seqObj "list" #[] e1) :: pins) σ H' s' ∧ Vals ks kA.toList ∧ kA.size = i ∧ W i ks H') its 0 _ ⟨#[], 0, [], H, pinned I2 hk0 ha0 fk.1 fa.1, .nil, rfl, w0⟩ ?_ ?_)
  · rintro j v s' hv ⟨kA, e, ks, H', J, rk, sz, w⟩
    simp only [Nat.zero_add] at w sz ⊢
    obtain ⟨x, hx, rx⟩ := vals_of rv hv
    have hjl : j < its.length := (List.getElem?_eq_some_iff.1 hv).1
    refine wpAny_bind (wpAny_attempt (wpAny_mono (turn _ j x v ks H' s' (fun _ _ => False) (fun p hp => List.mem_cons_of_mem _ (List.mem_cons_of_mem _ hp)) hx rx w J) (fun u s2 he => ?_) fun _ _ hF => hF.elim))
    obtain ⟨k, H2, J2, r2, w2⟩ := he
    obtain ⟨J3, g1, g2, n1, n2⟩ := unp J2
    try dsimp only
    refine wpAny_bind (listUpdate_at g1 rfl ?_ (by omega) (by rw [Array.size_push]; omega))
    have sb := Heap.SameBut.update s2.heap kS (Obj.mapSeq (·.push u))
    obtain ⟨c2, hc2⟩ : ∃ c2, (s2.heap.update kS (Obj.mapSeq (·.push u))).get? kS = some (seqObj "list" (kA.push u) c2) := ⟨_, get?_update_seq g1 (·.push u)⟩
    refine wpAny_pure ⟨rfl, kA.push u, c2, ks ++ [k], H2, ?_, ?_, by rw [Array.size_push, sz], w2⟩
    · have J4 : Inv X pins σ H2 { s2 with heap := s2.heap.update kS (Obj.mapSeq (·.push u)), toks := s2.toks } := J3.turnedL (ch := [kS]) (fun b o hb e => (sb.2 b (by simpa using hb)).trans e) fun b hb => by
        have : b = kS := by simpa using hb
        rw [this]
        exact FpOk.re fk n1
      exact pinned J4 hc2 ((sb.2 a neK.symm).trans g2) n1 n2
    · have ea : (kA.push u).toList = kA.toList ++ [u] := by simp
      rw [ea]
      exact rk.append (.cons r2 .nil)
  · rintro s' ⟨kA, e, ks, H', J, rk, sz, w⟩
    obtain ⟨J3, g1, g2, n1, n2⟩ := unp J
    have el : 0 + its.length = xs.length := by rw [rv.length]; omega
    rw [el] at w
    obtain ⟨dk, fin⟩ := fin ks H' w
    have hk' := each_reads J rk dk
    try dsimp only
    refine wpAny_bind (listItems_at g1 rfl ?_)
    refine keyH_end (κ := dataKind s'.heap (ds.map key)) (h₁ := PySem.W.hideAll s'.heap [kS]) (fun b o _ e => PySem.W.of_hideAll [kS] e) (PySem.W.hideAll_none [kS] List.mem_cons_self) g1 g2 neK (SortsAt.data (s := s') hk' hal hsk fun d hd => ?_) (by omega) hzi fun h3 tk3 c k3 n3 => ⟨rfl, ?_⟩
    · obtain ⟨d0, h0, rfl⟩ := List.mem_map.1 hd
      exact hu d0 h0
    · have er := keyedOut_each (rev := false) key ⟨s'.heap, kA.toList, hal, rfl, hk'⟩ (each_rp rv hG)
      obtain ⟨ys, vy, ry⟩ := rp_each er
      have keepAll : ∀ b o, b ∉ [kS, a] → s'.heap.get? b = some o → h3.get? b = some o := fun b o hb e => by
        simp at hb
        exact k3 b o hb.2 (PySem.W.hideAll_get [kS] e (by simpa using hb.1))
      have J4 : Inv X pins σ H' { s' with heap := h3, toks := tk3 } := J3.turnedL (ch := [kS, a]) keepAll fun b hb => by
        rcases List.mem_cons.1 hb with rfl | hb
        · exact FpOk.re fk n1
        · have : b = a := by simpa using hb
          rw [this]
          exact FpOk.re fa n2
      have hlen : ys.length ≤ sizeLine := by
        have h1 := ry.len
        rw [List.length_mergeSort, ← hG.len] at h1
        omega
      have J5 : Inv X pins σ (upd H' a (.lst ys)) { s' with heap := h3, toks := tk3 } := J4.take (h' := h3) (t' := tk3) (it := a) (o := .lst ys) (fun b ob _ e => e) (FpOk.re fa n2) ⟨hlen, _, c, vy, n3⟩
      exact ⟨.ref a, _, J5, rfl, fin a ys n2 ry⟩
end Wk
end
section
set_option Elab.async false
set_option linter.all false
set_option maxRecDepth 100000
set_option maxHeartbeats 2000000
namespace Wk
open PySem PySem.Spec PyProof.Rows L2 LamX PySem.W
open Evl (Ex ex_l ex_t sq_of st_of)
/-- what min(xs, key=f) leans on: W i ks H: i keys ks are made -/
structure MinBy (X : Cx) (pins : List (Addr × Obj)) (σ : L2.St) (f l : Addr) (xs : List V) (kz : List PyData) (W : Nat → List V → Hp → Prop) : Prop where
  len : xs.length = kz.length
  al : AllAlike kz
  nn : ∀ d ∈ kz, d ≠ .none
  room : ∀ d ∈ kz, X.A.units + 2 + d.depth < cLine
  hd : X.A.handled = none
  src : ∀ i ks H, W i ks H → SqL X.K H l xs
  keys : ∀ i ks H, W i ks H → DpAll X.K H ks (kz.take i)
  turn : ∀ (pins' : List (Addr × Obj)) (i : Nat) (x : V) (v : Value) (ks : List V) (H : Hp) (s : Shared) (E : Value → Shared → Prop), (∀ p ∈ pins, p ∈ pins') → xs[i]? = some x → RelV x v → W i ks H → Inv X pins' σ H s →
    wpAny (model X.prog X.w) X.A.in1 (call (.ref f) [v]) (EP X pins' σ fun k H' => W (i + 1) (ks ++ [k]) H') E s
def btOf (kz : List PyData) (i j : Nat) : Bool := dataLt (kz.getD i .none) (kz.getD j .none)
theorem argBest_le (bt : Nat → Nat → Bool) : ∀ j, argBest bt j ≤ j
  | 0 => Nat.le_refl _
  | j + 1 => by
    unfold argBest
    split
    · exact Nat.le_refl _
    · exact Nat.le_succ_of_le (argBest_le bt j)
theorem dpAll_get {K : PySem.W.Frag} {H : Hp} : ∀ {ks : List V} {ds : List PyData} {i : Nat} {k : V}, DpAll K H ks ds → ks[i]? = some k → Dp K H k (ds.getD i .none)
  | _, _, _, _, .nil, e => by simp at e
  | _, _, 0, _, .cons h _, e => by simp at e; subst e; exact h
  | _, _, i + 1, k, .cons _ t, e => by
    have := dpAll_get (i := i) (k := k) t (by simpa using e)
    simpa using this
theorem dpAll_len {K : PySem.W.Frag} {H : Hp} : ∀ {ks : List V} {ds : List PyData}, DpAll K H ks ds → ks.length = ds.length
  | _, _, .nil => rfl
  | _, _, .cons _ t => by rw [List.length_cons, List.length_cons, dpAll_len t]
section
variable {X : Cx} {pins : List (Addr × Obj)} {σ : L2.St} {f l it S : Addr} {xs : List V} {kz : List PyData} {W : Nat → List V → Hp → Prop} {R : Result → Shared → Prop}
/-- the two objects of the walk are pinned -/
structure Pn (X : Cx) (pins : List (Addr × Obj)) (it S l : Addr) : Prop where
  fi : ∀ H, H it = none → FpOk X pins H it
  fs : ∀ H, H S = none → FpOk X pins H S
  ne : S ≠ it
def two (it S l : Addr) (i : Nat) (vs : Array Value) (c : Nat) : List (Addr × Obj) := [(S, seqObj "list" vs c), (it, { cls := .type "list_iterator", data := .fields #[.ref l, .int i 0] })]
theorem isIter_obj {h : Heap} {it l : Addr} {i : Nat} (e : h.get? it = some { cls := .type "list_iterator", data := .fields #[.ref l, .int i 0] }) : h.IsListIter it l i := ⟨_, e, rfl, rfl⟩
/-- S's object, and an iterator's at the place i -/
structure Two (X : Cx) (pins : List (Addr × Obj)) (σ : L2.St) (H : Hp) (s : Shared) (it S l : Addr) (i : Nat) (vs : Array Value) (c : Nat) (oi : Obj) : Prop where
  inv : Inv X ((S, seqObj "list" vs c) :: (it, oi) :: pins) σ H s
  oc : oi.cls = .type "list_iterator"
  od : oi.data = .fields #[.ref l, .int i 0]
theorem Two.un {H : Hp} {s : Shared} {i c : Nat} {vs : Array Value} {oi : Obj} (t : Two X pins σ H s it S l i vs c oi) : Inv X pins σ H s ∧ s.heap.get? S = some (seqObj "list" vs c) ∧ s.heap.get? it = some oi ∧ H S = none ∧ H it = none := by
  have p1 := t.inv.pin (S, seqObj "list" vs c) (List.mem_append.2 (.inr List.mem_cons_self))
  have p2 := t.inv.pin (it, oi) (List.mem_append.2 (.inr (List.mem_cons_of_mem _ List.mem_cons_self)))
  exact ⟨t.inv.pins_of fun p hp => t.inv.pin p (List.mem_append.2 (.inr (List.mem_cons_of_mem _ (List.mem_cons_of_mem _ hp)))), p1.1, p2.1, p1.2.1, p2.2.1⟩
theorem Two.mk' {H : Hp} {s : Shared} {i c : Nat} {vs : Array Value} {oi : Obj} (P : Pn X pins it S l) (J : Inv X pins σ H s) (g1 : s.heap.get? S = some (seqObj "list" vs c)) (g2 : s.heap.get? it = some oi) (oc : oi.cls = .type "list_iterator") (od : oi.data = .fields #[.ref l, .int i 0]) (n1 : H S = none) (n2 : H it = none) : Two X pins σ H s it S l i vs c oi := by
  refine ⟨J.pins_of fun p hp => ?_, oc, od⟩
  rcases List.mem_cons.1 hp with rfl | hp
  · exact ⟨g1, n1, (P.fs H n1).2.1, (P.fs H n1).2.2.1, fun v z => nomatch z⟩
  rcases List.mem_cons.1 hp with rfl | hp
  · exact ⟨g2, n2, (P.fi H n2).2.1, (P.fi H n2).2.2.1, fun v z => by rw [od] at z; cases z⟩
  · exact J.pin p (List.mem_append.2 (.inr hp))
/-- S's content changes -/
theorem Two.store {H : Hp} {s : Shared} {i c : Nat} {vs ws : Array Value} {oi : Obj} (P : Pn X pins it S l) (t : Two X pins σ H s it S l i vs c oi) : ∃ c', Two X pins σ H { s with heap := s.heap.update S (Obj.mapSeq fun _ => ws), toks := s.toks } it S l i ws c' oi := by
  obtain ⟨J, g1, g2, n1, n2⟩ := t.un
  have sb := Heap.SameBut.update s.heap S (Obj.mapSeq fun _ => ws)
  obtain ⟨c', hc'⟩ : ∃ c', (s.heap.update S (Obj.mapSeq fun _ => ws)).get? S = some (seqObj "list" ws c') := ⟨_, get?_update_seq g1 fun _ => ws⟩
  refine ⟨c', Two.mk' P (J.turnedL (ch := [S]) (fun b o hb e => (sb.2 b (by simpa using hb)).trans e) fun b hb => ?_) hc' ((sb.2 it P.ne.symm).trans g2) t.oc t.od n1 n2⟩
  have : b = S := by simpa using hb
  rw [this]
  exact P.fs H n1
/-- the iterator gives the i-th item -/
theorem Two.next {H : Hp} {s : Shared} {i c : Nat} {vs : Array Value} {oi : Obj} {x : V} {A : Around} {Q : Option Value → Shared → Prop} {E : Value → Shared → Prop} (P : Pn X pins it S l) (t : Two X pins σ H s it S l i vs c oi) (hl : SqL X.K H l xs) (hx : xs[i]? = some x)
    (h : ∀ v s' oi', RelV x v → Two X pins σ H s' it S l (i + 1) vs c oi' → Q (some v) s') : wpAny (model X.prog X.w) A (pyNext (.ref it)) Q E s := by
  obtain ⟨J, g1, g2, n1, n2⟩ := t.un
  obtain ⟨its, rv, p, hz⟩ := J.list hl
  obtain ⟨u, hu, ru⟩ := rv.get hx
  refine wpAny_pyNext_list_item ⟨oi, g2, t.oc, t.od⟩ p.isList (x := u) (by simpa using hu) fun g st sb => ?_
  obtain ⟨o', e1, e2, e3⟩ := st
  have J1 : Inv X pins σ H { s with heap := g, toks := s.toks } := J.turnedL (ch := [it]) (fun b o hb e => (sb.2 b (by simpa using hb)).trans e) fun b hb => by
    have : b = it := by simpa using hb
    rw [this]
    exact P.fi H n2
  exact h u _ o' ru (Two.mk' P J1 ((sb.2 S P.ne).trans g1) e1 e2 e3 n1 n2)
theorem Two.stop {H : Hp} {s : Shared} {i c : Nat} {vs : Array Value} {oi : Obj} {A : Around} {Q : Option Value → Shared → Prop} {E : Value → Shared → Prop} (P : Pn X pins it S l) (t : Two X pins σ H s it S l i vs c oi) (hh : A.handled = none) (hl : SqL X.K H l xs) (hx : xs.length ≤ i)
    (h : ∀ s', Inv X pins σ H s' → s'.heap.get? S = some (seqObj "list" vs c) → Q none s') : wpAny (model X.prog X.w) A (pyNext (.ref it)) Q E s := by
  obtain ⟨J, g1, g2, n1, n2⟩ := t.un
  obtain ⟨its, rv, p, hz⟩ := J.list hl
  have hl2 := rv.length
  refine wpAny_pyNext_list_end hh ⟨oi, g2, t.oc, t.od⟩ p.isList (by simp; omega) fun g eb => ?_
  refine h _ (J.turnedL (t' := s.toks) (ch := [it]) (fun b o hb e => eb b o (by simpa using hb) e) fun b hb => ?_) (eb S _ P.ne g1)
  have : b = it := by simpa using hb
  rw [this]
  exact P.fi H n2
/-- the loop, behind j + 1 items -/
theorem min_rest (M : MinBy X pins σ f l xs kz W) (P : Pn X pins it S l) (kw : List (Str × Value)) (fin : ∀ ks H s' xb v, W xs.length ks H → Inv X pins σ H s' → xs[argBest (btOf kz) (xs.length - 1)]? = some xb → RelV xb v → R (.ok (.ret v)) s') :
    ∀ (k j : Nat) (s : Shared) (vb kb : Value) (c : Nat) (ks : List V) (H : Hp) (oi : Obj) (xb kv : V), xs.length - (j + 1) = k → j + 1 ≤ xs.length → Two X pins σ H s it S l (j + 1) #[vb, kb] c oi → W (j + 1) ks H → xs[argBest (btOf kz) j]? = some xb → RelV xb vb → ks[argBest (btOf kz) j]? = some kv → RelV kv kb →
      codeAny (model X.prog X.w) X.A (.builtin "min.loop" ⟨[.ref it, .ref f, .ref S], kw⟩) R s := by
  have nm : (toString "min" ++ toString ".loop" : String) = "min.loop" := by decide
  intro k
  induction k with
  | zero =>
    intro j s vb kb c ks H oi xb kv e1 e2 t w hxb rxb hkv rkv
    have hn : j + 1 = xs.length := by omega
    refine codeAny_builtin F.entry_min_loop ?_; rw [Around.under_plainId F.plain_min_loop _]
    show wpAny _ X.A.in1 (seqItems? (.ref S) >>= _) _ _ s
    refine wpAny_bind (wpAny_seqItems t.un.2.1 rfl ?_)
    show wpAny _ X.A.in1 (tryCatch (pyNext (.ref it)) _ >>= _) _ _ s
    refine wpAny_bind (wpAny_tryCatch (t.stop P M.hd (M.src _ _ _ w) (by omega) fun s1 J1 g1 => ?_))
    show wpAny _ X.A.in1 (updateSeq S (fun _ => #[]) >>= _) _ _ _
    refine wpAny_bind (wpAny_updateSeq g1 rfl (wpAny_bind (wpAny_letGo (wpAny_pure ?_))))
    have sb := Heap.SameBut.update s1.heap S (Obj.mapSeq fun _ => (#[] : Array Value))
    have J2 : Inv X pins σ H { s1 with heap := s1.heap.update S (Obj.mapSeq fun _ => (#[] : Array Value)), toks := s1.toks } := J1.turnedL (ch := [S]) (fun b o hb e => (sb.2 b (by simpa using hb)).trans e) fun b hb => by
      have : b = S := by simpa using hb
      rw [this]
      exact P.fs H t.un.2.2.2.1
    rw [hn] at w
    exact fin ks H _ xb vb w J2 (by rw [← hn]; exact hxb) rxb
  | succ k ih =>
    intro j s vb kb c ks H oi xb kv e1 e2 t w hxb rxb hkv rkv
    have hlt : j + 1 < xs.length := by omega
    obtain ⟨x, hx⟩ : ∃ x, xs[j + 1]? = some x := ⟨_, List.getElem?_eq_getElem hlt⟩
    refine codeAny_builtin F.entry_min_loop ?_; rw [Around.under_plainId F.plain_min_loop _]
    show wpAny _ X.A.in1 (seqItems? (.ref S) >>= _) _ _ s
    refine wpAny_bind (wpAny_seqItems t.un.2.1 rfl ?_)
    show wpAny _ X.A.in1 (tryCatch (pyNext (.ref it)) _ >>= _) _ _ s
    refine wpAny_bind (wpAny_tryCatch (t.next P (M.src _ _ _ w) hx fun v s1 o1 rv t1 => ?_))
    show wpAny _ X.A.in1 (tryCatch (holding [v] (call (.ref f) [v])) _ >>= _) _ _ _
    refine wpAny_bind (wpAny_tryCatch (wpAny_holding (wpAny_mono (M.turn _ (j + 1) x v ks H s1 (fun _ _ => False) (fun p hp => List.mem_cons_of_mem _ (List.mem_cons_of_mem _ hp)) hx rv w t1.inv) (fun kx s2 he => ?_) fun _ _ hF => hF.elim)))
    obtain ⟨kn, H2, J2, r2, w2⟩ := he
    have t2 : Two X pins σ H2 s2 it S l (j + 1 + 1) #[vb, kb] c o1 := ⟨J2, t1.oc, t1.od⟩
    have dk := M.keys _ _ _ w2
    have hks : ks.length = j + 1 := by
      have := dpAll_len dk
      rw [List.length_append, List.length_take] at this
      have h3 := M.len
      simp at this
      omega
    have am := argBest_le (btOf kz) j
    have gd : ∀ i, i < j + 1 + 1 → (kz.take (j + 1 + 1)).getD i .none = kz.getD i .none := fun i hi => by
      rw [List.getD_eq_getElem?_getD, List.getD_eq_getElem?_getD, List.getElem?_take, if_pos hi]
    have d1 : Dp X.K H2 kn (kz.getD (j + 1) .none) := by
      have := dpAll_get (i := j + 1) (k := kn) dk (by rw [List.getElem?_append_right (by omega), hks]; simp)
      rwa [gd _ (by omega)] at this
    have d2 : Dp X.K H2 kv (kz.getD (argBest (btOf kz) j) .none) := by
      have := dpAll_get (i := argBest (btOf kz) j) (k := kv) dk (by rw [List.getElem?_append_left (by omega)]; exact hkv)
      rwa [gd _ (by omega)] at this
    obtain ⟨as1, R1⟩ := Dp.reads J2 _ _ _ d1 r2
    obtain ⟨as2, R2'⟩ := Dp.reads J2 _ _ _ d2 rkv
    have mem : ∀ i, i < kz.length → kz.getD i .none ∈ kz := fun i hi => by
      rw [List.getD_eq_getElem?_getD, List.getElem?_eq_getElem hi]
      exact List.getElem_mem hi
    have hk1 : kz.getD (j + 1) .none ∈ kz := mem _ (by have := M.len; omega)
    have hk2 : kz.getD (argBest (btOf kz) j) .none ∈ kz := mem _ (by have := M.len; omega)
    have rc := rcLt_alike _ _ X.A.in1 s2 kx kb as1 as2 R1 R2' (M.al _ hk1 _ hk2) (M.nn _ hk1) (by
      have h1 := M.room _ hk1
      have h2 : min (kz.getD (j + 1) .none).depth (kz.getD (argBest (btOf kz) j) .none).depth ≤ (kz.getD (j + 1) .none).depth := Nat.min_le_left _ _
      show X.A.units + 1 + _ < cLine
      omega)
    show wpAny _ X.A.in1 (tryCatch (holding [v, kx] (richCompare .Lt kx kb >>= _)) _ >>= _) _ _ _
    refine wpAny_bind (wpAny_tryCatch (wpAny_holding (wpAny_bind (rc _ _ _ _ ?_))))
    refine wpAny_bind (wpAny_holding (wpAny_truthy_bool ?_)); refine wpAny_bind (wpAny_letGo (wpAny_pure ?_))
    have hb : btOf kz (j + 1) (argBest (btOf kz) j) = dataLt (kz.getD (j + 1) .none) (kz.getD (argBest (btOf kz) j) .none) := rfl
    rw [← hb]
    have ab : argBest (btOf kz) (j + 1) = if btOf kz (j + 1) (argBest (btOf kz) j) = true then j + 1 else argBest (btOf kz) j := rfl
    cases q : btOf kz (j + 1) (argBest (btOf kz) j) with
    | true =>
      rw [q, if_pos rfl] at ab
      simp only [if_true]
      obtain ⟨c3, t3⟩ := t2.store P (ws := #[v, kx])
      refine wpAny_bind (wpAny_updateSeq t2.un.2.1 rfl (wpAny_bind (wpAny_letGo ?_)))
      rw [nm]
      refine wpAny_pure ⟨plainId_quiet F.plain_min_loop _, ih (j + 1) _ v kx c3 (ks ++ [kn]) H2 o1 x kn (by omega) hlt t3 w2 (by rw [ab]; exact hx) rv (by rw [ab, List.getElem?_append_right (by omega), hks]; simp) r2⟩
    | false =>
      rw [q, if_neg (by decide)] at ab
      simp only [Bool.false_eq_true, if_false]
      refine wpAny_bind (wpAny_letGo ?_)
      rw [nm]
      refine wpAny_pure ⟨plainId_quiet F.plain_min_loop _, ih (j + 1) _ vb kb c (ks ++ [kn]) H2 o1 xb kv (by omega) hlt t2 w2 (by rw [ab]; exact hxb) rxb (by rw [ab, List.getElem?_append_left (by omega)]; exact hkv) rkv⟩
/-- min(xs, key=f) -/
theorem min_by {s : Shared} {H : Hp} {Q : VK} (I : Inv X pins σ H s) (M : MinBy X pins σ f l xs kz W) (hn : xs ≠ []) (w0 : W 0 [] H) (fin : ∀ ks H xb, W xs.length ks H → xs[argBest (btOf kz) (xs.length - 1)]? = some xb → Q xb H) :
    wpAny (model X.prog X.w) X.A (call (.builtin "min") [.ref l] [(Str.ofString "key", .ref f)]) (EP X pins σ Q) X.xe s := by
  have nm : (toString "min" ++ toString ".loop" : String) = "min.loop" := by decide
  have hpos : 0 < xs.length := List.length_pos_iff.2 hn
  obtain ⟨x, hx⟩ : ∃ x, xs[0]? = some x := ⟨_, List.getElem?_eq_getElem hpos⟩
  obtain ⟨its, rv, hp, hz⟩ := I.list (M.src _ _ _ w0)
  refine PyProof.Rows.kmk_tree F.kind_min F.plain_min F.entry_min (PyProof.Rows.kmk_min_key _ _) ?_
  show wpAny _ X.A.in1 (Builtin.Builtins.bindParams "min" ["key", "default"] 0 ⟨[], [(Str.ofString "key", .ref f)]⟩ >>= _) _ _ s
  refine wpAny_bind (wpAny_of_eq (show Builtin.Builtins.bindParams "min" ["key", "default"] 0 ⟨[], [(Str.ofString "key", .ref f)]⟩ = pure [some (.ref f), none] from rfl) (wpAny_bind (wpAny_pure ?_)))
  refine wpAny_bind (wpAny_pyIter_list hp.isList ?_)
  refine wpAny_bind (wpAny_newObj_type ?_); rw [nm]
  generalize hh1 : s.heap.push { cls := .type "list_iterator", data := .fields #[.ref l, .int 0 0] } = h1
  have u1 : ∀ b o, s.heap.get? b = some o → h1.get? b = some o := fun b o e => by rw [← hh1]; exact Heap.get?_push_of_some _ e
  have i1 : h1.get? s.heap.objs.size = some { cls := .type "list_iterator", data := .fields #[.ref l, .int 0 0] } := by rw [← hh1]; exact Heap.get?_push_size _ rfl
  have b1 : h1.objs.size = s.heap.objs.size + 1 := by rw [← hh1, size_push']
  have I1 : Inv X pins σ H { s with heap := h1.push { cls := .type "list", data := .seq #[] 0 } } := I.kept (t' := s.toks) fun b o e => Heap.get?_push_of_some _ (u1 b o e)
  have big : s.heap.objs.size ≤ h1.objs.size := by omega
  have P : Pn X pins s.heap.objs.size h1.objs.size l := ⟨fun H' h => FpOk.re (I.fpOk (Nat.le_refl _) (I.hok.fresh (Nat.le_refl _))) h, fun H' h => FpOk.re (I.fpOk big (I.hok.fresh big)) h, by rw [b1]; exact Nat.succ_ne_self _⟩
  have t0 : Two X pins σ H { s with heap := h1.push { cls := .type "list", data := .seq #[] 0 } } s.heap.objs.size h1.objs.size l 0 #[] 0 _ := Two.mk' P I1 (Heap.get?_push_size _ rfl) (Heap.get?_push_of_some _ i1) rfl rfl (I.hok.fresh big) (I.hok.fresh (Nat.le_refl _))
  refine wpAny_pure ⟨plainId_quiet F.plain_min_loop _, ?_⟩
  show codeAny _ _ (.builtin "min.loop" ⟨[.ref s.heap.objs.size, .ref f, .ref h1.objs.size], _⟩) _ _
  refine codeAny_builtin F.entry_min_loop ?_; rw [Around.under_plainId F.plain_min_loop _]
  show wpAny _ X.A.in1 (seqItems? (.ref h1.objs.size) >>= _) _ _ _
  refine wpAny_bind (wpAny_seqItems t0.un.2.1 rfl ?_)
  show wpAny _ X.A.in1 (tryCatch (pyNext (.ref s.heap.objs.size)) _ >>= _) _ _ _
  refine wpAny_bind (wpAny_tryCatch (t0.next P (M.src _ _ _ w0) hx fun v s1 o1 rv t1 => ?_))
  show wpAny _ X.A.in1 (tryCatch (holding [v] (call (.ref f) [v])) _ >>= _) _ _ _
  refine wpAny_bind (wpAny_tryCatch (wpAny_holding (wpAny_mono (M.turn _ 0 x v [] H s1 (fun _ _ => False) (fun p hp => List.mem_cons_of_mem _ (List.mem_cons_of_mem _ hp)) hx rv w0 t1.inv) (fun kx s2 he => ?_) fun _ _ hF => hF.elim)))
  obtain ⟨kn, H2, J2, r2, w2⟩ := he
  have t2 : Two X pins σ H2 s2 s.heap.objs.size h1.objs.size l (0 + 1) #[] 0 o1 := ⟨J2, t1.oc, t1.od⟩
  obtain ⟨c3, t3⟩ := t2.store P (ws := #[v, kx])
  show wpAny _ X.A.in1 (updateSeq h1.objs.size (fun _ => #[v, kx]) >>= _) _ _ _
  refine wpAny_bind (wpAny_updateSeq t2.un.2.1 rfl ?_)
  rw [nm]
  refine wpAny_pure ⟨plainId_quiet F.plain_min_loop _, min_rest M P _ (fun ks H' s' xb u w J hxb ru => ?_) _ 0 _ v kx c3 _ H2 o1 x kn rfl hpos t3 w2 hx rv rfl r2⟩
  exact ⟨xb, H', J, ru, fin ks H' xb w hxb⟩
end
end Wk
end
section
set_option Elab.async false
set_option linter.all false
set_option maxRecDepth 100000
set_option maxHeartbeats 2000000
namespace Wk
open PySem PySem.Spec PyProof.Rows L2 LamX PySem.W
open Evl (Ex ex_l ex_t sq_of st_of)
/-! ### sorted and min by a lambda: rules and readings -/
/-- what the rules ask of the lambda -/
structure LamOk (X : Cx) (A : Around) (params : Arguments) (body : Expr) (scope : Scope) (p fr : Str) (j k : Nat) (co tb : Addr) (tl : TE) : Prop where
  L : LamP X.env.scope scope p fr
  B : TabB X.base X.mg co tb
  code : X.env.code = .ref co
  df : defaultsOf params X.env = ([], [])
  fr' : A.frames = X.A.frames
  room : Room (k + 1) A
  bind : ∀ (q : Str) (cl : List (Str × Addr)) (pm cv ctv u : Value), bindArgs (PySem.W.kla_fn "<lambda>" q params body scope cl pm cv ctv) ⟨[u], []⟩ = pure [(p, u)]
  slot : X.N[j]? = some fr
  ne : p ≠ fr
  run : ∀ (f cd : Addr) (s : Shared) (H : Hp), Room k (A.deeper (lamEnv X scope s.heap.objs.size f cd)) → PE (lamX X A s H scope f cd p fr) body tl
section
variable {X : Cx} {A : Around} {params : Arguments} {body : Expr} {scope : Scope} {p fr x : Str} {j k : Nat} {co tb : Addr} {tl te : TE} {id : String} {e : Expr} {lpos kpos pos np : Pos}
abbrev qL (X : Cx) : Str := X.env.qual ++ "<lambda>"
abbrev oL (X : Cx) (params : Arguments) (body : Expr) (scope : Scope) (pm : Value) (cd : Addr) (ctv : Value) : Obj := PySem.W.kla_obj "<lambda>" (X.env.qual ++ "<lambda>") params body scope (cloFrom X.env.cells scope.names []) pm cd ctv
theorem call_lam (O : LamOk X A params body scope p fr j k co tb tl) (hg : Gl X x) (hm : X.mg x = none) (hv : bootBuiltins x = some (.builtin id)) (he : PE X e te) {pins : List (Addr × Obj)} {s : Shared} {σ : L2.St} {H : Hp} {Q P : VK} (I : Inv X pins σ H s) (h : te σ H P)
    (hP : ∀ v H1, P v H1 → TabS H1 tb (qL X) ∧ ∀ (u : Value) (s1 : Shared) (f cd : Addr) (pm ctv : Value) (H2 : Hp), RelV v u → Made H1 tb (qL X) cd H2 → Inv X ((f, oL X params body scope pm cd ctv) :: pins) σ H2 s1 →
      wpAny (model X.prog X.w) X.A (call (.builtin id) [u] [(Str.ofString "key", .ref f)]) (EP X ((f, oL X params body scope pm cd ctv) :: pins) σ Q) X.xe s1)
    (hn : x ≠ "__name__" := by decide) (hdb : (x == ("__debug__" : Str)) = false := by decide)
    (ha : backTo pos (starEach [e] X.env) = (false, eval e X.env) :: backTo pos (starEach [] X.env) := by rfl) (hpl : (backTo pos (starEach [e] X.env)).any (·.1) = false := by rfl) (hse : starEach [e] X.env = (false, eval e X.env) :: starEach [] X.env := by rfl) :
    wpAny (model X.prog X.w) X.A (eval (.Call (.Name x np) [e] [⟨some "key", .Lambda params body scope lpos, kpos⟩] pos) X.env) (EP X pins σ Q) X.xe s := by
  refine wpAny_Call_Name_kw (ld_blt I hg hm hv ?_ hn hdb)
  refine PyProof.Rows.callWith_kw (thn ((pa_cons (hs := hse) he pa_nil).run pos pins s σ H (fun vs H1 => match vs with | [v] => P v H1 | _ => False) I h) fun us s1 ⟨vs, H1, I1, r1, q0⟩ => ?_) ha hpl rfl rfl
  match vs, q0 with
  | [v], q0 =>
    obtain ⟨hT, q1⟩ := hP v H1 q0
    obtain ⟨u, rfl, ru⟩ : ∃ u, us = [u] ∧ RelV v u := by
      cases r1 with
      | cons a b => cases b; exact ⟨_, rfl, a⟩
    show wpAny _ _ (evalAll [do let v ← eval (.Lambda params body scope lpos) X.env; standAt pos; pure v]) _ _ s1
    refine wpAny_evalAll_cons (wpAny_bind (lam_mk I1 O.B O.code hT O.df (fun y hy e => I1.ok.has _ (.inl (O.L.free y hy e))) fun f cd pm ctv H2 s2 md I2 hf nf big => wpAny_bind (wpAny_standAt (wpAny_pure (wpAny_evalAll_nil ?_)))))
    have ff : FpOk X pins H2 f := I1.fpOk big nf
    have I3 : Inv X ((f, oL X params body scope pm cd ctv) :: pins) σ H2 s2 := I2.pins_of fun p hp => by
      rcases List.mem_cons.1 hp with rfl | hp
      · exact ⟨hf, nf, ff.2.1, ff.2.2.1, fun v z => nomatch z⟩
      · exact I2.pin p (List.mem_append.2 (.inr hp))
    refine thn (q1 u s2 f cd pm ctv H2 ru md I3) fun r s3 ⟨z, H4, I4, r4, q4⟩ => ⟨z, H4, I4.pins_of fun p hp => I4.pin p (List.mem_append.2 (.inr (List.mem_cons_of_mem _ hp))), r4, q4⟩
def tSortK (K : PySem.W.Frag) (tb : Addr) (q : Str) (j : Nat) (te tl : TE) : TE := fun σ H Q => te σ H fun v H1 => TabS H1 tb q ∧ ∃ (l : Addr) (xs : List V) (y : V) (ds : List PyData) (key : PyData → PyData) (G : Hp), v = .ref l ∧ σ[j]? = some (some y) ∧ RpAll G xs ds ∧ AllAlike (ds.map key) ∧ Sortable (ds.map key) ∧ (∀ d ∈ ds, (key d).depth ≤ 20) ∧
  ∀ H2 cd, Made H1 tb q cd H2 → ∃ W : Nat → List V → Hp → Prop, W 0 [] H2 ∧ SqL K H2 l xs ∧ (∀ i ks H, W i ks H → H cd = some (CodeO cd q)) ∧ (∀ i x ks H, xs[i]? = some x → W i ks H → tl [some x, some y] H fun k H' => W (i + 1) (ks ++ [k]) H') ∧
    ∀ ks H', W xs.length ks H' → DpAll K H' ks (ds.map key) ∧ ∀ p ys, H' p = none → RpAll G ys (ds.mergeSort (dataLe false key)) → Q (.ref p) (upd H' p (.lst ys))
theorem pe_sortK (O : LamOk X X.A.in1.in1 params body scope p fr j k co tb tl) (hr : Room 0 X.A) (hg : Gl X "sorted") (hm : X.mg "sorted" = none) (he : PE X e te) (ha : backTo pos (starEach [e] X.env) = (false, eval e X.env) :: backTo pos (starEach [] X.env) := by rfl) (hpl : (backTo pos (starEach [e] X.env)).any (·.1) = false := by rfl) (hse : starEach [e] X.env = (false, eval e X.env) :: starEach [] X.env := by rfl) :
    PE X (.Call (.Name "sorted" np) [e] [⟨some "key", .Lambda params body scope lpos, kpos⟩] pos) (tSortK X.K tb (qL X) j te tl) := by
  refine ⟨fun pins s σ H Q I h => ?_⟩
  refine call_lam O hg hm (by rfl) he I h ?_ (by decide) (by decide) ha hpl hse
  · rintro v H1 ⟨hT, l, xs, y, ds, key, G, rfl, hy, hG, hal, hsk, hdp, rest⟩
    refine ⟨hT, fun u s1 f cd pm ctv H2 ru md I1 => ?_⟩
    obtain rfl : u = Value.ref l := ru
    obtain ⟨W, w0, hl, hcd, turn, fin⟩ := rest H2 cd md
    refine sorted_by I1 hl hG hal hsk (fun d hd => ?_) w0 (fun pins' i x v ks H s E sub hx rx w J => ?_) fin
    · have := hdp d hd
      have h2 := hr.un
      omega
    · exact lam_call J O.L O.fr' O.room (J.pin (f, oL X params body scope pm cd ctv) (List.mem_append.2 (.inr (sub _ List.mem_cons_self)))).1 (hcd i ks H w) O.bind O.slot hy rx O.ne (fun s H r => O.run f cd s H r) (turn i x ks H hx w)
def tMinK (K : PySem.W.Frag) (tb : Addr) (q : Str) (j : Nat) (te tl : TE) : TE := fun σ H Q => te σ H fun v H1 => TabS H1 tb q ∧ ∃ (l : Addr) (xs : List V) (y : V) (kz : List PyData), v = .ref l ∧ xs ≠ [] ∧ σ[j]? = some (some y) ∧ xs.length = kz.length ∧ AllAlike kz ∧ (∀ d ∈ kz, d ≠ .none ∧ d.depth ≤ 20) ∧
  ∀ H2 cd, Made H1 tb q cd H2 → ∃ W : Nat → List V → Hp → Prop, W 0 [] H2 ∧ (∀ i ks H, W i ks H → H cd = some (CodeO cd q) ∧ SqL K H l xs ∧ DpAll K H ks (kz.take i)) ∧ (∀ i x ks H, xs[i]? = some x → W i ks H → tl [some x, some y] H fun k H' => W (i + 1) (ks ++ [k]) H') ∧
    ∀ ks H' xb, W xs.length ks H' → xs[argBest (btOf kz) (xs.length - 1)]? = some xb → Q xb H'
theorem pe_minK (O : LamOk X X.A.in1 params body scope p fr j k co tb tl) (hr : Room 0 X.A) (hg : Gl X "min") (hm : X.mg "min" = none) (he : PE X e te) (ha : backTo pos (starEach [e] X.env) = (false, eval e X.env) :: backTo pos (starEach [] X.env) := by rfl) (hpl : (backTo pos (starEach [e] X.env)).any (·.1) = false := by rfl) (hse : starEach [e] X.env = (false, eval e X.env) :: starEach [] X.env := by rfl) :
    PE X (.Call (.Name "min" np) [e] [⟨some "key", .Lambda params body scope lpos, kpos⟩] pos) (tMinK X.K tb (qL X) j te tl) := by
  refine ⟨fun pins s σ H Q I h => ?_⟩
  refine call_lam O hg hm (by rfl) he I h ?_ (by decide) (by decide) ha hpl hse
  rintro v H1 ⟨hT, l, xs, y, kz, rfl, hne, hy, hlen, hal, hdp, rest⟩
  refine ⟨hT, fun u s1 f cd pm ctv H2 ru md I1 => ?_⟩
  obtain rfl : u = Value.ref l := ru
  obtain ⟨W, w0, hW, turn, fin⟩ := rest H2 cd md
  refine min_by I1 (kz := kz) (W := W) ⟨hlen, hal, fun d hd => (hdp d hd).1, fun d hd => ?_, hr.hd, fun i ks H w => (hW i ks H w).2.1, fun i ks H w => (hW i ks H w).2.2, fun pins' i x v ks H s E sub hx rx w J => ?_⟩ hne w0 fin
  · have := (hdp d hd).2
    have h2 := hr.un
    omega
  · exact lam_call J O.L O.fr' O.room (J.pin (f, oL X params body scope pm cd ctv) (List.mem_append.2 (.inr (sub _ List.mem_cons_self)))).1 (hW i ks H w).1 O.bind O.slot hy rx O.ne (fun s H r => O.run f cd s H r) (turn i x ks H hx w)
end
/-! ### over data and cells -/
def cT (q : Str) : CP := ⟨fun G o => ∃ ps : Array Value, o = .tbl ps ∧ TriplesOk ps.toList ∧ ∀ (pos : Pos) (cv : Value), codeAmong pos ps.toList = some cv → ∃ c, cv = .ref c ∧ G c = some (CodeO c q), fun e h => by
  obtain ⟨ps, h1, h2, h3⟩ := h
  refine ⟨ps, h1, h2, fun pos cv hc => ?_⟩
  obtain ⟨c, k1, k2⟩ := h3 pos cv hc
  exact ⟨c, k1, e _ _ k2⟩⟩
section
variable {C : Cs} {G H H2 : Hp} {tb cd : Addr} {q : Str}
theorem tab_of (e : Ex G H) (c : Cl C G H) (hT : (tb, cT q) ∈ C) : TabS H tb q := by
  obtain ⟨o, h1, ⟨ps, rfl, h2, h3⟩, _⟩ := c.at' tb _ hT
  refine ⟨ps, h1, h2, fun pos cv hc => ?_⟩
  obtain ⟨c, k1, k2⟩ := h3 pos cv hc
  exact ⟨c, k1, e _ _ k2⟩
theorem made_tr (e : Ex G H) (c : Cl C G H) (hT : (tb, cT q) ∈ C) (m : Made H tb q cd H2) : ∃ G2, Tr C G H C G2 H2 ∧ G2 cd = some (CodeO cd q) := by
  obtain ⟨o, h1, ⟨ps, rfl, h2, h3⟩, hG⟩ := c.at' tb _ hT
  obtain ⟨m1, m2⟩ := m
  rcases m2 with ⟨ps', pos, k1, k2, rfl⟩ | ⟨ps', pos, k1, k2, rfl⟩
  · rw [h1] at k1
    cases k1
    obtain ⟨c1, z1, z2⟩ := h3 pos _ k2
    cases z1
    exact ⟨G, Tr.rfl' e c, z2⟩
  · rw [h1] at k1
    cases k1
    have ne : tb ≠ cd := ne_of_none h1 k2
    have t1 := Tr.of c (Wn.put (o := CodeO cd q) e k2)
    obtain ⟨Ca, Cb, rfl⟩ := List.append_of_mem hT
    have tl : (ps ++ #[rawInt pos.line, rawInt pos.col, .ref cd]).toList = ps.toList ++ [rawInt pos.line, rawInt pos.col, .ref cd] := by simp
    have t2 := Tr.put (y := cT q) (o := .tbl (ps ++ #[rawInt pos.line, rawInt pos.col, .ref cd])) t1.dn t1.cl ⟨_, rfl, by rw [tl]; exact PySem.TriplesOk_snoc _ _ _ _ h2, fun p' cv hcv => by
      rw [tl] at hcv
      rcases among_app _ h2 hcv with z | z
      · obtain ⟨c0, f1, f2⟩ := h3 p' cv z
        exact ⟨c0, f1, t1.up _ _ f2⟩
      · exact ⟨cd, z, upd_same⟩⟩
    have eH : upd (upd H tb (.tbl (ps ++ #[rawInt pos.line, rawInt pos.col, .ref cd]))) cd (CodeO cd q) = upd (upd H cd (CodeO cd q)) tb (.tbl (ps ++ #[rawInt pos.line, rawInt pos.col, .ref cd])) := by
      funext b
      by_cases z1 : b = cd
      · rw [z1, upd_same, upd_ne ne.symm, upd_same]
      · rw [upd_ne z1]
        by_cases z2 : b = tb
        · rw [z2, upd_same, upd_same]
        · rw [upd_ne z2, upd_ne z2, upd_ne z1]
    rw [eH]
    exact ⟨_, t1.trans c t2, upd_same⟩
end
theorem RpAll.dpT {K : PySem.W.Frag} {G H : Hp} {vs : List V} {ds : List PyData} (h : RpAll G vs ds) (e : Ex G H) : DpAll K H vs ds := RpAll.dp (h.ex e)
section
variable {K : PySem.W.Frag} {L : Sls} {C : Cs} {te tl : TE} {ds : List PyData} {tb : Addr} {q : Str} {j : Nat} {z : Int}
theorem sl_two {G : Hp} {x y : V} {d : PyData} {z : Int} (h : Rp G x d) (k : Rp G y (.int z)) : Sl G [some x, some y] [some (dt d), some (it z)] := by
  refine ⟨rfl, fun i s hs => ?_⟩
  match i with
  | 0 =>
    cases hs
    exact ⟨x, rfl, h⟩
  | 1 =>
    cases hs
    exact ⟨y, rfl, k⟩
  | n + 2 => simp at hs
/-- one more key -/
theorem key_turn {G1 H1 G' H : Hp} {i : Nat} {x y : V} {ks : List V} {cd : Addr} (key : PyData → PyData) (hl : ∀ d ∈ ds, Xe tl [some (dt d), some (it z)] C (dt (key d)) C) (c1 : Cl C G1 H1) {xs : List V} (hx : RpAll G1 xs ds) (hy : Rp G1 y (.int z)) (hi : xs[i]? = some x) (t : Tr C G1 H1 C G' H) (r : RpAll G' ks ((ds.map key).take i)) (hc : G' cd = some (CodeO cd q)) :
    tl [some x, some y] H fun k H' => ∃ G2, Tr C G1 H1 C G2 H' ∧ RpAll G2 (ks ++ [k]) ((ds.map key).take (i + 1)) ∧ G2 cd = some (CodeO cd q) := by
  obtain ⟨d, hd, rd⟩ := hx.getv hi
  refine hl d (List.mem_of_getElem? hd) _ G' H (sl_two (rd.ex t.up) (hy.ex t.up)) t.dn t.cl _ fun k G2 H2 t2 r2 => ⟨G2, t.trans c1 t2, ?_, t2.up _ _ hc⟩
  have e : (ds.map key)[i]? = some (key d) := by rw [List.getElem?_map, hd]; rfl
  rw [take_more e]
  exact (r.ex t2.up).push r2
theorem xe_sortK (key : PyData → PyData) (h : Xe te L C (dt (.list ds)) C) (hy : L[j]? = some (some (it z))) (hT : (tb, cT q) ∈ C) (hal : AllAlike (ds.map key)) (hsk : Sortable (ds.map key)) (hdp : ∀ d ∈ ds, (key d).depth ≤ 20) (hl : ∀ d ∈ ds, Xe tl [some (dt d), some (it z)] C (dt (key d)) C) :
    Xe (tSortK K tb q j te tl) L C (dt (.list (ds.mergeSort (dataLe false key)))) C := fun σ G H sl e c Q qq => h σ G H sl e c _ fun v G1 H1 t1 r1 => by
  obtain ⟨l, xs, rfl, hl1, hx⟩ := Rp.list r1
  obtain ⟨y, hy1, hy2⟩ := (sl.ex t1.up).at' j _ hy
  refine ⟨tab_of t1.dn t1.cl hT, l, xs, y, ds, key, G1, rfl, hy1, hx, hal, hsk, hdp, fun H2 cd md => ?_⟩
  obtain ⟨G2, t2, hc2⟩ := made_tr t1.dn t1.cl hT md
  refine ⟨fun i ks H => ∃ G', Tr C G1 H1 C G' H ∧ RpAll G' ks ((ds.map key).take i) ∧ G' cd = some (CodeO cd q), ⟨G2, t2, by rw [List.take_zero]; exact .nil, hc2⟩, sq_of (t2.dn _ _ (t2.up _ _ hl1)), ?_, ?_, ?_⟩
  · rintro i ks H ⟨G', t, _, hc⟩
    exact t.dn _ _ hc
  · rintro i x ks H hi ⟨G', t, r, hc⟩
    exact key_turn key hl t1.cl hx hy2 hi t r hc
  · rintro ks H' ⟨G', t, r, hc⟩
    rw [hx.len, ← List.length_map (f := key), List.take_length] at r
    refine ⟨r.dpT t.dn, fun p ys hp ry => ?_⟩
    have w := Wn.put (o := .lst ys) t.dn hp
    exact qq _ _ _ ((t1.trans c t).trans c (Tr.of t.cl w)) (.lst upd_same (ry.ex (t.up.trans w.up)))
theorem xe_minK (key : PyData → PyData) (h : Xe te L C (dt (.list ds)) C) (hne : ds ≠ []) (hy : L[j]? = some (some (it z))) (hT : (tb, cT q) ∈ C) (hal : AllAlike (ds.map key)) (hdp : ∀ d ∈ ds, key d ≠ .none ∧ (key d).depth ≤ 20) (hl : ∀ d ∈ ds, Xe tl [some (dt d), some (it z)] C (dt (key d)) C) {d0 : PyData} (hd0 : ds[argBest (btOf (ds.map key)) (ds.length - 1)]? = some d0) :
    Xe (tMinK K tb q j te tl) L C (dt d0) C := fun σ G H sl e c Q qq => h σ G H sl e c _ fun v G1 H1 t1 r1 => by
  obtain ⟨l, xs, rfl, hl1, hx⟩ := Rp.list r1
  obtain ⟨y, hy1, hy2⟩ := (sl.ex t1.up).at' j _ hy
  refine ⟨tab_of t1.dn t1.cl hT, l, xs, y, ds.map key, rfl, fun z => hne (List.length_eq_zero_iff.1 (by rw [← hx.len, z]; rfl)), hy1, by rw [hx.len, List.length_map], hal, fun d hd => ?_, fun H2 cd md => ?_⟩
  · obtain ⟨d1, h1, rfl⟩ := List.mem_map.1 hd
    exact hdp d1 h1
  obtain ⟨G2, t2, hc2⟩ := made_tr t1.dn t1.cl hT md
  refine ⟨fun i ks H => ∃ G', Tr C G1 H1 C G' H ∧ RpAll G' ks ((ds.map key).take i) ∧ G' cd = some (CodeO cd q), ⟨G2, t2, by rw [List.take_zero]; exact .nil, hc2⟩, ?_, ?_, ?_⟩
  · rintro i ks H ⟨G', t, r, hc⟩
    exact ⟨t.dn _ _ hc, sq_of (t.dn _ _ (t.up _ _ hl1)), r.dpT t.dn⟩
  · rintro i x ks H hi ⟨G', t, r, hc⟩
    exact key_turn key hl t1.cl hx hy2 hi t r hc
  · rintro ks H' xb ⟨G', t, r, hc⟩ hxb
    rw [hx.len] at hxb
    obtain ⟨d, hd, rd⟩ := hx.getv hxb
    rw [hd0] at hd
    cases hd
    exact qq _ _ _ (t1.trans c t) (rd.ex t.up)
end
end Wk
end
section
set_option Elab.async false
set_option linter.all false
set_option maxRecDepth 100000
set_option exponentiation.threshold 10000
namespace Wk
open PySem PySem.Spec PyProof.Rows L2 LamX PySem.W
open Evl (Ex ex_l ex_t sq_of st_of)
open My (T3 Sd scaledM ltL ltP rotM bestM firstM multM orderM Sca)
/-! ### rows of pairs compared -/
theorem alike_fr (a b : Int × Int) : alike (frD a) (frD b) = true := by simp [frD, alike, alikeAll]
theorem alike_rows : ∀ p q : List (Int × Int), alikeAll (p.map frD) (q.map frD) = true
  | [], _ => by simp [alikeAll]
  | _ :: _, [] => by simp [alikeAll]
  | a :: p, b :: q => by
    rw [List.map_cons, List.map_cons, alikeAll, alike_fr, alike_rows p q]; rfl
theorem eqv_fr (a b : Int × Int) : PyData.eqv (frD a) (frD b) = decide (a = b) := by
  obtain ⟨a1, a2⟩ := a
  obtain ⟨b1, b2⟩ := b
  rw [Bool.eq_iff_iff]
  simp [frD, PyData.eqv, PyData.eqvAll, Prod.ext_iff]
theorem rowLt_fr : ∀ p q : List (Int × Int), rowLt (p.map frD) (q.map frD) = ltL p q
  | [], [] => lex_irrefl _
  | a :: p, [] => by
    unfold rowLt
    rw [List.map_nil, List.map_cons, toks_all_cons]
    show PyProof.Rows.lexLt itemOrd (Sum.inl 1 :: _) [Sum.inl 0] = false
    rw [lex_diff (by intro h; cases h)]; rfl
  | [], b :: q => by
    unfold rowLt
    rw [List.map_nil, List.map_cons, toks_all_cons]
    show PyProof.Rows.lexLt itemOrd [Sum.inl 0] (Sum.inl 1 :: _) = true
    rw [lex_diff (by intro h; cases h)]; rfl
  | a :: p, b :: q => by
    have ih := rowLt_fr p q
    unfold rowLt at ih ⊢
    rw [List.map_cons, List.map_cons, dataLt_cons (alike_fr a b), ih, eqv_fr]
    show _ = (ltP a b || (decide (a = b) && ltL p q))
    have e : dataLt (frD a) (frD b) = ltP a b := by
      show dataLt (.tuple [.int a.1, .int a.2]) (.tuple [.int b.1, .int b.2]) = _
      rw [dataLt_ii]
      unfold ltP
      rw [Bool.eq_iff_iff]
      simp
    rw [e]
    by_cases h : a = b
    · subst h
      have : ltP a a = false := by unfold ltP; simp
      simp [this]
    · simp [h]
/-- a ring's row of numbers -/
def unPl : PyData → T3
  | .tuple [.int x, .int y, .int z] => (x, y, z)
  | _ => (0, 0, 0)
def unRg : PyData → List T3
  | .list l => l.map unPl
  | _ => []
theorem unRg_rg (c : List T3) : unRg (rgD c) = c := by
  show (c.map plD).map unPl = c
  rw [List.map_map]
  conv => rhs; rw [← List.map_id c]
  exact List.map_congr_left fun t _ => rfl
def keyD (s : Int) (d : PyData) : PyData := .list ((scaledM (unRg d) s).map frD)
theorem keyD_rg (s : Int) (c : List T3) : keyD s (rgD c) = .list ((scaledM c s).map frD) := by unfold keyD; rw [unRg_rg]
theorem keyD_alike (s : Int) (ds : List PyData) : AllAlike (ds.map (keyD s)) := by
  intro d hd d' hd'
  obtain ⟨a, _, rfl⟩ := List.mem_map.1 hd
  obtain ⟨b, _, rfl⟩ := List.mem_map.1 hd'
  show alike (.list _) (.list _) = true
  rw [alike]
  exact alike_rows _ _
theorem keyD_lt (s : Int) (a b : PyData) : dataLt (keyD s a) (keyD s b) = ltL (scaledM (unRg a) s) (scaledM (unRg b) s) := by
  show dataLt (.list _) (.list _) = _
  rw [dataLt_list]
  exact rowLt_fr _ _
theorem depth_fr : ∀ p : List (Int × Int), PyData.depthAll (p.map frD) ≤ 2
  | [] => by simp [PyData.depthAll]
  | a :: p => by
    have := depth_fr p
    simp only [List.map_cons, PyData.depthAll]
    have : (frD a).depth ≤ 2 := by simp [frD, PyData.depth, PyData.depthAll]
    omega
theorem keyD_depth (s : Int) (d : PyData) : (keyD s d).depth ≤ 20 := by
  unfold keyD
  have := depth_fr (scaledM (unRg d) s)
  simp only [PyData.depth]
  omega
theorem keyD_sortable (s : Int) (ds : List PyData) : Sortable (ds.map (keyD s)) := .inr fun d hd => by
  obtain ⟨a, _, rfl⟩ := List.mem_map.1 hd
  exact ⟨(fun z => nomatch (show PyData.list _ = PyData.none from z)), (fun xs z => nomatch (show PyData.list _ = PyData.tuple xs from z))⟩
theorem best_arg (s : Int) (c : List T3) (n : Nat) (hn : n < c.length) : argBest (btOf (((List.range c.length).map fun k => rgD (rotM c k)).map (keyD s))) n = bestM s c n ∧ bestM s c n ≤ n := by
  induction n with
  | zero => exact ⟨rfl, Nat.le_refl _⟩
  | succ n ih =>
    obtain ⟨i1, i2⟩ := ih (by omega)
    have hb : btOf (((List.range c.length).map fun k => rgD (rotM c k)).map (keyD s)) (n + 1) (bestM s c n) = ltL (scaledM (rotM c (n + 1)) s) (scaledM (rotM c (bestM s c n)) s) := by
      unfold btOf
      have g : ∀ i, i < c.length → (((List.range c.length).map fun k => rgD (rotM c k)).map (keyD s)).getD i .none = keyD s (rgD (rotM c i)) := fun i hi => by
        rw [List.getD_eq_getElem?_getD, List.getElem?_map, List.getElem?_map, List.getElem?_range hi]; rfl
      rw [g _ hn, g _ (by omega), keyD_lt, unRg_rg, unRg_rg]
    constructor
    · show (if btOf _ (n + 1) (argBest _ n) = true then n + 1 else argBest _ n) = (if ltL (scaledM (rotM c (n + 1)) s) (scaledM (rotM c (bestM s c n)) s) = true then n + 1 else bestM s c n)
      rw [i1, hb]
    · show (if ltL (scaledM (rotM c (n + 1)) s) (scaledM (rotM c (bestM s c n)) s) = true then n + 1 else bestM s c n) ≤ n + 1
      split <;> omega
/-! ### defs that make a lambda -/
def DfT (K : PySem.W.Frag) (mg : Str → Option Value) (x : Str) (st : Stmt) (ps : List Str) (co : Addr) : Prop :=
  ∃ (f : Addr) (oc : Value) (od : Option Addr) (kV doc pm : Value) (an : Option Addr) (ct : Value) (osl : Array (Option Value)), K.lookup f = some ⟨oc, od, .func (PySem.W.fnOf x x (defArgs st) (defBody st) (defScope st) .none kV doc pm an (.ref co) ct), osl⟩ ∧
    PySem.W.codeIn K (.ref co) x = true ∧ PySem.W.keepIn K (.ref f) = true ∧ Binds K (PySem.W.fnOf x x (defArgs st) (defBody st) (defScope st) .none kV doc pm an (.ref co) ct) ps [] ∧ mg x = some (.ref f)
theorem DfT.okF {P : Program} {w : World} {K : PySem.W.Frag} {mg : Str → Option Value} {base : Heap} {x : Str} {st : Stmt} {ps N : List Str} {k : Nat} {co : Addr} {R : List SP → Cs → SP → Cs → Prop} (D : DfT K mg x st ps co) (S : FnScope N ps (defScope st)) (len : ∀ ss C s C', R ss C s C' → ss.length = ps.length)
    (hbody : ∀ (f : Addr) (A : Around) (outer : List Env) (s : Shared) (H : Hp) (E : XK), Room k (A.deeper (envOfC x (defScope st) s.heap.objs.size f (.ref co))) →
      ∃ t, PSs (cxOf CX0 P w K mg base N x (defScope st) f (.ref co) A outer s H E).nox (defBody st) t ∧ ∀ ss C z C', R ss C z C' → WP t C (ss.map some ++ List.replicate (N.length - ss.length) none) C (fun _ C1 => z = nn ∧ C1 = C') (fun z1 C1 => z1 = z ∧ C1 = C')) : Ok P w K mg base (k + 1) x ps (spF R) := by
  obtain ⟨f, oc, od, kV, doc, pm, an, ct, osl, lk, hcd, kp, bd, hm⟩ := D
  refine ⟨f, _, fn_of lk hcd S (fun vs H Q E h => ?_) fun A outer s H vs Q E hr h => ?_, bd, hm, kp⟩
  · obtain ⟨G, ss, C, z, C', e, c, ar, r, q⟩ := h
    rw [ar.len]; exact len _ _ _ _ r
  · obtain ⟨G, ss, C, z, C', e, c, ar, r, q⟩ := h
    obtain ⟨t, ht, hw⟩ := hbody f A outer s H E hr
    refine ⟨t, ht.nox, hw ss C z C' r G H (L2.start N vs) G H _ c (Tr.rfl' e c) (sl_start ar) (fun L' C1 σ' G' H' h tr _ _ => ?_) fun v s' C1 G' H' h tr p => ?_⟩
    · obtain ⟨rfl, rfl⟩ := h
      exact q _ G' H' tr rfl
    · obtain ⟨rfl, rfl⟩ := h
      exact q _ G' H' tr p
/-- the two defs that make a lambda, their code objects and the tables of these -/
structure Tt (K : PySem.W.Frag) (mg : Str → Option Value) (base : Heap) (c1 t1 c2 t2 : Addr) : Prop where
  fb : DfT K mg "first_beginning" (topS 34) ["ring", "scale"] c1
  io : DfT K mg "in_order" (topS 33) ["rings"] c2
  b1 : TabB base mg c1 t1
  b2 : TabB base mg c2 t2
def qFb : Str := ("first_beginning" : Str) ++ ".<locals>." ++ "<lambda>"
def qIo : Str := ("in_order" : Str) ++ ".<locals>." ++ "<lambda>"
section
variable {P : Program} {w : World} {K : PySem.W.Frag} {mg : Str → Option Value} {base : Heap} {c1 t1 c2 t2 : Addr} (T : Tx K mg) (U : Tt K mg base c1 t1 c2 t2)
/-! ### first_beginning -/
def R_first_beginning (t1 : Addr) : List SP → Cs → SP → Cs → Prop := fun ss C z C' => ∃ (c : List T3) (s : Int), c ≠ [] ∧ c.length ≤ 16 ∧ (∀ t ∈ c, 0 < t.2.2 ∧ Bt 80 t) ∧ Bi 1281 s ∧ ss = [dt (rgD c), it s] ∧ C = [(t1, cT qFb)] ∧ z = dt (rgD (firstM s c)) ∧ C' = C
theorem sc_first_beginning : FnScope ["ring", "scale", "beginnings", "k"] ["ring", "scale"] (defScope (topS 34)) := ⟨rfl, rfl, rfl, by decide +kernel, rfl, by decide +kernel, by decide +kernel⟩
theorem cut_from (c : List T3) (k : Nat) (hk : k ≤ c.length) : cutD (c.map plD) (some (k : Int)) none = (c.drop k).map plD := by
  unfold cutD
  rw [HT.sIx_nat, HT.sIx_none, List.length_map, Nat.min_eq_left hk, List.map_drop, List.take_of_length_le]
  rw [List.length_drop, List.length_map]
  omega
theorem cut_to (c : List T3) (k : Nat) (hk : k ≤ c.length) : cutD (c.map plD) none (some (k : Int)) = (c.take k).map plD := by
  unfold cutD
  rw [HT.sIx_nat, HT.sIx_none, List.length_map, Nat.min_eq_left hk, List.drop_zero, Nat.sub_zero, List.map_take]
include T U in
theorem ok_first_beginning : Ok P w K mg base 4 "first_beginning" ["ring", "scale"] (spF (R_first_beginning t1)) := by
  have nd := sc_first_beginning.nd
  have o_scaled := ok_scaled (P := P) (w := w) (base := base) T
  refine U.fb.okF sc_first_beginning (fun ss C s C' h => by obtain ⟨_, _, _, _, _, _, rfl, _⟩ := h; rfl) fun f A outer s H E hr => ⟨_, (pss_cons (ps_setLc (i := 2) rfl nd rfl rfl (sw_true rfl rfl rfl (by decide +kernel)) (own := [("k", 3)]) (pi_range1 rfl T.m_range (pa_cons (pe_callB call_len_seq (by rfl) T.m_len PySem.boot_len (pa_cons (pv 0) pa_nil)) pa_nil)) (blkOk_by (N := ["ring", "scale", "beginnings", "k"]) (sc := defScope (topS 34)) (by decide +kernel)) (fun _ _ _ _ _ => pg_name (i := 3) nd rfl (Or.inl rfl)) (fun _ _ _ _ _ => pts_nil) (fun _ _ _ _ _ => (pe_op op_cat (pe_slice (slK K rfl) (pv 0) (po_some (pv 3)) po_none) (pe_slice (slK K rfl) (pv 0) po_none (po_some (pv 3)))))) (pss_one (ps_ret (pe_minK (k := 1) (j := 1) (tb := t1) (p := "row") (fr := "scale") ⟨lamP_by (sc := defScope (topS 34)) (by decide +kernel), U.b1, rfl, rfl, rfl, hr.in1, fun _ _ _ _ _ _ => rfl, rfl, by decide, fun f cd s H r => pe_own o_scaled r rfl (pa_cons (pv 0) (pa_cons (pv 1) pa_nil))⟩ (hr.mono (by decide)) rfl T.m_min (pv 2))))), fun ss C z C' h => ?_⟩
  obtain ⟨c, s, hne, hl, hc, hs, rfl, rfl, rfl, rfl⟩ := h
  have hpos : 0 < c.length := List.length_pos_iff.2 hne
  have hrot : ∀ k, ∀ t ∈ rotM c k, t ∈ c := fun k t ht => by
    rcases List.mem_append.1 ht with q | q
    · exact List.mem_of_mem_drop q
    · exact List.mem_of_mem_take q
  have hrl : ∀ k, (rotM c k).length ≤ 1000000 := fun k => by
    unfold rotM
    rw [List.length_append, List.length_drop, List.length_take]; omega
  refine wp_set (xe_lcR (n := c.length) (j := 3) (fun k => rgD (rotM c k)) (by
    have := xa_cons (xe_cb (xa_cons (xe_v (L := [some (dt (rgD c)), some (it s), none, none]) (C := [(t1, cT qFb)]) 0 rfl) xa_nil) (vn_len (K := K))) xa_nil
    rw [List.length_map] at this
    exact this) (by omega) fun k hk => ?_) ?_
  · have := xe_cat (xe_sl (K := K) (xe_v (L := ((wipeL [some (dt (rgD c)), some (it s), none, none] [3]).set 3 (some (it (k : Nat))))) (C := [(t1, cT qFb)]) 0 rfl) (xo_some (xe_v 3 rfl)) xo_none) (xe_sl (K := K) (xe_v 0 rfl) xo_none (xo_some (xe_v 3 rfl))) (by
      rw [cut_from c k (by omega), cut_to c k (by omega), List.length_map, List.length_map, List.length_drop, List.length_take]
      exact Nat.le_trans (by omega : _ ≤ 100) (by decide))
    rw [cut_from c k (by omega), cut_to c k (by omega), ← List.map_append] at this
    exact this
  · have eb := best_arg s c (c.length - 1) (by omega)
    refine wp_ret (xe_minK (ds := (List.range c.length).map fun k => rgD (rotM c k)) (z := s) (keyD s) (xe_v 2 rfl) (fun z => ?_) rfl List.mem_cons_self (keyD_alike s _) (fun d hd => ⟨(fun z => nomatch (show PyData.list _ = PyData.none from z)), keyD_depth s d⟩) (fun d hd => ?_) (d0 := rgD (firstM s c)) ?_) ⟨rfl, rfl⟩
    · have := congrArg List.length z
      rw [List.length_map, List.length_range] at this
      exact hne (List.length_eq_zero_iff.1 this)
    · obtain ⟨k, hk, rfl⟩ := List.mem_map.1 hd
      rw [keyD_rg]
      exact x_scaled (xd_cons (xe_v 0 rfl) (xd_cons (xe_v 1 rfl) xd_nil)) ⟨fun t ht => hc t (hrot k t ht), hs, hrl k⟩
    · rw [List.length_map, List.length_range, eb.1, List.getElem?_map, List.getElem?_range (by omega)]; rfl
theorem x_first_beginning {L : Sls} {C C1 C2 Cb : Cs} {ta : TA} {c : List T3} {s : Int} (h : Xd ta L C [rgD c, .int s] C1) (p1 : C1.Perm ((t1, cT qFb) :: Cb)) (p2 : ((t1, cT qFb) :: Cb).Perm C2) (k : c ≠ [] ∧ c.length ≤ 16 ∧ (∀ t ∈ c, 0 < t.2.2 ∧ Bt 80 t) ∧ Bi 1281 s) : Xe (tCall (spF (R_first_beginning t1)) [] E0 ta) L C (dt (rgD (firstM s c))) C2 :=
  xe_callP (Ca := [_]) (Ca' := [_]) h p1 p2 ⟨c, s, k.1, k.2.1, k.2.2.1, k.2.2.2, rfl, rfl, rfl, rfl⟩
/-! ### in_order -/
structure Io (r : List (List T3)) : Prop where
  kr : Kr r
  ne : ∀ c ∈ r, c ≠ []
  nrm : ∀ c ∈ r, ∀ t ∈ c, My.Nrm t
def R_in_order (t1 t2 : Addr) : List SP → Cs → SP → Cs → Prop := fun ss C z C' => ∃ r : List (List T3), Io r ∧ ss = [dt (rsD r)] ∧ C = [(t1, cT qFb), (t2, cT qIo)] ∧ z = dt (rsD (orderM r)) ∧ C' = C
theorem sc_in_order : FnScope ["rings", "scale", "begun", "ring"] ["rings"] (defScope (topS 33)) := ⟨rfl, rfl, rfl, by decide +kernel, rfl, by decide +kernel, by decide +kernel⟩
theorem Io.sca {r : List (List T3)} (h : Io r) : ∀ c ∈ r, c ≠ [] ∧ Sca (multM r) c := fun c hc => ⟨h.ne c hc, fun t ht => ⟨h.nrm c hc t ht, (My.mult_spec fun c hc t ht => (h.kr.pt c hc t ht).1).2 c hc t ht⟩⟩
theorem merge_rings {r : List (List T3)} (h : Io r) : (r.map fun c => rgD (firstM (multM r) c)).mergeSort (dataLe false (keyD (multM r))) = (orderM r).map rgD := by
  have hs := (h.kr.scale).1
  have tot := sortLe_total (listOrd itemOrd) false fun b => keyToks (keyD (multM r) b)
  have pm := List.mergeSort_perm (r.map fun c => rgD (firstM (multM r) c)) (dataLe false (keyD (multM r)))
  have srt : ((r.map fun c => rgD (firstM (multM r) c)).mergeSort (dataLe false (keyD (multM r)))).Pairwise fun a b => dataLe false (keyD (multM r)) a b = true := List.pairwise_mergeSort (fun a b c => tot.trans a b c) (fun a b => by rw [Bool.or_eq_true]; exact tot.total a b) _
  generalize hM : (r.map fun c => rgD (firstM (multM r) c)).mergeSort (dataLe false (keyD (multM r))) = M at pm srt
  have rg : ∀ d ∈ M, rgD (unRg d) = d := fun d hd => by
    obtain ⟨c, _, rfl⟩ := List.mem_map.1 (pm.mem_iff.1 hd)
    rw [unRg_rg]
  have key := My.order_sorted hs (L := M.map unRg) h.sca (by
    refine (pm.map unRg).trans (List.Perm.of_eq ?_)
    rw [List.map_map]
    exact List.map_congr_left fun c _ => unRg_rg _) (by
    rw [List.pairwise_map]
    refine srt.imp fun {a b} hab => ?_
    rw [dataLe_eq] at hab
    have hab : (!dataLt (keyD (multM r) b) (keyD (multM r) a)) = true := hab
    rw [keyD_lt] at hab
    simpa using hab)
  rw [← key, List.map_map]
  conv => lhs; rw [← List.map_id M]
  exact List.map_congr_left fun d hd => (rg d hd).symm
include T U in
theorem ok_in_order : Ok P w K mg base 5 "in_order" ["rings"] (spF (R_in_order t1 t2)) := by
  have nd := sc_in_order.nd
  have o_scaled := ok_scaled (P := P) (w := w) (base := base) T
  have o_common_multiple := (ok_common_multiple (P := P) (w := w) (base := base) T).up (k := 4) (by decide)
  have o_first_beginning := ok_first_beginning (P := P) (w := w) (base := base) T U
  refine U.io.okF sc_in_order (fun ss C s C' h => by obtain ⟨_, _, rfl, _⟩ := h; rfl) fun f A outer s H E hr => ⟨_, (pss_cons (ps_set (i := 1) nd rfl (Or.inr rfl) (pe_own o_common_multiple hr rfl (pa_cons (pv 0) pa_nil))) (pss_cons (ps_setLc (i := 2) rfl nd rfl rfl (sw_true rfl rfl rfl (by decide +kernel)) (own := [("ring", 3)]) (pi_list (pv 0)) (blkOk_by (N := ["rings", "scale", "begun", "ring"]) (sc := defScope (topS 33)) (by decide +kernel)) (fun _ _ _ _ _ => pg_name (i := 3) nd rfl (Or.inl rfl)) (fun _ _ _ _ _ => pts_nil) (fun _ _ _ _ _ => (pe_own o_first_beginning hr rfl (pa_cons (pv 3) (pa_cons (pv 1) pa_nil))))) (pss_one (ps_ret (pe_sortK (k := 1) (j := 1) (tb := t2) (p := "ring") (fr := "scale") ⟨lamP_by (sc := defScope (topS 33)) (by decide +kernel), U.b2, rfl, rfl, rfl, hr.in1.in1, fun _ _ _ _ _ _ => rfl, rfl, by decide, fun f cd s H r => pe_own o_scaled r rfl (pa_cons (pv 0) (pa_cons (pv 1) pa_nil))⟩ (hr.mono (by decide)) rfl T.m_sorted (pv 2)))))), fun ss C z C' h => ?_⟩
  obtain ⟨r, hI, rfl, rfl, rfl, rfl⟩ := h
  have hsc := hI.kr.scale
  have hcl : ∀ c ∈ r, c.length ≤ 16 := fun c hc => by
    have h1 := hI.kr.n
    have h2 : c.length ≤ r.flatten.length := (List.sublist_flatten_of_mem hc).length_le
    omega
  refine wp_set (x_common_multiple (r := r) (xd_cons (xe_v 0 rfl) xd_nil) hI.kr) ?_
  refine wp_set (xe_lcM (f := rgD) (xs := r) (j := 3) (fun c => rgD (firstM (multM r) c)) (xe_v 0 rfl) (by have := hI.kr.m; omega) fun c hc => x_first_beginning (Cb := [(t2, cT qIo)]) (xd_cons (xe_v 3 rfl) (xd_cons (xe_v 1 rfl) xd_nil)) (List.Perm.refl _) (List.Perm.refl _) ⟨hI.ne c hc, hcl c hc, hI.kr.pt c hc, hsc.2⟩) ?_
  have hx := xe_sortK (K := K) (te := tVar 2) (tl := tCall (spF (pR R_scaled)) [] E0 (tCons (tVar 0) (tCons (tVar 1) tNil))) (L := [some (dt (rsD r)), some (it (multM r)), some (dt (.list (r.map fun c => rgD (firstM (multM r) c)))), none]) (C := [(t1, cT qFb), (t2, cT qIo)]) (j := 1) (ds := r.map fun c => rgD (firstM (multM r) c)) (z := multM r) (tb := t2) (q := qIo) (keyD (multM r)) (xe_v 2 rfl) rfl (List.mem_cons_of_mem _ List.mem_cons_self) (keyD_alike _ _) (keyD_sortable _ _) (fun d hd => keyD_depth _ d) fun d hd => by
    obtain ⟨c, hc, rfl⟩ := List.mem_map.1 hd
    rw [keyD_rg]
    refine x_scaled (xd_cons (xe_v 0 rfl) (xd_cons (xe_v 1 rfl) xd_nil)) ⟨fun t ht => hI.kr.pt c hc t ?_, hsc.2, ?_⟩
    · rcases List.mem_append.1 ht with q | q
      · exact List.mem_of_mem_drop q
      · exact List.mem_of_mem_take q
    · have := hcl c hc
      unfold firstM rotM
      rw [List.length_append, List.length_drop, List.length_take]; omega
  rw [merge_rings hI] at hx
  exact wp_ret hx ⟨rfl, rfl⟩
theorem x_in_order {L : Sls} {C C1 C2 Cb : Cs} {ta : TA} {r : List (List T3)} (h : Xd ta L C [rsD r] C1) (p1 : C1.Perm ((t1, cT qFb) :: (t2, cT qIo) :: Cb)) (p2 : ((t1, cT qFb) :: (t2, cT qIo) :: Cb).Perm C2) (k : Io r) : Xe (tCall (spF (R_in_order t1 t2)) [] E0 ta) L C (dt (rsD (orderM r))) C2 :=
  xe_callP (Ca := [_, _]) (Ca' := [_, _]) h p1 p2 ⟨r, k, rfl, rfl, rfl, rfl⟩
end
end Wk
end
section
open GkBase
set_option Elab.async false
set_option linter.all false
set_option maxRecDepth 100000
set_option exponentiation.threshold 10000
namespace Wk
open My
/-! ### a place told -/
theorem told_toP {t : T3} (h : 0 < t.2.2) : toldM t = toldPt (toP t) := by
  have h1 := frac_told (a := t.1) h
  have h2 := frac_told (a := t.2.1) h
  show [(fracM t.1 t.2.2).1, (fracM t.1 t.2.2).2] ++ [(fracM t.2.1 t.2.2).1, (fracM t.2.1 t.2.2).2] = told (toP t).1 ++ told (toP t).2
  rw [h1, h2]; rfl
theorem near_iff (x : Rat) : Gk02.near x = true ↔ x.num.natAbs ≤ 1000000000000 ∧ x.den ≤ 1000000000000 := by
  unfold Gk02.near
  rw [Bool.and_eq_true, decide_eq_true_eq, decide_eq_true_eq]
theorem far_near {t : T3} (h : 0 < t.2.2) : farM t = !(Gk02.near (toP t).1 && Gk02.near (toP t).2) := by
  unfold farM
  rw [told_toP h]
  rw [Bool.eq_iff_iff, Bool.not_eq_true', ← Bool.not_eq_true, Bool.and_eq_true, near_iff, near_iff]
  unfold beyM toldPt GkBase.told
  simp only [List.cons_append, List.nil_append, List.any_cons, List.any_nil, Bool.or_false, Bool.or_eq_true, decide_eq_true_eq]
  omega
theorem bi40 {z : Int} (h : z.natAbs ≤ 1000000000000) : Bi 40 z := by
  unfold Bi
  exact Nat.lt_of_le_of_lt h (by decide)
theorem near_bt {t : T3} (hn : Nrm t) (h : farM t = false) : Bt 80 t := by
  rw [far_near hn.1, Bool.not_eq_false', Bool.and_eq_true, near_iff, near_iff] at h
  obtain ⟨⟨h1, h2⟩, h3, h4⟩ := h
  rw [← ofP_toP hn]
  unfold ofP
  have b1 : Bi 40 (toP t).1.num := bi40 h1
  have b2 : Bi 40 (((toP t).1.den : Nat) : Int) := bi40 (by simpa using h2)
  have b3 : Bi 40 (toP t).2.num := bi40 h3
  have b4 : Bi 40 (((toP t).2.den : Nat) : Int) := bi40 (by simpa using h4)
  refine place_bt ?_ (b1.mul b4) (b3.mul b2) (b2.mul b4)
  have p1 := (toP t).1.den_pos
  have p2 := (toP t).2.den_pos
  exact Int.ne_of_gt (Int.mul_pos (by omega) (by omega))
/-! ### what is held -/
structure Held (r : List (List T3)) : Prop where
  kept : Kept r
  fine : Fine (ptsM r)
  kr : Kr r
  ne : ∀ c ∈ r, c ≠ []
abbrev Sta := List (List (List T3))
structure Sok (s : Sta) : Prop where
  len : s.length = 6
  held : ∀ r ∈ s, Held r
def ptsS (s : Sta) : Gk02.State := s.map ptsM
theorem held_nil : Held [] := ⟨kept_nil, ⟨fun s hs => by simp [Gk02.sidesOf] at hs, fun p _ => .inl rfl⟩, ⟨fun c hc => by simp at hc, by simp, by simp⟩, fun c hc => by simp at hc⟩
def sta0 : Sta := List.replicate 6 []
theorem sok0 : Sok sta0 := ⟨rfl, fun r hr => by rw [List.eq_of_mem_replicate hr]; exact held_nil⟩
theorem pts0 : ptsS sta0 = Gk02.init := rfl
theorem Sok.at {s : Sta} (h : Sok s) {i : Nat} (hi : i < 6) : Held (s.getD i []) ∧ Gk02.regionAt (ptsS s) i = ptsM (s.getD i []) ∧ s[i]? = some (s.getD i []) := by
  have hl : i < s.length := by rw [h.len]; exact hi
  have e : s[i]? = some (s.getD i []) := by rw [List.getD_eq_getElem?_getD, List.getElem?_eq_getElem hl]; rfl
  refine ⟨h.held _ (List.mem_of_getElem? e), ?_, e⟩
  unfold Gk02.regionAt ptsS
  rw [List.getD_eq_getElem?_getD, List.getElem?_map, e]; rfl
theorem Sok.set {s : Sta} (h : Sok s) {r : List (List T3)} (hr : Held r) (i : Nat) : Sok (s.set i r) := by
  refine ⟨by rw [List.length_set]; exact h.len, fun x hx => ?_⟩
  rcases List.mem_or_eq_of_mem_set hx with q | q
  · exact h.held x q
  · rw [q]; exact hr
theorem pts_set (s : Sta) (i : Nat) (r : List (List T3)) : ptsS (s.set i r) = (ptsS s).set i (ptsM r) := by
  unfold ptsS; rw [List.map_set]
/-! ### keep -/
def keepM (s : Sta) (g : Nat) (b : List (T3 × T3)) : Sta × List Int := if tooM (ringsM b) = true then (s, [-2]) else (s.set g (orderM (ringsM b)), [((ringsM b).length : Nat), (((ringsM b).map List.length).sum : Nat)])
theorem len_le_sum : ∀ {r : List (List T3)}, (∀ c ∈ r, c ≠ []) → r.length ≤ (r.map List.length).sum
  | [], _ => Nat.le_refl _
  | c :: r, h => by
    have h1 : 0 < c.length := List.length_pos_iff.2 (h c List.mem_cons_self)
    have := len_le_sum fun d hd => h d (List.mem_cons_of_mem _ hd)
    rw [List.length_cons, List.map_cons, List.sum_cons]; omega
theorem too_iff {R : List (List T3)} (hn : ∀ c ∈ R, ∀ t ∈ c, Nrm t) : tooM R = true ↔ (Gk02.SIDES < (Gk02.sidesOf (ptsM (orderM R))).length ∨ ((ptsM (orderM R)).all fun (c : List Pt) => c.all fun (p : Pt) => Gk02.near p.1 && Gk02.near p.2) = false) := by
  obtain ⟨o1, o2, o3⟩ := order_size R
  rw [o2]
  have h := o3 fun p => (Gk02.near p.1 && Gk02.near p.2) = true
  have e : (((ptsM (orderM R)).all fun (c : List Pt) => c.all fun (p : Pt) => Gk02.near p.1 && Gk02.near p.2) = true) ↔ ∀ c ∈ R, ∀ t ∈ c, farM t = false := by
    simp only [List.all_eq_true]
    rw [h]
    constructor
    · intro k c hc t ht
      rw [far_near (hn c hc t ht).1, k c hc t ht]; rfl
    · intro k c hc t ht
      have := k c hc t ht
      rw [far_near (hn c hc t ht).1, Bool.not_eq_false'] at this
      exact this
  unfold tooM Gk02.SIDES
  split
  · rename_i q
    simp only [true_iff]
    exact .inl q
  · rename_i q
    rw [List.any_eq_true]
    constructor
    · rintro ⟨c, hc, k⟩
      obtain ⟨t, ht, k⟩ := List.any_eq_true.1 k
      right
      rw [← Bool.not_eq_true, e]
      intro z
      rw [z c hc t ht] at k; cases k
    · rintro (z | z)
      · exact absurd z q
      · rw [← Bool.not_eq_true, e] at z
        exact Classical.byContradiction fun y => z fun c hc t ht => by
          cases k : farM t with
          | false => rfl
          | true => exact absurd ⟨c, hc, List.any_eq_true.2 ⟨t, ht, k⟩⟩ y
theorem too_false {R : List (List T3)} (h : ¬ tooM R = true) : (R.map List.length).sum ≤ 16 ∧ ∀ c ∈ R, ∀ t ∈ c, farM t = false := by
  unfold tooM at h
  split at h
  · exact absurd rfl h
  · rename_i q
    refine ⟨by omega, fun c hc t ht => ?_⟩
    cases k : farM t with
    | false => rfl
    | true => exact absurd (List.any_eq_true.2 ⟨c, hc, List.any_eq_true.2 ⟨t, ht, k⟩⟩) h
theorem flen {α : Type} (r : List (List α)) : r.flatten.length = (r.map List.length).sum := List.length_flatten
theorem keep_spec {s : Sta} (hs : Sok s) {g : Nat} {b : List (T3 × T3)} {X : Gk02.Region} (hX : ptsM (orderM (ringsM b)) = X) (hk : Kept (orderM (ringsM b))) (hf : Fine X) (hn : ∀ c ∈ ringsM b, ∀ t ∈ c, Nrm t) (hne : ∀ c ∈ ringsM b, c ≠ []) :
    Sok (keepM s g b).1 ∧ Gk02.keeps (ptsS s) g X = (ptsS (keepM s g b).1, (keepM s g b).2) := by
  have ti := too_iff hn
  rw [hX] at ti
  obtain ⟨o1, o2, o3⟩ := order_size (ringsM b)
  unfold keepM Gk02.keeps
  by_cases q : tooM (ringsM b) = true
  · rw [if_pos q, if_pos (ti.1 q)]
    exact ⟨hs, rfl⟩
  · rw [if_neg q, if_neg (fun z => q (ti.2 z))]
    obtain ⟨t1, t2⟩ := too_false q
    have hb : ∀ c ∈ orderM (ringsM b), ∀ t ∈ c, farM t = false := by
      have h := (o3 fun p => (Gk02.near p.1 && Gk02.near p.2) = true).2 fun c hc t ht => by
        have := t2 c hc t ht
        rw [far_near (hn c hc t ht).1, Bool.not_eq_false'] at this
        exact this
      intro c hc t ht
      rw [far_near (hk.1 c hc t ht).1, h (c.map toP) (List.mem_map.2 ⟨c, hc, rfl⟩) (toP t) (List.mem_map.2 ⟨t, ht, rfl⟩)]; rfl
    have e1 : (orderM (ringsM b)).length = (ringsM b).length := by rw [← o1]; simp
    have e2 : ((orderM (ringsM b)).map List.length).sum = ((ringsM b).map List.length).sum := by
      rw [← o2, sidesOf_length, List.map_map]
      congr 1
      exact List.map_congr_left fun c _ => by simp
    have hne2 : ∀ c ∈ orderM (ringsM b), c ≠ [] := by
      intro c hc z
      unfold orderM at hc
      obtain ⟨c1, h1, rfl⟩ := List.mem_map.1 hc
      have pm := perm_insertRings ((ringsM b).map fun c => Gk02.turned (c.map toP)) []
      rw [List.nil_append] at pm
      obtain ⟨c2, h2, rfl⟩ := List.mem_map.1 (pm.mem_iff.1 h1)
      have hl := (turned_perm (c2.map toP)).length_eq
      have z' := congrArg List.length z
      rw [List.length_map, hl, List.length_map] at z'
      exact hne c2 h2 (List.length_eq_zero_iff.1 (by simpa using z'))
    refine ⟨hs.set ⟨hk, by rw [hX]; exact hf, ⟨fun c hc t ht => ⟨(hk.1 c hc t ht).1, near_bt (hk.1 c hc t ht) (hb c hc t ht)⟩, by rw [flen, e2]; exact t1, ?_⟩, hne2⟩ g, ?_⟩
    · rw [e1]
      exact Nat.le_trans (len_le_sum hne) t1
    · rw [pts_set, hX, ← hX, o1, o2]; rfl
end Wk
end
section
set_option Elab.async false
set_option linter.all false
set_option maxRecDepth 100000
set_option exponentiation.threshold 10000
namespace Wk
open PySem PySem.Spec PyProof.Rows L2
open Evl (Ex ex_l ex_t sq_of st_of)
open My (T3 Sd cornersM ringsM allc orb nextM orderM Nrm)
section
variable {L : Sls} {C C0 C' : Cs} {te : TE} {N : Sls → Cs → Prop} {R : SP → Cs → Prop} {ds : List PyData} {d : PyData} {p : Addr}
theorem RpAll.set {G : Hp} : ∀ {xs : List V} {ds : List PyData} {k : Nat} {v : V} {d : PyData}, RpAll G xs ds → Rp G v d → RpAll G (xs.set k v) (ds.set k d)
  | _, _, _, _, _, .nil, _ => .nil
  | _, _, 0, _, _, .cons _ t, h => .cons h t
  | _, _, k + 1, _, _, .cons a t, h => .cons a (RpAll.set t h)
/-- xs[k] = e -/
theorem wp_store {i j k : Nat} (Ca Cb : Cs) (h : Xe te L C (dt d) (Ca ++ (p, cL ds) :: Cb)) (hi : L[i]? = some (some (rf p))) (hj : L[j]? = some (some (it (k : Nat)))) (hk : k < ds.length) (q : N L (Ca ++ (p, cL (ds.set k d)) :: Cb)) : WP (tAsg te (gSub (tVar i) (tVar j) rSetL)) C0 L C N R := fun G0 H0 σ G H D c0 tr sl hn hr => by
  refine h σ G H sl tr.dn tr.cl _ fun v G1 H1 t1 r1 => ?_
  obtain ⟨a, h1, h2⟩ := sl.at' i _ hi
  cases h2
  obtain ⟨b, h3, h4⟩ := sl.at' j _ hj
  cases h4
  obtain ⟨o, k1, ⟨xs, rfl, hx⟩, k3⟩ := t1.cl.at' p (cL ds) (List.mem_append.2 (.inr List.mem_cons_self))
  refine ⟨.ref p, h1, .int (k : Int), h3, p, xs, (k : Int), k, rfl, rfl, k1, ?_, ?_⟩
  · unfold ixN
    rw [if_pos (by omega), if_pos (by rw [hx.len]; omega), Int.toNat_natCast]
  · exact hn _ _ _ G1 _ q ((tr.trans c0 t1).trans c0 (Tr.put t1.dn t1.cl ⟨_, rfl, hx.set r1⟩)) t1.up (sl.ex t1.up)
end
/-! ### rings of a border -/
theorem ring_part {b : List (T3 × T3)} (hb : Bd b) {c : List T3} (hc : c ∈ ringsM b) {t : T3} (ht : t ∈ c) : ∃ x ∈ b, t = x.1 := by
  unfold ringsM at hc
  obtain ⟨c0, h0, rfl⟩ := List.mem_map.1 hc
  have := My.mem_cornersM ht
  obtain ⟨x, hx, rfl⟩ := List.mem_map.1 this
  obtain ⟨a1, _, _⟩ := My.allc_aux hb.inj b [] (fun y hy => hy) (by simp) (by simp)
  exact ⟨x, (a1 c0 h0).2 x hx, rfl⟩
theorem rings_len {b : List (T3 × T3)} : (ringsM b).length ≤ b.length := by
  unfold ringsM
  rw [List.length_map]
  have := allc_len (nextM b) b.length b []
  simpa using this
/-- a border that is kept -/
structure Bk (b : List (T3 × T3)) : Prop where
  bd : Bd b
  ne : ∀ c ∈ ringsM b, c ≠ []
  nrm : ∀ c ∈ ringsM b, ∀ t ∈ c, Nrm t
theorem Bk.io {b : List (T3 × T3)} (h : Bk b) (hz : ¬ tooM (ringsM b) = true) : Io (ringsM b) := by
  obtain ⟨z1, z2⟩ := too_false hz
  exact ⟨⟨fun c hc t ht => ⟨(h.nrm c hc t ht).1, near_bt (h.nrm c hc t ht) (z2 c hc t ht)⟩, by rw [flen]; exact z1, Nat.le_trans (len_le_sum h.ne) z1⟩, h.ne, h.nrm⟩
/-! ### keep -/
def Cg (g t1 t2 : Addr) (s : Sta) : Cs := [(g, cL (s.map rsD)), (t1, cT qFb), (t2, cT qIo)]
def R_keep (t1 t2 : Addr) : List SP → Cs → SP → Cs → Prop := fun ss C z C' => ∃ (g : Addr) (s : Sta) (k : Nat) (b : List (T3 × T3)), k < s.length ∧ Bk b ∧ ss = [rf g, it (k : Nat), dt (.list (b.map paD))] ∧ C = Cg g t1 t2 s ∧ z = dt (inD (keepM s k b).2) ∧ C' = Cg g t1 t2 (keepM s k b).1
section
variable {P : Program} {w : World} {K : PySem.W.Frag} {mg : Str → Option Value} {base : Heap} {c1 t1 c2 t2 : Addr} (T : Tx K mg) (U : Tt K mg base c1 t1 c2 t2)
theorem sc_keep : FnScope ["regions", "goal", "parts", "rings"] ["regions", "goal", "parts"] (defScope (topS 88)) := ⟨rfl, rfl, rfl, by decide +kernel, rfl, by decide +kernel, by decide +kernel⟩
include T U in
theorem ok_keep : Ok P w K mg base 7 "keep" ["regions", "goal", "parts"] (spF (R_keep t1 t2)) := by
  have nd := sc_keep.nd
  have o_rings_of := ok_rings_of (P := P) (w := w) (base := base) T
  have o_is_too_large := (ok_is_too_large (P := P) (w := w) (base := base) T).up (k := 6) (by decide)
  have o_in_order := (ok_in_order (P := P) (w := w) (base := base) T U).up (k := 6) (by decide)
  have o_side_count := (ok_side_count (P := P) (w := w) (base := base) T).up (k := 6) (by decide)
  refine T.d_keep.okF sc_keep (fun ss C s C' h => by obtain ⟨_, _, _, _, _, _, rfl, _⟩ := h; rfl) fun f cdv A outer s H E hr => ⟨_, (pss_cons (ps_set (i := 3) nd rfl (Or.inl rfl) (pe_own o_rings_of hr rfl (pa_cons (pv 2) pa_nil))) (pss_cons (ps_if (pt_val (pe_own o_is_too_large hr rfl (pa_cons (pv 3) pa_nil))) (pss_one (ps_ret (pe_lst (pa_cons (pe_ct T.c_TOO_LARGE rfl) pa_nil)))) pss_nil) (pss_cons (ps_asg (pe_own o_in_order hr rfl (pa_cons (pv 3) pa_nil)) (pg_sub (pv 0) (pv 1) set_list)) (pss_one (ps_ret (pe_lst (pa_cons (pe_callB call_len_seq (by rfl) T.m_len PySem.boot_len (pa_cons (pv 3) pa_nil)) (pa_cons (pe_own o_side_count hr rfl (pa_cons (pv 3) pa_nil)) pa_nil)))))))), fun ss C z C' h => ?_⟩
  obtain ⟨g, s, k, b, hk, hb, rfl, rfl, rfl, rfl⟩ := h
  have hrl : (ringsM b).length ≤ 1000000 := Nat.le_trans rings_len (Nat.le_of_lt hb.bd.len)
  refine wp_set (x_rings_of (b := b) (xd_cons (xe_v 2 rfl) xd_nil) hb.bd) ?_
  refine wp_when (xt_B (x_is_too_large (r := ringsM b) (xd_cons (xe_v 3 rfl) xd_nil) ⟨fun c hc t ht => ?_, hrl⟩)) (fun q => ?_) fun q => ?_
  · obtain ⟨x, hx, rfl⟩ := ring_part hb.bd hc ht
    exact ⟨by have := (hb.nrm c hc x.1 ht).1; omega, ((hb.bd.bt x hx).1.mono (by decide : 403 ≤ 9000)).2.2⟩
  · refine wp_ret (xe_lst (xd_cons xe_i xd_nil)) ?_
    unfold keepM
    rw [if_pos q]
    exact ⟨rfl, rfl⟩
  · have q' : ¬ tooM (ringsM b) = true := by rw [q]; decide
    refine wp_seq (wp_store (k := k) [] [(t1, cT qFb), (t2, cT qIo)] (x_in_order (r := ringsM b) (Cb := [(g, cL (s.map rsD))]) (xd_cons (xe_v 3 rfl) xd_nil) (List.perm_append_comm (l₁ := [_]) (l₂ := [_, _])) (List.perm_append_comm (l₁ := [_, _]) (l₂ := [_])) (hb.io q')) rfl rfl (by rw [List.length_map]; exact hk) ?_)
    have hlen := vn_lenM (K := K) (C := Cg g t1 t2 (s.set k (orderM (ringsM b)))) (f := rgD) (c := ringsM b)
    have e : (s.map rsD).set k (rsD (orderM (ringsM b))) = (s.set k (orderM (ringsM b))).map rsD := by rw [List.map_set]
    rw [e]
    refine wp_ret (xe_lst (ds := [.int ((ringsM b).length : Nat), .int (((ringsM b).map List.length).sum : Nat)]) (xd_cons (xe_cb (xd_cons (xe_v 3 rfl) xd_nil) hlen) (xd_cons (x_side_count (r := ringsM b) (xd_cons (xe_v 3 rfl) xd_nil) hrl) xd_nil))) ?_
    unfold keepM
    rw [if_neg q']
    exact ⟨rfl, rfl⟩
theorem x_keep {L : Sls} {C : Cs} {ta : TA} {g : Addr} {s : Sta} {k : Nat} {b : List (T3 × T3)} (h : Xa ta L C [rf g, it (k : Nat), dt (.list (b.map paD))] (Cg g t1 t2 s)) (hk : k < s.length ∧ Bk b) : Xe (tCall (spF (R_keep t1 t2)) [] E0 ta) L C (dt (inD (keepM s k b).2)) (Cg g t1 t2 (keepM s k b).1) :=
  xe_callP (Cb := []) h (by rw [List.append_nil]) (by rw [List.append_nil]) ⟨g, s, k, b, hk.1, hk.2, rfl, rfl, rfl, rfl⟩
end
end Wk
end
section
open GkBase
set_option Elab.async false
set_option linter.all false
set_option maxRecDepth 100000
set_option exponentiation.threshold 10000
namespace Wk
open My
/-! ### borders -/
theorem border_mem {k : Int} {S1 S2 : List Sd} (hS : ∀ s ∈ S1 ++ S2, Sz s) {x : T3 × T3} (h : x ∈ borderM k S1 S2) : Bt 403 x.1 ∧ Bt 403 x.2 := by
  unfold borderM at h
  obtain ⟨st, h1, h2⟩ := List.mem_flatMap.1 h
  have hb := stretch_mem hS h1
  have : x = (st.1, st.2) ∨ x = (st.2, st.1) := by
    unfold partsM at h2
    simp only [List.mem_append] at h2
    rcases h2 with h2 | h2
    · split at h2
      · left; simpa using h2
      · simp at h2
    · split at h2
      · right; simpa using h2
      · simp at h2
  rcases this with rfl | rfl
  · exact hb
  · exact ⟨hb.2, hb.1⟩
theorem border_len {k : Int} {S1 S2 : List Sd} (hS : ∀ s ∈ S1 ++ S2, Sz s) (hl : (S1 ++ S2).length ≤ 40) : (borderM k S1 S2).length < 1000000 := by
  have h1 := (stretch_len hS hl).1
  have h2 := flat_bound (partsM k S1 S2) 2 (stretchM (S1 ++ S2)) fun x _ => parts_len k S1 S2 x
  unfold borderM
  omega
theorem bk_of {k : Int} {A B : List (List T3)} (m : Mk k A B) (hA : Rg A) (hB : Rg B) (hl : A.flatten.length + B.flatten.length ≤ 40) : Bk (borderM k (sidesM A) (sidesM B)) := by
  have hS : ∀ s ∈ sidesM A ++ sidesM B, Sz s := fun s hs => by
    rcases List.mem_append.1 hs with q | q
    · exact sides_sz hA s q
    · exact sides_sz hB s q
  have hl' : (sidesM A ++ sidesM B).length ≤ 40 := by rw [List.length_append, sides_len, sides_len]; exact hl
  exact ⟨⟨m.inj, fun x hx => border_mem hS hx, border_len hS hl'⟩, m.ne, m.nrm⟩
theorem rg_nil : Rg [] := fun c hc => by simp at hc
/-! ### rings told by numbers -/
theorem place_one (x y : Int) : placeM x y 1 = (x, y, 1) := by
  obtain ⟨f, a, b, c, hf, e1, e2, e3, e, hn⟩ := place_spec (x := x) (y := y) (w := 1) (by decide)
  rw [e]
  have hc : 0 < c := hn.1
  have h1 : f = 1 ∧ c = 1 := by
    have hf1 : 0 < f := by
      rcases Int.lt_or_gt_of_ne hf with q | q
      · have := Int.mul_neg_of_neg_of_pos q hc
        omega
      · exact q
    have : f ∣ 1 := ⟨c, e3⟩
    have h2 := Int.le_of_dvd (by decide) this
    have h3 : f = 1 := by omega
    subst h3
    exact ⟨rfl, by omega⟩
  obtain ⟨rfl, rfl⟩ := h1
  rw [e1, e2, Int.one_mul, Int.one_mul]
theorem toP_one (x y : Int) : toP (x, y, 1) = ofInts x y := by
  unfold toP ofInts
  have h : ((1 : Int) : Rat) = 1 := rfl
  have d : ∀ z : Rat, z / 1 = z := fun z => by grind
  simp only [h, d]
theorem nrm_one (x y : Int) : Nrm (x, y, 1) := ⟨Int.one_pos, fun c _ _ h => h⟩
theorem whole_cons (x y : Int) (l : List Int) : wholeM (x :: y :: l) = (x, y, 1) :: wholeM l := by
  unfold wholeM
  have e : (x :: y :: l).length / 2 = l.length / 2 + 1 := by rw [List.length_cons, List.length_cons]; omega
  rw [e, List.range_succ_eq_map, List.map_cons, List.map_map]
  have h0 : placeM ((x :: y :: l).getD (2 * 0) 0) ((x :: y :: l).getD (2 * 0 + 1) 0) 1 = (x, y, 1) := place_one x y
  rw [h0]
  congr 1
theorem whole_nrm : ∀ (l : List Int), ∀ t ∈ wholeM l, Nrm t ∧ t.2.2 = 1
  | [] => by simp [wholeM]
  | [x] => by simp [wholeM]
  | x :: y :: l => by
    rw [whole_cons]
    intro t ht
    rcases List.mem_cons.1 ht with rfl | ht
    · exact ⟨nrm_one x y, rfl⟩
    · exact whole_nrm l t ht
theorem bey_iff (l : List Int) : beyM l 100 = true ↔ ∃ z ∈ l, Gk02.small z = false := by
  unfold beyM
  rw [List.any_eq_true]
  constructor
  · rintro ⟨z, h1, h2⟩
    refine ⟨z, h1, ?_⟩
    unfold Gk02.small
    simp only [decide_eq_true_eq] at h2
    rw [← Bool.not_eq_true, Bool.and_eq_true, decide_eq_true_eq, decide_eq_true_eq]
    split at h2 <;> omega
  · rintro ⟨z, h1, h2⟩
    refine ⟨z, h1, ?_⟩
    unfold Gk02.small at h2
    rw [← Bool.not_eq_true, Bool.and_eq_true, decide_eq_true_eq, decide_eq_true_eq] at h2
    simp only [decide_eq_true_eq]
    split <;> omega
theorem ptsOf_eq : ∀ (l : List Int), Gk02.ptsOf l = if l.length % 2 ≠ 0 ∨ beyM l 100 = true then none else some ((wholeM l).map toP)
  | [] => by simp [Gk02.ptsOf, beyM, wholeM]
  | [x] => by simp [Gk02.ptsOf]
  | x :: y :: l => by
    have ih := ptsOf_eq l
    have el : (x :: y :: l).length % 2 = l.length % 2 := by rw [List.length_cons, List.length_cons]; omega
    have eb : (beyM (x :: y :: l) 100 = true) ↔ (Gk02.small x = false ∨ Gk02.small y = false ∨ beyM l 100 = true) := by
      rw [bey_iff, bey_iff]
      simp only [List.mem_cons]
      constructor
      · rintro ⟨z, h | h | h, k⟩
        · left; rw [← h]; exact k
        · right; left; rw [← h]; exact k
        · right; right; exact ⟨z, h, k⟩
      · rintro (h | h | ⟨z, h, k⟩)
        · exact ⟨x, .inl rfl, h⟩
        · exact ⟨y, .inr (.inl rfl), h⟩
        · exact ⟨z, .inr (.inr h), k⟩
    rw [el, whole_cons, List.map_cons, toP_one]
    show (if (Gk02.small x && Gk02.small y) = true then (Gk02.ptsOf l).map fun (r : List Pt) => ofInts x y :: r else none) = _
    rw [ih]
    by_cases hs : (Gk02.small x && Gk02.small y) = true
    · rw [if_pos hs]
      rw [Bool.and_eq_true] at hs
      by_cases q : l.length % 2 ≠ 0 ∨ beyM l 100 = true
      · rw [if_pos q, if_pos]
        · rfl
        · rcases q with q | q
          · exact .inl q
          · exact .inr (eb.2 (.inr (.inr q)))
      · rw [if_neg q, if_neg]
        · rfl
        · rintro (z | z)
          · exact q (.inl z)
          · rcases eb.1 z with z | z | z
            · rw [hs.1] at z; cases z
            · rw [hs.2] at z; cases z
            · exact q (.inr z)
    · rw [if_neg hs, if_pos]
      right
      rw [eb]
      cases h1 : Gk02.small x with
      | false => exact .inl rfl
      | true =>
        cases h2 : Gk02.small y with
        | false => exact .inr (.inl rfl)
        | true => rw [h1, h2] at hs; exact absurd rfl hs
theorem pair_at {c : List T3} {k : Nat} (h : k < c.length) : ((c.getLastD (0, 0, 0) :: c).zip c)[k]? = some (prv c k, cur c k) := by
  rw [List.getElem?_zip_eq_some]
  refine ⟨?_, ?_⟩
  · unfold prv
    rw [List.getD_eq_getElem?_getD, List.getElem?_eq_getElem (by rw [List.length_cons]; omega)]; rfl
  · unfold cur
    rw [List.getD_eq_getElem?_getD, List.getElem?_eq_getElem h]; rfl
theorem all_pairs (c : List T3) (hn : ∀ t ∈ c, Nrm t) : ((List.range c.length).all fun k => !decide (prv c k = cur c k)) = (sides (c.map toP)).all fun (s : Seg) => decide (s.1 ≠ s.2) := by
  have h1 : ((List.range c.length).all fun k => !decide (prv c k = cur c k)) = true ↔ ∀ x ∈ (c.getLastD (0, 0, 0) :: c).zip c, x.1 ≠ x.2 := by
    rw [List.all_eq_true]
    constructor
    · intro h x hx
      obtain ⟨k, hk, e⟩ := List.mem_iff_getElem.1 hx
      have hk' : k < c.length := by rw [List.length_zip] at hk; omega
      have := pair_at hk'
      rw [List.getElem?_eq_getElem hk, e] at this
      have h2 := h k (List.mem_range.2 hk')
      cases this
      simpa using h2
    · intro h k hk
      have := h _ (List.mem_of_getElem? (pair_at (List.mem_range.1 hk)))
      simpa using this
  have pm := ring_perm c
  rw [Bool.eq_iff_iff, h1, List.all_eq_true, sides_mapP]
  have hm : ∀ x ∈ (c.getLastD (0, 0, 0) :: c).zip c, x.1 ∈ c ∧ x.2 ∈ c := by
    intro x hx
    have hz := List.of_mem_zip hx
    have hcn : c ≠ [] := by rintro rfl; simp at hz
    refine ⟨?_, hz.2⟩
    rcases List.mem_cons.1 hz.1 with q | q
    · rw [q]; exact getLastD_mem c _ hcn
    · exact q
  constructor
  · intro h s hs
    obtain ⟨x, hx, rfl⟩ := List.mem_map.1 hs
    have hx' := pm.mem_iff.2 hx
    simp only [ne_eq, decide_not, Bool.not_eq_true', decide_eq_false_iff_not]
    intro e
    exact h x hx' (toP_inj (hn _ (hm x hx').1) (hn _ (hm x hx').2) e)
  · intro h x hx e
    have := h _ (List.mem_map.2 ⟨x, pm.mem_iff.1 hx, rfl⟩)
    simp only [ne_eq, decide_not, Bool.not_eq_true', decide_eq_false_iff_not] at this
    exact this (by rw [e])
theorem ringOf_eq (l : List Int) : Gk02.ringOf l = if isRingM l = true then some ((wholeM l).map toP) else none := by
  unfold Gk02.ringOf isRingM
  rw [ptsOf_eq]
  by_cases q : l.length % 2 ≠ 0 ∨ beyM l 100 = true
  · rw [if_pos q, if_pos q]; rfl
  · rw [if_neg q, if_neg q]
    have ap := all_pairs (wholeM l) fun t ht => (whole_nrm l t ht).1
    by_cases z : (wholeM l).length < 3 ∨ (wholeM l).length > 10
    · rw [if_pos z]
      have : ¬ (3 ≤ (wholeM l).length ∧ (wholeM l).length ≤ 10) := by omega
      simp only [Option.filter, List.length_map]
      rw [if_neg (by
        rw [Bool.and_eq_true, Bool.and_eq_true, decide_eq_true_eq, decide_eq_true_eq]
        rintro ⟨a, b, _⟩
        exact this ⟨a, b⟩)]
      rfl
    · rw [if_neg z]
      have h3 : decide (3 ≤ (wholeM l).length) = true := by rw [decide_eq_true_eq]; omega
      have h4 : decide ((wholeM l).length ≤ 10) = true := by rw [decide_eq_true_eq]; omega
      simp only [Option.filter, List.length_map, h3, h4, Bool.true_and]
      rw [← ap]
theorem mapM_ring : ∀ (rows : List (List Int)), rows.mapM Gk02.ringOf = if rows.all isRingM = true then some (ptsM (rows.map wholeM)) else none
  | [] => rfl
  | l :: rows => by
    rw [List.mapM_cons, ringOf_eq, mapM_ring rows, List.all_cons]
    by_cases h1 : isRingM l = true
    · rw [if_pos h1, h1, Bool.true_and]
      by_cases h2 : rows.all isRingM = true
      · rw [if_pos h2, if_pos h2]; rfl
      · rw [if_neg h2, if_neg h2]; rfl
    · rw [if_neg h1]
      have : isRingM l = false := by simpa using h1
      rw [this]; rfl
end Wk
end
section
open GkBase
set_option Elab.async false
set_option linter.all false
set_option maxRecDepth 100000
set_option exponentiation.threshold 10000
namespace Wk
open My
/-! ### what each call answers -/
def rgAt (s : Sta) (i : Int) : List (List T3) := s.getD i.toNat []
def ansRings (s : Sta) (g : Int) (rows : List (List Int)) : Sta × List Int := if g ≥ 6 then (s, [-3]) else if areRingsM rows = false then (s, [-1]) else keepM s g.toNat (borderM 0 (sidesM (rows.map wholeM)) [])
def ansPut (s : Sta) (kind one other goal : Int) : Sta × List Int := if max (max one other) goal ≥ 6 then (s, [-3]) else if kind > 3 then (s, [-1]) else keepM s goal.toNat (borderM kind (sidesM (rgAt s one)) (sidesM (rgAt s other)))
def ansMove (s : Sta) (one goal : Int) (w : Gk02.Move) : Sta × List Int := if max one goal ≥ 6 then (s, [-3]) else if beyM [w.a, w.b, w.c, w.d, w.e, w.f] 100 = true ∨ w.a * w.d = w.b * w.c then (s, [-1]) else keepM s goal.toNat (borderM 0 (sidesM (movedM w (rgAt s one))) [])
def tellsM (r : List (List T3)) : List Int := (r.length : Int) :: r.flatMap fun c => (c.length : Int) :: c.flatMap toldM
def ansTells (s : Sta) (i : Int) : List Int := if i ≥ 6 then [-3] else tellsM (rgAt s i)
def ansArea (s : Sta) (i : Int) : List Int := if i ≥ 6 then [-3] else [pieceM (rgAt s i), (areaM (rgAt s i)).1, (areaM (rgAt s i)).2]
def spotM (p : List Int) : T3 := placeM (p.getD 0 0 * p.getD 3 0) (p.getD 2 0 * p.getD 1 0) (p.getD 1 0 * p.getD 3 0)
def ansWhere (s : Sta) (i : Int) (p : List Int) : List Int := if i ≥ 6 then [-3] else if ptM p = false then [-4] else [whereM (rgAt s i) (spotM p)]
def b1 (b : Bool) : Int := if b = true then 1 else 0
def ansCompare (s : Sta) (i j : Int) : List Int := if max i j ≥ 6 then [-3] else [b1 (decide (rgAt s i = rgAt s j)), b1 (decide (borderM 2 (sidesM (rgAt s i)) (sidesM (rgAt s j)) = [])), b1 (decide (borderM 1 (sidesM (rgAt s i)) (sidesM (rgAt s j)) = []))]
theorem wholeM_ind {motive : List Int → Prop} (h0 : motive []) (h1 : ∀ x, motive [x]) (h2 : ∀ x y l, motive l → motive (x :: y :: l)) : ∀ l, motive l
  | [] => h0
  | [x] => h1 x
  | x :: y :: l => h2 x y l (wholeM_ind h0 h1 h2 l)
section
variable {s : Sta}
theorem at_int (hs : Sok s) {i : Int} (h0 : 0 ≤ i) (h6 : i < 6) : Held (rgAt s i) ∧ Gk02.regionAt (ptsS s) i.toNat = ptsM (rgAt s i) ∧ s[i.toNat]? = some (rgAt s i) := hs.at (by omega)
/-- what is asked of rows told as rings -/
theorem rows_ok {rows : List (List Int)} (h : areRingsM rows = true) : Kept (rows.map wholeM) ∧ Rg (rows.map wholeM) ∧ (rows.map wholeM).flatten.length ≤ 16 ∧ (∀ r ∈ rows, r.length % 2 = 0) ∧ rows.length ≤ 4 ∧ rows.mapM Gk02.ringOf = some (ptsM (rows.map wholeM)) ∧ ¬ (4 < rows.length ∨ 2 * Gk02.SIDES < rows.flatten.length) := by
  unfold areRingsM at h
  split at h
  · cases h
  · rename_i h1
    split at h
    · cases h
    · rename_i h2
      have hm := mapM_ring rows
      rw [if_pos h] at hm
      have each : ∀ r ∈ rows, r.length % 2 = 0 ∧ beyM r 100 = false ∧ (sides ((wholeM r).map toP)).all (fun (s : Seg) => decide (s.1 ≠ s.2)) = true := by
        intro r hr
        have hk := List.all_eq_true.1 h r hr
        unfold isRingM at hk
        split at hk
        · cases hk
        · rename_i q
          split at hk
          · cases hk
          · rw [all_pairs _ fun t ht => (whole_nrm r t ht).1] at hk
            exact ⟨by omega, by cases z : beyM r 100 with
              | false => rfl
              | true => exact absurd (.inr z) q, hk⟩
      have hb : ∀ r ∈ rows, ∀ t ∈ wholeM r, 0 < t.2.2 ∧ Bt 100 t := by
        intro r hr t ht
        have key : ∀ (l : List Int), beyM l 100 = false → ∀ t ∈ wholeM l, Bt 100 t := by
          intro l
          induction l using wholeM_ind with
          | h0 => simp [wholeM]
          | h1 x => simp [wholeM]
          | h2 x y l ih =>
            intro hb t ht
            rw [whole_cons] at ht
            have hx : ∀ z ∈ x :: y :: l, Gk02.small z = true := fun z hz => by
              cases q : Gk02.small z with
              | true => rfl
              | false =>
                have := (bey_iff _).2 ⟨z, hz, q⟩
                rw [hb] at this; cases this
            have sm : ∀ z, Gk02.small z = true → Bi 100 z := fun z hz => by
              unfold Gk02.small at hz
              rw [Bool.and_eq_true, decide_eq_true_eq, decide_eq_true_eq] at hz
              unfold Bi
              have : z.natAbs ≤ 100 := by omega
              exact Nat.lt_of_le_of_lt this (by decide)
            rcases List.mem_cons.1 ht with rfl | ht
            · exact ⟨sm _ (hx x (by simp)), sm _ (hx y (by simp)), by show (1 : Int).natAbs < 2 ^ 100; decide⟩
            · refine ih ?_ t ht
              cases q : beyM l 100 with
              | false => rfl
              | true =>
                obtain ⟨z, h1, h2⟩ := (bey_iff _).1 q
                rw [hx z (by simp [h1])] at h2; cases h2
        have h1 := (whole_nrm r t ht).2
        exact ⟨by rw [h1]; decide, key r (each r hr).2.1 t ht⟩
      have wl : ∀ r : List Int, (wholeM r).length = r.length / 2 := fun r => by unfold wholeM; simp
      have hlen : ∀ rs : List (List Int), (∀ r ∈ rs, r.length % 2 = 0) → 2 * (rs.map wholeM).flatten.length = (rs.map List.length).sum := by
        intro rs
        induction rs with
        | nil => intro _; rfl
        | cons r rs ih =>
          intro hr
          have h1 := ih fun x hx => hr x (List.mem_cons_of_mem _ hx)
          have h2 := hr r List.mem_cons_self
          rw [List.map_cons, List.flatten_cons, List.length_append, wl, List.map_cons, List.sum_cons]
          omega
      refine ⟨⟨fun c hc t ht => ?_, fun sg hsg => ?_⟩, fun c hc t ht => ?_, ?_, fun r hr => (each r hr).1, by omega, hm, ?_⟩
      · obtain ⟨r, hr, rfl⟩ := List.mem_map.1 hc
        exact (whole_nrm r t ht).1
      · unfold Gk02.sidesOf at hsg
        obtain ⟨c, hc, h3⟩ := List.mem_flatMap.1 hsg
        obtain ⟨c0, hc0, rfl⟩ := List.mem_map.1 hc
        obtain ⟨r, hr, rfl⟩ := List.mem_map.1 hc0
        have := List.all_eq_true.1 (each r hr).2.2 sg h3
        simpa using this
      · obtain ⟨r, hr, rfl⟩ := List.mem_map.1 hc
        exact hb r hr t ht
      · have := hlen rows fun r hr => (each r hr).1
        omega
      · rw [List.length_flatten]
        unfold Gk02.SIDES
        omega
theorem rows_no {rows : List (List Int)} (h : areRingsM rows = false) : (4 < rows.length ∨ 2 * Gk02.SIDES < rows.flatten.length) ∨ rows.mapM Gk02.ringOf = none := by
  unfold areRingsM at h
  unfold Gk02.SIDES
  rw [List.length_flatten]
  split at h
  · left; left; omega
  · split at h
    · left; right; omega
    · right
      rw [mapM_ring, if_neg (by rw [h]; decide)]
theorem rings_spec (hs : Sok s) {g : Int} (h0 : 0 ≤ g) (rows : List (List Int)) : Gk02.step (ptsS s) (.rings g.toNat rows) = (ptsS (ansRings s g rows).1, (ansRings s g rows).2) ∧ Sok (ansRings s g rows).1 := by
  unfold ansRings
  simp only [Gk02.step]
  by_cases h6 : g ≥ 6
  · rw [if_pos h6, if_pos (by unfold Gk02.SLOTS; omega)]
    exact ⟨rfl, hs⟩
  · rw [if_neg h6, if_neg (by unfold Gk02.SLOTS; omega)]
    cases hr : areRingsM rows with
    | false =>
      rw [if_pos rfl]
      refine ⟨?_, hs⟩
      rcases rows_no hr with q | q
      · rw [if_pos q]
      · rw [q]
        split <;> rfl
    | true =>
      rw [if_neg (show ¬ (true = false) by decide)]
      obtain ⟨k1, k2, k3, _, _, k6, k7⟩ := rows_ok hr
      rw [if_neg k7, k6]
      obtain ⟨m1, m2, m3, m4, m5⟩ := made_ofRings k1
      obtain ⟨a, b⟩ := keep_spec (g := g.toNat) hs m1 m2 m3 m4 (mk_ofRings k1).ne
      exact ⟨b, a⟩
theorem put_spec (hs : Sok s) {k a b c : Int} (hk : 0 ≤ k) (ha : 0 ≤ a) (hb : 0 ≤ b) (hc : 0 ≤ c) : Gk02.step (ptsS s) (.put k.toNat a.toNat b.toNat c.toNat) = (ptsS (ansPut s k a b c).1, (ansPut s k a b c).2) ∧ Sok (ansPut s k a b c).1 := by
  unfold ansPut
  simp only [Gk02.step]
  by_cases h6 : max (max a b) c ≥ 6
  · rw [if_pos h6, if_pos (by unfold Gk02.SLOTS; omega)]
    exact ⟨rfl, hs⟩
  · rw [if_neg h6, if_neg (by unfold Gk02.SLOTS; omega)]
    by_cases h3 : k > 3
    · rw [if_pos h3, if_pos (by omega)]
      exact ⟨rfl, hs⟩
    · rw [if_neg h3, if_neg (by omega)]
      obtain ⟨a1, a2, a3⟩ := at_int hs ha (by omega)
      obtain ⟨b1, b2, b3⟩ := at_int hs hb (by omega)
      rw [a2, b2]
      have hk3 : k.toNat ≤ 3 := by omega
      have ek : (k.toNat : Int) = k := by omega
      obtain ⟨m1, m2, m3, m4, m5⟩ := made_combine a1.kept b1.kept a1.fine b1.fine hk3
      have mk := mk_combine a1.kept b1.kept a1.fine b1.fine hk3
      rw [ek] at m1 m2 m4 mk
      obtain ⟨x, y⟩ := keep_spec (g := c.toNat) hs m1 m2 m3 m4 mk.ne
      exact ⟨y, x⟩
theorem move_spec (hs : Sok s) {a b : Int} (ha : 0 ≤ a) (hb : 0 ≤ b) (w : Gk02.Move) : Gk02.step (ptsS s) (.move a.toNat b.toNat w) = (ptsS (ansMove s a b w).1, (ansMove s a b w).2) ∧ Sok (ansMove s a b w).1 := by
  unfold ansMove
  simp only [Gk02.step]
  by_cases h6 : max a b ≥ 6
  · rw [if_pos h6, if_pos (by unfold Gk02.SLOTS; omega)]
    exact ⟨rfl, hs⟩
  · rw [if_neg h6, if_neg (by unfold Gk02.SLOTS; omega)]
    have e1 : (([w.a, w.b, w.c, w.d, w.e, w.f].all Gk02.small) = false ∨ Gk02.det w = 0) ↔ (beyM [w.a, w.b, w.c, w.d, w.e, w.f] 100 = true ∨ w.a * w.d = w.b * w.c) := by
      rw [bey_iff]
      have : ([w.a, w.b, w.c, w.d, w.e, w.f].all Gk02.small) = false ↔ ∃ z ∈ [w.a, w.b, w.c, w.d, w.e, w.f], Gk02.small z = false := by
        rw [← Bool.not_eq_true, List.all_eq_true]
        constructor
        · intro h
          exact Classical.byContradiction fun q => h fun z hz => by
            cases k : Gk02.small z with
            | true => rfl
            | false => exact absurd ⟨z, hz, k⟩ q
        · rintro ⟨z, hz, k⟩ h
          rw [h z hz] at k; cases k
      rw [this]
      unfold Gk02.det
      constructor
      · rintro (h | h)
        · exact .inl h
        · exact .inr (by omega)
      · rintro (h | h)
        · exact .inl h
        · exact .inr (by omega)
    by_cases q : beyM [w.a, w.b, w.c, w.d, w.e, w.f] 100 = true ∨ w.a * w.d = w.b * w.c
    · rw [if_pos q, if_pos (e1.2 q)]
      exact ⟨rfl, hs⟩
    · rw [if_neg q, if_neg (fun z => q (e1.1 z))]
      obtain ⟨a1, a2, a3⟩ := at_int hs ha (by omega)
      rw [a2]
      have hd : Gk02.det w ≠ 0 := by
        intro z
        unfold Gk02.det at z
        exact q (.inr (by omega))
      obtain ⟨k1, k2⟩ := made_moved hd a1.kept
      rw [← k2]
      obtain ⟨m1, m2, m3, m4, m5⟩ := made_ofRings k1
      obtain ⟨x, y⟩ := keep_spec (g := b.toNat) hs m1 m2 m3 m4 (mk_ofRings k1).ne
      exact ⟨y, x⟩
theorem fm_congr {α β : Type} {f g : α → List β} : ∀ {l : List α}, (∀ x ∈ l, f x = g x) → l.flatMap f = l.flatMap g
  | [], _ => rfl
  | a :: l, h => by
    rw [List.flatMap_cons, List.flatMap_cons, h a List.mem_cons_self, fm_congr fun x hx => h x (List.mem_cons_of_mem _ hx)]
theorem tells_eq {r : List (List T3)} (h : ∀ c ∈ r, ∀ t ∈ c, 0 < t.2.2) : tellsM r = Gk02.nat (ptsM r).length :: (ptsM r).flatMap fun (c : List Pt) => Gk02.nat c.length :: c.flatMap toldPt := by
  unfold tellsM Gk02.nat
  rw [List.length_map]
  congr 1
  rw [List.flatMap_map]
  refine fm_congr fun c hc => ?_
  rw [List.length_map]
  congr 1
  rw [List.flatMap_map]
  exact fm_congr fun t ht => told_toP (h c hc t ht)
theorem tells_spec (hs : Sok s) {a : Int} (ha : 0 ≤ a) : Gk02.step (ptsS s) (.tells a.toNat) = (ptsS s, ansTells s a) := by
  unfold ansTells
  simp only [Gk02.step]
  by_cases h6 : a ≥ 6
  · rw [if_pos h6, if_pos (by unfold Gk02.SLOTS; omega)]
  · rw [if_neg h6, if_neg (by unfold Gk02.SLOTS; omega)]
    obtain ⟨a1, a2, a3⟩ := at_int hs ha (by omega)
    rw [a2, tells_eq fun c hc t ht => (a1.kept.1 c hc t ht).1]
theorem area_step (hs : Sok s) {a : Int} (ha : 0 ≤ a) : Gk02.step (ptsS s) (.area a.toNat) = (ptsS s, ansArea s a) := by
  unfold ansArea
  simp only [Gk02.step]
  by_cases h6 : a ≥ 6
  · rw [if_pos h6, if_pos (by unfold Gk02.SLOTS; omega)]
  · rw [if_neg h6, if_neg (by unfold Gk02.SLOTS; omega)]
    obtain ⟨a1, a2, a3⟩ := at_int hs ha (by omega)
    obtain ⟨p1, p2⟩ := area_spec fun c hc t ht => (a1.kept.1 c hc t ht).1
    rw [a2, ← p2, p1]; rfl
theorem pt_eq (p : List Int) : Gk01.ptOf p = if ptM p = true then some (toP (spotM p)) else none := by
  by_cases hl : p.length = 4
  · match p, hl with
    | [a, b, c, d], _ =>
      have e : ptM [a, b, c, d] = (tfM a b && tfM c d) := rfl
      rw [e]
      show (if decide (a.natAbs ≤ 100000) && (decide (c.natAbs ≤ 100000) && (decide (1 ≤ b) && (decide (b ≤ 1000) && (decide (1 ≤ d) && decide (d ≤ 1000))))) then some ((a : Rat) / (b : Rat), (c : Rat) / (d : Rat)) else none) = _
      have h : (decide (a.natAbs ≤ 100000) && (decide (c.natAbs ≤ 100000) && (decide (1 ≤ b) && (decide (b ≤ 1000) && (decide (1 ≤ d) && decide (d ≤ 1000)))))) = true ↔ (tfM a b && tfM c d) = true := by
        unfold tfM
        simp only [Bool.and_eq_true, decide_eq_true_eq]
        split <;> split <;> omega
      by_cases q : (tfM a b && tfM c d) = true
      · rw [if_pos q, if_pos (h.2 q)]
        have hbd : 1 ≤ b ∧ 1 ≤ d := by
          unfold tfM at q
          simp only [Bool.and_eq_true, decide_eq_true_eq] at q
          omega
        have hb : (b : Rat) ≠ 0 := cast_ne (by omega)
        have hd : (d : Rat) ≠ 0 := cast_ne (by omega)
        have hw : b * d ≠ 0 := Int.mul_ne_zero (by omega) (by omega)
        show _ = some (toP (placeM (a * d) (c * b) (b * d)))
        rw [place_toP hw, Rat.intCast_mul, Rat.intCast_mul, Rat.intCast_mul]
        have e1 : (a : Rat) / (b : Rat) = (a : Rat) * (d : Rat) / ((b : Rat) * (d : Rat)) := by grind
        have e2 : (c : Rat) / (d : Rat) = (c : Rat) * (b : Rat) / ((b : Rat) * (d : Rat)) := by grind
        rw [e1, e2]
      · rw [if_neg q, if_neg (fun z => q (h.1 z))]
  · have e1 : ptM p = false := by unfold ptM; rw [if_pos hl]
    rw [e1, if_neg (by decide)]
    unfold Gk01.ptOf
    split
    · exact absurd rfl hl
    · rfl
theorem spot_ok {p : List Int} (h : ptM p = true) : p.getD 1 0 * p.getD 3 0 ≠ 0 ∧ (∀ i, i < 4 → Bi 20 (p.getD i 0)) ∧ p.length = 4 := by
  unfold ptM at h
  split at h
  · cases h
  · rename_i hl
    unfold tfM at h
    simp only [Bool.and_eq_true, decide_eq_true_eq] at h
    have hb : ∀ z : Int, z.natAbs ≤ 100000 → Bi 20 z := fun z hz => by
      unfold Bi
      exact Nat.lt_of_le_of_lt hz (by decide)
    refine ⟨Int.mul_ne_zero (by omega) (by omega), fun i hi => ?_, by omega⟩
    match i, hi with
    | 0, _ => exact hb _ (by have := h.1.1; split at this <;> omega)
    | 1, _ => exact hb _ (by omega)
    | 2, _ => exact hb _ (by have := h.2.1; split at this <;> omega)
    | 3, _ => exact hb _ (by omega)
theorem where_step (hs : Sok s) {a : Int} (ha : 0 ≤ a) (p : List Int) : Gk02.step (ptsS s) (.where_ a.toNat p) = (ptsS s, ansWhere s a p) := by
  unfold ansWhere
  simp only [Gk02.step]
  by_cases h6 : a ≥ 6
  · rw [if_pos h6, if_pos (by unfold Gk02.SLOTS; omega)]
  · rw [if_neg h6, if_neg (by unfold Gk02.SLOTS; omega), pt_eq]
    obtain ⟨a1, a2, a3⟩ := at_int hs ha (by omega)
    rw [a2]
    cases hp : ptM p with
    | false => rfl
    | true =>
      rw [if_pos rfl, if_neg (show ¬ (true = false) by decide)]
      obtain ⟨f, x, y, z, _, _, _, _, e, hn⟩ := place_spec (x := p.getD 0 0 * p.getD 3 0) (y := p.getD 2 0 * p.getD 1 0) (spot_ok hp).1
      have hw : 0 < (spotM p).2.2 := by
        unfold spotM
        rw [e]; exact hn.1
      rw [where_spec a1.kept a1.fine hw]
theorem compare_step (hs : Sok s) {a b : Int} (ha : 0 ≤ a) (hb : 0 ≤ b) : Gk02.step (ptsS s) (.compare a.toNat b.toNat) = (ptsS s, ansCompare s a b) := by
  unfold ansCompare
  simp only [Gk02.step]
  by_cases h6 : max a b ≥ 6
  · rw [if_pos h6, if_pos (by unfold Gk02.SLOTS; omega)]
  · rw [if_neg h6, if_neg (by unfold Gk02.SLOTS; omega)]
    obtain ⟨a1, a2, a3⟩ := at_int hs ha (by omega)
    obtain ⟨b1', b2, b3⟩ := at_int hs hb (by omega)
    rw [a2, b2]
    have e0 := pts_inj a1.kept b1'.kept
    have e2 := compare_spec a1.kept b1'.kept a1.fine b1'.fine (k := 2) (by decide)
    have e1 := compare_spec a1.kept b1'.kept a1.fine b1'.fine (k := 1) (by decide)
    have cst : ∀ {p q : Prop} [Decidable p] [Decidable q], (p ↔ q) → b1 (decide p) = if q then 1 else 0 := by
      intro p q _ _ h
      unfold b1
      by_cases z : p
      · simp [z, h.1 z]
      · have : ¬ q := fun y => z (h.2 y)
        simp [z, this]
    have c2 : ((2 : Nat) : Int) = 2 := rfl
    have c1 : ((1 : Nat) : Int) = 1 := rfl
    rw [c2] at e2
    rw [c1] at e1
    rw [cst e0, cst e2, cst e1]
end
end Wk
end
section
set_option Elab.async false
set_option linter.all false
set_option maxRecDepth 100000
set_option exponentiation.threshold 10000
namespace Wk
open PySem PySem.Spec PyProof.Rows L2
open Evl (Ex ex_l ex_t sq_of st_of)
open My (T3 Sd sidesM borderM ringsM orderM movedM pieceM areaM whereM placeM)
section
variable {K : PySem.W.Frag} {L : Sls} {C C0 C1 : Cs} {ta : TA} {tb : TS} {N : Sls → Cs → Prop} {R : SP → Cs → Prop} {ds : List PyData} {i j k : Int} {b : Bool}
theorem vn_max3 : Vn (fun xs H Q => ∃ i j k : Int, xs = [.int i, .int j, .int k] ∧ Q (.int (max (max i j) k)) H) C [it i, it j, it k] (it (max (max i j) k)) C := fun xs G H Q e c r q => by
  obtain rfl := three_int r
  exact ⟨i, j, k, rfl, q _ G H (Tr.rfl' e c) (.int _)⟩
theorem vn_max2 : Vn (fun xs H Q => ∃ i j : Int, xs = [.int i, .int j] ∧ Q (.int (if j > i then j else i)) H) C [it i, it j] (it (max i j)) C := fun xs G H Q e c r q => by
  obtain rfl := two_int r
  refine ⟨i, j, rfl, ?_⟩
  have : (if j > i then j else i) = max i j := by split <;> omega
  rw [this]
  exact q _ G H (Tr.rfl' e c) (.int _)
theorem vn_int : Vn (fun xs H Q => (∃ i : Int, xs = [.int i] ∧ Q (.int i) H) ∨ ∃ k : Bool, xs = [.bl k] ∧ Q (.int (if k then 1 else 0)) H) C [bo b] (it (b1 b)) C := fun xs G H Q e c r q => by
  cases r with
  | cons x y =>
    cases x; cases y
    exact .inr ⟨b, rfl, q _ G H (Tr.rfl' e c) (.int _)⟩
/-- x = [..], which will be changed -/
theorem wp_newL {n : Nat} (h : Xd ta L C ds C1) (hl : ds.length ≤ 100000) (q : ∀ p, ¬ In C1 p → ¬ In C0 p → WP tb C0 (L.set n (some (rf p))) ((p, cL ds) :: C1) N R) : WP (tSeq (tAsg (tLst ta) (gName n)) tb) C0 L C N R := wp_seq fun G0 H0 σ G H D c0 tr sl hn hr =>
  h σ G H sl tr.dn tr.cl _ fun vs G1 H1 t1 r1 => ⟨by rw [r1.rp.len]; exact Evl.sz_of hl, fun p hp => by
    have n1 := t1.cl.not hp
    have tt := tr.trans c0 t1
    exact hn _ _ _ G1 _ (q p n1 fun z => n1 (tt.kee p z)) (tt.trans c0 (Tr.open (x := cL ds) t1.dn t1.cl hp ⟨vs, rfl, r1.rp⟩)) t1.up ((sl.ex t1.up).set (x := rf p) rfl)⟩
end
theorem atI_reg {s : Sta} {k : Nat} (h : k < s.length) : atI (s.map rsD) (k : Int) = some (rsD (rgAt s (k : Int))) := by
  refine atI_nat' ?_
  rw [List.getElem?_map]
  unfold rgAt
  rw [Int.toNat_natCast, List.getD_eq_getElem?_getD, List.getElem?_eq_getElem h]; rfl
theorem nat_of {i : Int} (h : 0 ≤ i) : ∃ k : Nat, i = (k : Int) := ⟨i.toNat, by omega⟩
section
variable {K : PySem.W.Frag} {L : Sls} {C C1 C2 : Cs} {ta tb : TE} {g t1 t2 : Addr} {s : Sta} {k : Nat}
/-- regions[k] -/
theorem xe_reg (ha : Xe ta L C (rf g) C1) (hb : Xe tb L C1 (it (k : Nat)) (Cg g t1 t2 s)) (hk : k < s.length) : Xe (tOp (rIx K) ta tb) L C (dt (rsD (rgAt s (k : Int)))) (Cg g t1 t2 s) := xe_ixC ha hb List.mem_cons_self (atI_reg hk)
end
theorem eqvAll_map {α : Type} [DecidableEq α] (f : α → PyData) (hf : ∀ a b, PyData.eqv (f a) (f b) = decide (a = b)) : ∀ p q : List α, PyData.eqvAll (p.map f) (q.map f) = decide (p = q)
  | [], [] => by simp [PyData.eqvAll]
  | [], _ :: _ => by simp [PyData.eqvAll]
  | _ :: _, [] => by simp [PyData.eqvAll]
  | a :: p, b :: q => by
    rw [List.map_cons, List.map_cons, PyData.eqvAll, hf, eqvAll_map f hf p q]
    rw [Bool.eq_iff_iff]
    simp
theorem eqv_rg (a b : List T3) : PyData.eqv (rgD a) (rgD b) = decide (a = b) := by
  show PyData.eqv (.list _) (.list _) = _
  rw [PyData.eqv]
  exact eqvAll_map plD eqv_pl a b
theorem eqv_rs (a b : List (List T3)) : PyData.eqv (rsD a) (rsD b) = decide (a = b) := by
  show PyData.eqv (.list _) (.list _) = _
  rw [PyData.eqv]
  exact eqvAll_map rgD eqv_rg a b
theorem shp_rg (c : List T3) : Shp 3 (rgD c) := shp_list fun d hd => by
  obtain ⟨t, _, rfl⟩ := List.mem_map.1 hd
  exact shp_pl t
theorem shp_rs (r : List (List T3)) : Shp 4 (rsD r) := shp_list fun d hd => by
  obtain ⟨c, _, rfl⟩ := List.mem_map.1 hd
  exact shp_rg c
section
variable {P : Program} {w : World} {K : PySem.W.Frag} {mg : Str → Option Value} {base : Heap} {c1 t1 c2 t2 : Addr} (T : Tx K mg) (U : Tt K mg base c1 t1 c2 t2)
/-! ### answer_rings -/
def R_answer_rings (t1 t2 : Addr) : List SP → Cs → SP → Cs → Prop := fun ss C z C' => ∃ (g : Addr) (s : Sta) (k : Int) (rows : List (List Int)), Sok s ∧ 0 ≤ k ∧ rows.length ≤ 1000000 ∧ (∀ r ∈ rows, r.length ≤ 1000000) ∧ ss = [rf g, it k, dt (insD rows)] ∧ C = Cg g t1 t2 s ∧ z = dt (inD (ansRings s k rows).2) ∧ C' = Cg g t1 t2 (ansRings s k rows).1
theorem sc_answer_rings : FnScope ["regions", "goal", "rows", "row"] ["regions", "goal", "rows"] (defScope (topS 73)) := ⟨rfl, rfl, rfl, by decide +kernel, rfl, by decide +kernel, by decide +kernel⟩
include T U in
theorem ok_answer_rings : Ok P w K mg base 8 "answer_rings" ["regions", "goal", "rows"] (spF (R_answer_rings t1 t2)) := by
  have nd := sc_answer_rings.nd
  have o_keep := ok_keep (P := P) (w := w) (base := base) T U
  have o_are_rings := (ok_are_rings (P := P) (w := w) (base := base) T).up (k := 7) (by decide)
  have o_whole_places := (ok_whole_places (P := P) (w := w) (base := base) T).up (k := 7) (by decide)
  have o_sides_of := (ok_sides_of (P := P) (w := w) (base := base) T).up (k := 7) (by decide)
  have o_border := (ok_border (P := P) (w := w) (base := base) T).up (k := 7) (by decide)
  refine T.d_answer_rings.okF sc_answer_rings (fun ss C s C' h => by obtain ⟨_, _, _, _, _, _, _, _, rfl, _⟩ := h; rfl) fun f cdv A outer s H E hr => ⟨_, (pss_cons (ps_if (pt_cmpR op_ge (pv 1) (pe_ct T.c_REGIONS rfl) (nomark _)) (pss_one (ps_ret (pe_lst (pa_cons (pe_ct T.c_NO_SUCH_REGION rfl) pa_nil)))) pss_nil) (pss_cons (ps_if (pt_not (pt_val (pe_own o_are_rings hr rfl (pa_cons (pv 2) pa_nil)))) (pss_one (ps_ret (pe_lst (pa_cons (pe_ct T.c_NOT_AS_TOLD rfl) pa_nil)))) pss_nil) (pss_one (ps_ret (pe_own o_keep hr rfl (pa_cons (pv 0) (pa_cons (pv 1) (pa_cons (pe_own o_border hr rfl (pa_cons (pe_ct T.c_EITHER rfl) (pa_cons (pe_own o_sides_of hr rfl (pa_cons (pe_lc rfl nd (own := [("row", 3)]) (pi_list (pv 2)) (blkOk_by (N := ["regions", "goal", "rows", "row"]) (sc := defScope (topS 73)) (by decide +kernel)) (fun _ _ _ _ _ => pg_name (i := 3) nd rfl (Or.inl rfl)) (fun _ _ _ _ _ => pts_nil) (fun _ _ _ _ _ => (pe_own o_whole_places hr rfl (pa_cons (pv 3) pa_nil)))) pa_nil)) (pa_cons (pe_lst pa_nil) pa_nil)))) pa_nil)))))))), fun ss C z C' h => ?_⟩
  obtain ⟨g, s, k, rows, hs, h0, hl, hlr, rfl, rfl, rfl, rfl⟩ := h
  obtain ⟨k, rfl⟩ := nat_of h0
  unfold ansRings
  refine wp_when (xt_test (xe_C0 (xe_v 1 rfl) xe_i)) (fun q => ?_) fun q => ?_
  · have q' : (k : Int) ≥ 6 := by simpa using q
    rw [if_pos q']
    exact wp_ret (xe_lst (xd_cons xe_i xd_nil)) ⟨rfl, rfl⟩
  · have q' : ¬ (k : Int) ≥ 6 := by simpa using q
    rw [if_neg q']
    refine wp_when (xt_not (xt_B (x_are_rings (rows := rows) (xd_cons (xe_v 2 rfl) xd_nil) ⟨hl, hlr⟩))) (fun z => ?_) fun z => ?_
    · have z' : areRingsM rows = false := by simpa using z
      rw [if_pos z']
      exact wp_ret (xe_lst (xd_cons xe_i xd_nil)) ⟨rfl, rfl⟩
    · have z' : areRingsM rows = true := by simpa using z
      rw [if_neg (by rw [z']; decide), Int.toNat_natCast]
      obtain ⟨k1, k2, k3, k4, k5, _, _⟩ := rows_ok z'
      have hx : Xe _ [some (rf g), some (it (k : Nat)), some (dt (insD rows)), none] (Cg g t1 t2 s) (dt (.list (rows.map fun r => rgD (wholeM r)))) (Cg g t1 t2 s) := xe_lcM (K := K) (f := inD) (xs := rows) (j := 3) (fun r => rgD (wholeM r)) (xe_v 2 rfl) hl fun r hr => x_whole_places (row := r) (xd_cons (xe_v 3 rfl) xd_nil) ⟨k4 r hr, hlr r hr⟩
      have e : PyData.list (rows.map fun r => rgD (wholeM r)) = rsD (rows.map wholeM) := by unfold rsD; rw [List.map_map]; rfl
      rw [e] at hx
      exact wp_ret (x_keep (k := k) (b := borderM 0 (sidesM (rows.map wholeM)) (sidesM [])) (xa_cons (xe_v 0 rfl) (xa_cons (xe_v 1 rfl) (xa_cons (x_border (k := 0) (S1 := sidesM (rows.map wholeM)) (S2 := []) (xd_cons xe_i (xd_cons (x_sides_of (xd_cons hx xd_nil) ⟨k2.bt, by rw [sides_len]; omega⟩) (xd_cons (xe_lst (ds := []) xd_nil (by decide)) xd_nil))) ⟨sides_sz k2, fun _ h => by simp at h, by rw [sides_len]; show _ + 0 ≤ 40; omega⟩) xa_nil))) ⟨by rw [hs.len]; omega, bk_of (My.mk_ofRings k1) k2 rg_nil (by show _ + 0 ≤ 40; omega)⟩) ⟨rfl, rfl⟩
theorem x_answer_rings {L : Sls} {C : Cs} {ta : TA} {g : Addr} {s : Sta} {k : Int} {rows : List (List Int)} (h : Xa ta L C [rf g, it k, dt (insD rows)] (Cg g t1 t2 s)) (r : Sok s ∧ 0 ≤ k ∧ rows.length ≤ 1000000 ∧ ∀ r ∈ rows, r.length ≤ 1000000) : Xe (tCall (spF (R_answer_rings t1 t2)) [] E0 ta) L C (dt (inD (ansRings s k rows).2)) (Cg g t1 t2 (ansRings s k rows).1) :=
  xe_callP (Cb := []) h (by rw [List.append_nil]) (by rw [List.append_nil]) ⟨g, s, k, rows, r.1, r.2.1, r.2.2.1, r.2.2.2, rfl, rfl, rfl, rfl⟩
/-! ### answer_put -/
def R_answer_put (t1 t2 : Addr) : List SP → Cs → SP → Cs → Prop := fun ss C z C' => ∃ (g : Addr) (s : Sta) (k a b c : Int), Sok s ∧ 0 ≤ k ∧ 0 ≤ a ∧ 0 ≤ b ∧ 0 ≤ c ∧ ss = [rf g, it k, it a, it b, it c] ∧ C = Cg g t1 t2 s ∧ z = dt (inD (ansPut s k a b c).2) ∧ C' = Cg g t1 t2 (ansPut s k a b c).1
theorem sc_answer_put : FnScope ["regions", "kind", "one", "other", "goal"] ["regions", "kind", "one", "other", "goal"] (defScope (topS 74)) := ⟨rfl, rfl, rfl, by decide +kernel, rfl, by decide +kernel, by decide +kernel⟩
include T U in
theorem ok_answer_put : Ok P w K mg base 8 "answer_put" ["regions", "kind", "one", "other", "goal"] (spF (R_answer_put t1 t2)) := by
  have nd := sc_answer_put.nd
  have o_keep := ok_keep (P := P) (w := w) (base := base) T U
  have o_sides_of := (ok_sides_of (P := P) (w := w) (base := base) T).up (k := 7) (by decide)
  have o_border := (ok_border (P := P) (w := w) (base := base) T).up (k := 7) (by decide)
  refine T.d_answer_put.okF sc_answer_put (fun ss C s C' h => by obtain ⟨_, _, _, _, _, _, _, _, _, _, _, rfl, _⟩ := h; rfl) fun f cdv A outer s H E hr => ⟨_, (pss_cons (ps_if (pt_cmpR op_ge (pe_callB (call_max3 rfl) (by rfl) T.m_max boot_max (pa_cons (pv 2) (pa_cons (pv 3) (pa_cons (pv 4) pa_nil)))) (pe_ct T.c_REGIONS rfl) (nomark _)) (pss_one (ps_ret (pe_lst (pa_cons (pe_ct T.c_NO_SUCH_REGION rfl) pa_nil)))) pss_nil) (pss_cons (ps_if (pt_cmpR op_gt (pv 1) (pe_ct T.c_JUST_ONE rfl) (nomark _)) (pss_one (ps_ret (pe_lst (pa_cons (pe_ct T.c_NOT_AS_TOLD rfl) pa_nil)))) pss_nil) (pss_one (ps_ret (pe_own o_keep hr rfl (pa_cons (pv 0) (pa_cons (pv 4) (pa_cons (pe_own o_border hr rfl (pa_cons (pv 1) (pa_cons (pe_own o_sides_of hr rfl (pa_cons (pe_ix ix_seq (pv 0) (pv 2) (fun _ _ => rfl)) pa_nil)) (pa_cons (pe_own o_sides_of hr rfl (pa_cons (pe_ix ix_seq (pv 0) (pv 3) (fun _ _ => rfl)) pa_nil)) pa_nil)))) pa_nil)))))))), fun ss C z C' h => ?_⟩
  obtain ⟨g, s, k, a, b, c, hs, hk, ha, hb, hc, rfl, rfl, rfl, rfl⟩ := h
  obtain ⟨a, rfl⟩ := nat_of ha
  obtain ⟨b, rfl⟩ := nat_of hb
  obtain ⟨c, rfl⟩ := nat_of hc
  unfold ansPut
  refine wp_when (xt_test (xe_C0 (xe_cb (xd_cons (xe_v 2 rfl) (xd_cons (xe_v 3 rfl) (xd_cons (xe_v 4 rfl) xd_nil))) vn_max3) xe_i)) (fun q => ?_) fun q => ?_
  · have q' : max (max (a : Int) b) c ≥ 6 := of_decide_eq_true q
    rw [if_pos q']
    exact wp_ret (xe_lst (xd_cons xe_i xd_nil)) ⟨rfl, rfl⟩
  · have q' : ¬ max (max (a : Int) b) c ≥ 6 := of_decide_eq_false q
    rw [if_neg q']
    refine wp_when (xt_test (xe_C0 (xe_v 1 rfl) xe_i)) (fun z => ?_) fun z => ?_
    · have z' : k > 3 := of_decide_eq_true z
      rw [if_pos z']
      exact wp_ret (xe_lst (xd_cons xe_i xd_nil)) ⟨rfl, rfl⟩
    · have z' : ¬ k > 3 := of_decide_eq_false z
      rw [if_neg z', Int.toNat_natCast]
      have hl := hs.len
      obtain ⟨A1, _, _⟩ := at_int hs (i := (a : Int)) (by omega) (by omega)
      obtain ⟨B1, _, _⟩ := at_int hs (i := (b : Int)) (by omega) (by omega)
      have nA := A1.kr.n
      have nB := B1.kr.n
      have mk : My.Mk k (rgAt s (a : Int)) (rgAt s (b : Int)) := by
        have := My.mk_combine A1.kept B1.kept A1.fine B1.fine (k := k.toNat) (by omega)
        rwa [show ((k.toNat : Nat) : Int) = k by omega] at this
      exact wp_ret (x_keep (k := c) (b := borderM k (sidesM (rgAt s (a : Int))) (sidesM (rgAt s (b : Int)))) (xa_cons (xe_v 0 rfl) (xa_cons (xe_v 4 rfl) (xa_cons (x_border (xd_cons (xe_v 1 rfl) (xd_cons (x_sides_of (xd_cons (xe_reg (K := K) (k := a) (xe_v 0 rfl) (xe_v 2 rfl) (by omega)) xd_nil) ⟨A1.kr.rg.bt, by rw [sides_len]; omega⟩) (xd_cons (x_sides_of (xd_cons (xe_reg (K := K) (k := b) (xe_v 0 rfl) (xe_v 3 rfl) (by omega)) xd_nil) ⟨B1.kr.rg.bt, by rw [sides_len]; omega⟩) xd_nil))) ⟨sides_sz A1.kr.rg, sides_sz B1.kr.rg, by rw [sides_len, sides_len]; omega⟩) xa_nil))) ⟨by omega, bk_of mk A1.kr.rg B1.kr.rg (by omega)⟩) ⟨rfl, rfl⟩
theorem x_answer_put {L : Sls} {C : Cs} {ta : TA} {g : Addr} {s : Sta} {k a b c : Int} (h : Xa ta L C [rf g, it k, it a, it b, it c] (Cg g t1 t2 s)) (r : Sok s ∧ 0 ≤ k ∧ 0 ≤ a ∧ 0 ≤ b ∧ 0 ≤ c) : Xe (tCall (spF (R_answer_put t1 t2)) [] E0 ta) L C (dt (inD (ansPut s k a b c).2)) (Cg g t1 t2 (ansPut s k a b c).1) :=
  xe_callP (Cb := []) h (by rw [List.append_nil]) (by rw [List.append_nil]) ⟨g, s, k, a, b, c, r.1, r.2.1, r.2.2.1, r.2.2.2.1, r.2.2.2.2, rfl, rfl, rfl, rfl⟩
/-! ### answer_move -/
def R_answer_move (t1 t2 : Addr) : List SP → Cs → SP → Cs → Prop := fun ss C z C' => ∃ (g : Addr) (s : Sta) (a b : Int) (m : Gk02.Move), Sok s ∧ 0 ≤ a ∧ 0 ≤ b ∧ (∀ z ∈ [m.a, m.b, m.c, m.d, m.e, m.f], Bi 40 z) ∧ ss = [rf g, it a, it b, dt (inD [m.a, m.b, m.c, m.d, m.e, m.f])] ∧ C = Cg g t1 t2 s ∧ z = dt (inD (ansMove s a b m).2) ∧ C' = Cg g t1 t2 (ansMove s a b m).1
theorem sc_answer_move : FnScope ["regions", "one", "goal", "move", "rings", "ring"] ["regions", "one", "goal", "move"] (defScope (topS 75)) := ⟨rfl, rfl, rfl, by decide +kernel, rfl, by decide +kernel, by decide +kernel⟩
theorem moved_rg {m : Gk02.Move} (hm : ¬ beyM [m.a, m.b, m.c, m.d, m.e, m.f] 100 = true) {A : List (List T3)} (h : Kr A) : Rg (movedM m A) := by
  have sm : ∀ z ∈ [m.a, m.b, m.c, m.d, m.e, m.f], Bi 7 z := fun z hz => by
    unfold Bi
    have : ¬ ((if z < 0 then -z else z) > 100) := fun q => hm (by
      unfold beyM
      exact List.any_eq_true.2 ⟨z, hz, decide_eq_true q⟩)
    show z.natAbs < 128
    split at this <;> omega
  intro c hc t ht
  obtain ⟨c0, hc0, rfl⟩ := List.mem_map.1 hc
  obtain ⟨t0, ht0, rfl⟩ := List.mem_map.1 ht
  obtain ⟨p1, b1, b2, b3⟩ := h.pt c0 hc0 t0 ht0
  have hx : Bi 89 (m.a * t0.1 + m.b * t0.2.1 + m.e * t0.2.2) := (((sm m.a (by simp)).mul b1).add ((sm m.b (by simp)).mul b2)).add (((sm m.e (by simp)).mul b3).mono (by decide))
  have hy : Bi 89 (m.c * t0.1 + m.d * t0.2.1 + m.f * t0.2.2) := (((sm m.c (by simp)).mul b1).add ((sm m.d (by simp)).mul b2)).add (((sm m.f (by simp)).mul b3).mono (by decide))
  refine ⟨?_, place_bt (by omega) (hx.mono (by decide)) (hy.mono (by decide)) (b3.mono (by decide))⟩
  obtain ⟨f, x, y, z, _, _, _, _, e, hn⟩ := My.place_spec (x := m.a * t0.1 + m.b * t0.2.1 + m.e * t0.2.2) (y := m.c * t0.1 + m.d * t0.2.1 + m.f * t0.2.2) (w := t0.2.2) (by omega)
  show 0 < (placeM _ _ _).2.2
  rw [e]; exact hn.1
theorem moved_len (m : Gk02.Move) (A : List (List T3)) : (movedM m A).flatten.length = A.flatten.length := by
  unfold movedM
  rw [List.length_flatten, List.length_flatten, List.map_map]
  congr 1
  exact List.map_congr_left fun c _ => by simp
include T U in
theorem ok_answer_move : Ok P w K mg base 8 "answer_move" ["regions", "one", "goal", "move"] (spF (R_answer_move t1 t2)) := by
  have nd := sc_answer_move.nd
  have o_keep := ok_keep (P := P) (w := w) (base := base) T U
  have o_is_beyond := (ok_is_beyond (P := P) (w := w) (base := base) T).up (k := 7) (by decide)
  have o_moved_ring := (ok_moved_ring (P := P) (w := w) (base := base) T).up (k := 7) (by decide)
  have o_sides_of := (ok_sides_of (P := P) (w := w) (base := base) T).up (k := 7) (by decide)
  have o_border := (ok_border (P := P) (w := w) (base := base) T).up (k := 7) (by decide)
  refine T.d_answer_move.okF sc_answer_move (fun ss C s C' h => by obtain ⟨_, _, _, _, _, _, _, _, _, rfl, _⟩ := h; rfl) fun f cdv A outer s H E hr => ⟨_, (pss_cons (ps_if (pt_cmpR op_ge (pe_callB (call_max2 rfl) (by rfl) T.m_max boot_max (pa_cons (pv 1) (pa_cons (pv 2) pa_nil))) (pe_ct T.c_REGIONS rfl) (nomark _)) (pss_one (ps_ret (pe_lst (pa_cons (pe_ct T.c_NO_SUCH_REGION rfl) pa_nil)))) pss_nil) (pss_cons (ps_if (PW.pt (pw_or (pt_val (pe_own o_is_beyond hr rfl (pa_cons (pv 3) (pa_cons (pe_ct T.c_MOST_HANDED_OVER rfl) pa_nil)))) (pw_or1 (pt_cmpR op_eq (pe_op op_mulW (pe_ix ix_seq (pv 3) pe_int (fun _ _ => rfl)) (pe_ix ix_seq (pv 3) pe_int (fun _ _ => rfl))) (pe_op op_mulW (pe_ix ix_seq (pv 3) pe_int (fun _ _ => rfl)) (pe_ix ix_seq (pv 3) pe_int (fun _ _ => rfl))) (nomark _))))) (pss_one (ps_ret (pe_lst (pa_cons (pe_ct T.c_NOT_AS_TOLD rfl) pa_nil)))) pss_nil) (pss_cons (ps_setLc (i := 4) rfl nd rfl rfl (sw_true rfl rfl rfl (by decide +kernel)) (own := [("ring", 5)]) (pi_list (pe_ix ix_seq (pv 0) (pv 1) (fun _ _ => rfl))) (blkOk_by (N := ["regions", "one", "goal", "move", "rings", "ring"]) (sc := defScope (topS 75)) (by decide +kernel)) (fun _ _ _ _ _ => pg_name (i := 5) nd rfl (Or.inl rfl)) (fun _ _ _ _ _ => pts_nil) (fun _ _ _ _ _ => (pe_own o_moved_ring hr rfl (pa_cons (pv 5) (pa_cons (pv 3) pa_nil))))) (pss_one (ps_ret (pe_own o_keep hr rfl (pa_cons (pv 0) (pa_cons (pv 2) (pa_cons (pe_own o_border hr rfl (pa_cons (pe_ct T.c_EITHER rfl) (pa_cons (pe_own o_sides_of hr rfl (pa_cons (pv 4) pa_nil)) (pa_cons (pe_lst pa_nil) pa_nil)))) pa_nil))))))))), fun ss C z C' h => ?_⟩
  obtain ⟨g, s, a, b, m, hs, ha, hb, hm, rfl, rfl, rfl, rfl⟩ := h
  obtain ⟨a, rfl⟩ := nat_of ha
  obtain ⟨b, rfl⟩ := nat_of hb
  unfold ansMove
  refine wp_when (xt_test (xe_C0 (xe_cb (xd_cons (xe_v 1 rfl) (xd_cons (xe_v 2 rfl) xd_nil)) vn_max2) xe_i)) (fun q => ?_) fun q => ?_
  · have q' : max (a : Int) b ≥ 6 := of_decide_eq_true q
    rw [if_pos q']
    exact wp_ret (xe_lst (xd_cons xe_i xd_nil)) ⟨rfl, rfl⟩
  · have q' : ¬ max (a : Int) b ≥ 6 := of_decide_eq_false q
    rw [if_neg q']
    have b1 := hm m.a (by simp)
    have b2 := hm m.b (by simp)
    have b3 := hm m.c (by simp)
    have b4 := hm m.d (by simp)
    refine wp_when (xt_or (xt_B (x_is_beyond (ns := [m.a, m.b, m.c, m.d, m.e, m.f]) (m := 100) (xd_cons (xe_v 3 rfl) (xd_cons xe_i xd_nil)) (Nat.le_of_ble_eq_true rfl))) fun _ => (xt_test (xe_eq (xe_I (xe_ixL (xe_v 3 rfl) xe_i rfl) (xe_ixL (xe_v 3 rfl) xe_i rfl) (mul_ok b1 b4)) (xe_I (xe_ixL (xe_v 3 rfl) xe_i rfl) (xe_ixL (xe_v 3 rfl) xe_i rfl) (mul_ok b2 b3))))) (fun z => ?_) fun z => ?_
    · have z' : beyM [m.a, m.b, m.c, m.d, m.e, m.f] 100 = true ∨ m.a * m.d = m.b * m.c := by
        rw [Bool.or_eq_true, decide_eq_true_eq] at z
        exact z
      rw [if_pos z']
      exact wp_ret (xe_lst (xd_cons xe_i xd_nil)) ⟨rfl, rfl⟩
    · have z' : ¬ (beyM [m.a, m.b, m.c, m.d, m.e, m.f] 100 = true ∨ m.a * m.d = m.b * m.c) := by
        rw [← Bool.not_eq_true, Bool.or_eq_true, decide_eq_true_eq] at z
        exact z
      rw [if_neg z', Int.toNat_natCast]
      have hl := hs.len
      obtain ⟨A1, _, _⟩ := at_int hs (i := (a : Int)) (by omega) (by omega)
      have nA := A1.kr.n
      have mA := A1.kr.m
      have hcl : ∀ c ∈ rgAt s (a : Int), c.length ≤ 16 := fun c hc => by
        have h2 : c.length ≤ (rgAt s (a : Int)).flatten.length := (List.sublist_flatten_of_mem hc).length_le
        omega
      have hd : Gk02.det m ≠ 0 := fun y => z' (.inr (by unfold Gk02.det at y; omega))
      have hrg := moved_rg (fun y => z' (.inl y)) A1.kr
      have e : PyData.list ((rgAt s (a : Int)).map fun c => rgD (c.map fun t => My.moveM t m.a m.b m.c m.d m.e m.f)) = rsD (movedM m (rgAt s (a : Int))) := by unfold rsD movedM; rw [List.map_map]; rfl
      have hx := xe_lcM (K := K) (te := tCall (spF (pR R_moved_ring)) [] E0 (tCons (tVar 5) (tCons (tVar 3) tNil))) (tl := tOp (rIx K) (tVar 0) (tVar 1)) (L := [some (rf g), some (it (a : Nat)), some (it (b : Nat)), some (dt (inD [m.a, m.b, m.c, m.d, m.e, m.f])), none, none]) (C := Cg g t1 t2 s) (f := rgD) (xs := rgAt s (a : Int)) (j := 5) (fun c => rgD (c.map fun t => My.moveM t m.a m.b m.c m.d m.e m.f)) (xe_reg (K := K) (k := a) (xe_v 0 rfl) (xe_v 1 rfl) (by omega)) (by omega) fun c hc => x_moved_ring (r := c) (a := m.a) (b := m.b) (c := m.c) (e := m.d) (f := m.e) (g := m.f) (xd_cons (xe_v 5 rfl) (xd_cons (xe_v 3 rfl) xd_nil)) ⟨fun t ht => ⟨by have := (A1.kr.pt c hc t ht).1; omega, (A1.kr.pt c hc t ht).2.mono (by decide)⟩, fun z hz => (hm z hz).mono (by decide), by have := hcl c hc; omega⟩
      rw [e] at hx
      refine wp_set hx ?_
      exact wp_ret (x_keep (k := b) (b := borderM 0 (sidesM (movedM m (rgAt s (a : Int)))) (sidesM [])) (xa_cons (xe_v 0 rfl) (xa_cons (xe_v 2 rfl) (xa_cons (x_border (k := 0) (S1 := sidesM (movedM m (rgAt s (a : Int)))) (S2 := []) (xd_cons xe_i (xd_cons (x_sides_of (xd_cons (xe_v 4 rfl) xd_nil) ⟨hrg.bt, by rw [sides_len, moved_len]; omega⟩) (xd_cons (xe_lst (ds := []) xd_nil (by decide)) xd_nil))) ⟨sides_sz hrg, fun _ h => by simp at h, by rw [sides_len, moved_len]; show _ + 0 ≤ 40; omega⟩) xa_nil))) ⟨by omega, bk_of (My.mk_ofRings (My.made_moved hd A1.kept).1) hrg rg_nil (by rw [moved_len]; show _ + 0 ≤ 40; omega)⟩) ⟨rfl, rfl⟩
theorem x_answer_move {L : Sls} {C : Cs} {ta : TA} {g : Addr} {s : Sta} {a b : Int} {m : Gk02.Move} (h : Xa ta L C [rf g, it a, it b, dt (inD [m.a, m.b, m.c, m.d, m.e, m.f])] (Cg g t1 t2 s)) (r : Sok s ∧ 0 ≤ a ∧ 0 ≤ b ∧ ∀ z ∈ [m.a, m.b, m.c, m.d, m.e, m.f], Bi 40 z) : Xe (tCall (spF (R_answer_move t1 t2)) [] E0 ta) L C (dt (inD (ansMove s a b m).2)) (Cg g t1 t2 (ansMove s a b m).1) :=
  xe_callP (Cb := []) h (by rw [List.append_nil]) (by rw [List.append_nil]) ⟨g, s, a, b, m, r.1, r.2.1, r.2.2.1, r.2.2.2, rfl, rfl, rfl, rfl⟩
end
end Wk
end
section
set_option Elab.async false
set_option linter.all false
set_option maxRecDepth 100000
set_option exponentiation.threshold 10000
namespace Wk
open PySem PySem.Spec PyProof.Rows L2
open Evl (Ex ex_l ex_t sq_of st_of)
open My (T3 Sd sidesM borderM ringsM orderM movedM pieceM areaM whereM placeM)
theorem tells_take {r : List (List T3)} {i : Nat} {c : List T3} (h : r[i]? = some c) : (r.take (i + 1)).flatMap (fun c => (c.length : Int) :: c.flatMap toldM) = (r.take i).flatMap (fun c => (c.length : Int) :: c.flatMap toldM) ++ ((c.length : Int) :: c.flatMap toldM) := by
  rw [take_more h, List.flatMap_append]; simp
theorem told_len (c : List T3) : (c.flatMap toldM).length = 4 * c.length := by
  induction c with
  | nil => rfl
  | cons t c ih => rw [List.flatMap_cons, List.length_append, ih, List.length_cons]; simp [toldM]; omega
theorem tells_len (r : List (List T3)) : (r.flatMap fun c => (c.length : Int) :: c.flatMap toldM).length = r.length + 4 * r.flatten.length := by
  induction r with
  | nil => rfl
  | cons c r ih => rw [List.flatMap_cons, List.length_append, ih, List.length_cons, told_len, List.length_cons, List.flatten_cons, List.length_append]; omega
section
variable {P : Program} {w : World} {K : PySem.W.Frag} {mg : Str → Option Value} {base : Heap} {c1 t1 c2 t2 : Addr} (T : Tx K mg) (U : Tt K mg base c1 t1 c2 t2)
/-! ### answer_tells -/
def R_one (t1 t2 : Addr) (F : Sta → Int → List Int) : List SP → Cs → SP → Cs → Prop := fun ss C z C' => ∃ (g : Addr) (s : Sta) (a : Int), Sok s ∧ 0 ≤ a ∧ ss = [rf g, it a] ∧ C = Cg g t1 t2 s ∧ z = dt (inD (F s a)) ∧ C' = Cg g t1 t2 s
theorem x_one {F : Sta → Int → List Int} {L : Sls} {C : Cs} {ta : TA} {g : Addr} {s : Sta} {a : Int} (h : Xa ta L C [rf g, it a] (Cg g t1 t2 s)) (r : Sok s ∧ 0 ≤ a) : Xe (tCall (spF (R_one t1 t2 F)) [] E0 ta) L C (dt (inD (F s a))) (Cg g t1 t2 s) :=
  xe_callP (Cb := []) h (by rw [List.append_nil]) (by rw [List.append_nil]) ⟨g, s, a, r.1, r.2, rfl, rfl, rfl, rfl⟩
theorem sc_answer_tells : FnScope ["regions", "region", "answer", "ring", "spot"] ["regions", "region"] (defScope (topS 77)) := ⟨rfl, rfl, rfl, by decide +kernel, rfl, by decide +kernel, by decide +kernel⟩
include T in
theorem ok_answer_tells : Ok P w K mg base 8 "answer_tells" ["regions", "region"] (spF (R_one t1 t2 ansTells)) := by
  have nd := sc_answer_tells.nd
  have o_told_place := (ok_told_place (P := P) (w := w) (base := base) T).up (k := 7) (by decide)
  refine T.d_answer_tells.okF sc_answer_tells (fun ss C s C' h => by obtain ⟨_, _, _, _, _, rfl, _⟩ := h; rfl) fun f cdv A outer s H E hr => ⟨_, (pss_cons (ps_if (pt_cmpR op_ge (pv 1) (pe_ct T.c_REGIONS rfl) (nomark _)) (pss_one (ps_ret (pe_lst (pa_cons (pe_ct T.c_NO_SUCH_REGION rfl) pa_nil)))) pss_nil) (pss_cons (ps_set (i := 2) nd rfl (Or.inl rfl) (pe_lst (pa_cons (pe_callB call_len_seq (by rfl) T.m_len PySem.boot_len (pa_cons (pe_ix ix_seq (pv 0) (pv 1) (fun _ _ => rfl)) pa_nil)) pa_nil))) (pss_cons (ps_for PassesOwn.never rfl (pi_list (pe_ix ix_seq (pv 0) (pv 1) (fun _ _ => rfl))) (pg_name (i := 3) nd rfl (Or.inl rfl)) (pss_cons (ps_expr (pe_bm PySem.F.plainAttrs_list PySem.F.slot_list_append PySem.F.type_list_append mt_append (pv 2) (pa_cons (pe_callB call_len_seq (by rfl) T.m_len PySem.boot_len (pa_cons (pv 3) pa_nil)) pa_nil))) (pss_one (ps_for PassesOwn.never rfl (pi_list (pv 3)) (pg_name (i := 4) nd rfl (Or.inl rfl)) (pss_one (ps_expr (pe_bm PySem.F.plainAttrs_list PySem.F.slot_list_extend PySem.F.type_list_extend mt_extend (pv 2) (pa_cons (pe_own o_told_place hr rfl (pa_cons (pv 4) pa_nil)) pa_nil)))))))) (pss_one (ps_ret (pv 2)))))), fun ss C z C' h => ?_⟩
  obtain ⟨g, s, a, hs, ha, rfl, rfl, rfl, rfl⟩ := h
  obtain ⟨a, rfl⟩ := nat_of ha
  unfold ansTells
  refine wp_when (xt_test (xe_C0 (xe_v 1 rfl) xe_i)) (fun q => ?_) fun q => ?_
  · have q' : (a : Int) ≥ 6 := of_decide_eq_true q
    rw [if_pos q']
    exact wp_ret (xe_lst (xd_cons xe_i xd_nil)) ⟨rfl, rfl⟩
  · have q' : ¬ (a : Int) ≥ 6 := of_decide_eq_false q
    rw [if_neg q']
    have hl := hs.len
    obtain ⟨A1, _, _⟩ := at_int hs (i := (a : Int)) (by omega) (by omega)
    generalize hr0 : rgAt s (a : Int) = r at A1 ⊢
    have hx : ∀ {L : Sls} {Cb : Cs}, L[0]? = some (some (rf g)) → L[1]? = some (some (it (a : Nat))) → (g, cL (s.map rsD)) ∈ Cb → Xe (tOp (rIx K) (tVar 0) (tVar 1)) L Cb (dt (rsD r)) Cb := fun h1 h2 h3 => by
      rw [← hr0]
      exact xe_ixC (xe_v 0 h1) (xe_v 1 h2) h3 (atI_reg (by omega))
    have nA := A1.kr.n
    have mA := A1.kr.m
    have bnd : ∀ i, ((r.take i).flatMap fun c => (c.length : Int) :: c.flatMap toldM).length ≤ 80 := fun i => by
      rw [tells_len, List.length_take]
      have : (r.take i).flatten.length ≤ r.flatten.length := by
        conv => rhs; rw [← List.take_append_drop i r]
        rw [List.flatten_append, List.length_append]; omega
      omega
    refine wp_newL (ds := [.int (r.length : Nat)]) (xd_cons (xe_cb (xd_cons (hx rfl rfl List.mem_cons_self) xd_nil) (vn_lenM (f := rgD) (c := r))) xd_nil) (Nat.le_of_ble_eq_true rfl) fun p _ np => ?_
    refine wp_seq (wp_for (fun i L C => ∃ o o', L = [some (rf g), some (it (a : Nat)), some (rf p), o, o'] ∧ C = (p, cL (((r.length : Int) :: (r.take i).flatMap fun c => (c.length : Int) :: c.flatMap toldM).map PyData.int)) :: Cg g t1 t2 s) (hx rfl rfl (List.mem_cons_of_mem _ List.mem_cons_self)) ⟨none, none, rfl, rfl⟩ ?_ ?_)
    · rintro i d L C hd ⟨o, o', rfl, rfl⟩
      rw [List.getElem?_map] at hd
      cases e : r[i]? with
      | none => rw [e] at hd; cases hd
      | some c =>
        rw [e] at hd
        cases hd
        have hc := List.mem_of_getElem? e
        have hcl : c.length ≤ 16 := by
          have h2 : c.length ≤ r.flatten.length := (List.sublist_flatten_of_mem hc).length_le
          omega
        have bi := bnd i
        refine wp_seq (wp_push [] (Cg g t1 t2 s) rfl List.mem_cons_self (d := .int (c.length : Nat)) (xe_cb (xd_cons (xe_v 3 rfl) xd_nil) (vn_lenM (f := plD) (c := c))) (by rw [List.length_map, List.length_cons]; omega) ?_)
        refine wp_for (fun j L C => ∃ o', L = [some (rf g), some (it (a : Nat)), some (rf p), some (dt (rgD c)), o'] ∧ C = (p, cL (((r.length : Int) :: (r.take i).flatMap fun c => (c.length : Int) :: c.flatMap toldM).map PyData.int ++ [.int (c.length : Nat)] ++ ((c.take j).flatMap toldM).map PyData.int)) :: Cg g t1 t2 s) (xe_v 3 rfl) ⟨o', rfl, by simp⟩ ?_ ?_
        · rintro j d L C hd ⟨o', rfl, rfl⟩
          rw [List.getElem?_map] at hd
          cases e2 : c[j]? with
          | none => rw [e2] at hd; cases hd
          | some t =>
            rw [e2] at hd
            cases hd
            have ht := List.mem_of_getElem? e2
            obtain ⟨p1, p2⟩ := A1.kr.pt c hc t ht
            have hj : ((c.take j).flatMap toldM).length ≤ 64 := by rw [told_len, List.length_take]; omega
            refine wp_ext [] (Cg g t1 t2 s) rfl List.mem_cons_self (fs := (toldM t).map PyData.int) (x_told_place (t := t) (xd_cons (xe_v 4 rfl) xd_nil) ⟨by omega, (p2.mono (by decide)).2.2⟩) (by
              rw [List.length_append, List.length_append, List.length_map, List.length_map, List.length_cons, List.length_map]
              show _ + 4 ≤ _
              simp only [List.length_cons, List.length_nil]
              omega) ⟨some (dt (plD t)), rfl, ?_⟩
            rw [take_more e2, List.flatMap_append, List.map_append]
            simp
        · rintro L C ⟨o', rfl, rfl⟩
          rw [List.length_map, List.take_length]
          refine ⟨_, o', rfl, ?_⟩
          rw [tells_take e]
          simp
    · rintro L C ⟨o, o', rfl, rfl⟩
      rw [List.length_map, List.take_length]
      exact wp_retOwn [] (Cg g t1 t2 s) rfl rfl np ⟨rfl, rfl⟩
/-! ### answer_area -/
theorem sc_answer_area : FnScope ["regions", "region", "area"] ["regions", "region"] (defScope (topS 78)) := ⟨rfl, rfl, rfl, by decide +kernel, rfl, by decide +kernel, by decide +kernel⟩
include T in
theorem ok_answer_area : Ok P w K mg base 8 "answer_area" ["regions", "region"] (spF (R_one t1 t2 ansArea)) := by
  have nd := sc_answer_area.nd
  have o_area_of := (ok_area_of (P := P) (w := w) (base := base) T).up (k := 7) (by decide)
  have o_piece_count := (ok_piece_count (P := P) (w := w) (base := base) T).up (k := 7) (by decide)
  refine T.d_answer_area.okF sc_answer_area (fun ss C s C' h => by obtain ⟨_, _, _, _, _, rfl, _⟩ := h; rfl) fun f cdv A outer s H E hr => ⟨_, (pss_cons (ps_if (pt_cmpR op_ge (pv 1) (pe_ct T.c_REGIONS rfl) (nomark _)) (pss_one (ps_ret (pe_lst (pa_cons (pe_ct T.c_NO_SUCH_REGION rfl) pa_nil)))) pss_nil) (pss_cons (ps_set (i := 2) nd rfl (Or.inl rfl) (pe_own o_area_of hr rfl (pa_cons (pe_ix ix_seq (pv 0) (pv 1) (fun _ _ => rfl)) pa_nil))) (pss_one (ps_ret (pe_lst (pa_cons (pe_own o_piece_count hr rfl (pa_cons (pe_ix ix_seq (pv 0) (pv 1) (fun _ _ => rfl)) pa_nil)) (pa_cons (pe_ix ix_seq (pv 2) pe_int (fun _ _ => rfl)) (pa_cons (pe_ix ix_seq (pv 2) pe_int (fun _ _ => rfl)) pa_nil)))))))), fun ss C z C' h => ?_⟩
  obtain ⟨g, s, a, hs, ha, rfl, rfl, rfl, rfl⟩ := h
  obtain ⟨a, rfl⟩ := nat_of ha
  unfold ansArea
  refine wp_when (xt_test (xe_C0 (xe_v 1 rfl) xe_i)) (fun q => ?_) fun q => ?_
  · have q' : (a : Int) ≥ 6 := of_decide_eq_true q
    rw [if_pos q']
    exact wp_ret (xe_lst (xd_cons xe_i xd_nil)) ⟨rfl, rfl⟩
  · have q' : ¬ (a : Int) ≥ 6 := of_decide_eq_false q
    rw [if_neg q']
    have hl := hs.len
    obtain ⟨A1, _, _⟩ := at_int hs (i := (a : Int)) (by omega) (by omega)
    refine wp_set (x_area_of (xd_cons (xe_reg (K := K) (k := a) (xe_v 0 rfl) (xe_v 1 rfl) (by omega)) xd_nil) A1.kr) ?_
    exact wp_ret (xe_lst (xd_cons (x_piece_count (xd_cons (xe_reg (K := K) (k := a) (xe_v 0 rfl) (xe_v 1 rfl) (by omega)) xd_nil) A1.kr) (xd_cons (xe_ixT (xe_v 2 rfl) xe_i rfl) (xd_cons (xe_ixT (xe_v 2 rfl) xe_i rfl) xd_nil)))) ⟨rfl, rfl⟩
/-! ### answer_where -/
def R_answer_where (t1 t2 : Addr) : List SP → Cs → SP → Cs → Prop := fun ss C z C' => ∃ (g : Addr) (s : Sta) (a : Int) (p : List Int), Sok s ∧ 0 ≤ a ∧ ss = [rf g, it a, dt (inD p)] ∧ C = Cg g t1 t2 s ∧ z = dt (inD (ansWhere s a p)) ∧ C' = Cg g t1 t2 s
theorem x_answer_where {L : Sls} {C : Cs} {ta : TA} {g : Addr} {s : Sta} {a : Int} {p : List Int} (h : Xa ta L C [rf g, it a, dt (inD p)] (Cg g t1 t2 s)) (r : Sok s ∧ 0 ≤ a) : Xe (tCall (spF (R_answer_where t1 t2)) [] E0 ta) L C (dt (inD (ansWhere s a p))) (Cg g t1 t2 s) :=
  xe_callP (Cb := []) h (by rw [List.append_nil]) (by rw [List.append_nil]) ⟨g, s, a, p, r.1, r.2, rfl, rfl, rfl, rfl⟩
theorem sc_answer_where : FnScope ["regions", "region", "point", "spot"] ["regions", "region", "point"] (defScope (topS 79)) := ⟨rfl, rfl, rfl, by decide +kernel, rfl, by decide +kernel, by decide +kernel⟩
include T in
theorem ok_answer_where : Ok P w K mg base 8 "answer_where" ["regions", "region", "point"] (spF (R_answer_where t1 t2)) := by
  have nd := sc_answer_where.nd
  have o_is_point := (ok_is_point (P := P) (w := w) (base := base) T).up (k := 7) (by decide)
  have o_place := (ok_place (P := P) (w := w) (base := base) T).up (k := 7) (by decide)
  have o_whereabouts := (ok_whereabouts (P := P) (w := w) (base := base) T).up (k := 7) (by decide)
  refine T.d_answer_where.okF sc_answer_where (fun ss C s C' h => by obtain ⟨_, _, _, _, _, _, rfl, _⟩ := h; rfl) fun f cdv A outer s H E hr => ⟨_, (pss_cons (ps_if (pt_cmpR op_ge (pv 1) (pe_ct T.c_REGIONS rfl) (nomark _)) (pss_one (ps_ret (pe_lst (pa_cons (pe_ct T.c_NO_SUCH_REGION rfl) pa_nil)))) pss_nil) (pss_cons (ps_if (pt_not (pt_val (pe_own o_is_point hr rfl (pa_cons (pv 2) pa_nil)))) (pss_one (ps_ret (pe_lst (pa_cons (pe_ct T.c_NO_SUCH_POINT rfl) pa_nil)))) pss_nil) (pss_cons (ps_set (i := 3) nd rfl (Or.inl rfl) (pe_own o_place hr rfl (pa_cons (pe_op op_mulW (pe_ix ix_seq (pv 2) pe_int (fun _ _ => rfl)) (pe_ix ix_seq (pv 2) pe_int (fun _ _ => rfl))) (pa_cons (pe_op op_mulW (pe_ix ix_seq (pv 2) pe_int (fun _ _ => rfl)) (pe_ix ix_seq (pv 2) pe_int (fun _ _ => rfl))) (pa_cons (pe_op op_mulW (pe_ix ix_seq (pv 2) pe_int (fun _ _ => rfl)) (pe_ix ix_seq (pv 2) pe_int (fun _ _ => rfl))) pa_nil))))) (pss_one (ps_ret (pe_lst (pa_cons (pe_own o_whereabouts hr rfl (pa_cons (pe_ix ix_seq (pv 0) (pv 1) (fun _ _ => rfl)) (pa_cons (pv 3) pa_nil))) pa_nil))))))), fun ss C z C' h => ?_⟩
  obtain ⟨g, s, a, p, hs, ha, rfl, rfl, rfl, rfl⟩ := h
  obtain ⟨a, rfl⟩ := nat_of ha
  unfold ansWhere
  refine wp_when (xt_test (xe_C0 (xe_v 1 rfl) xe_i)) (fun q => ?_) fun q => ?_
  · have q' : (a : Int) ≥ 6 := of_decide_eq_true q
    rw [if_pos q']
    exact wp_ret (xe_lst (xd_cons xe_i xd_nil)) ⟨rfl, rfl⟩
  · have q' : ¬ (a : Int) ≥ 6 := of_decide_eq_false q
    rw [if_neg q']
    refine wp_when (xt_not (xt_B (x_is_point (ns := p) (xd_cons (xe_v 2 rfl) xd_nil)))) (fun z => ?_) fun z => ?_
    · have z' : ptM p = false := by simpa using z
      rw [if_pos z']
      exact wp_ret (xe_lst (xd_cons xe_i xd_nil)) ⟨rfl, rfl⟩
    · have z' : ptM p = true := by simpa using z
      rw [if_neg (by rw [z']; decide)]
      have hl := hs.len
      obtain ⟨A1, _, _⟩ := at_int hs (i := (a : Int)) (by omega) (by omega)
      obtain ⟨o1, o2, o3⟩ := spot_ok z'
      have hp : ∀ (i : Nat), i < 4 → atI (p.map PyData.int) ((i : Nat) : Int) = some (.int (p.getD i 0)) := fun i hi => atI_int (by omega)
      have bz := (o2 1 (by decide)).mul (o2 3 (by decide))
      have nA := A1.kr.n
      refine wp_set (x_place (x := p.getD 0 0 * p.getD 3 0) (y := p.getD 2 0 * p.getD 1 0) (z := p.getD 1 0 * p.getD 3 0) (xd_cons (xe_I (xe_ixL (xe_v 2 rfl) xe_i (hp 0 (by decide))) (xe_ixL (xe_v 2 rfl) xe_i (hp 3 (by decide))) (mul_ok (o2 0 (by decide)) (o2 3 (by decide)))) (xd_cons (xe_I (xe_ixL (xe_v 2 rfl) xe_i (hp 2 (by decide))) (xe_ixL (xe_v 2 rfl) xe_i (hp 1 (by decide))) (mul_ok (o2 2 (by decide)) (o2 1 (by decide)))) (xd_cons (xe_I (xe_ixL (xe_v 2 rfl) xe_i (hp 1 (by decide))) (xe_ixL (xe_v 2 rfl) xe_i (hp 3 (by decide))) (mul_ok (o2 1 (by decide)) (o2 3 (by decide)))) xd_nil))) ⟨o1, bz.mono (by decide)⟩) ?_
      exact wp_ret (xe_lst (xd_cons (x_whereabouts (t := spotM p) (xd_cons (xe_reg (K := K) (k := a) (xe_v 0 rfl) (xe_v 1 rfl) (by omega)) (xd_cons (xe_v 3 rfl) xd_nil)) ⟨A1.kr.rg, by omega, (place_bt o1 ((o2 0 (by decide)).mul (o2 3 (by decide))) ((o2 2 (by decide)).mul (o2 1 (by decide))) bz).mono (by decide)⟩) xd_nil)) ⟨rfl, rfl⟩
/-! ### answer_compare -/
def R_answer_compare (t1 t2 : Addr) : List SP → Cs → SP → Cs → Prop := fun ss C z C' => ∃ (g : Addr) (s : Sta) (a b : Int), Sok s ∧ 0 ≤ a ∧ 0 ≤ b ∧ ss = [rf g, it a, it b] ∧ C = Cg g t1 t2 s ∧ z = dt (inD (ansCompare s a b)) ∧ C' = Cg g t1 t2 s
theorem x_answer_compare {L : Sls} {C : Cs} {ta : TA} {g : Addr} {s : Sta} {a b : Int} (h : Xa ta L C [rf g, it a, it b] (Cg g t1 t2 s)) (r : Sok s ∧ 0 ≤ a ∧ 0 ≤ b) : Xe (tCall (spF (R_answer_compare t1 t2)) [] E0 ta) L C (dt (inD (ansCompare s a b))) (Cg g t1 t2 s) :=
  xe_callP (Cb := []) h (by rw [List.append_nil]) (by rw [List.append_nil]) ⟨g, s, a, b, r.1, r.2.1, r.2.2, rfl, rfl, rfl, rfl⟩
theorem sc_answer_compare : FnScope ["regions", "one", "other", "first", "second"] ["regions", "one", "other"] (defScope (topS 80)) := ⟨rfl, rfl, rfl, by decide +kernel, rfl, by decide +kernel, by decide +kernel⟩
include T in
theorem ok_answer_compare : Ok P w K mg base 8 "answer_compare" ["regions", "one", "other"] (spF (R_answer_compare t1 t2)) := by
  have nd := sc_answer_compare.nd
  have o_is_within := ok_is_within (P := P) (w := w) (base := base) T
  have o_are_apart := ok_are_apart (P := P) (w := w) (base := base) T
  refine T.d_answer_compare.okF sc_answer_compare (fun ss C s C' h => by obtain ⟨_, _, _, _, _, _, _, rfl, _⟩ := h; rfl) fun f cdv A outer s H E hr => ⟨_, (pss_cons (ps_if (pt_cmpR op_ge (pe_callB (call_max2 rfl) (by rfl) T.m_max boot_max (pa_cons (pv 1) (pa_cons (pv 2) pa_nil))) (pe_ct T.c_REGIONS rfl) (nomark _)) (pss_one (ps_ret (pe_lst (pa_cons (pe_ct T.c_NO_SUCH_REGION rfl) pa_nil)))) pss_nil) (pss_cons (ps_set (i := 3) nd rfl (Or.inl rfl) (pe_ix ix_seq (pv 0) (pv 1) (fun _ _ => rfl))) (pss_cons (ps_set (i := 4) nd rfl (Or.inl rfl) (pe_ix ix_seq (pv 0) (pv 2) (fun _ _ => rfl))) (pss_one (ps_ret (pe_lst (pa_cons (pe_callTy call_int1 (by rfl) T.m_int boot_int (pa_cons (pe_cmpR (op_eqD hr.units) (pv 3) (pv 4) (nomark _)) pa_nil)) (pa_cons (pe_callTy call_int1 (by rfl) T.m_int boot_int (pa_cons (pe_own o_is_within hr rfl (pa_cons (pv 3) (pa_cons (pv 4) pa_nil))) pa_nil)) (pa_cons (pe_callTy call_int1 (by rfl) T.m_int boot_int (pa_cons (pe_own o_are_apart hr rfl (pa_cons (pv 3) (pa_cons (pv 4) pa_nil))) pa_nil)) pa_nil))))))))), fun ss C z C' h => ?_⟩
  obtain ⟨g, s, a, b, hs, ha, hb, rfl, rfl, rfl, rfl⟩ := h
  obtain ⟨a, rfl⟩ := nat_of ha
  obtain ⟨b, rfl⟩ := nat_of hb
  unfold ansCompare
  refine wp_when (xt_test (xe_C0 (xe_cb (xd_cons (xe_v 1 rfl) (xd_cons (xe_v 2 rfl) xd_nil)) vn_max2) xe_i)) (fun q => ?_) fun q => ?_
  · have q' : max (a : Int) b ≥ 6 := of_decide_eq_true q
    rw [if_pos q']
    exact wp_ret (xe_lst (xd_cons xe_i xd_nil)) ⟨rfl, rfl⟩
  · have q' : ¬ max (a : Int) b ≥ 6 := of_decide_eq_false q
    rw [if_neg q']
    have hl := hs.len
    obtain ⟨A1, _, _⟩ := at_int hs (i := (a : Int)) (by omega) (by omega)
    obtain ⟨B1, _, _⟩ := at_int hs (i := (b : Int)) (by omega) (by omega)
    have nA := A1.kr.n
    have nB := B1.kr.n
    refine wp_set (xe_reg (K := K) (k := a) (xe_v 0 rfl) (xe_v 1 rfl) (by omega)) (wp_set (xe_reg (K := K) (k := b) (xe_v 0 rfl) (xe_v 2 rfl) (by omega)) ?_)
    rw [← eqv_rs]
    exact wp_ret (xe_lst (xd_cons (xe_cb (xd_cons (xe_eqD (xe_v 3 rfl) (xe_v 4 rfl) ((shp_rs _).ok (by decide)) ((shp_rs _).ok (by decide))) xd_nil) vn_int) (xd_cons (xe_cb (xd_cons (x_none (k := 2) (xd_cons (xe_v 3 rfl) (xd_cons (xe_v 4 rfl) xd_nil)) ⟨A1.kr.rg, B1.kr.rg, by omega⟩) xd_nil) vn_int) (xd_cons (xe_cb (xd_cons (x_none (k := 1) (xd_cons (xe_v 3 rfl) (xd_cons (xe_v 4 rfl) xd_nil)) ⟨A1.kr.rg, B1.kr.rg, by omega⟩) xd_nil) vn_int) xd_nil)))) ⟨rfl, rfl⟩
end
end Wk
end
section
open GkBase
set_option Elab.async false
set_option linter.all false
set_option maxRecDepth 100000
set_option exponentiation.threshold 10000
namespace Wk
open My
/-! ### a call -/
def mvOf (ns : List Int) : Gk02.Move := ⟨ns.getD 2 0, ns.getD 3 0, ns.getD 4 0, ns.getD 5 0, ns.getD 6 0, ns.getD 7 0⟩
def stepM (s : Sta) (p : Int) (ns : List Int) (rows : List (List Int)) : Sta × List Int :=
  if p = 0 then ansRings s (ns.getD 0 0) rows
  else if p = 1 then ansPut s (ns.getD 0 0) (ns.getD 1 0) (ns.getD 2 0) (ns.getD 3 0)
  else if p = 2 then ansMove s (ns.getD 0 0) (ns.getD 1 0) (mvOf ns)
  else if p = 3 then (s, ansTells s (ns.getD 0 0))
  else if p = 4 then (s, ansArea s (ns.getD 0 0))
  else if p = 5 then (s, ansWhere s (ns.getD 0 0) (ns.drop 1))
  else (s, ansCompare s (ns.getD 0 0) (ns.getD 1 0))
/-- a call's form -/
inductive Form : Int → List Int → List (List Int) → Prop
  | rings (i : Int) (rows : List (List Int)) : 0 ≤ i → Form 0 [i] rows
  | put (k a b c : Int) : 0 ≤ k → 0 ≤ a → 0 ≤ b → 0 ≤ c → Form 1 [k, a, b, c] []
  | move (i j a b c d e f : Int) : 0 ≤ i → 0 ≤ j → (∀ z ∈ [a, b, c, d, e, f], Bi 40 z) → Form 2 [i, j, a, b, c, d, e, f] []
  | tells (a : Int) : 0 ≤ a → Form 3 [a] []
  | area (a : Int) : 0 ≤ a → Form 4 [a] []
  | at_ (a : Int) (p : List Int) : 0 ≤ a → Form 5 (a :: p) []
  | compare (a b : Int) : 0 ≤ a → 0 ≤ b → Form 6 [a, b] []
theorem step_spec {s : Sta} (hs : Sok s) {p : Int} {ns : List Int} {rows : List (List Int)} (h : Form p ns rows) : Gk02Neutral.step (ptsS s) ((p :: ns) :: rows) = (ptsS (stepM s p ns rows).1, (stepM s p ns rows).2) ∧ Sok (stepM s p ns rows).1 := by
  cases h with
  | rings i _ hi => exact rings_spec hs hi rows
  | put k a b c h1 h2 h3 h4 => exact put_spec hs h1 h2 h3 h4
  | move i j a b c d e f h1 h2 h3 => exact move_spec hs h1 h2 ⟨a, b, c, d, e, f⟩
  | tells a h1 => exact ⟨tells_spec hs h1, hs⟩
  | area a h1 => exact ⟨area_step hs h1, hs⟩
  | at_ a q h1 => exact ⟨where_step hs h1 q, hs⟩
  | compare a b h1 h2 => exact ⟨compare_step hs h1 h2, hs⟩
theorem form_of {c : List (List Int)} (h : Gk02Neutral.asked1 c = true) : ∃ p ns rows, c = (p :: ns) :: rows ∧ Form p ns rows := by
  unfold Gk02Neutral.asked1 at h
  rw [Bool.and_eq_true, Bool.and_eq_true] at h
  obtain ⟨h1, h2, h3⟩ := h
  have num : ∀ r ∈ c, ∀ z ∈ r, Bi 40 z := fun r hr z hz => by
    have := List.all_eq_true.1 (List.all_eq_true.1 h2 r hr) z hz
    unfold Gk02Neutral.number at this
    rw [Bool.and_eq_true, decide_eq_true_eq, decide_eq_true_eq] at this
    unfold Bi
    have : z.natAbs < 2 ^ 32 := by omega
    exact Nat.lt_of_lt_of_le this (by decide)
  unfold Gk02Neutral.callOf Gk02.callOf at h1
  split at h1
  · rename_i i r
    have h3 : ([0, i].all fun (z : Int) => decide (0 ≤ z)) = true := h3
    simp at h3
    exact ⟨0, [i], r, rfl, .rings i r h3⟩
  · rename_i k a b c
    have h3 : ([1, k, a, b, c].all fun (z : Int) => decide (0 ≤ z)) = true := h3
    simp at h3
    exact ⟨1, [k, a, b, c], [], rfl, .put k a b c h3.1 h3.2.1 h3.2.2.1 h3.2.2.2⟩
  · rename_i i j a b c d e f
    have h3 : (decide (0 ≤ i) && decide (0 ≤ j)) = true := h3
    simp at h3
    exact ⟨2, [i, j, a, b, c, d, e, f], [], rfl, .move i j a b c d e f h3.1 h3.2 fun z hz => num _ List.mem_cons_self z (List.mem_cons_of_mem _ (List.mem_cons_of_mem _ (List.mem_cons_of_mem _ hz)))⟩
  · rename_i a
    have h3 : ([3, a].all fun (z : Int) => decide (0 ≤ z)) = true := h3
    simp at h3
    exact ⟨3, [a], [], rfl, .tells a h3⟩
  · rename_i a
    have h3 : ([4, a].all fun (z : Int) => decide (0 ≤ z)) = true := h3
    simp at h3
    exact ⟨4, [a], [], rfl, .area a h3⟩
  · rename_i a p
    have h3 : decide (0 ≤ a) = true := h3
    exact ⟨5, a :: p, [], rfl, .at_ a p (of_decide_eq_true h3)⟩
  · rename_i a b
    have h3 : ([6, a, b].all fun (z : Int) => decide (0 ≤ z)) = true := h3
    simp at h3
    exact ⟨6, [a, b], [], rfl, .compare a b h3.1 h3.2⟩
  · cases h1
/-! ### a list of calls -/
/-- a call in numbers, as it is read -/
structure Cal where
  p : Int
  ns : List Int
  rows : List (List Int)
def Cal.ok (c : Cal) : Prop := Form c.p c.ns c.rows
def Cal.flat (c : Cal) : List Int := c.p :: ((c.ns.length : Int) :: c.ns) ++ ((c.rows.length : Int) :: c.rows.flatMap fun r => (r.length : Int) :: r)
def Cal.cell (c : Cal) : List (List Int) := (c.p :: c.ns) :: c.rows
def playM : Sta → List Cal → List Int
  | _, [] => []
  | s, c :: cs => (((stepM s c.p c.ns c.rows).2.length : Int) :: (stepM s c.p c.ns c.rows).2) ++ playM (stepM s c.p c.ns c.rows).1 cs
theorem play_spec {s : Sta} (hs : Sok s) : ∀ {cs : List Cal}, (∀ c ∈ cs, c.ok) → playM s cs = PyFlat.told (PyFlat.played Gk02Neutral.step (ptsS s) (cs.map Cal.cell))
  | [], _ => rfl
  | c :: cs, h => by
    obtain ⟨e, hs'⟩ := step_spec hs (h c List.mem_cons_self)
    have ih := play_spec hs' (cs := cs) fun x hx => h x (List.mem_cons_of_mem _ hx)
    show (((stepM s c.p c.ns c.rows).2.length : Int) :: (stepM s c.p c.ns c.rows).2) ++ playM (stepM s c.p c.ns c.rows).1 cs = _
    rw [ih, List.map_cons]
    show _ = PyFlat.told ((Gk02Neutral.step (ptsS s) ((c.p :: c.ns) :: c.rows)).2 :: PyFlat.played Gk02Neutral.step (Gk02Neutral.step (ptsS s) ((c.p :: c.ns) :: c.rows)).1 (cs.map Cal.cell))
    rw [e]
    unfold PyFlat.told
    rw [List.flatMap_cons]
theorem row_of {l x t : List Int} (h : PyFlat.row l = some (x, t)) : l = (x.length : Int) :: x ++ t := by
  unfold PyFlat.row at h
  split at h
  · cases h
  · rename_i n r
    split at h
    · rename_i q
      have h := Option.some.inj h
      rw [Prod.mk.injEq] at h
      obtain ⟨rfl, rfl⟩ := h
      rw [List.length_take, Nat.min_eq_left q.2, List.cons_append, List.take_append_drop]
      congr 1
      omega
    · cases h
theorem rows_of : ∀ {k : Nat} {l t : List Int} {xs : List (List Int)}, PyFlat.rows k l = some (xs, t) → xs.length = k ∧ l = (xs.flatMap fun r => (r.length : Int) :: r) ++ t
  | 0, l, t, xs, h => by
    unfold PyFlat.rows at h
    have h := Option.some.inj h
    rw [Prod.mk.injEq] at h
    obtain ⟨rfl, rfl⟩ := h
    exact ⟨rfl, rfl⟩
  | k + 1, l, t, xs, h => by
    unfold PyFlat.rows at h
    split at h
    · cases h
    · rename_i x s e
      split at h
      · cases h
      · rename_i ys u e2
        have h := Option.some.inj h
        rw [Prod.mk.injEq] at h
        obtain ⟨rfl, rfl⟩ := h
        obtain ⟨i1, i2⟩ := rows_of e2
        refine ⟨by rw [List.length_cons, i1], ?_⟩
        rw [row_of e, List.flatMap_cons, i2]
        simp
theorem call_of {l t : List Int} {c : List (List Int)} (h : PyWide.call l = some (c, t)) : ∃ x : Cal, c = x.cell ∧ l = x.flat ++ t := by
  unfold PyWide.call at h
  split at h
  · cases h
  · rename_i p r
    split at h
    · cases h
    · cases h
    · rename_i ns k u e
      split at h
      · rename_i q
        split at h
        · cases h
        · rename_i xs v e2
          have h := Option.some.inj h
          rw [Prod.mk.injEq] at h
          obtain ⟨rfl, rfl⟩ := h
          obtain ⟨i1, i2⟩ := rows_of e2
          refine ⟨⟨p, ns, xs⟩, rfl, ?_⟩
          unfold Cal.flat
          rw [row_of e, i2]
          have : k = ((xs.length : Nat) : Int) := by rw [i1]; omega
          rw [this]
          simp
      · cases h
theorem calls_of : ∀ {n : Nat} {l : List Int} {cs : List (List (List Int))}, PyWide.calls n l = some cs → ∃ xs : List Cal, cs = xs.map Cal.cell ∧ l = xs.flatMap Cal.flat
  | n, [], cs, h => by
    have : cs = [] := by cases n <;> exact (Option.some.inj h).symm
    subst this
    exact ⟨[], rfl, rfl⟩
  | 0, _ :: _, cs, h => by cases h
  | n + 1, p :: r, cs, h => by
    unfold PyWide.calls at h
    split at h
    · cases h
    · rename_i c t e
      split at h
      · cases h
      · rename_i ds e2
        have h := Option.some.inj h
        subst h
        obtain ⟨x, rfl, ex⟩ := call_of e
        obtain ⟨xs, rfl, i2⟩ := calls_of e2
        exact ⟨x :: xs, rfl, by rw [ex, i2, List.flatMap_cons]⟩
/-- **what is asked, told in calls** -/
theorem asked_of {l : List Int} (h : PyGk02.answers_asked l = true) : ∃ xs : List Cal, l = xs.flatMap Cal.flat ∧ xs.length ≤ 12 ∧ (∀ c ∈ xs, c.ok) ∧ PyGk02.answers l = playM sta0 xs := by
  unfold PyGk02.answers_asked at h
  split at h
  · cases h
  · rename_i cs e
    simp only [Bool.and_eq_true] at h
    obtain ⟨⟨⟨⟨_, _⟩, h3⟩, h4⟩, _⟩ := h
    unfold PyGk02.calls at e
    obtain ⟨xs, rfl, el⟩ := calls_of e
    unfold Gk02Neutral.asked at h4
    rw [Bool.and_eq_true] at h4
    have ok : ∀ c ∈ xs, c.ok := fun c hc => by
      have := List.all_eq_true.1 h4.1 c.cell (List.mem_map.2 ⟨c, hc, rfl⟩)
      obtain ⟨p, ns, rows, e1, e2⟩ := form_of this
      unfold Cal.cell at e1
      injection e1 with e3 e4
      injection e3 with e5 e6
      subst e4; subst e5; subst e6
      exact e2
    refine ⟨xs, el, ?_, ok, ?_⟩
    · unfold PyFlat.atMost at h3
      have := of_decide_eq_true h3
      rwa [List.length_map] at this
    · unfold PyGk02.answers PyGk02.calls
      rw [e, play_spec sok0 ok, pts0]; rfl
end Wk
end
section
set_option Elab.async false
set_option linter.all false
set_option maxRecDepth 100000
set_option exponentiation.threshold 10000
namespace Wk
open PySem PySem.Spec PyProof.Rows L2
open Evl (Ex ex_l ex_t sq_of st_of)
open My (T3 Sd)
section
variable {P : Program} {w : World} {K : PySem.W.Frag} {mg : Str → Option Value} {base : Heap} {c1 t1 c2 t2 : Addr} (T : Tx K mg) (U : Tt K mg base c1 t1 c2 t2)
/-! ### answer_of -/
def R_answer_of (t1 t2 : Addr) : List SP → Cs → SP → Cs → Prop := fun ss C z C' => ∃ (g : Addr) (s : Sta) (p : Int) (ns : List Int) (rows : List (List Int)), Sok s ∧ Form p ns rows ∧ rows.length ≤ 1000000 ∧ (∀ r ∈ rows, r.length ≤ 1000000) ∧ ss = [rf g, it p, dt (inD ns), dt (insD rows)] ∧ C = Cg g t1 t2 s ∧ z = dt (inD (stepM s p ns rows).2) ∧ C' = Cg g t1 t2 (stepM s p ns rows).1
theorem x_answer_of {L : Sls} {C C1 C2 Cb : Cs} {ta : TA} {g : Addr} {s : Sta} {p : Int} {ns : List Int} {rows : List (List Int)} (h : Xa ta L C [rf g, it p, dt (inD ns), dt (insD rows)] C1) (p1 : C1.Perm (Cg g t1 t2 s ++ Cb)) (p2 : (Cg g t1 t2 (stepM s p ns rows).1 ++ Cb).Perm C2) (r : Sok s ∧ Form p ns rows ∧ rows.length ≤ 1000000 ∧ ∀ r ∈ rows, r.length ≤ 1000000) : Xe (tCall (spF (R_answer_of t1 t2)) [] E0 ta) L C (dt (inD (stepM s p ns rows).2)) C2 :=
  xe_callP h p1 p2 ⟨g, s, p, ns, rows, r.1, r.2.1, r.2.2.1, r.2.2.2, rfl, rfl, rfl, rfl⟩
theorem sc_answer_of : FnScope ["regions", "call", "numbers", "rows"] ["regions", "call", "numbers", "rows"] (defScope (topS 72)) := ⟨rfl, rfl, rfl, by decide +kernel, rfl, by decide +kernel, by decide +kernel⟩
theorem cut_two' (i j a b c d e f : Int) : cutD (([i, j, a, b, c, d, e, f] : List Int).map PyData.int) (some 2) none = ([a, b, c, d, e, f] : List Int).map PyData.int := rfl
include T U in
theorem ok_answer_of : Ok P w K mg base 9 "answer_of" ["regions", "call", "numbers", "rows"] (spF (R_answer_of t1 t2)) := by
  have nd := sc_answer_of.nd
  have o_answer_rings := ok_answer_rings (P := P) (w := w) (base := base) T U
  have o_answer_put := ok_answer_put (P := P) (w := w) (base := base) T U
  have o_answer_move := ok_answer_move (P := P) (w := w) (base := base) T U
  have o_answer_tells := ok_answer_tells (P := P) (w := w) (base := base) (t1 := t1) (t2 := t2) T
  have o_answer_area := ok_answer_area (P := P) (w := w) (base := base) (t1 := t1) (t2 := t2) T
  have o_answer_where := ok_answer_where (P := P) (w := w) (base := base) (t1 := t1) (t2 := t2) T
  have o_answer_compare := ok_answer_compare (P := P) (w := w) (base := base) (t1 := t1) (t2 := t2) T
  refine T.d_answer_of.okF sc_answer_of (fun ss C s C' h => by obtain ⟨_, _, _, _, _, _, _, _, _, rfl, _⟩ := h; rfl) fun f cdv A outer s H E hr => ⟨_, (pss_cons (ps_if (pt_cmpR op_eq (pv 1) (pe_ct T.c_RINGS rfl) (nomark _)) (pss_one (ps_ret (pe_own o_answer_rings hr rfl (pa_cons (pv 0) (pa_cons (pe_ix ix_seq (pv 2) pe_int (fun _ _ => rfl)) (pa_cons (pv 3) pa_nil)))))) pss_nil) (pss_cons (ps_if (pt_cmpR op_eq (pv 1) (pe_ct T.c_PUT rfl) (nomark _)) (pss_one (ps_ret (pe_own o_answer_put hr rfl (pa_cons (pv 0) (pa_cons (pe_ix ix_seq (pv 2) pe_int (fun _ _ => rfl)) (pa_cons (pe_ix ix_seq (pv 2) pe_int (fun _ _ => rfl)) (pa_cons (pe_ix ix_seq (pv 2) pe_int (fun _ _ => rfl)) (pa_cons (pe_ix ix_seq (pv 2) pe_int (fun _ _ => rfl)) pa_nil)))))))) pss_nil) (pss_cons (ps_if (pt_cmpR op_eq (pv 1) (pe_ct T.c_MOVE rfl) (nomark _)) (pss_one (ps_ret (pe_own o_answer_move hr rfl (pa_cons (pv 0) (pa_cons (pe_ix ix_seq (pv 2) pe_int (fun _ _ => rfl)) (pa_cons (pe_ix ix_seq (pv 2) pe_int (fun _ _ => rfl)) (pa_cons (pe_slice sl_list (pv 2) (po_some pe_int) po_none) pa_nil))))))) pss_nil) (pss_cons (ps_if (pt_cmpR op_eq (pv 1) (pe_ct T.c_TELLS rfl) (nomark _)) (pss_one (ps_ret (pe_own o_answer_tells hr rfl (pa_cons (pv 0) (pa_cons (pe_ix ix_seq (pv 2) pe_int (fun _ _ => rfl)) pa_nil))))) pss_nil) (pss_cons (ps_if (pt_cmpR op_eq (pv 1) (pe_ct T.c_AREA rfl) (nomark _)) (pss_one (ps_ret (pe_own o_answer_area hr rfl (pa_cons (pv 0) (pa_cons (pe_ix ix_seq (pv 2) pe_int (fun _ _ => rfl)) pa_nil))))) pss_nil) (pss_cons (ps_if (pt_cmpR op_eq (pv 1) (pe_ct T.c_WHERE rfl) (nomark _)) (pss_one (ps_ret (pe_own o_answer_where hr rfl (pa_cons (pv 0) (pa_cons (pe_ix ix_seq (pv 2) pe_int (fun _ _ => rfl)) (pa_cons (pe_slice sl_list (pv 2) (po_some pe_int) po_none) pa_nil)))))) pss_nil) (pss_one (ps_ret (pe_own o_answer_compare hr rfl (pa_cons (pv 0) (pa_cons (pe_ix ix_seq (pv 2) pe_int (fun _ _ => rfl)) (pa_cons (pe_ix ix_seq (pv 2) pe_int (fun _ _ => rfl)) pa_nil)))))))))))), fun ss C z C' h => ?_⟩
  obtain ⟨g, s, p, ns, rows, hs, hf, hl, hlr, rfl, rfl, rfl, rfl⟩ := h
  cases hf with
  | rings i _ hi =>
    refine wp_when (xt_test (xe_eq (xe_v 1 rfl) xe_i)) (fun _ => ?_) fun q => absurd q (by decide)
    exact wp_ret (x_answer_rings (k := i) (rows := rows) (xa_cons (xe_v 0 rfl) (xa_cons (xe_ixL (xe_v 2 rfl) xe_i rfl) (xa_cons (xe_v 3 rfl) xa_nil))) ⟨hs, hi, hl, hlr⟩) ⟨rfl, rfl⟩
  | put k a b c h1 h2 h3 h4 =>
    refine wp_when (xt_test (xe_eq (xe_v 1 rfl) xe_i)) (fun q => absurd q (by decide)) fun _ => ?_
    refine wp_when (xt_test (xe_eq (xe_v 1 rfl) xe_i)) (fun _ => ?_) fun q => absurd q (by decide)
    exact wp_ret (x_answer_put (k := k) (a := a) (b := b) (c := c) (xa_cons (xe_v 0 rfl) (xa_cons (xe_ixL (xe_v 2 rfl) xe_i rfl) (xa_cons (xe_ixL (xe_v 2 rfl) xe_i rfl) (xa_cons (xe_ixL (xe_v 2 rfl) xe_i rfl) (xa_cons (xe_ixL (xe_v 2 rfl) xe_i rfl) xa_nil))))) ⟨hs, h1, h2, h3, h4⟩) ⟨rfl, rfl⟩
  | move i j a b c d e f h1 h2 h3 =>
    refine wp_when (xt_test (xe_eq (xe_v 1 rfl) xe_i)) (fun q => absurd q (by decide)) fun _ => ?_
    refine wp_when (xt_test (xe_eq (xe_v 1 rfl) xe_i)) (fun q => absurd q (by decide)) fun _ => ?_
    refine wp_when (xt_test (xe_eq (xe_v 1 rfl) xe_i)) (fun _ => ?_) fun q => absurd q (by decide)
    have hx := xe_sl (K := K) (L := [some (rf g), some (it 2), some (dt (inD [i, j, a, b, c, d, e, f])), some (dt (insD []))]) (C := Cg g t1 t2 s) (xe_v 2 rfl) (xo_some (xe_i (i := 2))) xo_none
    rw [cut_two'] at hx
    exact wp_ret (x_answer_move (a := i) (b := j) (m := ⟨a, b, c, d, e, f⟩) (xa_cons (xe_v 0 rfl) (xa_cons (xe_ixL (xe_v 2 rfl) xe_i rfl) (xa_cons (xe_ixL (xe_v 2 rfl) xe_i rfl) (xa_cons hx xa_nil)))) ⟨hs, h1, h2, h3⟩) ⟨rfl, rfl⟩
  | tells a h1 =>
    refine wp_when (xt_test (xe_eq (xe_v 1 rfl) xe_i)) (fun q => absurd q (by decide)) fun _ => ?_
    refine wp_when (xt_test (xe_eq (xe_v 1 rfl) xe_i)) (fun q => absurd q (by decide)) fun _ => ?_
    refine wp_when (xt_test (xe_eq (xe_v 1 rfl) xe_i)) (fun q => absurd q (by decide)) fun _ => ?_
    refine wp_when (xt_test (xe_eq (xe_v 1 rfl) xe_i)) (fun _ => ?_) fun q => absurd q (by decide)
    exact wp_ret (x_one (F := ansTells) (a := a) (xa_cons (xe_v 0 rfl) (xa_cons (xe_ixL (xe_v 2 rfl) xe_i rfl) xa_nil)) ⟨hs, h1⟩) ⟨rfl, rfl⟩
  | area a h1 =>
    refine wp_when (xt_test (xe_eq (xe_v 1 rfl) xe_i)) (fun q => absurd q (by decide)) fun _ => ?_
    refine wp_when (xt_test (xe_eq (xe_v 1 rfl) xe_i)) (fun q => absurd q (by decide)) fun _ => ?_
    refine wp_when (xt_test (xe_eq (xe_v 1 rfl) xe_i)) (fun q => absurd q (by decide)) fun _ => ?_
    refine wp_when (xt_test (xe_eq (xe_v 1 rfl) xe_i)) (fun q => absurd q (by decide)) fun _ => ?_
    refine wp_when (xt_test (xe_eq (xe_v 1 rfl) xe_i)) (fun _ => ?_) fun q => absurd q (by decide)
    exact wp_ret (x_one (F := ansArea) (a := a) (xa_cons (xe_v 0 rfl) (xa_cons (xe_ixL (xe_v 2 rfl) xe_i rfl) xa_nil)) ⟨hs, h1⟩) ⟨rfl, rfl⟩
  | at_ a q h1 =>
    refine wp_when (xt_test (xe_eq (xe_v 1 rfl) xe_i)) (fun q => absurd q (by decide)) fun _ => ?_
    refine wp_when (xt_test (xe_eq (xe_v 1 rfl) xe_i)) (fun q => absurd q (by decide)) fun _ => ?_
    refine wp_when (xt_test (xe_eq (xe_v 1 rfl) xe_i)) (fun q => absurd q (by decide)) fun _ => ?_
    refine wp_when (xt_test (xe_eq (xe_v 1 rfl) xe_i)) (fun q => absurd q (by decide)) fun _ => ?_
    refine wp_when (xt_test (xe_eq (xe_v 1 rfl) xe_i)) (fun q => absurd q (by decide)) fun _ => ?_
    refine wp_when (xt_test (xe_eq (xe_v 1 rfl) xe_i)) (fun _ => ?_) fun q => absurd q (by decide)
    have hx := xe_sl (K := K) (L := [some (rf g), some (it 5), some (dt (inD (a :: q))), some (dt (insD []))]) (C := Cg g t1 t2 s) (xe_v 2 rfl) (xo_some (xe_i (i := 1))) xo_none
    rw [List.map_cons, cut_tail] at hx
    exact wp_ret (x_answer_where (a := a) (p := q) (xa_cons (xe_v 0 rfl) (xa_cons (xe_ixL (xe_v 2 rfl) xe_i (atI_int (ns := a :: q) (k := 0) (by simp))) (xa_cons hx xa_nil))) ⟨hs, h1⟩) ⟨rfl, rfl⟩
  | compare a b h1 h2 =>
    refine wp_when (xt_test (xe_eq (xe_v 1 rfl) xe_i)) (fun q => absurd q (by decide)) fun _ => ?_
    refine wp_when (xt_test (xe_eq (xe_v 1 rfl) xe_i)) (fun q => absurd q (by decide)) fun _ => ?_
    refine wp_when (xt_test (xe_eq (xe_v 1 rfl) xe_i)) (fun q => absurd q (by decide)) fun _ => ?_
    refine wp_when (xt_test (xe_eq (xe_v 1 rfl) xe_i)) (fun q => absurd q (by decide)) fun _ => ?_
    refine wp_when (xt_test (xe_eq (xe_v 1 rfl) xe_i)) (fun q => absurd q (by decide)) fun _ => ?_
    refine wp_when (xt_test (xe_eq (xe_v 1 rfl) xe_i)) (fun q => absurd q (by decide)) fun _ => ?_
    exact wp_ret (x_answer_compare (a := a) (b := b) (xa_cons (xe_v 0 rfl) (xa_cons (xe_ixL (xe_v 2 rfl) xe_i rfl) (xa_cons (xe_ixL (xe_v 2 rfl) xe_i rfl) xa_nil))) ⟨hs, h1, h2⟩) ⟨rfl, rfl⟩
end
end Wk
end
section
set_option Elab.async false
set_option linter.all false
set_option maxRecDepth 100000
set_option exponentiation.threshold 10000
namespace Wk
open PySem PySem.Spec PyProof.Rows L2
open Evl (Ex ex_l ex_t sq_of st_of)
/-! ### the script, and its reader -/
theorem sqL_ex {K : PySem.W.Frag} {G H : Hp} {a : Addr} {xs : List V} (h : SqL K G a xs) (e : Ex G H) : SqL K H a xs := by
  rcases h with (h | ⟨o, h⟩) | h
  · exact .inl (.inl (e _ _ h))
  · exact .inl (.inr ⟨o, e _ _ h⟩)
  · exact .inr h
def srS (K : PySem.W.Frag) (ns : List Int) : SP := ⟨fun G v => ∃ a, v = .ref a ∧ SqL K G a (ns.map V.int), fun e h => by
  obtain ⟨a, h1, h2⟩ := h
  exact ⟨a, h1, sqL_ex h2 e⟩⟩
def cR0 (Cd : Addr) : CP := ⟨fun _ o => ∃ dx, o = .ins Cd dx [], fun _ h => h⟩
def cRN (K : PySem.W.Frag) (Cd : Addr) (ns : List Int) : CP := ⟨fun G o => ∃ dx a, o = .ins Cd dx [("numbers", .ref a)] ∧ SqL K G a (ns.map V.int), fun e h => by
  obtain ⟨dx, a, h1, h2⟩ := h
  exact ⟨dx, a, h1, sqL_ex h2 e⟩⟩
def cR (K : PySem.W.Frag) (Cd : Addr) (ns : List Int) (k : Nat) : CP := ⟨fun G o => ∃ dx a, o = .ins Cd dx [("numbers", .ref a), ("position", .int (k : Int))] ∧ SqL K G a (ns.map V.int), fun e h => by
  obtain ⟨dx, a, h1, h2⟩ := h
  exact ⟨dx, a, h1, sqL_ex h2 e⟩⟩
section
variable {K : PySem.W.Frag} {L : Sls} {C C0 C1 C2 C3 Ca Cb Ca' : Cs} {te ta tb : TE} {N : Sls → Cs → Prop} {R : SP → Cs → Prop} {ns : List Int} {x Cd : Addr} {i j k : Nat}
theorem wp_fldN (cl : Cls K Cd) (n : NoAttr K Cd "numbers") (hi : L[i]? = some (some (rf x))) (hj : L[j]? = some (some (srS K ns))) (q : N L ((x, cRN K Cd ns) :: Cb)) : WP (sFld K (tVar i) (tVar j) "numbers") C0 L ((x, cR0 Cd) :: Cb) N R := fun G0 H0 σ G H D c0 tr sl hn hr => by
  obtain ⟨v, h1, h2⟩ := sl.at' i _ hi
  cases h2
  obtain ⟨u, h3, a, rfl, h4⟩ := sl.at' j _ hj
  obtain ⟨o, k1, ⟨dx, rfl⟩, k3⟩ := tr.cl.at' x _ List.mem_cons_self
  refine ⟨.ref a, h3, .ref x, h1, x, Cd, dx, [], rfl, k1, cl, n, by decide, ?_⟩
  exact hn _ _ _ G _ q (tr.trans c0 (Tr.put (Ca := []) (y := cRN K Cd ns) tr.dn tr.cl ⟨dx, a, rfl, h4⟩)) (Ex.refl _) sl
theorem wp_fldP (cl : Cls K Cd) (n : NoAttr K Cd "position") (hi : L[i]? = some (some (rf x))) (q : N L ((x, cR K Cd ns 0) :: Cb)) : WP (sFld K (tVar i) (tC (.int 0)) "position") C0 L ((x, cRN K Cd ns) :: Cb) N R := fun G0 H0 σ G H D c0 tr sl hn hr => by
  obtain ⟨v, h1, h2⟩ := sl.at' i _ hi
  cases h2
  obtain ⟨o, k1, ⟨dx, a, rfl, h4⟩, k3⟩ := tr.cl.at' x _ List.mem_cons_self
  refine ⟨.ref x, h1, x, Cd, dx, [("numbers", .ref a)], rfl, k1, cl, n, Nat.lt_of_sub_eq_succ rfl, ?_⟩
  exact hn _ _ _ G _ q (tr.trans c0 (Tr.put (Ca := []) (y := cR K Cd ns 0) tr.dn tr.cl ⟨dx, a, rfl, h4⟩)) (Ex.refl _) sl
theorem xe_fldP (cl : Cls K Cd) (n : NoAttr K Cd "position") (hi : L[i]? = some (some (rf x))) (hm : (x, cR K Cd ns k) ∈ C) : Xe (tFld K (tVar i) "position") L C (it (k : Nat)) C := fun σ G H sl e c Q q => by
  obtain ⟨v, h1, h2⟩ := sl.at' i _ hi
  cases h2
  obtain ⟨o, k1, ⟨dx, a, rfl, h4⟩, k3⟩ := c.at' x _ hm
  exact ⟨.ref x, h1, x, Cd, dx, _, .int (k : Int), rfl, k1, cl, n, rfl, q _ G H (Tr.rfl' e c) (.int _)⟩
theorem xe_fldN (cl : Cls K Cd) (n : NoAttr K Cd "numbers") (hi : L[i]? = some (some (rf x))) (hm : (x, cR K Cd ns k) ∈ C) : Xe (tFld K (tVar i) "numbers") L C (srS K ns) C := fun σ G H sl e c Q q => by
  obtain ⟨v, h1, h2⟩ := sl.at' i _ hi
  cases h2
  obtain ⟨o, k1, ⟨dx, a, rfl, h4⟩, k3⟩ := c.at' x _ hm
  exact ⟨.ref x, h1, x, Cd, dx, _, .ref a, rfl, k1, cl, n, rfl, q _ G H (Tr.rfl' e c) ⟨a, rfl, h4⟩⟩
theorem wp_augP {z : Nat} (cl : Cls K Cd) (n : NoAttr K Cd "position") (hi : L[i]? = some (some (rf x))) (h : Xe te L ((x, cR K Cd ns k) :: Cb) (it (z : Nat)) ((x, cR K Cd ns k) :: Cb)) (q : N L ((x, cR K Cd ns (k + z)) :: Cb)) : WP (sFldAug K (tVar i) te rAdd "position") C0 L ((x, cR K Cd ns k) :: Cb) N R := fun G0 H0 σ G H D c0 tr sl hn hr => by
  obtain ⟨v, h1, h2⟩ := sl.at' i _ hi
  cases h2
  obtain ⟨o, k1, ⟨dx, a, rfl, h4⟩, k3⟩ := tr.cl.at' x _ List.mem_cons_self
  refine ⟨.ref x, h1, x, Cd, dx, _, .int (k : Int), rfl, k1, cl, n, rfl, h σ G H sl tr.dn tr.cl _ fun y G1 H1 t1 r1 => ?_⟩
  cases r1
  obtain ⟨o, k1, ⟨dx, a, rfl, h4⟩, k3⟩ := t1.cl.at' x _ List.mem_cons_self
  refine ⟨(k : Int), (z : Int), rfl, rfl, dx, _, k1, Nat.lt_of_sub_eq_succ rfl, ?_⟩
  refine hn _ _ _ G1 _ q ((tr.trans c0 t1).trans c0 (Tr.put (Ca := []) (y := cR K Cd ns (k + z)) t1.dn t1.cl ⟨dx, a, ?_, h4⟩)) t1.up (sl.ex t1.up)
  have e : (k : Int) + (z : Int) = ((k + z : Nat) : Int) := by omega
  rw [e]; rfl
theorem vn_lenS : Vn (fun xs H Q => ∃ p ys, xs = [V.ref p] ∧ (SqL K H p ys ∨ SqT K H p ys) ∧ Q (.int ys.length) H) C [srS K ns] (it (ns.length : Nat)) C := fun xs G H Q e c r q => by
  cases r with
  | cons a b =>
    cases b
    obtain ⟨p, rfl, hp⟩ := a
    refine ⟨p, _, rfl, .inl (sqL_ex hp e), ?_⟩
    rw [List.length_map]
    exact q _ G H (Tr.rfl' e c) (.int _)
theorem xe_ixS {z : Int} (ha : Xe ta L C (srS K ns) C1) (hb : Xe tb L C1 (it (k : Nat)) C2) (h : ns[k]? = some z) : Xe (tOp (rIx K) ta tb) L C (it z) C2 := xe_op ha hb fun u v G H Q e c r1 r2 q => by
  cases r2
  obtain ⟨a, rfl, ha⟩ := r1
  exact .inl ⟨a, _, (k : Int), .int z, rfl, rfl, sqL_ex ha e, atI_nat' (by rw [List.getElem?_map, h]; rfl), q _ G H (Tr.rfl' e c) (.int _)⟩
theorem xe_slS {lo hi : Option Int} {tl th : TO} (ha : Xe ta L C (srS K ns) C1) (hl : Xo tl L C1 lo C2) (hh : Xo th L C2 hi C3) {r : List Int} (hr : cutV (ns.map V.int) lo hi = r.map V.int) : Xe (tSl (rSlL K) ta tl th) L C (dt (inD r)) C3 := fun σ G H sl e c Q q =>
  ha σ G H sl e c _ fun v G1 H1 w1 r1 => hl σ G1 H1 (sl.ex w1.up) w1.dn w1.cl _ fun G2 H2 w2 => hh σ G2 H2 ((sl.ex w1.up).ex w2.up) w2.dn w2.cl _ fun G3 H3 w3 => by
    obtain ⟨a, rfl, hx⟩ := r1
    have e3 : Ex G1 H3 := (w2.up.trans w3.up).trans w3.dn
    refine ⟨a, _, rfl, sqL_ex hx e3, fun p hp => ?_⟩
    have w := Wn.put (o := .lst (cutV (ns.map V.int) lo hi)) w3.dn hp
    refine q _ _ _ (((w1.trans c w2).trans c w3).trans c (Tr.of w3.cl w)) (.lst upd_same ?_)
    rw [hr]
    exact rpAll_ints r
/-- x.m() -/
theorem xe_meth {m : Str} {Rr : List SP → Cs → SP → Cs → Prop} {s : SP} (ha : Xe ta L C (rf x) C1) (hm : (x, cR K Cd ns k) ∈ C1) (hl : ∀ a : Addr, List.lookup m [(("numbers" : Str), V.ref a), ("position", V.int (k : Int))] = none) (p1 : C1.Perm (Ca ++ Cb)) (p2 : (Ca' ++ Cb).Perm C2) (r : Rr [rf x] Ca s Ca') : Xe (tMeth Cd m (spF Rr) [] E0 ta tNil) L C s C2 := fun σ G H sl e c Q q => ha σ G H sl e c _ fun v G1 H1 w1 r1 => by
  cases r1
  obtain ⟨o, k1, ⟨dx, a, rfl, h4⟩, k3⟩ := w1.cl.at' x _ hm
  refine ⟨x, dx, _, rfl, k1, hl a, ?_⟩
  refine ⟨G1, [rf x], Ca, s, Ca', w1.dn, (w1.cl.perm p1).left, .cons rfl .nil, r, fun v G2 H2 w2 r2 => q v G2 H2 (w1.trans c ?_) r2⟩
  exact (w2.frame (w1.cl.perm p1)).perm p1.symm p2
/-- x = C(e): a new instance -/
theorem wp_make {Rr : List SP → Cs → SP → Cs → Prop} {ta : TA} {tu : TS} {ss : List SP} {c' : CP} (h : Xa ta L C ss C1) (r : ∀ x, Rr (rf x :: ss) [(x, cR0 Cd)] nn [(x, c')]) (q : ∀ x, ¬ In C1 x → ¬ In C0 x → WP tu C0 (L.set i (some (rf x))) ((x, c') :: C1) N R) : WP (tSeq (tAsg (tMake Cd (spF Rr) [] E0 ta) (gName i)) tu) C0 L C N R := wp_seq fun G0 H0 σ G H D c0 tr sl hn hr =>
  h σ G H sl tr.dn tr.cl _ fun vs G1 H1 t1 r1 => fun x dx hx hdx ne => by
    have n1 := t1.cl.not hx
    have tt := tr.trans c0 t1
    have t2 := Tr.of t1.cl (Wn.put (o := .own x) t1.dn hdx)
    have hx2 : upd H1 dx (.own x) x = none := by rw [upd_ne ne.symm]; exact hx
    have t3 := Tr.open (x := cR0 Cd) (o := .ins Cd dx []) t2.dn t2.cl hx2 ⟨dx, rfl⟩
    have cl3 : Cl ([(x, cR0 Cd)] ++ C1) (upd G1 dx (.own x)) (upd (upd H1 dx (.own x)) x (.ins Cd dx [])) := t3.cl
    refine ⟨upd G1 dx (.own x), rf x :: ss, [(x, cR0 Cd)], nn, [(x, c')], t3.dn, cl3.left, ?_, r x, fun v G4 H4 t4 p4 => ⟨p4, ?_⟩⟩
    · rw [List.append_nil]
      exact .cons rfl (r1.ex t2.up)
    · have t5 := t4.frame cl3
      exact hn _ _ _ G4 H4 (q x n1 fun z => n1 (tt.kee x z)) (((tt.trans c0 t2).trans c0 t3).trans c0 t5) ((t1.up.trans t2.up).trans t4.up) ((((sl.ex t1.up).ex t2.up).ex t4.up).set (x := rf x) rfl)
end
end Wk
end
section
set_option Elab.async false
set_option linter.all false
set_option maxRecDepth 100000
set_option exponentiation.threshold 10000
namespace Wk
open PySem PySem.Spec PyProof.Rows L2
open Evl (Ex ex_l ex_t sq_of st_of)
/-! ### Reader -/
def rdS (i : Nat) : Stmt := match topS 70 with
  | .ClassDef (body := b) .. => b.getD i (.Pass ⟨0, 0, 0, 0⟩)
  | _ => .Pass ⟨0, 0, 0, 0⟩
/-- the class and its methods -/
structure Trd (K : PySem.W.Frag) (mg : Str → Option Value) (Cd fi fh ft fr : Addr) (di dh dn dr : FuncData) : Prop where
  cls : Cls K Cd
  n1 : NoAttr K Cd "numbers"
  n2 : NoAttr K Cd "position"
  mak : L2.Mk K Cd fi
  nm : mg "Reader" = some (.ref Cd)
  mh : Meth K Cd "has_more" fh
  mt : Meth K Cd "take" ft
  mr : Meth K Cd "take_row" fr
  Fi : Fun K "__init__" "Reader.__init__" (rdS 0) fi di
  Fh : Fun K "has_more" "Reader.has_more" (rdS 1) fh dh
  Ft : Fun K "take" "Reader.take" (rdS 2) ft dn
  Fr : Fun K "take_row" "Reader.take_row" (rdS 3) fr dr
  bi : Binds K di ["self", "numbers"] []
  bh : Binds K dh ["self"] []
  bt : Binds K dn ["self"] []
  br : Binds K dr ["self"] []
theorem fun_okF {P : Program} {w : World} {K : PySem.W.Frag} {mg : Str → Option Value} {base : Heap} {x qual : Str} {st : Stmt} {f : Addr} {fd : FuncData} {ps N : List Str} {k : Nat} {R : List SP → Cs → SP → Cs → Prop} (F : Fun K x qual st f fd) (S : FnScope N ps (defScope st)) (len : ∀ ss C s C', R ss C s C' → ss.length = ps.length)
    (hbody : ∀ (cdv : Value) (A : Around) (outer : List Env) (s : Shared) (H : Hp) (E : XK), Room k (A.deeper (envOfC qual (defScope st) s.heap.objs.size f cdv)) →
      ∃ t, PSs (cxOf CX0 P w K mg base N qual (defScope st) f cdv A outer s H E).nox (defBody st) t ∧ ∀ ss C z C', R ss C z C' → WP t C (ss.map some ++ List.replicate (N.length - ss.length) none) C (fun _ C1 => z = nn ∧ C1 = C') (fun z1 C1 => z1 = z ∧ C1 = C')) : FnOk P w K mg base CX0 (k + 1) f fd ps (spF R) := by
  refine F.ok S (fun vs H Q E h => ?_) fun cdv A outer s H vs Q E hr h => ?_
  · obtain ⟨G, ss, C, z, C', e, c, ar, r, q⟩ := h
    rw [ar.len]; exact len _ _ _ _ r
  · obtain ⟨G, ss, C, z, C', e, c, ar, r, q⟩ := h
    obtain ⟨t, ht, hw⟩ := hbody cdv A outer s H E hr
    refine ⟨t, ht, hw ss C z C' r G H (L2.start N vs) G H _ c (Tr.rfl' e c) (sl_start ar) (fun L' C1 σ' G' H' h tr _ _ => ?_) fun v s' C1 G' H' h tr p => ?_⟩
    · obtain ⟨rfl, rfl⟩ := h
      exact q _ G' H' tr rfl
    · obtain ⟨rfl, rfl⟩ := h
      exact q _ G' H' tr p
section
variable {P : Program} {w : World} {K : PySem.W.Frag} {mg : Str → Option Value} {base : Heap} {Cd fi fh ft fr : Addr} {di dh dn dr : FuncData} (T : Tx K mg) (D : Trd K mg Cd fi fh ft fr di dh dn dr)
theorem sc_init : FnScope ["self", "numbers"] ["self", "numbers"] (defScope (rdS 0)) := ⟨rfl, rfl, rfl, by decide +kernel, rfl, by decide +kernel, by decide +kernel⟩
theorem sc_has_more : FnScope ["self"] ["self"] (defScope (rdS 1)) := ⟨rfl, rfl, rfl, by decide +kernel, rfl, by decide +kernel, by decide +kernel⟩
theorem sc_take : FnScope ["self", "number"] ["self"] (defScope (rdS 2)) := ⟨rfl, rfl, rfl, by decide +kernel, rfl, by decide +kernel, by decide +kernel⟩
theorem sc_take_row : FnScope ["self", "count", "row"] ["self"] (defScope (rdS 3)) := ⟨rfl, rfl, rfl, by decide +kernel, rfl, by decide +kernel, by decide +kernel⟩
def R_init (K : PySem.W.Frag) (Cd : Addr) : List SP → Cs → SP → Cs → Prop := fun ss C z C' => ∃ (x : Addr) (ns : List Int), ss = [rf x, srS K ns] ∧ C = [(x, cR0 Cd)] ∧ z = nn ∧ C' = [(x, cR K Cd ns 0)]
def R_has_more (K : PySem.W.Frag) (Cd : Addr) : List SP → Cs → SP → Cs → Prop := fun ss C z C' => ∃ (x : Addr) (ns : List Int) (k : Nat), ss = [rf x] ∧ C = [(x, cR K Cd ns k)] ∧ z = bo (decide ((k : Int) < (ns.length : Nat))) ∧ C' = [(x, cR K Cd ns k)]
def R_take (K : PySem.W.Frag) (Cd : Addr) : List SP → Cs → SP → Cs → Prop := fun ss C z C' => ∃ (x : Addr) (ns : List Int) (k : Nat) (i : Int), ns[k]? = some i ∧ ss = [rf x] ∧ C = [(x, cR K Cd ns k)] ∧ z = it i ∧ C' = [(x, cR K Cd ns (k + 1))]
def R_take_row (K : PySem.W.Frag) (Cd : Addr) : List SP → Cs → SP → Cs → Prop := fun ss C z C' => ∃ (x : Addr) (ns : List Int) (A r B : List Int), ns = A ++ ((r.length : Int) :: r) ++ B ∧ ss = [rf x] ∧ C = [(x, cR K Cd ns A.length)] ∧ z = dt (inD r) ∧ C' = [(x, cR K Cd ns (A.length + 1 + r.length))]
include D in
theorem ok_init : FnOk P w K mg base CX0 1 fi di ["self", "numbers"] (spF (R_init K Cd)) := by
  refine fun_okF D.Fi sc_init (fun ss C s C' h => by obtain ⟨_, _, rfl, _⟩ := h; rfl) fun cdv A outer s H E hr => ⟨_, pss_cons (ps_fld (pv 0) (pv 1) rfl) (pss_one (ps_fld (pv 0) pe_int rfl)), fun ss C z C' h => ?_⟩
  obtain ⟨x, ns, rfl, rfl, rfl, rfl⟩ := h
  exact wp_seq (wp_fldN D.cls D.n1 rfl rfl (wp_fldP D.cls D.n2 rfl ⟨rfl, rfl⟩))
include T D in
theorem ok_has_more : FnOk P w K mg base CX0 1 fh dh ["self"] (spF (R_has_more K Cd)) := by
  refine fun_okF D.Fh sc_has_more (fun ss C s C' h => by obtain ⟨_, _, _, rfl, _⟩ := h; rfl) fun cdv A outer s H E hr => ⟨_, pss_one (ps_ret (pe_cmpR op_lt (pe_fld (pv 0) rfl) (pe_callB call_len_seq (by rfl) T.m_len PySem.boot_len (pa_cons (pe_fld (pv 0) rfl) pa_nil)) (nomark _))), fun ss C z C' h => ?_⟩
  obtain ⟨x, ns, k, rfl, rfl, rfl, rfl⟩ := h
  exact wp_ret (xe_C0 (xe_fldP D.cls D.n2 rfl List.mem_cons_self) (xe_cb (xa_cons (xe_fldN D.cls D.n1 rfl List.mem_cons_self) xa_nil) vn_lenS)) ⟨rfl, rfl⟩
include D in
theorem ok_take : FnOk P w K mg base CX0 1 ft dn ["self"] (spF (R_take K Cd)) := by
  have nd := sc_take.nd
  refine fun_okF D.Ft sc_take (fun ss C s C' h => by obtain ⟨_, _, _, _, _, rfl, _⟩ := h; rfl) fun cdv A outer s H E hr => ⟨_, pss_cons (ps_set (i := 1) nd rfl (Or.inl rfl) (pe_ix ix_seq (pe_fld (pv 0) rfl) (pe_fld (pv 0) rfl) (fun _ _ => rfl))) (pss_cons (ps_fldaug (pv 0) pe_int in_add) (pss_one (ps_ret (pv 1)))), fun ss C z C' h => ?_⟩
  obtain ⟨x, ns, k, i, hk, rfl, rfl, rfl, rfl⟩ := h
  refine wp_set (xe_ixS (xe_fldN D.cls D.n1 rfl List.mem_cons_self) (xe_fldP D.cls D.n2 rfl List.mem_cons_self) hk) (wp_seq (wp_augP (z := 1) D.cls D.n2 rfl xe_i ?_))
  exact wp_ret (xe_v 1 rfl) ⟨rfl, rfl⟩
theorem cut_row (A r B : List Int) : cutV ((A ++ ((r.length : Int) :: r) ++ B).map V.int) (some ((A.length + 1 : Nat) : Int)) (some (((A.length + 1 : Nat) : Int) + (r.length : Nat))) = r.map V.int := by
  have e : ((A.length + 1 : Nat) : Int) + (r.length : Nat) = ((A.length + 1 + r.length : Nat) : Int) := by omega
  unfold cutV
  rw [e, HT.sIx_nat, HT.sIx_nat, List.length_map]
  have hl : (A ++ ((r.length : Int) :: r) ++ B).length = A.length + 1 + r.length + B.length := by simp; omega
  rw [hl, Nat.min_eq_left (by omega), Nat.min_eq_left (by omega)]
  have e2 : A.length + 1 + r.length - (A.length + 1) = r.length := by omega
  rw [e2]
  have e3 : (A ++ ((r.length : Int) :: r) ++ B) = (A ++ [(r.length : Int)]) ++ (r ++ B) := by simp
  rw [e3, List.map_append, List.drop_append_of_le_length (by simp)]
  have e4 : ((A ++ [(r.length : Int)]).map V.int).drop (A.length + 1) = [] := List.drop_eq_nil_of_le (by simp)
  rw [e4, List.nil_append, List.map_append, List.take_append_of_le_length (by simp), List.take_of_length_le (by simp)]
include D in
theorem ok_take_row : FnOk P w K mg base CX0 2 fr dr ["self"] (spF (R_take_row K Cd)) := by
  have nd := sc_take_row.nd
  have o_take := ok_take (P := P) (w := w) (base := base) D
  refine fun_okF D.Fr sc_take_row (fun ss C s C' h => by obtain ⟨_, _, _, _, _, _, rfl, _⟩ := h; rfl) fun cdv A outer s H E hr => ⟨_, pss_cons (ps_set (i := 1) nd rfl (Or.inl rfl) (pe_meth0 (pv 0) D.cls D.mt o_take hr D.bt .nil pass0)) (pss_cons (ps_set (i := 2) nd rfl (Or.inl rfl) (pe_slice sl_list (pe_fld (pv 0) rfl) (po_some (pe_fld (pv 0) rfl)) (po_some (pe_op op_add (pe_fld (pv 0) rfl) (pv 1))))) (pss_cons (ps_fldaug (pv 0) (pv 1) in_add) (pss_one (ps_ret (pv 2))))), fun ss C z C' h => ?_⟩
  obtain ⟨x, ns, A, r, B, hns, rfl, rfl, rfl, rfl⟩ := h
  have hk : ns[A.length]? = some ((r.length : Nat) : Int) := by
    rw [hns, List.append_assoc, List.getElem?_append_right (Nat.le_refl _), Nat.sub_self]; rfl
  refine wp_set (xe_meth (Ca := [_]) (Ca' := [(x, cR K Cd ns (A.length + 1))]) (Cb := []) (k := A.length) (xe_v 0 rfl) List.mem_cons_self (fun _ => rfl) (List.Perm.refl _) (List.Perm.refl _) (s := it ((r.length : Nat) : Int)) ⟨x, ns, A.length, _, hk, rfl, rfl, rfl, rfl⟩) ?_
  refine wp_set (xe_slS (r := r) (xe_fldN (k := A.length + 1) D.cls D.n1 rfl List.mem_cons_self) (xo_some (xe_fldP (k := A.length + 1) D.cls D.n2 rfl List.mem_cons_self)) (xo_some (xe_I0 (xe_fldP (k := A.length + 1) D.cls D.n2 rfl List.mem_cons_self) (xe_v 1 rfl))) (by rw [hns]; exact cut_row A r B)) (wp_seq (wp_augP (z := r.length) D.cls D.n2 rfl (xe_v 1 rfl) ?_))
  exact wp_ret (xe_v 2 rfl) ⟨rfl, rfl⟩
end
end Wk
end
section
set_option Elab.async false
set_option linter.all false
set_option maxRecDepth 100000
set_option exponentiation.threshold 10000
namespace Wk
open PySem PySem.Spec PyProof.Rows L2
open Evl (Ex ex_l ex_t sq_of st_of)
/-! ### the calls, one behind another -/
def stAt (s : Sta) (cs : List Cal) : Sta := cs.foldl (fun s c => (stepM s c.p c.ns c.rows).1) s
theorem play_snoc : ∀ (s : Sta) (cs : List Cal) (c : Cal), playM s (cs ++ [c]) = playM s cs ++ (((stepM (stAt s cs) c.p c.ns c.rows).2.length : Int) :: (stepM (stAt s cs) c.p c.ns c.rows).2)
  | s, [], c => by
    show (((stepM s c.p c.ns c.rows).2.length : Int) :: (stepM s c.p c.ns c.rows).2) ++ [] = [] ++ _
    rw [List.append_nil]; rfl
  | s, d :: cs, c => by
    show (((stepM s d.p d.ns d.rows).2.length : Int) :: (stepM s d.p d.ns d.rows).2) ++ playM (stepM s d.p d.ns d.rows).1 (cs ++ [c]) = _
    rw [play_snoc, ← List.append_assoc]; rfl
theorem st_snoc (s : Sta) (cs : List Cal) (c : Cal) : stAt s (cs ++ [c]) = (stepM (stAt s cs) c.p c.ns c.rows).1 := by unfold stAt; rw [List.foldl_append]; rfl
theorem sok_st {s : Sta} (hs : Sok s) : ∀ {cs : List Cal}, (∀ c ∈ cs, c.ok) → Sok (stAt s cs) := by
  intro cs
  induction cs generalizing s with
  | nil => intro _; exact hs
  | cons c cs ih => intro h; exact ih (step_spec hs (h c List.mem_cons_self)).2 fun x hx => h x (List.mem_cons_of_mem _ hx)
theorem keep_len (s : Sta) (g : Nat) (b : List (My.T3 × My.T3)) : (keepM s g b).2.length ≤ 100 := by
  unfold keepM
  split <;> simp
theorem ans_len {s : Sta} (hs : Sok s) {p : Int} {ns : List Int} {rows : List (List Int)} (h : Form p ns rows) : (stepM s p ns rows).2.length ≤ 100 := by
  cases h with
  | rings i _ hi =>
    show (ansRings s i rows).2.length ≤ 100
    unfold ansRings
    split
    · simp
    · split
      · simp
      · exact keep_len _ _ _
  | put k a b c h1 h2 h3 h4 =>
    show (ansPut s k a b c).2.length ≤ 100
    unfold ansPut
    split
    · simp
    · split
      · simp
      · exact keep_len _ _ _
  | move i j a b c d e f h1 h2 h3 =>
    show (ansMove s i j ⟨a, b, c, d, e, f⟩).2.length ≤ 100
    unfold ansMove
    split
    · simp
    · split
      · simp
      · exact keep_len _ _ _
  | tells a h1 =>
    show (ansTells s a).length ≤ 100
    unfold ansTells
    split
    · simp
    · rename_i q
      obtain ⟨A1, _, _⟩ := at_int hs h1 (by omega)
      unfold tellsM
      rw [List.length_cons, tells_len]
      have := A1.kr.n
      have := A1.kr.m
      omega
  | area a h1 =>
    show (ansArea s a).length ≤ 100
    unfold ansArea
    split <;> simp
  | at_ a q h1 =>
    show (ansWhere s a q).length ≤ 100
    unfold ansWhere
    split
    · simp
    · split <;> simp
  | compare a b h1 h2 =>
    show (ansCompare s a b).length ≤ 100
    unfold ansCompare
    split <;> simp
theorem play_len {s : Sta} (hs : Sok s) : ∀ {cs : List Cal}, (∀ c ∈ cs, c.ok) → (playM s cs).length ≤ 101 * cs.length := by
  intro cs
  induction cs generalizing s with
  | nil => intro _; exact Nat.le_refl _
  | cons c cs ih =>
    intro h
    have h1 := ih (step_spec hs (h c List.mem_cons_self)).2 fun x hx => h x (List.mem_cons_of_mem _ hx)
    have h2 := ans_len hs (h c List.mem_cons_self)
    show ((((stepM s c.p c.ns c.rows).2.length : Int) :: (stepM s c.p c.ns c.rows).2) ++ playM (stepM s c.p c.ns c.rows).1 cs).length ≤ _
    rw [List.length_append, List.length_cons, List.length_cons]
    omega
def rw1 (r : List Int) : List Int := (r.length : Int) :: r
/-- where a call stands -/
theorem call_at {xs : List Cal} {k : Nat} {c : Cal} (h : xs[k]? = some c) : xs.flatMap Cal.flat = (xs.take k).flatMap Cal.flat ++ c.flat ++ (xs.drop (k + 1)).flatMap Cal.flat ∧ (xs.take (k + 1)).flatMap Cal.flat = (xs.take k).flatMap Cal.flat ++ c.flat := by
  constructor
  · conv => lhs; rw [(split_at h).1]
    rw [List.flatMap_append, List.flatMap_cons, List.append_assoc]
  · rw [take_more h, List.flatMap_append]
    simp
theorem rows_at {rows : List (List Int)} {j : Nat} {r : List Int} (h : rows[j]? = some r) : rows.flatMap rw1 = (rows.take j).flatMap rw1 ++ rw1 r ++ (rows.drop (j + 1)).flatMap rw1 ∧ (rows.take (j + 1)).flatMap rw1 = (rows.take j).flatMap rw1 ++ rw1 r := by
  constructor
  · conv => lhs; rw [(split_at h).1]
    rw [List.flatMap_append, List.flatMap_cons, List.append_assoc]
  · rw [take_more h, List.flatMap_append]
    simp
theorem flat_eq (c : Cal) : c.flat = c.p :: (rw1 c.ns ++ ((c.rows.length : Int) :: c.rows.flatMap rw1)) := rfl
section
variable {P : Program} {w : World} {K : PySem.W.Frag} {mg : Str → Option Value} {base : Heap} {c1 t1 c2 t2 Cd fi fh ft fr : Addr} {di dh dn dr : FuncData} (T : Tx K mg) (U : Tt K mg base c1 t1 c2 t2) (D : Trd K mg Cd fi fh ft fr di dh dn dr)
def R_answers (K : PySem.W.Frag) (t1 t2 : Addr) : List SP → Cs → SP → Cs → Prop := fun ss C z C' => ∃ xs : List Cal, xs.length ≤ 12 ∧ (xs.flatMap Cal.flat).length ≤ 2000 ∧ (∀ c ∈ xs, c.ok) ∧ ss = [srS K (xs.flatMap Cal.flat)] ∧ C = [(t1, cT qFb), (t2, cT qIo)] ∧ z = dt (inD (playM sta0 xs)) ∧ C' = C
theorem sc_answers : FnScope ["calls", "regions", "reader", "told", "call", "numbers", "rows", "number", "answer"] ["calls"] (defScope (topS 71)) := ⟨rfl, rfl, rfl, by decide +kernel, rfl, by decide +kernel, by decide +kernel⟩
include T U D in
theorem fn_answers {fa : Addr} {fd : FuncData} (F : Fun K "answers" "answers" (topS 71) fa fd) : FnOk P w K mg base CX0 10 fa fd ["calls"] (spF (R_answers K t1 t2)) := by
  have nd := sc_answers.nd
  have o_answer_of := ok_answer_of (P := P) (w := w) (base := base) T U
  have o_init := ok_init (P := P) (w := w) (base := base) D
  have o_has_more := ok_has_more (P := P) (w := w) (base := base) T D
  have o_take := ok_take (P := P) (w := w) (base := base) D
  have o_take_row := ok_take_row (P := P) (w := w) (base := base) D
  refine fun_okF F sc_answers (fun ss C s C' h => by obtain ⟨_, _, _, _, rfl, _⟩ := h; rfl) fun cdv A outer s H E hr => ⟨_, (pss_cons (ps_setLc (i := 1) rfl nd rfl rfl (sw_true rfl rfl rfl (by decide +kernel)) (own := [("number", 7)]) (pi_range1 rfl T.m_range (pa_cons (pe_ct T.c_REGIONS rfl) pa_nil)) (blkOk_by (N := ["calls", "regions", "reader", "told", "call", "numbers", "rows", "number", "answer"]) (sc := defScope (topS 71)) (by decide +kernel)) (fun _ _ _ _ _ => pg_name (i := 7) nd rfl (Or.inl rfl)) (fun _ _ _ _ _ => pts_nil) (fun _ _ _ _ _ => (pe_lst pa_nil))) (pss_cons (ps_set (i := 2) nd rfl (Or.inl rfl) (pe_make D.mak o_init (hr.mono (by decide)) rfl D.nm D.bi .nil pass0 (pa_cons (pv 0) pa_nil))) (pss_cons (ps_set (i := 3) nd rfl (Or.inl rfl) (pe_lst pa_nil)) (pss_cons (ps_while PassesOwn.never (pt_val (pe_meth0 (pv 2) D.cls D.mh o_has_more (hr.mono (by decide)) D.bh .nil pass0)) (pss_cons (ps_set (i := 4) nd rfl (Or.inl rfl) (pe_meth0 (pv 2) D.cls D.mt o_take (hr.mono (by decide)) D.bt .nil pass0)) (pss_cons (ps_set (i := 5) nd rfl (Or.inl rfl) (pe_meth0 (pv 2) D.cls D.mr o_take_row (hr.mono (by decide)) D.br .nil pass0)) (pss_cons (ps_set (i := 6) nd rfl (Or.inl rfl) (pe_lst pa_nil)) (pss_cons (ps_for PassesOwn.never rfl (pi_range1 rfl T.m_range (pa_cons (pe_meth0 (pv 2) D.cls D.mt o_take (hr.mono (by decide)) D.bt .nil pass0) pa_nil)) (pg_name (i := 7) nd rfl (Or.inl rfl)) (pss_one (ps_expr (pe_bm PySem.F.plainAttrs_list PySem.F.slot_list_append PySem.F.type_list_append mt_append (pv 6) (pa_cons (pe_meth0 (pv 2) D.cls D.mr o_take_row (hr.mono (by decide)) D.br .nil pass0) pa_nil))))) (pss_cons (ps_set (i := 8) nd rfl (Or.inl rfl) (pe_own o_answer_of hr rfl (pa_cons (pv 1) (pa_cons (pv 4) (pa_cons (pv 5) (pa_cons (pv 6) pa_nil)))))) (pss_cons (ps_expr (pe_bm PySem.F.plainAttrs_list PySem.F.slot_list_append PySem.F.type_list_append mt_append (pv 3) (pa_cons (pe_callB call_len_seq (by rfl) T.m_len PySem.boot_len (pa_cons (pv 8) pa_nil)) pa_nil))) (pss_one (ps_expr (pe_bm PySem.F.plainAttrs_list PySem.F.slot_list_extend PySem.F.type_list_extend mt_extend (pv 3) (pa_cons (pv 8) pa_nil))))))))))) (pss_one (ps_ret (pv 3))))))), fun ss C z C' h => ?_⟩
  obtain ⟨xs, hx12, hlen, hok, rfl, rfl, rfl, rfl⟩ := h
  generalize hns : xs.flatMap Cal.flat = ns at hlen ⊢
  refine wp_seq (wp_lcRc (n := 6) (fun _ => .list []) (xa_cons xe_i xa_nil) (by decide) (fun i hi => xe_lst xd_nil) fun g _ ng => ?_)
  refine wp_make (ss := [srS K ns]) (xa_cons (xe_v 0 rfl) xa_nil) (fun x => ⟨x, ns, rfl, rfl, rfl, rfl⟩) fun x nx nx0 => ?_
  refine wp_new fun p np np0 => ?_
  refine wp_perm (C' := (p, cL []) :: (x, cR K Cd ns 0) :: Cg g t1 t2 sta0) (List.Perm.cons _ (List.Perm.cons _ (List.perm_append_comm (l₁ := [_, _]) (l₂ := [_])))) ?_
  refine wp_seq (wp_while (m0 := xs.length) (fun m L C => ∃ k, k ≤ xs.length ∧ m = xs.length - k ∧ ∃ o4 o5 o6 o7 o8, L = [some (srS K ns), some (rf g), some (rf x), some (rf p), o4, o5, o6, o7, o8] ∧ C = (p, cL ((playM sta0 (xs.take k)).map PyData.int)) :: (x, cR K Cd ns ((xs.take k).flatMap Cal.flat).length) :: Cg g t1 t2 (stAt sta0 (xs.take k))) ⟨0, Nat.zero_le _, rfl, _, _, _, _, _, rfl, rfl⟩ ?_)
  rintro m L C ⟨k, hk, rfl, o4, o5, o6, o7, o8, rfl, rfl⟩
  have hokt : ∀ c ∈ xs.take k, c.ok := fun c hc => hok c (List.mem_of_mem_take hc)
  have hsk := sok_st sok0 hokt
  generalize hS : stAt sta0 (xs.take k) = S at hsk
  have hpl := play_len sok0 hokt
  have htk : (xs.take k).length = k := by rw [List.length_take]; omega
  generalize hpre : (xs.take k).flatMap Cal.flat = pre
  refine ⟨_, _, xt_B (xe_meth (Ca := [(x, cR K Cd ns pre.length)]) (Ca' := [(x, cR K Cd ns pre.length)]) (Cb := (p, cL ((playM sta0 (xs.take k)).map PyData.int)) :: Cg g t1 t2 S) (k := pre.length) (xe_v 2 rfl) (List.mem_cons_of_mem _ List.mem_cons_self) (fun _ => rfl) (List.Perm.swap _ _ _) (List.Perm.swap _ _ _) (s := bo (decide ((pre.length : Int) < (ns.length : Nat)))) ⟨x, ns, pre.length, rfl, rfl, rfl, rfl⟩), fun q => ?_, fun q => ?_⟩
  · have q' : (pre.length : Int) < (ns.length : Nat) := of_decide_eq_true q
    have hlt : k < xs.length := by
      refine Nat.lt_of_le_of_ne hk fun e => ?_
      have : pre = ns := by rw [← hpre, ← hns, e, List.take_length]
      rw [this] at q'
      omega
    obtain ⟨c, hc⟩ : ∃ c, xs[k]? = some c := ⟨_, List.getElem?_eq_getElem hlt⟩
    have hcok : c.ok := hok c (List.mem_of_getElem? hc)
    obtain ⟨ca1, ca2⟩ := call_at hc
    rw [hpre, hns] at ca1
    rw [hpre] at ca2
    generalize (xs.drop (k + 1)).flatMap Cal.flat = post at ca1
    rw [flat_eq] at ca1 ca2
    have e0 : ns[pre.length]? = some c.p := by
      rw [ca1, List.append_assoc, List.getElem?_append_right (Nat.le_refl _), Nat.sub_self]; rfl
    have e1 : ns = (pre ++ [c.p]) ++ rw1 c.ns ++ (((c.rows.length : Int) :: c.rows.flatMap rw1) ++ post) := by rw [ca1]; simp
    have n1 : (pre ++ [c.p]).length = pre.length + 1 := by simp
    have e2 : ns[(pre ++ [c.p]).length + 1 + c.ns.length]? = some ((c.rows.length : Nat) : Int) := by
      rw [e1, List.getElem?_append_right (by rw [List.length_append]; unfold rw1; rw [List.length_cons]; omega)]
      have : (pre ++ [c.p]).length + 1 + c.ns.length - (pre ++ [c.p] ++ rw1 c.ns).length = 0 := by rw [List.length_append (as := pre ++ [c.p])]; unfold rw1; rw [List.length_cons]; omega
      rw [this]; rfl
    generalize hA : pre ++ [c.p] ++ rw1 c.ns ++ [((c.rows.length : Nat) : Int)] = A0
    have e3 : ns = A0 ++ c.rows.flatMap rw1 ++ post := by rw [e1, ← hA]; simp
    have nA : A0.length = (pre ++ [c.p]).length + 1 + c.ns.length + 1 := by rw [← hA]; unfold rw1; simp; omega
    have hrl : ∀ l : List (List Int), l.length ≤ (l.flatMap rw1).length := by
      intro l
      induction l with
      | nil => exact Nat.le_refl _
      | cons r l ih => rw [List.flatMap_cons, List.length_append, List.length_cons]; unfold rw1 at ih ⊢; rw [List.length_cons]; omega
    have hrows : c.rows.length ≤ 2000 := by
      have h1 := hrl c.rows
      have h2 := congrArg List.length e3
      rw [List.length_append, List.length_append] at h2
      omega
    have hrow : ∀ r ∈ c.rows, r.length ≤ 1000000 := fun r hr => by
      obtain ⟨j, hj, ej⟩ := List.mem_iff_getElem.1 hr
      have h0 := (rows_at (List.getElem?_eq_some_iff.2 ⟨hj, ej⟩)).1
      have h1 := congrArg List.length h0
      have h2 := congrArg List.length e3
      rw [List.length_append, List.length_append] at h1 h2
      unfold rw1 at h1
      rw [List.length_cons] at h1
      unfold rw1 at h2
      omega
    -- call = reader.take()
    refine wp_set (xe_meth (Ca := [(x, cR K Cd ns pre.length)]) (Ca' := [(x, cR K Cd ns (pre.length + 1))]) (Cb := (p, cL ((playM sta0 (xs.take k)).map PyData.int)) :: Cg g t1 t2 S) (k := pre.length) (xe_v 2 rfl) (List.mem_cons_of_mem _ List.mem_cons_self) (fun _ => rfl) (List.Perm.swap _ _ _) (List.Perm.swap _ _ _) (s := it c.p) ⟨x, ns, pre.length, _, e0, rfl, rfl, rfl, rfl⟩) ?_
    -- numbers = reader.take_row()
    rw [← n1]
    refine wp_set (xe_meth (Ca := [(x, cR K Cd ns (pre ++ [c.p]).length)]) (Ca' := [(x, cR K Cd ns ((pre ++ [c.p]).length + 1 + c.ns.length))]) (Cb := (p, cL ((playM sta0 (xs.take k)).map PyData.int)) :: Cg g t1 t2 S) (k := (pre ++ [c.p]).length) (xe_v 2 rfl) (List.mem_cons_of_mem _ List.mem_cons_self) (fun _ => rfl) (List.Perm.swap _ _ _) (List.Perm.swap _ _ _) (s := dt (inD c.ns)) ⟨x, ns, pre ++ [c.p], c.ns, _, e1, rfl, rfl, rfl, rfl⟩) ?_
    -- rows = []
    refine wp_new fun u nu nu0 => ?_
    -- for number in range(reader.take())
    refine wp_seq (wp_rng (n := c.rows.length) (fun j L C => ∃ o7, L = [some (srS K ns), some (rf g), some (rf x), some (rf p), some (it c.p), some (dt (inD c.ns)), some (rf u), o7, o8] ∧ C = (u, cL ((c.rows.take j).map inD)) :: (p, cL ((playM sta0 (xs.take k)).map PyData.int)) :: (x, cR K Cd ns (A0 ++ (c.rows.take j).flatMap rw1).length) :: Cg g t1 t2 S) (C' := (u, cL []) :: (p, cL ((playM sta0 (xs.take k)).map PyData.int)) :: (x, cR K Cd ns A0.length) :: Cg g t1 t2 S) (xa_cons (xe_meth (Ca := [(x, cR K Cd ns ((pre ++ [c.p]).length + 1 + c.ns.length))]) (Ca' := [(x, cR K Cd ns A0.length)]) (Cb := (u, cL []) :: (p, cL ((playM sta0 (xs.take k)).map PyData.int)) :: Cg g t1 t2 S) (k := (pre ++ [c.p]).length + 1 + c.ns.length) (xe_v 2 rfl) (List.mem_cons_of_mem _ (List.mem_cons_of_mem _ List.mem_cons_self)) (fun _ => rfl) (List.perm_middle (a := (x, cR K Cd ns ((pre ++ [c.p]).length + 1 + c.ns.length))) (l₁ := [(u, cL []), (p, cL ((playM sta0 (xs.take k)).map PyData.int))]) (l₂ := Cg g t1 t2 S)) (List.perm_middle (a := (x, cR K Cd ns A0.length)) (l₁ := [(u, cL []), (p, cL ((playM sta0 (xs.take k)).map PyData.int))]) (l₂ := Cg g t1 t2 S)).symm (s := it ((c.rows.length : Nat) : Int)) ⟨x, ns, _, _, e2, rfl, rfl, rfl, by rw [nA]⟩) xa_nil) (by omega) ⟨o7, rfl, by simp⟩ ?_ ?_)
    · rintro j L C hj ⟨o7, rfl, rfl⟩
      obtain ⟨r, hr⟩ : ∃ r, c.rows[j]? = some r := ⟨_, List.getElem?_eq_getElem hj⟩
      obtain ⟨r1, r2⟩ := rows_at hr
      have e4 : ns = (A0 ++ (c.rows.take j).flatMap rw1) ++ rw1 r ++ ((c.rows.drop (j + 1)).flatMap rw1 ++ post) := by rw [e3, r1]; simp
      refine wp_push [] ((p, cL ((playM sta0 (xs.take k)).map PyData.int)) :: (x, cR K Cd ns ((A0 ++ (c.rows.take j).flatMap rw1).length + 1 + r.length)) :: Cg g t1 t2 S) rfl List.mem_cons_self (d := inD r) (xe_meth (Ca := [(x, cR K Cd ns (A0 ++ (c.rows.take j).flatMap rw1).length)]) (Ca' := [(x, cR K Cd ns ((A0 ++ (c.rows.take j).flatMap rw1).length + 1 + r.length))]) (Cb := (u, cL ((c.rows.take j).map inD)) :: (p, cL ((playM sta0 (xs.take k)).map PyData.int)) :: Cg g t1 t2 S) (k := (A0 ++ (c.rows.take j).flatMap rw1).length) (xe_v 2 rfl) (List.mem_cons_of_mem _ (List.mem_cons_of_mem _ List.mem_cons_self)) (fun _ => rfl) (List.perm_middle (a := (x, cR K Cd ns (A0 ++ (c.rows.take j).flatMap rw1).length)) (l₁ := [(u, cL ((c.rows.take j).map inD)), (p, cL ((playM sta0 (xs.take k)).map PyData.int))]) (l₂ := Cg g t1 t2 S)) (List.perm_middle (a := (x, cR K Cd ns ((A0 ++ (c.rows.take j).flatMap rw1).length + 1 + r.length))) (l₁ := [(u, cL ((c.rows.take j).map inD)), (p, cL ((playM sta0 (xs.take k)).map PyData.int))]) (l₂ := Cg g t1 t2 S)).symm (s := dt (inD r)) ⟨x, ns, _, r, _, e4, rfl, rfl, rfl, rfl⟩) (by rw [List.length_map, List.length_take]; omega) ⟨_, rfl, ?_⟩
      rw [take_more hr, List.map_append, List.flatMap_append]
      have : (A0 ++ ((c.rows.take j).flatMap rw1 ++ [r].flatMap rw1)).length = (A0 ++ (c.rows.take j).flatMap rw1).length + 1 + r.length := by unfold rw1; simp; omega
      rw [this]; rfl
    · rintro L C ⟨o7, rfl, rfl⟩
      rw [List.take_length]
      -- rows come to rest
      refine wp_still (i := 6) [] _ rfl rfl (fun z => nu0 z) ?_
      have ea : (A0 ++ c.rows.flatMap rw1).length = ((xs.take (k + 1)).flatMap Cal.flat).length := by rw [ca2, ← hA]; unfold rw1; simp
      rw [ea]
      -- answer = answer_of(..)
      refine wp_set (x_answer_of (g := g) (s := S) (p := c.p) (ns := c.ns) (rows := c.rows) (Cb := [(p, cL ((playM sta0 (xs.take k)).map PyData.int)), (x, cR K Cd ns ((xs.take (k + 1)).flatMap Cal.flat).length)]) (C2 := (p, cL ((playM sta0 (xs.take k)).map PyData.int)) :: (x, cR K Cd ns ((xs.take (k + 1)).flatMap Cal.flat).length) :: Cg g t1 t2 (stepM S c.p c.ns c.rows).1) (xa_cons (xe_v 1 rfl) (xa_cons (xe_v 4 rfl) (xa_cons (xe_v 5 rfl) (xa_cons (xe_v 6 rfl) xa_nil)))) (List.perm_append_comm (l₁ := [_, _]) (l₂ := Cg g t1 t2 S)) (List.perm_append_comm (l₁ := Cg g t1 t2 _) (l₂ := [_, _])) ⟨hsk, hcok, by omega, hrow⟩) ?_
      have hal := ans_len hsk hcok
      -- told.append(len(answer))
      refine wp_seq (wp_push [] _ rfl List.mem_cons_self (d := .int ((stepM S c.p c.ns c.rows).2.length : Nat)) (xe_cb (xd_cons (xe_v 8 rfl) xd_nil) (vn_lenM (f := PyData.int) (c := (stepM S c.p c.ns c.rows).2))) (by rw [List.length_map]; omega) ?_)
      -- told.extend(answer)
      refine wp_ext [] _ rfl List.mem_cons_self (fs := ((stepM S c.p c.ns c.rows).2).map PyData.int) (xe_v 8 rfl) (by rw [List.length_append, List.length_map, List.length_map]; show _ + 1 + _ ≤ _; omega) ⟨xs.length - (k + 1), by omega, k + 1, hlt, rfl, _, _, _, _, _, rfl, ?_⟩
      have et := take_more hc
      rw [et, play_snoc, st_snoc, hS, ← et, List.map_append]
      simp
  · have q' : ¬ (pre.length : Int) < (ns.length : Nat) := of_decide_eq_false q
    have hk' : k = xs.length := by
      refine Nat.le_antisymm hk (Nat.le_of_not_lt fun hlt => ?_)
      obtain ⟨c, hc⟩ : ∃ c, xs[k]? = some c := ⟨_, List.getElem?_eq_getElem hlt⟩
      obtain ⟨ca1, _⟩ := call_at hc
      rw [hpre, hns, flat_eq] at ca1
      have := congrArg List.length ca1
      rw [List.length_append, List.length_append, List.length_cons] at this
      omega
    subst hk'
    rw [List.take_length] at *
    refine wp_drop [_] _ rfl (fun z => nx0 z) (wp_drop [_] _ rfl (fun z => ng z) (wp_retOwn [] [_, _] rfl rfl np0 ⟨rfl, rfl⟩))
end
end Wk
end
section
set_option Elab.async false
set_option linter.all false
set_option maxRecDepth 100000
namespace Wk
open PySem PySem.Spec PyProof.Rows L2 LamX
open Evl (Ex ex_l ex_t sq_of st_of)
open PySem.W (WData Codec OpenSpec Well WellAll ReadsW)
/-! ### the end -/
/-- tables of the top's defs -/
def TabsOf (q : Program) (K : PySem.W.Frag) (h : Heap) : Prop := ∀ (y : Str) (c t : Addr), ((recsOf q).find? (fun e => e.name == y)).isSome = true → PySem.W.tabIn K y = some (c, t) → PySem.W.CodeHd h c t ∧ h.get? t = some { cls := .none, data := .fields #[] }
theorem walk_specT {r : OpenSpec} {k : Nat} {q : Program} {loose : List Str} {XP : (Str → Option Value) → Heap → Prop} {YP : World → Heap → Prop} {d : DefRec} {K : Params → PySem.W.Frag} {x : Str} {good : List Int → Prop} {due : List Int → WData}
    (hwell : r.wellSaid = true) (hr : Room k callerA) (hY : ∀ (w : World) (h : Heap), YP w h → (K w.params).In h)
    (F : ∀ (w : World) (mg : Str → Option Value) (fa : Addr) (h : Heap), YP w h → (K w.params).In h → h.Ns mainGlobals mg → mg d.name = some (.ref fa) → TabsOf q (K w.params) h → SpecAt r w (K w.params) CX0 k x mg fa h good due)
    (hreq : ∀ a : Codec.denoteAll r.args, Codec.withinAll r.args a = true → Codec.app r.args r.asked a = true → ∃ ns : List Int, Codec.encAll r.args a = [.list (ns.map WData.int)] ∧ ns.length ≤ sizeLine ∧ good ns ∧ due ns = r.ret.enc (Codec.app r.args r.f a)) :
    PySem.W.WalkOS q loose XP YP r d [] (fun f vs => PySem.call f vs) := by
  intro w s₀ s₁ mg mb G Y fa o pm cd doc dV kV ho hd hcd hD hmg hg args vals as hpre hlay hrd hwl hlo
  obtain ⟨a, e1, e2⟩ := PySem.W.os_pre_some hpre
  obtain ⟨e3, hwi⟩ := Codec.encAll_of_decAll r.args args a e1
  subst e3
  obtain ⟨ns, hen, hlen, hgood, hdue⟩ := hreq a hwi e2
  have KX := hY w _ Y
  have tabs : TabsOf q (K w.params) s₁.heap := fun y c t hf ht => by
    obtain ⟨dd, hdd⟩ := Option.isSome_iff_exists.1 hf
    exact PySem.W.tab_of G.T KX hdd ht
  obtain ⟨fd, cs, sp, hT, nT, C, hb, hsp, hF⟩ := F w mg fa _ Y KX G.T.g hmg tabs
  have hwl2 := hwl
  rw [hen] at hwl2
  obtain ⟨v, vs', rfl, w1, w2⟩ := well_cons hwl2
  cases w2
  obtain ⟨l, vs, rfl, hob, hall⟩ := well_list w1
  have hi := Att.ints_of_wellAll ns vs hall
  refine PySem.W.enter_call (codeAny_mono (spec_callT (R := []) (cl := classAt s₀.heap) (d0 := due ns) KX G.T.g G.T.b G.T.builtins G.T.nolimit hg hT nT C G.T.bmain hob hi hlen hr hF hb (fun H hH hS => hsp H l ns hgood hH hS) fun H e s' z => z) fun r' s' hq => ?_)
  obtain ⟨u, as', rfl, h1, h2, h3, h4⟩ := hq
  rw [hdue] at h1
  exact ⟨.inl ⟨u, _, as', rfl, fun _ => rfl, h1, (OpenSpec.post_iff hwell hwi _ _).mpr rfl, fun z => Bool.noConfusion (show false = true from z)⟩, h2, h3, h4⟩
/-! ### answers, at the head's heap -/
def goodL (ns : List Int) : Prop := PyGk02.answers_asked ns = true ∧ ns.length ≤ 1848
def dueL (ns : List Int) : WData := .list ((PyGk02.answers ns).map WData.int)
theorem rp_dw {K : PySem.W.Frag} {G H : Hp} {v : V} {l : List Int} (h : Rp G v (inD l)) (e : Ex G H) : Dw K H v (.list (l.map WData.int)) := by
  obtain ⟨a, xs, rfl, ha, hx⟩ := Rp.list h
  have := hx.ints
  subst this
  exact .lst (sq_of (e _ _ ha)) (dw_ints _)
theorem spec_promise {K : PySem.W.Frag} {H : Hp} {a t1 t2 : Addr} {ns : List Int} (hne : t1 ≠ t2) (hg : goodL ns) (h1 : H t1 = some (.tbl #[])) (h2 : H t2 = some (.tbl #[])) (hs : SqL K H a (ns.map V.int)) :
    spF (R_answers K t1 t2) [.ref a] H (fun v H' => Dw K H' v (dueL ns)) fun _ _ _ => False := by
  obtain ⟨xs, el, h12, hok, ea⟩ := asked_of hg.1
  have hG : ∀ b o, (if b = t1 ∨ b = t2 then none else H b) = some o → H b = some o := fun b o e => by
    split at e
    · cases e
    · exact e
  have keep : ∀ {b : Addr} {o : HO}, H b = some o → (∀ ps, o ≠ .tbl ps) → (if b = t1 ∨ b = t2 then none else H b) = some o := fun {b o} e n => by
    rw [if_neg]
    · exact e
    · rintro (z | z)
      · rw [z, h1] at e
        exact n _ (Option.some.inj e).symm
      · rw [z, h2] at e
        exact n _ (Option.some.inj e).symm
  have tab : ∀ q : Str, (cT q).p (fun b => if b = t1 ∨ b = t2 then none else H b) (.tbl #[]) := fun q => ⟨#[], rfl, trivial, fun pos cv hc => by
    have z : codeAmong pos [] = some cv := hc
    simp [codeAmong] at z⟩
  refine ⟨fun b => if b = t1 ∨ b = t2 then none else H b, [srS K (xs.flatMap Cal.flat)], [(t1, cT qFb), (t2, cT qIo)], dt (inD (playM sta0 xs)), [(t1, cT qFb), (t2, cT qIo)], hG, ⟨?_, fun b c hb => ?_⟩, .cons ⟨a, rfl, ?_⟩ .nil, ⟨xs, h12, by rw [← el]; have := hg.2; omega, hok, rfl, rfl, rfl, rfl⟩, fun v G' H' tr hv => ?_⟩
  · simpa using hne
  · rcases List.mem_cons.1 hb with e | hb
    · cases e
      exact ⟨_, h1, tab _, if_pos (.inl rfl)⟩
    · have e : (b, c) = (t2, cT qIo) := by simpa using hb
      cases e
      exact ⟨_, h2, tab _, if_pos (.inr rfl)⟩
  · rw [← el]
    rcases hs with (h | ⟨o, h⟩) | h
    · exact .inl (.inl (keep h fun ps z => by cases z))
    · exact .inl (.inr ⟨o, keep h fun ps z => by cases z⟩)
    · exact .inr h
  · show Dw K H' v (.list ((PyGk02.answers ns).map WData.int))
    rw [ea]
    exact rp_dw hv tr.dn
/-- a def, from what the head has written -/
theorem df_mk {K : PySem.W.Frag} {h : Heap} {mg : Str → Option Value} (X : K.In h) (G : h.Ns mainGlobals mg) {x : Str} {st : Stmt} {ps : List Str} {f : Addr} {oc : Value} {od an : Option Addr} {osl : Array (Option Value)} {kV doc pm cdv ct : Value}
    (a : PySem.W.nsIn K mainGlobals x = some (some (.ref f))) (l : K.lookup f = some ⟨oc, od, .func (PySem.W.fnOf x x (defArgs st) (defBody st) (defScope st) .none kV doc pm an cdv ct), osl⟩) (c : PySem.W.codeIn K cdv x = true) (kp : PySem.W.keepIn K (.ref f) = true)
    (b : ∀ (kV doc pm : Value) (an : Option Addr) (cdv ct : Value) (us : List Value), us.length = ps.length → bindArgs (PySem.W.fnOf x x (defArgs st) (defBody st) (defScope st) .none kV doc pm an cdv ct) ⟨us, []⟩ = pure (ps.zip us)) : Df K mg x st ps :=
  ⟨f, _, fun_mk l c kp, (fun_mk l c kp).binds b, PySem.W.mg_of X G a⟩
theorem dfT_mk {K : PySem.W.Frag} {h : Heap} {mg : Str → Option Value} (X : K.In h) (G : h.Ns mainGlobals mg) {x : Str} {st : Stmt} {ps : List Str} {f co : Addr} {oc : Value} {od an : Option Addr} {osl : Array (Option Value)} {kV doc pm ct : Value}
    (a : PySem.W.nsIn K mainGlobals x = some (some (.ref f))) (l : K.lookup f = some ⟨oc, od, .func (PySem.W.fnOf x x (defArgs st) (defBody st) (defScope st) .none kV doc pm an (.ref co) ct), osl⟩) (c : PySem.W.codeIn K (.ref co) x = true) (kp : PySem.W.keepIn K (.ref f) = true)
    (b : ∀ (kV doc pm : Value) (an : Option Addr) (cdv ct : Value) (us : List Value), us.length = ps.length → bindArgs (PySem.W.fnOf x x (defArgs st) (defBody st) (defScope st) .none kV doc pm an cdv ct) ⟨us, []⟩ = pure (ps.zip us)) : DfT K mg x st ps co :=
  ⟨f, oc, od, kV, doc, pm, an, ct, osl, l, c, kp, (fun_mk l c kp).binds b, PySem.W.mg_of X G a⟩
theorem ct_mk {K : PySem.W.Frag} {h : Heap} {mg : Str → Option Value} (X : K.In h) (G : h.Ns mainGlobals mg) {x : Str} {n : Int} {t : Tok} (a : PySem.W.nsIn K mainGlobals x = some (some (.int n t))) : Ct mg x n := ⟨t, PySem.W.mg_of X G a⟩
/-- all together -/
theorem spec_at {r : OpenSpec} {w : World} {K : PySem.W.Frag} {mg : Str → Option Value} {h : Heap} {fa c1 t1 c2 t2 Cd fi fh ft fr : Addr} {di dh dn dr : FuncData} {q : Program} (tabs : TabsOf q K h) (hfa : mg "answers" = some (.ref fa)) (T : Tx K mg)
    (d1 : DfT K mg "first_beginning" (topS 34) ["ring", "scale"] c1) (d2 : DfT K mg "in_order" (topS 33) ["rings"] c2) (D : Trd K mg Cd fi fh ft fr di dh dn dr)
    (r1 : ((recsOf q).find? (fun e => e.name == ("first_beginning" : Str))).isSome = true) (r2 : ((recsOf q).find? (fun e => e.name == ("in_order" : Str))).isSome = true)
    (e1 : PySem.W.tabIn K "first_beginning" = some (c1, t1)) (e2 : PySem.W.tabIn K "in_order" = some (c2, t2)) (n1 : K.lookup t1 = none) (n2 : K.lookup t2 = none) (hne : t1 ≠ t2) :
    SpecAt r w K CX0 10 "calls" mg fa h goodL dueL := by
  obtain ⟨f, fd, F, b, m⟩ := T.d_answers
  have e := hfa.symm.trans m
  cases e
  have x1 := tabs _ _ _ r1 e1
  have x2 := tabs _ _ _ r2 e2
  have two : ∀ {R : Addr × Addr → Prop}, R (c1, t1) → R (c2, t2) → ∀ p ∈ [(c1, t1), (c2, t2)], R p := fun {R} h1 h2 p hp => by
    rcases List.mem_cons.1 hp with rfl | hp
    · exact h1
    · have : p = (c2, t2) := by simpa using hp
      rw [this]; exact h2
  refine ⟨fd, [(c1, t1), (c2, t2)], spF (R_answers K t1 t2), two x1.2 x2.2, two n1 n2, two x1.1 x2.1, ?_, fun H a ns hg hH hs => ?_, fun base _ _ TB => ?_⟩
  · obtain ⟨oc, od, kV, doc, pm, an, cdv, ct, osl, rfl, _, _⟩ := F.ex
    exact fun s us hu => match us, hu with
      | [_], _ => .of_eq rfl
  · exact spec_promise hne hg (hH (c1, t1) List.mem_cons_self) (hH (c2, t2) (List.mem_cons_of_mem _ List.mem_cons_self)) hs
  · exact fn_answers T ⟨d1, d2, TB (c1, t1) List.mem_cons_self, TB (c2, t2) (List.mem_cons_of_mem _ List.mem_cons_self)⟩ D F
/-- the class, from what the head has written -/
theorem trd_mk {K : PySem.W.Frag} {h : Heap} {mg : Str → Option Value} (X : K.In h) (G : h.Ns mainGlobals mg) {Cd fi fh ft fr : Addr} {odi ani : Option Addr} {sli : Array (Option Value)} {oci kVi dci pmi cdi cti : Value} {odh anh : Option Addr} {slh : Array (Option Value)} {och kVh dch pmh cdh cth : Value} {odt ant : Option Addr} {slt : Array (Option Value)} {oct kVt dct pmt cdt ctt : Value} {odr anr : Option Addr} {slr : Array (Option Value)} {ocr kVr dcr pmr cdr ctr : Value}
    (aC : PySem.W.nsIn K mainGlobals "Reader" = some (some (.ref Cd))) (pg : PySem.W.plainGet K Cd Str.empty = true) (hd : PySem.W.hasDictIn K Cd = true) (po : PySem.W.plainOver K Cd = true) (sa : PySem.W.findIn K (.ref Cd) "__setattr__" = some (some (.builtin "object.__setattr__"))) (mk : PySem.W.makesIn K Cd = true) (kc : PySem.W.keepIn K (.ref Cd) = true)
    (ai : PySem.W.findIn K (.ref Cd) "__init__" = some (some (.ref fi))) (ii : PySem.W.isFn K (.ref fi) = true) (li : K.lookup fi = some ⟨oci, odi, .func (PySem.W.fnOf "__init__" "Reader.__init__" (defArgs (rdS 0)) (defBody (rdS 0)) (defScope (rdS 0)) .none kVi dci pmi ani cdi cti), sli⟩) (ci : PySem.W.codeIn K cdi "Reader.__init__" = true) (ki : PySem.W.keepIn K (.ref fi) = true)
    (ah : PySem.W.findIn K (.ref Cd) "has_more" = some (some (.ref fh))) (ih : PySem.W.isFn K (.ref fh) = true) (lh : K.lookup fh = some ⟨och, odh, .func (PySem.W.fnOf "has_more" "Reader.has_more" (defArgs (rdS 1)) (defBody (rdS 1)) (defScope (rdS 1)) .none kVh dch pmh anh cdh cth), slh⟩) (ch : PySem.W.codeIn K cdh "Reader.has_more" = true) (kh : PySem.W.keepIn K (.ref fh) = true)
    (at' : PySem.W.findIn K (.ref Cd) "take" = some (some (.ref ft))) (it' : PySem.W.isFn K (.ref ft) = true) (lt : K.lookup ft = some ⟨oct, odt, .func (PySem.W.fnOf "take" "Reader.take" (defArgs (rdS 2)) (defBody (rdS 2)) (defScope (rdS 2)) .none kVt dct pmt ant cdt ctt), slt⟩) (ct' : PySem.W.codeIn K cdt "Reader.take" = true) (kt : PySem.W.keepIn K (.ref ft) = true)
    (ar : PySem.W.findIn K (.ref Cd) "take_row" = some (some (.ref fr))) (ir : PySem.W.isFn K (.ref fr) = true) (lr : K.lookup fr = some ⟨ocr, odr, .func (PySem.W.fnOf "take_row" "Reader.take_row" (defArgs (rdS 3)) (defBody (rdS 3)) (defScope (rdS 3)) .none kVr dcr pmr anr cdr ctr), slr⟩) (cr : PySem.W.codeIn K cdr "Reader.take_row" = true) (kr : PySem.W.keepIn K (.ref fr) = true)
    (n1 : PySem.W.findIn K (.ref Cd) "numbers" = some none) (n2 : PySem.W.findIn K (.ref Cd) "position" = some none) :
    Trd K mg Cd fi fh ft fr (PySem.W.fnOf "__init__" "Reader.__init__" (defArgs (rdS 0)) (defBody (rdS 0)) (defScope (rdS 0)) .none kVi dci pmi ani cdi cti) (PySem.W.fnOf "has_more" "Reader.has_more" (defArgs (rdS 1)) (defBody (rdS 1)) (defScope (rdS 1)) .none kVh dch pmh anh cdh cth) (PySem.W.fnOf "take" "Reader.take" (defArgs (rdS 2)) (defBody (rdS 2)) (defScope (rdS 2)) .none kVt dct pmt ant cdt ctt) (PySem.W.fnOf "take_row" "Reader.take_row" (defArgs (rdS 3)) (defBody (rdS 3)) (defScope (rdS 3)) .none kVr dcr pmr anr cdr ctr) :=
  ⟨⟨pg, hd, po, sa⟩, n1, n2, ⟨mk, ai, ii, kc⟩, PySem.W.mg_of X G aC, ⟨ah, ih, kh⟩, ⟨at', it', kt⟩, ⟨ar, ir, kr⟩, fun_mk li ci ki, fun_mk lh ch kh, fun_mk lt ct' kt, fun_mk lr cr kr, (fun_mk li ci ki).binds fun _ _ _ _ _ _ us hl => match us, hl with | [_, _], _ => rfl, (fun_mk lh ch kh).binds fun _ _ _ _ _ _ us hl => match us, hl with | [_], _ => rfl, (fun_mk lt ct' kt).binds fun _ _ _ _ _ _ us hl => match us, hl with | [_], _ => rfl, (fun_mk lr cr kr).binds fun _ _ _ _ _ _ us hl => match us, hl with | [_], _ => rfl⟩
/-- a def's table -/
def tabOf (K : PySem.W.Frag) (x : Str) : Addr := ((PySem.W.tabIn K x).map Prod.snd).getD 0
theorem tabOf_at {K : PySem.W.Frag} {x : Str} {c : Addr} (h : (PySem.W.tabIn K x).map Prod.fst = some c) : PySem.W.tabIn K x = some (c, tabOf K x) := by
  unfold tabOf
  cases e : PySem.W.tabIn K x with
  | none => rw [e] at h; cases h
  | some p =>
    rw [e] at h
    cases h
    rfl
/-- the same, the written part told first -/
theorem fin_at {r : OpenSpec} {w : World} {K : PySem.W.Frag} {mg : Str → Option Value} {h : Heap} {fa c1 c2 Cd fi fh ft fr : Addr} {di dh dn dr : FuncData} {q : Program} (_ : K.In h) (_ : h.Ns mainGlobals mg) (tabs : TabsOf q K h) (hfa : mg "answers" = some (.ref fa)) (T : Tx K mg)
    (d1 : DfT K mg "first_beginning" (topS 34) ["ring", "scale"] c1) (d2 : DfT K mg "in_order" (topS 33) ["rings"] c2) (D : Trd K mg Cd fi fh ft fr di dh dn dr)
    (r1 : ((recsOf q).find? (fun e => e.name == ("first_beginning" : Str))).isSome = true) (r2 : ((recsOf q).find? (fun e => e.name == ("in_order" : Str))).isSome = true)
    (e1 : (PySem.W.tabIn K "first_beginning").map Prod.fst = some c1) (e2 : (PySem.W.tabIn K "in_order").map Prod.fst = some c2) (n1 : K.lookup (tabOf K "first_beginning") = none) (n2 : K.lookup (tabOf K "in_order") = none) (hne : (tabOf K "first_beginning" == tabOf K "in_order") = false) :
    SpecAt r w K CX0 10 "calls" mg fa h goodL dueL := spec_at tabs hfa T d1 d2 D r1 r2 (tabOf_at e1) (tabOf_at e2) n1 n2 (by simpa using hne)
end Wk
end
set_option Elab.async false
open PySem PySem.W PyProof.Rows
set_option maxRecDepth 100000 in
set_option maxHeartbeats 0 in
theorem PySem.Challenge.cw_holedregions_s01_answers_holds : PySem.Challenge.rw_holedregions_s01_answers.Holds := by
  w_on; k_headS; (case hw => exact ⟨[.list [.int 3, .int 1, .int 0, .int 0]], by decide +kernel, by decide +kernel⟩)
  k_fillS
  refine Wk.walk_specT (r := PySem.Challenge.rw_holedregions_s01_answers) (k := 10) (x := "calls") (good := Wk.goodL) (due := Wk.dueL) (by decide +kernel) ⟨rfl, by decide, by decide⟩ (fun w h Y => PySem.W.kIn_of Y) ?F ?S
  case F =>
    intro w mg fa h Y KX G hmg tabs
    refine' Wk.fin_at KX G tabs hmg ?T ?d1 ?d2 ?D ?r1 ?r2 ?e1 ?e2 ?n1 ?n2 ?hne
    (case T =>
      constructor
      (case d_common_factor => (refine' Wk.df_mk KX G ?a ?l ?c ?k ?b; (case a => k_is); (case l => k_is); (case c => k_is); (case k => k_is); (case b => exact fun _ _ _ _ _ _ us hl => match us, hl with | [_, _], _ => rfl)))
      (case d_place => (refine' Wk.df_mk KX G ?a ?l ?c ?k ?b; (case a => k_is); (case l => k_is); (case c => k_is); (case k => k_is); (case b => exact fun _ _ _ _ _ _ us hl => match us, hl with | [_, _, _], _ => rfl)))
      (case d_fraction => (refine' Wk.df_mk KX G ?a ?l ?c ?k ?b; (case a => k_is); (case l => k_is); (case c => k_is); (case k => k_is); (case b => exact fun _ _ _ _ _ _ us hl => match us, hl with | [_, _], _ => rfl)))
      (case d_moved => (refine' Wk.df_mk KX G ?a ?l ?c ?k ?b; (case a => k_is); (case l => k_is); (case c => k_is); (case k => k_is); (case b => exact fun _ _ _ _ _ _ us hl => match us, hl with | [_, _], _ => rfl)))
      (case d_before => (refine' Wk.df_mk KX G ?a ?l ?c ?k ?b; (case a => k_is); (case l => k_is); (case c => k_is); (case k => k_is); (case b => exact fun _ _ _ _ _ _ us hl => match us, hl with | [_, _], _ => rfl)))
      (case d_middle => (refine' Wk.df_mk KX G ?a ?l ?c ?k ?b; (case a => k_is); (case l => k_is); (case c => k_is); (case k => k_is); (case b => exact fun _ _ _ _ _ _ us hl => match us, hl with | [_, _], _ => rfl)))
      (case d_cross_product => (refine' Wk.df_mk KX G ?a ?l ?c ?k ?b; (case a => k_is); (case l => k_is); (case c => k_is); (case k => k_is); (case b => exact fun _ _ _ _ _ _ us hl => match us, hl with | [_, _], _ => rfl)))
      (case d_line_through => (refine' Wk.df_mk KX G ?a ?l ?c ?k ?b; (case a => k_is); (case l => k_is); (case c => k_is); (case k => k_is); (case b => exact fun _ _ _ _ _ _ us hl => match us, hl with | [_, _], _ => rfl)))
      (case d_meeting => (refine' Wk.df_mk KX G ?a ?l ?c ?k ?b; (case a => k_is); (case l => k_is); (case c => k_is); (case k => k_is); (case b => exact fun _ _ _ _ _ _ us hl => match us, hl with | [_, _], _ => rfl)))
      (case d_leftness => (refine' Wk.df_mk KX G ?a ?l ?c ?k ?b; (case a => k_is); (case l => k_is); (case c => k_is); (case k => k_is); (case b => exact fun _ _ _ _ _ _ us hl => match us, hl with | [_, _], _ => rfl)))
      (case d_side_between => (refine' Wk.df_mk KX G ?a ?l ?c ?k ?b; (case a => k_is); (case l => k_is); (case c => k_is); (case k => k_is); (case b => exact fun _ _ _ _ _ _ us hl => match us, hl with | [_, _], _ => rfl)))
      (case d_sides_of => (refine' Wk.df_mk KX G ?a ?l ?c ?k ?b; (case a => k_is); (case l => k_is); (case c => k_is); (case k => k_is); (case b => exact fun _ _ _ _ _ _ us hl => match us, hl with | [_], _ => rfl)))
      (case d_is_on => (refine' Wk.df_mk KX G ?a ?l ?c ?k ?b; (case a => k_is); (case l => k_is); (case c => k_is); (case k => k_is); (case b => exact fun _ _ _ _ _ _ us hl => match us, hl with | [_, _], _ => rfl)))
      (case d_add_cut => (refine' Wk.df_mk KX G ?a ?l ?c ?k ?b; (case a => k_is); (case l => k_is); (case c => k_is); (case k => k_is); (case b => exact fun _ _ _ _ _ _ us hl => match us, hl with | [_, _], _ => rfl)))
      (case d_cut_two => (refine' Wk.df_mk KX G ?a ?l ?c ?k ?b; (case a => k_is); (case l => k_is); (case c => k_is); (case k => k_is); (case b => exact fun _ _ _ _ _ _ us hl => match us, hl with | [_, _, _, _], _ => rfl)))
      (case d_add_ends => (refine' Wk.df_mk KX G ?a ?l ?c ?k ?b; (case a => k_is); (case l => k_is); (case c => k_is); (case k => k_is); (case b => exact fun _ _ _ _ _ _ us hl => match us, hl with | [_, _, _, _], _ => rfl)))
      (case d_stretches => (refine' Wk.df_mk KX G ?a ?l ?c ?k ?b; (case a => k_is); (case l => k_is); (case c => k_is); (case k => k_is); (case b => exact fun _ _ _ _ _ _ us hl => match us, hl with | [_], _ => rfl)))
      (case d_beside => (refine' Wk.df_mk KX G ?a ?l ?c ?k ?b; (case a => k_is); (case l => k_is); (case c => k_is); (case k => k_is); (case b => exact fun _ _ _ _ _ _ us hl => match us, hl with | [_, _], _ => rfl)))
      (case d_is_in => (refine' Wk.df_mk KX G ?a ?l ?c ?k ?b; (case a => k_is); (case l => k_is); (case c => k_is); (case k => k_is); (case b => exact fun _ _ _ _ _ _ us hl => match us, hl with | [_, _, _], _ => rfl)))
      (case d_border => (refine' Wk.df_mk KX G ?a ?l ?c ?k ?b; (case a => k_is); (case l => k_is); (case c => k_is); (case k => k_is); (case b => exact fun _ _ _ _ _ _ us hl => match us, hl with | [_, _, _], _ => rfl)))
      (case d_rings_of => (refine' Wk.df_mk KX G ?a ?l ?c ?k ?b; (case a => k_is); (case l => k_is); (case c => k_is); (case k => k_is); (case b => exact fun _ _ _ _ _ _ us hl => match us, hl with | [_], _ => rfl)))
      (case d_ways_on => (refine' Wk.df_mk KX G ?a ?l ?c ?k ?b; (case a => k_is); (case l => k_is); (case c => k_is); (case k => k_is); (case b => exact fun _ _ _ _ _ _ us hl => match us, hl with | [_], _ => rfl)))
      (case d_ring_from => (refine' Wk.df_mk KX G ?a ?l ?c ?k ?b; (case a => k_is); (case l => k_is); (case c => k_is); (case k => k_is); (case b => exact fun _ _ _ _ _ _ us hl => match us, hl with | [_, _, _], _ => rfl)))
      (case d_way_on => (refine' Wk.df_mk KX G ?a ?l ?c ?k ?b; (case a => k_is); (case l => k_is); (case c => k_is); (case k => k_is); (case b => exact fun _ _ _ _ _ _ us hl => match us, hl with | [_, _], _ => rfl)))
      (case d_is_met_first => (refine' Wk.df_mk KX G ?a ?l ?c ?k ?b; (case a => k_is); (case l => k_is); (case c => k_is); (case k => k_is); (case b => exact fun _ _ _ _ _ _ us hl => match us, hl with | [_, _, _], _ => rfl)))
      (case d_corners => (refine' Wk.df_mk KX G ?a ?l ?c ?k ?b; (case a => k_is); (case l => k_is); (case c => k_is); (case k => k_is); (case b => exact fun _ _ _ _ _ _ us hl => match us, hl with | [_], _ => rfl)))
      (case d_in_order => (refine' Wk.df_mk KX G ?a ?l ?c ?k ?b; (case a => k_is); (case l => k_is); (case c => k_is); (case k => k_is); (case b => exact fun _ _ _ _ _ _ us hl => match us, hl with | [_], _ => rfl)))
      (case d_first_beginning => (refine' Wk.df_mk KX G ?a ?l ?c ?k ?b; (case a => k_is); (case l => k_is); (case c => k_is); (case k => k_is); (case b => exact fun _ _ _ _ _ _ us hl => match us, hl with | [_, _], _ => rfl)))
      (case d_common_multiple => (refine' Wk.df_mk KX G ?a ?l ?c ?k ?b; (case a => k_is); (case l => k_is); (case c => k_is); (case k => k_is); (case b => exact fun _ _ _ _ _ _ us hl => match us, hl with | [_], _ => rfl)))
      (case d_scaled => (refine' Wk.df_mk KX G ?a ?l ?c ?k ?b; (case a => k_is); (case l => k_is); (case c => k_is); (case k => k_is); (case b => exact fun _ _ _ _ _ _ us hl => match us, hl with | [_, _], _ => rfl)))
      (case d_piece_count => (refine' Wk.df_mk KX G ?a ?l ?c ?k ?b; (case a => k_is); (case l => k_is); (case c => k_is); (case k => k_is); (case b => exact fun _ _ _ _ _ _ us hl => match us, hl with | [_], _ => rfl)))
      (case d_area_of => (refine' Wk.df_mk KX G ?a ?l ?c ?k ?b; (case a => k_is); (case l => k_is); (case c => k_is); (case k => k_is); (case b => exact fun _ _ _ _ _ _ us hl => match us, hl with | [_], _ => rfl)))
      (case d_doubled_areas => (refine' Wk.df_mk KX G ?a ?l ?c ?k ?b; (case a => k_is); (case l => k_is); (case c => k_is); (case k => k_is); (case b => exact fun _ _ _ _ _ _ us hl => match us, hl with | [_, _], _ => rfl)))
      (case d_doubled_area => (refine' Wk.df_mk KX G ?a ?l ?c ?k ?b; (case a => k_is); (case l => k_is); (case c => k_is); (case k => k_is); (case b => exact fun _ _ _ _ _ _ us hl => match us, hl with | [_], _ => rfl)))
      (case d_whereabouts => (refine' Wk.df_mk KX G ?a ?l ?c ?k ?b; (case a => k_is); (case l => k_is); (case c => k_is); (case k => k_is); (case b => exact fun _ _ _ _ _ _ us hl => match us, hl with | [_, _], _ => rfl)))
      (case d_is_within => (refine' Wk.df_mk KX G ?a ?l ?c ?k ?b; (case a => k_is); (case l => k_is); (case c => k_is); (case k => k_is); (case b => exact fun _ _ _ _ _ _ us hl => match us, hl with | [_, _], _ => rfl)))
      (case d_are_apart => (refine' Wk.df_mk KX G ?a ?l ?c ?k ?b; (case a => k_is); (case l => k_is); (case c => k_is); (case k => k_is); (case b => exact fun _ _ _ _ _ _ us hl => match us, hl with | [_, _], _ => rfl)))
      (case d_answers => (refine' Wk.df_mk KX G ?a ?l ?c ?k ?b; (case a => k_is); (case l => k_is); (case c => k_is); (case k => k_is); (case b => exact fun _ _ _ _ _ _ us hl => match us, hl with | [_], _ => rfl)))
      (case d_answer_of => (refine' Wk.df_mk KX G ?a ?l ?c ?k ?b; (case a => k_is); (case l => k_is); (case c => k_is); (case k => k_is); (case b => exact fun _ _ _ _ _ _ us hl => match us, hl with | [_, _, _, _], _ => rfl)))
      (case d_answer_rings => (refine' Wk.df_mk KX G ?a ?l ?c ?k ?b; (case a => k_is); (case l => k_is); (case c => k_is); (case k => k_is); (case b => exact fun _ _ _ _ _ _ us hl => match us, hl with | [_, _, _], _ => rfl)))
      (case d_answer_put => (refine' Wk.df_mk KX G ?a ?l ?c ?k ?b; (case a => k_is); (case l => k_is); (case c => k_is); (case k => k_is); (case b => exact fun _ _ _ _ _ _ us hl => match us, hl with | [_, _, _, _, _], _ => rfl)))
      (case d_answer_move => (refine' Wk.df_mk KX G ?a ?l ?c ?k ?b; (case a => k_is); (case l => k_is); (case c => k_is); (case k => k_is); (case b => exact fun _ _ _ _ _ _ us hl => match us, hl with | [_, _, _, _], _ => rfl)))
      (case d_moved_ring => (refine' Wk.df_mk KX G ?a ?l ?c ?k ?b; (case a => k_is); (case l => k_is); (case c => k_is); (case k => k_is); (case b => exact fun _ _ _ _ _ _ us hl => match us, hl with | [_, _], _ => rfl)))
      (case d_answer_tells => (refine' Wk.df_mk KX G ?a ?l ?c ?k ?b; (case a => k_is); (case l => k_is); (case c => k_is); (case k => k_is); (case b => exact fun _ _ _ _ _ _ us hl => match us, hl with | [_, _], _ => rfl)))
      (case d_answer_area => (refine' Wk.df_mk KX G ?a ?l ?c ?k ?b; (case a => k_is); (case l => k_is); (case c => k_is); (case k => k_is); (case b => exact fun _ _ _ _ _ _ us hl => match us, hl with | [_, _], _ => rfl)))
      (case d_answer_where => (refine' Wk.df_mk KX G ?a ?l ?c ?k ?b; (case a => k_is); (case l => k_is); (case c => k_is); (case k => k_is); (case b => exact fun _ _ _ _ _ _ us hl => match us, hl with | [_, _, _], _ => rfl)))
      (case d_answer_compare => (refine' Wk.df_mk KX G ?a ?l ?c ?k ?b; (case a => k_is); (case l => k_is); (case c => k_is); (case k => k_is); (case b => exact fun _ _ _ _ _ _ us hl => match us, hl with | [_, _, _], _ => rfl)))
      (case d_told_place => (refine' Wk.df_mk KX G ?a ?l ?c ?k ?b; (case a => k_is); (case l => k_is); (case c => k_is); (case k => k_is); (case b => exact fun _ _ _ _ _ _ us hl => match us, hl with | [_], _ => rfl)))
      (case d_whole_places => (refine' Wk.df_mk KX G ?a ?l ?c ?k ?b; (case a => k_is); (case l => k_is); (case c => k_is); (case k => k_is); (case b => exact fun _ _ _ _ _ _ us hl => match us, hl with | [_], _ => rfl)))
      (case d_are_rings => (refine' Wk.df_mk KX G ?a ?l ?c ?k ?b; (case a => k_is); (case l => k_is); (case c => k_is); (case k => k_is); (case b => exact fun _ _ _ _ _ _ us hl => match us, hl with | [_], _ => rfl)))
      (case d_is_ring => (refine' Wk.df_mk KX G ?a ?l ?c ?k ?b; (case a => k_is); (case l => k_is); (case c => k_is); (case k => k_is); (case b => exact fun _ _ _ _ _ _ us hl => match us, hl with | [_], _ => rfl)))
      (case d_is_point => (refine' Wk.df_mk KX G ?a ?l ?c ?k ?b; (case a => k_is); (case l => k_is); (case c => k_is); (case k => k_is); (case b => exact fun _ _ _ _ _ _ us hl => match us, hl with | [_], _ => rfl)))
      (case d_is_told_fraction => (refine' Wk.df_mk KX G ?a ?l ?c ?k ?b; (case a => k_is); (case l => k_is); (case c => k_is); (case k => k_is); (case b => exact fun _ _ _ _ _ _ us hl => match us, hl with | [_, _], _ => rfl)))
      (case d_is_beyond => (refine' Wk.df_mk KX G ?a ?l ?c ?k ?b; (case a => k_is); (case l => k_is); (case c => k_is); (case k => k_is); (case b => exact fun _ _ _ _ _ _ us hl => match us, hl with | [_, _], _ => rfl)))
      (case d_keep => (refine' Wk.df_mk KX G ?a ?l ?c ?k ?b; (case a => k_is); (case l => k_is); (case c => k_is); (case k => k_is); (case b => exact fun _ _ _ _ _ _ us hl => match us, hl with | [_, _, _], _ => rfl)))
      (case d_side_count => (refine' Wk.df_mk KX G ?a ?l ?c ?k ?b; (case a => k_is); (case l => k_is); (case c => k_is); (case k => k_is); (case b => exact fun _ _ _ _ _ _ us hl => match us, hl with | [_], _ => rfl)))
      (case d_is_too_large => (refine' Wk.df_mk KX G ?a ?l ?c ?k ?b; (case a => k_is); (case l => k_is); (case c => k_is); (case k => k_is); (case b => exact fun _ _ _ _ _ _ us hl => match us, hl with | [_], _ => rfl)))
      (case c_EITHER => (refine' Wk.ct_mk KX G ?a; (case a => k_is)))
      (case c_BOTH => (refine' Wk.ct_mk KX G ?a; (case a => k_is)))
      (case c_FIRST_ALONE => (refine' Wk.ct_mk KX G ?a; (case a => k_is)))
      (case c_JUST_ONE => (refine' Wk.ct_mk KX G ?a; (case a => k_is)))
      (case c_ELSEWHERE => (refine' Wk.ct_mk KX G ?a; (case a => k_is)))
      (case c_ON_A_SIDE => (refine' Wk.ct_mk KX G ?a; (case a => k_is)))
      (case c_INSIDE => (refine' Wk.ct_mk KX G ?a; (case a => k_is)))
      (case c_RINGS => (refine' Wk.ct_mk KX G ?a; (case a => k_is)))
      (case c_PUT => (refine' Wk.ct_mk KX G ?a; (case a => k_is)))
      (case c_MOVE => (refine' Wk.ct_mk KX G ?a; (case a => k_is)))
      (case c_TELLS => (refine' Wk.ct_mk KX G ?a; (case a => k_is)))
      (case c_AREA => (refine' Wk.ct_mk KX G ?a; (case a => k_is)))
      (case c_WHERE => (refine' Wk.ct_mk KX G ?a; (case a => k_is)))
      (case c_NOT_AS_TOLD => (refine' Wk.ct_mk KX G ?a; (case a => k_is)))
      (case c_TOO_LARGE => (refine' Wk.ct_mk KX G ?a; (case a => k_is)))
      (case c_NO_SUCH_REGION => (refine' Wk.ct_mk KX G ?a; (case a => k_is)))
      (case c_NO_SUCH_POINT => (refine' Wk.ct_mk KX G ?a; (case a => k_is)))
      (case c_REGIONS => (refine' Wk.ct_mk KX G ?a; (case a => k_is)))
      (case c_MOST_RINGS => (refine' Wk.ct_mk KX G ?a; (case a => k_is)))
      (case c_MOST_POINTS => (refine' Wk.ct_mk KX G ?a; (case a => k_is)))
      (case c_FEWEST_RING_POINTS => (refine' Wk.ct_mk KX G ?a; (case a => k_is)))
      (case c_MOST_RING_POINTS => (refine' Wk.ct_mk KX G ?a; (case a => k_is)))
      (case c_MOST_HANDED_OVER => (refine' Wk.ct_mk KX G ?a; (case a => k_is)))
      (case c_MOST_SIDES => (refine' Wk.ct_mk KX G ?a; (case a => k_is)))
      (case c_MOST_IN_FRACTION => (refine' Wk.ct_mk KX G ?a; (case a => k_is)))
      (case c_POINT_NUMBERS => (refine' Wk.ct_mk KX G ?a; (case a => k_is)))
      (case c_MOST_ABOVE => (refine' Wk.ct_mk KX G ?a; (case a => k_is)))
      (case c_MOST_BELOW => (refine' Wk.ct_mk KX G ?a; (case a => k_is)))
      (case m_len => (refine' PySem.W.mg_none_of KX G ?a; (case a => k_is)))
      (case m_range => (refine' PySem.W.mg_none_of KX G ?a; (case a => k_is)))
      (case m_abs => (refine' PySem.W.mg_none_of KX G ?a; (case a => k_is)))
      (case m_sum => (refine' PySem.W.mg_none_of KX G ?a; (case a => k_is)))
      (case m_any => (refine' PySem.W.mg_none_of KX G ?a; (case a => k_is)))
      (case m_all => (refine' PySem.W.mg_none_of KX G ?a; (case a => k_is)))
      (case m_max => (refine' PySem.W.mg_none_of KX G ?a; (case a => k_is)))
      (case m_int => (refine' PySem.W.mg_none_of KX G ?a; (case a => k_is)))
      (case m_list => (refine' PySem.W.mg_none_of KX G ?a; (case a => k_is)))
      (case m_min => (refine' PySem.W.mg_none_of KX G ?a; (case a => k_is)))
      (case m_sorted => (refine' PySem.W.mg_none_of KX G ?a; (case a => k_is))))
    (case d1 => (refine' Wk.dfT_mk KX G ?a ?l ?c ?k ?b; (case a => k_is); (case l => k_is); (case c => k_is); (case k => k_is); (case b => exact fun _ _ _ _ _ _ us hl => match us, hl with | [_, _], _ => rfl)))
    (case d2 => (refine' Wk.dfT_mk KX G ?a ?l ?c ?k ?b; (case a => k_is); (case l => k_is); (case c => k_is); (case k => k_is); (case b => exact fun _ _ _ _ _ _ us hl => match us, hl with | [_], _ => rfl)))
    (case D => (refine' Wk.trd_mk KX G ?u0 ?u1 ?u2 ?u3 ?u4 ?u5 ?u6 ?u7 ?u8 ?u9 ?u10 ?u11 ?u12 ?u13 ?u14 ?u15 ?u16 ?u17 ?u18 ?u19 ?u20 ?u21 ?u22 ?u23 ?u24 ?u25 ?u26 ?u27 ?u28; (case u0 => k_is); (case u1 => k_is); (case u2 => k_is); (case u3 => k_is); (case u4 => k_is); (case u5 => k_is); (case u6 => k_is); (case u7 => k_is); (case u8 => k_is); (case u9 => k_is); (case u10 => k_is); (case u11 => k_is); (case u12 => k_is); (case u13 => k_is); (case u14 => k_is); (case u15 => k_is); (case u16 => k_is); (case u17 => k_is); (case u18 => k_is); (case u19 => k_is); (case u20 => k_is); (case u21 => k_is); (case u22 => k_is); (case u23 => k_is); (case u24 => k_is); (case u25 => k_is); (case u26 => k_is); (case u27 => k_is); (case u28 => k_is)))
    (case r1 => kernel_rfl)
    (case r2 => kernel_rfl)
    (case e1 => kernel_rfl)
    (case e2 => kernel_rfl)
    (case n1 => kernel_rfl)
    (case n2 => kernel_rfl)
    (case hne => kernel_rfl)
  case S =>
    intro a hwi hask
    have q : ((Codec.inLen 0 1848 a.1 && a.1.all (Codec.inInt (-4294967295) 4294967295)) && true) = true := hwi
    rw [Bool.and_eq_true, Bool.and_eq_true] at q
    have hl : a.1.length ≤ 1848 := (Codec.inNat_iff.mp q.1.1).2
    exact ⟨a.1, rfl, Nat.le_trans hl (by decide), ⟨hask, hl⟩, rfl⟩
#print axioms PySem.Challenge.cw_holedregions_s01_answers_holds
