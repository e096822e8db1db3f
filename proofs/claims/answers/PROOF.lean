import PyProof.Rows.All
import Sq43Spec
import Wide.All
import OpenK.AllK
import Wide.FinOn
import Open.SpecLaws
import KE.OsHead
import KE.OsGo
import HandS.ForSpec
import HandS.Comp
import HandS.Iter
import HandS.Walk
import HandS.Rev
import HandS.Wide
import PyProof.MaxThree
import PySem.Challenge.RW_partcovers_s01_answers
import PySq43
namespace Cv
/-! Mathematics over Rat: an edge functional. -/
def pos (a : Rat) : Rat := if 0 ≤ a then a else 0
def cl (t b y : Rat) : Rat := if y ≤ t then t else if b ≤ y then b else y
/-- antiderivative of the part right of a border along the line through (x0, y0) with x growing by k -/
def anti (k x0 y0 border y : Rat) : Rat := if k = 0 then y * pos (x0 - border) else pos (x0 + k * (y - y0) - border) * pos (x0 + k * (y - y0) - border) / (2 * k)
def dif (l r k x0 y0 y : Rat) : Rat := anti k x0 y0 l y - anti k x0 y0 r y
def edge (l t r b : Rat) (p q : Rat × Rat) : Rat := if p.2 = q.2 then 0 else
  dif l r ((q.1 - p.1) / (q.2 - p.2)) p.1 p.2 (cl t b q.2) - dif l r ((q.1 - p.1) / (q.2 - p.2)) p.1 p.2 (cl t b p.2)
theorem anti_move {k x0 y0 x1 y1 border y : Rat} (h : x1 = x0 + k * (y1 - y0)) : anti k x1 y1 border y = anti k x0 y0 border y := by
  unfold anti
  by_cases hk : k = 0
  · have : x1 = x0 := by grind
    simp only [if_pos hk, this]
  · have e : x1 + k * (y - y1) - border = x0 + k * (y - y0) - border := by grind
    simp only [if_neg hk, e]
theorem dif_move {l r k x0 y0 x1 y1 y : Rat} (h : x1 = x0 + k * (y1 - y0)) : dif l r k x1 y1 y = dif l r k x0 y0 y := by
  unfold dif
  rw [anti_move h, anti_move h]
theorem slope_eq {px py qx qy k : Rat} (h : qx = px + k * (qy - py)) (hn : ¬ py = qy) : (qx - px) / (qy - py) = k := by
  have : qy - py ≠ 0 := by grind
  grind
theorem slope_of {px py qx qy : Rat} (hn : ¬ py = qy) : qx = px + (qx - px) / (qy - py) * (qy - py) := by
  have : qy - py ≠ 0 := by grind
  grind
theorem edge_flat {l t r b : Rat} {p q : Rat × Rat} (h : p.2 = q.2) : edge l t r b p q = 0 := if_pos h
/-- on a line with a slope, whatever stands for its base -/
theorem edge_line {l t r b k x0 y0 : Rat} {p q : Rat × Rat} (hp : p.1 = x0 + k * (p.2 - y0)) (hq : q.1 = x0 + k * (q.2 - y0)) :
    edge l t r b p q = dif l r k x0 y0 (cl t b q.2) - dif l r k x0 y0 (cl t b p.2) := by
  unfold edge
  by_cases h : p.2 = q.2
  · rw [if_pos h, h]; grind
  · rw [if_neg h]
    have hk : (q.1 - p.1) / (q.2 - p.2) = k := slope_eq (by grind) h
    rw [hk, dif_move hp, dif_move hp]
/-- a point on the line through p and q -/
def mid (p q : Rat × Rat) (s : Rat) : Rat × Rat := (p.1 + (q.1 - p.1) * s, p.2 + (q.2 - p.2) * s)
theorem edge_add (l t r b : Rat) (p q : Rat × Rat) (s : Rat) : edge l t r b p q = edge l t r b p (mid p q s) + edge l t r b (mid p q s) q := by
  by_cases h : p.2 = q.2
  · have hm : (mid p q s).2 = p.2 := by simp only [mid]; grind
    rw [edge_flat h, edge_flat hm.symm, edge_flat (hm.trans h)]; grind
  · have h1 := slope_of (px := p.1) (qx := q.1) h
    have hm : (mid p q s).1 = p.1 + (q.1 - p.1) / (q.2 - p.2) * ((mid p q s).2 - p.2) := by
      simp only [mid]; grind
    have hp : p.1 = p.1 + (q.1 - p.1) / (q.2 - p.2) * (p.2 - p.2) := by grind
    rw [edge_line hp h1, edge_line hp hm, edge_line hm h1]
    grind
theorem edge_neg (l t r b : Rat) (p q : Rat × Rat) : edge l t r b q p = - edge l t r b p q := by
  by_cases h : p.2 = q.2
  · rw [edge_flat h, edge_flat h.symm]; grind
  · have h1 := slope_of (px := p.1) (qx := q.1) h
    have hp : p.1 = p.1 + (q.1 - p.1) / (q.2 - p.2) * (p.2 - p.2) := by grind
    rw [edge_line hp h1, edge_line h1 hp]
    grind
/-- the clamp lies between the two where it tells them apart -/
theorem cl_between {t b u v : Rat} (htb : t ≤ b) (huv : u ≤ v) (hne : ¬ cl t b u = cl t b v) : u ≤ cl t b u ∧ cl t b u ≤ v ∧ u ≤ cl t b v ∧ cl t b v ≤ v := by
  unfold cl at *
  grind
theorem mul_le_mul_left' {a b c : Rat} (h : b ≤ c) (ha : 0 ≤ a) : a * b ≤ a * c := Rat.mul_le_mul_of_nonneg_left h ha
/-- a linear function at a place between two is between what it is there -/
theorem lin_between {x0 k y0 u v z m : Rat} (h1 : u ≤ z) (h2 : z ≤ v) (hu : x0 + k * (u - y0) ≤ m) (hv : x0 + k * (v - y0) ≤ m) : x0 + k * (z - y0) ≤ m := by
  by_cases hk : 0 ≤ k
  · have := mul_le_mul_left' (a := k) (b := z - y0) (c := v - y0) (by grind) hk
    grind
  · have := mul_le_mul_left' (a := -k) (b := u - y0) (c := z - y0) (by grind) (by grind)
    grind
theorem lin_between' {x0 k y0 u v z m : Rat} (h1 : u ≤ z) (h2 : z ≤ v) (hu : m ≤ x0 + k * (u - y0)) (hv : m ≤ x0 + k * (v - y0)) : m ≤ x0 + k * (z - y0) := by
  have := lin_between (x0 := -x0) (k := -k) (y0 := y0) (u := u) (v := v) (z := z) (m := -m) h1 h2 (by grind) (by grind)
  grind
theorem anti_zero {k x0 y0 border y : Rat} (h : x0 + k * (y - y0) ≤ border) : anti k x0 y0 border y = 0 := by
  have e : pos (x0 + k * (y - y0) - border) = 0 := by unfold pos; grind
  unfold anti
  by_cases hk : k = 0
  · have : x0 + k * (y - y0) = x0 := by grind
    rw [this] at e
    rw [if_pos hk, e]; grind
  · rw [if_neg hk, e]; grind
theorem anti_in {k x0 y0 border y : Rat} (hk : k ≠ 0) (h : border ≤ x0 + k * (y - y0)) : anti k x0 y0 border y = (x0 + k * (y - y0) - border) * (x0 + k * (y - y0) - border) / (2 * k) := by
  have e : pos (x0 + k * (y - y0) - border) = x0 + k * (y - y0) - border := by unfold pos; grind
  unfold anti
  rw [if_neg hk, e]
theorem anti_in0 {x0 y0 border y : Rat} (h : border ≤ x0) : anti 0 x0 y0 border y = y * (x0 - border) := by
  have e : pos (x0 - border) = x0 - border := by unfold pos; grind
  unfold anti
  rw [if_pos rfl, e]
theorem edge_left' {l t r b : Rat} {p q : Rat × Rat} (hlr : l ≤ r) (htb : t ≤ b) (hp : p.1 ≤ l) (hq : q.1 ≤ l) (hpq : p.2 ≤ q.2) : edge l t r b p q = 0 := by
  by_cases h : p.2 = q.2
  · exact edge_flat h
  · have h1 := slope_of (px := p.1) (qx := q.1) h
    have h0 : p.1 = p.1 + (q.1 - p.1) / (q.2 - p.2) * (p.2 - p.2) := by grind
    rw [edge_line h0 h1]
    by_cases hne : cl t b p.2 = cl t b q.2
    · rw [hne]; grind
    · obtain ⟨b1, b2, b3, b4⟩ := cl_between htb hpq hne
      have a1 := lin_between (x0 := p.1) (k := (q.1 - p.1) / (q.2 - p.2)) (y0 := p.2) (m := l) b1 b2 (by grind) (by grind)
      have a2 := lin_between (x0 := p.1) (k := (q.1 - p.1) / (q.2 - p.2)) (y0 := p.2) (m := l) b3 b4 (by grind) (by grind)
      unfold dif
      rw [anti_zero a1, anti_zero a2, anti_zero (Rat.le_trans a1 hlr), anti_zero (Rat.le_trans a2 hlr)]
      grind
theorem edge_left {l t r b : Rat} {p q : Rat × Rat} (hlr : l ≤ r) (htb : t ≤ b) (hp : p.1 ≤ l) (hq : q.1 ≤ l) : edge l t r b p q = 0 := by
  rcases Rat.le_total (a := p.2) (b := q.2) with h | h
  · exact edge_left' hlr htb hp hq h
  · rw [edge_neg, edge_left' hlr htb hq hp h]; grind
theorem edge_right' {l t r b : Rat} {p q : Rat × Rat} (hlr : l ≤ r) (htb : t ≤ b) (hp : r ≤ p.1) (hq : r ≤ q.1) (hpq : p.2 ≤ q.2) : edge l t r b p q = (r - l) * cl t b q.2 - (r - l) * cl t b p.2 := by
  by_cases h : p.2 = q.2
  · rw [edge_flat h, h]; grind
  · have h1 := slope_of (px := p.1) (qx := q.1) h
    have h0 : p.1 = p.1 + (q.1 - p.1) / (q.2 - p.2) * (p.2 - p.2) := by grind
    rw [edge_line h0 h1]
    by_cases hne : cl t b p.2 = cl t b q.2
    · rw [hne]; grind
    · obtain ⟨b1, b2, b3, b4⟩ := cl_between htb hpq hne
      have a1 := lin_between' (x0 := p.1) (k := (q.1 - p.1) / (q.2 - p.2)) (y0 := p.2) (m := r) b1 b2 (by grind) (by grind)
      have a2 := lin_between' (x0 := p.1) (k := (q.1 - p.1) / (q.2 - p.2)) (y0 := p.2) (m := r) b3 b4 (by grind) (by grind)
      generalize (q.1 - p.1) / (q.2 - p.2) = k at *
      generalize cl t b p.2 = u at *
      generalize cl t b q.2 = v at *
      unfold dif
      by_cases hk : k = 0
      · subst hk
        rw [anti_in0 (by grind), anti_in0 (by grind), anti_in0 (by grind), anti_in0 (by grind)]
        grind
      · rw [anti_in hk (Rat.le_trans hlr a1), anti_in hk (Rat.le_trans hlr a2), anti_in hk a1, anti_in hk a2]
        grind
theorem edge_right {l t r b : Rat} {p q : Rat × Rat} (hlr : l ≤ r) (htb : t ≤ b) (hp : r ≤ p.1) (hq : r ≤ q.1) : edge l t r b p q = (r - l) * cl t b q.2 - (r - l) * cl t b p.2 := by
  rcases Rat.le_total (a := p.2) (b := q.2) with h | h
  · exact edge_right' hlr htb hp hq h
  · rw [edge_neg, edge_right' hlr htb hq hp h]; grind
theorem edge_top {l t r b : Rat} {p q : Rat × Rat} (hp : p.2 ≤ t) (hq : q.2 ≤ t) : edge l t r b p q = 0 := by
  unfold edge cl
  rw [if_pos hp, if_pos hq]
  grind
theorem cl_high {t b y : Rat} (htb : t ≤ b) (h : b ≤ y) : cl t b y = b := by unfold cl; grind
theorem cl_low {t b y : Rat} (h : y ≤ t) : cl t b y = t := by unfold cl; grind
theorem cl_in {t b y : Rat} (h : t ≤ y) (h' : y ≤ b) : cl t b y = y := by unfold cl; grind
theorem edge_bottom {l t r b : Rat} {p q : Rat × Rat} (htb : t ≤ b) (hp : b ≤ p.2) (hq : b ≤ q.2) : edge l t r b p q = 0 := by
  unfold edge
  rw [cl_high htb hp, cl_high htb hq]
  grind
theorem edge_in' {l t r b : Rat} {p q : Rat × Rat} (hlr : l ≤ r) (hp : l ≤ p.1) (hq : l ≤ q.1) (hp' : p.1 ≤ r) (hq' : q.1 ≤ r) (ht : t ≤ p.2) (hb : p.2 ≤ b) (ht' : t ≤ q.2) (hb' : q.2 ≤ b) :
    edge l t r b p q = (q.2 - p.2) * (p.1 + q.1 - 2 * l) / 2 := by
  by_cases h : p.2 = q.2
  · rw [edge_flat h, h]; grind
  · have h1 := slope_of (px := p.1) (qx := q.1) h
    have h0 : p.1 = p.1 + (q.1 - p.1) / (q.2 - p.2) * (p.2 - p.2) := by grind
    rw [edge_line h0 h1, cl_in ht hb, cl_in ht' hb']
    generalize (q.1 - p.1) / (q.2 - p.2) = k at *
    unfold dif
    rw [anti_zero (border := r) (by grind), anti_zero (border := r) (by grind)]
    by_cases hk : k = 0
    · subst hk
      rw [anti_in0 (by grind), anti_in0 (by grind)]
      grind
    · rw [anti_in hk (by grind), anti_in hk (by grind)]
      grind
end Cv
namespace Cv
abbrev P := Rat × Rat
def path (E : P → P → Rat) : P → List P → Rat
  | _, [] => 0
  | p, q :: l => E p q + path E q l
def closed (E : P → P → Rat) : List P → Rat
  | [] => 0
  | p :: l => path E p (l ++ [p])
def cross (f : P → Rat) (p q : P) : P := mid p q (f p / (f p - f q))
def stepc (f : P → Rat) (p q : P) : List P := (if decide (0 ≤ f p) != decide (0 ≤ f q) then [cross f p q] else []) ++ (if decide (0 ≤ f q) = true then [q] else [])
def outp (f : P → Rat) : P → List P → List P
  | _, [] => []
  | p, q :: l => stepc f p q ++ outp f q l
def cutQ (f : P → Rat) : List P → List P
  | [] => []
  | p :: l => outp f p (l ++ [p])
theorem path_snoc (E : P → P → Rat) : ∀ (l : List P) (p z : P), path E p (l ++ [z]) = path E p l + E ((p :: l).getLast (List.cons_ne_nil _ _)) z
  | [], p, z => by simp [path]; grind
  | q :: l, p, z => by
    simp only [List.cons_append, path, path_snoc E l q z, List.getLast_cons_cons]
    grind
/-- f is a linear function along a segment -/
def Aff (f : P → Rat) : Prop := ∀ p q s, f (mid p q s) = f p + (f q - f p) * s
theorem cross_zero {f : P → Rat} (hf : Aff f) {p q : P} (h : f p ≠ f q) : f (cross f p q) = 0 := by
  unfold cross
  rw [hf]
  have : f p - f q ≠ 0 := by grind
  grind
structure Cuts (f : P → Rat) (E : P → P → Rat) : Prop where
  aff : Aff f
  add : ∀ p q s, E p q = E p (mid p q s) + E (mid p q s) q
  out : ∀ p q, f p ≤ 0 → f q ≤ 0 → E p q = 0
def Inv (f : P → Rat) (p r : P) : Prop := (0 ≤ f p → r = p) ∧ (f p < 0 → f r ≤ 0)
theorem stepc_ii {f : P → Rat} {p q : P} (h1 : 0 ≤ f p) (h2 : 0 ≤ f q) : stepc f p q = [q] := by simp [stepc, h1, h2]
theorem stepc_io {f : P → Rat} {p q : P} (h1 : 0 ≤ f p) (h2 : ¬ 0 ≤ f q) : stepc f p q = [cross f p q] := by simp [stepc, h1, h2]
theorem stepc_oi {f : P → Rat} {p q : P} (h1 : ¬ 0 ≤ f p) (h2 : 0 ≤ f q) : stepc f p q = [cross f p q, q] := by simp [stepc, h1, h2]
theorem stepc_oo {f : P → Rat} {p q : P} (h1 : ¬ 0 ≤ f p) (h2 : ¬ 0 ≤ f q) : stepc f p q = [] := by simp [stepc, h1, h2]
theorem path_out {f : P → Rat} {E : P → P → Rat} (C : Cuts f E) : ∀ (l : List P) (p r : P), Inv f p r → path E p l = path E r (outp f p l)
  | [], p, r, _ => rfl
  | q :: l, p, r, h => by
    have hc : f p ≠ f q → f (cross f p q) = 0 := fun hn => cross_zero C.aff hn
    have ha := C.add p q (f p / (f p - f q))
    by_cases h1 : 0 ≤ f p <;> by_cases h2 : 0 ≤ f q
    · have e := h.1 h1
      subst e
      simp only [outp, stepc_ii h1 h2, List.cons_append, List.nil_append, path]
      rw [path_out C l q q ⟨fun _ => rfl, fun z => by grind⟩]
    · have e := h.1 h1
      subst e
      have hm := hc (by grind)
      simp only [outp, stepc_io h1 h2, List.cons_append, List.nil_append, path]
      rw [path_out C l q (cross f r q) ⟨fun z => absurd z h2, fun _ => by grind⟩]
      have := C.out (cross f r q) q (by grind) (by grind)
      unfold cross at *
      grind
    · have hr := h.2 (by grind)
      have hm := hc (by grind)
      simp only [outp, stepc_oi h1 h2, List.cons_append, List.nil_append, path]
      rw [path_out C l q q ⟨fun _ => rfl, fun z => by grind⟩]
      have h3 := C.out r (cross f p q) hr (by grind)
      have h4 := C.out p (cross f p q) (by grind) (by grind)
      unfold cross at *
      grind
    · have hr := h.2 (by grind)
      simp only [outp, stepc_oo h1 h2, List.nil_append, path]
      rw [path_out C l q r ⟨fun z => absurd z h2, fun _ => hr⟩]
      have h3 := C.out p q (by grind) (by grind)
      grind
theorem last_out {f : P → Rat} (hf : Aff f) : ∀ (l : List P) (p r : P), Inv f p r → Inv f ((p :: l).getLast (List.cons_ne_nil _ _)) ((r :: outp f p l).getLast (List.cons_ne_nil _ _))
  | [], p, r, h => h
  | q :: l, p, r, h => by
    have hc : f p ≠ f q → f (cross f p q) = 0 := fun hn => cross_zero hf hn
    by_cases h1 : 0 ≤ f p <;> by_cases h2 : 0 ≤ f q
    · simp only [outp, stepc_ii h1 h2, List.cons_append, List.nil_append, List.getLast_cons_cons]
      exact last_out hf l q q ⟨fun _ => rfl, fun z => by grind⟩
    · simp only [outp, stepc_io h1 h2, List.cons_append, List.nil_append, List.getLast_cons_cons]
      exact last_out hf l q _ ⟨fun z => absurd z h2, fun _ => by rw [hc (by grind)]; grind⟩
    · simp only [outp, stepc_oi h1 h2, List.cons_append, List.nil_append, List.getLast_cons_cons]
      exact last_out hf l q q ⟨fun _ => rfl, fun z => by grind⟩
    · simp only [outp, stepc_oo h1 h2, List.nil_append, List.getLast_cons_cons]
      exact last_out hf l q r ⟨fun z => absurd z h2, fun _ => h.2 (by grind)⟩
theorem closed_cut {f : P → Rat} {E : P → P → Rat} (C : Cuts f E) : ∀ c : List P, closed E (cutQ f c) = closed E c
  | [] => rfl
  | p :: l => by
    have hp : Inv f p p := ⟨fun _ => rfl, fun h => by grind⟩
    have h1 := last_out C.aff (l ++ [p]) p p hp
    have h2 : (p :: (l ++ [p])).getLast (List.cons_ne_nil _ _) = p := by
      rw [List.getLast_cons (by simp)]; simp
    rw [h2] at h1
    have h3 := path_out C (l ++ [p]) p
    simp only [cutQ, closed]
    generalize outp f p (l ++ [p]) = o at *
    match o, h1, h3 with
    | [], _, h3 => rw [h3 p hp]; rfl
    | a :: o, h1, h3 =>
      rw [List.getLast_cons_cons] at h1
      rw [h3 _ h1]
      simp only [closed, path_snoc, path]
      grind
/-- what changes an edge by a difference of its ends changes no closed sum -/
theorem path_tele {E E' : P → P → Rat} {V : P → Rat} (h : ∀ p q, E' p q = E p q - (V q - V p)) : ∀ (l : List P) (p z : P), path E' p (l ++ [z]) = path E p (l ++ [z]) - (V z - V p)
  | [], p, z => by simp [path, h]; grind
  | q :: l, p, z => by
    simp only [List.cons_append, path, path_tele h l q z, h]
    grind
theorem closed_tele {E E' : P → P → Rat} {V : P → Rat} (h : ∀ p q, E' p q = E p q - (V q - V p)) : ∀ c : List P, closed E' c = closed E c
  | [] => rfl
  | p :: l => by
    simp only [closed, path_tele h]
    grind
theorem div_mul' {a d : Rat} (hd : 0 < d) : a / d * d = a := by
  have : d ≠ 0 := by grind
  grind
theorem div_nonneg' {a d : Rat} (ha : 0 ≤ a) (hd : 0 < d) : 0 ≤ a / d := by
  have e := div_mul' (a := a) hd
  generalize a / d = s at *
  by_cases h : 0 ≤ s
  · exact h
  · have := Rat.mul_pos (a := -s) (b := d) (by grind) hd
    grind
theorem div_le_one' {a d : Rat} (ha : a ≤ d) (hd : 0 < d) : a / d ≤ 1 := by
  have e := div_mul' (a := a) hd
  generalize a / d = s at *
  by_cases h : s ≤ 1
  · exact h
  · have := Rat.mul_pos (a := s - 1) (b := d) (by grind) hd
    grind
theorem mem_stepc {f g : P → Rat} (hf : Aff f) (hg : Aff g) {p q z : P} (hp : 0 ≤ g p) (hq : 0 ≤ g q) (hz : z ∈ stepc f p q) : 0 ≤ g z := by
  have key : ¬ (0 ≤ f p ↔ 0 ≤ f q) → 0 ≤ g (cross f p q) := by
    intro hn
    unfold cross
    rw [hg]
    have hne : f p - f q ≠ 0 := by grind
    have hs : 0 ≤ f p / (f p - f q) ∧ f p / (f p - f q) ≤ 1 := by
      by_cases h1 : 0 ≤ f p
      · have hd : 0 < f p - f q := by grind
        constructor
        · exact div_nonneg' h1 hd
        · exact div_le_one' (by grind) hd
      · have hd : 0 < f q - f p := by grind
        have e : f p / (f p - f q) = (- f p) / (f q - f p) := by grind
        rw [e]
        constructor
        · exact div_nonneg' (by grind) hd
        · exact div_le_one' (by grind) hd
    generalize f p / (f p - f q) = s at *
    have a1 := Rat.mul_nonneg hq hs.1
    have a2 := Rat.mul_nonneg hp (show 0 ≤ 1 - s by grind)
    grind
  by_cases h1 : 0 ≤ f p <;> by_cases h2 : 0 ≤ f q
  · rw [stepc_ii h1 h2] at hz; simp at hz; subst hz; exact hq
  · rw [stepc_io h1 h2] at hz; simp at hz; subst hz; exact key (by grind)
  · rw [stepc_oi h1 h2] at hz; simp at hz; rcases hz with rfl | rfl
    · exact key (by grind)
    · exact hq
  · rw [stepc_oo h1 h2] at hz; simp at hz
theorem mem_outp {f g : P → Rat} (hf : Aff f) (hg : Aff g) : ∀ (l : List P) (p : P), 0 ≤ g p → (∀ z ∈ l, 0 ≤ g z) → ∀ z ∈ outp f p l, 0 ≤ g z
  | [], _, _, _, z, hz => by simp [outp] at hz
  | q :: l, p, hp, hl, z, hz => by
    have hq := hl q (by simp)
    rcases List.mem_append.mp hz with h | h
    · exact mem_stepc hf hg hp hq h
    · exact mem_outp hf hg l q hq (fun y hy => hl y (by simp [hy])) z h
theorem mem_cut {f g : P → Rat} (hf : Aff f) (hg : Aff g) : ∀ (c : List P), (∀ z ∈ c, 0 ≤ g z) → ∀ z ∈ cutQ f c, 0 ≤ g z
  | [], _, z, hz => by simp [cutQ] at hz
  | p :: l, h, z, hz => mem_outp hf hg (l ++ [p]) p (h p (by simp)) (fun y hy => h y (by simp at hy ⊢; rcases hy with h | h <;> simp [h])) z hz
theorem mem_outp_self {f : P → Rat} (hf : Aff f) : ∀ (l : List P) (p : P), ∀ z ∈ outp f p l, 0 ≤ f z
  | [], _, z, hz => by simp [outp] at hz
  | q :: l, p, z, hz => by
    rcases List.mem_append.mp hz with h | h
    · by_cases h1 : 0 ≤ f p <;> by_cases h2 : 0 ≤ f q
      · rw [stepc_ii h1 h2] at h; simp at h; subst h; exact h2
      · rw [stepc_io h1 h2] at h; simp at h; subst h; rw [cross_zero hf (by grind)]; grind
      · rw [stepc_oi h1 h2] at h; simp at h; rcases h with rfl | rfl
        · rw [cross_zero hf (by grind)]; grind
        · exact h2
      · rw [stepc_oo h1 h2] at h; simp at h
    · exact mem_outp_self hf l q z h
theorem mem_cut_self {f : P → Rat} (hf : Aff f) : ∀ (c : List P), ∀ z ∈ cutQ f c, 0 ≤ f z
  | [], z, hz => by simp [cutQ] at hz
  | p :: l, z, hz => mem_outp_self hf _ p z hz
def fL (l : Rat) (p : P) : Rat := p.1 - l
def fR (r : Rat) (p : P) : Rat := r - p.1
def fT (t : Rat) (p : P) : Rat := p.2 - t
def fB (b : Rat) (p : P) : Rat := b - p.2
theorem affL (l : Rat) : Aff (fL l) := by intro p q s; simp only [fL, mid]; grind
theorem affR (l : Rat) : Aff (fR l) := by intro p q s; simp only [fR, mid]; grind
theorem affT (l : Rat) : Aff (fT l) := by intro p q s; simp only [fT, mid]; grind
theorem affB (l : Rat) : Aff (fB l) := by intro p q s; simp only [fB, mid]; grind
def insideQ (l t r b : Rat) (c : List P) : List P := cutQ (fB b) (cutQ (fT t) (cutQ (fR r) (cutQ (fL l) c)))
def shoe (p q : P) : Rat := p.1 * q.2 - q.1 * p.2
theorem closed_congr {E E' : P → P → Rat} {S : P → Prop} (h : ∀ p q, S p → S q → E p q = E' p q) : ∀ c : List P, (∀ z ∈ c, S z) → closed E c = closed E' c := by
  have hp : ∀ (l : List P) (p : P), S p → (∀ z ∈ l, S z) → path E p l = path E' p l := by
    intro l
    induction l with
    | nil => intro p _ _; rfl
    | cons q l ih =>
      intro p h1 h2
      simp only [path]
      rw [h p q h1 (h2 q (by simp)), ih q (h2 q (by simp)) (fun z hz => h2 z (by simp [hz]))]
  intro c hc
  match c, hc with
  | [], _ => rfl
  | p :: l, hc =>
    exact hp (l ++ [p]) p (hc p (by simp)) (fun z hz => by simp at hz; rcases hz with h | h <;> exact hc z (by simp [h]))
/-- **the clipped contour's area is the sum of the edges' shares** -/
theorem clip_area {l t r b : Rat} (hlr : l ≤ r) (htb : t ≤ b) (c : List P) : closed shoe (insideQ l t r b c) = 2 * closed (edge l t r b) c := by
  have c1 : closed (edge l t r b) (cutQ (fL l) c) = closed (edge l t r b) c :=
    closed_cut ⟨affL l, edge_add l t r b, fun p q hp hq => edge_left hlr htb (by simp only [fL] at hp; grind) (by simp only [fL] at hq; grind)⟩ c
  have c2 : closed (edge l t r b) (cutQ (fR r) (cutQ (fL l) c)) = closed (edge l t r b) (cutQ (fL l) c) := by
    let V : P → Rat := fun p => (r - l) * cl t b p.2
    have e : ∀ p q, (fun p q => edge l t r b p q - (V q - V p)) p q = edge l t r b p q - (V q - V p) := fun p q => rfl
    rw [← closed_tele e, ← closed_tele e]
    refine closed_cut ⟨affR r, fun p q s => ?_, fun p q hp hq => ?_⟩ _
    · have := edge_add l t r b p q s
      grind
    · have := edge_right hlr htb (p := p) (q := q) (by simp only [fR] at hp; grind) (by simp only [fR] at hq; grind)
      simp only [V]
      grind
  have c3 : closed (edge l t r b) (cutQ (fT t) (cutQ (fR r) (cutQ (fL l) c))) = closed (edge l t r b) (cutQ (fR r) (cutQ (fL l) c)) :=
    closed_cut ⟨affT t, edge_add l t r b, fun p q hp hq => edge_top (by simp only [fT] at hp; grind) (by simp only [fT] at hq; grind)⟩ _
  have c4 : closed (edge l t r b) (insideQ l t r b c) = closed (edge l t r b) (cutQ (fT t) (cutQ (fR r) (cutQ (fL l) c))) :=
    closed_cut ⟨affB b, edge_add l t r b, fun p q hp hq => edge_bottom htb (by simp only [fB] at hp; grind) (by simp only [fB] at hq; grind)⟩ _
  rw [← c1, ← c2, ← c3, ← c4]
  have mL : ∀ z ∈ insideQ l t r b c, 0 ≤ fL l z := mem_cut (affB b) (affL l) _ (mem_cut (affT t) (affL l) _ (mem_cut (affR r) (affL l) _ (mem_cut_self (affL l) _)))
  have mR : ∀ z ∈ insideQ l t r b c, 0 ≤ fR r z := mem_cut (affB b) (affR r) _ (mem_cut (affT t) (affR r) _ (mem_cut_self (affR r) _))
  have mT : ∀ z ∈ insideQ l t r b c, 0 ≤ fT t z := mem_cut (affB b) (affT t) _ (mem_cut_self (affT t) _)
  have mB : ∀ z ∈ insideQ l t r b c, 0 ≤ fB b z := mem_cut_self (affB b) _
  rw [closed_congr (E := edge l t r b) (E' := fun p q => (q.2 - p.2) * (p.1 + q.1 - 2 * l) / 2) (S := fun z => 0 ≤ fL l z ∧ 0 ≤ fR r z ∧ 0 ≤ fT t z ∧ 0 ≤ fB b z)
    (fun p q ⟨h1, h2, h3, h4⟩ ⟨k1, k2, k3, k4⟩ => edge_in' hlr (by simp only [fL] at h1; grind) (by simp only [fL] at k1; grind) (by simp only [fR] at h2; grind) (by simp only [fR] at k2; grind)
      (by simp only [fT] at h3; grind) (by simp only [fB] at h4; grind) (by simp only [fT] at k3; grind) (by simp only [fB] at k4; grind)) _ (fun z hz => ⟨mL z hz, mR z hz, mT z hz, mB z hz⟩)]
  generalize insideQ l t r b c = d
  have e : closed (fun p q => shoe p q / 2) d = closed (fun p q => (q.2 - p.2) * (p.1 + q.1 - 2 * l) / 2) d :=
    closed_tele (V := fun p => (p.1 * p.2 - 2 * l * p.2) / 2) (fun p q => by simp only [shoe]; grind) d
  rw [← e]
  have hp : ∀ (l : List P) (p : P), path shoe p l = 2 * path (fun p q => shoe p q / 2) p l := by
    intro l
    induction l with
    | nil => intro p; simp [path]
    | cons q l ih => intro p; simp only [path, ih]; grind
  match d with
  | [] => simp [closed]
  | p :: l => exact hp _ _
end Cv
namespace Cv
open Sq43
/-! The specification's fractions are Rat's. -/
def ofRat (q : Rat) : Frac := ⟨q.num, q.den⟩
theorem frac_eq (n : Int) (d : Nat) (hd : d ≠ 0) : frac n d = ofRat ((n : Rat) / (d : Rat)) := by
  rw [← Rat.mkRat_eq_div]
  unfold frac ofRat
  by_cases hn : n = 0
  · subst hn
    rw [if_pos rfl, Rat.num_mkRat, Rat.den_mkRat, if_neg hd, if_neg hd]
    have : d.gcd (Int.natAbs 0) = d := by simp
    rw [this, Nat.div_self (Nat.pos_of_ne_zero hd)]
    simp
  · rw [if_neg hn, Rat.num_mkRat, Rat.den_mkRat, if_neg hd, if_neg hd, Nat.gcd_comm]
theorem frac_mk (n : Int) (d : Nat) (hd : d ≠ 0) : frac n d = ofRat (mkRat n d) := by rw [frac_eq n d hd, Rat.mkRat_eq_div]
theorem whole_eq (n : Int) : whole n = ofRat (n : Rat) := by
  unfold whole ofRat
  rw [Rat.num_intCast, Rat.den_intCast]
theorem add_eq (a b : Rat) : (ofRat a).add (ofRat b) = ofRat (a + b) := by
  unfold Frac.add
  show frac (a.num * b.den + b.num * a.den) (a.den * b.den) = _
  rw [frac_mk _ _ (Nat.mul_ne_zero a.den_nz b.den_nz), Rat.add_def']
theorem sub_eq (a b : Rat) : (ofRat a).sub (ofRat b) = ofRat (a - b) := by
  unfold Frac.sub
  show frac (a.num * b.den - b.num * a.den) (a.den * b.den) = _
  rw [frac_mk _ _ (Nat.mul_ne_zero a.den_nz b.den_nz), Rat.sub_def']
theorem mul_eq (a b : Rat) : (ofRat a).mul (ofRat b) = ofRat (a * b) := by
  unfold Frac.mul
  show frac (a.num * b.num) (a.den * b.den) = _
  rw [frac_mk _ _ (Nat.mul_ne_zero a.den_nz b.den_nz), Rat.mul_def']
theorem self_div (a : Rat) : (a.num : Rat) / (a.den : Rat) = a := by rw [← Rat.mkRat_eq_div, Rat.mkRat_self]
theorem cast_ne {n : Int} (h : n ≠ 0) : (n : Rat) ≠ 0 := by
  intro e
  exact h (Rat.intCast_inj.mp e)
theorem nat_ne {n : Nat} (h : n ≠ 0) : (n : Rat) ≠ 0 := by
  have := cast_ne (n := (n : Int)) (by omega)
  simpa using this
theorem div_eq (a b : Rat) (hb : b ≠ 0) : (ofRat a).div (ofRat b) = ofRat (a / b) := by
  have hn : b.num ≠ 0 := fun e => hb (Rat.num_eq_zero.mp e)
  have h1 := self_div a
  have h2 := self_div b
  have h3 := nat_ne a.den_nz
  have h4 := nat_ne b.den_nz
  have h5 := cast_ne hn
  have hd : a.den * b.num.natAbs ≠ 0 := Nat.mul_ne_zero a.den_nz (by omega)
  unfold Frac.div
  show (if 0 < b.num then frac (a.num * b.den) (a.den * b.num.natAbs) else frac (-(a.num * b.den)) (a.den * b.num.natAbs)) = _
  by_cases hp : 0 < b.num
  · rw [if_pos hp, frac_eq _ _ hd]
    congr 1
    have e : ((a.den * b.num.natAbs : Nat) : Rat) = (a.den : Rat) * (b.num : Rat) := by
      rw [Rat.natCast_mul]
      congr 1
      have : ((b.num.natAbs : Int) : Rat) = (b.num : Rat) := by congr 1; omega
      rw [← this]; rfl
    rw [e, Rat.intCast_mul]
    have e2 : ((b.den : Int) : Rat) = (b.den : Rat) := rfl
    rw [e2]
    generalize (a.num : Rat) = an at *
    generalize (a.den : Rat) = ad at *
    generalize (b.num : Rat) = bn at *
    generalize (b.den : Rat) = bd at *
    grind
  · rw [if_neg hp, frac_eq _ _ hd]
    congr 1
    have e : ((a.den * b.num.natAbs : Nat) : Rat) = -((a.den : Rat) * (b.num : Rat)) := by
      rw [Rat.natCast_mul]
      have : ((b.num.natAbs : Int) : Rat) = ((-b.num : Int) : Rat) := by congr 1; omega
      have e3 : ((b.num.natAbs : Nat) : Rat) = ((b.num.natAbs : Int) : Rat) := rfl
      rw [e3, this, Rat.intCast_neg]
      grind
    rw [e, Rat.intCast_neg, Rat.intCast_mul]
    have e2 : ((b.den : Int) : Rat) = (b.den : Rat) := rfl
    rw [e2]
    generalize (a.num : Rat) = an at *
    generalize (a.den : Rat) = ad at *
    generalize (b.num : Rat) = bn at *
    generalize (b.den : Rat) = bd at *
    grind
theorem sum_from : ∀ (l : List Rat) (a : Rat), (l.map ofRat).foldl Frac.add (ofRat a) = ofRat (a + l.sum)
  | [], a => by simp [Rat.add_zero]
  | x :: l, a => by
    rw [List.map_cons, List.foldl_cons, add_eq, sum_from l, List.sum_cons]
    congr 1
    grind
theorem sum_eq (l : List Rat) : sum (l.map ofRat) = ofRat l.sum := by
  have h := sum_from l 0
  have e : ofRat 0 = ⟨0, 1⟩ := rfl
  rw [e] at h
  unfold sum
  rw [h]
  congr 1
  grind
def up (p : P) : Point := ⟨ofRat p.1, ofRat p.2⟩
theorem edges_up (p : P) (l : List P) : edges ((p :: l).map up) = ((p :: l).zip (l ++ [p])).map fun e => (up e.1, up e.2) := by
  show ((p :: l).map up).zip (l.map up ++ [up p]) = _
  have : l.map up ++ [up p] = (l ++ [p]).map up := by simp
  rw [this, List.zip_map]
  rfl
theorem path_zip (E : P → P → Rat) : ∀ (l : List P) (p z : P), path E p (l ++ [z]) = (((p :: l).zip (l ++ [z])).map fun e => E e.1 e.2).sum
  | [], p, z => by simp [path]
  | q :: l, p, z => by
    simp only [List.cons_append, path, List.zip_cons_cons, List.map_cons, List.sum_cons]
    rw [path_zip E l q z]
theorem twice_up (c : List P) : twice (c.map up) = ofRat (closed shoe c) := by
  match c with
  | [] => rfl
  | p :: l =>
    unfold twice
    rw [edges_up, List.map_map]
    have e : (fun e : Point × Point => (e.1.x.mul e.2.y).sub (e.2.x.mul e.1.y)) ∘ (fun e : P × P => (up e.1, up e.2)) = ofRat ∘ (fun e : P × P => shoe e.1 e.2) := by
      funext e
      show ((ofRat e.1.1).mul (ofRat e.2.2)).sub ((ofRat e.2.1).mul (ofRat e.1.2)) = ofRat (shoe e.1 e.2)
      rw [mul_eq, mul_eq, sub_eq]
      rfl
    rw [e, ← List.map_map, sum_eq]
    congr 1
    exact (path_zip shoe l p p).symm
theorem neg_num {q : Rat} : (0 ≤ (ofRat q).n) ↔ 0 ≤ q := Rat.num_nonneg
theorem cross_up {f : Point → Frac} {g : P → Rat} (h : ∀ p, f (up p) = ofRat (g p)) (p q : P) (hn : g p - g q ≠ 0) : Sq43.cross f (up p) (up q) = up (cross g p q) := by
  unfold Sq43.cross
  simp only [h]
  rw [sub_eq, div_eq _ _ hn]
  show (⟨(ofRat p.1).add (((ofRat q.1).sub (ofRat p.1)).mul _), (ofRat p.2).add (((ofRat q.2).sub (ofRat p.2)).mul _)⟩ : Point) = _
  rw [sub_eq, sub_eq, mul_eq, mul_eq, add_eq, add_eq]
  rfl
theorem cut_path {f : Point → Frac} {g : P → Rat} (h : ∀ p, f (up p) = ofRat (g p)) : ∀ (l : List P) (p z : P),
    (((p :: l).zip (l ++ [z])).map fun e => (up e.1, up e.2)).flatMap (fun e : Point × Point =>
      (if decide (0 ≤ (f e.1).n) != decide (0 ≤ (f e.2).n) then [Sq43.cross f e.1 e.2] else []) ++ (if decide (0 ≤ (f e.2).n) = true then [e.2] else []))
    = (outp g p (l ++ [z])).map up := by
  have one : ∀ p q : P, ((if decide (0 ≤ (f (up p)).n) != decide (0 ≤ (f (up q)).n) then [Sq43.cross f (up p) (up q)] else []) ++ (if decide (0 ≤ (f (up q)).n) = true then [up q] else [])) = (stepc g p q).map up := by
    intro p q
    simp only [h, neg_num]
    unfold stepc
    by_cases h1 : 0 ≤ g p <;> by_cases h2 : 0 ≤ g q
    · simp [h1, h2]
    · simp [h1, h2, cross_up h p q (by grind)]
    · simp [h1, h2, cross_up h p q (by grind)]
    · simp [h1, h2]
  intro l
  induction l with
  | nil =>
    intro p z
    simp only [List.nil_append, List.zip_cons_cons, List.zip_nil_right, List.map_cons, List.map_nil, List.flatMap_cons, List.flatMap_nil, outp, List.append_nil]
    exact one p z
  | cons q l ih =>
    intro p z
    simp only [List.cons_append, List.zip_cons_cons, List.map_cons, List.flatMap_cons, outp, List.map_append]
    rw [one p q]
    congr 1
    exact ih q z
theorem cut_up {f : Point → Frac} {g : P → Rat} (h : ∀ p, f (up p) = ofRat (g p)) (c : List P) : cut f (c.map up) = (cutQ g c).map up := by
  match c with
  | [] => rfl
  | p :: l =>
    unfold cut
    rw [edges_up]
    exact cut_path h l p p
theorem inside_up (x0 y0 x1 y1 : Int) (c : List P) : inside x0 y0 x1 y1 (c.map up) = (insideQ x0 y0 x1 y1 c).map up := by
  unfold inside insideQ
  rw [cut_up (g := fL x0), cut_up (g := fR x1), cut_up (g := fT y0), cut_up (g := fB y1)]
  · intro p; show (whole y1).sub (ofRat p.2) = _; rw [whole_eq, sub_eq]; rfl
  · intro p; show (ofRat p.2).sub (whole y0) = _; rw [whole_eq, sub_eq]; rfl
  · intro p; show (whole x1).sub (ofRat p.1) = _; rw [whole_eq, sub_eq]; rfl
  · intro p; show (ofRat p.1).sub (whole x0) = _; rw [whole_eq, sub_eq]; rfl
/-! Contours of whole numbers. -/
def toP (p : Int × Int) : P := ((p.1 : Rat), (p.2 : Rat))
def pt (p : Int × Int) : Point := ⟨whole p.1, whole p.2⟩
theorem map_pt (c : List (Int × Int)) : c.map pt = (c.map toP).map up := by
  rw [List.map_map]
  congr 1
/-- the sum of the shares of all edges of all contours, over a box -/
def shareSum (l t r b : Rat) (cs : List (List (Int × Int))) : Rat := (cs.map fun c => closed (edge l t r b) (c.map toP)).sum
theorem sum_two : ∀ l : List Rat, (l.map fun x => 2 * x).sum = 2 * l.sum
  | [] => by simp
  | x :: l => by
    rw [List.map_cons, List.sum_cons, List.sum_cons, sum_two l]
    grind
theorem cover_eq (cs : List (List (Int × Int))) (x y : Nat) : cover (cs.map fun c => c.map pt) x y = ofRat (shareSum ((16 * x : Nat) : Int) ((16 * y : Nat) : Int) ((16 * x + 16 : Nat) : Int) ((16 * y + 16 : Nat) : Int) cs / 256) := by
  unfold cover
  rw [List.map_map]
  have e : ((fun c => twice (inside (16 * x : Nat) (16 * y : Nat) (16 * x + 16 : Nat) (16 * y + 16 : Nat) c)) ∘ fun c => List.map pt c) =
      ofRat ∘ (fun x => 2 * x) ∘ fun c : List (Int × Int) => closed (edge ((16 * x : Nat) : Int) ((16 * y : Nat) : Int) ((16 * x + 16 : Nat) : Int) ((16 * y + 16 : Nat) : Int)) (c.map toP) := by
    funext c
    show twice (inside (16 * x : Nat) (16 * y : Nat) (16 * x + 16 : Nat) (16 * y + 16 : Nat) (c.map pt)) = ofRat (2 * _)
    rw [map_pt, inside_up, twice_up, clip_area]
    · exact Rat.intCast_le_intCast.mpr (by omega)
    · exact Rat.intCast_le_intCast.mpr (by omega)
  rw [e, ← List.map_map, ← List.map_map, sum_eq, whole_eq, div_eq, sum_two]
  · congr 1
    show 2 * shareSum _ _ _ _ cs / _ = _
    have : (((512 : Int) : Rat)) = 512 := rfl
    rw [this]
    grind
  · exact cast_ne (by decide)
theorem area_eq (cs : List (List (Int × Int))) : area (cs.map fun c => c.map pt) = ofRat ((cs.map fun c => closed shoe (c.map toP)).sum / 512) := by
  unfold area
  rw [List.map_map]
  have e : (twice ∘ fun c => List.map pt c) = ofRat ∘ fun c : List (Int × Int) => closed shoe (c.map toP) := by
    funext c
    show twice (c.map pt) = ofRat _
    rw [map_pt, twice_up]
  rw [e, ← List.map_map, sum_eq, whole_eq, div_eq]
  · rfl
  · exact cast_ne (by decide)
end Cv
namespace Cv
def imax (i j : Int) : Int := if j > i then j else i
def imin (i j : Int) : Int := if j < i then j else i
/-- what the program reckons of an edge beyond a border, as a pair -/
def bey (lo hi : Int × Int) (top bottom border : Int) : Int × Int :=
  if hi.1 - lo.1 = 0 then ((bottom - top) * imax (lo.1 - border) 0, 1)
  else (imax ((lo.1 - border) * (hi.2 - lo.2) + (bottom - lo.2) * (hi.1 - lo.1)) 0 * imax ((lo.1 - border) * (hi.2 - lo.2) + (bottom - lo.2) * (hi.1 - lo.1)) 0
      - imax ((lo.1 - border) * (hi.2 - lo.2) + (top - lo.2) * (hi.1 - lo.1)) 0 * imax ((lo.1 - border) * (hi.2 - lo.2) + (top - lo.2) * (hi.1 - lo.1)) 0,
    2 * (hi.1 - lo.1) * (hi.2 - lo.2))
theorem cast_le {a b : Int} : (a : Rat) ≤ (b : Rat) ↔ a ≤ b := Rat.intCast_le_intCast
theorem cast_imax0 (a : Int) : ((imax a 0 : Int) : Rat) = pos (a : Rat) := by
  unfold imax pos
  have z : ((0 : Int) : Rat) = 0 := rfl
  have := cast_le (a := 0) (b := a)
  rw [z] at this
  by_cases h : 0 > a
  · rw [if_pos h, if_neg (by rw [this]; omega), z]
  · rw [if_neg h, if_pos (by rw [this]; omega)]
theorem pos_mul {c x : Rat} (hc : 0 < c) : pos (c * x) = c * pos x := by
  unfold pos
  by_cases h : 0 ≤ x
  · rw [if_pos h, if_pos (Rat.mul_nonneg (by grind) h)]
  · rw [if_neg h]
    have := Rat.mul_pos hc (show 0 < -x by grind)
    rw [if_neg (by grind)]
    grind
theorem cast_sub' (a b : Int) : ((a - b : Int) : Rat) = (a : Rat) - (b : Rat) := Rat.intCast_sub a b
theorem bey_den {lo hi : Int × Int} {top bottom border : Int} (h : lo.2 < hi.2) : (bey lo hi top bottom border).2 ≠ 0 := by
  unfold bey
  by_cases hr : hi.1 - lo.1 = 0
  · rw [if_pos hr]; show (1 : Int) ≠ 0; decide
  · rw [if_neg hr]
    exact Int.mul_ne_zero (Int.mul_ne_zero (by decide) hr) (by omega)
theorem bey_den_eq (lo hi : Int × Int) (top bottom border border' : Int) : (bey lo hi top bottom border).2 = (bey lo hi top bottom border').2 := by
  unfold bey
  by_cases hr : hi.1 - lo.1 = 0
  · rw [if_pos hr, if_pos hr]
  · rw [if_neg hr, if_neg hr]
theorem bey_fin {s u pb pt : Rat} (hs : s ≠ 0) (hu : u ≠ 0) : (s * pb * (s * pb) - s * pt * (s * pt)) / (2 * u * s) = pb * pb / (2 * (u / s)) - pt * pt / (2 * (u / s)) := by
  have e : u / s * s = u := by grind
  generalize u / s = k at *
  have hk : k ≠ 0 := by intro z; rw [z] at e; grind
  subst e
  grind
theorem bey_val {lo hi : Int × Int} {top bottom border : Int} (h : lo.2 < hi.2) :
    ((bey lo hi top bottom border).1 : Rat) / ((bey lo hi top bottom border).2 : Rat) =
      anti (((hi.1 : Rat) - (lo.1 : Rat)) / ((hi.2 : Rat) - (lo.2 : Rat))) lo.1 lo.2 border bottom - anti (((hi.1 : Rat) - (lo.1 : Rat)) / ((hi.2 : Rat) - (lo.2 : Rat))) lo.1 lo.2 border top := by
  have hrise : (0 : Rat) < (hi.2 : Rat) - (lo.2 : Rat) := by
    have := cast_le (a := hi.2) (b := lo.2)
    have h2 : ¬ (hi.2 : Rat) ≤ (lo.2 : Rat) := by rw [this]; omega
    grind
  unfold bey
  by_cases hr : hi.1 - lo.1 = 0
  · rw [if_pos hr]
    have e : (hi.1 : Rat) - (lo.1 : Rat) = 0 := by
      rw [← cast_sub', hr]; rfl
    have e2 : ((hi.1 : Rat) - (lo.1 : Rat)) / ((hi.2 : Rat) - (lo.2 : Rat)) = 0 := by rw [e]; grind
    rw [e2]
    unfold anti
    rw [if_pos rfl, if_pos rfl]
    show (((bottom - top) * imax (lo.1 - border) 0 : Int) : Rat) / ((1 : Int) : Rat) = _
    rw [Rat.intCast_mul, cast_imax0, cast_sub', cast_sub']
    have o : ((1 : Int) : Rat) = 1 := rfl
    rw [o]
    grind
  · rw [if_neg hr]
    have hrun : (hi.1 : Rat) - (lo.1 : Rat) ≠ 0 := by
      rw [← cast_sub']; exact cast_ne hr
    have hk : ((hi.1 : Rat) - (lo.1 : Rat)) / ((hi.2 : Rat) - (lo.2 : Rat)) ≠ 0 := by
      intro e
      have := div_mul' (a := (hi.1 : Rat) - (lo.1 : Rat)) hrise
      rw [e] at this
      grind
    have at_ : ∀ y : Int, ((imax ((lo.1 - border) * (hi.2 - lo.2) + (y - lo.2) * (hi.1 - lo.1)) 0 : Int) : Rat) =
        ((hi.2 : Rat) - (lo.2 : Rat)) * pos ((lo.1 : Rat) + ((hi.1 : Rat) - (lo.1 : Rat)) / ((hi.2 : Rat) - (lo.2 : Rat)) * ((y : Rat) - (lo.2 : Rat)) - (border : Rat)) := by
      intro y
      rw [← pos_mul hrise, cast_imax0]
      congr 1
      rw [Rat.intCast_add, Rat.intCast_mul, Rat.intCast_mul, cast_sub', cast_sub', cast_sub', cast_sub']
      have := div_mul' (a := (hi.1 : Rat) - (lo.1 : Rat)) hrise
      generalize ((hi.1 : Rat) - (lo.1 : Rat)) / ((hi.2 : Rat) - (lo.2 : Rat)) = k at *
      grind
    unfold anti
    rw [if_neg hk, if_neg hk, cast_sub', Rat.intCast_mul, Rat.intCast_mul, at_, at_, Rat.intCast_mul, Rat.intCast_mul, cast_sub', cast_sub']
    have two : ((2 : Int) : Rat) = 2 := rfl
    rw [two]
    generalize pos ((lo.1 : Rat) + ((hi.1 : Rat) - (lo.1 : Rat)) / ((hi.2 : Rat) - (lo.2 : Rat)) * ((bottom : Rat) - (lo.2 : Rat)) - (border : Rat)) = pb
    generalize pos ((lo.1 : Rat) + ((hi.1 : Rat) - (lo.1 : Rat)) / ((hi.2 : Rat) - (lo.2 : Rat)) * ((top : Rat) - (lo.2 : Rat)) - (border : Rat)) = pt
    exact bey_fin (by grind) hrun
theorem cast_cl {t b y : Int} (htb : t ≤ b) : cl (t : Rat) (b : Rat) (y : Rat) = ((imin (imax y t) b : Int) : Rat) := by
  have e : imin (imax y t) b = (if y ≤ t then t else if b ≤ y then b else y) := by
    unfold imin imax
    split <;> split <;> (try split) <;> (try split) <;> omega
  rw [e]
  unfold cl
  have h1 := cast_le (a := y) (b := t)
  have h2 := cast_le (a := b) (b := y)
  by_cases a : y ≤ t
  · rw [if_pos (h1.mpr a), if_pos a]
  · rw [if_neg (fun z => a (h1.mp z)), if_neg a]
    by_cases c : b ≤ y
    · rw [if_pos (h2.mpr c), if_pos c]
    · rw [if_neg (fun z => c (h2.mp z)), if_neg c]
theorem edge_zero {lo hi : Int × Int} {l t r b : Int} (htb : t < b) (h : lo.2 ≤ hi.2) (hz : imin hi.2 b ≤ imax lo.2 t) : edge l t r b (toP lo) (toP hi) = 0 := by
  by_cases e : lo.2 = hi.2
  · exact edge_flat (by show (lo.2 : Rat) = (hi.2 : Rat); rw [e])
  · unfold edge
    have c1 : cl (t : Rat) (b : Rat) (toP hi).2 = cl (t : Rat) (b : Rat) (toP lo).2 := by
      show cl (t : Rat) (b : Rat) (hi.2 : Rat) = cl (t : Rat) (b : Rat) (lo.2 : Rat)
      rw [cast_cl (by omega), cast_cl (by omega)]
      congr 1
      unfold imin imax at *
      omega
    rw [c1]
    grind
theorem edge_beyond {lo hi : Int × Int} {l t r b : Int} (htb : t < b) (h : lo.2 ≤ hi.2) (hz : ¬ imin hi.2 b ≤ imax lo.2 t) :
    lo.2 < hi.2 ∧ edge l t r b (toP lo) (toP hi) = ((bey lo hi (imax lo.2 t) (imin hi.2 b) l).1 : Rat) / ((bey lo hi (imax lo.2 t) (imin hi.2 b) l).2 : Rat) - ((bey lo hi (imax lo.2 t) (imin hi.2 b) r).1 : Rat) / ((bey lo hi (imax lo.2 t) (imin hi.2 b) r).2 : Rat) := by
  have hlt : lo.2 < hi.2 := by unfold imin imax at hz; omega
  refine ⟨hlt, ?_⟩
  rw [bey_val hlt, bey_val hlt]
  have hne : ¬ (toP lo).2 = (toP hi).2 := by
    show ¬ (lo.2 : Rat) = (hi.2 : Rat)
    intro e
    have := Rat.intCast_inj.mp e
    omega
  unfold edge
  rw [if_neg hne]
  have c1 : cl (t : Rat) (b : Rat) (toP hi).2 = ((imin hi.2 b : Int) : Rat) := by
    show cl (t : Rat) (b : Rat) (hi.2 : Rat) = _
    rw [cast_cl (by omega)]
    congr 1
    unfold imin imax at *
    omega
  have c2 : cl (t : Rat) (b : Rat) (toP lo).2 = ((imax lo.2 t : Int) : Rat) := by
    show cl (t : Rat) (b : Rat) (lo.2 : Rat) = _
    rw [cast_cl (by omega)]
    congr 1
    unfold imin imax at *
    omega
  rw [c1, c2]
  unfold dif
  show anti (((hi.1 : Rat) - (lo.1 : Rat)) / ((hi.2 : Rat) - (lo.2 : Rat))) lo.1 lo.2 l _ - anti (((hi.1 : Rat) - (lo.1 : Rat)) / ((hi.2 : Rat) - (lo.2 : Rat))) lo.1 lo.2 r _ - (anti (((hi.1 : Rat) - (lo.1 : Rat)) / ((hi.2 : Rat) - (lo.2 : Rat))) lo.1 lo.2 l _ - anti (((hi.1 : Rat) - (lo.1 : Rat)) / ((hi.2 : Rat) - (lo.2 : Rat))) lo.1 lo.2 r _) = _
  grind
theorem imax_le {i j m : Int} (h : i ≤ m) (h' : j ≤ m) : imax i j ≤ m := by unfold imax; omega
theorem le_imax_l {i j : Int} : i ≤ imax i j := by unfold imax; omega
theorem le_imax_r {i j : Int} : j ≤ imax i j := by unfold imax; omega
theorem abs_mul_le {a b : Int} {m n : Nat} (ha : a.natAbs ≤ m) (hb : b.natAbs ≤ n) : (a * b).natAbs ≤ m * n := by
  rw [Int.natAbs_mul]; exact Nat.mul_le_mul ha hb
theorem bey_small {lo hi : Int × Int} {top bottom border : Int} (h1 : lo.1.natAbs ≤ 4096) (h2 : lo.2.natAbs ≤ 4096) (h3 : hi.1.natAbs ≤ 4096) (h4 : hi.2.natAbs ≤ 4096) (h5 : top.natAbs ≤ 4096) (h6 : bottom.natAbs ≤ 4096) (h7 : border.natAbs ≤ 4096) :
    (bey lo hi top bottom border).1.natAbs ≤ 2 ^ 60 ∧ (bey lo hi top bottom border).2.natAbs ≤ 2 ^ 60 := by
  have at_ : ∀ y : Int, y.natAbs ≤ 4096 → (imax ((lo.1 - border) * (hi.2 - lo.2) + (y - lo.2) * (hi.1 - lo.1)) 0).natAbs ≤ 134217728 := by
    intro y hy
    have a1 := abs_mul_le (a := lo.1 - border) (b := hi.2 - lo.2) (m := 8192) (n := 8192) (by omega) (by omega)
    have a2 := abs_mul_le (a := y - lo.2) (b := hi.1 - lo.1) (m := 8192) (n := 8192) (by omega) (by omega)
    unfold imax
    generalize (lo.1 - border) * (hi.2 - lo.2) = u at *
    generalize (y - lo.2) * (hi.1 - lo.1) = v at *
    omega
  unfold bey
  by_cases hr : hi.1 - lo.1 = 0
  · rw [if_pos hr]
    have a1 := abs_mul_le (a := bottom - top) (b := imax (lo.1 - border) 0) (m := 8192) (n := 8192) (by omega) (by unfold imax; omega)
    exact ⟨Nat.le_trans a1 (by decide), (by show (1 : Int).natAbs ≤ 2 ^ 60; decide)⟩
  · rw [if_neg hr]
    constructor
    · have a1 := at_ bottom h6
      have a2 := at_ top h5
      generalize imax ((lo.1 - border) * (hi.2 - lo.2) + (bottom - lo.2) * (hi.1 - lo.1)) 0 = u at *
      generalize imax ((lo.1 - border) * (hi.2 - lo.2) + (top - lo.2) * (hi.1 - lo.1)) 0 = v at *
      have b1 := abs_mul_le a1 a1
      have b2 := abs_mul_le a2 a2
      show (u * u - v * v).natAbs ≤ _
      generalize u * u = x at *
      generalize v * v = y at *
      omega
    · have a1 := abs_mul_le (a := 2) (b := hi.1 - lo.1) (m := 2) (n := 8192) (by decide) (by omega)
      have a2 := abs_mul_le (a := 2 * (hi.1 - lo.1)) (b := hi.2 - lo.2) (m := 2 * 8192) (n := 8192) a1 (by omega)
      show (2 * (hi.1 - lo.1) * (hi.2 - lo.2)).natAbs ≤ _
      generalize 2 * (hi.1 - lo.1) * (hi.2 - lo.2) = x at *
      omega
theorem bey_size {lo hi : Int × Int} {top bottom border : Int} (h1 : lo.1.natAbs ≤ 4096) (h2 : lo.2.natAbs ≤ 4096) (h3 : hi.1.natAbs ≤ 4096) (h4 : hi.2.natAbs ≤ 4096) (h5 : top.natAbs ≤ 4096) (h6 : bottom.natAbs ≤ 4096) (h7 : border.natAbs ≤ 4096) :
    (bey lo hi top bottom border).1.natAbs ≤ 2 ^ 79 ∧ (bey lo hi top bottom border).2.natAbs ≤ 2 ^ 79 := by
  have := bey_small h1 h2 h3 h4 h5 h6 h7
  exact ⟨Nat.le_trans this.1 (by decide), Nat.le_trans this.2 (by decide)⟩
end Cv
set_option Elab.async false
set_option maxRecDepth 100000
set_option maxHeartbeats 4000000
namespace Pc
open PySem PySem.Spec PyProof.Rows L2
open PySem.W (Codec)
def top (i : Nat) : Stmt := PySem.Challenge.pw_partcovers_s01_answers.main.body.getD i (.Pass ⟨0, 0, 0, 0⟩)
abbrev sGcd : Stmt := top 1
abbrev sLow : Stmt := top 2
abbrev sNeg : Stmt := top 3
abbrev sNear : Stmt := top 4
abbrev sTotal : Stmt := top 5
abbrev sBoxI : Stmt := inClass (top 9) 0
abbrev sPixBox : Stmt := top 10
abbrev sPicBox : Stmt := top 11
abbrev sEdges : Stmt := top 12
abbrev sEdgesAll : Stmt := top 13
abbrev sBeyond : Stmt := top 14
abbrev sLeft : Stmt := top 15
abbrev sShare : Stmt := top 16
abbrev sCovOf : Stmt := top 17
abbrev sAreaOf : Stmt := top 18
abbrev sFlat : Stmt := top 20
abbrev sLine : Stmt := top 21
abbrev sIsSide : Stmt := top 32
abbrev sPlain : Stmt := top 33
abbrev sPairs : Stmt := top 34
abbrev sFilled : Stmt := top 35
abbrev sSesI : Stmt := inClass (top 36) 0
abbrev sBegin : Stmt := inClass (top 36) 1
abbrev sAdd : Stmt := inClass (top 36) 2
abbrev sCount : Stmt := inClass (top 36) 3
abbrev sClear : Stmt := inClass (top 36) 4
abbrev sHas : Stmt := inClass (top 36) 5
abbrev sCov : Stmt := inClass (top 36) 6
abbrev sArea : Stmt := inClass (top 36) 7
abbrev sTotCov : Stmt := inClass (top 36) 8
abbrev sPaint : Stmt := inClass (top 36) 9
abbrev sFill : Stmt := inClass (top 36) 10
abbrev sDraw : Stmt := inClass (top 36) 11
abbrev sRow : Stmt := inClass (top 36) 12
abbrev sRev : Stmt := inClass (top 36) 13
abbrev sLen : Stmt := top 49
abbrev sTo : Stmt := top 50
abbrev sAns : Stmt := top 51
/-- a def that stands under its name in the module -/
structure Df (K : PySem.W.Frag) (mg : Str → Option Value) (x : Str) (f : Addr) (fd : FuncData) (ps : List Str) : Prop where
  mg : mg x = some (.ref f)
  kp : PySem.W.keepIn K (.ref f) = true
  bn : Binds K fd ps []
/-- the names of Python's own that the program calls -/
structure Own (mg : Str → Option Value) : Prop where
  abs : mg "abs" = none
  max : mg "max" = none
  min : mg "min" = none
  range : mg "range" = none
  len : mg "len" = none
  sum : mg "sum" = none
  list : mg "list" = none
  reversed : mg "reversed" = none
theorem if_true_of {c : Bool} {A B : Prop} (hc : c = true) (h : A) : if c = true then A else B := by
  rw [if_pos hc]
  exact h
theorem if_false_of {c : Bool} {A B : Prop} (hc : c = false) (h : B) : if c = true then A else B := by
  rw [hc, if_neg Bool.false_ne_true]
  exact h
/-- a test's answer, both ways -/
theorem if_both {c : Prop} [Decidable c] {A B : Prop} (h1 : c → A) (h2 : ¬ c → B) : if decide c = true then A else B := by
  by_cases h : c
  · exact if_true_of (decide_eq_true h) (h1 h)
  · exact if_false_of (decide_eq_false h) (h2 h)
theorem same_upd {H : Hp} {p : Addr} {o : HO} (hp : H p = none) : Same H (upd H p o) := fun b u e => by rw [upd_ne (ne_of_none e hp)]; exact e
theorem sNew {H H' : Hp} {p : Addr} {o : HO} (s : Same H H') (hp : H' p = none) : Same H (L2.upd H' p o) := Same.trans s (same_upd hp)
/-- behind a store at a place that was not there at first -/
theorem sOld {H H' : Hp} {p : Addr} {o : HO} (s : Same H H') (hp : H p = none) : Same H (L2.upd H' p o) := fun b u e => by rw [upd_ne (ne_of_none e hp)]; exact s b u e
theorem dint {i j : Int} : decide (V.int i = V.int j) = decide (i = j) := by
  by_cases h : i = j
  · subst h; simp
  · have : ¬ V.int i = V.int j := fun e => h (by injection e)
    rw [decide_eq_false h, decide_eq_false this]
theorem map_at {α : Type} {f : α → V} {l : List α} {i : Nat} {x : V} (h : (l.map f)[i]? = some x) : ∃ z, l[i]? = some z ∧ x = f z := by
  rw [List.getElem?_map] at h
  cases e : l[i]? with
  | none => rw [e] at h; cases h
  | some z => rw [e] at h; exact ⟨z, rfl, (Option.some.inj h).symm⟩
theorem at_map {α : Type} {f : α → V} {l : List α} {i : Nat} {z : α} (h : l[i]? = some z) : (l.map f)[i]? = some (f z) := by
  rw [List.getElem?_map, h]; rfl
theorem take_more {α : Type} : ∀ {l : List α} {i : Nat} {x : α}, l[i]? = some x → l.take (i + 1) = l.take i ++ [x]
  | [], i, x, h => by simp at h
  | a :: l, 0, x, h => by
    have e : a = x := Option.some.inj h
    subst e
    rfl
  | a :: l, i + 1, x, h => by
    have ih := take_more (l := l) (i := i) (x := x) h
    show a :: l.take (i + 1) = a :: l.take i ++ [x]
    rw [ih]
    rfl
end Pc
set_option Elab.async false
set_option maxRecDepth 100000
set_option maxHeartbeats 4000000
namespace Pc
open PySem PySem.Spec PyProof.Rows L2
section
variable {P : Program} {w : World} {K : PySem.W.Frag} {mg : Str → Option Value} {base : Heap}
/-! ratio.common_divisor -/
def spGcd : Sp := fun vs H Q _ => ∃ a b : Nat, vs = [.int a, .int b] ∧ Q (.int (Nat.gcd a b : Nat)) H
theorem scGcd : FnScope ["first", "second", "rest"] ["first", "second"] (defScope sGcd) := ⟨rfl, rfl, rfl, by decide +kernel, rfl, by decide +kernel, by decide +kernel⟩
def muGcd : L2.St → Nat
  | [_, some (.int n), _] => n.toNat
  | _ => 0
theorem ok_gcd {f : Addr} {fd : FuncData} (F : Fun K "common_divisor" "common_divisor" sGcd f fd) : FnOk P w K mg base CX0 1 f fd ["first", "second"] spGcd := by
  refine F.ok scGcd (fun vs H Q E h => ?_) (fun cdv A outer s H vs Q E hr h => ?_)
  · obtain ⟨a, b, rfl, _⟩ := h; rfl
  · obtain ⟨a, b, rfl, k⟩ := h
    refine ⟨_, pss_cons (ps_while PassesOwn.never (pt_cmpR op_ne (pv 1) pe_int (nomark _))
        (pss_cons (ps_set (i := 2) scGcd.nd rfl (Or.inl rfl) (pe_op op_modN (pv 0) (pv 1)))
        (pss_cons (ps_set (i := 0) scGcd.nd rfl (Or.inl rfl) (pv 1))
        (pss_one (ps_set (i := 1) scGcd.nd rfl (Or.inl rfl) (pv 2))))))
      (pss_one (ps_ret (pv 0))), ?_⟩
    refine while_by (fun σ H' => H' = H ∧ ∃ (m n : Nat) (v : Option V), σ = [some (.int m), some (.int n), v] ∧ Nat.gcd m n = Nat.gcd a b) (fun σ _ => muGcd σ)
      ⟨rfl, a, b, none, rfl, rfl⟩ ?_ ?_
    · rintro σ H' ⟨rfl, m, n, v, rfl, hg⟩
      refine ⟨_, rfl, rfl, _, rfl, ?_⟩
      rw [dint]
      by_cases hn : (n : Int) = 0
      · refine if_false_of (by rw [decide_eq_true hn]; rfl) ?_
        have hn' : n = 0 := by omega
        subst hn'
        rw [Nat.gcd_zero_right] at hg
        subst hg
        exact ⟨_, rfl, k⟩
      · refine if_true_of (by rw [decide_eq_false hn]; rfl) ?_
        refine ⟨_, rfl, _, rfl, _, _, rfl, rfl, hn, ?_⟩
        refine ⟨_, rfl, ?_⟩
        refine ⟨_, rfl, ?_⟩
        have e : Int.fmod (m : Int) (n : Int) = ((m % n : Nat) : Int) := by
          rw [Int.fmod_eq_emod_of_nonneg _ (by omega)]; rfl
        refine ⟨⟨rfl, n, m % n, some (.int (Int.fmod m n)), ?_, ?_⟩, ?_⟩
        · show [some (V.int n), some (V.int (Int.fmod m n)), some (V.int (Int.fmod m n))] = _
          rw [e]
        · rw [← hg, Nat.gcd_comm n, ← Nat.gcd_rec, Nat.gcd_comm]
        · show muGcd [_, some (.int (Int.fmod m n)), _] < muGcd [_, some (.int n), _]
          rw [e]
          show ((m % n : Nat) : Int).toNat < (n : Int).toNat
          have := Nat.mod_lt m (show n > 0 by omega)
          omega
    · rintro σ H' Q Q' hq ⟨v, h1, h2, k', e, h3⟩
      exact ⟨v, h1, h2, k', e, hq _ _ h3⟩
/-! ratio.lowest_terms -/
/-- a fraction in lowest terms, as a tuple at a new place -/
def RetPair (H : Hp) (Q : VK) (n d : Int) : Prop := ∀ (H' : Hp) (p : Addr), Same H H' → H p = none → H' p = some (.tup [.int n, .int d]) → Q (.ref p) H'
def RetQ (H : Hp) (Q : VK) (q : Rat) : Prop := RetPair H Q q.num q.den
def spLow : Sp := fun vs H Q _ => ∃ n d : Int, vs = [.int n, .int d] ∧ 0 < d ∧ d.natAbs < 2 ^ 9000 ∧ RetQ H Q ((n : Rat) / (d : Rat))
theorem scLow : FnScope ["numerator", "denominator", "divisor"] ["numerator", "denominator"] (defScope sLow) := ⟨rfl, rfl, rfl, by decide +kernel, rfl, by decide +kernel, by decide +kernel⟩
theorem abs_eq (i : Int) : (if i < 0 then -i else i) = (i.natAbs : Int) := by
  by_cases h : i < 0
  · rw [if_pos h]; omega
  · rw [if_neg h]; omega
theorem low_num {n d : Int} (hd : 0 < d) : ((n : Rat) / (d : Rat)).num = n / ((Nat.gcd n.natAbs d.natAbs : Nat) : Int) := by
  have h := Cv.frac_eq n d.natAbs (by omega)
  have e : ((d.natAbs : Nat) : Rat) = (d : Rat) := by
    have : ((d.natAbs : Int) : Rat) = (d : Rat) := by congr 1; omega
    rw [← this]; rfl
  rw [e] at h
  have h2 : (Sq43.frac n d.natAbs).n = ((n : Rat) / (d : Rat)).num := by rw [h]; rfl
  rw [← h2]
  unfold Sq43.frac
  by_cases hn : n = 0
  · subst hn; simp
  · rw [if_neg hn]
theorem low_den {n d : Int} (hd : 0 < d) : ((((n : Rat) / (d : Rat)).den : Nat) : Int) = d / ((Nat.gcd n.natAbs d.natAbs : Nat) : Int) := by
  have h := Cv.frac_eq n d.natAbs (by omega)
  have e : ((d.natAbs : Nat) : Rat) = (d : Rat) := by
    have : ((d.natAbs : Int) : Rat) = (d : Rat) := by congr 1; omega
    rw [← this]; rfl
  rw [e] at h
  have h2 : (Sq43.frac n d.natAbs).d = ((n : Rat) / (d : Rat)).den := by rw [h]; rfl
  rw [← h2]
  have hdd : (d.natAbs : Int) = d := by omega
  unfold Sq43.frac
  by_cases hn : n = 0
  · subst hn
    have : ((0 : Int).natAbs.gcd d.natAbs) = d.natAbs := by simp
    rw [if_pos rfl, this, hdd, Int.ediv_self (by omega)]
    rfl
  · rw [if_neg hn]
    show ((d.natAbs / _ : Nat) : Int) = _
    rw [Int.natCast_ediv, hdd]
theorem ok_low {f f1 : Addr} {fd fd1 : FuncData} (F : Fun K "lowest_terms" "lowest_terms" sLow f fd) (O : Own mg) (G : FnOk P w K mg base CX0 1 f1 fd1 ["first", "second"] spGcd) (D : Df K mg "common_divisor" f1 fd1 ["first", "second"]) :
    FnOk P w K mg base CX0 2 f fd ["numerator", "denominator"] spLow := by
  refine F.ok scLow (fun vs H Q E h => ?_) (fun cdv A outer s H vs Q E hr h => ?_)
  · obtain ⟨a, b, rfl, _⟩ := h; rfl
  · obtain ⟨n, d, rfl, hd, hb, k⟩ := h
    refine ⟨_, pss_cons (ps_set (i := 2) scLow.nd rfl (Or.inl rfl) (pe_call G hr rfl D.mg D.kp D.bn .nil pass0 (pa_cons (pe_callB call_abs (by rfl) O.abs (by decide +kernel) (pa_cons (pv 0) pa_nil)) (pa_cons (pe_callB call_abs (by rfl) O.abs (by decide +kernel) (pa_cons (pv 1) pa_nil)) pa_nil))))
      (pss_cons (ps_if (pt_cmpR op_lt (pv 1) pe_int (nomark _)) (pss_one (ps_set (i := 2) scLow.nd rfl (Or.inl rfl) (pe_un un_neg (pv 2)))) pss_nil)
      (pss_one (ps_ret (pe_tup (pa_cons (pe_op op_fdivW (pv 0) (pv 2)) (pa_cons (pe_op op_fdivW (pv 1) (pv 2)) pa_nil)))))), ?_⟩
    refine ⟨_, rfl, _, rfl, _, rfl, _, rfl, n.natAbs, d.natAbs, by rw [abs_eq, abs_eq]; rfl, ?_⟩
    refine ⟨_, rfl, _, _, rfl, rfl, _, rfl, ?_⟩
    refine if_false_of (decide_eq_false (by omega)) ?_
    have hg : 0 < ((Nat.gcd n.natAbs d.natAbs : Nat) : Int) := by
      have := Nat.gcd_pos_of_pos_right n.natAbs (show 0 < d.natAbs by omega)
      omega
    have hw : CDivW n ((Nat.gcd n.natAbs d.natAbs : Nat) : Int) := wide_div hg (Nat.lt_of_le_of_lt (by
      have := Nat.le_of_dvd (show 0 < d.natAbs by omega) (Nat.gcd_dvd_right n.natAbs d.natAbs)
      omega) hb) (by decide) (by decide)
    refine ⟨_, rfl, _, rfl, _, _, rfl, rfl, hw, _, rfl, _, rfl, _, _, rfl, rfl, hw, (by show 2 ≤ sizeLine; decide), fun p hp => ?_⟩
    refine k _ p (same_upd hp) hp ?_
    rw [upd_same, low_num hd, low_den hd]
/-! ratio.negated -/
def spNeg : Sp := fun vs H Q _ => ∃ (a : Addr) (n d : Int), vs = [.ref a] ∧ H a = some (.tup [.int n, .int d]) ∧ RetPair H Q (-n) d
theorem scNeg : FnScope ["fraction"] ["fraction"] (defScope sNeg) := ⟨rfl, rfl, rfl, by decide +kernel, rfl, by decide +kernel, by decide +kernel⟩
theorem ok_neg {f : Addr} {fd : FuncData} (F : Fun K "negated" "negated" sNeg f fd) : FnOk P w K mg base CX0 1 f fd ["fraction"] spNeg := by
  refine F.ok scNeg (fun vs H Q E h => ?_) (fun cdv A outer s H vs Q E hr h => ?_)
  · obtain ⟨a, n, d, rfl, _⟩ := h; rfl
  · obtain ⟨a, n, d, rfl, ha, k⟩ := h
    refine ⟨_, pss_one (ps_ret (pe_tup (pa_cons (pe_un un_neg (pe_ix ix_tup (pv 0) pe_int (fun _ _ => rfl))) (pa_cons (pe_ix ix_tup (pv 0) pe_int (fun _ _ => rfl)) pa_nil)))), ?_⟩
    refine ⟨_, rfl, _, _, _, _, rfl, rfl, SqT.of ha, rfl, _, rfl, _, rfl, _, _, _, _, rfl, rfl, SqT.of ha, rfl, (by show 2 ≤ sizeLine; decide), fun p hp => ?_⟩
    exact k _ p (same_upd hp) hp upd_same
/-! ratio.nearest -/
def near (n d : Int) : Int := (2 * n + d) / (2 * d)
def spNear : Sp := fun vs H Q _ => ∃ n d : Int, vs = [.int n, .int d] ∧ 0 < d ∧ d.natAbs < 2 ^ 8000 ∧ Q (.int (near n d)) H
theorem scNear : FnScope ["numerator", "denominator"] ["numerator", "denominator"] (defScope sNear) := ⟨rfl, rfl, rfl, by decide +kernel, rfl, by decide +kernel, by decide +kernel⟩
theorem two_pow (k : Nat) : 2 * 2 ^ k = 2 ^ (k + 1) := by rw [Nat.pow_succ, Nat.mul_comm]
theorem ok_near {f : Addr} {fd : FuncData} (F : Fun K "nearest" "nearest" sNear f fd) : FnOk P w K mg base CX0 1 f fd ["numerator", "denominator"] spNear := by
  refine F.ok scNear (fun vs H Q E h => ?_) (fun cdv A outer s H vs Q E hr h => ?_)
  · obtain ⟨n, d, rfl, _⟩ := h; rfl
  · obtain ⟨n, d, rfl, hd, hb, k⟩ := h
    refine ⟨_, pss_one (ps_ret (pe_op op_fdivW (pe_op op_add (pe_op op_mul pe_int (pv 0)) (pv 1)) (pe_op op_mul pe_int (pv 1)))), ?_⟩
    refine ⟨_, rfl, _, _, rfl, rfl, .inl ⟨by decide, by decide⟩, _, rfl, _, _, rfl, rfl, _, rfl, _, _, rfl, rfl, .inl ⟨by decide, by decide⟩, _, _, rfl, rfl, wide_div (by omega) (b := 8001) ?_ (by decide) (by decide), k⟩
    have := two_pow 8000
    generalize 2 ^ 8000 = x at *
    generalize 2 ^ (8000 + 1) = y at *
    omega
end
end Pc
set_option Elab.async false
set_option maxRecDepth 100000
set_option maxHeartbeats 4000000
namespace Pc
open PySem PySem.Spec PyProof.Rows L2
/-- pairs of whole numbers, each a tuple of its own -/
def PtsAt (H : Hp) (ps : List Addr) (c : List (Int × Int)) : Prop :=
  ps.length = c.length ∧ ∀ (i : Nat) (p : Addr) (z : Int × Int), ps[i]? = some p → c[i]? = some z → H p = some (.tup [.int z.1, .int z.2])
theorem PtsAt.nil (H : Hp) : PtsAt H [] [] := ⟨rfl, fun i p z h => by simp at h⟩
theorem PtsAt.same {H H' : Hp} {ps : List Addr} {c : List (Int × Int)} (x : PtsAt H ps c) (s : ∀ b xs, H b = some (.tup xs) → H' b = some (.tup xs)) : PtsAt H' ps c :=
  ⟨x.1, fun i p z h1 h2 => s _ _ (x.2 i p z h1 h2)⟩
theorem sTup {H H' : Hp} (s : Same H H') : ∀ b xs, H b = some (.tup xs) → H' b = some (.tup xs) := fun b _ e => s b _ e
theorem PtsAt.snoc {H : Hp} {ps : List Addr} {c : List (Int × Int)} {p : Addr} {z : Int × Int} (x : PtsAt H ps c) (h : H p = some (.tup [.int z.1, .int z.2])) : PtsAt H (ps ++ [p]) (c ++ [z]) := by
  refine ⟨by rw [List.length_append, List.length_append, x.1]; rfl, fun i q y h1 h2 => ?_⟩
  by_cases hi : i < ps.length
  · rw [List.getElem?_append_left hi] at h1
    rw [List.getElem?_append_left (by rw [← x.1]; exact hi)] at h2
    exact x.2 i q y h1 h2
  · rw [List.getElem?_append_right (by omega)] at h1
    rw [List.getElem?_append_right (by have := x.1; omega), ← x.1] at h2
    have e : i - ps.length = 0 := by
      have := (List.getElem?_eq_some_iff.mp h1).1
      simp at this; omega
    rw [e] at h1 h2
    cases h1; cases h2
    exact h
theorem PtsAt.get {H : Hp} {ps : List Addr} {c : List (Int × Int)} {i : Nat} {p : Addr} (x : PtsAt H ps c) (h : ps[i]? = some p) : ∃ z, c[i]? = some z ∧ H p = some (.tup [.int z.1, .int z.2]) := by
  have hi : i < c.length := by rw [← x.1]; exact (List.getElem?_eq_some_iff.mp h).1
  exact ⟨c[i], List.getElem?_eq_getElem hi, x.2 i p _ h (List.getElem?_eq_getElem hi)⟩
theorem PtsAt.get' {H : Hp} {ps : List Addr} {c : List (Int × Int)} {i : Nat} {z : Int × Int} (x : PtsAt H ps c) (h : c[i]? = some z) : ∃ p, ps[i]? = some p ∧ H p = some (.tup [.int z.1, .int z.2]) := by
  have hi : i < ps.length := by rw [x.1]; exact (List.getElem?_eq_some_iff.mp h).1
  exact ⟨ps[i], List.getElem?_eq_getElem hi, x.2 i _ z (List.getElem?_eq_getElem hi) h⟩
/-! ratio.total -/
def accStep (s z : Int × Int) : Int × Int := (s.1 * z.2 + z.1 * s.2, s.2 * z.2)
def accF (fs : List (Int × Int)) : Int × Int := fs.foldl accStep (0, 1)
def sumF (fs : List (Int × Int)) : Rat := (fs.map fun z => (z.1 : Rat) / (z.2 : Rat)).sum
theorem accF_snoc (fs : List (Int × Int)) (z : Int × Int) : accF (fs ++ [z]) = accStep (accF fs) z := by
  unfold accF; rw [List.foldl_append]; rfl
theorem acc_val : ∀ (fs : List (Int × Int)) (s : Int × Int), s.2 ≠ 0 → (∀ z ∈ fs, z.2 ≠ 0) → (fs.foldl accStep s).2 ≠ 0 ∧ ((fs.foldl accStep s).1 : Rat) / ((fs.foldl accStep s).2 : Rat) = (s.1 : Rat) / (s.2 : Rat) + sumF fs
  | [], s, h, _ => ⟨h, by show _ = _ + (0 : Rat); grind⟩
  | z :: fs, s, h, hz => by
    have h1 : z.2 ≠ 0 := hz z (by simp)
    have h2 : (accStep s z).2 ≠ 0 := Int.mul_ne_zero h h1
    obtain ⟨a, b⟩ := acc_val fs (accStep s z) h2 (fun y hy => hz y (by simp [hy]))
    refine ⟨a, b.trans ?_⟩
    have e : sumF (z :: fs) = (z.1 : Rat) / (z.2 : Rat) + sumF fs := by unfold sumF; rw [List.map_cons, List.sum_cons]
    rw [e]
    have q1 := Cv.cast_ne h
    have q2 := Cv.cast_ne h1
    show ((s.1 * z.2 + z.1 * s.2 : Int) : Rat) / ((s.2 * z.2 : Int) : Rat) + sumF fs = _
    rw [Rat.intCast_add, Rat.intCast_mul, Rat.intCast_mul, Rat.intCast_mul]
    generalize (s.1 : Rat) = s1 at *
    generalize (s.2 : Rat) = s2 at *
    generalize (z.1 : Rat) = z1 at *
    generalize (z.2 : Rat) = z2 at *
    grind
theorem accF_val {fs : List (Int × Int)} (hz : ∀ z ∈ fs, z.2 ≠ 0) : ((accF fs).1 : Rat) / ((accF fs).2 : Rat) = sumF fs := by
  have := (acc_val fs (0, 1) (by decide) hz).2
  unfold accF
  rw [this]
  have e : (((0 : Int) : Rat)) / ((1 : Int) : Rat) = 0 := by
    have : ((0 : Int) : Rat) = 0 := rfl
    rw [this]; grind
  show ((0 : Int) : Rat) / ((1 : Int) : Rat) + sumF fs = sumF fs
  rw [e]; grind
theorem natAbs_add_le (a b : Int) : (a + b).natAbs ≤ a.natAbs + b.natAbs := by omega
theorem acc_bound : ∀ (fs : List (Int × Int)) (s : Int × Int) (m : Nat), s.1.natAbs ≤ 2 ^ m → s.2.natAbs ≤ 2 ^ m → (∀ z ∈ fs, z.1.natAbs ≤ 2 ^ 79 ∧ z.2.natAbs ≤ 2 ^ 79) →
    (fs.foldl accStep s).1.natAbs ≤ 2 ^ (m + 80 * fs.length) ∧ (fs.foldl accStep s).2.natAbs ≤ 2 ^ (m + 80 * fs.length)
  | [], s, m, h1, h2, _ => ⟨h1, h2⟩
  | z :: fs, s, m, h1, h2, hz => by
    obtain ⟨b1, b2⟩ := hz z (by simp)
    have e : 2 ^ (m + 80) = 2 ^ m * 2 ^ 79 + 2 ^ m * 2 ^ 79 := by rw [Nat.pow_add, Nat.pow_succ 2 79, ← Nat.mul_assoc, Nat.mul_two]
    have c1 : (accStep s z).1.natAbs ≤ 2 ^ (m + 80) := by
      refine Nat.le_trans (natAbs_add_le _ _) ?_
      rw [Int.natAbs_mul, Int.natAbs_mul, e]
      have x1 := Nat.mul_le_mul h1 b2
      have x2 := Nat.mul_le_mul h2 b1
      rw [Nat.mul_comm z.1.natAbs]
      exact Nat.add_le_add x1 x2
    have c2 : (accStep s z).2.natAbs ≤ 2 ^ (m + 80) := by
      show (s.2 * z.2).natAbs ≤ _
      rw [Int.natAbs_mul, e]
      have x1 := Nat.mul_le_mul h2 b2
      exact Nat.le_trans x1 (Nat.le_add_left _ _)
    have := acc_bound fs (accStep s z) (m + 80) c1 c2 (fun y hy => hz y (by simp [hy]))
    rw [List.length_cons]
    have e2 : m + 80 * (fs.length + 1) = m + 80 + 80 * fs.length := by omega
    rw [e2]
    exact this
theorem accF_bound {fs : List (Int × Int)} (hz : ∀ z ∈ fs, z.1.natAbs ≤ 2 ^ 79 ∧ z.2.natAbs ≤ 2 ^ 79) : (accF fs).1.natAbs ≤ 2 ^ (80 * fs.length) ∧ (accF fs).2.natAbs ≤ 2 ^ (80 * fs.length) := by
  have := acc_bound fs (0, 1) 0 (by decide) (by decide) hz
  rw [Nat.zero_add] at this
  exact this
theorem pow_lt_of {a b : Nat} {x : Nat} (h : x ≤ 2 ^ a) (hab : a < b) : x < 2 ^ b := Nat.lt_of_le_of_lt h (Nat.pow_lt_pow_right (by decide) hab)
section
variable {P : Program} {w : World} {K : PySem.W.Frag} {mg : Str → Option Value} {base : Heap}
def FracsOk (fs : List (Int × Int)) : Prop := ∀ z ∈ fs, z.2 ≠ 0 ∧ z.1.natAbs ≤ 2 ^ 79 ∧ z.2.natAbs ≤ 2 ^ 79
def spTotal (K : PySem.W.Frag) : Sp := fun vs H Q _ => ∃ (a : Addr) (ps : List Addr) (fs : List (Int × Int)), vs = [.ref a] ∧ SqL K H a (ps.map V.ref) ∧ PtsAt H ps fs ∧ fs.length ≤ 60 ∧ FracsOk fs ∧ 0 < (accF fs).2 ∧ RetQ H Q (sumF fs)
theorem scTotal : FnScope ["fractions", "numerator", "denominator", "fraction"] ["fractions"] (defScope sTotal) := ⟨rfl, rfl, rfl, by decide +kernel, rfl, by decide +kernel, by decide +kernel⟩
theorem ok_total {f f1 : Addr} {fd fd1 : FuncData} (F : Fun K "total" "total" sTotal f fd) (G : FnOk P w K mg base CX0 2 f1 fd1 ["numerator", "denominator"] spLow) (D : Df K mg "lowest_terms" f1 fd1 ["numerator", "denominator"]) :
    FnOk P w K mg base CX0 3 f fd ["fractions"] (spTotal K) := by
  refine F.ok scTotal (fun vs H Q E h => ?_) (fun cdv A outer s H vs Q E hr h => ?_)
  · obtain ⟨a, ps, fs, rfl, _⟩ := h; rfl
  · obtain ⟨a, ps, fs, rfl, hS, hP, hlen, hok, hpos, k⟩ := h
    refine ⟨_, pss_cons (ps_set (i := 1) scTotal.nd rfl (Or.inl rfl) pe_int)
      (pss_cons (ps_set (i := 2) scTotal.nd rfl (Or.inl rfl) pe_int)
      (pss_cons (ps_for PassesOwn.never rfl (pi_list (pv 0)) (pg_name (i := 3) scTotal.nd rfl (Or.inl rfl))
        (pss_cons (ps_set (i := 1) scTotal.nd rfl (Or.inl rfl) (pe_op op_add (pe_op op_mulW (pv 1) (pe_ix ix_tup (pv 3) pe_int (fun _ _ => rfl))) (pe_op op_mulW (pe_ix ix_tup (pv 3) pe_int (fun _ _ => rfl)) (pv 2))))
        (pss_one (ps_set (i := 2) scTotal.nd rfl (Or.inl rfl) (pe_op op_mulW (pv 2) (pe_ix ix_tup (pv 3) pe_int (fun _ _ => rfl)))))))
      (pss_one (ps_ret (pe_call G hr rfl D.mg D.kp D.bn .nil pass0 (pa_cons (pv 1) (pa_cons (pv 2) pa_nil))))))), ?_⟩
    refine ⟨_, rfl, a, rfl, ⟨_, hS⟩, for_list (K := K) (a := a) (xs := ps.map V.ref)
      (fun i σ H' => H' = H ∧ ∃ v : Option V, σ = [some (.ref a), some (.int (accF (fs.take i)).1), some (.int (accF (fs.take i)).2), v])
      ⟨rfl, none, rfl⟩ (fun i σ H' _ e => by rw [e.1]; exact hS) ?_ ?_⟩
    · rintro i x σ H' hi ⟨rfl, v, rfl⟩
      obtain ⟨p, hp, rfl⟩ := map_at hi
      obtain ⟨z, hz, ht⟩ := hP.get hp
      have hzm : z ∈ fs := List.mem_of_getElem? hz
      have hzt : ∀ y ∈ fs.take i, y.1.natAbs ≤ 2 ^ 79 ∧ y.2.natAbs ≤ 2 ^ 79 := fun y hy => (hok y (List.mem_of_mem_take hy)).2
      obtain ⟨b1, b2⟩ := accF_bound hzt
      have hl : (fs.take i).length ≤ 60 := by rw [List.length_take]; omega
      have b1' : (accF (fs.take i)).1.natAbs < 2 ^ 5000 := pow_lt_of b1 (by omega)
      have b2' : (accF (fs.take i)).2.natAbs < 2 ^ 5000 := pow_lt_of b2 (by omega)
      have c1 : z.1.natAbs < 2 ^ 80 := pow_lt_of (hok z hzm).2.1 (by decide)
      have c2 : z.2.natAbs < 2 ^ 80 := pow_lt_of (hok z hzm).2.2 (by decide)
      refine ⟨_, rfl, _, rfl, _, _, _, _, rfl, rfl, SqT.of ht, rfl, _, _, rfl, rfl, wide_mul b1' c2 (by decide) (by decide) (by decide), _, rfl, _, _, _, _, rfl, rfl, SqT.of ht, rfl, _, rfl, _, _, rfl, rfl, wide_mul c1 b2' (by decide) (by decide) (by decide), _, _, rfl, rfl, ?_⟩
      refine ⟨_, rfl, _, rfl, _, _, _, _, rfl, rfl, SqT.of ht, rfl, _, _, rfl, rfl, wide_mul b2' c2 (by decide) (by decide) (by decide), ?_⟩
      refine ⟨rfl, some (.ref p), ?_⟩
      rw [take_more hz, accF_snoc]
      rfl
    · rintro σ H' ⟨rfl, v, rfl⟩
      rw [List.length_map, hP.1, List.take_length]
      have hb := (accF_bound (fs := fs) fun y hy => (hok y hy).2).2
      refine ⟨_, rfl, _, rfl, _, _, rfl, hpos, pow_lt_of hb (by omega), ?_⟩
      rw [accF_val fun z hz => (hok z hz).1]
      exact k
end
end Pc
set_option Elab.async false
set_option maxRecDepth 100000
set_option maxHeartbeats 4000000
namespace Pc
open PySem PySem.Spec PyProof.Rows L2
theorem lk_here {k : Str} {v : V} {r : List (Str × V)} : List.lookup k ((k, v) :: r) = some v := by
  have e : (k == k) = true := beq_self_eq_true k
  simp only [List.lookup, e]
theorem lk_past {k g : Str} {v : V} {r : List (Str × V)} (h : (k == g) = false) : List.lookup k ((g, v) :: r) = List.lookup k r := by
  simp only [List.lookup, h]
theorem put_here {f : Str} {v x : V} {r : List (Str × V)} : putF f v ((f, x) :: r) = (f, v) :: r := if_pos rfl
theorem put_past {f g : Str} {v x : V} {r : List (Str × V)} (h : ¬ g = f) : putF f v ((g, x) :: r) = (g, x) :: putF f v r := if_neg h
/-- a whole number of the module -/
theorem pe_gi {X : Cx} {x : Str} {i : Int} {t : Tok} {pos : Pos} (hg : Gl X x) (hm : X.mg x = some (.int i t)) (hd : (x == ("__debug__" : Str)) = false := by decide) : PE X (.Name x pos) (tC (.int i)) := pe_glob hg hm ⟨t, rfl⟩ hd
/-! figure.Box -/
structure Bx where
  l : Int
  t : Int
  r : Int
  b : Int
def boxF (x : Bx) : List (Str × V) := [("left", .int x.l), ("top", .int x.t), ("right", .int x.r), ("bottom", .int x.b)]
def BoxAt (C : Addr) (H : Hp) (a : Addr) (x : Bx) : Prop := ∃ dx, H a = some (.ins C dx (boxF x))
theorem boxF_l (x : Bx) : (boxF x).lookup ("left" : Str) = some (.int x.l) := lk_here
theorem boxF_t (x : Bx) : (boxF x).lookup ("top" : Str) = some (.int x.t) := (lk_past (by decide +kernel)).trans lk_here
theorem boxF_r (x : Bx) : (boxF x).lookup ("right" : Str) = some (.int x.r) := (lk_past (by decide +kernel)).trans ((lk_past (by decide +kernel)).trans lk_here)
theorem boxF_b (x : Bx) : (boxF x).lookup ("bottom" : Str) = some (.int x.b) := (lk_past (by decide +kernel)).trans ((lk_past (by decide +kernel)).trans ((lk_past (by decide +kernel)).trans lk_here))
theorem boxF_new (x : Bx) : putF "bottom" (.int x.b) (putF "right" (.int x.r) (putF "top" (.int x.t) (putF "left" (.int x.l) []))) = boxF x := by
  have e1 : putF "left" (.int x.l) [] = [(("left" : Str), V.int x.l)] := rfl
  have e2 : putF "top" (.int x.t) [(("left" : Str), V.int x.l)] = [(("left" : Str), V.int x.l), (("top" : Str), V.int x.t)] := (put_past (by decide +kernel)).trans rfl
  have e3 : putF "right" (.int x.r) [(("left" : Str), V.int x.l), (("top" : Str), V.int x.t)] = [(("left" : Str), V.int x.l), (("top" : Str), V.int x.t), (("right" : Str), V.int x.r)] :=
    (put_past (by decide +kernel)).trans (congrArg _ ((put_past (by decide +kernel)).trans rfl))
  have e4 : putF "bottom" (.int x.b) [(("left" : Str), V.int x.l), (("top" : Str), V.int x.t), (("right" : Str), V.int x.r)] = boxF x :=
    (put_past (by decide +kernel)).trans (congrArg _ ((put_past (by decide +kernel)).trans (congrArg _ ((put_past (by decide +kernel)).trans rfl))))
  rw [e1, e2, e3, e4]
/-- what stands of the class Box and of the figure's constants -/
structure TxB (K : PySem.W.Frag) (mg : Str → Option Value) (C : Addr) : Prop where
  cl : Cls K C
  nL : NoAttr K C "left"
  nT : NoAttr K C "top"
  nR : NoAttr K C "right"
  nB : NoAttr K C "bottom"
  mgC : mg "Box" = some (.ref C)
  units : ∃ t, mg "UNITS" = some (.int 16 t)
  square : ∃ t, mg "SQUARE_UNITS" = some (.int 256 t)
section
variable {P : Program} {w : World} {K : PySem.W.Frag} {mg : Str → Option Value} {base : Heap} {C : Addr}
def spBoxI (C : Addr) : Sp := fun vs H Q _ => ∃ (p dx : Addr) (x : Bx), vs = [.ref p, .int x.l, .int x.t, .int x.r, .int x.b] ∧ H p = some (.ins C dx []) ∧
  ∀ H' : Hp, BoxAt C H' p x → (∀ b o, H b = some o → b ≠ p → H' b = some o) → Q .non H'
theorem scBoxI : FnScope ["self", "left", "top", "right", "bottom"] ["self", "left", "top", "right", "bottom"] (defScope sBoxI) := ⟨rfl, rfl, rfl, by decide +kernel, rfl, by decide +kernel, by decide +kernel⟩
theorem ok_boxI {f : Addr} {fd : FuncData} (F : Fun K "__init__" "Box.__init__" sBoxI f fd) (T : TxB K mg C) : FnOk P w K mg base CX0 1 f fd ["self", "left", "top", "right", "bottom"] (spBoxI C) := by
  refine F.ok scBoxI (fun vs H Q E h => ?_) (fun cdv A outer s H vs Q E hr h => ?_)
  · obtain ⟨p, dx, x, rfl, _⟩ := h; rfl
  · obtain ⟨p, dx, x, rfl, hp, k⟩ := h
    refine ⟨_, pss_cons (ps_fld (pv 0) (pv 1) rfl) (pss_cons (ps_fld (pv 0) (pv 2) rfl) (pss_cons (ps_fld (pv 0) (pv 3) rfl) (pss_one (ps_fld (pv 0) (pv 4) rfl)))), ?_⟩
    refine ⟨_, rfl, _, rfl, p, C, dx, [], rfl, hp, T.cl, T.nL, (by show 0 < 1000; decide), ?_⟩
    refine ⟨_, rfl, _, rfl, p, C, dx, _, rfl, upd_same, T.cl, T.nT, (by show 1 < 1000; decide), ?_⟩
    refine ⟨_, rfl, _, rfl, p, C, dx, _, rfl, upd_same, T.cl, T.nR, (by show 2 < 1000; decide), ?_⟩
    refine ⟨_, rfl, _, rfl, p, C, dx, _, rfl, upd_same, T.cl, T.nB, (by show 3 < 1000; decide), ?_⟩
    exact k _ ⟨dx, Eq.trans upd_same (congrArg (fun q => some (HO.ins C dx q)) (boxF_new x))⟩ fun b o e hb => by
      rw [upd_ne hb, upd_ne hb, upd_ne hb, upd_ne hb]; exact e
def RetBox (C : Addr) (H : Hp) (Q : VK) (x : Bx) : Prop := ∀ (H' : Hp) (p : Addr), Same H H' → H p = none → BoxAt C H' p x → Q (.ref p) H'
def pixB (x y : Int) : Bx := ⟨16 * x, 16 * y, 16 * x + 16, 16 * y + 16⟩
def picB (x y : Int) : Bx := ⟨0, 0, 16 * x, 16 * y⟩
def spPixBox (C : Addr) : Sp := fun vs H Q _ => ∃ x y : Int, vs = [.int x, .int y] ∧ RetBox C H Q (pixB x y)
theorem scPixBox : FnScope ["x", "y"] ["x", "y"] (defScope sPixBox) := ⟨rfl, rfl, rfl, by decide +kernel, rfl, by decide +kernel, by decide +kernel⟩
theorem ok_pixBox {f fI : Addr} {fd fdI : FuncData} (F : Fun K "pixel_box" "pixel_box" sPixBox f fd) (T : TxB K mg C) (M : Mk K C fI) (GI : FnOk P w K mg base CX0 1 fI fdI ["self", "left", "top", "right", "bottom"] (spBoxI C)) (bI : Binds K fdI ["self", "left", "top", "right", "bottom"] []) :
    FnOk P w K mg base CX0 3 f fd ["x", "y"] (spPixBox C) := by
  obtain ⟨tu, hu⟩ := T.units
  refine F.ok scPixBox (fun vs H Q E h => ?_) (fun cdv A outer s H vs Q E hr h => ?_)
  · obtain ⟨x, y, rfl, _⟩ := h; rfl
  · obtain ⟨x, y, rfl, k⟩ := h
    refine ⟨_, pss_one (ps_ret (pe_make M GI hr rfl T.mgC bI .nil pass0
      (pa_cons (pe_op op_mul (pe_gi rfl hu) (pv 0)) (pa_cons (pe_op op_mul (pe_gi rfl hu) (pv 1))
      (pa_cons (pe_op op_add (pe_op op_mul (pe_gi rfl hu) (pv 0)) (pe_gi rfl hu)) (pa_cons (pe_op op_add (pe_op op_mul (pe_gi rfl hu) (pv 1)) (pe_gi rfl hu)) pa_nil)))))), ?_⟩
    refine ⟨_, rfl, _, _, rfl, rfl, .inl ⟨by decide, by decide⟩, _, rfl, _, _, rfl, rfl, .inl ⟨by decide, by decide⟩,
      _, rfl, _, _, rfl, rfl, .inl ⟨by decide, by decide⟩, _, _, rfl, rfl, _, rfl, _, _, rfl, rfl, .inl ⟨by decide, by decide⟩, _, _, rfl, rfl, ?_⟩
    intro z dx nz nd ne
    refine ⟨z, dx, pixB x y, rfl, upd_same, fun H1 J kp => ⟨rfl, ?_⟩⟩
    exact k _ z (Same.made nz nd kp) nz J
def spPicBox (C : Addr) : Sp := fun vs H Q _ => ∃ x y : Int, vs = [.int x, .int y] ∧ RetBox C H Q (picB x y)
theorem scPicBox : FnScope ["width", "height"] ["width", "height"] (defScope sPicBox) := ⟨rfl, rfl, rfl, by decide +kernel, rfl, by decide +kernel, by decide +kernel⟩
theorem ok_picBox {f fI : Addr} {fd fdI : FuncData} (F : Fun K "picture_box" "picture_box" sPicBox f fd) (T : TxB K mg C) (M : Mk K C fI) (GI : FnOk P w K mg base CX0 1 fI fdI ["self", "left", "top", "right", "bottom"] (spBoxI C)) (bI : Binds K fdI ["self", "left", "top", "right", "bottom"] []) :
    FnOk P w K mg base CX0 3 f fd ["width", "height"] (spPicBox C) := by
  obtain ⟨tu, hu⟩ := T.units
  refine F.ok scPicBox (fun vs H Q E h => ?_) (fun cdv A outer s H vs Q E hr h => ?_)
  · obtain ⟨x, y, rfl, _⟩ := h; rfl
  · obtain ⟨x, y, rfl, k⟩ := h
    refine ⟨_, pss_one (ps_ret (pe_make M GI hr rfl T.mgC bI .nil pass0
      (pa_cons pe_int (pa_cons pe_int (pa_cons (pe_op op_mul (pe_gi rfl hu) (pv 0)) (pa_cons (pe_op op_mul (pe_gi rfl hu) (pv 1)) pa_nil)))))), ?_⟩
    refine ⟨_, rfl, _, _, rfl, rfl, .inl ⟨by decide, by decide⟩, _, rfl, _, _, rfl, rfl, .inl ⟨by decide, by decide⟩, ?_⟩
    intro z dx nz nd ne
    refine ⟨z, dx, picB x y, rfl, upd_same, fun H1 J kp => ⟨rfl, ?_⟩⟩
    exact k _ z (Same.made nz nd kp) nz J
/-! figure.edges_of -/
abbrev Edge := (Int × Int) × (Int × Int)
def EdgesAt (H : Hp) (es : List Addr) (l : List Edge) : Prop :=
  es.length = l.length ∧ ∀ (i : Nat) (e : Addr) (z : Edge), es[i]? = some e → l[i]? = some z → ∃ p q : Addr, H e = some (.tup [.ref p, .ref q]) ∧ H p = some (.tup [.int z.1.1, .int z.1.2]) ∧ H q = some (.tup [.int z.2.1, .int z.2.2])
theorem EdgesAt.nil (H : Hp) : EdgesAt H [] [] := ⟨rfl, fun i p z h => by simp at h⟩
theorem EdgesAt.same {H H' : Hp} {es : List Addr} {l : List Edge} (x : EdgesAt H es l) (s : ∀ b xs, H b = some (.tup xs) → H' b = some (.tup xs)) : EdgesAt H' es l :=
  ⟨x.1, fun i e z h1 h2 => by obtain ⟨p, q, a, b, c⟩ := x.2 i e z h1 h2; exact ⟨p, q, s _ _ a, s _ _ b, s _ _ c⟩⟩
theorem EdgesAt.append {H : Hp} {es es' : List Addr} {l l' : List Edge} (x : EdgesAt H es l) (y : EdgesAt H es' l') : EdgesAt H (es ++ es') (l ++ l') := by
  refine ⟨by rw [List.length_append, List.length_append, x.1, y.1], fun i e z h1 h2 => ?_⟩
  by_cases hi : i < es.length
  · rw [List.getElem?_append_left hi] at h1
    rw [List.getElem?_append_left (by rw [← x.1]; exact hi)] at h2
    exact x.2 i e z h1 h2
  · rw [List.getElem?_append_right (by omega)] at h1
    rw [List.getElem?_append_right (by have := x.1; omega), ← x.1] at h2
    exact y.2 _ e z h1 h2
theorem EdgesAt.one {H : Hp} {e p q : Addr} {z : Edge} (a : H e = some (.tup [.ref p, .ref q])) (b : H p = some (.tup [.int z.1.1, .int z.1.2])) (c : H q = some (.tup [.int z.2.1, .int z.2.2])) : EdgesAt H [e] [z] := by
  refine ⟨rfl, fun i e' z' h1 h2 => ?_⟩
  match i, h1, h2 with
  | 0, h1, h2 => cases h1; cases h2; exact ⟨p, q, a, b, c⟩
  | i + 1, h1, _ => simp at h1
theorem EdgesAt.get {H : Hp} {es : List Addr} {l : List Edge} {i : Nat} {e : Addr} (x : EdgesAt H es l) (h : es[i]? = some e) : ∃ z, l[i]? = some z ∧ ∃ p q : Addr, H e = some (.tup [.ref p, .ref q]) ∧ H p = some (.tup [.int z.1.1, .int z.1.2]) ∧ H q = some (.tup [.int z.2.1, .int z.2.2]) := by
  have hi : i < l.length := by rw [← x.1]; exact (List.getElem?_eq_some_iff.mp h).1
  exact ⟨l[i], List.getElem?_eq_getElem hi, x.2 i e _ h (List.getElem?_eq_getElem hi)⟩
def prevI (n i : Nat) : Nat := if i = 0 then n - 1 else i - 1
theorem prevI_lt {n i : Nat} (h : i < n) : prevI n i < n := by unfold prevI; split <;> omega
def edgesM (c : List (Int × Int)) : List Edge := (List.range c.length).map fun k => (c.getD (prevI c.length k) (0, 0), c.getD k (0, 0))
def edgesUpTo (c : List (Int × Int)) (i : Nat) : List Edge := (List.range i).map fun k => (c.getD (prevI c.length k) (0, 0), c.getD k (0, 0))
theorem edgesUpTo_succ (c : List (Int × Int)) (i : Nat) : edgesUpTo c (i + 1) = edgesUpTo c i ++ [(c.getD (prevI c.length i) (0, 0), c.getD i (0, 0))] := by
  unfold edgesUpTo; rw [List.range_succ, List.map_append]; rfl
theorem atI_prev {xs : List V} {i : Nat} (h : i < xs.length) : atI xs ((0 + (i : Nat) : Int) - 1) = xs[prevI xs.length i]? := by
  unfold prevI
  by_cases hi : i = 0
  · subst hi
    rw [if_pos rfl]
    have e : ((0 : Int) + (0 : Nat)) - 1 = -1 := by omega
    rw [e]
    have e2 : ixN xs.length (-1) = some (xs.length - 1) := by
      unfold ixN
      rw [if_neg (by omega), if_pos (by omega)]
      congr 1; omega
    show (ixN xs.length (-1)).bind (fun j => xs[j]?) = _
    rw [e2]; rfl
  · rw [if_neg hi]
    have hj : i - 1 < xs.length := by omega
    have e : ((0 : Int) + (i : Nat)) - 1 = ((i - 1 : Nat) : Int) := by omega
    rw [e, List.getElem?_eq_getElem hj]
    exact atI_nat (List.getElem?_eq_getElem hj)
theorem getD_of {c : List (Int × Int)} {i : Nat} {z : Int × Int} (h : c[i]? = some z) : c.getD i (0, 0) = z := by
  rw [List.getD_eq_getElem?_getD, h]; rfl
def spEdges (K : PySem.W.Frag) : Sp := fun vs H Q _ => ∃ (a : Addr) (ps : List Addr) (c : List (Int × Int)), vs = [.ref a] ∧ SqL K H a (ps.map V.ref) ∧ PtsAt H ps c ∧ c.length ≤ 1000 ∧
  ∀ (H' : Hp) (D : Addr) (es : List Addr), Same H H' → H D = none → H' D = some (.lst (es.map V.ref)) → EdgesAt H' es (edgesM c) → Q (.ref D) H'
theorem scEdges : FnScope ["contour", "k"] ["contour"] (defScope sEdges) := ⟨rfl, rfl, rfl, by decide +kernel, rfl, by decide +kernel, by decide +kernel⟩
theorem ok_edges {f : Addr} {fd : FuncData} (F : Fun K "edges_of" "edges_of" sEdges f fd) (O : Own mg) : FnOk P w K mg base CX0 1 f fd ["contour"] (spEdges K) := by
  refine F.ok scEdges (fun vs H Q E h => ?_) (fun cdv A outer s H vs Q E hr h => ?_)
  · obtain ⟨a, ps, c, rfl, _⟩ := h; rfl
  · obtain ⟨a, ps, c, rfl, hS, hP, hlen, k⟩ := h
    refine ⟨_, pss_one (ps_ret (pe_lc (own := [("k", 1)]) (g := gName 1) (tt := tYes) rfl scEdges.nd (pi_range1 rfl O.range (pa_cons (pe_callB call_len_seq (by rfl) O.len PySem.boot_len (pa_cons (pv 0) pa_nil)) pa_nil))
      (blkOk_by (own := [("k", 1)]) (N := ["contour", "k"]) (sc := defScope sEdges) (by decide +kernel))
      (fun _ _ _ _ _ => pg_name (i := 1) scEdges.nd rfl (Or.inl rfl)) (fun _ _ _ _ _ => pts_nil)
      (fun _ _ _ _ _ => pe_tup (pa_cons (pe_ix (r := rIxL K) ix_list (pv 0) (pe_op op_sub (pv 1) pe_int) (fun _ _ => rfl)) (pa_cons (pe_ix (r := rIxL K) ix_list (pv 0) (pv 1) (fun _ _ => rfl)) pa_nil))))), ?_⟩
    have hsz : (1000 : Nat) < sizeLine := by decide
    have hll : (ps.map V.ref).length = c.length := by rw [List.length_map, hP.1]
    refine ⟨_, rfl, a, _, rfl, .inl hS, _, rfl, by omega, by omega, fun D hD => ?_⟩
    refine lc_range (lo := 0) (n := ((ps.map V.ref).length : Int).toNat)
      (fun i H' => ∃ es : List Addr, Same H H' ∧ H' D = some (.lst (es.map V.ref)) ∧ EdgesAt H' es (edgesUpTo c i)) ⟨[], same_upd hD, upd_same, EdgesAt.nil _⟩ ?_ ?_
    · rintro i H' hi ⟨es, s1, hDv, hE⟩
      have hi' : i < (ps.map V.ref).length := by omega
      have hip : i < ps.length := by rw [List.length_map] at hi'; exact hi'
      have hpp : prevI ps.length i < ps.length := prevI_lt hip
      have hp1 : ps[prevI ps.length i]? = some ps[prevI ps.length i] := List.getElem?_eq_getElem hpp
      have hp2 : ps[i]? = some ps[i] := List.getElem?_eq_getElem hip
      obtain ⟨z1, hz1, ht1⟩ := hP.get hp1
      obtain ⟨z2, hz2, ht2⟩ := hP.get hp2
      refine ⟨rfl, ?_⟩
      refine ⟨_, rfl, _, rfl, _, _, rfl, rfl, a, _, _, .ref ps[prevI ps.length i], rfl, rfl, s1.seq hS, ?_, ?_⟩
      · rw [atI_prev hi', List.length_map]
        exact at_map hp1
      refine ⟨_, rfl, _, rfl, a, _, _, .ref ps[i], rfl, rfl, s1.seq hS, ?_, ?_⟩
      · have e : ((0 : Int) + (i : Nat)) = ((i : Nat) : Int) := by omega
        rw [e]
        exact atI_nat (at_map hp2)
      refine ⟨(by show 2 ≤ sizeLine; decide), fun q hq => ?_⟩
      have hDq : D ≠ q := ne_of_none hDv hq
      refine ⟨es.map V.ref, by rw [upd_ne hDq]; exact hDv, ?_, es ++ [q], ?_, ?_, ?_⟩
      · have := hE.1
        unfold edgesUpTo at this
        rw [List.length_map, this, List.length_map, List.length_range]; omega
      · exact sOld (sNew s1 hq) hD
      · rw [upd_same, List.map_append]; rfl
      · rw [edgesUpTo_succ]
        have sU : ∀ b xs, H' b = some (.tup xs) → upd (upd H' q (.tup [.ref ps[prevI ps.length i], .ref ps[i]])) D (.lst (es.map V.ref ++ [.ref q])) b = some (.tup xs) := by
          intro b xs hb
          have h1 : b ≠ D := ne_of hb hDv (by intro z; cases z)
          have h2 : b ≠ q := ne_of_none hb hq
          rw [upd_ne h1, upd_ne h2]; exact hb
        refine (hE.same sU).append (EdgesAt.one (p := ps[prevI ps.length i]) (q := ps[i]) ?_ ?_ ?_)
        · rw [upd_ne (Ne.symm hDq), upd_same]
        · refine sU _ _ (s1 _ _ ?_)
          rw [← hP.1, getD_of hz1]; exact ht1
        · refine sU _ _ (s1 _ _ ?_)
          rw [getD_of hz2]; exact ht2
    · rintro H' ⟨es, s1, hDv, hE⟩
      have e : ((ps.map V.ref).length : Int).toNat = c.length := by omega
      rw [e] at hE
      exact k H' D es s1 hD hDv hE
end
end Pc
set_option Elab.async false
set_option maxRecDepth 100000
set_option maxHeartbeats 4000000
namespace Pc
open PySem PySem.Spec PyProof.Rows L2
open Cv (imax imin bey)
/-- contours, each a list of its own -/
def CtrsAt (H : Hp) (as : List Addr) (cs : List (List (Int × Int))) : Prop :=
  as.length = cs.length ∧ ∀ (i : Nat) (a : Addr) (c : List (Int × Int)), as[i]? = some a → cs[i]? = some c → ∃ ps : List Addr, H a = some (.lst (ps.map V.ref)) ∧ PtsAt H ps c
theorem CtrsAt.nil (H : Hp) : CtrsAt H [] [] := ⟨rfl, fun i p z h => by simp at h⟩
theorem CtrsAt.same {H H' : Hp} {as : List Addr} {cs : List (List (Int × Int))} (x : CtrsAt H as cs) (s : ∀ b xs, H b = some (.tup xs) → H' b = some (.tup xs)) (l : ∀ a ∈ as, ∀ o, H a = some o → H' a = some o) : CtrsAt H' as cs :=
  ⟨x.1, fun i a c h1 h2 => by obtain ⟨ps, e, p⟩ := x.2 i a c h1 h2; exact ⟨ps, l a (List.mem_of_getElem? h1) _ e, p.same s⟩⟩
theorem CtrsAt.get {H : Hp} {as : List Addr} {cs : List (List (Int × Int))} {i : Nat} {a : Addr} (x : CtrsAt H as cs) (h : as[i]? = some a) : ∃ c, cs[i]? = some c ∧ ∃ ps : List Addr, H a = some (.lst (ps.map V.ref)) ∧ PtsAt H ps c := by
  have hi : i < cs.length := by rw [← x.1]; exact (List.getElem?_eq_some_iff.mp h).1
  exact ⟨cs[i], List.getElem?_eq_getElem hi, x.2 i a _ h (List.getElem?_eq_getElem hi)⟩
theorem CtrsAt.snoc {H : Hp} {as : List Addr} {cs : List (List (Int × Int))} {a : Addr} {c : List (Int × Int)} (x : CtrsAt H as cs) (h : ∃ ps : List Addr, H a = some (.lst (ps.map V.ref)) ∧ PtsAt H ps c) : CtrsAt H (as ++ [a]) (cs ++ [c]) := by
  refine ⟨by rw [List.length_append, List.length_append, x.1]; rfl, fun i q y h1 h2 => ?_⟩
  by_cases hi : i < as.length
  · rw [List.getElem?_append_left hi] at h1
    rw [List.getElem?_append_left (by rw [← x.1]; exact hi)] at h2
    exact x.2 i q y h1 h2
  · rw [List.getElem?_append_right (by omega)] at h1
    rw [List.getElem?_append_right (by have := x.1; omega), ← x.1] at h2
    have e : i - as.length = 0 := by
      have := (List.getElem?_eq_some_iff.mp h1).1
      simp at this; omega
    rw [e] at h1 h2
    cases h1; cases h2
    exact h
def allE (cs : List (List (Int × Int))) : List Edge := cs.flatMap edgesM
def corners (cs : List (List (Int × Int))) : Nat := (cs.map List.length).sum
theorem allE_len : ∀ cs : List (List (Int × Int)), (allE cs).length = corners cs
  | [] => rfl
  | c :: cs => by
    show (edgesM c ++ allE cs).length = ((c :: cs).map List.length).sum
    rw [List.length_append, List.map_cons, List.sum_cons, allE_len cs]
    congr 1
    unfold edgesM
    rw [List.length_map, List.length_range]
theorem allE_snoc (cs : List (List (Int × Int))) (c : List (Int × Int)) : allE (cs ++ [c]) = allE cs ++ edgesM c := by
  unfold allE; rw [List.flatMap_append]; simp
theorem corners_append (a b : List (List (Int × Int))) : corners (a ++ b) = corners a + corners b := by
  unfold corners; rw [List.map_append, List.sum_append]
theorem corners_take (cs : List (List (Int × Int))) (i : Nat) : corners (cs.take i) ≤ corners cs := by
  have := corners_append (cs.take i) (cs.drop i)
  rw [List.take_append_drop] at this
  omega
theorem corners_mem {cs : List (List (Int × Int))} {c : List (Int × Int)} (h : c ∈ cs) : c.length ≤ corners cs := by
  induction cs with
  | nil => simp at h
  | cons d cs ih =>
    have e : corners (d :: cs) = d.length + corners cs := by unfold corners; rw [List.map_cons, List.sum_cons]
    rcases List.mem_cons.mp h with rfl | h
    · omega
    · have := ih h; omega
section
variable {P : Program} {w : World} {K : PySem.W.Frag} {mg : Str → Option Value} {base : Heap} {C : Addr}
def spEdgesAll (K : PySem.W.Frag) : Sp := fun vs H Q _ => ∃ (a : Addr) (as : List Addr) (cs : List (List (Int × Int))), vs = [.ref a] ∧ SqL K H a (as.map V.ref) ∧ CtrsAt H as cs ∧ corners cs ≤ 1000 ∧
  ∀ (H' : Hp) (D : Addr) (es : List Addr), Same H H' → H D = none → H' D = some (.lst (es.map V.ref)) → EdgesAt H' es (allE cs) → Q (.ref D) H'
theorem scEdgesAll : FnScope ["contours", "edges", "contour"] ["contours"] (defScope sEdgesAll) := ⟨rfl, rfl, rfl, by decide +kernel, rfl, by decide +kernel, by decide +kernel⟩
theorem ok_edgesAll {f f1 : Addr} {fd fd1 : FuncData} (F : Fun K "edges_of_all" "edges_of_all" sEdgesAll f fd) (G : FnOk P w K mg base CX0 1 f1 fd1 ["contour"] (spEdges K)) (D : Df K mg "edges_of" f1 fd1 ["contour"]) :
    FnOk P w K mg base CX0 2 f fd ["contours"] (spEdgesAll K) := by
  refine F.ok scEdgesAll (fun vs H Q E h => ?_) (fun cdv A outer s H vs Q E hr h => ?_)
  · obtain ⟨a, as, cs, rfl, _⟩ := h; rfl
  · obtain ⟨a, as, cs, rfl, hS, hC, hlen, k⟩ := h
    refine ⟨_, pss_cons (ps_set (i := 1) scEdgesAll.nd rfl (Or.inl rfl) (pe_lst pa_nil))
      (pss_cons (ps_for PassesOwn.never rfl (pi_list (pv 0)) (pg_name (i := 2) scEdgesAll.nd rfl (Or.inl rfl))
        (pss_one (ps_expr (pe_bm PySem.F.plainAttrs_list PySem.F.slot_list_extend PySem.F.type_list_extend mt_extend (pv 1) (pa_cons (pe_call G hr rfl D.mg D.kp D.bn .nil pass0 (pa_cons (pv 2) pa_nil)) pa_nil)))))
      (pss_one (ps_ret (pv 1)))), ?_⟩
    refine ⟨(by show 0 ≤ sizeLine; decide), fun e he => ?_⟩
    have hsz : (2000 : Nat) < sizeLine := by decide
    refine ⟨_, rfl, a, rfl, ⟨_, (same_upd he).seq hS⟩, for_list (K := K) (a := a) (xs := as.map V.ref)
      (fun i σ H' => ∃ (es : List Addr) (v : Option V), σ = [some (.ref a), some (.ref e), v] ∧ Same H H' ∧ H' e = some (.lst (es.map V.ref)) ∧ EdgesAt H' es (allE (cs.take i)))
      ⟨[], none, rfl, same_upd he, upd_same, EdgesAt.nil _⟩ (fun i σ H' _ ⟨_, _, _, s1, _⟩ => s1.seq hS) ?_ ?_⟩
    · rintro i x σ H' hi ⟨es, v, rfl, s1, h1, hE⟩
      obtain ⟨d, hd, rfl⟩ := map_at hi
      obtain ⟨c, hc, ps, hL, hP⟩ := hC.get hd
      have hcl : c.length ≤ corners cs := corners_mem (List.mem_of_getElem? hc)
      refine ⟨_, rfl, .inl ⟨rfl, _, SqL.of h1⟩, _, rfl, d, ps, c, rfl, SqL.of (s1 _ _ hL), hP.same (sTup s1), by omega, fun H2 q es2 s2 hq hL2 hE2 => ?_⟩
      have hl1 := hE.1
      have hl2 := hE2.1
      rw [allE_len] at hl1
      have hl3 := corners_take cs i
      have hl4 : (edgesM c).length = c.length := by unfold edgesM; rw [List.length_map, List.length_range]
      refine ⟨e, q, _, _, rfl, rfl, s2 _ _ h1, hL2, by rw [List.length_map, List.length_map]; omega, ?_⟩
      have sU : ∀ b xs, H2 b = some (.tup xs) → upd H2 e (.lst (es.map V.ref ++ es2.map V.ref)) b = some (.tup xs) := by
        intro b xs hb
        rw [upd_ne (ne_of hb (s2 _ _ h1) (by intro z; cases z))]; exact hb
      refine ⟨es ++ es2, some (.ref d), rfl, sOld (s1.trans s2) he, ?_, ?_⟩
      · rw [upd_same, List.map_append]
      · rw [take_more hc, allE_snoc]
        exact ((hE.same (sTup s2)).same sU).append (hE2.same sU)
    · rintro σ H' ⟨es, v, rfl, s1, h1, hE⟩
      rw [List.length_map, hC.1, List.take_length] at hE
      exact ⟨_, rfl, k H' e es s1 he h1 hE⟩
/-! figure.area_beyond -/
def Small (z : Int × Int) : Prop := z.1.natAbs ≤ 4096 ∧ z.2.natAbs ≤ 4096
theorem at_size {a b c d : Int} (h1 : a.natAbs ≤ 8192) (h2 : b.natAbs ≤ 8192) (h3 : c.natAbs ≤ 8192) (h4 : d.natAbs ≤ 8192) : -(2 ^ 64) < imax (a * b + c * d) 0 ∧ imax (a * b + c * d) 0 < 2 ^ 64 := by
  have a1 := Cv.abs_mul_le h1 h2
  have a2 := Cv.abs_mul_le h3 h4
  unfold imax
  generalize a * b = u at *
  generalize c * d = v at *
  omega
def spBey : Sp := fun vs H Q _ => ∃ (a b : Addr) (lo hi : Int × Int) (t u d : Int), vs = [.ref a, .ref b, .int t, .int u, .int d] ∧ H a = some (.tup [.int lo.1, .int lo.2]) ∧ H b = some (.tup [.int hi.1, .int hi.2]) ∧ Small lo ∧ Small hi ∧
  t.natAbs ≤ 4096 ∧ u.natAbs ≤ 4096 ∧ d.natAbs ≤ 4096 ∧ RetPair H Q (bey lo hi t u d).1 (bey lo hi t u d).2
theorem scBey : FnScope ["low", "high", "top", "bottom", "border", "run", "rise", "at_top", "at_bottom"] ["low", "high", "top", "bottom", "border"] (defScope sBeyond) := ⟨rfl, rfl, rfl, by decide +kernel, rfl, by decide +kernel, by decide +kernel⟩
theorem ok_bey {f : Addr} {fd : FuncData} (F : Fun K "area_beyond" "area_beyond" sBeyond f fd) (O : Own mg) : FnOk P w K mg base CX0 1 f fd ["low", "high", "top", "bottom", "border"] spBey := by
  refine F.ok scBey (fun vs H Q E h => ?_) (fun cdv A outer s H vs Q E hr h => ?_)
  · obtain ⟨a, b, lo, hi, t, u, d, rfl, _⟩ := h; rfl
  · obtain ⟨a, b, lo, hi, t, u, d, rfl, ha, hb, sl, sh, bt, bu, bd, k⟩ := h
    obtain ⟨l1, l2⟩ := sl
    obtain ⟨h1, h2⟩ := sh
    refine ⟨_, pss_cons (ps_set (i := 5) scBey.nd rfl (Or.inl rfl) (pe_op op_sub (pe_ix ix_tup (pv 1) pe_int (fun _ _ => rfl)) (pe_ix ix_tup (pv 0) pe_int (fun _ _ => rfl))))
      (pss_cons (ps_set (i := 6) scBey.nd rfl (Or.inl rfl) (pe_op op_sub (pe_ix ix_tup (pv 1) pe_int (fun _ _ => rfl)) (pe_ix ix_tup (pv 0) pe_int (fun _ _ => rfl))))
      (pss_cons (ps_if (pt_cmpR op_eq (pv 5) pe_int (nomark _)) (pss_one (ps_ret (pe_tup (pa_cons (pe_op op_mul (pe_op op_sub (pv 3) (pv 2)) (pe_callB (call_max2 rfl) (by rfl) O.max (by decide +kernel) (pa_cons (pe_op op_sub (pe_ix ix_tup (pv 0) pe_int (fun _ _ => rfl)) (pv 4)) (pa_cons pe_int pa_nil)))) (pa_cons pe_int pa_nil))))) pss_nil)
      (pss_cons (ps_set (i := 7) scBey.nd rfl (Or.inl rfl) (pe_callB (call_max2 rfl) (by rfl) O.max (by decide +kernel) (pa_cons (pe_op op_add (pe_op op_mul (pe_op op_sub (pe_ix ix_tup (pv 0) pe_int (fun _ _ => rfl)) (pv 4)) (pv 6)) (pe_op op_mul (pe_op op_sub (pv 2) (pe_ix ix_tup (pv 0) pe_int (fun _ _ => rfl))) (pv 5))) (pa_cons pe_int pa_nil))))
      (pss_cons (ps_set (i := 8) scBey.nd rfl (Or.inl rfl) (pe_callB (call_max2 rfl) (by rfl) O.max (by decide +kernel) (pa_cons (pe_op op_add (pe_op op_mul (pe_op op_sub (pe_ix ix_tup (pv 0) pe_int (fun _ _ => rfl)) (pv 4)) (pv 6)) (pe_op op_mul (pe_op op_sub (pv 3) (pe_ix ix_tup (pv 0) pe_int (fun _ _ => rfl))) (pv 5))) (pa_cons pe_int pa_nil))))
      (pss_one (ps_ret (pe_tup (pa_cons (pe_op op_sub (pe_op op_mul (pv 8) (pv 8)) (pe_op op_mul (pv 7) (pv 7))) (pa_cons (pe_op op_mul (pe_op op_mul pe_int (pv 5)) (pv 6)) pa_nil))))))))), ?_⟩
    refine ⟨_, rfl, _, _, _, _, rfl, rfl, SqT.of hb, rfl, _, rfl, _, _, _, _, rfl, rfl, SqT.of ha, rfl, _, _, rfl, rfl, ?_⟩
    refine ⟨_, rfl, _, _, _, _, rfl, rfl, SqT.of hb, rfl, _, rfl, _, _, _, _, rfl, rfl, SqT.of ha, rfl, _, _, rfl, rfl, ?_⟩
    refine ⟨_, rfl, rfl, _, rfl, ?_⟩
    rw [dint]
    refine if_both (fun hz => ?_) (fun hz => ?_)
    · refine ⟨_, rfl, _, rfl, _, _, rfl, rfl, _, rfl, _, _, _, _, rfl, rfl, SqT.of ha, rfl, _, rfl, _, _, rfl, rfl, _, _, rfl, _, _, rfl, rfl, .inl ⟨by omega, by omega⟩, (by show 2 ≤ sizeLine; decide), fun p hp => ?_⟩
      refine k _ p (same_upd hp) hp ?_
      unfold bey
      rw [if_pos hz, upd_same]
      rfl
    · have e : bey lo hi t u d = (imax ((lo.1 - d) * (hi.2 - lo.2) + (u - lo.2) * (hi.1 - lo.1)) 0 * imax ((lo.1 - d) * (hi.2 - lo.2) + (u - lo.2) * (hi.1 - lo.1)) 0 - imax ((lo.1 - d) * (hi.2 - lo.2) + (t - lo.2) * (hi.1 - lo.1)) 0 * imax ((lo.1 - d) * (hi.2 - lo.2) + (t - lo.2) * (hi.1 - lo.1)) 0, 2 * (hi.1 - lo.1) * (hi.2 - lo.2)) := by
        unfold bey; rw [if_neg hz]
      refine ⟨_, rfl, _, _, _, _, rfl, rfl, SqT.of ha, rfl, _, rfl, _, _, rfl, rfl, _, rfl, _, _, rfl, rfl, .inl ⟨by omega, by omega⟩, _, rfl, _, rfl, _, _, _, _, rfl, rfl, SqT.of ha, rfl, _, _, rfl, rfl, _, rfl, _, _, rfl, rfl, .inl ⟨by omega, by omega⟩, _, _, rfl, rfl, _, _, rfl, ?_⟩
      refine ⟨_, rfl, _, _, _, _, rfl, rfl, SqT.of ha, rfl, _, rfl, _, _, rfl, rfl, _, rfl, _, _, rfl, rfl, .inl ⟨by omega, by omega⟩, _, rfl, _, rfl, _, _, _, _, rfl, rfl, SqT.of ha, rfl, _, _, rfl, rfl, _, rfl, _, _, rfl, rfl, .inl ⟨by omega, by omega⟩, _, _, rfl, rfl, _, _, rfl, ?_⟩
      refine ⟨_, rfl, _, rfl, _, _, rfl, rfl, .inl (at_size (by omega) (by omega) (by omega) (by omega)), _, rfl, _, rfl, _, _, rfl, rfl, .inl (at_size (by omega) (by omega) (by omega) (by omega)), _, _, rfl, rfl, _, rfl, _, _, rfl, rfl, .inl ⟨by decide, by decide⟩, _, rfl, _, _, rfl, rfl, .inl ⟨by omega, by omega⟩, (by show 2 ≤ sizeLine; decide), fun p hp => ?_⟩
      refine k _ p (same_upd hp) hp ?_
      rw [e, upd_same]
      rfl
end
end Pc
set_option Elab.async false
set_option maxRecDepth 100000
set_option maxHeartbeats 4000000
namespace Pc
open PySem PySem.Spec PyProof.Rows L2
open Cv (imax imin bey toP)
theorem low_size {n d : Int} (hd : d ≠ 0) : ((n : Rat) / (d : Rat)).num.natAbs ≤ n.natAbs ∧ ((n : Rat) / (d : Rat)).den ≤ d.natAbs := by
  rw [← Rat.divInt_eq_div]
  generalize hq : Rat.divInt n d = q
  obtain ⟨nn, dd, dz, cc⟩ := q
  obtain ⟨m, hm, e1, e2⟩ := Rat.divInt_num_den hd hq
  have hm1 : 1 ≤ m.natAbs := by omega
  show nn.natAbs ≤ n.natAbs ∧ dd ≤ d.natAbs
  rw [e1, e2, Int.natAbs_mul, Int.natAbs_mul]
  constructor
  · exact Nat.le_mul_of_pos_right _ hm1
  · have := Nat.le_mul_of_pos_right dd hm1
    simpa using this
theorem sq_pos {a : Int} (h : a ≠ 0) : 0 < a * a := by
  rw [← Int.natAbs_mul_self]
  have := Nat.mul_pos (show 0 < a.natAbs by omega) (show 0 < a.natAbs by omega)
  omega
def shareQ (x : Bx) (e : Edge) : Rat := Cv.edge x.l x.t x.r x.b (toP e.1) (toP e.2)
structure BxOk (x : Bx) : Prop where
  l : x.l.natAbs ≤ 4096
  t : x.t.natAbs ≤ 4096
  r : x.r.natAbs ≤ 4096
  b : x.b.natAbs ≤ 4096
  tb : x.t < x.b
  lr : x.l ≤ x.r
theorem share_size_up {x : Bx} {e : Edge} (hx : BxOk x) (h1 : Small e.1) (h2 : Small e.2) (h : e.1.2 ≤ e.2.2) : (shareQ x e).num.natAbs ≤ 2 ^ 79 ∧ (shareQ x e).den ≤ 2 ^ 79 := by
  unfold shareQ
  by_cases hz : imin e.2.2 x.b ≤ imax e.1.2 x.t
  · rw [Cv.edge_zero hx.tb h hz]; exact ⟨by decide, by decide⟩
  · obtain ⟨hlt, he⟩ := Cv.edge_beyond (l := x.l) (r := x.r) hx.tb h hz
    have hb1 : (imax e.1.2 x.t).natAbs ≤ 4096 := by have := h1.2; have := hx.t; unfold imax; omega
    have hb2 : (imin e.2.2 x.b).natAbs ≤ 4096 := by have := h2.2; have := hx.b; unfold imin; omega
    have s1 := Cv.bey_small (lo := e.1) (hi := e.2) h1.1 h1.2 h2.1 h2.2 hb1 hb2 hx.l
    have s2 := Cv.bey_small (lo := e.1) (hi := e.2) h1.1 h1.2 h2.1 h2.2 hb1 hb2 hx.r
    have d0 := Cv.bey_den (top := imax e.1.2 x.t) (bottom := imin e.2.2 x.b) (border := x.r) hlt
    have de := Cv.bey_den_eq e.1 e.2 (imax e.1.2 x.t) (imin e.2.2 x.b) x.l x.r
    rw [he, de]
    rw [de] at s1
    generalize (bey e.1 e.2 (imax e.1.2 x.t) (imin e.2.2 x.b) x.l).1 = n1 at *
    generalize (bey e.1 e.2 (imax e.1.2 x.t) (imin e.2.2 x.b) x.r).1 = n2 at *
    generalize (bey e.1 e.2 (imax e.1.2 x.t) (imin e.2.2 x.b) x.r).2 = d at *
    have hd := Cv.cast_ne d0
    have q : (n1 : Rat) / (d : Rat) - (n2 : Rat) / (d : Rat) = ((n1 - n2 : Int) : Rat) / (d : Rat) := by
      rw [Cv.cast_sub']
      generalize (n1 : Rat) = a at *
      generalize (n2 : Rat) = b at *
      generalize (d : Rat) = c at *
      grind
    rw [q]
    have := low_size (n := n1 - n2) d0
    have hp : (2 : Nat) ^ 60 + 2 ^ 60 ≤ 2 ^ 79 := by decide
    generalize (2 : Nat) ^ 79 = z at *
    generalize (2 : Nat) ^ 60 = y at *
    omega
theorem neg_num (q : Rat) : (-q).num = -q.num := Rat.neg_num q
theorem neg_den (q : Rat) : (-q).den = q.den := Rat.neg_den q
theorem shareQ_neg (x : Bx) (p q : Int × Int) : shareQ x (q, p) = - shareQ x (p, q) := Cv.edge_neg _ _ _ _ _ _
theorem share_size {x : Bx} {e : Edge} (hx : BxOk x) (h1 : Small e.1) (h2 : Small e.2) : (shareQ x e).num.natAbs ≤ 2 ^ 79 ∧ (shareQ x e).den ≤ 2 ^ 79 := by
  by_cases h : e.1.2 ≤ e.2.2
  · exact share_size_up hx h1 h2 h
  · have := share_size_up (e := (e.2, e.1)) hx h2 h1 (by show e.2.2 ≤ e.1.2; omega)
    rw [shareQ_neg, neg_num, neg_den, Int.natAbs_neg] at this
    exact this
theorem RetPair.at {H H1 : Hp} {Q : VK} {n d : Int} (k : RetPair H Q n d) (s : Same H H1) : RetPair H1 Q n d := fun H' p s' hp e => k H' p (s.trans s') (s.free hp) e
section
variable {P : Program} {w : World} {K : PySem.W.Frag} {mg : Str → Option Value} {base : Heap} {C : Addr}
def spLeft (C : Addr) : Sp := fun vs H Q _ => ∃ (a b c : Addr) (lo hi : Int × Int) (x : Bx), vs = [.ref a, .ref b, .ref c] ∧ H a = some (.tup [.int lo.1, .int lo.2]) ∧ H b = some (.tup [.int hi.1, .int hi.2]) ∧ Small lo ∧ Small hi ∧
  BoxAt C H c x ∧ BxOk x ∧ lo.2 ≤ hi.2 ∧ RetQ H Q (shareQ x (lo, hi))
theorem scLeft : FnScope ["low", "high", "box", "top", "bottom", "beyond_left", "beyond_right"] ["low", "high", "box"] (defScope sLeft) := ⟨rfl, rfl, rfl, by decide +kernel, rfl, by decide +kernel, by decide +kernel⟩
theorem two_tup {H : Hp} {p q : Addr} {y z : Int × Int} (hp : H p = some (.tup [.int y.1, .int y.2])) (hq : H q = some (.tup [.int z.1, .int z.2])) : PtsAt H [p, q] [y, z] :=
  ((PtsAt.nil H).snoc hp).snoc hq
theorem ok_left {f f1 f2 f3 : Addr} {fd fd1 fd2 fd3 : FuncData} (F : Fun K "area_left_of" "area_left_of" sLeft f fd) (O : Own mg) (T : TxB K mg C)
    (G1 : FnOk P w K mg base CX0 3 f1 fd1 ["fractions"] (spTotal K)) (D1 : Df K mg "total" f1 fd1 ["fractions"])
    (G2 : FnOk P w K mg base CX0 1 f2 fd2 ["fraction"] spNeg) (D2 : Df K mg "negated" f2 fd2 ["fraction"])
    (G3 : FnOk P w K mg base CX0 1 f3 fd3 ["low", "high", "top", "bottom", "border"] spBey) (D3 : Df K mg "area_beyond" f3 fd3 ["low", "high", "top", "bottom", "border"]) :
    FnOk P w K mg base CX0 4 f fd ["low", "high", "box"] (spLeft C) := by
  refine F.ok scLeft (fun vs H Q E h => ?_) (fun cdv A outer s H vs Q E hr h => ?_)
  · obtain ⟨a, b, c, lo, hi, x, rfl, _⟩ := h; rfl
  · obtain ⟨a, b, c, lo, hi, x, rfl, ha, hb, sl, sh, ⟨dx, hc⟩, hx, hle, k⟩ := h
    have hr1 : Room 1 _ := hr.mono (by decide)
    refine ⟨_, pss_cons (ps_set (i := 3) scLeft.nd rfl (Or.inl rfl) (pe_callB (call_max2 rfl) (by rfl) O.max (by decide +kernel) (pa_cons (pe_ix ix_tup (pv 0) pe_int (fun _ _ => rfl)) (pa_cons (pe_fld (pv 2) rfl) pa_nil))))
      (pss_cons (ps_set (i := 4) scLeft.nd rfl (Or.inl rfl) (pe_callB (call_min2 rfl) (by rfl) O.min (by decide +kernel) (pa_cons (pe_ix ix_tup (pv 1) pe_int (fun _ _ => rfl)) (pa_cons (pe_fld (pv 2) rfl) pa_nil))))
      (pss_cons (ps_if (pt_cmpR op_ge (pv 3) (pv 4) (nomark _)) (pss_one (ps_ret (pe_tup (pa_cons pe_int (pa_cons pe_int pa_nil))))) pss_nil)
      (pss_cons (ps_set (i := 5) scLeft.nd rfl (Or.inl rfl) (pe_call G3 hr1 rfl D3.mg D3.kp D3.bn .nil pass0 (pa_cons (pv 0) (pa_cons (pv 1) (pa_cons (pv 3) (pa_cons (pv 4) (pa_cons (pe_fld (pv 2) rfl) pa_nil)))))))
      (pss_cons (ps_set (i := 6) scLeft.nd rfl (Or.inl rfl) (pe_call G3 hr1 rfl D3.mg D3.kp D3.bn .nil pass0 (pa_cons (pv 0) (pa_cons (pv 1) (pa_cons (pv 3) (pa_cons (pv 4) (pa_cons (pe_fld (pv 2) rfl) pa_nil)))))))
      (pss_one (ps_ret (pe_call G1 hr rfl D1.mg D1.kp D1.bn .nil pass0 (pa_cons (pe_lst (pa_cons (pv 5) (pa_cons (pe_call G2 hr1 rfl D2.mg D2.kp D2.bn .nil pass0 (pa_cons (pv 6) pa_nil)) pa_nil))) pa_nil)))))))), ?_⟩
    refine ⟨_, rfl, _, _, _, _, rfl, rfl, SqT.of ha, rfl, _, rfl, c, C, dx, _, _, rfl, hc, T.cl, T.nT, boxF_t x, _, _, rfl, ?_⟩
    refine ⟨_, rfl, _, _, _, _, rfl, rfl, SqT.of hb, rfl, _, rfl, c, C, dx, _, _, rfl, hc, T.cl, T.nB, boxF_b x, _, _, rfl, ?_⟩
    refine ⟨_, rfl, _, rfl, _, _, rfl, rfl, _, rfl, ?_⟩
    have hb1 : (imax lo.2 x.t).natAbs ≤ 4096 := by have := sl.2; have := hx.t; unfold imax; omega
    have hb2 : (imin hi.2 x.b).natAbs ≤ 4096 := by have := sh.2; have := hx.b; unfold imin; omega
    refine if_both (fun hz => ?_) (fun hz => ?_)
    · have hz' : imin hi.2 x.b ≤ imax lo.2 x.t := hz
      have e : shareQ x (lo, hi) = 0 := Cv.edge_zero hx.tb hle hz'
      rw [e] at k
      exact ⟨(by show 2 ≤ sizeLine; decide), fun p hp => k _ p (same_upd hp) hp upd_same⟩
    · have hz' : ¬ imin hi.2 x.b ≤ imax lo.2 x.t := hz
      obtain ⟨hlt, he⟩ := Cv.edge_beyond (l := x.l) (r := x.r) hx.tb hle hz'
      refine ⟨_, rfl, _, rfl, _, rfl, _, rfl, _, rfl, c, C, dx, _, _, rfl, hc, T.cl, T.nL, boxF_l x, a, b, lo, hi, imax lo.2 x.t, imin hi.2 x.b, x.l, rfl, ha, hb, sl, sh, hb1, hb2, hx.l, fun H1 p1 s1 n1 e1 => ?_⟩
      refine ⟨_, rfl, _, rfl, _, rfl, _, rfl, _, rfl, c, C, dx, _, _, rfl, s1 _ _ hc, T.cl, T.nR, boxF_r x, a, b, lo, hi, imax lo.2 x.t, imin hi.2 x.b, x.r, rfl, s1 _ _ ha, s1 _ _ hb, sl, sh, hb1, hb2, hx.r, fun H2 p2 s2 n2 e2 => ?_⟩
      refine ⟨_, rfl, _, rfl, p2, _, _, rfl, e2, fun H3 p3 s3 n3 e3 => ⟨(by show 2 ≤ sizeLine; decide), fun p4 n4 => ?_⟩⟩
      have d0 := Cv.bey_den (top := imax lo.2 x.t) (bottom := imin hi.2 x.b) (border := x.r) hlt
      have de := Cv.bey_den_eq lo hi (imax lo.2 x.t) (imin hi.2 x.b) x.l x.r
      have z1 := Cv.bey_size (lo := lo) (hi := hi) sl.1 sl.2 sh.1 sh.2 hb1 hb2 hx.l
      have z2 := Cv.bey_size (lo := lo) (hi := hi) sl.1 sl.2 sh.1 sh.2 hb1 hb2 hx.r
      have s03 : Same H H3 := (s1.trans s2).trans s3
      refine ⟨p4, [p1, p3], [((bey lo hi (imax lo.2 x.t) (imin hi.2 x.b) x.l).1, (bey lo hi (imax lo.2 x.t) (imin hi.2 x.b) x.l).2), (-(bey lo hi (imax lo.2 x.t) (imin hi.2 x.b) x.r).1, (bey lo hi (imax lo.2 x.t) (imin hi.2 x.b) x.r).2)], rfl, SqL.of upd_same, ?_, (by show 2 ≤ 60; decide), ?_, ?_, ?_⟩
      · have sU := same_upd (o := .lst [.ref p1, .ref p3]) n4
        exact two_tup (sU _ _ (s3 _ _ (s2 _ _ e1))) (sU _ _ e3)
      · intro z hz
        simp only [List.mem_cons, List.not_mem_nil, or_false] at hz
        rcases hz with rfl | rfl
        · exact ⟨by rw [de]; exact d0, z1⟩
        · exact ⟨d0, by rw [Int.natAbs_neg]; exact z2.1, z2.2⟩
      · show 0 < 1 * (bey lo hi (imax lo.2 x.t) (imin hi.2 x.b) x.l).2 * (bey lo hi (imax lo.2 x.t) (imin hi.2 x.b) x.r).2
        rw [de, Int.one_mul]
        exact sq_pos d0
      · have e : sumF [((bey lo hi (imax lo.2 x.t) (imin hi.2 x.b) x.l).1, (bey lo hi (imax lo.2 x.t) (imin hi.2 x.b) x.l).2), (-(bey lo hi (imax lo.2 x.t) (imin hi.2 x.b) x.r).1, (bey lo hi (imax lo.2 x.t) (imin hi.2 x.b) x.r).2)] = shareQ x (lo, hi) := by
          unfold shareQ
          rw [he]
          unfold sumF
          simp only [List.map_cons, List.map_nil, List.sum_cons, List.sum_nil, Rat.intCast_neg]
          grind
        rw [e]
        exact k.at (Same.trans s03 (same_upd n4))
/-! figure.edge_share -/
def spShare (C : Addr) : Sp := fun vs H Q _ => ∃ (a b c : Addr) (lo hi : Int × Int) (x : Bx), vs = [.ref a, .ref b, .ref c] ∧ H a = some (.tup [.int lo.1, .int lo.2]) ∧ H b = some (.tup [.int hi.1, .int hi.2]) ∧ Small lo ∧ Small hi ∧
  BoxAt C H c x ∧ BxOk x ∧ RetQ H Q (shareQ x (lo, hi))
theorem scShare : FnScope ["start", "end", "box"] ["start", "end", "box"] (defScope sShare) := ⟨rfl, rfl, rfl, by decide +kernel, rfl, by decide +kernel, by decide +kernel⟩
theorem ok_share {f f1 f2 : Addr} {fd fd1 fd2 : FuncData} (F : Fun K "edge_share" "edge_share" sShare f fd)
    (G1 : FnOk P w K mg base CX0 4 f1 fd1 ["low", "high", "box"] (spLeft C)) (D1 : Df K mg "area_left_of" f1 fd1 ["low", "high", "box"])
    (G2 : FnOk P w K mg base CX0 1 f2 fd2 ["fraction"] spNeg) (D2 : Df K mg "negated" f2 fd2 ["fraction"]) :
    FnOk P w K mg base CX0 5 f fd ["start", "end", "box"] (spShare C) := by
  refine F.ok scShare (fun vs H Q E h => ?_) (fun cdv A outer s H vs Q E hr h => ?_)
  · obtain ⟨a, b, c, lo, hi, x, rfl, _⟩ := h; rfl
  · obtain ⟨a, b, c, lo, hi, x, rfl, ha, hb, sl, sh, hc, hx, k⟩ := h
    have hr1 : Room 1 _ := hr.mono (by decide)
    refine ⟨_, pss_cons (ps_if (pt_cmpR op_le (pe_ix ix_tup (pv 0) pe_int (fun _ _ => rfl)) (pe_ix ix_tup (pv 1) pe_int (fun _ _ => rfl)) (nomark _)) (pss_one (ps_ret (pe_call G1 hr rfl D1.mg D1.kp D1.bn .nil pass0 (pa_cons (pv 0) (pa_cons (pv 1) (pa_cons (pv 2) pa_nil)))))) pss_nil)
      (pss_one (ps_ret (pe_call G2 hr1 rfl D2.mg D2.kp D2.bn .nil pass0 (pa_cons (pe_call G1 hr rfl D1.mg D1.kp D1.bn .nil pass0 (pa_cons (pv 1) (pa_cons (pv 0) (pa_cons (pv 2) pa_nil)))) pa_nil)))), ?_⟩
    refine ⟨_, rfl, _, _, _, _, rfl, rfl, SqT.of ha, rfl, _, rfl, _, _, _, _, rfl, rfl, SqT.of hb, rfl, _, _, rfl, rfl, _, rfl, ?_⟩
    refine if_both (fun hz => ?_) (fun hz => ?_)
    · exact ⟨_, rfl, _, rfl, _, rfl, a, b, c, lo, hi, x, rfl, ha, hb, sl, sh, hc, hx, hz, k⟩
    · refine ⟨_, rfl, _, rfl, _, rfl, b, a, c, hi, lo, x, rfl, hb, ha, sh, sl, hc, hx, by omega, fun H1 p1 s1 n1 e1 => ?_⟩
      refine ⟨p1, _, _, rfl, e1, ?_⟩
      have e : shareQ x (lo, hi) = - shareQ x (hi, lo) := shareQ_neg x hi lo
      rw [e] at k
      unfold RetQ at k
      rw [neg_num, neg_den] at k
      exact k.at s1
end
end Pc
set_option Elab.async false
set_option maxRecDepth 100000
set_option maxHeartbeats 4000000
namespace Pc
open PySem PySem.Spec PyProof.Rows L2
open Cv (imax imin bey toP)
def AllSmall (cs : List (List (Int × Int))) : Prop := ∀ c ∈ cs, ∀ z ∈ c, Small z
def shareF (x : Bx) (e : Edge) : Int × Int := ((shareQ x e).num, (shareQ x e).den)
def sharesF (x : Bx) (cs : List (List (Int × Int))) : List (Int × Int) := (allE cs).map (shareF x)
def covQ (x : Bx) (cs : List (List (Int × Int))) : Rat := sumF (sharesF x cs) / 256
theorem getD_mem {c : List (Int × Int)} {i : Nat} (h : i < c.length) : c.getD i (0, 0) ∈ c := by
  rw [List.getD_eq_getElem?_getD, List.getElem?_eq_getElem h]
  exact List.getElem_mem h
theorem allE_small {cs : List (List (Int × Int))} (h : AllSmall cs) : ∀ e ∈ allE cs, Small e.1 ∧ Small e.2 := by
  intro e he
  obtain ⟨c, hc, he⟩ := List.mem_flatMap.mp he
  unfold edgesM at he
  obtain ⟨k, hk, rfl⟩ := List.mem_map.mp he
  have hk' := List.mem_range.mp hk
  exact ⟨h c hc _ (getD_mem (prevI_lt hk')), h c hc _ (getD_mem hk')⟩
theorem sharesF_ok {x : Bx} {cs : List (List (Int × Int))} (hx : BxOk x) (h : AllSmall cs) : FracsOk (sharesF x cs) := by
  intro z hz
  obtain ⟨e, he, rfl⟩ := List.mem_map.mp hz
  obtain ⟨h1, h2⟩ := allE_small h e he
  have s := share_size hx h1 h2
  have dn := (shareQ x e).den_nz
  refine ⟨?_, s.1, ?_⟩
  · show (((shareQ x e).den : Nat) : Int) ≠ 0
    omega
  · show (((shareQ x e).den : Nat) : Int).natAbs ≤ 2 ^ 79
    rw [Int.natAbs_natCast]
    exact s.2
theorem acc_pos : ∀ (fs : List (Int × Int)) (s : Int × Int), 0 < s.2 → (∀ z ∈ fs, 0 < z.2) → 0 < (fs.foldl accStep s).2
  | [], s, h, _ => h
  | z :: fs, s, h, hz => acc_pos fs (accStep s z) (Int.mul_pos h (hz z (by simp))) (fun y hy => hz y (by simp [hy]))
theorem sharesF_pos (x : Bx) (cs : List (List (Int × Int))) : 0 < (accF (sharesF x cs)).2 := by
  refine acc_pos _ _ (by decide) fun z hz => ?_
  obtain ⟨e, _, rfl⟩ := List.mem_map.mp hz
  have dn := (shareQ x e).den_nz
  show 0 < (((shareQ x e).den : Nat) : Int)
  omega
theorem sharesF_len (x : Bx) (cs : List (List (Int × Int))) : (sharesF x cs).length = corners cs := by
  unfold sharesF; rw [List.length_map, allE_len]
theorem sumF_den {fs : List (Int × Int)} (h : FracsOk fs) (hl : fs.length ≤ 60) : (sumF fs).den ≤ 2 ^ 4800 := by
  have h2 : (accF fs).2 ≠ 0 := (acc_val fs (0, 1) (by decide) (fun z hz => (h z hz).1)).1
  have h1 := accF_val fun z hz => (h z hz).1
  have h3 := (low_size (n := (accF fs).1) h2).2
  rw [h1] at h3
  have h4 := (accF_bound (fs := fs) fun z hz => (h z hz).2).2
  exact Nat.le_trans h3 (Nat.le_trans h4 (Nat.pow_le_pow_right (by decide) (by omega)))
section
variable {P : Program} {w : World} {K : PySem.W.Frag} {mg : Str → Option Value} {base : Heap} {C : Addr}
def spCovOf (K : PySem.W.Frag) (C : Addr) : Sp := fun vs H Q _ => ∃ (a c : Addr) (as : List Addr) (cs : List (List (Int × Int))) (x : Bx), vs = [.ref a, .ref c] ∧ SqL K H a (as.map V.ref) ∧ CtrsAt H as cs ∧ corners cs ≤ 60 ∧ AllSmall cs ∧
  BoxAt C H c x ∧ BxOk x ∧ RetQ H Q (covQ x cs)
theorem scCovOf : FnScope ["contours", "box", "in_units", "edge"] ["contours", "box"] (defScope sCovOf) := ⟨rfl, rfl, rfl, by decide +kernel, rfl, by decide +kernel, by decide +kernel⟩
theorem ok_covOf {f f1 f2 f3 f4 : Addr} {fd fd1 fd2 fd3 fd4 : FuncData} (F : Fun K "coverage_of" "coverage_of" sCovOf f fd) (T : TxB K mg C)
    (G1 : FnOk P w K mg base CX0 3 f1 fd1 ["fractions"] (spTotal K)) (D1 : Df K mg "total" f1 fd1 ["fractions"])
    (G2 : FnOk P w K mg base CX0 5 f2 fd2 ["start", "end", "box"] (spShare C)) (D2 : Df K mg "edge_share" f2 fd2 ["start", "end", "box"])
    (G3 : FnOk P w K mg base CX0 2 f3 fd3 ["contours"] (spEdgesAll K)) (D3 : Df K mg "edges_of_all" f3 fd3 ["contours"])
    (G4 : FnOk P w K mg base CX0 2 f4 fd4 ["numerator", "denominator"] spLow) (D4 : Df K mg "lowest_terms" f4 fd4 ["numerator", "denominator"]) :
    FnOk P w K mg base CX0 6 f fd ["contours", "box"] (spCovOf K C) := by
  obtain ⟨tq, hq⟩ := T.square
  refine F.ok scCovOf (fun vs H Q E h => ?_) (fun cdv A outer s H vs Q E hr h => ?_)
  · obtain ⟨a, c, as, cs, x, rfl, _⟩ := h; rfl
  · obtain ⟨a, c, as, cs, x, rfl, hS, hC, hlen, hsm, ⟨dx, hc⟩, hx, k⟩ := h
    have hr2 : Room 2 _ := hr.mono (by decide)
    have hr3 : Room 3 _ := hr.mono (by decide)
    refine ⟨_, pss_cons (ps_set (i := 2) scCovOf.nd rfl (Or.inl rfl) (pe_call G1 hr3 rfl D1.mg D1.kp D1.bn .nil pass0 (pa_cons
        (pe_lc (own := [("edge", 3)]) (g := gName 3) (tt := tYes) rfl scCovOf.nd (pi_list (pe_call G3 hr2 rfl D3.mg D3.kp D3.bn .nil pass0 (pa_cons (pv 0) pa_nil)))
          (blkOk_by (own := [("edge", 3)]) (N := ["contours", "box", "in_units", "edge"]) (sc := defScope sCovOf) (by decide +kernel))
          (fun _ _ _ _ _ => pg_name (i := 3) scCovOf.nd rfl (Or.inl rfl)) (fun _ _ _ _ _ => pts_nil)
          (fun _ _ _ _ _ => pe_call G2 hr rfl D2.mg D2.kp D2.bn .nil pass0 (pa_cons (pe_ix (r := rIxT K) ix_tup (pv 3) pe_int (fun _ _ => rfl)) (pa_cons (pe_ix (r := rIxT K) ix_tup (pv 3) pe_int (fun _ _ => rfl)) (pa_cons (pv 1) pa_nil)))))
        pa_nil)))
      (pss_one (ps_ret (pe_call G4 hr2 rfl D4.mg D4.kp D4.bn .nil pass0 (pa_cons (pe_ix ix_tup (pv 2) pe_int (fun _ _ => rfl)) (pa_cons (pe_op op_mulW (pe_ix ix_tup (pv 2) pe_int (fun _ _ => rfl)) (pe_gi rfl hq)) pa_nil))))), ?_⟩
    refine ⟨_, rfl, a, as, cs, rfl, hS, hC, by omega, fun H1 L es s1 hL hL1 hE => ⟨L, rfl, ⟨_, SqL.of hL1⟩, fun D hD => ?_⟩⟩
    have hsz : (2000 : Nat) < sizeLine := by decide
    have hEl : es.length = corners cs := by rw [hE.1, allE_len]
    refine lc_list (K := K) (a := L) (xs := es.map V.ref)
      (fun i H' => ∃ ps : List Addr, Same H1 H' ∧ H' D = some (.lst (ps.map V.ref)) ∧ PtsAt H' ps (((allE cs).take i).map (shareF x))) ⟨[], same_upd hD, upd_same, PtsAt.nil _⟩ (fun i H' _ ⟨_, s2, _⟩ => SqL.of (s2 _ _ hL1)) ?_ ?_
    · rintro i y H' hi ⟨ps, s2, hDv, hP⟩
      obtain ⟨e, he, rfl⟩ := map_at hi
      obtain ⟨z, hz, p, q, t1, t2, t3⟩ := hE.get he
      have hzm : z ∈ allE cs := List.mem_of_getElem? hz
      obtain ⟨z1, z2⟩ := allE_small hsm z hzm
      refine ⟨rfl, ?_⟩
      refine ⟨_, rfl, _, _, _, _, rfl, rfl, SqT.of (s2 _ _ t1), rfl, _, rfl, _, _, _, _, rfl, rfl, SqT.of (s2 _ _ t1), rfl, _, rfl, p, q, c, z.1, z.2, x, rfl, s2 _ _ t2, s2 _ _ t3, z1, z2, ⟨dx, s2 _ _ (s1 _ _ hc)⟩, hx, fun H2 r s3 n3 e3 => ?_⟩
      refine ⟨ps.map V.ref, s3 _ _ hDv, ?_, ps ++ [r], ?_, ?_, ?_⟩
      · have h1 := hP.1
        have h2 : i < (allE cs).length := (List.getElem?_eq_some_iff.mp hz).1
        rw [List.length_map, h1, List.length_map, List.length_take]
        rw [allE_len] at h2
        rw [allE_len]
        omega
      · exact sOld (s2.trans s3) hD
      · rw [upd_same, List.map_append]; rfl
      · have sU : ∀ b xs, H2 b = some (.tup xs) → upd H2 D (.lst (ps.map V.ref ++ [.ref r])) b = some (.tup xs) := by
          intro b xs hb
          rw [upd_ne (ne_of hb (s3 _ _ hDv) (by intro z; cases z))]; exact hb
        rw [take_more hz, List.map_append]
        exact ((hP.same (sTup s3)).same sU).snoc (sU _ _ e3)
    · rintro H' ⟨ps, s2, hDv, hP⟩
      have e1 : ((allE cs).take (es.map V.ref).length).map (shareF x) = sharesF x cs := by
        rw [List.length_map, hE.1, List.take_length]; rfl
      rw [e1] at hP
      have hl : (sharesF x cs).length ≤ 60 := by rw [sharesF_len]; exact hlen
      refine ⟨D, ps, sharesF x cs, rfl, SqL.of hDv, hP, hl, sharesF_ok hx hsm, sharesF_pos x cs, fun H3 r s3 n3 e3 => ?_⟩
      have hden := sumF_den (sharesF_ok hx hsm) hl
      have dn := (sumF (sharesF x cs)).den_nz
      refine ⟨_, rfl, _, _, _, _, rfl, rfl, SqT.of e3, rfl, _, rfl, _, _, _, _, rfl, rfl, SqT.of e3, rfl, _, _, rfl, rfl, ?_, (sumF (sharesF x cs)).num, ((sumF (sharesF x cs)).den : Int) * 256, rfl, by omega, ?_, ?_⟩
      · refine wide_mul (a := 4801) (b := 9) ?_ (by decide) (by decide) (by decide) (by decide)
        rw [Int.natAbs_natCast]
        exact pow_lt_of hden (by decide)
      · have := wide_lt (i := ((sumF (sharesF x cs)).den : Int)) (j := 256) (a := 4801) (b := 9) (by rw [Int.natAbs_natCast]; exact pow_lt_of hden (by decide)) (by decide)
        exact Nat.lt_of_lt_of_le this (Nat.pow_le_pow_right (by decide) (by decide))
      · have e : ((sumF (sharesF x cs)).num : Rat) / ((((sumF (sharesF x cs)).den : Int) * 256 : Int) : Rat) = covQ x cs := by
          unfold covQ
          have h1 := Cv.self_div (sumF (sharesF x cs))
          have h2 := Cv.nat_ne dn
          rw [Rat.intCast_mul]
          have h3 : (((sumF (sharesF x cs)).den : Int) : Rat) = ((sumF (sharesF x cs)).den : Rat) := rfl
          have h4 : ((256 : Int) : Rat) = 256 := rfl
          rw [h3, h4]
          generalize ((sumF (sharesF x cs)).num : Rat) = n at *
          generalize ((sumF (sharesF x cs)).den : Rat) = d at *
          generalize sumF (sharesF x cs) = v at *
          grind
        rw [e]
        exact RetPair.at k ((s1.trans s2).trans s3)
/-! figure.area_of -/
def areaStep (s : Int) (e : Edge) : Int := s + e.1.1 * e.2.2 - e.2.1 * e.1.2
def areaI (l : List Edge) : Int := l.foldl areaStep 0
theorem areaI_snoc (l : List Edge) (e : Edge) : areaI (l ++ [e]) = areaStep (areaI l) e := by unfold areaI; rw [List.foldl_append]; rfl
def spAreaOf (K : PySem.W.Frag) : Sp := fun vs H Q _ => ∃ (a : Addr) (as : List Addr) (cs : List (List (Int × Int))), vs = [.ref a] ∧ SqL K H a (as.map V.ref) ∧ CtrsAt H as cs ∧ corners cs ≤ 60 ∧ AllSmall cs ∧ RetQ H Q ((areaI (allE cs) : Rat) / 512)
theorem scAreaOf : FnScope ["contours", "doubled", "edge", "start", "end"] ["contours"] (defScope sAreaOf) := ⟨rfl, rfl, rfl, by decide +kernel, rfl, by decide +kernel, by decide +kernel⟩
theorem ok_areaOf {f f3 f4 : Addr} {fd fd3 fd4 : FuncData} (F : Fun K "area_of" "area_of" sAreaOf f fd) (T : TxB K mg C)
    (G3 : FnOk P w K mg base CX0 2 f3 fd3 ["contours"] (spEdgesAll K)) (D3 : Df K mg "edges_of_all" f3 fd3 ["contours"])
    (G4 : FnOk P w K mg base CX0 2 f4 fd4 ["numerator", "denominator"] spLow) (D4 : Df K mg "lowest_terms" f4 fd4 ["numerator", "denominator"]) :
    FnOk P w K mg base CX0 3 f fd ["contours"] (spAreaOf K) := by
  obtain ⟨tq, hq⟩ := T.square
  refine F.ok scAreaOf (fun vs H Q E h => ?_) (fun cdv A outer s H vs Q E hr h => ?_)
  · obtain ⟨a, as, cs, rfl, _⟩ := h; rfl
  · obtain ⟨a, as, cs, rfl, hS, hC, hlen, hsm, k⟩ := h
    refine ⟨_, pss_cons (ps_set (i := 1) scAreaOf.nd rfl (Or.inl rfl) pe_int)
      (pss_cons (ps_for PassesOwn.never rfl (pi_list (pe_call G3 hr rfl D3.mg D3.kp D3.bn .nil pass0 (pa_cons (pv 0) pa_nil))) (pg_name (i := 2) scAreaOf.nd rfl (Or.inl rfl))
        (pss_cons (ps_set (i := 3) scAreaOf.nd rfl (Or.inl rfl) (pe_ix ix_tup (pv 2) pe_int (fun _ _ => rfl)))
        (pss_cons (ps_set (i := 4) scAreaOf.nd rfl (Or.inl rfl) (pe_ix ix_tup (pv 2) pe_int (fun _ _ => rfl)))
        (pss_one (ps_set (i := 1) scAreaOf.nd rfl (Or.inl rfl) (pe_op op_sub (pe_op op_add (pv 1) (pe_op op_mul (pe_ix ix_tup (pv 3) pe_int (fun _ _ => rfl)) (pe_ix ix_tup (pv 4) pe_int (fun _ _ => rfl)))) (pe_op op_mul (pe_ix ix_tup (pv 4) pe_int (fun _ _ => rfl)) (pe_ix ix_tup (pv 3) pe_int (fun _ _ => rfl)))))))))
      (pss_one (ps_ret (pe_call G4 hr rfl D4.mg D4.kp D4.bn .nil pass0 (pa_cons (pv 1) (pa_cons (pe_op op_mul pe_int (pe_gi rfl hq)) pa_nil)))))), ?_⟩
    refine ⟨_, rfl, a, as, cs, rfl, hS, hC, by omega, fun H1 L es s1 hL hL1 hE => ⟨L, rfl, ⟨_, SqL.of hL1⟩, ?_⟩⟩
    refine for_list (K := K) (a := L) (xs := es.map V.ref)
      (fun i σ H' => H' = H1 ∧ ∃ v1 v2 v3 : Option V, σ = [some (.ref a), some (.int (areaI ((allE cs).take i))), v1, v2, v3]) ⟨rfl, none, none, none, rfl⟩ (fun i σ H' _ ⟨e, _⟩ => by rw [e]; exact SqL.of hL1) ?_ ?_
    · rintro i y σ H' hi ⟨rfl, v1, v2, v3, rfl⟩
      obtain ⟨e, he, rfl⟩ := map_at hi
      obtain ⟨z, hz, p, q, t1, t2, t3⟩ := hE.get he
      obtain ⟨⟨z1, z1'⟩, ⟨z2, z2'⟩⟩ := allE_small hsm z (List.mem_of_getElem? hz)
      refine ⟨_, rfl, _, _, _, _, rfl, rfl, SqT.of t1, rfl, ?_⟩
      refine ⟨_, rfl, _, _, _, _, rfl, rfl, SqT.of t1, rfl, ?_⟩
      refine ⟨_, rfl, _, rfl, _, _, _, _, rfl, rfl, SqT.of t2, rfl, _, rfl, _, _, _, _, rfl, rfl, SqT.of t3, rfl, _, _, rfl, rfl, .inl ⟨by omega, by omega⟩, _, _, rfl, rfl, _, rfl, _, _, _, _, rfl, rfl, SqT.of t3, rfl, _, rfl, _, _, _, _, rfl, rfl, SqT.of t2, rfl, _, _, rfl, rfl, .inl ⟨by omega, by omega⟩, _, _, rfl, rfl, ?_⟩
      refine ⟨rfl, some (.ref e), some (.ref p), some (.ref q), ?_⟩
      rw [take_more hz, areaI_snoc]
      rfl
    · rintro σ H' ⟨rfl, v1, v2, v3, rfl⟩
      rw [List.length_map, hE.1, List.take_length]
      refine ⟨_, rfl, _, _, rfl, rfl, .inl ⟨by decide, by decide⟩, areaI (allE cs), 512, rfl, by decide, ?_, ?_⟩
      · exact Nat.lt_of_lt_of_le (show (512 : Int).natAbs < 2 ^ 10 by decide) (Nat.pow_le_pow_right (by decide) (by decide))
      · have e : ((512 : Int) : Rat) = 512 := rfl
        rw [e]
        exact RetPair.at k s1
end
end Pc
set_option Elab.async false
set_option maxRecDepth 100000
set_option maxHeartbeats 4000000
namespace Pc
open PySem PySem.Spec PyProof.Rows L2
open Cv (imax imin bey toP)
/-! line.flat_line -/
def flatPt (x0 y0 x1 y1 : Int) (i : Nat) : Int × Int := (x0 + (i : Nat), y0 + near ((x0 + (i : Nat) - x0) * (y1 - y0)) (imax (x1 - x0) 1))
def flatM (x0 y0 x1 y1 : Int) : List (Int × Int) := (List.range (x1 + 1 - x0).toNat).map (flatPt x0 y0 x1 y1)
def flatG (x0 y0 x1 y1 : Int) : List (Int × Int) := if x0 > x1 then flatM x1 y1 x0 y0 else flatM x0 y0 x1 y1
def InLine (a b c d : Int) : Prop := a.natAbs ≤ 1000 ∧ b.natAbs ≤ 1000 ∧ c.natAbs ≤ 1000 ∧ d.natAbs ≤ 1000
/-- a new list of new pairs -/
def RetPts (H : Hp) (Q : VK) (l : List (Int × Int)) : Prop := ∀ (H' : Hp) (D : Addr) (ps : List Addr), Same H H' → H D = none → H' D = some (.lst (ps.map V.ref)) → PtsAt H' ps l → Q (.ref D) H'
theorem RetPts.at {H H1 : Hp} {Q : VK} {l : List (Int × Int)} (k : RetPts H Q l) (s : Same H H1) : RetPts H1 Q l := fun H' p ps s' hp e q => k H' p ps (s.trans s') (s.free hp) e q
theorem range_snoc {α : Type} (f : Nat → α) (i : Nat) : (List.range (i + 1)).map f = (List.range i).map f ++ [f i] := by
  rw [List.range_succ, List.map_append]; rfl
section
variable {P : Program} {w : World} {K : PySem.W.Frag} {mg : Str → Option Value} {base : Heap} {C : Addr}
def spFlat1 : Sp := fun vs H Q _ => ∃ a b c d : Int, vs = [.int a, .int b, .int c, .int d] ∧ InLine a b c d ∧ a ≤ c ∧ RetPts H Q (flatM a b c d)
def spFlat : Sp := fun vs H Q _ => ∃ a b c d : Int, vs = [.int a, .int b, .int c, .int d] ∧ InLine a b c d ∧ RetPts H Q (flatG a b c d)
theorem scFlat : FnScope ["x0", "y0", "x1", "y1", "run", "x"] ["x0", "y0", "x1", "y1"] (defScope sFlat) := ⟨rfl, rfl, rfl, by decide +kernel, rfl, by decide +kernel, by decide +kernel⟩
theorem flat_body (a b c d : Int) {H : Hp} {Q : VK} {D : Addr} {i : Nat} {ps : List Addr} {H' : Hp} (s1 : Same H H') (hD : H D = none) (hDv : H' D = some (.lst (ps.map V.ref))) (hP : PtsAt H' ps ((List.range i).map (flatPt a b c d))) {q : Addr} (hq : H' q = none) :
    ∃ ps2 : List Addr, Same H (upd (upd H' q (.tup [.int (flatPt a b c d i).1, .int (flatPt a b c d i).2])) D (.lst (ps.map V.ref ++ [.ref q]))) ∧
      (upd (upd H' q (.tup [.int (flatPt a b c d i).1, .int (flatPt a b c d i).2])) D (.lst (ps.map V.ref ++ [.ref q]))) D = some (.lst (ps2.map V.ref)) ∧
      PtsAt (upd (upd H' q (.tup [.int (flatPt a b c d i).1, .int (flatPt a b c d i).2])) D (.lst (ps.map V.ref ++ [.ref q]))) ps2 ((List.range (i + 1)).map (flatPt a b c d)) := by
  have hDq : D ≠ q := ne_of_none hDv hq
  refine ⟨ps ++ [q], sOld (sNew s1 hq) hD, ?_, ?_⟩
  · rw [upd_same, List.map_append]; rfl
  · rw [range_snoc]
    refine (hP.same fun b xs hb => ?_).snoc ?_
    · rw [upd_ne (ne_of hb hDv (by intro z; cases z)), upd_ne (ne_of_none hb hq)]; exact hb
    · rw [upd_ne (Ne.symm hDq), upd_same]
theorem ok_flat1 {f f1 : Addr} {fd fd1 : FuncData} (F : Fun K "flat_line" "flat_line" sFlat f fd) (O : Own mg) (G : FnOk P w K mg base CX0 1 f1 fd1 ["numerator", "denominator"] spNear) (D1 : Df K mg "nearest" f1 fd1 ["numerator", "denominator"]) :
    FnOk P w K mg base CX0 2 f fd ["x0", "y0", "x1", "y1"] spFlat1 := by
  refine F.ok scFlat (fun vs H Q E h => ?_) (fun cdv A outer s H vs Q E hr h => ?_)
  · obtain ⟨a, b, c, d, rfl, _⟩ := h; rfl
  · obtain ⟨a, b, c, d, rfl, ⟨ba, bb, bc, bd⟩, hac, k⟩ := h
    refine ⟨_, pss_cons (ps_if (pt_cmpR op_gt (pv 0) (pv 2) (nomark _)) (pss_one ps_never) pss_nil)
      (pss_cons (ps_set (i := 4) scFlat.nd rfl (Or.inr rfl) (pe_callB (call_max2 rfl) (by rfl) O.max (by decide +kernel) (pa_cons (pe_op op_sub (pv 2) (pv 0)) (pa_cons pe_int pa_nil))))
      (pss_one (ps_ret (pe_lc (own := [("x", 5)]) (g := gName 5) (tt := tYes) rfl scFlat.nd (pi_range2 rfl O.range (pa_cons (pv 0) (pa_cons (pe_op op_add (pv 2) pe_int) pa_nil)))
        (blkOk_by (own := [("x", 5)]) (N := ["x0", "y0", "x1", "y1", "run", "x"]) (sc := defScope sFlat) (by decide +kernel))
        (fun _ _ _ _ _ => pg_name (i := 5) scFlat.nd rfl (Or.inl rfl)) (fun _ _ _ _ _ => pts_nil)
        (fun _ _ _ _ _ => pe_tup (pa_cons (pv 5) (pa_cons (pe_op op_add (pv 1) (pe_call G hr rfl D1.mg D1.kp D1.bn .nil pass0 (pa_cons (pe_op op_mul (pe_op op_sub (pv 5) (pv 0)) (pe_op op_sub (pv 3) (pv 1))) (pa_cons (pv 4) pa_nil)))) pa_nil))))))), ?_⟩
    refine ⟨_, rfl, _, rfl, _, _, rfl, rfl, _, rfl, ?_⟩
    refine if_false_of (decide_eq_false (by omega)) ?_
    refine ⟨_, rfl, _, rfl, _, _, rfl, rfl, _, _, rfl, ?_⟩
    refine ⟨_, rfl, _, rfl, _, _, rfl, rfl, _, _, rfl, ⟨by omega, by omega, by omega, by omega⟩, fun D hD => ?_⟩
    have hsz : (3000 : Nat) < sizeLine := by decide
    refine lc_range (lo := a) (n := (c + 1 - a).toNat)
      (fun i H' => ∃ ps : List Addr, Same H H' ∧ H' D = some (.lst (ps.map V.ref)) ∧ PtsAt H' ps ((List.range i).map (flatPt a b c d))) ⟨[], same_upd hD, upd_same, PtsAt.nil _⟩ ?_ ?_
    · rintro i H' hi ⟨ps, s1, hDv, hP⟩
      refine ⟨rfl, ?_⟩
      have hrun : 0 < imax (c - a) 1 := by unfold imax; omega
      have hrun2 : (imax (c - a) 1).natAbs < 2 ^ 12 := by unfold imax; omega
      refine ⟨_, rfl, _, rfl, _, rfl, _, rfl, _, _, rfl, rfl, _, rfl, _, rfl, _, _, rfl, rfl, _, _, rfl, rfl, .inl ⟨by omega, by omega⟩, _, rfl, _, imax (c - a) 1, rfl, hrun, Nat.lt_of_lt_of_le hrun2 (Nat.pow_le_pow_right (by decide) (by decide)), _, _, rfl, rfl, (by show 2 ≤ sizeLine; decide), fun q hq => ?_⟩
      obtain ⟨ps2, t1, t2, t3⟩ := flat_body (Q := Q) a b c d s1 hD hDv hP hq
      refine ⟨ps.map V.ref, by rw [upd_ne (ne_of_none hDv hq)]; exact hDv, ?_, ps2, t1, t2, t3⟩
      have h1 := hP.1
      rw [List.length_map, h1, List.length_map, List.length_range]; omega
    · rintro H' ⟨ps, s1, hDv, hP⟩
      exact k H' D ps s1 hD hDv hP
theorem ok_flat {f f1 : Addr} {fd fd1 : FuncData} (F : Fun K "flat_line" "flat_line" sFlat f fd) (O : Own mg) (G : FnOk P w K mg base CX0 1 f1 fd1 ["numerator", "denominator"] spNear) (D1 : Df K mg "nearest" f1 fd1 ["numerator", "denominator"])
    (D0 : Df K mg "flat_line" f fd ["x0", "y0", "x1", "y1"]) :
    FnOk P w K mg base CX0 3 f fd ["x0", "y0", "x1", "y1"] spFlat := by
  have G0 : FnOk P w K mg base CX0 2 f fd ["x0", "y0", "x1", "y1"] spFlat1 := ok_flat1 F O G D1
  refine F.ok scFlat (fun vs H Q E h => ?_) (fun cdv A outer s H vs Q E hr h => ?_)
  · obtain ⟨a, b, c, d, rfl, _⟩ := h; rfl
  · obtain ⟨a, b, c, d, rfl, hI, k⟩ := h
    have hr1 : Room 1 _ := hr.mono (by decide)
    refine ⟨_, pss_cons (ps_if (pt_cmpR op_gt (pv 0) (pv 2) (nomark _)) (pss_one (ps_ret (pe_call G0 hr rfl D0.mg D0.kp D0.bn .nil pass0 (pa_cons (pv 2) (pa_cons (pv 3) (pa_cons (pv 0) (pa_cons (pv 1) pa_nil))))))) pss_nil)
      (pss_cons (ps_set (i := 4) scFlat.nd rfl (Or.inr rfl) (pe_callB (call_max2 rfl) (by rfl) O.max (by decide +kernel) (pa_cons (pe_op op_sub (pv 2) (pv 0)) (pa_cons pe_int pa_nil))))
      (pss_one (ps_ret (pe_lc (own := [("x", 5)]) (g := gName 5) (tt := tYes) rfl scFlat.nd (pi_range2 rfl O.range (pa_cons (pv 0) (pa_cons (pe_op op_add (pv 2) pe_int) pa_nil)))
        (blkOk_by (own := [("x", 5)]) (N := ["x0", "y0", "x1", "y1", "run", "x"]) (sc := defScope sFlat) (by decide +kernel))
        (fun _ _ _ _ _ => pg_name (i := 5) scFlat.nd rfl (Or.inl rfl)) (fun _ _ _ _ _ => pts_nil)
        (fun _ _ _ _ _ => pe_tup (pa_cons (pv 5) (pa_cons (pe_op op_add (pv 1) (pe_call G hr1 rfl D1.mg D1.kp D1.bn .nil pass0 (pa_cons (pe_op op_mul (pe_op op_sub (pv 5) (pv 0)) (pe_op op_sub (pv 3) (pv 1))) (pa_cons (pv 4) pa_nil)))) pa_nil))))))), ?_⟩
    refine ⟨_, rfl, _, rfl, _, _, rfl, rfl, _, rfl, ?_⟩
    refine if_both (fun hz => ?_) (fun hz => ?_)
    · obtain ⟨ba, bb, bc, bd⟩ := hI
      refine ⟨_, rfl, _, rfl, _, rfl, _, rfl, c, d, a, b, rfl, ⟨bc, bd, ba, bb⟩, by omega, ?_⟩
      unfold flatG at k
      rw [if_pos hz] at k
      exact k
    · unfold flatG at k
      rw [if_neg hz] at k
      obtain ⟨ba, bb, bc, bd⟩ := hI
      refine ⟨_, rfl, _, rfl, _, _, rfl, rfl, _, _, rfl, ?_⟩
      refine ⟨_, rfl, _, rfl, _, _, rfl, rfl, _, _, rfl, ⟨by omega, by omega, by omega, by omega⟩, fun D hD => ?_⟩
      have hsz : (3000 : Nat) < sizeLine := by decide
      refine lc_range (lo := a) (n := (c + 1 - a).toNat)
        (fun i H' => ∃ ps : List Addr, Same H H' ∧ H' D = some (.lst (ps.map V.ref)) ∧ PtsAt H' ps ((List.range i).map (flatPt a b c d))) ⟨[], same_upd hD, upd_same, PtsAt.nil _⟩ ?_ ?_
      · rintro i H' hi ⟨ps, s1, hDv, hP⟩
        refine ⟨rfl, ?_⟩
        have hrun : 0 < imax (c - a) 1 := by unfold imax; omega
        have hrun2 : (imax (c - a) 1).natAbs < 2 ^ 12 := by unfold imax; omega
        refine ⟨_, rfl, _, rfl, _, rfl, _, rfl, _, _, rfl, rfl, _, rfl, _, rfl, _, _, rfl, rfl, _, _, rfl, rfl, .inl ⟨by omega, by omega⟩, _, rfl, _, imax (c - a) 1, rfl, hrun, Nat.lt_of_lt_of_le hrun2 (Nat.pow_le_pow_right (by decide) (by decide)), _, _, rfl, rfl, (by show 2 ≤ sizeLine; decide), fun q hq => ?_⟩
        obtain ⟨ps2, t1, t2, t3⟩ := flat_body (Q := Q) a b c d s1 hD hDv hP hq
        refine ⟨ps.map V.ref, by rw [upd_ne (ne_of_none hDv hq)]; exact hDv, ?_, ps2, t1, t2, t3⟩
        have h1 := hP.1
        rw [List.length_map, h1, List.length_map, List.length_range]; omega
      · rintro H' ⟨ps, s1, hDv, hP⟩
        exact k H' D ps s1 hD hDv hP
/-! line.line_pixels -/
def lineM (a b c d : Int) : List (Int × Int) := if ((d - b).natAbs : Int) ≤ ((c - a).natAbs : Int) then flatG a b c d else (flatG b a d c).map fun p => (p.2, p.1)
def spLine : Sp := fun vs H Q _ => ∃ a b c d : Int, vs = [.int a, .int b, .int c, .int d] ∧ InLine a b c d ∧ RetPts H Q (lineM a b c d)
theorem flatG_len {a b c d : Int} (h : InLine a b c d) : (flatG a b c d).length ≤ 2001 := by
  obtain ⟨ba, bb, bc, bd⟩ := h
  unfold flatG flatM
  split <;> rw [List.length_map, List.length_range] <;> omega
theorem scLine : FnScope ["x0", "y0", "x1", "y1", "pixel"] ["x0", "y0", "x1", "y1"] (defScope sLine) := ⟨rfl, rfl, rfl, by decide +kernel, rfl, by decide +kernel, by decide +kernel⟩
theorem ok_line {f f1 : Addr} {fd fd1 : FuncData} (F : Fun K "line_pixels" "line_pixels" sLine f fd) (O : Own mg) (G : FnOk P w K mg base CX0 3 f1 fd1 ["x0", "y0", "x1", "y1"] spFlat) (D1 : Df K mg "flat_line" f1 fd1 ["x0", "y0", "x1", "y1"]) :
    FnOk P w K mg base CX0 4 f fd ["x0", "y0", "x1", "y1"] spLine := by
  refine F.ok scLine (fun vs H Q E h => ?_) (fun cdv A outer s H vs Q E hr h => ?_)
  · obtain ⟨a, b, c, d, rfl, _⟩ := h; rfl
  · obtain ⟨a, b, c, d, rfl, hI, k⟩ := h
    refine ⟨_, pss_cons (ps_if (pt_cmpR op_le (pe_callB call_abs (by rfl) O.abs (by decide +kernel) (pa_cons (pe_op op_sub (pv 3) (pv 1)) pa_nil)) (pe_callB call_abs (by rfl) O.abs (by decide +kernel) (pa_cons (pe_op op_sub (pv 2) (pv 0)) pa_nil)) (nomark _))
        (pss_one (ps_ret (pe_call G hr rfl D1.mg D1.kp D1.bn .nil pass0 (pa_cons (pv 0) (pa_cons (pv 1) (pa_cons (pv 2) (pa_cons (pv 3) pa_nil))))))) pss_nil)
      (pss_one (ps_ret (pe_lc (own := [("pixel", 4)]) (g := gName 4) (tt := tYes) rfl scLine.nd (pi_list (pe_call G hr rfl D1.mg D1.kp D1.bn .nil pass0 (pa_cons (pv 1) (pa_cons (pv 0) (pa_cons (pv 3) (pa_cons (pv 2) pa_nil))))))
        (blkOk_by (own := [("pixel", 4)]) (N := ["x0", "y0", "x1", "y1", "pixel"]) (sc := defScope sLine) (by decide +kernel))
        (fun _ _ _ _ _ => pg_name (i := 4) scLine.nd rfl (Or.inl rfl)) (fun _ _ _ _ _ => pts_nil)
        (fun _ _ _ _ _ => pe_tup (pa_cons (pe_ix (r := rIxT K) ix_tup (pv 4) pe_int (fun _ _ => rfl)) (pa_cons (pe_ix (r := rIxT K) ix_tup (pv 4) pe_int (fun _ _ => rfl)) pa_nil)))))), ?_⟩
    refine ⟨_, rfl, _, rfl, _, _, rfl, rfl, _, rfl, _, rfl, _, rfl, _, _, rfl, rfl, _, rfl, _, _, rfl, rfl, _, rfl, ?_⟩
    rw [abs_eq, abs_eq]
    unfold lineM at k
    refine if_both (fun hz => ?_) (fun hz => ?_)
    · rw [if_pos hz] at k
      exact ⟨_, rfl, _, rfl, _, rfl, _, rfl, a, b, c, d, rfl, hI, k⟩
    · rw [if_neg hz] at k
      obtain ⟨ba, bb, bc, bd⟩ := hI
      refine ⟨_, rfl, _, rfl, _, rfl, _, rfl, b, a, d, c, rfl, ⟨bb, ba, bd, bc⟩, fun H1 L es s1 hL hL1 hE => ⟨L, rfl, ⟨_, SqL.of hL1⟩, fun D hD => ?_⟩⟩
      have hsz : (3000 : Nat) < sizeLine := by decide
      have hlen := flatG_len (a := b) (b := a) (c := d) (d := c) ⟨bb, ba, bd, bc⟩
      refine lc_list (K := K) (a := L) (xs := es.map V.ref)
        (fun i H' => ∃ ps : List Addr, Same H1 H' ∧ H' D = some (.lst (ps.map V.ref)) ∧ PtsAt H' ps (((flatG b a d c).take i).map fun p => (p.2, p.1))) ⟨[], same_upd hD, upd_same, PtsAt.nil _⟩ (fun i H' _ ⟨_, s2, _⟩ => SqL.of (s2 _ _ hL1)) ?_ ?_
      · rintro i y H' hi ⟨ps, s2, hDv, hP⟩
        obtain ⟨e, he, rfl⟩ := map_at hi
        obtain ⟨z, hz, t1⟩ := hE.get he
        refine ⟨rfl, ?_⟩
        refine ⟨_, rfl, _, _, _, _, rfl, rfl, SqT.of (s2 _ _ t1), rfl, _, rfl, _, _, _, _, rfl, rfl, SqT.of (s2 _ _ t1), rfl, (by show 2 ≤ sizeLine; decide), fun q hq => ?_⟩
        have hDq : D ≠ q := ne_of_none hDv hq
        refine ⟨ps.map V.ref, by rw [upd_ne hDq]; exact hDv, ?_, ps ++ [q], sOld (sNew s2 hq) hD, ?_, ?_⟩
        · have h1 := hP.1
          have h2 : i < (flatG b a d c).length := (List.getElem?_eq_some_iff.mp hz).1
          rw [List.length_map, h1, List.length_map, List.length_take]; omega
        · rw [upd_same, List.map_append]; rfl
        · rw [take_more hz, List.map_append]
          refine (hP.same fun b xs hb => ?_).snoc ?_
          · rw [upd_ne (ne_of hb hDv (by intro z; cases z)), upd_ne (ne_of_none hb hq)]; exact hb
          · rw [upd_ne (Ne.symm hDq), upd_same]
      · rintro H' ⟨ps, s2, hDv, hP⟩
        rw [List.length_map, hE.1, List.take_length] at hP
        exact k H' D ps (s1.trans s2) (s1.free hD) hDv hP
end
end Pc
set_option Elab.async false
set_option maxRecDepth 100000
set_option maxHeartbeats 4000000
/-! Two rules that the layer lacks: max of four whole numbers; list(reversed(a list)). -/
namespace Pc
open PySem PySem.Spec PyProof.Rows L2
open Cv (imax)
theorem best_step (xs : Array (Int × Tok)) (k : Nat) :
    numAt xs (argBest (fun i j => decide (numAt xs i > numAt xs j)) (k + 1)) = imax (numAt xs (argBest (fun i j => decide (numAt xs i > numAt xs j)) k)) (numAt xs (k + 1)) := by
  unfold imax
  rw [argBest]
  by_cases h : numAt xs (k + 1) > numAt xs (argBest (fun i j => decide (numAt xs i > numAt xs j)) k)
  · rw [if_pos h, if_pos (decide_eq_true h)]
  · rw [if_neg h, if_neg (by rw [decide_eq_false h]; exact Bool.false_ne_true)]
theorem argsMax4 (a b c d : Value) : argsOk "max" ⟨[a, b, c, d], []⟩ := by unfold argsOk; kernel_rfl
section
variable {prog : Program} {w : World} {A : Around} {E : Value → Shared → Prop} {s : Shared}
theorem max_four {a b c d : Int} {ta tb tc td : Tok} {Q : Value → Shared → Prop} (hh : A.handled = none)
    (fin : ∀ h' tk t, (∀ z o, s.heap.get? z = some o → h'.get? z = some o) → Q (.int (imax (imax (imax a b) c) d) t) { s with heap := h', toks := tk }) :
    wpAny (model prog w) A (call (.builtin "max") [.int a ta, .int b tb, .int c tc, .int d td]) Q E s := by
  let xs : Array (Int × Tok) := #[(a, ta), (b, tb), (c, tc), (d, td)]
  have hv : numAt xs (argBest (fun i j => decide (numAt xs i > numAt xs j)) 3) = imax (imax (imax a b) c) d := by
    rw [best_step, best_step, best_step]; rfl
  have hT : (s.heap.push { cls := .type "tuple", data := .seq #[.int a ta, .int b tb, .int c tc, .int d td] }).IsTuple s.heap.objs.size (intItems xs) := ⟨_, Heap.get?_push_size _ rfl, rfl, 0, by simp [intItems, xs]⟩
  refine call_function_tree F.kind_max F.plain_max F.entry_max (argsMax4 _ _ _ _) ?_
  show wpAny _ A.in1 (Builtin.Builtins.bindParams "max" ["key", "default"] 0 ⟨[], []⟩ >>= _) _ _ s
  refine wpAny_bind (wpAny_of_eq (a := [none, none]) rfl ?_)
  show wpAny _ A.in1 (newTuple [.int a ta, .int b tb, .int c tc, .int d td] >>= _) _ _ s
  refine wpAny_bind (wpAny_newObj_type (wpAny_bind (wpAny_pyIter_tuple hT ?_)))
  refine wpAny_bind (wpAny_newObj_type ?_)
  rw [show (toString "max" ++ toString ".loop" : String) = "max.loop" by decide]
  generalize hh1 : s.heap.push { cls := .type "tuple", data := .seq #[.int a ta, .int b tb, .int c tc, .int d td] } = h1 at hT ⊢
  have z1 : h1.objs.size = s.heap.objs.size + 1 := by rw [← hh1]; exact Heap.size_push ..
  have W := Walks.tuple (prog := prog) (w := w) (A := A.in1) hh h1.objs.size s.heap.objs.size (by rw [z1]; exact Nat.ne_of_lt (Nat.lt_succ_self _)) (intItems xs)
  refine wpAny_pure ⟨plainId_quiet F.plain_max_loop _, codeAny_max_loop_first W (fun i j => decide (numAt xs i > numAt xs j)) (CmpOf.ints_gt (numAt xs) (fun _ _ => intItems_at)) _ ?_ (by simp [intItems, xs]) ?_ (Heap.get?_push_size _ rfl) fun v h' tk hP hk => ?_⟩
  · show (h1.push _).objs.size ∉ _
    rw [Heap.size_push, z1]
    have q : ¬ s.heap.objs.size + 1 + 1 = s.heap.objs.size := fun e => Nat.lt_irrefl s.heap.objs.size (Nat.lt_of_lt_of_eq (Nat.lt_succ_of_lt (Nat.lt_succ_self _)) e)
    simp [q]
  · exact W.frame _ _ _ ⟨⟨_, Heap.get?_push_size _ rfl, rfl, rfl⟩, hT.push _⟩ fun b _ o e => Heap.get?_push_of_some _ e
  · obtain ⟨t, rfl⟩ := intItems_at hP
    have e3 : (intItems xs).size - 1 = 3 := by simp [intItems, xs]
    rw [e3, hv]
    refine fin h' tk t fun z o e => ?_
    have lz := Heap.lt_size e
    have e1 : h1.get? z = some o := by rw [← hh1]; exact Heap.get?_push_of_some _ e
    refine hk z o ?_ ?_ (Heap.get?_push_of_some _ (Heap.get?_push_of_some _ e1))
    · intro hm
      have e2 : z = h1.objs.size := List.mem_singleton.mp hm
      rw [e2, z1] at lz
      exact Nat.lt_irrefl _ (Nat.lt_of_succ_lt lz)
    · show z ≠ (h1.push _).objs.size
      rw [Heap.size_push, z1]
      exact Nat.ne_of_lt (Nat.lt_succ_of_lt (Nat.lt_succ_of_lt lz))
end
section
variable {X : Cx}
theorem vals4 {x y z u : V} {us : List Value} (r : Vals [x, y, z, u] us) : ∃ a b c d, us = [a, b, c, d] ∧ RelV x a ∧ RelV y b ∧ RelV z c ∧ RelV u d := by
  cases r with
  | cons r1 q1 => cases q1 with
    | cons r2 q2 =>
      obtain ⟨c, d, rfl, r3, r4⟩ := vals2 q2
      exact ⟨_, _, c, d, rfl, r1, r2, r3, r4⟩
theorem call_max4 (hc : X.calm = true) : CallR X (.builtin "max") (fun xs H Q => ∃ a b c d, xs = [.int a, .int b, .int c, .int d] ∧ Q (.int (imax (imax (imax a b) c) d)) H) := by
  intro pins s σ H xs us Q I r h
  obtain ⟨a, b, c, d, rfl, q⟩ := h
  obtain ⟨_, _, _, _, rfl, ⟨t1, rfl⟩, ⟨t2, rfl⟩, ⟨t3, rfl⟩, ⟨t4, rfl⟩⟩ := vals4 r
  exact max_four (I.ok.hd hc) fun h' tk t k => ⟨.int (imax (imax (imax a b) c) d), H, I.kept k, ⟨t, rfl⟩, q⟩
end
end Pc
set_option Elab.async false
set_option maxRecDepth 100000
set_option maxHeartbeats 4000000
namespace Pc
open PySem PySem.Spec PyProof.Rows L2
section
variable {prog : Program} {w : World} {A : Around} {E : Value → Shared → Prop} {s : Shared}
/-- S.extend of a list's backward iterator, S an empty list that stands -/
theorem extend_back {it l S : Addr} {items : Array Value} {c0 : Nat} {R : Result → Shared → Prop} (hh : A.handled = none) (hit : s.heap.IsRevIter it l ((items.size : Int) - 1)) (hl : s.heap.IsList l items) (hne : l ≠ it) (hn : items.size ≤ sizeLine)
    (hSi : S ≠ it) (hSl : S ≠ l) (hS : s.heap.get? S = some { cls := .type "list", data := .seq #[] c0 })
    (fin : ∀ (h' : Heap) (tk : Nat) (acc : Array Value) (c : Nat), (∀ b o, b ≠ S → b ≠ it → s.heap.get? b = some o → h'.get? b = some o) → h'.get? S = some { cls := .type "list", dict := none, data := .seq acc c, slots := #[] } →
      ItemsOf (fun i v => items[items.size - 1 - i]? = some v) acc items.size → R (.ok (.ret .none)) { s with heap := h', toks := tk }) :
    wpAny (model prog w) A.in1 (Builtin.List.listExtendWith (.ref S) (.ref it) .none)
      (fun fin s' => match fin with | .done f => R (.ok f) s' | .again c' => c'.quiet = true ∧ codeAny (model prog w) A c' R s') (fun e s' => R (.error e) s') s := by
  have W := (Walks.listRev (prog := prog) (w := w) (A := A.in1) hh it l hne items).toS
  have out : S ∉ [it, l] := by
    simp only [List.mem_cons, List.not_mem_nil, or_false, not_or]
    exact ⟨hSi, hSl⟩
  have hT : s.TypeIs (.ref it) "list_reverseiterator" := hit.typeIs
  have same : Builtin.List.listSameRef (.ref S) (.ref it) = false := by simp [Builtin.List.listSameRef, hSi]
  unfold Builtin.List.listExtendWith
  refine wpAny_bind (wpAny_typeOf hT ?_)
  rw [if_neg (by rw [same]; decide)]
  refine wpAny_bind (wpAny_pyIter_revIter hit (wpAny_bind (wpAny_holding ?_)))
  unfold Builtin.List.listLengthHint
  refine wpAny_bind (wpAny_specialOf hT RT.nolen_lri ?_)
  show wpAny _ A.in1 (specialOf (Value.ref it) (Str.ofString "__length_hint__") >>= _) _ _ _
  refine wpAny_bind (wpAny_specialOf hT RT.hint_lri ?_)
  generalize hid : ("list_reverseiterator.__length_hint__" : String) = nm
  wp_delta
  rw [show splitId nm = some ("list_reverseiterator", "__length_hint__") from by subst hid; decide +kernel]
  subst hid
  refine wpAny_bind (wpAny_isInstance (b := true) hT (by rw [isSubtype_type]; kernel_rfl) ?_)
  refine wpAny_pure ?_
  rw [if_neg (by decide)]
  have e0 : ((items.size : Nat) : Int) - 1 - ((0 : Nat) : Int) = (items.size : Int) - 1 := by omega
  refine wpAny_pure ⟨plainId_quiet F.plain_extend_loop _, codeAny_extend_loopS W hn S out .none items.size 0 s #[] c0 rfl (Nat.zero_le _) ⟨Nat.zero_le _, by rw [e0]; exact hit, hl⟩ hS (ItemsOf.nil _) ?_⟩
  intro s' acc c hm hS' hacc
  rw [Moved.eq_with hm]
  refine fin s'.heap s'.toks acc c (fun b o hb hb' e => hm.heap b o (fun hmem => ?_) e) hS' hacc
  rcases List.mem_cons.mp hmem with e' | hmem
  · exact hb e'
  · exact hb' (List.mem_singleton.mp hmem)
/-- list(..) of a list's backward iterator -/
theorem list_back {it l : Addr} {items : Array Value} {Q : Value → Shared → Prop} (hh : A.handled = none) (hit : s.heap.IsRevIter it l ((items.size : Int) - 1)) (hl : s.heap.IsList l items) (hne : l ≠ it) (hn : items.size ≤ sizeLine)
    (fin : ∀ (h' : Heap) (tk : Nat) (acc : Array Value) (c : Nat), (∀ b o, b ≠ it → s.heap.get? b = some o → h'.get? b = some o) → h'.get? s.heap.objs.size = some { cls := .type "list", dict := none, data := .seq acc c, slots := #[] } →
      ItemsOf (fun i v => items[items.size - 1 - i]? = some v) acc items.size → Q (.ref s.heap.objs.size) { s with heap := h', toks := tk }) :
    wpAny (model prog w) A (call (.type "list") [.ref it]) Q E s := by
  obtain ⟨oi, hoi, _⟩ := id hit
  obtain ⟨ol, hol, _⟩ := id hl
  have hSi : s.heap.objs.size ≠ it := Nat.ne_of_gt (Heap.lt_size hoi)
  have hSl : s.heap.objs.size ≠ l := Nat.ne_of_gt (Heap.lt_size hol)
  refine callType_codes (Q₁ := fun ob t => ob = .ref s.heap.objs.size ∧ t = { s with heap := s.heap.push { cls := .type "list", data := .seq #[] } }) F.called_list (F.typeCall_list_1 _) F.entry_list_init
    (code_list_new _ ⟨rfl, rfl⟩) ?_
  rintro ob t ⟨rfl, rfl⟩
  have hS : (s.heap.push { cls := .type "list", data := .seq #[] }).get? s.heap.objs.size = some { cls := .type "list", data := .seq #[] } := Heap.get?_push_size _ rfl
  refine ⟨⟨_, hS, rfl⟩, F.args_list_init_2 _ _, ?_⟩
  show wpAny _ _ (Builtin.List.listItems (.ref s.heap.objs.size) >>= fun old => Builtin.List.listUpdate (.ref s.heap.objs.size) (fun _ => #[]) >>= fun _ => letGo old.toList.reverse >>= fun _ => Builtin.List.listExtendWith (.ref s.heap.objs.size) (.ref it) .none) _ _ _
  refine wpAny_bind ?_
  unfold Builtin.List.listItems
  refine wpAny_bind (wpAny_seqItems hS rfl (wpAny_pure ?_))
  show wpAny _ _ (updateSeq s.heap.objs.size (fun _ => #[]) >>= fun _ => letGo (#[] : Array Value).toList.reverse >>= fun _ => Builtin.List.listExtendWith (.ref s.heap.objs.size) (.ref it) .none) _ _ _
  refine wpAny_bind (wpAny_updateSeq hS rfl (wpAny_bind (wpAny_letGo ?_)))
  have hS2 := Heap.get?_update_self (Obj.mapSeq (fun _ => (#[] : Array Value))) hS rfl
  have kp : ∀ b o, b ≠ s.heap.objs.size → s.heap.get? b = some o → ((s.heap.push { cls := .type "list", data := .seq #[] }).update s.heap.objs.size (Obj.mapSeq (fun _ => (#[] : Array Value)))).get? b = some o :=
    fun b o hb e => (Heap.get?_update_other _ _ (Ne.symm hb)).trans (Heap.get?_push_of_some _ e)
  refine extend_back (A := A.in1) hh (hit.at fun o e => kp it o (Ne.symm hSi) e) (?_) hne hn hSi hSl hS2 fun h' tk acc c k hS' hacc => ?_
  · obtain ⟨o, e, r⟩ := hl
    exact ⟨o, kp l o (Ne.symm hSl) e, r⟩
  · exact ⟨rfl, fin h' tk acc c (fun b o hb e => k b o (Nat.ne_of_lt (Heap.lt_size e)) hb (kp b o (Nat.ne_of_lt (Heap.lt_size e)) e)) hS' hacc⟩
end
/-- list(reversed(x)), x a list: a new list, backwards -/
def tListRev (K : PySem.W.Frag) (te : TE) : TE := fun σ H Q => te σ H fun v H1 => ∃ (a : Addr) (xs : List V), v = .ref a ∧ SqL K H1 a xs ∧ ∀ q, H1 q = none → Q (.ref q) (upd H1 q (.lst xs.reverse))
section
variable {X : Cx}
theorem pe_listRev {e : Expr} {te : TE} {p p2 pos pos2 : Pos} (hc : X.calm = true) (hg : Gl X "list") (hm : X.mg "list" = none) (hg2 : Gl X "reversed") (hm2 : X.mg "reversed" = none) (he : PE X e te)
    (hs : starEach [e] X.env = (false, eval e X.env) :: starEach [] X.env := by rfl)
    (hs2 : starEach [.Call (.Name "reversed" p2) [e] [] pos2] X.env = (false, eval (.Call (.Name "reversed" p2) [e] [] pos2) X.env) :: starEach [] X.env := by rfl) :
    PE X (.Call (.Name "list" p) [.Call (.Name "reversed" p2) [e] [] pos2] [] pos) (tListRev X.K te) := by
  refine ⟨fun pins s σ H Q I h => ?_⟩
  refine Call_ (ld_blt I hg hm (show bootBuiltins "list" = some (.type "list") by decide +kernel) (PyProof.Rows.callWith_type1 (args_cons (Call_ (ld_blt I hg2 hm2 PyProof.Rows.boot_reversed (PyProof.Rows.callWith_type1 (args_cons (thn (he.run pins s σ H _ I h) fun u s1 ⟨v, H1, I1, r1, q1⟩ => args_nil ?_) hs) hs rfl))) hs2) hs2 rfl))
  obtain ⟨a, xs, ev, hq, q⟩ := q1
  subst ev
  obtain rfl : u = Value.ref a := r1
  obtain ⟨its, rv, pl, hz⟩ := I1.list hq
  refine call_reversed_list pl.isList (args_nil ?_)
  obtain ⟨ol, hol, hrest⟩ := pl.isList
  have la := Heap.lt_size hol
  have hn : its.toArray.size ≤ sizeLine := by rw [List.size_toArray, ← rv.length]; exact hz
  refine list_back (s := { s1 with heap := s1.heap.push (revObj a ((its.toArray.size : Int) - 1)) }) (I1.ok.hd hc) ⟨_, Heap.get?_push_size _ rfl, rfl, rfl⟩ (pl.isList.push _) (Nat.ne_of_lt la) hn fun h' tk acc c k hS hacc => ?_
  have kk : ∀ b o, s1.heap.get? b = some o → h'.get? b = some o := fun b o e => k b o (Nat.ne_of_lt (Heap.lt_size e)) (Heap.get?_push_of_some _ e)
  have le : s1.heap.objs.size ≤ (s1.heap.push (revObj a ((its.toArray.size : Int) - 1))).objs.size := by rw [Heap.size_push]; exact Nat.le_succ _
  refine ⟨.ref (s1.heap.push (revObj a ((its.toArray.size : Int) - 1))).objs.size, _, I1.laid (t' := tk) kk le (show ObjOk X.prog X.w _ h' _ (.lst xs.reverse) from ⟨by rw [List.length_reverse]; exact hz, acc.toList, c, RT.vals_rev rv hacc, ?_⟩), rfl, q _ (I1.hok.fresh le)⟩
  rw [hS, Array.toArray_toList]
end
end Pc
/-! The session, as the program's own reckoning has it. -/
namespace Pc
open Cv (imax imin)
structure Ses where
  rows : List (List Int)
  cs : List (List (Int × Int))
def plainM (w h c : Int) : List (List Int) := List.replicate h.toNat (List.replicate w.toNat c)
def pairAt (l : List Int) (i : Nat) : Int × Int := (l.getD (2 * i) 0, l.getD (2 * i + 1) 0)
def pairsM (l : List Int) : List (Int × Int) := (List.range (l.length / 2)).map (pairAt l)
def fillM (old c : Int) (q : Rat) : Int := near (old * (q.den : Int) + (c - old) * imin (q.num.natAbs : Int) (q.den : Int)) (q.den : Int)
def cellM (rows : List (List Int)) (x y : Nat) : Int := (rows.getD y []).getD x 0
def setM (rows : List (List Int)) (x y : Nat) (c : Int) : List (List Int) := rows.set y ((rows.getD y []).set x c)
abbrev Pst := List (List Int) × Int
def paintM (st : Pst) (x y : Nat) (c : Int) : Pst := if cellM st.1 x y = c then st else (setM st.1 x y c, st.2 + 1)
def fillStep (cs : List (List (Int × Int))) (c : Int) (st : Pst) (x y : Nat) : Pst := paintM st x y (fillM (cellM st.1 x y) c (covQ (pixB x y) cs))
def fillRow (cs : List (List (Int × Int))) (c : Int) (n : Nat) (st : Pst) (y : Nat) : Pst := (List.range n).foldl (fun st x => fillStep cs c st x y) st
def fillAll (cs : List (List (Int × Int))) (c : Int) (n m : Nat) (st : Pst) : Pst := (List.range m).foldl (fillRow cs c n) st
def drawStep (c : Int) (n m : Nat) (st : Pst) (p : Int × Int) : Pst := if p.2 < (m : Int) ∧ p.1 < (n : Int) then paintM st p.1.toNat p.2.toNat c else st
def drawAll (c : Int) (n m : Nat) (l : List (Int × Int)) (st : Pst) : Pst := l.foldl (drawStep c n m) st
def Ses.w (s : Ses) : Nat := (s.rows.getD 0 []).length
def Ses.h (s : Ses) : Nat := s.rows.length
def maxM (l : List Int) : Int := match l with
  | [] => 0
  | a :: l => l.foldl imax a
inductive Op where
  | begin (w h c : Int)
  | add (l : List Int)
  | clear
  | cov (x y : Int)
  | area
  | total
  | fill (c : Int)
  | line (a b c d v : Int)
  | row (y : Int)
  | rev
def Op.flat : Op → List Int
  | .begin w h c => [1, w, h, c]
  | .add l => 2 :: (l.length : Int) :: l
  | .clear => [3]
  | .cov x y => [4, x, y]
  | .area => [5]
  | .total => [6]
  | .fill c => [7, c]
  | .line a b c d v => [8, a, b, c, d, v]
  | .row y => [9, y]
  | .rev => [10]
def Op.raw : Op → List (List Int)
  | .begin w h c => [[1, w, h, c]]
  | .add l => [[2], l]
  | .clear => [[3]]
  | .cov x y => [[4, x, y]]
  | .area => [[5]]
  | .total => [[6]]
  | .fill c => [[7, c]]
  | .line a b c d v => [[8, a, b, c, d, v]]
  | .row y => [[9, y]]
  | .rev => [[10]]
def U64 (z : Int) : Prop := 0 ≤ z ∧ z ≤ 18446744073709551615
def Op.ok : Op → Prop
  | .begin w h c => U64 w ∧ U64 h ∧ U64 c
  | .add l => l.length ≤ 1024 ∧ ∀ z ∈ l, U64 z
  | .clear => True
  | .cov x y => U64 x ∧ U64 y
  | .area => True
  | .total => True
  | .fill c => U64 c
  | .line a b c d v => U64 a ∧ U64 b ∧ U64 c ∧ U64 d ∧ U64 v
  | .row y => U64 y
  | .rev => True
def tell (q : Rat) : List Int := [0, q.num, q.den]
def side (n : Int) : Prop := 1 ≤ n ∧ n ≤ 16
instance (n : Int) : Decidable (side n) := inferInstanceAs (Decidable (_ ∧ _))
def mBegin (s : Ses) (w h c : Int) : Ses × List Int := if ¬ side w ∨ ¬ side h ∨ c > 255 then (s, [-1]) else (⟨plainM w h c, []⟩, [0])
def mAdd (s : Ses) (l : List Int) : Ses × List Int :=
  if l.length % 2 ≠ 0 then (s, [-3])
  else if (pairsM l).length < 3 ∨ maxM l > 4096 then (s, [-1])
  else if corners s.cs + (pairsM l).length > 60 then (s, [-5])
  else (⟨s.rows, s.cs ++ [pairsM l]⟩, [((s.cs.length + 1 : Nat) : Int)])
def mClear (s : Ses) : Ses × List Int := (⟨s.rows, []⟩, [0])
def mCov (s : Ses) (x y : Int) : Ses × List Int := if y < (s.h : Int) ∧ x < (s.w : Int) then (s, tell (covQ (pixB x y) s.cs)) else (s, [-1])
def mArea (s : Ses) : Ses × List Int := (s, tell ((areaI (allE s.cs) : Rat) / 512))
def mTotal (s : Ses) : Ses × List Int := (s, tell (covQ (picB s.w s.h) s.cs))
def mFill (s : Ses) (c : Int) : Ses × List Int := if c > 255 then (s, [-1]) else (⟨(fillAll s.cs c s.w s.h (s.rows, 0)).1, s.cs⟩, [(fillAll s.cs c s.w s.h (s.rows, 0)).2])
def mLine (s : Ses) (a b c d v : Int) : Ses × List Int :=
  if v > 255 ∨ imax (imax (imax a b) c) d > 1000 then (s, [-1])
  else (⟨(drawAll v s.w s.h (lineM a b c d) (s.rows, 0)).1, s.cs⟩, [((lineM a b c d).length : Int), (drawAll v s.w s.h (lineM a b c d) (s.rows, 0)).2])
def mRow (s : Ses) (y : Int) : Ses × List Int := if y ≥ (s.h : Int) then (s, [-1]) else (s, ((s.rows.getD y.toNat []).length : Int) :: s.rows.getD y.toNat [])
def mRev (s : Ses) : Ses × List Int := (⟨s.rows, s.cs.map List.reverse⟩, [(s.cs.length : Int)])
def mStep (s : Ses) : Op → Ses × List Int
  | .begin w h c => mBegin s w h c
  | .add l => mAdd s l
  | .clear => mClear s
  | .cov x y => mCov s x y
  | .area => mArea s
  | .total => mTotal s
  | .fill c => mFill s c
  | .line a b c d v => mLine s a b c d v
  | .row y => mRow s y
  | .rev => mRev s
def mStart : Ses := ⟨plainM 1 1 0, []⟩
def mPlay : Ses → List Op → List (List Int)
  | _, [] => []
  | s, o :: r => (mStep s o).2 :: mPlay (mStep s o).1 r
/-- a picture's rows -/
structure Fit (rows : List (List Int)) (w h : Nat) : Prop where
  len : rows.length = h
  wide : ∀ y, y < h → (rows.getD y []).length = w
/-- what holds of a session from its start on -/
structure SesOk (s : Ses) : Prop where
  h1 : 1 ≤ s.h
  h2 : s.h ≤ 16
  w1 : 1 ≤ s.w
  w2 : s.w ≤ 16
  fit : Fit s.rows s.w s.h
  col : ∀ x y, x < s.w → y < s.h → 0 ≤ cellM s.rows x y ∧ cellM s.rows x y ≤ 255
  few : corners s.cs ≤ 60
  three : ∀ c ∈ s.cs, 3 ≤ c.length
  small : ∀ c ∈ s.cs, ∀ z ∈ c, 0 ≤ z.1 ∧ z.1 ≤ 4096 ∧ 0 ≤ z.2 ∧ z.2 ≤ 4096
end Pc
/-! Sums of shares: closed contours, boxes beside each other. -/
namespace Pc
open Cv (imax imin toP)
theorem path_range (E : Cv.P → Cv.P → Rat) : ∀ (l : List (Int × Int)) (p : Int × Int),
    ((List.range l.length).map fun k => E (toP ((p :: l).getD k (0, 0))) (toP ((p :: l).getD (k + 1) (0, 0)))).sum = Cv.path E (toP p) (l.map toP)
  | [], p => rfl
  | q :: l, p => by
    have ih := path_range E l q
    rw [List.length_cons, List.range_succ_eq_map, List.map_cons, List.sum_cons, List.map_map]
    show E (toP p) (toP q) + _ = E (toP p) (toP q) + Cv.path E (toP q) (l.map toP)
    rw [← ih]
    congr 1
theorem last_getD : ∀ (l : List (Int × Int)) (p : Int × Int), ((p :: l).map toP).getLast (List.cons_ne_nil _ _) = toP ((p :: l).getD l.length (0, 0))
  | [], p => rfl
  | q :: l, p => by
    have ih := last_getD l q
    show (toP p :: toP q :: l.map toP).getLast _ = _
    rw [List.getLast_cons_cons]
    exact ih
theorem edgesM_cons (p : Int × Int) (l : List (Int × Int)) : edgesM (p :: l) = ((p :: l).getD l.length (0, 0), p) :: (List.range l.length).map fun k => ((p :: l).getD k (0, 0), (p :: l).getD (k + 1) (0, 0)) := by
  unfold edgesM
  rw [List.length_cons, List.range_succ_eq_map, List.map_cons, List.map_map]
  congr 1
theorem closed_edges (E : Cv.P → Cv.P → Rat) (c : List (Int × Int)) : Cv.closed E (c.map toP) = ((edgesM c).map fun e => E (toP e.1) (toP e.2)).sum := by
  match c with
  | [] => rfl
  | p :: l =>
    rw [edgesM_cons]
    show Cv.path E (toP p) (l.map toP ++ [toP p]) = _
    rw [List.map_cons (l := (List.range l.length).map _), List.sum_cons, List.map_map]
    rw [Cv.path_snoc]
    have e := path_range E l p
    have e2 := last_getD l p
    show _ + E (((p :: l).map toP).getLast (List.cons_ne_nil _ _)) (toP p) = _
    rw [e2, ← e]
    have : ((fun e => E (toP e.1) (toP e.2)) ∘ fun k => ((p :: l).getD k (0, 0), (p :: l).getD (k + 1) (0, 0))) = fun k => E (toP ((p :: l).getD k (0, 0))) (toP ((p :: l).getD (k + 1) (0, 0))) := rfl
    rw [this]
    grind
/-- a sum over all edges -/
def over (E : Cv.P → Cv.P → Rat) (cs : List (List (Int × Int))) : Rat := ((allE cs).map fun e => E (toP e.1) (toP e.2)).sum
theorem over_cons (E : Cv.P → Cv.P → Rat) (c : List (Int × Int)) (cs : List (List (Int × Int))) : over E (c :: cs) = Cv.closed E (c.map toP) + over E cs := by
  unfold over allE
  rw [List.flatMap_cons, List.map_append, List.sum_append, closed_edges]
theorem over_closed (E : Cv.P → Cv.P → Rat) : ∀ cs : List (List (Int × Int)), over E cs = (cs.map fun c => Cv.closed E (c.map toP)).sum
  | [] => rfl
  | c :: cs => by rw [over_cons, over_closed E cs, List.map_cons, List.sum_cons]
theorem sum_map_add {α : Type} (f g : α → Rat) : ∀ l : List α, (l.map fun z => f z + g z).sum = (l.map f).sum + (l.map g).sum
  | [] => by show (0 : Rat) = 0 + 0; grind
  | a :: l => by
    rw [List.map_cons, List.map_cons, List.map_cons, List.sum_cons, List.sum_cons, List.sum_cons, sum_map_add f g l]
    grind
theorem over_add (E F : Cv.P → Cv.P → Rat) (cs : List (List (Int × Int))) : over (fun p q => E p q + F p q) cs = over E cs + over F cs := sum_map_add _ _ _
theorem over_zero (cs : List (List (Int × Int))) : over (fun _ _ => 0) cs = 0 := by
  unfold over
  induction allE cs with
  | nil => rfl
  | cons a l ih => rw [List.map_cons, List.sum_cons, ih]; grind
theorem sumF_shares (x : Bx) (cs : List (List (Int × Int))) : sumF (sharesF x cs) = over (Cv.edge x.l x.t x.r x.b) cs := by
  unfold sumF sharesF over
  rw [List.map_map]
  congr 1
  refine List.map_congr_left fun e _ => ?_
  show ((shareQ x e).num : Rat) / (((shareQ x e).den : Int) : Rat) = _
  exact Cv.self_div (shareQ x e)
theorem covQ_over (x : Bx) (cs : List (List (Int × Int))) : covQ x cs = over (Cv.edge x.l x.t x.r x.b) cs / 256 := by
  unfold covQ; rw [sumF_shares]
theorem cover_pix (cs : List (List (Int × Int))) (x y : Nat) : Sq43.cover (cs.map fun c => c.map Cv.pt) x y = Cv.ofRat (covQ (pixB x y) cs) := by
  rw [Cv.cover_eq, covQ_over, over_closed]
  congr 1
/-! area -/
theorem area_fold : ∀ (l : List Edge) (s : Int), (((l.foldl areaStep s : Int)) : Rat) = (s : Rat) + (l.map fun e => Cv.shoe (toP e.1) (toP e.2)).sum
  | [], s => by simp [Rat.add_zero]
  | e :: l, s => by
    rw [List.foldl_cons, area_fold l, List.map_cons, List.sum_cons]
    unfold areaStep Cv.shoe toP
    rw [Cv.cast_sub', Rat.intCast_add, Rat.intCast_mul, Rat.intCast_mul]
    grind
theorem area_all (cs : List (List (Int × Int))) : Sq43.area (cs.map fun c => c.map Cv.pt) = Cv.ofRat ((areaI (allE cs) : Rat) / 512) := by
  rw [Cv.area_eq, ← over_closed]
  congr 2
  unfold over areaI
  rw [area_fold]
  have : ((0 : Int) : Rat) = 0 := rfl
  rw [this]
  grind
/-! boxes beside each other -/
theorem edge_wide (l m r t b : Rat) (p q : Cv.P) : Cv.edge l t r b p q = Cv.edge l t m b p q + Cv.edge m t r b p q := by
  unfold Cv.edge
  split
  · grind
  · unfold Cv.dif; grind
theorem cl_two {t m b y : Rat} (h1 : t ≤ m) (h2 : m ≤ b) (D : Rat → Rat) : D (Cv.cl t b y) + D m = D (Cv.cl t m y) + D (Cv.cl m b y) := by
  unfold Cv.cl
  by_cases a1 : y ≤ t
  · rw [if_pos a1, if_pos a1, if_pos (by grind)]
  · rw [if_neg a1, if_neg a1]
    by_cases a2 : m ≤ y
    · rw [if_pos a2]
      by_cases a3 : b ≤ y
      · rw [if_pos a3]
        by_cases a4 : y ≤ m
        · rw [if_pos a4]
          have : b = m := by grind
          rw [this]
        · rw [if_neg a4]; grind
      · rw [if_neg a3]
        by_cases a4 : y ≤ m
        · rw [if_pos a4]
          have : y = m := by grind
          rw [this]
        · rw [if_neg a4]; grind
    · rw [if_neg a2, if_neg (by grind), if_pos (by grind)]
theorem edge_high {l r t m b : Rat} (h1 : t ≤ m) (h2 : m ≤ b) (p q : Cv.P) : Cv.edge l t r b p q = Cv.edge l t r m p q + Cv.edge l m r b p q := by
  unfold Cv.edge
  split
  · grind
  · have a := cl_two (y := q.2) h1 h2 (Cv.dif l r ((q.1 - p.1) / (q.2 - p.2)) p.1 p.2)
    have b := cl_two (y := p.2) h1 h2 (Cv.dif l r ((q.1 - p.1) / (q.2 - p.2)) p.1 p.2)
    grind
theorem edge_thin (l t b : Rat) (p q : Cv.P) : Cv.edge l t l b p q = 0 := by
  unfold Cv.edge
  split
  · rfl
  · unfold Cv.dif; grind
theorem edge_low (l t r : Rat) (p q : Cv.P) : Cv.edge l t r t p q = 0 := by
  unfold Cv.edge
  have e : ∀ y : Rat, Cv.cl t t y = t := by intro y; unfold Cv.cl; grind
  rw [e, e]
  split
  · rfl
  · grind
def share (l t r b : Int) (cs : List (List (Int × Int))) : Rat := over (Cv.edge l t r b) cs
theorem share_row (t b : Int) (cs : List (List (Int × Int))) : ∀ n : Nat, share 0 t ((16 * n : Nat) : Int) b cs = ((List.range n).map fun x => share (16 * (x : Nat) : Int) t (16 * (x : Nat) + 16 : Int) b cs).sum
  | 0 => by
    show over (Cv.edge _ _ _ _) cs = 0
    have e : Cv.edge ((0 : Int) : Rat) (t : Rat) (((16 * 0 : Nat) : Int) : Rat) (b : Rat) = fun _ _ => 0 := by
      funext p q
      exact edge_thin _ _ _ p q
    rw [e, over_zero]
  | n + 1 => by
    rw [List.range_succ, List.map_append, List.sum_append, ← share_row t b cs n]
    show over _ cs = over _ cs + (over _ cs + 0)
    have e : Cv.edge ((0 : Int) : Rat) (t : Rat) (((16 * (n + 1) : Nat) : Int) : Rat) (b : Rat) = fun p q => Cv.edge ((0 : Int) : Rat) (t : Rat) (((16 * n : Nat) : Int) : Rat) (b : Rat) p q + Cv.edge ((16 * (n : Nat) : Int) : Rat) (t : Rat) ((16 * (n : Nat) + 16 : Int) : Rat) (b : Rat) p q := by
      funext p q
      have h := edge_wide ((0 : Int) : Rat) (((16 * n : Nat) : Int) : Rat) (((16 * (n + 1) : Nat) : Int) : Rat) t b p q
      exact h
    rw [e, over_add]
    grind
theorem share_all (w : Int) (cs : List (List (Int × Int))) : ∀ n : Nat, share 0 0 w ((16 * n : Nat) : Int) cs = ((List.range n).map fun y => share 0 (16 * (y : Nat) : Int) w (16 * (y : Nat) + 16 : Int) cs).sum
  | 0 => by
    show over (Cv.edge _ _ _ _) cs = 0
    have e : Cv.edge ((0 : Int) : Rat) ((0 : Int) : Rat) (w : Rat) (((16 * 0 : Nat) : Int) : Rat) = fun _ _ => 0 := by
      funext p q
      exact edge_low _ _ _ p q
    rw [e, over_zero]
  | n + 1 => by
    rw [List.range_succ, List.map_append, List.sum_append, ← share_all w cs n]
    show over _ cs = over _ cs + (over _ cs + 0)
    have e : Cv.edge ((0 : Int) : Rat) ((0 : Int) : Rat) (w : Rat) (((16 * (n + 1) : Nat) : Int) : Rat) = fun p q => Cv.edge ((0 : Int) : Rat) ((0 : Int) : Rat) (w : Rat) (((16 * n : Nat) : Int) : Rat) p q + Cv.edge ((0 : Int) : Rat) ((16 * (n : Nat) : Int) : Rat) (w : Rat) ((16 * (n : Nat) + 16 : Int) : Rat) p q := by
      funext p q
      have h := edge_high (l := ((0 : Int) : Rat)) (r := (w : Rat)) (t := ((0 : Int) : Rat)) (m := (((16 * n : Nat) : Int) : Rat)) (b := (((16 * (n + 1) : Nat) : Int) : Rat)) (Cv.cast_le.mpr (by omega)) (Cv.cast_le.mpr (by omega)) p q
      exact h
    rw [e, over_add]
    grind
theorem sum_div (l : List Rat) : (l.map fun x => x / 256).sum = l.sum / 256 := by
  induction l with
  | nil => show (0 : Rat) = 0 / 256; grind
  | cons a l ih => rw [List.map_cons, List.sum_cons, List.sum_cons, ih]; grind
/-- the picture's coverage is the sum of its pixels' -/
theorem cov_total (w h : Nat) (cs : List (List (Int × Int))) : covQ (picB w h) cs = (((List.range h).flatMap fun y => (List.range w).map fun x => (x, y)).map fun p : Nat × Nat => covQ (pixB p.1 p.2) cs).sum := by
  have e : ∀ (l : List Nat), ((l.flatMap fun y => (List.range w).map fun x => (x, y)).map fun p : Nat × Nat => covQ (pixB p.1 p.2) cs).sum = (l.map fun y => share 0 (16 * (y : Nat) : Int) ((16 * w : Nat) : Int) (16 * (y : Nat) + 16 : Int) cs).sum / 256 := by
    intro l
    induction l with
    | nil => show (0 : Rat) = 0 / 256; grind
    | cons y l ih =>
      rw [List.flatMap_cons, List.map_append, List.sum_append, ih, List.map_cons, List.sum_cons, List.map_map]
      have : ((fun p : Nat × Nat => covQ (pixB p.1 p.2) cs) ∘ fun x => (x, y)) = (fun x => x / 256) ∘ fun x : Nat => share (16 * (x : Nat) : Int) (16 * (y : Nat) : Int) (16 * (x : Nat) + 16 : Int) (16 * (y : Nat) + 16 : Int) cs := by
        funext x
        exact covQ_over (pixB x y) cs
      rw [this, ← List.map_map, sum_div, ← share_row]
      grind
  rw [e, ← share_all, covQ_over]
  rfl
theorem covered_all (cs : List (List (Int × Int))) (w h : Nat) :
    Sq43.sum (((List.range h).flatMap fun y => (List.range w).map fun x => (x, y)).map fun p : Nat × Nat => Sq43.cover (cs.map fun c => c.map Cv.pt) p.1 p.2) = Cv.ofRat (covQ (picB w h) cs) := by
  rw [cov_total, ← Cv.sum_eq, List.map_map]
  congr 1
  refine List.map_congr_left fun p _ => ?_
  exact cover_pix cs p.1 p.2
end Pc
/-! Pixels: filling, and what is drawn. -/
namespace Pc
open Cv (imax imin toP)
theorem near_low {n d : Int} (hd : 0 < d) : near n d = near ((n : Rat) / (d : Rat)).num (((n : Rat) / (d : Rat)).den : Nat) := by
  rw [← Rat.divInt_eq_div]
  generalize hq : Rat.divInt n d = q
  obtain ⟨nn, dd, dz, cc⟩ := q
  obtain ⟨m, hm, e1, e2⟩ := Rat.divInt_num_den (by omega) hq
  show near n d = near nn dd
  have hd' : (0 : Int) < dd := by omega
  have hm' : 0 < m := by
    rcases Int.lt_or_le 0 m with h | h
    · exact h
    · have : (dd : Int) * m ≤ 0 := by rw [Int.mul_comm]; exact Int.mul_nonpos_of_nonpos_of_nonneg h (by omega)
      exact absurd (Int.lt_of_lt_of_le hd (Int.le_trans (Int.le_of_eq e2) this)) (Int.lt_irrefl 0)
  unfold near
  have a1 : 2 * n + d = m * (2 * nn + dd) := by rw [e1, e2]; grind
  have a2 : 2 * d = m * (2 * (dd : Int)) := by rw [e2]; grind
  rw [a1, a2, Int.mul_ediv_mul_of_pos _ _ hm']
theorem round_eq (r : Rat) : Sq43.round (Cv.ofRat r) = near r.num (r.den : Nat) := rfl
theorem strength_eq (q : Rat) : Sq43.strength (Cv.ofRat q) = Cv.ofRat (((imin (q.num.natAbs : Int) (q.den : Int) : Int) : Rat) / (((q.den : Nat) : Int) : Rat)) := by
  have hdz := q.den_nz
  have hne : (((q.den : Nat) : Int) : Rat) ≠ 0 := Cv.cast_ne (by omega)
  unfold Sq43.strength
  show (if (q.den : Int) ≤ (q.num.natAbs : Int) then (⟨1, 1⟩ : Sq43.Frac) else ⟨(q.num.natAbs : Int), q.den⟩) = _
  by_cases h : (q.den : Int) ≤ (q.num.natAbs : Int)
  · rw [if_pos h]
    have e : imin (q.num.natAbs : Int) (q.den : Int) = (q.den : Int) := by unfold imin; split <;> omega
    rw [e]
    have e1 : ((((q.den : Nat) : Int) : Rat)) / (((q.den : Nat) : Int) : Rat) = 1 := by
      generalize (((q.den : Nat) : Int) : Rat) = z at *
      grind
    rw [e1]
    rfl
  · rw [if_neg h]
    have e : imin (q.num.natAbs : Int) (q.den : Int) = (q.num.natAbs : Int) := by unfold imin; split <;> omega
    rw [e]
    have := Cv.self_div ⟨(q.num.natAbs : Int), q.den, q.den_nz, q.reduced⟩
    have e2 : (((q.num.natAbs : Int)) : Rat) / (((q.den : Nat) : Int) : Rat) = ⟨(q.num.natAbs : Int), q.den, q.den_nz, q.reduced⟩ := this
    rw [e2]
    rfl
theorem mixed_eq (v c : Nat) (q : Rat) : Sq43.mixed v c (Sq43.strength (Cv.ofRat q)) = (fillM v c q).toNat := by
  unfold Sq43.mixed
  rw [strength_eq, Cv.whole_eq, Cv.whole_eq, Cv.mul_eq, Cv.add_eq, round_eq]
  congr 1
  have hd : (0 : Int) < (q.den : Nat) := by have := q.den_nz; omega
  unfold fillM
  rw [near_low hd]
  have hne : (((q.den : Nat) : Int) : Rat) ≠ 0 := Cv.cast_ne (by omega)
  have e : ((v : Int) : Rat) + (((c : Int) - v : Int) : Rat) * (((imin (q.num.natAbs : Int) (q.den : Int) : Int) : Rat) / (((q.den : Nat) : Int) : Rat)) =
      (((v : Int) * (q.den : Int) + ((c : Int) - v) * imin (q.num.natAbs : Int) (q.den : Int) : Int) : Rat) / (((q.den : Nat) : Int) : Rat) := by
    rw [Rat.intCast_add, Rat.intCast_mul, Rat.intCast_mul]
    generalize (((q.den : Nat) : Int) : Rat) = z at *
    generalize ((v : Int) : Rat) = a at *
    generalize (((c : Int) - v : Int) : Rat) = b at *
    generalize ((imin (q.num.natAbs : Int) (q.den : Int) : Int) : Rat) = u at *
    grind
  rw [e]
theorem fillM_range {v c : Int} {q : Rat} (h1 : 0 ≤ v) (h2 : v ≤ 255) (h3 : 0 ≤ c) (h4 : c ≤ 255) : 0 ≤ fillM v c q ∧ fillM v c q ≤ 255 := by
  have hd : (0 : Int) < (q.den : Nat) := by have := q.den_nz; omega
  unfold fillM near
  have m1 : 0 ≤ imin (q.num.natAbs : Int) (q.den : Int) := by unfold imin; split <;> omega
  have m2 : imin (q.num.natAbs : Int) (q.den : Int) ≤ (q.den : Int) := by unfold imin; split <;> omega
  generalize imin (q.num.natAbs : Int) (q.den : Int) = s at *
  generalize ((q.den : Nat) : Int) = d at *
  have e : v * d + (c - v) * s = v * (d - s) + c * s := by grind
  have a1 : 0 ≤ v * (d - s) := Int.mul_nonneg h1 (by omega)
  have a2 : 0 ≤ c * s := Int.mul_nonneg h3 m1
  have a3 : v * (d - s) ≤ 255 * (d - s) := Int.mul_le_mul_of_nonneg_right h2 (by omega)
  have a4 : c * s ≤ 255 * s := Int.mul_le_mul_of_nonneg_right h4 m1
  rw [e]
  generalize v * (d - s) = x at *
  generalize c * s = y at *
  constructor
  · exact Int.ediv_nonneg (by omega) (by omega)
  · have : (2 * (x + y) + d) / (2 * d) < 256 := Int.ediv_lt_of_lt_mul (by omega) (by omega)
    omega
theorem mixed_int {v c : Nat} {q : Rat} (h1 : v ≤ 255) (h2 : c ≤ 255) : ((Sq43.mixed v c (Sq43.strength (Cv.ofRat q)) : Nat) : Int) = fillM v c q := by
  rw [mixed_eq]
  have := fillM_range (v := v) (c := c) (q := q) (by omega) (by omega) (by omega) (by omega)
  omega
theorem fit_of {rows : List (List Int)} {w h : Nat} (e : rows.length = h) (s : ∀ r ∈ rows, r.length = w) : Fit rows w h := by
  refine ⟨e, fun y hy => ?_⟩
  rw [List.getD_eq_getElem?_getD, List.getElem?_eq_getElem (by omega)]
  exact s _ (List.getElem_mem _)
theorem Fit.shape {rows : List (List Int)} {w h : Nat} (f : Fit rows w h) : ∀ r ∈ rows, r.length = w := by
  intro r hr
  obtain ⟨y, hy, rfl⟩ := List.getElem_of_mem hr
  have := f.wide y (by rw [← f.len]; exact hy)
  rw [List.getD_eq_getElem?_getD, List.getElem?_eq_getElem hy] at this
  exact this
theorem row_set (rows : List (List Int)) {y : Nat} (r : List Int) (hy : y < rows.length) (y' : Nat) : (rows.set y r).getD y' [] = if y' = y then r else rows.getD y' [] := by
  rw [List.getD_eq_getElem?_getD, List.getD_eq_getElem?_getD, List.getElem?_set]
  by_cases h : y = y'
  · subst h
    rw [if_pos rfl, if_pos hy, if_pos rfl]; rfl
  · rw [if_neg h, if_neg (fun e => h e.symm)]
theorem cell_in (r : List Int) {x : Nat} (c : Int) (hx : x < r.length) (x' : Nat) : (r.set x c).getD x' 0 = if x' = x then c else r.getD x' 0 := by
  rw [List.getD_eq_getElem?_getD, List.getD_eq_getElem?_getD, List.getElem?_set]
  by_cases h : x = x'
  · subst h
    rw [if_pos rfl, if_pos hx, if_pos rfl]; rfl
  · rw [if_neg h, if_neg (fun e => h e.symm)]
theorem setM_fit {rows : List (List Int)} {w h x y : Nat} (f : Fit rows w h) (hy : y < h) (c : Int) : Fit (setM rows x y c) w h := by
  refine ⟨by unfold setM; rw [List.length_set]; exact f.len, fun y' hy' => ?_⟩
  unfold setM
  rw [row_set _ _ (by rw [f.len]; exact hy)]
  by_cases e : y' = y
  · rw [if_pos e, List.length_set]; exact f.wide y hy
  · rw [if_neg e]; exact f.wide y' hy'
theorem setM_cell {rows : List (List Int)} {w h x y : Nat} (f : Fit rows w h) (hx : x < w) (hy : y < h) (c : Int) (x' y' : Nat) : cellM (setM rows x y c) x' y' = if (x', y') = (x, y) then c else cellM rows x' y' := by
  unfold cellM setM
  rw [row_set _ _ (by rw [f.len]; exact hy)]
  by_cases e : y' = y
  · subst e
    rw [if_pos rfl, cell_in _ _ (by rw [f.wide y' hy]; exact hx)]
    by_cases e2 : x' = x
    · subst e2; rw [if_pos rfl, if_pos rfl]
    · rw [if_neg e2, if_neg (by intro z; injection z with z1 _; exact e2 z1)]
  · rw [if_neg e, if_neg (by intro z; injection z with _ z2; exact e z2)]
theorem paintM_fit {st : Pst} {w h x y : Nat} (f : Fit st.1 w h) (hy : y < h) (c : Int) : Fit (paintM st x y c).1 w h := by
  unfold paintM
  split
  · exact f
  · exact setM_fit f hy c
theorem paintM_cell {st : Pst} {w h x y : Nat} (f : Fit st.1 w h) (hx : x < w) (hy : y < h) (c : Int) (x' y' : Nat) : cellM (paintM st x y c).1 x' y' = if (x', y') = (x, y) then c else cellM st.1 x' y' := by
  unfold paintM
  by_cases e : cellM st.1 x y = c
  · rw [if_pos e]
    by_cases e2 : (x', y') = (x, y)
    · injection e2 with e3 e4; subst e3; subst e4; rw [if_pos rfl, e]
    · rw [if_neg e2]
  · rw [if_neg e]
    exact setM_cell f hx hy c x' y'
theorem paintM_count (st : Pst) (x y : Nat) (c : Int) : (paintM st x y c).2 = st.2 + if cellM st.1 x y = c then 0 else 1 := by
  unfold paintM
  split
  · exact (Int.add_zero _).symm
  · rfl
def pStep (f : Nat → Nat → Int → Int) (st : Pst) (p : Nat × Nat) : Pst := paintM st p.1 p.2 (f p.1 p.2 (cellM st.1 p.1 p.2))
/-- painting one by one, each pixel once -/
theorem paint_all {w h : Nat} (f : Nat → Nat → Int → Int) : ∀ (L : List (Nat × Nat)) (st : Pst), L.Nodup → (∀ p ∈ L, p.1 < w ∧ p.2 < h) → Fit st.1 w h →
    Fit (L.foldl (pStep f) st).1 w h ∧ (∀ x y, cellM (L.foldl (pStep f) st).1 x y = if (x, y) ∈ L then f x y (cellM st.1 x y) else cellM st.1 x y) ∧
    (L.foldl (pStep f) st).2 = st.2 + ((L.filter fun p => decide (cellM st.1 p.1 p.2 ≠ f p.1 p.2 (cellM st.1 p.1 p.2))).length : Nat)
  | [], st, _, _, hf => ⟨hf, fun x y => by simp, by simp⟩
  | p :: L, st, hn, hr, hf => by
    obtain ⟨hp, hn'⟩ := List.nodup_cons.mp hn
    obtain ⟨px, py⟩ := hr p (by simp)
    have f1 : Fit (pStep f st p).1 w h := paintM_fit hf py _
    have c1 : ∀ x y, cellM (pStep f st p).1 x y = if (x, y) = p then f p.1 p.2 (cellM st.1 p.1 p.2) else cellM st.1 x y := fun x y => paintM_cell hf px py _ x y
    obtain ⟨a1, a2, a3⟩ := paint_all f L (pStep f st p) hn' (fun q hq => hr q (by simp [hq])) f1
    refine ⟨a1, fun x y => ?_, ?_⟩
    · rw [List.foldl_cons, a2, c1]
      by_cases e : (x, y) = p
      · subst e
        rw [if_neg hp, if_pos rfl, if_pos (by simp)]
      · rw [if_neg e]
        by_cases e2 : (x, y) ∈ L
        · rw [if_pos e2, if_pos (by simp [e2])]
        · rw [if_neg e2, if_neg (by simp [e2, e])]
    · rw [List.foldl_cons, a3]
      have e1 : L.filter (fun q => decide (cellM (pStep f st p).1 q.1 q.2 ≠ f q.1 q.2 (cellM (pStep f st p).1 q.1 q.2))) = L.filter (fun q => decide (cellM st.1 q.1 q.2 ≠ f q.1 q.2 (cellM st.1 q.1 q.2))) := by
        refine List.filter_congr fun q hq => ?_
        have : ¬ (q.1, q.2) = p := fun e => hp (e ▸ hq)
        rw [c1, if_neg this]
      rw [e1, List.filter_cons]
      show (paintM st p.1 p.2 (f p.1 p.2 (cellM st.1 p.1 p.2))).2 + _ = _
      rw [paintM_count]
      by_cases e : cellM st.1 p.1 p.2 = f p.1 p.2 (cellM st.1 p.1 p.2)
      · rw [if_pos e, if_neg (by simp [← e])]; omega
      · rw [if_neg e, if_pos (by simp [e]), List.length_cons]; omega
def cellsM (w h : Nat) : List (Nat × Nat) := (List.range h).flatMap fun y => (List.range w).map fun x => (x, y)
theorem mem_cells {w h : Nat} {p : Nat × Nat} : p ∈ cellsM w h ↔ p.1 < w ∧ p.2 < h := by
  unfold cellsM
  rw [List.mem_flatMap]
  constructor
  · rintro ⟨y, hy, hp⟩
    obtain ⟨x, hx, rfl⟩ := List.mem_map.mp hp
    exact ⟨List.mem_range.mp hx, List.mem_range.mp hy⟩
  · rintro ⟨hx, hy⟩
    exact ⟨p.2, List.mem_range.mpr hy, List.mem_map.mpr ⟨p.1, List.mem_range.mpr hx, rfl⟩⟩
theorem nodup_map_range {α : Type} (f : Nat → α) (hf : ∀ i j, f i = f j → i = j) : ∀ n, ((List.range n).map f).Nodup
  | 0 => by simp
  | n + 1 => by
    rw [List.range_succ, List.map_append]
    refine List.nodup_append.mpr ⟨nodup_map_range f hf n, by simp, ?_⟩
    intro a ha b hb e
    obtain ⟨i, hi, rfl⟩ := List.mem_map.mp ha
    simp at hb
    subst hb
    have := hf _ _ e
    have := List.mem_range.mp hi
    omega
theorem nodup_cells (w : Nat) : ∀ h, (cellsM w h).Nodup
  | 0 => by simp [cellsM]
  | h + 1 => by
    unfold cellsM
    rw [List.range_succ, List.flatMap_append]
    refine List.nodup_append.mpr ⟨nodup_cells w h, ?_, ?_⟩
    · simp only [List.flatMap_cons, List.flatMap_nil, List.append_nil]
      exact nodup_map_range _ (fun i j e => by injection e) w
    · intro a ha b hb e
      have h1 := (mem_cells (p := a)).mp ha
      simp at hb
      obtain ⟨x, _, rfl⟩ := hb
      subst e
      exact absurd h1.2 (by show ¬ h < h; omega)
theorem fillAll_eq (cs : List (List (Int × Int))) (c : Int) (w h : Nat) (st : Pst) : fillAll cs c w h st = (cellsM w h).foldl (pStep fun x y old => fillM old c (covQ (pixB x y) cs)) st := by
  unfold fillAll cellsM
  rw [List.foldl_flatMap]
  congr 1
  funext st y
  rw [List.foldl_map]
  rfl
/-! a flat list of rows -/
theorem flat_len {α : Type} (F : Nat → Nat → α) (w : Nat) : ∀ h, ((List.range h).flatMap fun y => (List.range w).map fun x => F x y).length = h * w
  | 0 => by simp
  | h + 1 => by
    rw [List.range_succ, List.flatMap_append, List.length_append, flat_len F w h]
    simp [Nat.succ_mul]
theorem flat_at {α : Type} (F : Nat → Nat → α) {w : Nat} : ∀ (h : Nat) {x y : Nat}, x < w → y < h → ((List.range h).flatMap fun y => (List.range w).map fun x => F x y)[y * w + x]? = some (F x y)
  | 0, x, y, _, hy => absurd hy (by omega)
  | h + 1, x, y, hx, hy => by
    rw [List.range_succ, List.flatMap_append]
    have hl := flat_len F w h
    by_cases e : y < h
    · have : y * w + x < h * w := by
        have := Nat.mul_le_mul_right w (show y + 1 ≤ h by omega)
        rw [Nat.succ_mul] at this
        omega
      rw [List.getElem?_append_left (by rw [hl]; exact this)]
      exact flat_at F h hx e
    · have ey : y = h := by omega
      subst ey
      rw [List.getElem?_append_right (by rw [hl]; omega), hl]
      have : y * w + x - y * w = x := by omega
      rw [this]
      simp [hx]
end Pc
/-! Lines. -/
namespace Pc
open Cv (imax imin)
def flatS (a b c d : Int) : List (Int × Int) := (List.range ((c - a).natAbs + 1)).map fun (i : Nat) =>
  let k : Int := i
  if c - a = 0 then (a, b) else (a + (if 0 < c - a then k else -k), (2 * (b * (c - a).natAbs + k * (d - b)) + (c - a).natAbs) / (2 * (c - a).natAbs : Nat))
theorem near_shift (b n d : Int) (hd : 0 < d) : b + near n d = (2 * (b * d + n) + d) / (2 * d) := by
  unfold near
  have e : 2 * (b * d + n) + d = (2 * n + d) + (2 * d) * b := by grind
  rw [e, Int.add_mul_ediv_left _ _ (by omega : 2 * d ≠ 0)]
  omega
theorem rev_range {α : Type} (f : Nat → α) (n : Nat) : ((List.range (n + 1)).map f).reverse = (List.range (n + 1)).map fun i => f (n - i) := by
  apply List.ext_getElem
  · simp
  · intro i h1 h2
    simp at h1
    rw [List.getElem_reverse]
    simp
theorem flat_spec (a b c d : Int) (h : (d - b).natAbs ≤ (c - a).natAbs) : flatG a b c d = flatS a b c d ∨ flatG a b c d = (flatS a b c d).reverse := by
  unfold flatG flatM flatS
  by_cases hz : a > c
  · right
    rw [if_pos hz, rev_range]
    have e : (a + 1 - c).toNat = (c - a).natAbs + 1 := by omega
    rw [e]
    refine List.map_congr_left fun i hi => ?_
    have hi' := List.mem_range.mp hi
    have hne : ¬ c - a = 0 := by omega
    have hnp : ¬ 0 < c - a := by omega
    simp only [if_neg hne, if_neg hnp]
    unfold flatPt
    have e1 : imax (a - c) 1 = a - c := by unfold imax; split <;> omega
    rw [e1, near_shift _ _ _ (by omega)]
    have e2 : (((c - a).natAbs : Nat) : Int) = a - c := by omega
    have e3 : ((((c - a).natAbs - i : Nat)) : Int) = a - c - i := by omega
    have e4 : ((2 * (c - a).natAbs : Nat) : Int) = 2 * (a - c) := by omega
    rw [e4, e3, e2]
    congr 1
    · omega
    · congr 1; grind
  · left
    rw [if_neg hz]
    have e : (c + 1 - a).toNat = (c - a).natAbs + 1 := by omega
    rw [e]
    refine List.map_congr_left fun i hi => ?_
    have hi' := List.mem_range.mp hi
    by_cases h0 : c - a = 0
    · have hi0 : i = 0 := by omega
      simp only [if_pos h0]
      subst hi0
      unfold flatPt
      have e1 : imax (c - a) 1 = 1 := by unfold imax; split <;> omega
      rw [e1]
      have e2 : (a + ((0 : Nat) : Int) - a) * (d - b) = 0 := by
        have : a + ((0 : Nat) : Int) - a = 0 := by omega
        rw [this, Int.zero_mul]
      rw [e2]
      have e3 : near 0 1 = 0 := by decide
      rw [e3]
      congr 1 <;> omega
    · have hp : 0 < c - a := by omega
      simp only [if_neg h0, if_pos hp]
      unfold flatPt
      have e1 : imax (c - a) 1 = c - a := by unfold imax; split <;> omega
      rw [e1, near_shift _ _ _ hp]
      have e2 : (((c - a).natAbs : Nat) : Int) = c - a := by omega
      have e4 : ((2 * (c - a).natAbs : Nat) : Int) = 2 * (c - a) := by omega
      rw [e4, e2]
      congr 1
      congr 1; grind
theorem line_spec (a b c d : Int) : lineM a b c d = Sq43.line a b c d ∨ lineM a b c d = (Sq43.line a b c d).reverse := by
  unfold lineM Sq43.line
  by_cases h : (d - b).natAbs ≤ (c - a).natAbs
  · rw [if_pos (by omega)]
    simp only [if_pos h]
    exact flat_spec a b c d h
  · rw [if_neg (by omega)]
    simp only [if_neg h]
    have e : (List.range ((d - b).natAbs + 1)).map (fun (i : Nat) => ((2 * (a * (d - b).natAbs + (i : Int) * (c - a)) + (d - b).natAbs) / (2 * (d - b).natAbs : Nat), b + (if 0 < d - b then (i : Int) else -(i : Int)))) = (flatS b a d c).map fun p => (p.2, p.1) := by
      unfold flatS
      rw [List.map_map]
      refine List.map_congr_left fun i hi => ?_
      have h0 : ¬ d - b = 0 := by omega
      simp only [Function.comp, if_neg h0]
    rw [e, ← List.map_reverse]
    rcases flat_spec b a d c (by omega) with f | f
    · left; rw [f]
    · right; rw [f]
theorem line_len (a b c d : Int) : (lineM a b c d).length = (Sq43.line a b c d).length := by
  rcases line_spec a b c d with e | e
  · rw [e]
  · rw [e, List.length_reverse]
theorem line_mem {a b c d : Int} {p : Int × Int} : p ∈ lineM a b c d ↔ p ∈ Sq43.line a b c d := by
  rcases line_spec a b c d with e | e
  · rw [e]
  · rw [e, List.mem_reverse]
theorem flatM_nonneg {a b c d : Int} (ha : 0 ≤ a) (hb : 0 ≤ b) (hd : 0 ≤ d) (hac : a ≤ c) : ∀ p ∈ flatM a b c d, 0 ≤ p.1 ∧ 0 ≤ p.2 := by
  intro p hp
  unfold flatM at hp
  obtain ⟨i, hi, rfl⟩ := List.mem_map.mp hp
  have hi' := List.mem_range.mp hi
  unfold flatPt
  constructor
  · show 0 ≤ a + (i : Nat); omega
  · show 0 ≤ b + near _ _
    have hr : 0 < imax (c - a) 1 := by unfold imax; split <;> omega
    rw [near_shift _ _ _ hr]
    refine Int.ediv_nonneg ?_ (by omega)
    have e : b * imax (c - a) 1 + (a + (i : Nat) - a) * (d - b) = b * (imax (c - a) 1 - i) + d * i := by grind
    rw [e]
    have hir : (i : Int) ≤ imax (c - a) 1 := by unfold imax; split <;> omega
    have m1 : 0 ≤ b * (imax (c - a) 1 - i) := Int.mul_nonneg hb (by omega)
    have m2 : 0 ≤ d * i := Int.mul_nonneg hd (by omega)
    omega
theorem flatG_nonneg {a b c d : Int} (ha : 0 ≤ a) (hb : 0 ≤ b) (hc : 0 ≤ c) (hd : 0 ≤ d) : ∀ p ∈ flatG a b c d, 0 ≤ p.1 ∧ 0 ≤ p.2 := by
  unfold flatG
  split
  · exact flatM_nonneg hc hd hb (by omega)
  · exact flatM_nonneg ha hb hd (by omega)
theorem lineM_nonneg {a b c d : Int} (ha : 0 ≤ a) (hb : 0 ≤ b) (hc : 0 ≤ c) (hd : 0 ≤ d) : ∀ p ∈ lineM a b c d, 0 ≤ p.1 ∧ 0 ≤ p.2 := by
  unfold lineM
  split
  · exact flatG_nonneg ha hb hc hd
  · intro p hp
    obtain ⟨q, hq, rfl⟩ := List.mem_map.mp hp
    have := flatG_nonneg hb ha hd hc q hq
    exact ⟨this.2, this.1⟩
theorem flatG_nodup (a b c d : Int) : (flatG a b c d).Nodup := by
  have k : ∀ a b c d : Int, (flatM a b c d).Nodup := fun a b c d => nodup_map_range _ (fun i j e => by
    have := congrArg Prod.fst e
    have : a + (i : Nat) = a + (j : Nat) := this
    omega) _
  unfold flatG
  split <;> exact k _ _ _ _
theorem lineM_nodup (a b c d : Int) : (lineM a b c d).Nodup := by
  unfold lineM
  split
  · exact flatG_nodup a b c d
  · refine List.pairwise_map.mpr ((flatG_nodup b a d c).imp ?_)
    intro p q hpq e
    injection e with e1 e2
    exact hpq (Prod.ext e2 e1)
/-! what is drawn -/
def inPic (w h : Nat) (p : Int × Int) : Bool := decide (p.2 < (h : Int)) && decide (p.1 < (w : Int))
def natP (p : Int × Int) : Nat × Nat := (p.1.toNat, p.2.toNat)
def drawn (w h : Nat) (l : List (Int × Int)) : List (Nat × Nat) := (l.filter (inPic w h)).map natP
theorem drawAll_eq (v : Int) (w h : Nat) : ∀ (l : List (Int × Int)) (st : Pst), drawAll v w h l st = (drawn w h l).foldl (pStep fun _ _ _ => v) st
  | [], st => rfl
  | p :: l, st => by
    unfold drawAll drawn
    rw [List.foldl_cons, List.filter_cons]
    have ih := drawAll_eq v w h l
    unfold drawAll drawn at ih
    unfold drawStep
    by_cases hp : p.2 < (h : Int) ∧ p.1 < (w : Int)
    · have : inPic w h p = true := by unfold inPic; simp [hp.1, hp.2]
      rw [if_pos hp, if_pos this, List.map_cons, List.foldl_cons]
      exact ih _
    · have : ¬ inPic w h p = true := by unfold inPic; simp; omega
      rw [if_neg hp, if_neg this]
      exact ih _
theorem drawn_mem {w h : Nat} {l : List (Int × Int)} (hl : ∀ p ∈ l, 0 ≤ p.1 ∧ 0 ≤ p.2) {x y : Nat} : (x, y) ∈ drawn w h l ↔ x < w ∧ y < h ∧ ((x : Int), (y : Int)) ∈ l := by
  unfold drawn
  rw [List.mem_map]
  constructor
  · rintro ⟨p, hp, e⟩
    obtain ⟨h1, h2⟩ := List.mem_filter.mp hp
    obtain ⟨n1, n2⟩ := hl p h1
    unfold inPic at h2
    simp at h2
    unfold natP at e
    injection e with e1 e2
    have : p = ((x : Int), (y : Int)) := Prod.ext (by show p.1 = x; omega) (by show p.2 = y; omega)
    rw [this] at h1
    exact ⟨by omega, by omega, h1⟩
  · rintro ⟨h1, h2, h3⟩
    refine ⟨((x : Int), (y : Int)), List.mem_filter.mpr ⟨h3, ?_⟩, ?_⟩
    · unfold inPic; simp; omega
    · unfold natP; simp
theorem drawn_nodup {w h : Nat} {l : List (Int × Int)} (hl : ∀ p ∈ l, 0 ≤ p.1 ∧ 0 ≤ p.2) (hn : l.Nodup) : (drawn w h l).Nodup := by
  unfold drawn
  have h2 : (l.filter (inPic w h)).Nodup := hn.filter _
  refine List.pairwise_map.mpr (List.Pairwise.imp_of_mem ?_ h2)
  intro p q hp hq hpq e
  obtain ⟨p1, p2⟩ := hl p ((List.mem_filter.mp hp).1)
  obtain ⟨q1, q2⟩ := hl q ((List.mem_filter.mp hq).1)
  unfold natP at e
  injection e with e1 e2
  exact hpq (Prod.ext (by omega) (by omega))
theorem sub_len {α : Type} [DecidableEq α] : ∀ (L M : List α), L.Nodup → (∀ z ∈ L, z ∈ M) → L.length ≤ M.length
  | [], M, _, _ => Nat.zero_le _
  | a :: L, M, hn, hs => by
    obtain ⟨ha, hn'⟩ := List.nodup_cons.mp hn
    have hM : a ∈ M := hs a (by simp)
    have := sub_len L (M.erase a) hn' (fun z hz => (List.mem_erase_of_ne (fun e => ha (by rw [← e]; exact hz))).mpr (hs z (by simp [hz])))
    rw [List.length_erase_of_mem hM] at this
    have := List.length_pos_of_mem hM
    rw [List.length_cons]
    omega
theorem same_len {α : Type} [DecidableEq α] {L M : List α} (h1 : L.Nodup) (h2 : M.Nodup) (h : ∀ z, z ∈ L ↔ z ∈ M) : L.length = M.length :=
  Nat.le_antisymm (sub_len L M h1 fun z hz => (h z).mp hz) (sub_len M L h2 fun z hz => (h z).mpr hz)
end Pc
/-! The program's session and the specification's house. -/
namespace Pc
open Cv (imax imin)
open Sq43 (House)
structure Rel (s : Ses) (g : House) : Prop where
  w : g.w = s.w
  h : g.h = s.h
  size : g.pixels.size = g.h * g.w
  cell : ∀ x y, x < g.w → y < g.h → cellM s.rows x y = (g.at_ x y : Int)
  path : g.path = s.cs.map fun c => c.map Cv.pt
theorem idx_lt {w h x y : Nat} (hx : x < w) (hy : y < h) : y * w + x < h * w := by
  have := Nat.mul_le_mul_right w (show y + 1 ≤ h by omega)
  rw [Nat.succ_mul] at this
  omega
theorem idx_inj {w x y x' y' : Nat} (hx : x < w) (hx' : x' < w) (e : y * w + x = y' * w + x') : x = x' ∧ y = y' := by
  have hw : 0 < w := by omega
  have a1 : (y * w + x) / w = y := by rw [Nat.add_comm, Nat.add_mul_div_right _ _ hw, Nat.div_eq_of_lt hx]; omega
  have a2 : (y' * w + x') / w = y' := by rw [Nat.add_comm, Nat.add_mul_div_right _ _ hw, Nat.div_eq_of_lt hx']; omega
  rw [e] at a1
  have : y = y' := by omega
  subst this
  omega
theorem step_begin {s : Ses} {g : House} (r : Rel s g) {w h c : Int} (hw : U64 w) (hh : U64 h) (hc : U64 c) :
    Rel (mBegin s w h c).1 (g.step (.begin_ w.toNat h.toNat c.toNat)).1 ∧ (mBegin s w h c).2 = (g.step (.begin_ w.toNat h.toNat c.toNat)).2.value :: (g.step (.begin_ w.toNat h.toNat c.toNat)).2.out := by
  obtain ⟨w0, _⟩ := hw
  obtain ⟨h0, _⟩ := hh
  obtain ⟨c0, _⟩ := hc
  unfold mBegin House.step
  have e : (¬ side w ∨ ¬ side h ∨ c > 255) ↔ (w.toNat = 0 ∨ Sq43.SIDE < w.toNat ∨ h.toNat = 0 ∨ Sq43.SIDE < h.toNat ∨ 255 < c.toNat) := by
    unfold side Sq43.SIDE
    omega
  by_cases z : ¬ side w ∨ ¬ side h ∨ c > 255
  · rw [if_pos z]
    simp only [if_pos (e.mp z)]
    exact ⟨r, rfl⟩
  · rw [if_neg z]
    simp only [if_neg (fun q => z (e.mpr q))]
    have ⟨sw, sh, sc⟩ : side w ∧ side h ∧ c ≤ 255 := by unfold side at *; omega
    unfold side at sw sh
    refine ⟨⟨?_, ?_, ?_, ?_, rfl⟩, rfl⟩
    · show w.toNat = ((plainM w h c).getD 0 []).length
      unfold plainM
      rw [List.getD_eq_getElem?_getD, List.getElem?_replicate, if_pos (by omega)]
      simp
    · show h.toNat = (plainM w h c).length
      unfold plainM; simp
    · show (Array.replicate (w.toNat * h.toNat) c.toNat).size = h.toNat * w.toNat
      rw [Array.size_replicate, Nat.mul_comm]
    · intro x y hx hy
      have hx' : x < w.toNat := hx
      have hy' : y < h.toNat := hy
      have := idx_lt hx' hy'
      show cellM (plainM w h c) x y = (((Array.replicate (w.toNat * h.toNat) c.toNat)[y * w.toNat + x]?.getD 0 : Nat) : Int)
      rw [Array.getElem?_replicate, if_pos (by rw [Nat.mul_comm w.toNat]; exact this)]
      unfold cellM plainM
      rw [List.getD_eq_getElem?_getD, List.getD_eq_getElem?_getD, List.getElem?_replicate, if_pos hy']
      show (List.replicate w.toNat c)[x]?.getD 0 = _
      rw [List.getElem?_replicate, if_pos hx']
      show c = ((c.toNat : Nat) : Int)
      omega
theorem points_even : ∀ (n : Nat) (l : List Int), l.length = 2 * n → (∀ z ∈ l, 0 ≤ z) → Sq43.points (l.map Int.toNat) = some ((pairsM l).map Cv.pt)
  | 0, [], _, _ => rfl
  | 0, _ :: _, h, _ => by simp at h
  | n + 1, [], h, _ => by simp at h
  | n + 1, [_], h, _ => by simp at h; omega
  | n + 1, a :: b :: l, h, hz => by
    have hl : l.length = 2 * n := by simp at h; omega
    have ih := points_even n l hl (fun z m => hz z (by simp [m]))
    show (Sq43.points (l.map Int.toNat)).map _ = _
    rw [ih]
    have ha := hz a (by simp)
    have hb := hz b (by simp)
    have e1 : (((a.toNat : Nat)) : Int) = a := by omega
    have e2 : (((b.toNat : Nat)) : Int) = b := by omega
    show some (⟨Sq43.whole (a.toNat : Nat), Sq43.whole (b.toNat : Nat)⟩ :: (pairsM l).map Cv.pt) = _
    rw [e1, e2]
    congr 1
    unfold pairsM
    have e3 : (a :: b :: l).length / 2 = l.length / 2 + 1 := by simp; omega
    rw [e3, List.range_succ_eq_map, List.map_cons, List.map_cons, List.map_map, List.map_map, List.map_map]
    congr 1
theorem points_odd : ∀ (n : Nat) (l : List Nat), l.length = 2 * n + 1 → Sq43.points l = none
  | _, [], h => by simp at h
  | _, [_], _ => rfl
  | 0, a :: b :: l, h => by simp at h
  | n + 1, a :: b :: l, h => by
    have hl : l.length = 2 * n + 1 := by simp at h; omega
    show (Sq43.points l).map _ = none
    rw [points_odd n l hl]; rfl
theorem imax_gt {a b m : Int} : imax a b > m ↔ a > m ∨ b > m := by unfold imax; split <;> omega
theorem fold_max {m : Int} : ∀ (l : List Int) (a : Int), l.foldl imax a > m ↔ a > m ∨ ∃ z ∈ l, z > m
  | [], a => by simp
  | b :: l, a => by
    rw [List.foldl_cons, fold_max l, imax_gt]
    constructor
    · rintro ((h | h) | ⟨z, hz, h⟩)
      · exact .inl h
      · exact .inr ⟨b, by simp, h⟩
      · exact .inr ⟨z, by simp [hz], h⟩
    · rintro (h | ⟨z, hz, h⟩)
      · exact .inl (.inl h)
      · rcases List.mem_cons.mp hz with rfl | hz
        · exact .inl (.inr h)
        · exact .inr ⟨z, hz, h⟩
theorem maxM_gt {l : List Int} : maxM l > 4096 ↔ ∃ z ∈ l, z > 4096 := by
  match l with
  | [] => simp [maxM]
  | a :: l =>
    show l.foldl imax a > 4096 ↔ _
    rw [fold_max]
    simp
theorem corners_pt (cs : List (List (Int × Int))) : ((cs.map fun c => c.map Cv.pt).map fun d => d.length).sum = corners cs := by
  unfold corners
  rw [List.map_map]
  congr 1
  refine List.map_congr_left fun c _ => ?_
  show (c.map Cv.pt).length = c.length
  rw [List.length_map]
theorem step_add {s : Ses} {g : House} (r : Rel s g) {l : List Int} (hl : ∀ z ∈ l, U64 z) :
    Rel (mAdd s l).1 (g.step (.contour (l.map Int.toNat))).1 ∧ (mAdd s l).2 = (g.step (.contour (l.map Int.toNat))).2.value :: (g.step (.contour (l.map Int.toNat))).2.out := by
  simp only [mAdd, House.step]
  by_cases hp : l.length % 2 = 0
  · rw [if_neg (by omega)]
    have e := points_even (l.length / 2) l (by omega) (fun z hz => (hl z hz).1)
    rw [e]
    dsimp only
    rw [List.length_map]
    have e2 : ((l.map Int.toNat).any fun z => decide (4096 < z)) = true ↔ maxM l > 4096 := by
      rw [maxM_gt, List.any_eq_true]
      constructor
      · rintro ⟨z, hz, h⟩
        obtain ⟨y, hy, rfl⟩ := List.mem_map.mp hz
        have := of_decide_eq_true h
        exact ⟨y, hy, by omega⟩
      · rintro ⟨z, hz, h⟩
        exact ⟨z.toNat, List.mem_map.mpr ⟨z, hz, rfl⟩, decide_eq_true (by omega)⟩
    by_cases h1 : (pairsM l).length < 3 ∨ maxM l > 4096
    · rw [if_pos h1, if_pos (h1.imp id e2.mpr)]
      exact ⟨r, rfl⟩
    · have n1 : ¬ ((pairsM l).length < 3 ∨ ((l.map Int.toNat).any fun z => decide (4096 < z)) = true) := fun q => h1 (q.imp id e2.mp)
      rw [if_neg h1, if_neg n1]
      have e3 : (g.path.map fun d => d.length).sum = corners s.cs := by rw [r.path, corners_pt]
      rw [e3]
      by_cases h2 : corners s.cs + (pairsM l).length > 60
      · have p2 : Sq43.POINTS < corners s.cs + (pairsM l).length := h2
        rw [if_pos h2, if_pos p2]
        exact ⟨r, rfl⟩
      · have p2 : ¬ Sq43.POINTS < corners s.cs + (pairsM l).length := h2
        rw [if_neg h2, if_neg p2]
        refine ⟨⟨r.w, r.h, r.size, r.cell, ?_⟩, ?_⟩
        · show g.path ++ [_] = (s.cs ++ [_]).map _
          rw [List.map_append, r.path]; rfl
        · show [((s.cs.length + 1 : Nat) : Int)] = [((g.path.length + 1 : Nat) : Int)]
          rw [r.path, List.length_map]
  · rw [if_pos hp]
    rw [points_odd (l.length / 2) _ (by rw [List.length_map]; omega)]
    exact ⟨r, rfl⟩
theorem step_cov {s : Ses} {g : House} (r : Rel s g) {x y : Int} (hx : U64 x) (hy : U64 y) :
    Rel (mCov s x y).1 (g.step (.cover x.toNat y.toNat)).1 ∧ (mCov s x y).2 = (g.step (.cover x.toNat y.toNat)).2.value :: (g.step (.cover x.toNat y.toNat)).2.out := by
  obtain ⟨x0, _⟩ := hx
  obtain ⟨y0, _⟩ := hy
  unfold mCov House.step
  have hw := r.w
  have hh := r.h
  by_cases h : y < (s.h : Int) ∧ x < (s.w : Int)
  · rw [if_pos h]
    simp only [if_neg (show ¬ (g.w ≤ x.toNat ∨ g.h ≤ y.toNat) by omega)]
    refine ⟨r, ?_⟩
    rw [r.path, cover_pix]
    have e1 : ((x.toNat : Nat) : Int) = x := by omega
    have e2 : ((y.toNat : Nat) : Int) = y := by omega
    rw [e1, e2]
    rfl
  · rw [if_neg h]
    simp only [if_pos (show (g.w ≤ x.toNat ∨ g.h ≤ y.toNat) by omega)]
    exact ⟨r, rfl⟩
theorem step_area {s : Ses} {g : House} (r : Rel s g) : Rel (mArea s).1 (g.step .area).1 ∧ (mArea s).2 = (g.step .area).2.value :: (g.step .area).2.out := by
  refine ⟨r, ?_⟩
  show tell _ = 0 :: [(Sq43.area g.path).n, ((Sq43.area g.path).d : Int)]
  rw [r.path, area_all]
  rfl
theorem step_total {s : Ses} {g : House} (r : Rel s g) : Rel (mTotal s).1 (g.step .covered).1 ∧ (mTotal s).2 = (g.step .covered).2.value :: (g.step .covered).2.out := by
  refine ⟨r, ?_⟩
  have e : Sq43.sum (g.cells.map fun p => Sq43.cover g.path p.1 p.2) = Cv.ofRat (covQ (picB s.w s.h) s.cs) := by
    rw [r.path, ← covered_all, ← r.w, ← r.h]
    rfl
  show tell _ = 0 :: [(Sq43.sum (g.cells.map fun p => Sq43.cover g.path p.1 p.2)).n, ((Sq43.sum (g.cells.map fun p => Sq43.cover g.path p.1 p.2)).d : Int)]
  rw [e]
  rfl
theorem step_rev {s : Ses} {g : House} (r : Rel s g) : Rel (mRev s).1 (g.step .turn).1 ∧ (mRev s).2 = (g.step .turn).2.value :: (g.step .turn).2.out := by
  refine ⟨⟨r.w, r.h, r.size, r.cell, ?_⟩, ?_⟩
  · show g.path.map List.reverse = (s.cs.map List.reverse).map fun c => c.map Cv.pt
    rw [r.path, List.map_map, List.map_map]
    refine List.map_congr_left fun c _ => ?_
    show (c.map Cv.pt).reverse = c.reverse.map Cv.pt
    rw [List.map_reverse]
  · show [(s.cs.length : Int)] = [(g.path.length : Int)]
    rw [r.path, List.length_map]
theorem step_clear {s : Ses} {g : House} (r : Rel s g) : Rel (mClear s).1 (g.step .clear).1 ∧ (mClear s).2 = (g.step .clear).2.value :: (g.step .clear).2.out :=
  ⟨⟨r.w, r.h, r.size, r.cell, rfl⟩, rfl⟩
theorem row_list {s : Ses} {g : House} (o : SesOk s) (r : Rel s g) {y : Nat} (hy : y < s.h) : s.rows.getD y [] = (List.range g.w).map fun x => (g.at_ x y : Int) := by
  have hl := o.fit.wide y hy
  have hw := r.w
  have hh := r.h
  apply List.ext_getElem
  · rw [List.length_map, List.length_range, hl, hw]
  · intro x h1 h2
    have hx : x < g.w := by rw [hw, ← hl]; exact h1
    have := r.cell x y hx (by omega)
    unfold cellM at this
    rw [List.getD_eq_getElem?_getD (l := s.rows.getD y []), List.getElem?_eq_getElem h1] at this
    simp only [List.getElem_map, List.getElem_range]
    exact this
theorem step_row {s : Ses} {g : House} (o : SesOk s) (r : Rel s g) {y : Int} (hy : U64 y) :
    Rel (mRow s y).1 (g.step (.row y.toNat)).1 ∧ (mRow s y).2 = (g.step (.row y.toNat)).2.value :: (g.step (.row y.toNat)).2.out := by
  obtain ⟨y0, _⟩ := hy
  have hh := r.h
  unfold mRow House.step
  by_cases h : y ≥ (s.h : Int)
  · rw [if_pos h]
    simp only [if_pos (show g.h ≤ y.toNat by omega)]
    exact ⟨r, rfl⟩
  · rw [if_neg h]
    simp only [if_neg (show ¬ g.h ≤ y.toNat by omega)]
    refine ⟨r, ?_⟩
    have e := row_list o r (y := y.toNat) (by omega)
    show ((s.rows.getD y.toNat []).length : Int) :: s.rows.getD y.toNat [] = (g.w : Int) :: (List.range g.w).map fun x => (g.at_ x y.toNat : Int)
    rw [e, List.length_map, List.length_range]
theorem fit_ses {rows : List (List Int)} {w h : Nat} (f : Fit rows w h) (h1 : 1 ≤ h) (cs : List (List (Int × Int))) : (Ses.mk rows cs).w = w ∧ (Ses.mk rows cs).h = h := by
  refine ⟨?_, f.len⟩
  exact f.wide 0 (by omega)
/-- the picture behind a painting, on both sides -/
theorem rel_painted {s : Ses} {g u : House} (o : SesOk s) (r : Rel s g) {rows : List (List Int)} (f : Fit rows s.w s.h) (hw : u.w = g.w) (hh : u.h = g.h) (hs : u.pixels.size = u.h * u.w) (hp : u.path = g.path)
    (hc : ∀ x y, x < g.w → y < g.h → cellM rows x y = (u.at_ x y : Int)) : Rel ⟨rows, s.cs⟩ u := by
  obtain ⟨e1, e2⟩ := fit_ses f o.h1 s.cs
  refine ⟨?_, ?_, hs, ?_, ?_⟩
  · rw [e1, hw, r.w]
  · rw [e2, hh, r.h]
  · intro x y hx hy
    exact hc x y (by rw [← hw]; exact hx) (by rw [← hh]; exact hy)
  · rw [hp]; exact r.path
theorem at_small {s : Ses} {g : House} (o : SesOk s) (r : Rel s g) {x y : Nat} (hx : x < g.w) (hy : y < g.h) : g.at_ x y ≤ 255 := by
  have h1 := r.cell x y hx hy
  have hw := r.w
  have hh := r.h
  have h2 := o.col x y (by omega) (by omega)
  omega
theorem changed_eq (g u : House) : Sq43.changed g u = ((cellsM g.w g.h).filter fun p => g.at_ p.1 p.2 != u.at_ p.1 p.2).length := rfl
theorem step_fill {s : Ses} {g : House} (o : SesOk s) (r : Rel s g) {c : Int} (hc : U64 c) :
    Rel (mFill s c).1 (g.step (.fill c.toNat)).1 ∧ (mFill s c).2 = (g.step (.fill c.toNat)).2.value :: (g.step (.fill c.toNat)).2.out := by
  obtain ⟨c0, _⟩ := hc
  have hw := r.w
  have hh := r.h
  unfold mFill House.step
  by_cases h : c > 255
  · rw [if_pos h]
    simp only [if_pos (show 255 < c.toNat by omega)]
    exact ⟨r, rfl⟩
  · rw [if_neg h]
    simp only [if_neg (show ¬ 255 < c.toNat by omega)]
    rw [fillAll_eq]
    obtain ⟨a1, a2, a3⟩ := paint_all (w := s.w) (h := s.h) (fun x y old => fillM old c (covQ (pixB x y) s.cs)) (cellsM s.w s.h) (s.rows, 0) (nodup_cells _ _) (fun p hp => mem_cells.mp hp) o.fit
    have key : ∀ x y, x < g.w → y < g.h → fillM (cellM s.rows x y) c (covQ (pixB x y) s.cs) = ((g.filled c.toNat).at_ x y : Int) := by
      intro x y hx hy
      have e : (g.filled c.toNat).at_ x y = Sq43.mixed (g.at_ x y) c.toNat (Sq43.strength (Sq43.cover g.path x y)) := by
        show (((List.range g.h).flatMap fun y => (List.range g.w).map fun x => Sq43.mixed (g.at_ x y) c.toNat (Sq43.strength (Sq43.cover g.path x y))).toArray[y * g.w + x]?).getD 0 = _
        rw [List.getElem?_toArray, flat_at (fun x y => Sq43.mixed (g.at_ x y) c.toNat (Sq43.strength (Sq43.cover g.path x y))) g.h hx hy]
        rfl
      rw [e, r.path, cover_pix, mixed_int (at_small o r hx hy) (by omega), r.cell x y hx hy]
      congr 1
      omega
    refine ⟨rel_painted o r a1 rfl rfl ?_ rfl ?_, ?_⟩
    · show ((List.range g.h).flatMap fun y => (List.range g.w).map fun x => Sq43.mixed (g.at_ x y) c.toNat (Sq43.strength (Sq43.cover g.path x y))).toArray.size = g.h * g.w
      rw [List.size_toArray]
      exact flat_len _ _ _
    · intro x y hx hy
      rw [a2, if_pos (mem_cells.mpr ⟨by omega, by omega⟩)]
      exact key x y hx hy
    · rw [a3]
      show [_] = [_]
      congr 1
      rw [changed_eq, hw, hh]
      show (0 : Int) + _ = _
      have e : (cellsM s.w s.h).filter (fun p => decide (cellM s.rows p.1 p.2 ≠ fillM (cellM s.rows p.1 p.2) c (covQ (pixB p.1 p.2) s.cs))) = (cellsM s.w s.h).filter fun p => g.at_ p.1 p.2 != (g.filled c.toNat).at_ p.1 p.2 := by
        refine List.filter_congr fun p hp => ?_
        obtain ⟨h1, h2⟩ := mem_cells.mp hp
        rw [key p.1 p.2 (by omega) (by omega), r.cell p.1 p.2 (by omega) (by omega)]
        by_cases e : g.at_ p.1 p.2 = (g.filled c.toNat).at_ p.1 p.2
        · rw [e]; simp
        · have : ¬ ((g.at_ p.1 p.2 : Nat) : Int) = (((g.filled c.toNat).at_ p.1 p.2 : Nat) : Int) := by omega
          simp [this, e]
      show (0 : Int) + (((cellsM s.w s.h).filter (fun p => decide (cellM s.rows p.1 p.2 ≠ fillM (cellM s.rows p.1 p.2) c (covQ (pixB p.1 p.2) s.cs)))).length : Nat) = _
      rw [e, Int.zero_add]
      rfl
theorem put_all (c : Nat) : ∀ (l : List (Int × Int)) (g : House), g.pixels.size = g.h * g.w →
    (l.foldl (fun (m : House) p => m.put p c) g).w = g.w ∧ (l.foldl (fun (m : House) p => m.put p c) g).h = g.h ∧ (l.foldl (fun (m : House) p => m.put p c) g).path = g.path ∧
    (l.foldl (fun (m : House) p => m.put p c) g).pixels.size = g.h * g.w ∧
    ∀ x y, x < g.w → y < g.h → (l.foldl (fun (m : House) p => m.put p c) g).at_ x y = if ((x : Int), (y : Int)) ∈ l then c else g.at_ x y
  | [], g, hs => ⟨rfl, rfl, rfl, hs, fun x y _ _ => by simp⟩
  | p :: l, g, hs => by
    have hput : (g.put p c).w = g.w ∧ (g.put p c).h = g.h ∧ (g.put p c).path = g.path ∧ (g.put p c).pixels.size = g.h * g.w ∧ ∀ x y, x < g.w → y < g.h → (g.put p c).at_ x y = if ((x : Int), (y : Int)) = p then c else g.at_ x y := by
      unfold House.put
      by_cases h : p.1 < 0 ∨ (g.w : Int) ≤ p.1 ∨ p.2 < 0 ∨ (g.h : Int) ≤ p.2
      · rw [if_pos h]
        refine ⟨rfl, rfl, rfl, hs, fun x y hx hy => ?_⟩
        rw [if_neg]
        intro e; subst e
        simp at h; omega
      · rw [if_neg h]
        refine ⟨rfl, rfl, rfl, by show (g.pixels.setIfInBounds _ _).size = _; rw [Array.size_setIfInBounds]; exact hs, fun x y hx hy => ?_⟩
        show ((g.pixels.setIfInBounds (p.2.toNat * g.w + p.1.toNat) c)[y * g.w + x]?).getD 0 = _
        have hi := idx_lt (w := g.w) (h := g.h) (x := p.1.toNat) (y := p.2.toNat) (by omega) (by omega)
        rw [Array.getElem?_setIfInBounds]
        by_cases e : p.2.toNat * g.w + p.1.toNat = y * g.w + x
        · obtain ⟨e1, e2⟩ := idx_inj (by omega) hx e
          rw [if_pos e, if_pos (by rw [hs]; exact hi), if_pos (Prod.ext (by show (x : Int) = p.1; omega) (by show (y : Int) = p.2; omega))]
          rfl
        · rw [if_neg e, if_neg]
          · rfl
          · intro q
            subst q
            exact e (by simp)
    obtain ⟨p1, p2, p3, p4, p5⟩ := hput
    obtain ⟨q1, q2, q3, q4, q5⟩ := put_all c l (g.put p c) (by rw [p1, p2]; exact p4)
    refine ⟨q1.trans p1, q2.trans p2, q3.trans p3, by rw [List.foldl_cons, q4, p1, p2], fun x y hx hy => ?_⟩
    rw [List.foldl_cons, q5 x y (by rw [p1]; exact hx) (by rw [p2]; exact hy), p5 x y hx hy]
    by_cases e : ((x : Int), (y : Int)) ∈ l
    · rw [if_pos e, if_pos (by simp [e])]
    · rw [if_neg e]
      by_cases e2 : ((x : Int), (y : Int)) = p
      · rw [if_pos e2, if_pos (by simp [e2])]
      · rw [if_neg e2, if_neg (by simp [e, e2])]
theorem step_line {s : Ses} {g : House} (o : SesOk s) (r : Rel s g) {a b c d v : Int} (ha : U64 a) (hb : U64 b) (hc : U64 c) (hd : U64 d) (hv : U64 v) :
    Rel (mLine s a b c d v).1 (g.step (.line a.toNat b.toNat c.toNat d.toNat v.toNat)).1 ∧ (mLine s a b c d v).2 = (g.step (.line a.toNat b.toNat c.toNat d.toNat v.toNat)).2.value :: (g.step (.line a.toNat b.toNat c.toNat d.toNat v.toNat)).2.out := by
  obtain ⟨a0, _⟩ := ha
  obtain ⟨b0, _⟩ := hb
  obtain ⟨c0, _⟩ := hc
  obtain ⟨d0, _⟩ := hd
  obtain ⟨v0, _⟩ := hv
  have hw := r.w
  have hh := r.h
  unfold mLine House.step
  have e : (255 < v.toNat ∨ ([a.toNat, b.toNat, c.toNat, d.toNat].any fun z => decide (1000 < z)) = true) ↔ (v > 255 ∨ imax (imax (imax a b) c) d > 1000) := by
    rw [imax_gt, imax_gt, imax_gt]
    simp
    omega
  by_cases h : v > 255 ∨ imax (imax (imax a b) c) d > 1000
  · rw [if_pos h]
    simp only [if_pos (e.mpr h)]
    exact ⟨r, rfl⟩
  · rw [if_neg h]
    simp only [if_neg (fun q => h (e.mp q))]
    have ea : ((a.toNat : Nat) : Int) = a := by omega
    have eb : ((b.toNat : Nat) : Int) = b := by omega
    have ec : ((c.toNat : Nat) : Int) = c := by omega
    have ed : ((d.toNat : Nat) : Int) = d := by omega
    rw [ea, eb, ec, ed, drawAll_eq]
    have hnn := lineM_nonneg a0 b0 c0 d0
    have hnd := drawn_nodup (w := s.w) (h := s.h) hnn (lineM_nodup a b c d)
    obtain ⟨a1, a2, a3⟩ := paint_all (w := s.w) (h := s.h) (fun _ _ _ => v) (drawn s.w s.h (lineM a b c d)) (s.rows, 0) hnd (fun p hp => by
      have := (drawn_mem (x := p.1) (y := p.2) hnn).mp hp
      exact ⟨this.1, this.2.1⟩) o.fit
    obtain ⟨p1, p2, p3, p4, p5⟩ := put_all v.toNat (Sq43.line a b c d) g r.size
    have key : ∀ x y, x < g.w → y < g.h → (((Sq43.line a b c d).foldl (fun (m : House) p => m.put p v.toNat) g).at_ x y : Int) = if (x, y) ∈ drawn s.w s.h (lineM a b c d) then v else cellM s.rows x y := by
      intro x y hx hy
      rw [p5 x y hx hy]
      by_cases e : ((x : Int), (y : Int)) ∈ Sq43.line a b c d
      · rw [if_pos e, if_pos ((drawn_mem hnn).mpr ⟨by omega, by omega, line_mem.mpr e⟩)]
        omega
      · rw [if_neg e, if_neg (fun z => e (line_mem.mp ((drawn_mem hnn).mp z).2.2)), r.cell x y hx hy]
    refine ⟨rel_painted o r a1 p1 p2 (by rw [p4, p1, p2]) p3 ?_, ?_⟩
    · intro x y hx hy
      rw [a2, key x y hx hy]
    · rw [a3]
      show [_, _] = [_, _]
      rw [line_len]
      congr 1
      congr 1
      rw [changed_eq, hw, hh]
      show (0 : Int) + _ = _
      rw [Int.zero_add]
      congr 1
      refine same_len (hnd.filter _) ((nodup_cells _ _).filter _) fun p => ?_
      rw [List.mem_filter, List.mem_filter, mem_cells]
      by_cases hp : p.1 < s.w ∧ p.2 < s.h
      · have hk := key p.1 p.2 (by omega) (by omega)
        have hcell := r.cell p.1 p.2 (by omega) (by omega)
        by_cases hm : p ∈ drawn s.w s.h (lineM a b c d)
        · rw [if_pos hm] at hk
          simp only [hm, hp, true_and, and_self]
          simp only [bne_iff_ne, decide_eq_true_eq]
          show cellM s.rows p.1 p.2 ≠ v ↔ _
          omega
        · rw [if_neg hm] at hk
          simp only [hm, hp, true_and, and_self, false_and, false_iff]
          simp only [bne_iff_ne]
          omega
      · have : ¬ p ∈ drawn s.w s.h (lineM a b c d) := fun z => hp (by
          have := (drawn_mem (x := p.1) (y := p.2) hnn).mp z
          exact ⟨this.1, this.2.1⟩)
        simp only [this, hp, false_and]
end Pc
/-! What a session keeps; a list of calls, read. -/
namespace Pc
open Cv (imax imin)
open Sq43 (House)
theorem ok_rows {s : Ses} (o : SesOk s) {rows : List (List Int)} (f : Fit rows s.w s.h) (hc : ∀ x y, x < s.w → y < s.h → 0 ≤ cellM rows x y ∧ cellM rows x y ≤ 255) : SesOk ⟨rows, s.cs⟩ := by
  obtain ⟨e1, e2⟩ := fit_ses f o.h1 s.cs
  refine ⟨by rw [e2]; exact o.h1, by rw [e2]; exact o.h2, by rw [e1]; exact o.w1, by rw [e1]; exact o.w2, by rw [e1, e2]; exact f, ?_, o.few, o.three, o.small⟩
  rw [e1, e2]
  exact hc
theorem plain_fit {w h c : Int} : Fit (plainM w h c) w.toNat h.toNat := by
  refine ⟨by unfold plainM; simp, fun y hy => ?_⟩
  unfold plainM
  rw [List.getD_eq_getElem?_getD, List.getElem?_replicate, if_pos hy]
  simp
theorem plain_cell {w h c : Int} {x y : Nat} (hx : x < w.toNat) (hy : y < h.toNat) : cellM (plainM w h c) x y = c := by
  unfold cellM plainM
  rw [List.getD_eq_getElem?_getD, List.getD_eq_getElem?_getD, List.getElem?_replicate, if_pos hy]
  show (List.replicate w.toNat c)[x]?.getD 0 = _
  rw [List.getElem?_replicate, if_pos hx]
  rfl
theorem ok_plain_ses {w h c : Int} (hw : side w) (hh : side h) (h0 : 0 ≤ c) (h1 : c ≤ 255) : SesOk ⟨plainM w h c, []⟩ := by
  unfold side at hw hh
  have f := plain_fit (w := w) (h := h) (c := c)
  obtain ⟨e1, e2⟩ := fit_ses f (by omega) []
  refine ⟨by rw [e2]; omega, by rw [e2]; omega, by rw [e1]; omega, by rw [e1]; omega, by rw [e1, e2]; exact f, ?_, by show 0 ≤ 60; omega, fun c hc => by simp at hc, fun c hc => by simp at hc⟩
  rw [e1, e2]
  intro x y hx hy
  show 0 ≤ cellM (plainM w h c) x y ∧ cellM (plainM w h c) x y ≤ 255
  rw [plain_cell hx hy]
  exact ⟨h0, h1⟩
theorem ok_start : SesOk mStart := ok_plain_ses (w := 1) (h := 1) (c := 0) (by decide) (by decide) (by decide) (by decide)
theorem pairs_len (l : List Int) : (pairsM l).length = l.length / 2 := by unfold pairsM; rw [List.length_map, List.length_range]
theorem pairs_small {l : List Int} (hl : ∀ z ∈ l, U64 z) (hm : ¬ maxM l > 4096) : ∀ z ∈ pairsM l, 0 ≤ z.1 ∧ z.1 ≤ 4096 ∧ 0 ≤ z.2 ∧ z.2 ≤ 4096 := by
  intro z hz
  unfold pairsM at hz
  obtain ⟨i, hi, rfl⟩ := List.mem_map.mp hz
  have hi' := List.mem_range.mp hi
  have k : ∀ j, j < l.length → 0 ≤ l.getD j 0 ∧ l.getD j 0 ≤ 4096 := by
    intro j hj
    rw [List.getD_eq_getElem?_getD, List.getElem?_eq_getElem hj]
    show 0 ≤ l[j] ∧ l[j] ≤ 4096
    refine ⟨(hl _ (List.getElem_mem hj)).1, ?_⟩
    have : ¬ l[j] > 4096 := fun h => hm (maxM_gt.mpr ⟨_, List.getElem_mem hj, h⟩)
    omega
  unfold pairAt
  have k1 := k (2 * i) (by omega)
  have k2 := k (2 * i + 1) (by omega)
  exact ⟨k1.1, k1.2, k2.1, k2.2⟩
theorem corners_snoc (cs : List (List (Int × Int))) (c : List (Int × Int)) : corners (cs ++ [c]) = corners cs + c.length := by
  rw [corners_append]; unfold corners; simp
theorem corners_rev (cs : List (List (Int × Int))) : corners (cs.map List.reverse) = corners cs := by
  unfold corners
  rw [List.map_map]
  congr 1
  refine List.map_congr_left fun c _ => ?_
  show c.reverse.length = c.length
  rw [List.length_reverse]
theorem step_keeps {s : Ses} (o : SesOk s) {p : Op} (hp : p.ok) : SesOk (mStep s p).1 := by
  cases p with
  | begin w h c =>
    show SesOk (mBegin s w h c).1
    unfold mBegin
    split
    · exact o
    · rename_i z
      obtain ⟨_, _, hc⟩ := hp
      exact ok_plain_ses (by unfold side at *; omega) (by unfold side at *; omega) hc.1 (by omega)
  | add l =>
    show SesOk (mAdd s l).1
    unfold mAdd
    split
    · exact o
    · split
      · exact o
      · split
        · exact o
        · rename_i z1 z2 z3
          refine ⟨o.h1, o.h2, o.w1, o.w2, o.fit, o.col, ?_, ?_, ?_⟩
          · show corners (s.cs ++ [pairsM l]) ≤ 60
            rw [corners_snoc]; omega
          · intro c hc
            rcases List.mem_append.mp hc with h | h
            · exact o.three c h
            · rw [List.mem_singleton.mp h]; omega
          · intro c hc
            rcases List.mem_append.mp hc with h | h
            · exact o.small c h
            · rw [List.mem_singleton.mp h]
              exact pairs_small hp.2 (fun q => z2 (.inr q))
  | clear => exact ⟨o.h1, o.h2, o.w1, o.w2, o.fit, o.col, (by show 0 ≤ 60; omega), (fun c hc => by cases hc), (fun c hc => by cases hc)⟩
  | cov x y =>
    show SesOk (mCov s x y).1
    unfold mCov
    split <;> exact o
  | area => exact o
  | total => exact o
  | row y =>
    show SesOk (mRow s y).1
    unfold mRow
    split <;> exact o
  | rev =>
    refine ⟨o.h1, o.h2, o.w1, o.w2, o.fit, o.col, ?_, ?_, ?_⟩
    · show corners (s.cs.map List.reverse) ≤ 60
      rw [corners_rev]; exact o.few
    · intro c hc
      obtain ⟨d, hd, rfl⟩ := List.mem_map.mp hc
      rw [List.length_reverse]
      exact o.three d hd
    · intro c hc z hz
      obtain ⟨d, hd, rfl⟩ := List.mem_map.mp hc
      exact o.small d hd z (List.mem_reverse.mp hz)
  | fill c =>
    show SesOk (mFill s c).1
    unfold mFill
    split
    · exact o
    · rename_i z
      rw [fillAll_eq]
      obtain ⟨a1, a2, _⟩ := paint_all (w := s.w) (h := s.h) (fun x y old => fillM old c (covQ (pixB x y) s.cs)) (cellsM s.w s.h) (s.rows, 0) (nodup_cells _ _) (fun p hp => mem_cells.mp hp) o.fit
      refine ok_rows o a1 fun x y hx hy => ?_
      rw [a2, if_pos (mem_cells.mpr ⟨hx, hy⟩)]
      have := o.col x y hx hy
      exact fillM_range this.1 this.2 hp.1 (by omega)
  | line a b c d v =>
    obtain ⟨ha, hb, hc, hd, hv⟩ := hp
    show SesOk (mLine s a b c d v).1
    unfold mLine
    split
    · exact o
    · rename_i z
      rw [drawAll_eq]
      have hnn := lineM_nonneg ha.1 hb.1 hc.1 hd.1
      obtain ⟨a1, a2, _⟩ := paint_all (w := s.w) (h := s.h) (fun _ _ _ => v) (drawn s.w s.h (lineM a b c d)) (s.rows, 0) (drawn_nodup hnn (lineM_nodup a b c d)) (fun p hp => by
        have := (drawn_mem (x := p.1) (y := p.2) hnn).mp hp
        exact ⟨this.1, this.2.1⟩) o.fit
      refine ok_rows o a1 fun x y hx hy => ?_
      rw [a2]
      have := o.col x y hx hy
      split
      · exact ⟨hv.1, by omega⟩
      · exact this
theorem step_all {s : Ses} {g : House} (o : SesOk s) (r : Rel s g) {p : Op} (hp : p.ok) : Rel (mStep s p).1 (Sq43Neutral.step g p.raw).1 ∧ (mStep s p).2 = (Sq43Neutral.step g p.raw).2 := by
  cases p with
  | begin w h c => exact step_begin r hp.1 hp.2.1 hp.2.2
  | add l => exact step_add r hp.2
  | clear => exact step_clear r
  | cov x y => exact step_cov r hp.1 hp.2
  | area => exact step_area r
  | total => exact step_total r
  | fill c => exact step_fill o r hp
  | line a b c d v => exact step_line o r hp.1 hp.2.1 hp.2.2.1 hp.2.2.2.1 hp.2.2.2.2
  | row y => exact step_row o r hp
  | rev => exact step_rev r
theorem play_all : ∀ (ops : List Op) {s : Ses} {g : House}, SesOk s → Rel s g → (∀ p ∈ ops, p.ok) → PyFlat.played Sq43Neutral.step g (ops.map Op.raw) = mPlay s ops
  | [], _, _, _, _, _ => rfl
  | p :: ops, s, g, o, r, h => by
    obtain ⟨r2, e⟩ := step_all o r (h p (by simp))
    show (Sq43Neutral.step g p.raw).2 :: _ = (mStep s p).2 :: mPlay (mStep s p).1 ops
    rw [e, play_all ops (step_keeps o (h p (by simp))) r2 (fun q hq => h q (by simp [hq]))]
theorem rel_start : Rel mStart Sq43Neutral.start := by
  refine ⟨rfl, rfl, rfl, fun x y hx hy => ?_, rfl⟩
  have hx' : x < 1 := hx
  have hy' : y < 1 := hy
  have : x = 0 := by omega
  subst this
  have : y = 0 := by omega
  subst this
  rfl
theorem whole_id (c : List (List Int)) : PySq43.whole c = c := by
  unfold PySq43.whole
  split <;> rfl
theorem take3 {r : List Int} (h : ¬ r.length < 3) : ∃ a b c t, r = a :: b :: c :: t := by
  match r, h with
  | a :: b :: c :: t, _ => exact ⟨a, b, c, t, rfl⟩
  | [], h => simp at h
  | [_], h => simp at h
  | [_, _], h => simp at h
theorem take2 {r : List Int} (h : ¬ r.length < 2) : ∃ a b t, r = a :: b :: t := by
  match r, h with
  | a :: b :: t, _ => exact ⟨a, b, t, rfl⟩
  | [], h => simp at h
  | [_], h => simp at h
theorem take1 {r : List Int} (h : ¬ r.length < 1) : ∃ a t, r = a :: t := by
  match r, h with
  | a :: t, _ => exact ⟨a, t, rfl⟩
  | [], h => simp at h
theorem take5 {r : List Int} (h : ¬ r.length < 5) : ∃ a b c d e t, r = a :: b :: c :: d :: e :: t := by
  obtain ⟨a, b, c, t, rfl⟩ := take3 (r := r) (by omega)
  obtain ⟨d, e, u, rfl⟩ := take2 (r := t) (by simp at h; omega)
  exact ⟨a, b, c, d, e, u, rfl⟩
theorem within_u {z : Int} (h : PyInside.within 0 18446744073709551615 z = true) : U64 z := by
  unfold PyInside.within at h
  rw [Bool.and_eq_true] at h
  exact ⟨of_decide_eq_true h.1, of_decide_eq_true h.2⟩
theorem call_read {l : List Int} {c : List (List Int)} {t : List Int} (h : PyFlat.call PySq43.shape l = some (c, t)) (hi : PyInside.call PySq43.bound c = true) : ∃ o : Op, l = o.flat ++ t ∧ c = o.raw ∧ o.ok := by
  match l, h with
  | p :: r, h =>
    dsimp only [PyFlat.call] at h
    by_cases p1 : p = 1
    · subst p1
      rw [show PySq43.shape 1 = some (3, 0) from rfl] at h
      dsimp only at h
      by_cases hl : r.length < 3
      · rw [if_pos hl] at h; cases h
      · rw [if_neg hl] at h
        obtain ⟨a, b, d, u, rfl⟩ := take3 hl
        obtain ⟨rfl, rfl⟩ : [[1, a, b, d]] = c ∧ u = t := by
          have := Option.some.inj h; injection this with e1 e2; exact ⟨e1, e2⟩
        replace hi : (PyInside.within 0 18446744073709551615 a && (PyInside.within 0 18446744073709551615 b && (PyInside.within 0 18446744073709551615 d && true)) && true) = true := hi
        simp only [Bool.and_eq_true] at hi
        exact ⟨.begin a b d, rfl, rfl, within_u hi.1.1, within_u hi.1.2.1, within_u hi.1.2.2.1⟩
    by_cases p2 : p = 2
    · subst p2
      rw [show PySq43.shape 2 = some (0, 1) from rfl] at h
      dsimp only at h
      rw [if_neg (by omega)] at h
      have hd : r.drop 0 = r := rfl
      rw [hd] at h
      match r, h with
      | [], h => cases h
      | m :: s, h =>
        by_cases hm : 0 ≤ m ∧ m.toNat ≤ s.length
        · have e : PyFlat.rows 1 (m :: s) = some ([s.take m.toNat], s.drop m.toNat) := by
            show (match PyFlat.row (m :: s) with | none => none | some (x, s) => match PyFlat.rows 0 s with | none => none | some (xs, t) => some (x :: xs, t)) = _
            have : PyFlat.row (m :: s) = some (s.take m.toNat, s.drop m.toNat) := if_pos hm
            rw [this]
            rfl
          rw [e] at h
          obtain ⟨rfl, rfl⟩ : [[2], s.take m.toNat] = c ∧ s.drop m.toNat = t := by
            have := Option.some.inj h; injection this with e1 e2; exact ⟨e1, e2⟩
          have hlen : (s.take m.toNat).length = m.toNat := by rw [List.length_take]; omega
          replace hi : (true && (decide (0 ≤ (s.take m.toNat).length) && decide ((s.take m.toNat).length ≤ 1024) && (s.take m.toNat).all (PyInside.within 0 18446744073709551615) && true)) = true := hi
          simp only [Bool.and_eq_true] at hi
          refine ⟨.add (s.take m.toNat), ?_, rfl, of_decide_eq_true hi.2.1.1.2, fun z hz => within_u (List.all_eq_true.mp hi.2.1.2 z hz)⟩
          show 2 :: m :: s = 2 :: ((s.take m.toNat).length : Int) :: (s.take m.toNat ++ s.drop m.toNat)
          rw [List.take_append_drop, hlen]
          congr 2
          omega
        · have e : PyFlat.rows 1 (m :: s) = none := by
            show (match PyFlat.row (m :: s) with | none => none | some (x, s) => match PyFlat.rows 0 s with | none => none | some (xs, t) => some (x :: xs, t)) = _
            have : PyFlat.row (m :: s) = none := if_neg hm
            rw [this]
          rw [e] at h
          cases h
    by_cases p3 : p = 3
    · subst p3
      obtain ⟨rfl, rfl⟩ : [[3]] = c ∧ r = t := by
        have := Option.some.inj h; injection this with e1 e2; exact ⟨e1, e2⟩
      exact ⟨.clear, rfl, rfl, trivial⟩
    by_cases p4 : p = 4
    · subst p4
      rw [show PySq43.shape 4 = some (2, 0) from rfl] at h
      dsimp only at h
      by_cases hl : r.length < 2
      · rw [if_pos hl] at h; cases h
      · rw [if_neg hl] at h
        obtain ⟨a, b, u, rfl⟩ := take2 hl
        obtain ⟨rfl, rfl⟩ : [[4, a, b]] = c ∧ u = t := by
          have := Option.some.inj h; injection this with e1 e2; exact ⟨e1, e2⟩
        replace hi : (PyInside.within 0 18446744073709551615 a && (PyInside.within 0 18446744073709551615 b && true) && true) = true := hi
        simp only [Bool.and_eq_true] at hi
        exact ⟨.cov a b, rfl, rfl, within_u hi.1.1, within_u hi.1.2.1⟩
    by_cases p5 : p = 5
    · subst p5
      obtain ⟨rfl, rfl⟩ : [[5]] = c ∧ r = t := by
        have := Option.some.inj h; injection this with e1 e2; exact ⟨e1, e2⟩
      exact ⟨.area, rfl, rfl, trivial⟩
    by_cases p6 : p = 6
    · subst p6
      obtain ⟨rfl, rfl⟩ : [[6]] = c ∧ r = t := by
        have := Option.some.inj h; injection this with e1 e2; exact ⟨e1, e2⟩
      exact ⟨.total, rfl, rfl, trivial⟩
    by_cases p7 : p = 7
    · subst p7
      rw [show PySq43.shape 7 = some (1, 0) from rfl] at h
      dsimp only at h
      by_cases hl : r.length < 1
      · rw [if_pos hl] at h; cases h
      · rw [if_neg hl] at h
        obtain ⟨a, u, rfl⟩ := take1 hl
        obtain ⟨rfl, rfl⟩ : [[7, a]] = c ∧ u = t := by
          have := Option.some.inj h; injection this with e1 e2; exact ⟨e1, e2⟩
        replace hi : (PyInside.within 0 18446744073709551615 a && true && true) = true := hi
        simp only [Bool.and_eq_true] at hi
        exact ⟨.fill a, rfl, rfl, within_u hi.1.1⟩
    by_cases p8 : p = 8
    · subst p8
      rw [show PySq43.shape 8 = some (5, 0) from rfl] at h
      dsimp only at h
      by_cases hl : r.length < 5
      · rw [if_pos hl] at h; cases h
      · rw [if_neg hl] at h
        obtain ⟨a, b, d, e, f, u, rfl⟩ := take5 hl
        obtain ⟨rfl, rfl⟩ : [[8, a, b, d, e, f]] = c ∧ u = t := by
          have := Option.some.inj h; injection this with e1 e2; exact ⟨e1, e2⟩
        replace hi : (PyInside.within 0 18446744073709551615 a && (PyInside.within 0 18446744073709551615 b && (PyInside.within 0 18446744073709551615 d && (PyInside.within 0 18446744073709551615 e && (PyInside.within 0 18446744073709551615 f && true)))) && true) = true := hi
        simp only [Bool.and_eq_true] at hi
        exact ⟨.line a b d e f, rfl, rfl, within_u hi.1.1, within_u hi.1.2.1, within_u hi.1.2.2.1, within_u hi.1.2.2.2.1, within_u hi.1.2.2.2.2.1⟩
    by_cases p9 : p = 9
    · subst p9
      rw [show PySq43.shape 9 = some (1, 0) from rfl] at h
      dsimp only at h
      by_cases hl : r.length < 1
      · rw [if_pos hl] at h; cases h
      · rw [if_neg hl] at h
        obtain ⟨a, u, rfl⟩ := take1 hl
        obtain ⟨rfl, rfl⟩ : [[9, a]] = c ∧ u = t := by
          have := Option.some.inj h; injection this with e1 e2; exact ⟨e1, e2⟩
        replace hi : (PyInside.within 0 18446744073709551615 a && true && true) = true := hi
        simp only [Bool.and_eq_true] at hi
        exact ⟨.row a, rfl, rfl, within_u hi.1.1⟩
    by_cases p10 : p = 10
    · subst p10
      obtain ⟨rfl, rfl⟩ : [[10]] = c ∧ r = t := by
        have := Option.some.inj h; injection this with e1 e2; exact ⟨e1, e2⟩
      exact ⟨.rev, rfl, rfl, trivial⟩
    · have : PySq43.shape p = none := by
        unfold PySq43.shape
        rw [if_neg p1, if_neg p2, if_neg p3, if_neg p4, if_neg p5, if_neg p6, if_neg p7, if_neg p8, if_neg p9, if_neg p10]
      rw [this] at h
      cases h
theorem calls_read : ∀ (f : Nat) (l : List Int) (raw : List (List (List Int))), PyFlat.calls PySq43.shape f l = some raw → PyInside.calls PySq43.bound raw = true →
    ∃ ops : List Op, l = ops.flatMap Op.flat ∧ raw = ops.map Op.raw ∧ ∀ o ∈ ops, o.ok
  | 0, [], raw, h, _ => by cases h; exact ⟨[], rfl, rfl, fun o ho => by cases ho⟩
  | f + 1, [], raw, h, _ => by cases h; exact ⟨[], rfl, rfl, fun o ho => by cases ho⟩
  | 0, p :: r, raw, h, _ => by cases h
  | f + 1, p :: r, raw, h, hi => by
    unfold PyFlat.calls at h
    cases e : PyFlat.call PySq43.shape (p :: r) with
    | none => rw [e] at h; cases h
    | some ct =>
      obtain ⟨c, t⟩ := ct
      rw [e] at h
      dsimp only at h
      cases e2 : PyFlat.calls PySq43.shape f t with
      | none => rw [e2] at h; cases h
      | some cs =>
        rw [e2] at h
        obtain rfl : c :: cs = raw := Option.some.inj h
        unfold PyInside.calls at hi
        rw [List.all_cons, Bool.and_eq_true] at hi
        obtain ⟨o, h1, h2, h3⟩ := call_read e hi.1
        obtain ⟨ops, k1, k2, k3⟩ := calls_read f t cs e2 hi.2
        refine ⟨o :: ops, ?_, ?_, ?_⟩
        · rw [h1, List.flatMap_cons, ← k1]
        · rw [List.map_cons, h2, k2]
        · intro q hq
          rcases List.mem_cons.mp hq with rfl | hq
          · exact h3
          · exact k3 q hq
/-- **what is asked, as operations; what is due, as the session's answers** -/
theorem read_all {l : List Int} (h : PySq43.answers_asked l = true) : ∃ ops : List Op, l = ops.flatMap Op.flat ∧ ops.length ≤ 60 ∧ (∀ o ∈ ops, o.ok) ∧ PySq43.answers l = PyFlat.told (mPlay mStart ops) := by
  unfold PySq43.answers_asked at h
  cases e : PyFlat.calls PySq43.shape l.length l with
  | none => rw [e] at h; cases h
  | some raw =>
    rw [e] at h
    dsimp only at h
    simp only [Bool.and_eq_true] at h
    obtain ⟨ops, h1, h2, h3⟩ := calls_read _ _ _ e h.1.1.2
    refine ⟨ops, h1, ?_, h3, ?_⟩
    · have := of_decide_eq_true h.1.1.1.2
      rw [h2, List.length_map] at this
      exact this
    · unfold PySq43.answers PySq43.calls
      rw [e]
      dsimp only
      have hw : raw.map PySq43.whole = ops.map Op.raw := by
        rw [h2]
        have : PySq43.whole = id := funext whole_id
        rw [this, List.map_id]
      rw [hw, play_all ops ok_start rel_start h3]
end Pc
set_option Elab.async false
set_option maxRecDepth 100000
set_option maxHeartbeats 4000000
namespace Pc
open PySem PySem.Spec PyProof.Rows L2
open Cv (imax imin)
/-! session's helpers -/
structure TxC (mg : Str → Option Value) : Prop where
  oor : ∃ t, mg "OUT_OF_RANGE" = some (.int (-1) t)
  odd : ∃ t, mg "ODD_LENGTH" = some (.int (-3) t)
  many : ∃ t, mg "TOO_MANY_CORNERS" = some (.int (-5) t)
  side : ∃ t, mg "LARGEST_SIDE" = some (.int 16 t)
  colour : ∃ t, mg "LARGEST_COLOUR" = some (.int 255 t)
  coord : ∃ t, mg "LARGEST_COORDINATE" = some (.int 4096 t)
  line : ∃ t, mg "LARGEST_LINE_COORDINATE" = some (.int 1000 t)
  few : ∃ t, mg "FEWEST_CORNERS" = some (.int 3 t)
  most : ∃ t, mg "MOST_CORNERS" = some (.int 60 t)
/-- rows of numbers, each a list of its own -/
def RowsAt (H : Hp) (rs : List Addr) (rows : List (List Int)) : Prop :=
  rs.length = rows.length ∧ ∀ (i : Nat) (r : Addr) (l : List Int), rs[i]? = some r → rows[i]? = some l → H r = some (.lst (l.map V.int))
theorem RowsAt.nil (H : Hp) : RowsAt H [] [] := ⟨rfl, fun i p z h => by simp at h⟩
theorem RowsAt.same {H H' : Hp} {rs : List Addr} {rows : List (List Int)} (x : RowsAt H rs rows) (s : ∀ r ∈ rs, ∀ o, H r = some o → H' r = some o) : RowsAt H' rs rows :=
  ⟨x.1, fun i r l h1 h2 => s r (List.mem_of_getElem? h1) _ (x.2 i r l h1 h2)⟩
theorem RowsAt.snoc {H : Hp} {rs : List Addr} {rows : List (List Int)} {p : Addr} {l : List Int} (x : RowsAt H rs rows) (h : H p = some (.lst (l.map V.int))) : RowsAt H (rs ++ [p]) (rows ++ [l]) := by
  refine ⟨by rw [List.length_append, List.length_append, x.1]; rfl, fun i q y h1 h2 => ?_⟩
  by_cases hi : i < rs.length
  · rw [List.getElem?_append_left hi] at h1
    rw [List.getElem?_append_left (by rw [← x.1]; exact hi)] at h2
    exact x.2 i q y h1 h2
  · rw [List.getElem?_append_right (by omega)] at h1
    rw [List.getElem?_append_right (by have := x.1; omega), ← x.1] at h2
    have e : i - rs.length = 0 := by
      have := (List.getElem?_eq_some_iff.mp h1).1
      simp at this; omega
    rw [e] at h1 h2
    cases h1; cases h2
    exact h
theorem RowsAt.get {H : Hp} {rs : List Addr} {rows : List (List Int)} {y : Nat} (x : RowsAt H rs rows) (hy : y < rows.length) : ∃ r, rs[y]? = some r ∧ H r = some (.lst ((rows.getD y []).map V.int)) := by
  have h1 : y < rs.length := by rw [x.1]; exact hy
  refine ⟨rs[y], List.getElem?_eq_getElem h1, ?_⟩
  have := x.2 y rs[y] rows[y] (List.getElem?_eq_getElem h1) (List.getElem?_eq_getElem hy)
  rw [List.getD_eq_getElem?_getD, List.getElem?_eq_getElem hy]
  exact this
theorem RowsAt.has {H : Hp} {rs : List Addr} {rows : List (List Int)} (x : RowsAt H rs rows) {r : Addr} (h : r ∈ rs) : ∃ l ∈ rows, H r = some (.lst (l.map V.int)) := by
  obtain ⟨i, hi, rfl⟩ := List.getElem_of_mem h
  have h2 : i < rows.length := by rw [← x.1]; exact hi
  exact ⟨rows[i], List.getElem_mem h2, x.2 i _ _ (List.getElem?_eq_getElem hi) (List.getElem?_eq_getElem h2)⟩
/-- a new list of new rows -/
def RetRows (H : Hp) (Q : VK) (rows : List (List Int)) : Prop := ∀ (H' : Hp) (p : Addr) (rs : List Addr), Same H H' → H p = none → H' p = some (.lst (rs.map V.ref)) → RowsAt H' rs rows → rs.Nodup → (∀ r ∈ rs, H r = none) → Q (.ref p) H'
theorem RetRows.at {H H1 : Hp} {Q : VK} {l : List (List Int)} (k : RetRows H Q l) (s : Same H H1) : RetRows H1 Q l := fun H' p rs s' hp e q n f => k H' p rs (s.trans s') (s.free hp) e q n (fun r hr => s.free (f r hr))
section
variable {P : Program} {w : World} {K : PySem.W.Frag} {mg : Str → Option Value} {base : Heap} {C : Addr}
def spIsSide : Sp := fun vs H Q _ => ∃ n : Int, vs = [.int n] ∧ Q (.bl (decide (side n))) H
theorem scIsSide : FnScope ["length"] ["length"] (defScope sIsSide) := ⟨rfl, rfl, rfl, by decide +kernel, rfl, by decide +kernel, by decide +kernel⟩
theorem ok_isSide {f : Addr} {fd : FuncData} (F : Fun K "is_side" "is_side" sIsSide f fd) (T : TxC mg) : FnOk P w K mg base CX0 1 f fd ["length"] spIsSide := by
  obtain ⟨t1, h1⟩ := T.side
  refine F.ok scIsSide (fun vs H Q E h => ?_) (fun cdv A outer s H vs Q E hr h => ?_)
  · obtain ⟨n, rfl, _⟩ := h; rfl
  · obtain ⟨n, rfl, k⟩ := h
    refine ⟨_, pss_one (ps_ret (pe_and (pe_cmpR op_le pe_int (pv 0) (nomark _)) (pe_one (pe_cmpR op_le (pv 0) (pe_gi rfl h1) (nomark _))))), ?_⟩
    refine ⟨_, rfl, _, _, rfl, rfl, _, rfl, ?_⟩
    refine if_both (fun hz => ?_) (fun hz => ?_)
    · refine ⟨_, rfl, _, _, rfl, rfl, ?_⟩
      have e : decide (side n) = decide (n ≤ 16) := by unfold side; simp [hz]
      rw [e] at k
      exact k
    · have e : decide (side n) = false := by unfold side; simp [hz]
      rw [e] at k
      exact k
def spPlain : Sp := fun vs H Q _ => ∃ w h c : Int, vs = [.int w, .int h, .int c] ∧ side w ∧ side h ∧ RetRows H Q (plainM w h c)
theorem scPlain : FnScope ["width", "height", "colour", "y"] ["width", "height", "colour"] (defScope sPlain) := ⟨rfl, rfl, rfl, by decide +kernel, rfl, by decide +kernel, by decide +kernel⟩
theorem rep_map (n : Nat) (c : Int) : (List.replicate n [V.int c]).flatten = (List.replicate n c).map V.int := by
  induction n with
  | zero => rfl
  | succ n ih =>
    rw [List.replicate_succ, List.replicate_succ, List.flatten_cons, ih]
    rfl
theorem ok_plain {f : Addr} {fd : FuncData} (F : Fun K "plain_rows" "plain_rows" sPlain f fd) (O : Own mg) : FnOk P w K mg base CX0 1 f fd ["width", "height", "colour"] spPlain := by
  refine F.ok scPlain (fun vs H Q E h => ?_) (fun cdv A outer s H vs Q E hr h => ?_)
  · obtain ⟨a, b, c, rfl, _⟩ := h; rfl
  · obtain ⟨wd, ht, c, rfl, hw, hh, k⟩ := h
    unfold side at hw hh
    refine ⟨_, pss_one (ps_ret (pe_lc (own := [("y", 3)]) (g := gName 3) (tt := tYes) rfl scPlain.nd (pi_range1 rfl O.range (pa_cons (pv 1) pa_nil))
      (blkOk_by (own := [("y", 3)]) (N := ["width", "height", "colour", "y"]) (sc := defScope sPlain) (by decide +kernel))
      (fun _ _ _ _ _ => pg_name (i := 3) scPlain.nd rfl (Or.inl rfl)) (fun _ _ _ _ _ => pts_nil)
      (fun _ _ _ _ _ => pe_op op_rep (pe_lst (pa_cons (pv 2) pa_nil)) (pv 0)))), ?_⟩
    have hsz : (1000 : Nat) < sizeLine := by decide
    refine ⟨_, rfl, _, rfl, by omega, by omega, fun D hD => ?_⟩
    refine lc_range (lo := 0) (n := ht.toNat)
      (fun i H' => ∃ rs : List Addr, Same H H' ∧ H' D = some (.lst (rs.map V.ref)) ∧ RowsAt H' rs (List.replicate i (List.replicate wd.toNat c)) ∧ rs.Nodup ∧ ∀ r ∈ rs, H r = none)
      ⟨[], same_upd hD, upd_same, RowsAt.nil _, List.nodup_nil, fun r hr => by cases hr⟩ ?_ ?_
    · rintro i H' hi ⟨rs, s1, hDv, hR, hn, hf⟩
      refine ⟨rfl, ?_⟩
      refine ⟨_, rfl, (by show 1 ≤ sizeLine; decide), fun l hl => ?_⟩
      refine ⟨_, rfl, _, _, _, rfl, rfl, upd_same, by omega, by omega, (by show 1 * wd.toNat ≤ sizeLine; omega), fun q hq => ?_⟩
      have hql : q ≠ l := by
        intro e; subst e; rw [upd_same] at hq; cases hq
      have hq' : H' q = none := by rw [upd_ne hql] at hq; exact hq
      have hDl : D ≠ l := ne_of_none hDv hl
      have hDq : D ≠ q := ne_of_none hDv hq'
      have hqr : q ∉ rs := fun hm => by
        obtain ⟨x, _, hx⟩ := hR.has hm
        rw [hx] at hq'; cases hq'
      refine ⟨rs.map V.ref, by rw [upd_ne hDq, upd_ne hDl]; exact hDv, ?_, rs ++ [q], sOld (sNew (sNew s1 hl) hq) hD, ?_, ?_, ?_, ?_⟩
      · have h1 := hR.1
        rw [List.length_replicate] at h1
        rw [List.length_map, h1]; omega
      · rw [upd_same, List.map_append]; rfl
      · rw [List.replicate_succ']
        refine (hR.same fun r hr o ho => ?_).snoc ?_
        · have h3 : r ≠ D := by
            rintro rfl
            exact absurd hD (by rw [hf r hr] at *; intro z; exact absurd (hf r hr) (by
              obtain ⟨x, _, hx⟩ := hR.has hr
              rw [hDv] at hx
              cases rs with
              | nil => cases hr
              | cons a rs =>
                injection hx with hx
                injection hx with hx
                cases x with
                | nil => cases hx
                | cons b x => injection hx with hx _; cases hx))
          rw [upd_ne h3, upd_ne (ne_of_none ho hq'), upd_ne (ne_of_none ho hl)]
          exact ho
        · rw [upd_ne (Ne.symm hDq), upd_same, rep_map]
      · refine List.nodup_append.mpr ⟨hn, by simp, ?_⟩
        intro a ha b hb e
        simp at hb
        subst hb; subst e
        exact hqr ha
      · intro r hr
        rcases List.mem_append.mp hr with h | h
        · exact hf r h
        · rw [List.mem_singleton.mp h]
          exact s1.free hq'
    · rintro H' ⟨rs, s1, hDv, hR, hn, hf⟩
      exact k H' D rs s1 hD hDv hR hn hf
end
end Pc
set_option Elab.async false
set_option maxRecDepth 100000
set_option maxHeartbeats 4000000
namespace Pc
open PySem PySem.Spec PyProof.Rows L2
open Cv (imax imin)
theorem fits {i : Int} (h : -9223372036854775808 ≤ i) (h' : i < 9223372036854775808) : Builtin.Range.rangeFitsLong i = true := by
  unfold Builtin.Range.rangeFitsLong
  have e : (2 : Int) ^ 63 = 9223372036854775808 := by decide
  rw [e, Bool.and_eq_true]
  exact ⟨decide_eq_true h, decide_eq_true h'⟩
theorem rg_two (n : Nat) (hn : n ≤ 2000) (he : n % 2 = 0) : RgC 0 (n : Int) 2 (n / 2) := by
  have e : Builtin.Range.rangeSize 0 (n : Int) 2 = ((n / 2 : Nat) : Int) := by
    unfold Builtin.Range.rangeSize
    rw [if_pos (by decide)]
    split <;> omega
  refine ⟨by decide, by decide, ?_, e⟩
  unfold Builtin.Range.small
  rw [e]
  simp only [fits (i := 0) (by omega) (by omega), fits (i := (n : Int)) (by omega) (by omega), fits (i := 2) (by omega) (by omega), fits (i := ((n / 2 : Nat) : Int)) (by omega) (by omega), fits (i := (n : Int) + (2 - 1)) (by omega) (by omega), Bool.and_true, Bool.true_and, if_pos (show (2 : Int) > 0 by decide), Bool.or_true]
section
variable {P : Program} {w : World} {K : PySem.W.Frag} {mg : Str → Option Value} {base : Heap} {C : Addr}
def spPairs (K : PySem.W.Frag) : Sp := fun vs H Q _ => ∃ (a : Addr) (l : List Int), vs = [.ref a] ∧ SqL K H a (l.map V.int) ∧ l.length ≤ 2000 ∧ l.length % 2 = 0 ∧ RetPts H Q (pairsM l)
theorem scPairs : FnScope ["numbers", "k"] ["numbers"] (defScope sPairs) := ⟨rfl, rfl, rfl, by decide +kernel, rfl, by decide +kernel, by decide +kernel⟩
theorem num_at {l : List Int} {i : Nat} (h : i < l.length) : atI (l.map V.int) ((i : Nat) : Int) = some (.int (l.getD i 0)) := by
  refine atI_nat ?_
  rw [List.getD_eq_getElem?_getD, List.getElem?_map, List.getElem?_eq_getElem h]
  rfl
theorem ok_pairs {f : Addr} {fd : FuncData} (F : Fun K "corner_pairs" "corner_pairs" sPairs f fd) (O : Own mg) : FnOk P w K mg base CX0 1 f fd ["numbers"] (spPairs K) := by
  refine F.ok scPairs (fun vs H Q E h => ?_) (fun cdv A outer s H vs Q E hr h => ?_)
  · obtain ⟨a, l, rfl, _⟩ := h; rfl
  · obtain ⟨a, l, rfl, hS, hlen, hev, k⟩ := h
    refine ⟨_, pss_one (ps_ret (pe_lc (own := [("k", 1)]) (g := gName 1) (tt := tYes) rfl scPairs.nd
      (pi_range3 rfl O.range (pa_cons pe_int (pa_cons (pe_callB call_len_seq (by rfl) O.len PySem.boot_len (pa_cons (pv 0) pa_nil)) (pa_cons pe_int pa_nil))))
      (blkOk_by (own := [("k", 1)]) (N := ["numbers", "k"]) (sc := defScope sPairs) (by decide +kernel))
      (fun _ _ _ _ _ => pg_name (i := 1) scPairs.nd rfl (Or.inl rfl)) (fun _ _ _ _ _ => pts_nil)
      (fun _ _ _ _ _ => pe_tup (pa_cons (pe_ix (r := rIxL K) ix_list (pv 0) (pv 1) (fun _ _ => rfl)) (pa_cons (pe_ix (r := rIxL K) ix_list (pv 0) (pe_op op_add (pv 1) pe_int) (fun _ _ => rfl)) pa_nil))))), ?_⟩
    have hsz : (1001 : Nat) < sizeLine := by decide
    have hml : (l.map V.int).length = l.length := List.length_map _
    refine ⟨_, rfl, a, _, rfl, .inl hS, _, _, _, l.length / 2, rfl, (by rw [hml]; exact rg_two _ hlen hev), fun D hD => ?_⟩
    refine ⟨fun i m H' => m = l.length / 2 - i ∧ i ≤ l.length / 2 ∧ ∃ ps : List Addr, Same H H' ∧ H' D = some (.lst (ps.map V.ref)) ∧ PtsAt H' ps ((List.range i).map (pairAt l)), ⟨_, rfl, Nat.zero_le _, [], same_upd hD, upd_same, PtsAt.nil _⟩, ?_⟩
    rintro i m H' ⟨rfl, hi, ps, s1, hDv, hP⟩
    by_cases hlt : i < l.length / 2
    · refine .inr ⟨hlt, fun H' => i + 1 ≤ l.length / 2 ∧ ∃ ps : List Addr, Same H H' ∧ H' D = some (.lst (ps.map V.ref)) ∧ PtsAt H' ps ((List.range (i + 1)).map (pairAt l)), fun H2 h2 => ⟨l.length / 2 - (i + 1), by omega, rfl, h2⟩, fun x H2 y => ?_⟩
      obtain ⟨rfl, rfl⟩ := y
      refine ⟨rfl, ?_⟩
      have e1 : (0 + ((i : Nat) : Int) * 2) = ((2 * i : Nat) : Int) := by omega
      have e2 : ((2 * i : Nat) : Int) + 1 = ((2 * i + 1 : Nat) : Int) := by omega
      refine ⟨_, rfl, _, rfl, _, _, _, _, rfl, rfl, s1.seq hS, (by rw [e1]; exact num_at (by omega)), ?_⟩
      refine ⟨_, rfl, _, rfl, _, _, rfl, rfl, _, _, _, _, rfl, rfl, s1.seq hS, (by rw [e1, e2]; exact num_at (by omega)), ?_⟩
      refine ⟨(by show 2 ≤ sizeLine; decide), fun q hq => ?_⟩
      have hDq : D ≠ q := ne_of_none hDv hq
      refine ⟨ps.map V.ref, by rw [upd_ne hDq]; exact hDv, ?_, by omega, ps ++ [q], sOld (sNew s1 hq) hD, ?_, ?_⟩
      · have h1 := hP.1
        rw [List.length_map, h1, List.length_map, List.length_range]; omega
      · rw [upd_same, List.map_append]; rfl
      · rw [range_snoc]
        refine (hP.same fun b xs hb => ?_).snoc ?_
        · rw [upd_ne (ne_of hb hDv (by intro z; cases z)), upd_ne (ne_of_none hb hq)]; exact hb
        · rw [upd_ne (Ne.symm hDq), upd_same]; rfl
    · refine .inl ⟨(by show l.length / 2 ≤ i; omega), ?_⟩
      have e : i = l.length / 2 := by omega
      subst e
      exact k H' D ps s1 hD hDv hP
/-! session.filled_colour -/
def spFilled : Sp := fun vs H Q _ => ∃ (o c : Int) (a : Addr) (q : Rat), vs = [.int o, .int c, .ref a] ∧ H a = some (.tup [.int q.num, .int (q.den : Int)]) ∧ q.den ≤ 2 ^ 7000 ∧ o.natAbs ≤ 1000 ∧ c.natAbs ≤ 1000 ∧ Q (.int (fillM o c q)) H
theorem scFilled : FnScope ["old", "colour", "coverage", "denominator", "share"] ["old", "colour", "coverage"] (defScope sFilled) := ⟨rfl, rfl, rfl, by decide +kernel, rfl, by decide +kernel, by decide +kernel⟩
theorem ok_filled {f f1 : Addr} {fd fd1 : FuncData} (F : Fun K "filled_colour" "filled_colour" sFilled f fd) (O : Own mg) (G : FnOk P w K mg base CX0 1 f1 fd1 ["numerator", "denominator"] spNear) (D1 : Df K mg "nearest" f1 fd1 ["numerator", "denominator"]) :
    FnOk P w K mg base CX0 2 f fd ["old", "colour", "coverage"] spFilled := by
  refine F.ok scFilled (fun vs H Q E h => ?_) (fun cdv A outer s H vs Q E hr h => ?_)
  · obtain ⟨o, c, a, q, rfl, _⟩ := h; rfl
  · obtain ⟨o, c, a, q, rfl, hA, hden, ho, hc, k⟩ := h
    refine ⟨_, pss_cons (ps_set (i := 3) scFilled.nd rfl (Or.inl rfl) (pe_ix (r := rIxT K) ix_tup (pv 2) pe_int (fun _ _ => rfl)))
      (pss_cons (ps_set (i := 4) scFilled.nd rfl (Or.inl rfl) (pe_callB (call_min2 rfl) (by rfl) O.min (by decide +kernel) (pa_cons (pe_callB call_abs (by rfl) O.abs (by decide +kernel) (pa_cons (pe_ix (r := rIxT K) ix_tup (pv 2) pe_int (fun _ _ => rfl)) pa_nil)) (pa_cons (pv 3) pa_nil))))
      (pss_one (ps_ret (pe_call G hr rfl D1.mg D1.kp D1.bn .nil pass0 (pa_cons (pe_op op_add (pe_op op_mul (pv 0) (pv 3)) (pe_op op_mul (pe_op op_sub (pv 1) (pv 0)) (pv 4))) (pa_cons (pv 3) pa_nil)))))), ?_⟩
    have hd : (0 : Int) < (q.den : Nat) := by have := q.den_nz; omega
    refine ⟨_, rfl, _, _, _, _, rfl, rfl, SqT.of hA, rfl, ?_⟩
    refine ⟨_, rfl, _, _, _, _, rfl, rfl, SqT.of hA, rfl, _, rfl, _, rfl, _, _, rfl, ?_⟩
    rw [abs_eq]
    refine ⟨_, rfl, _, rfl, _, _, rfl, rfl, .inl ⟨by omega, by omega⟩, _, rfl, _, rfl, _, _, rfl, rfl, _, rfl, _, _, rfl, rfl, .inl ⟨by omega, by omega⟩, _, _, rfl, rfl, _, rfl, _, _, rfl, hd, ?_, k⟩
    rw [Int.natAbs_natCast]
    exact pow_lt_of hden (by decide)
end
end Pc
set_option Elab.async false
set_option maxRecDepth 100000
set_option maxHeartbeats 4000000
namespace Pc
open PySem PySem.Spec PyProof.Rows L2
open Cv (imax imin)
/-! the class Session -/
structure TxS (K : PySem.W.Frag) (mg : Str → Option Value) (C : Addr) : Prop where
  cl : Cls K C
  nR : NoAttr K C "rows"
  nC : NoAttr K C "contours"
  mgC : mg "Session" = some (.ref C)
def sesF (R Ct : Addr) : List (Str × V) := [("rows", .ref R), ("contours", .ref Ct)]
theorem sesF_r (R Ct : Addr) : (sesF R Ct).lookup ("rows" : Str) = some (.ref R) := lk_here
theorem sesF_c (R Ct : Addr) : (sesF R Ct).lookup ("contours" : Str) = some (.ref Ct) := (lk_past (by decide +kernel)).trans lk_here
theorem sesF_len (R Ct : Addr) : (sesF R Ct).length < 1000 := by show 2 < 1000; decide
theorem sesF_putR (R Ct R' : Addr) : putF "rows" (.ref R') (sesF R Ct) = sesF R' Ct := put_here
theorem sesF_putC (R Ct Ct' : Addr) : putF "contours" (.ref Ct') (sesF R Ct) = sesF R Ct' := (put_past (by decide +kernel)).trans (congrArg _ put_here)
structure Ses0 (C : Addr) (H : Hp) (a dx R Ct : Addr) (rs as : List Addr) (s : Ses) : Prop where
  ins : H a = some (.ins C dx (sesF R Ct))
  rl : H R = some (.lst (rs.map V.ref))
  ctl : H Ct = some (.lst (as.map V.ref))
  rows : RowsAt H rs s.rows
  cs : CtrsAt H as s.cs
  nd : rs.Nodup
  ne : R ≠ Ct
  out : Ct ∉ as
theorem Ses0.same {C : Addr} {H H' : Hp} {a dx R Ct : Addr} {rs as : List Addr} {s : Ses} (x : Ses0 C H a dx R Ct rs as s) (k : Same H H') : Ses0 C H' a dx R Ct rs as s :=
  ⟨k _ _ x.ins, k _ _ x.rl, k _ _ x.ctl, x.rows.same (fun r _ o e => k r o e), x.cs.same (sTup k) (fun a _ o e => k a o e), x.nd, x.ne, x.out⟩
/-- a session at a, and where it may be changed: fp -/
def SessAt (C : Addr) (H : Hp) (a : Addr) (fp : List Addr) (s : Ses) : Prop := ∃ dx R Ct rs as, fp = a :: Ct :: rs ∧ Ses0 C H a dx R Ct rs as s
theorem SessAt.same {C : Addr} {H H' : Hp} {a : Addr} {fp : List Addr} {s : Ses} (x : SessAt C H a fp s) (k : Same H H') : SessAt C H' a fp s := by
  obtain ⟨dx, R, Ct, rs, as, e, z⟩ := x
  exact ⟨dx, R, Ct, rs, as, e, z.same k⟩
/-- what a change of a session leaves as it was -/
structure Keep (H H' : Hp) (fp fp' : List Addr) : Prop where
  old : ∀ b o, H b = some o → b ∉ fp → H' b = some o
  new : ∀ b, b ∈ fp' → b ∈ fp ∨ H b = none
  has : ∀ b o, H b = some o → H' b ≠ none
theorem Keep.of_same {H H' : Hp} (s : Same H H') (fp : List Addr) : Keep H H' fp fp := ⟨fun b o e _ => s b o e, fun b h => .inl h, fun b o e z => by rw [s b o e] at z; cases z⟩
theorem Keep.trans {H H' H2 : Hp} {fp fp' fp2 : List Addr} (x : Keep H H' fp fp') (y : Keep H' H2 fp' fp2) : Keep H H2 fp fp2 := by
  refine ⟨fun b o e hb => ?_, fun b h => ?_, fun b o e => ?_⟩
  · refine y.old b o (x.old b o e hb) fun h => ?_
    rcases x.new b h with h | h
    · exact hb h
    · rw [e] at h; cases h
  · rcases y.new b h with h | h
    · exact x.new b h
    · refine .inr ?_
      cases e : H b with
      | none => rfl
      | some o => exact absurd h (x.has b o e)
  · cases e2 : H' b with
    | none => exact absurd e2 (x.has b o e)
    | some o2 => exact y.has b o2 e2
theorem Keep.same {H H' H2 : Hp} {fp fp' : List Addr} (x : Keep H H' fp fp') (y : Same H' H2) : Keep H H2 fp fp' := x.trans (Keep.of_same y fp')
theorem Keep.free {H H' : Hp} {fp fp' : List Addr} (x : Keep H H' fp fp') {p : Addr} (h : H' p = none) : H p = none := by
  cases e : H p with
  | none => rfl
  | some o => exact absurd h (x.has p o e)
/-- the answer: a new list of numbers, and the session as the step leaves it -/
def RetAns (C : Addr) (H : Hp) (Q : VK) (a : Addr) (fp : List Addr) (r : Ses × List Int) : Prop :=
  ∀ (H' : Hp) (p : Addr) (fp' : List Addr), SessAt C H' a fp' r.1 → Keep H H' fp fp' → H p = none → H' p = some (.lst (r.2.map V.int)) → Q (.ref p) H'
theorem ints_refs {l : List Int} {as : List Addr} (h : l.map V.int = as.map V.ref) : l = [] ∧ as = [] := by
  cases l with
  | nil => cases as with
    | nil => exact ⟨rfl, rfl⟩
    | cons a as => cases h
  | cons b l => cases as with
    | nil => cases h
    | cons a as => injection h with h _; cases h
theorem row_full {s : Ses} (o : SesOk s) {l : List Int} (h : l ∈ s.rows) : l ≠ [] := by
  intro e
  obtain ⟨y, hy, rfl⟩ := List.getElem_of_mem h
  have h1 := o.fit.wide y hy
  rw [List.getD_eq_getElem?_getD, List.getElem?_eq_getElem hy] at h1
  have h2 : (s.rows[y]).length = s.w := h1
  have h3 := o.w1
  rw [e] at h2
  have h4 : 0 = s.w := h2
  omega
section
variable {P : Program} {w : World} {K : PySem.W.Frag} {mg : Str → Option Value} {base : Heap} {C : Addr}
def spHas (C : Addr) : Sp := fun vs H Q _ => ∃ (a : Addr) (x y : Int) (fp : List Addr) (s : Ses), vs = [.ref a, .int x, .int y] ∧ SessAt C H a fp s ∧ 1 ≤ s.h ∧ Q (.bl (decide (y < (s.h : Int) ∧ x < (s.w : Int)))) H
theorem scHas : FnScope ["self", "x", "y"] ["self", "x", "y"] (defScope sHas) := ⟨rfl, rfl, rfl, by decide +kernel, rfl, by decide +kernel, by decide +kernel⟩
theorem ok_has {f : Addr} {fd : FuncData} (F : Fun K "has_pixel" "Session.has_pixel" sHas f fd) (O : Own mg) (T : TxS K mg C) : FnOk P w K mg base CX0 1 f fd ["self", "x", "y"] (spHas C) := by
  refine F.ok scHas (fun vs H Q E h => ?_) (fun cdv A outer s H vs Q E hr h => ?_)
  · obtain ⟨a, x, y, fp, s, rfl, _⟩ := h; rfl
  · obtain ⟨a, x, y, fp, s, rfl, ⟨dx, R, Ct, rs, as, _, z⟩, h1, k⟩ := h
    refine ⟨_, pss_one (ps_ret (pe_and (pe_cmpR op_lt (pv 2) (pe_callB call_len_seq (by rfl) O.len PySem.boot_len (pa_cons (pe_fld (pv 0) rfl) pa_nil)) (nomark _))
      (pe_one (pe_cmpR op_lt (pv 1) (pe_callB call_len_seq (by rfl) O.len PySem.boot_len (pa_cons (pe_ix (r := rIxL K) ix_list (pe_fld (pv 0) rfl) pe_int (fun _ _ => rfl)) pa_nil)) (nomark _))))), ?_⟩
    have hl : (rs.map V.ref).length = s.h := by rw [List.length_map]; exact z.rows.1
    refine ⟨_, rfl, _, rfl, a, C, dx, _, _, rfl, z.ins, T.cl, T.nR, sesF_r _ _, R, _, rfl, .inl (SqL.of z.rl), _, _, rfl, rfl, _, rfl, ?_⟩
    rw [hl]
    refine if_both (fun hz => ?_) (fun hz => ?_)
    · obtain ⟨r, hr0, hrow⟩ := z.rows.get (y := 0) h1
      refine ⟨_, rfl, _, rfl, a, C, dx, _, _, rfl, z.ins, T.cl, T.nR, sesF_r _ _, R, _, _, _, rfl, rfl, SqL.of z.rl, atI_nat (j := 0) (at_map hr0), r, _, rfl, .inl (SqL.of hrow), _, _, rfl, rfl, ?_⟩
      have e : decide (y < (s.h : Int) ∧ x < (s.w : Int)) = decide (x < (((s.rows.getD 0 []).map V.int).length : Int)) := by
        rw [List.length_map]
        have : s.w = (s.rows.getD 0 []).length := rfl
        rw [this]
        simp [hz]
      rw [e] at k
      exact k
    · have e : decide (y < (s.h : Int) ∧ x < (s.w : Int)) = false := by simp [hz]
      rw [e] at k
      exact k
def spPaint (C : Addr) : Sp := fun vs H Q _ => ∃ (a dx R Ct : Addr) (rs as : List Addr) (s : Ses) (x y : Nat) (c : Int), vs = [.ref a, .int (x : Int), .int (y : Int), .int c] ∧ Ses0 C H a dx R Ct rs as s ∧
  Fit s.rows s.w s.h ∧ x < s.w ∧ y < s.h ∧
  ∀ H' : Hp, Ses0 C H' a dx R Ct rs as ⟨(paintM (s.rows, 0) x y c).1, s.cs⟩ → (∀ b o, H b = some o → b ∉ rs → H' b = some o) → Q (.int (paintM (s.rows, 0) x y c).2) H'
theorem scPaint : FnScope ["self", "x", "y", "colour"] ["self", "x", "y", "colour"] (defScope sPaint) := ⟨rfl, rfl, rfl, by decide +kernel, rfl, by decide +kernel, by decide +kernel⟩
theorem place_nat {n i : Nat} (h : i < n) : ixN n ((i : Nat) : Int) = some i := by
  unfold ixN
  rw [if_pos (by omega), if_pos (by omega)]
  congr 1
theorem ok_paint {f : Addr} {fd : FuncData} (F : Fun K "paint" "Session.paint" sPaint f fd) (T : TxS K mg C) : FnOk P w K mg base CX0 1 f fd ["self", "x", "y", "colour"] (spPaint C) := by
  refine F.ok scPaint (fun vs H Q E h => ?_) (fun cdv A outer s H vs Q E hr h => ?_)
  · obtain ⟨a, dx, R, Ct, rs, as, s, x, y, c, rfl, _⟩ := h; rfl
  · obtain ⟨a, dx, R, Ct, rs, as, s, x, y, c, rfl, z, hfit, hx, hy, k⟩ := h
    refine ⟨_, pss_cons (ps_if (pt_cmpR op_eq (pe_ix (r := rIxL K) ix_list (pe_ix (r := rIxL K) ix_list (pe_fld (pv 0) rfl) (pv 2) (fun _ _ => rfl)) (pv 1) (fun _ _ => rfl)) (pv 3) (nomark _)) (pss_one (ps_ret pe_int)) pss_nil)
      (pss_cons (ps_asg (pv 3) (pg_sub (pe_ix (r := rIxL K) ix_list (pe_fld (pv 0) rfl) (pv 2) (fun _ _ => rfl)) (pv 1) set_list))
      (pss_one (ps_ret pe_int))), ?_⟩
    obtain ⟨r, hr0, hrow⟩ := z.rows.get (y := y) hy
    have hwd := hfit.wide y hy
    have hcell : atI ((s.rows.getD y []).map V.int) ((x : Nat) : Int) = some (.int (cellM s.rows x y)) := num_at (by rw [hwd]; exact hx)
    refine ⟨_, rfl, a, C, dx, _, _, rfl, z.ins, T.cl, T.nR, sesF_r _ _, _, rfl, R, _, _, _, rfl, rfl, SqL.of z.rl, atI_nat (at_map hr0), _, rfl, r, _, _, _, rfl, rfl, SqL.of hrow, hcell, _, rfl, rfl, _, rfl, ?_⟩
    rw [dint]
    refine if_both (fun hz => ?_) (fun hz => ?_)
    · have e : paintM (s.rows, 0) x y c = (s.rows, 0) := if_pos hz
      rw [e] at k
      exact k H z (fun b o h _ => h)
    · have e : paintM (s.rows, 0) x y c = (setM s.rows x y c, 1) := if_neg hz
      rw [e] at k
      refine ⟨_, rfl, _, rfl, a, C, dx, _, _, rfl, z.ins, T.cl, T.nR, sesF_r _ _, _, rfl, R, _, _, _, rfl, rfl, SqL.of z.rl, atI_nat (at_map hr0), ?_⟩
      refine ⟨_, rfl, r, _, _, x, rfl, rfl, hrow, place_nat (by rw [List.length_map, hwd]; exact hx), ?_⟩
      have hrm : r ∈ rs := List.mem_of_getElem? hr0
      have hne : ∀ (b : Addr) (xs : List Addr), H b = some (.lst (xs.map V.ref)) → b ≠ r := by
        rintro b xs hb rfl
        rw [hrow] at hb
        injection hb with hb
        injection hb with hb
        have := (ints_refs hb).1
        have h2 : (s.rows.getD y []).length = 0 := by rw [this]; rfl
        omega
      have hra : a ≠ r := ne_of z.ins hrow (by intro q; cases q)
      refine k _ ⟨?_, ?_, ?_, ?_, ?_, z.nd, z.ne, z.out⟩ ?_
      · rw [upd_ne hra]; exact z.ins
      · rw [upd_ne (hne _ _ z.rl)]; exact z.rl
      · rw [upd_ne (hne _ _ z.ctl)]; exact z.ctl
      · refine ⟨by show rs.length = (setM s.rows x y c).length; unfold setM; rw [List.length_set]; exact z.rows.1, fun i q l h1 h2 => ?_⟩
        have hi : i < rs.length := (List.getElem?_eq_some_iff.mp h1).1
        have hy' : y < rs.length := (List.getElem?_eq_some_iff.mp hr0).1
        replace h2 : (s.rows.set y ((s.rows.getD y []).set x c))[i]? = some l := h2
        by_cases e : i = y
        · subst e
          rw [hr0] at h1
          cases h1
          rw [List.getElem?_set_self hy] at h2
          cases h2
          rw [upd_same, List.map_set]
        · have hq : q ≠ r := by
            rintro rfl
            exact e ((List.getElem?_inj hi z.nd).mp (h1.trans hr0.symm))
          rw [upd_ne hq]
          rw [List.getElem?_set_ne (Ne.symm e)] at h2
          exact z.rows.2 i q l h1 h2
      · refine z.cs.same (fun b xs hb => ?_) (fun b hb o ho => ?_)
        · rw [upd_ne (ne_of hb hrow (by intro q; cases q))]; exact hb
        · obtain ⟨i, hi, rfl⟩ := List.getElem_of_mem hb
          obtain ⟨_, _, ps, hps, _⟩ := z.cs.get (List.getElem?_eq_getElem hi)
          rw [upd_ne (hne _ _ hps)]; exact ho
      · intro b o hb hbr
        rw [upd_ne (fun e => hbr (by rw [e]; exact hrm))]; exact hb
end
end Pc
set_option Elab.async false
set_option maxRecDepth 100000
set_option maxHeartbeats 4000000
namespace Pc
open PySem PySem.Spec PyProof.Rows L2
open Cv (imax imin)
def rLn (K : PySem.W.Frag) : List V → Hp → VK → Prop := fun xs H Q => ∃ p ys, xs = [.ref p] ∧ (SqL K H p ys ∨ SqT K H p ys) ∧ Q (.int ys.length) H
theorem pe_backs (K : PySem.W.Frag) {X : Cx} {e : Expr} {te : TE} {p p2 pos pos2 : Pos} (hK : X.K = K) (hc : X.calm = true) (hg : Gl X "list") (hm : X.mg "list" = none) (hg2 : Gl X "reversed") (hm2 : X.mg "reversed" = none) (he : PE X e te)
    (hs : starEach [e] X.env = (false, eval e X.env) :: starEach [] X.env := by rfl)
    (hs2 : starEach [.Call (.Name "reversed" p2) [e] [] pos2] X.env = (false, eval (.Call (.Name "reversed" p2) [e] [] pos2) X.env) :: starEach [] X.env := by rfl) :
    PE X (.Call (.Name "list" p) [.Call (.Name "reversed" p2) [e] [] pos2] [] pos) (tListRev K te) := by
  subst hK
  exact pe_listRev hc hg hm hg2 hm2 he hs hs2
theorem if_nb {p : Prop} [Decidable p] {A B : Prop} (h1 : ¬ p → A) (h2 : p → B) : if (!decide p) = true then A else B := by
  by_cases h : p
  · rw [if_neg (by simp [h])]; exact h2 h
  · rw [if_pos (by simp [h])]; exact h1 h
theorem RetAns.one {C : Addr} {H H1 : Hp} {Q : VK} {a p : Addr} {fp : List Addr} {s : Ses} {ans : List Int} {xs : List V} (k : RetAns C H Q a fp (s, ans)) (z : SessAt C H a fp s) (s1 : Same H H1) (hp : H1 p = none) (e : xs = ans.map V.int) : Q (.ref p) (upd H1 p (.lst xs)) := by
  subst e
  exact k _ p fp (z.same (sNew s1 hp)) (Keep.of_same (sNew s1 hp) fp) (s1.free hp) upd_same
theorem Ses0.insNe {C : Addr} {H : Hp} {a dx R Ct : Addr} {rs as : List Addr} {s : Ses} (z : Ses0 C H a dx R Ct rs as s) {b : Addr} {xs : List V} (h : H b = some (.lst xs)) : b ≠ a := ne_of h z.ins (by intro q; cases q)
theorem Ses0.insNeT {C : Addr} {H : Hp} {a dx R Ct : Addr} {rs as : List Addr} {s : Ses} (z : Ses0 C H a dx R Ct rs as s) {b : Addr} {xs : List V} (h : H b = some (.tup xs)) : b ≠ a := ne_of h z.ins (by intro q; cases q)
theorem CtrsAt.lists {H : Hp} {as : List Addr} {cs : List (List (Int × Int))} (x : CtrsAt H as cs) {b : Addr} (h : b ∈ as) : ∃ ps : List Addr, H b = some (.lst (ps.map V.ref)) := by
  obtain ⟨i, hi, rfl⟩ := List.getElem_of_mem h
  obtain ⟨_, _, ps, hps, _⟩ := x.get (List.getElem?_eq_getElem hi)
  exact ⟨ps, hps⟩
theorem Ses0.putC {C : Addr} {H : Hp} {a dx R Ct l : Addr} {rs as as' : List Addr} {s : Ses} {cs' : List (List (Int × Int))} (z : Ses0 C H a dx R Ct rs as s) (hl : H l = some (.lst (as'.map V.ref))) (hcs : CtrsAt H as' cs') (hR : R ≠ l) (ho : l ∉ as') :
    Ses0 C (upd H a (.ins C dx (putF "contours" (.ref l) (sesF R Ct)))) a dx R l rs as' ⟨s.rows, cs'⟩ := by
  refine ⟨?_, ?_, ?_, ?_, ?_, z.nd, hR, ho⟩
  · rw [upd_same, sesF_putC]
  · rw [upd_ne (z.insNe z.rl)]; exact z.rl
  · rw [upd_ne (z.insNe hl)]; exact hl
  · refine z.rows.same fun r hr o e => ?_
    obtain ⟨_, _, h⟩ := z.rows.has hr
    rw [upd_ne (z.insNe h)]; exact e
  · refine hcs.same (fun b xs hb => by rw [upd_ne (z.insNeT hb)]; exact hb) fun b hb o e => ?_
    obtain ⟨_, h⟩ := hcs.lists hb
    rw [upd_ne (z.insNe h)]; exact e
theorem Ses0.putR {C : Addr} {H : Hp} {a dx R Ct l : Addr} {rs as rs' : List Addr} {s : Ses} {rows' : List (List Int)} (z : Ses0 C H a dx R Ct rs as s) (hl : H l = some (.lst (rs'.map V.ref))) (hr : RowsAt H rs' rows') (hn : rs'.Nodup) (hR : l ≠ Ct) :
    Ses0 C (upd H a (.ins C dx (putF "rows" (.ref l) (sesF R Ct)))) a dx l Ct rs' as ⟨rows', s.cs⟩ := by
  refine ⟨?_, ?_, ?_, ?_, ?_, hn, hR, z.out⟩
  · rw [upd_same, sesF_putR]
  · rw [upd_ne (z.insNe hl)]; exact hl
  · rw [upd_ne (z.insNe z.ctl)]; exact z.ctl
  · refine hr.same fun r hr' o e => ?_
    obtain ⟨_, _, h⟩ := hr.has hr'
    rw [upd_ne (z.insNe h)]; exact e
  · refine z.cs.same (fun b xs hb => by rw [upd_ne (z.insNeT hb)]; exact hb) fun b hb o e => ?_
    obtain ⟨_, h⟩ := z.cs.lists hb
    rw [upd_ne (z.insNe h)]; exact e
theorem Keep.put {H H1 : Hp} {fp fp' : List Addr} {a : Addr} {o : HO} (s : Same H H1) (ha : a ∈ fp) (hn : ∀ b, b ∈ fp' → b ∈ fp ∨ H b = none) : Keep H (upd H1 a o) fp fp' := by
  refine ⟨fun b o' e hb => ?_, hn, fun b o' e z => ?_⟩
  · rw [upd_ne (fun q => hb (by rw [q]; exact ha))]; exact s _ _ e
  · by_cases q : b = a
    · subst q; rw [upd_same] at z; cases z
    · rw [upd_ne q, s _ _ e] at z; cases z
/-- a contour more -/
theorem Ses0.more {C : Addr} {H : Hp} {a dx R Ct D : Addr} {rs as ps : List Addr} {s : Ses} {c : List (Int × Int)} (o : SesOk s) (z : Ses0 C H a dx R Ct rs as s) (hD : H D = some (.lst (ps.map V.ref))) (hP : PtsAt H ps c) (hne : D ≠ Ct) :
    Ses0 C (upd H Ct (.lst (as.map V.ref ++ [.ref D]))) a dx R Ct rs (as ++ [D]) ⟨s.rows, s.cs ++ [c]⟩ := by
  have tup : ∀ b xs, H b = some (.tup xs) → upd H Ct (.lst (as.map V.ref ++ [.ref D])) b = some (.tup xs) := fun b xs hb => by
    rw [upd_ne (ne_of hb z.ctl (by intro q; cases q))]; exact hb
  refine ⟨?_, ?_, ?_, ?_, ?_, z.nd, z.ne, ?_⟩
  · rw [upd_ne (Ne.symm (z.insNe z.ctl))]; exact z.ins
  · rw [upd_ne z.ne]; exact z.rl
  · rw [upd_same, List.map_append]; rfl
  · refine z.rows.same fun r hr o' e => ?_
    obtain ⟨l, hl, h⟩ := z.rows.has hr
    have : r ≠ Ct := by
      rintro rfl
      rw [z.ctl] at h
      injection h with h
      injection h with h
      exact row_full o hl (ints_refs h.symm).1
    rw [upd_ne this]; exact e
  · refine (z.cs.same tup fun b hb o' e => ?_).snoc ⟨ps, ?_, hP.same tup⟩
    · rw [upd_ne (fun q => z.out (by rw [← q]; exact hb))]; exact e
    · rw [upd_ne hne]; exact hD
  · intro hm
    rcases List.mem_append.mp hm with h | h
    · exact z.out h
    · exact hne (List.mem_singleton.mp h).symm
section
variable {P : Program} {w : World} {K : PySem.W.Frag} {mg : Str → Option Value} {base : Heap} {C : Addr}
def spCount (C : Addr) : Sp := fun vs H Q _ => ∃ (a : Addr) (fp : List Addr) (s : Ses), vs = [.ref a] ∧ SessAt C H a fp s ∧ s.cs.length ≤ 1000 ∧ ∀ H', Same H H' → Q (.int (corners s.cs : Nat)) H'
theorem scCount : FnScope ["self", "contour"] ["self"] (defScope sCount) := ⟨rfl, rfl, rfl, by decide +kernel, rfl, by decide +kernel, by decide +kernel⟩
theorem sum_lens (cs : List (List (Int × Int))) : (cs.map fun c => ((c.length : Nat) : Int)).sum = ((corners cs : Nat) : Int) := by
  induction cs with
  | nil => rfl
  | cons c cs ih =>
    have e : corners (c :: cs) = c.length + corners cs := by unfold corners; rw [List.map_cons, List.sum_cons]
    rw [List.map_cons, List.sum_cons, ih, e]; omega
theorem ok_count {f : Addr} {fd : FuncData} (F : Fun K "corner_count" "Session.corner_count" sCount f fd) (O : Own mg) (T : TxS K mg C) : FnOk P w K mg base CX0 1 f fd ["self"] (spCount C) := by
  refine F.ok scCount (fun vs H Q E h => ?_) (fun cdv A outer s H vs Q E hr h => ?_)
  · obtain ⟨a, fp, s, rfl, _⟩ := h; rfl
  · obtain ⟨a, fp, s, rfl, ⟨dx, R, Ct, rs, as, _, z⟩, hlen, k⟩ := h
    refine ⟨_, pss_one (ps_ret (pe_callB (cr_sum rfl) (by rfl) O.sum (by decide +kernel) (pa_cons
      (pe_lc (own := [("contour", 1)]) (g := gName 1) (tt := tYes) rfl scCount.nd (pi_list (pe_fld (pv 0) rfl))
        (blkOk_by (own := [("contour", 1)]) (N := ["self", "contour"]) (sc := defScope sCount) (by decide +kernel))
        (fun _ _ _ _ _ => pg_name (i := 1) scCount.nd rfl (Or.inl rfl)) (fun _ _ _ _ _ => pts_nil)
        (fun _ _ _ _ _ => pe_callB (r := rLn K) call_len_seq (by rfl) O.len PySem.boot_len (pa_cons (pv 1) pa_nil))) pa_nil))), ?_⟩
    have hsz : (1000 : Nat) < sizeLine := by decide
    refine ⟨_, rfl, a, C, dx, _, _, rfl, z.ins, T.cl, T.nC, sesF_c _ _, Ct, rfl, ⟨_, SqL.of z.ctl⟩, fun D hD => ?_⟩
    refine lc_list (K := K) (a := Ct) (xs := as.map V.ref)
      (fun i H' => Same H H' ∧ H' D = some (.lst (((s.cs.take i).map fun c => ((c.length : Nat) : Int)).map V.int))) ⟨same_upd hD, upd_same⟩ (fun i H' _ ⟨s1, _⟩ => SqL.of (s1 _ _ z.ctl)) ?_ ?_
    · rintro i y H' hi ⟨s1, hDv⟩
      obtain ⟨e, he, rfl⟩ := map_at hi
      obtain ⟨c, hc, ps, hps, hP⟩ := z.cs.get he
      refine ⟨rfl, ?_⟩
      refine ⟨_, rfl, e, _, rfl, .inl (SqL.of (s1 _ _ hps)), ?_⟩
      refine ⟨_, hDv, ?_, sOld s1 hD, ?_⟩
      · have : i < s.cs.length := (List.getElem?_eq_some_iff.mp hc).1
        rw [List.length_map, List.length_map, List.length_take]; omega
      · rw [upd_same, take_more hc, List.map_append, List.map_append]
        have : (ps.map V.ref).length = c.length := by rw [List.length_map]; exact hP.1
        rw [this]
        rfl
    · rintro H' ⟨s1, hDv⟩
      rw [List.length_map, z.cs.1, List.take_length] at hDv
      refine ⟨D, _, rfl, SqL.of hDv, ?_⟩
      rw [sum_lens]
      exact k H' s1
def spClear (C : Addr) : Sp := fun vs H Q _ => ∃ (a : Addr) (fp : List Addr) (s : Ses), vs = [.ref a] ∧ SessAt C H a fp s ∧ RetAns C H Q a fp (mClear s)
theorem scClear : FnScope ["self"] ["self"] (defScope sClear) := ⟨rfl, rfl, rfl, by decide +kernel, rfl, by decide +kernel, by decide +kernel⟩
theorem ok_clear {f : Addr} {fd : FuncData} (F : Fun K "clear_contours" "Session.clear_contours" sClear f fd) (T : TxS K mg C) : FnOk P w K mg base CX0 1 f fd ["self"] (spClear C) := by
  refine F.ok scClear (fun vs H Q E h => ?_) (fun cdv A outer s H vs Q E hr h => ?_)
  · obtain ⟨a, fp, s, rfl, _⟩ := h; rfl
  · obtain ⟨a, fp, s, rfl, ⟨dx, R, Ct, rs, as, rfl, z⟩, k⟩ := h
    refine ⟨_, pss_cons (ps_fld (pv 0) (pe_lst pa_nil) rfl) (pss_one (ps_ret (pe_lst (pa_cons pe_int pa_nil)))), ?_⟩
    refine ⟨Nat.zero_le _, fun l hl => ?_⟩
    have s1 : Same H (upd H l (.lst [])) := same_upd hl
    have z1 := z.same s1
    have z2 := z1.putC (l := l) (as' := []) (cs' := []) upd_same (CtrsAt.nil _) (ne_of_none z.rl hl) (by simp)
    refine ⟨_, rfl, a, C, dx, _, rfl, z1.ins, T.cl, T.nC, sesF_len _ _, ?_⟩
    refine ⟨(by show 1 ≤ sizeLine; decide), fun p hp => ?_⟩
    have kp : Keep H (upd (upd H l (.lst [])) a (.ins C dx (putF "contours" (.ref l) (sesF R Ct)))) (a :: Ct :: rs) (a :: l :: rs) :=
      Keep.put s1 (by simp) fun b hb => by
        rcases List.mem_cons.mp hb with h | h
        · exact .inl (by simp [h])
        · rcases List.mem_cons.mp h with h | h
          · exact .inr (by rw [h]; exact hl)
          · exact .inl (by simp [h])
    exact k _ p (a :: l :: rs) ⟨dx, R, l, rs, [], rfl, z2.same (same_upd hp)⟩ (kp.same (same_upd hp)) (kp.free hp) upd_same
def spRow (C : Addr) : Sp := fun vs H Q _ => ∃ (a : Addr) (y : Int) (fp : List Addr) (s : Ses), vs = [.ref a, .int y] ∧ 0 ≤ y ∧ SessAt C H a fp s ∧ SesOk s ∧ RetAns C H Q a fp (mRow s y)
theorem scRow : FnScope ["self", "y"] ["self", "y"] (defScope sRow) := ⟨rfl, rfl, rfl, by decide +kernel, rfl, by decide +kernel, by decide +kernel⟩
theorem ok_row {f : Addr} {fd : FuncData} (F : Fun K "row" "Session.row" sRow f fd) (O : Own mg) (T : TxS K mg C) (Tc : TxC mg) : FnOk P w K mg base CX0 1 f fd ["self", "y"] (spRow C) := by
  obtain ⟨to, ho⟩ := Tc.oor
  refine F.ok scRow (fun vs H Q E h => ?_) (fun cdv A outer s H vs Q E hr h => ?_)
  · obtain ⟨a, y, fp, s, rfl, _⟩ := h; rfl
  · obtain ⟨a, y, fp, s, rfl, hy, zz, o, k⟩ := h
    obtain ⟨dx, R, Ct, rs, as, e, z⟩ := id zz
    obtain ⟨n, rfl⟩ := Int.eq_ofNat_of_zero_le hy
    refine ⟨_, pss_cons (ps_if (pt_cmpR op_ge (pv 1) (pe_callB call_len_seq (by rfl) O.len PySem.boot_len (pa_cons (pe_fld (pv 0) rfl) pa_nil)) (nomark _)) (pss_one (ps_ret (pe_lst (pa_cons (pe_gi rfl ho) pa_nil)))) pss_nil)
      (pss_one (ps_ret (pe_op op_cat (pe_lst (pa_cons (pe_callB call_len_seq (by rfl) O.len PySem.boot_len (pa_cons (pe_ix (r := rIxL K) ix_list (pe_fld (pv 0) rfl) (pv 1) (fun _ _ => rfl)) pa_nil)) pa_nil)) (pe_ix (r := rIxL K) ix_list (pe_fld (pv 0) rfl) (pv 1) (fun _ _ => rfl))))), ?_⟩
    have hl : (rs.map V.ref).length = s.h := by rw [List.length_map]; exact z.rows.1
    refine ⟨_, rfl, _, rfl, a, C, dx, _, _, rfl, z.ins, T.cl, T.nR, sesF_r _ _, R, _, rfl, .inl (SqL.of z.rl), _, _, rfl, rfl, _, rfl, ?_⟩
    rw [hl]
    unfold mRow at k
    refine if_both (fun hz => ?_) (fun hz => ?_)
    · rw [if_pos hz] at k
      exact ⟨(by show 1 ≤ sizeLine; decide), fun p hp => k.one zz (fun b o e => e) hp rfl⟩
    · rw [if_neg hz] at k
      obtain ⟨r, hr0, hrow⟩ := z.rows.get (y := n) (by show n < s.h; omega)
      have hw := o.fit.wide n (by omega)
      have hw2 := o.w2
      have hsz : (1000 : Nat) < sizeLine := by decide
      refine ⟨_, rfl, a, C, dx, _, _, rfl, z.ins, T.cl, T.nR, sesF_r _ _, _, rfl, R, _, _, _, rfl, rfl, SqL.of z.rl, atI_nat (at_map hr0), r, _, rfl, .inl (SqL.of hrow), (by show 1 ≤ sizeLine; decide), fun l hl' => ?_⟩
      have s1 : Same H (upd H l (.lst [V.int (((s.rows.getD n []).map V.int).length : Nat)])) := same_upd hl'
      refine ⟨_, rfl, a, C, dx, _, _, rfl, s1 _ _ z.ins, T.cl, T.nR, sesF_r _ _, _, rfl, R, _, _, _, rfl, rfl, SqL.of (s1 _ _ z.rl), atI_nat (at_map hr0), ?_⟩
      refine ⟨l, r, _, _, rfl, rfl, upd_same, s1 _ _ hrow, ?_, fun p hp => ?_⟩
      · rw [List.length_map, hw]; show 1 + s.w ≤ _; omega
      · refine k.one zz s1 hp ?_
        show _ = V.int (((s.rows.getD ((n : Nat) : Int).toNat []).length : Nat) : Int) :: (s.rows.getD ((n : Nat) : Int).toNat []).map V.int
        rw [List.length_map]
        rfl
def spRev (C : Addr) : Sp := fun vs H Q _ => ∃ (a : Addr) (fp : List Addr) (s : Ses), vs = [.ref a] ∧ SessAt C H a fp s ∧ s.cs.length ≤ 1000 ∧ RetAns C H Q a fp (mRev s)
theorem scRev : FnScope ["self", "contour"] ["self"] (defScope sRev) := ⟨rfl, rfl, rfl, by decide +kernel, rfl, by decide +kernel, by decide +kernel⟩
theorem PtsAt.reverse {H : Hp} {ps : List Addr} {c : List (Int × Int)} (x : PtsAt H ps c) : PtsAt H ps.reverse c.reverse := by
  refine ⟨by rw [List.length_reverse, List.length_reverse, x.1], fun i p z h1 h2 => ?_⟩
  have hi : i < ps.length := by have := (List.getElem?_eq_some_iff.mp h1).1; rw [List.length_reverse] at this; exact this
  rw [List.getElem?_reverse hi] at h1
  rw [List.getElem?_reverse (by rw [← x.1]; exact hi), ← x.1] at h2
  exact x.2 _ p z h1 h2
theorem ok_rev {f : Addr} {fd : FuncData} (F : Fun K "reverse_contours" "Session.reverse_contours" sRev f fd) (O : Own mg) (T : TxS K mg C) : FnOk P w K mg base CX0 1 f fd ["self"] (spRev C) := by
  refine F.ok scRev (fun vs H Q E h => ?_) (fun cdv A outer s H vs Q E hr h => ?_)
  · obtain ⟨a, fp, s, rfl, _⟩ := h; rfl
  · obtain ⟨a, fp, s, rfl, ⟨dx, R, Ct, rs, as, rfl, z⟩, hlen, k⟩ := h
    refine ⟨_, pss_cons (ps_fld (pv 0) (pe_lc (own := [("contour", 1)]) (g := gName 1) (tt := tYes) rfl scRev.nd (pi_list (pe_fld (pv 0) rfl))
        (blkOk_by (own := [("contour", 1)]) (N := ["self", "contour"]) (sc := defScope sRev) (by decide +kernel))
        (fun _ _ _ _ _ => pg_name (i := 1) scRev.nd rfl (Or.inl rfl)) (fun _ _ _ _ _ => pts_nil)
        (fun _ _ _ _ _ => pe_backs K rfl rfl rfl O.list rfl O.reversed (pv 1))) rfl)
      (pss_one (ps_ret (pe_lst (pa_cons (pe_callB call_len_seq (by rfl) O.len PySem.boot_len (pa_cons (pe_fld (pv 0) rfl) pa_nil)) pa_nil)))), ?_⟩
    have hsz : (1000 : Nat) < sizeLine := by decide
    refine ⟨_, rfl, a, C, dx, _, _, rfl, z.ins, T.cl, T.nC, sesF_c _ _, Ct, rfl, ⟨_, SqL.of z.ctl⟩, fun D hD => ?_⟩
    refine lc_list (K := K) (a := Ct) (xs := as.map V.ref)
      (fun i H' => ∃ bs : List Addr, Same H H' ∧ H' D = some (.lst (bs.map V.ref)) ∧ CtrsAt H' bs ((s.cs.take i).map List.reverse) ∧ D ∉ bs) ⟨[], same_upd hD, upd_same, CtrsAt.nil _, by simp⟩ (fun i H' _ ⟨_, s1, _⟩ => SqL.of (s1 _ _ z.ctl)) ?_ ?_
    · rintro i y H' hi ⟨bs, s1, hDv, hC, hnD⟩
      obtain ⟨e, he, rfl⟩ := map_at hi
      obtain ⟨c, hc, ps, hps, hP⟩ := z.cs.get he
      refine ⟨rfl, ?_⟩
      refine ⟨_, rfl, e, _, rfl, SqL.of (s1 _ _ hps), fun q hq => ?_⟩
      have hDq : D ≠ q := ne_of_none hDv hq
      refine ⟨bs.map V.ref, by rw [upd_ne hDq]; exact hDv, ?_, bs ++ [q], sOld (sNew s1 hq) hD, ?_, ?_, ?_⟩
      · have h1 := hC.1
        have : i < s.cs.length := (List.getElem?_eq_some_iff.mp hc).1
        rw [List.length_map, h1, List.length_map, List.length_take]; omega
      · rw [upd_same, List.map_append]; rfl
      · have tup : ∀ b xs, H' b = some (.tup xs) → upd (upd H' q (.lst (ps.map V.ref).reverse)) D (.lst (bs.map V.ref ++ [.ref q])) b = some (.tup xs) := fun b xs hb => by
          rw [upd_ne (ne_of hb hDv (by intro q; cases q)), upd_ne (ne_of_none hb hq)]; exact hb
        rw [take_more hc, List.map_append]
        refine (hC.same tup fun b hb o ho => ?_).snoc ⟨ps.reverse, ?_, ((hP.same (sTup s1)).same tup).reverse⟩
        · rw [upd_ne (fun q => hnD (by rw [← q]; exact hb)), upd_ne (ne_of_none ho hq)]; exact ho
        · rw [upd_ne (Ne.symm hDq), upd_same, List.map_reverse]
      · intro hm
        rcases List.mem_append.mp hm with h | h
        · exact hnD h
        · exact hDq (List.mem_singleton.mp h)
    · rintro H' ⟨bs, s1, hDv, hC, hnD⟩
      rw [List.length_map, z.cs.1, List.take_length] at hC
      have z1 := z.same s1
      have z2 := z1.putC hDv hC (ne_of_none z.rl hD) hnD
      refine ⟨_, rfl, a, C, dx, _, rfl, z1.ins, T.cl, T.nC, sesF_len _ _, ?_⟩
      refine ⟨_, rfl, a, C, dx, _, _, rfl, z2.ins, T.cl, T.nC, sesF_c _ _, D, _, rfl, .inl (SqL.of z2.ctl), (by show 1 ≤ sizeLine; decide), fun p hp => ?_⟩
      have kp : Keep H (upd H' a (.ins C dx (putF "contours" (.ref D) (sesF R Ct)))) (a :: Ct :: rs) (a :: D :: rs) :=
        Keep.put s1 (by simp) fun b hb => by
          rcases List.mem_cons.mp hb with h | h
          · exact .inl (by simp [h])
          · rcases List.mem_cons.mp h with h | h
            · exact .inr (by rw [h]; exact hD)
            · exact .inl (by simp [h])
      refine k _ p (a :: D :: rs) ⟨dx, R, D, rs, bs, rfl, z2.same (same_upd hp)⟩ (kp.same (same_upd hp)) (kp.free hp) ?_
      have hlen2 : (bs.map V.ref).length = s.cs.length := by rw [List.length_map, hC.1, List.length_map]
      rw [upd_same, hlen2]
      rfl
end
end Pc
set_option Elab.async false
set_option maxRecDepth 100000
set_option maxHeartbeats 4000000
namespace Pc
open PySem PySem.Spec PyProof.Rows L2
open Cv (imax imin)
theorem SesOk.cs_len {s : Ses} (o : SesOk s) : s.cs.length ≤ 20 := by
  have h := o.few
  have t := o.three
  have k : ∀ cs : List (List (Int × Int)), (∀ c ∈ cs, 3 ≤ c.length) → 3 * cs.length ≤ corners cs := by
    intro cs
    induction cs with
    | nil => intro _; exact Nat.zero_le _
    | cons c cs ih =>
      intro h
      have e : corners (c :: cs) = c.length + corners cs := by unfold corners; rw [List.map_cons, List.sum_cons]
      have := ih (fun d hd => h d (by simp [hd]))
      have := h c (by simp)
      rw [e, List.length_cons]; omega
  have := k s.cs t
  omega
theorem SesOk.allSmall {s : Ses} (o : SesOk s) : AllSmall s.cs := by
  intro c hc z hz
  have := o.small c hc z hz
  unfold Small
  omega
section
variable {P : Program} {w : World} {K : PySem.W.Frag} {mg : Str → Option Value} {base : Heap} {C B : Addr}
def spSesI (C : Addr) : Sp := fun vs H Q _ => ∃ (a dx : Addr), vs = [.ref a] ∧ H a = some (.ins C dx []) ∧
  ∀ (H' : Hp) (fp' : List Addr), SessAt C H' a fp' mStart → (∀ b o, H b = some o → b ≠ a → H' b = some o) → (∀ b ∈ fp', b = a ∨ H b = none) → Q .non H'
theorem scSesI : FnScope ["self"] ["self"] (defScope sSesI) := ⟨rfl, rfl, rfl, by decide +kernel, rfl, by decide +kernel, by decide +kernel⟩
theorem ok_sesI {f f1 : Addr} {fd fd1 : FuncData} (F : Fun K "__init__" "Session.__init__" sSesI f fd) (T : TxS K mg C)
    (G1 : FnOk P w K mg base CX0 1 f1 fd1 ["width", "height", "colour"] spPlain) (D1 : Df K mg "plain_rows" f1 fd1 ["width", "height", "colour"]) : FnOk P w K mg base CX0 2 f fd ["self"] (spSesI C) := by
  refine F.ok scSesI (fun vs H Q E h => ?_) (fun cdv A outer s H vs Q E hr h => ?_)
  · obtain ⟨a, dx, rfl, _⟩ := h; rfl
  · obtain ⟨a, dx, rfl, ha, k⟩ := h
    refine ⟨_, pss_cons (ps_fld (pv 0) (pe_call G1 hr rfl D1.mg D1.kp D1.bn .nil pass0 (pa_cons pe_int (pa_cons pe_int (pa_cons pe_int pa_nil)))) rfl) (pss_one (ps_fld (pv 0) (pe_lst pa_nil) rfl)), ?_⟩
    refine ⟨1, 1, 0, rfl, by decide, by decide, fun H1 R rs s1 hR hR1 hRs hn hf => ?_⟩
    have ha1 := s1 _ _ ha
    refine ⟨_, rfl, a, C, dx, _, rfl, ha1, T.cl, T.nR, (by show 0 < 1000; decide), ?_⟩
    have e1 : putF "rows" (.ref R) [] = [(("rows" : Str), V.ref R)] := rfl
    rw [e1]
    refine ⟨Nat.zero_le _, fun l hl => ?_⟩
    have hla : l ≠ a := by rintro rfl; rw [upd_same] at hl; cases hl
    have hl1 : H1 l = none := by rw [upd_ne hla] at hl; exact hl
    have hRl : R ≠ l := ne_of_none hR1 hl1
    have hRa : R ≠ a := ne_of hR1 ha1 (by intro q; cases q)
    refine ⟨_, rfl, a, C, dx, _, rfl, (by rw [upd_ne (Ne.symm hla), upd_same]), T.cl, T.nC, (by show 1 < 1000; decide), ?_⟩
    have e2 : putF "contours" (.ref l) [(("rows" : Str), V.ref R)] = sesF R l := (put_past (by decide +kernel)).trans rfl
    rw [e2]
    have row_ne : ∀ r ∈ rs, r ≠ a ∧ r ≠ l := fun r hr => by
      obtain ⟨_, _, h⟩ := hRs.has hr
      exact ⟨ne_of h ha1 (by intro q; cases q), ne_of_none h hl1⟩
    refine k _ (a :: l :: rs) ⟨dx, R, l, rs, [], rfl, ?_, ?_, ?_, ?_, CtrsAt.nil _, hn, hRl, by simp⟩ ?_ ?_
    · rw [upd_same]
    · rw [upd_ne hRa, upd_ne hRl, upd_ne hRa]; exact hR1
    · rw [upd_ne hla, upd_same]; rfl
    · refine hRs.same fun r hr o e => ?_
      obtain ⟨h1, h2⟩ := row_ne r hr
      rw [upd_ne h1, upd_ne h2, upd_ne h1]; exact e
    · intro b o hb hba
      rw [upd_ne hba, upd_ne (ne_of_none (s1 _ _ hb) hl1), upd_ne hba]; exact s1 _ _ hb
    · intro b hb
      rcases List.mem_cons.mp hb with h | h
      · exact .inl h
      · rcases List.mem_cons.mp h with h | h
        · exact .inr (by rw [h]; exact s1.free hl1)
        · exact .inr (hf b h)
def spBegin (C : Addr) : Sp := fun vs H Q _ => ∃ (a : Addr) (wd ht c : Int) (fp : List Addr) (s : Ses), vs = [.ref a, .int wd, .int ht, .int c] ∧ SessAt C H a fp s ∧ RetAns C H Q a fp (mBegin s wd ht c)
theorem scBegin : FnScope ["self", "width", "height", "colour"] ["self", "width", "height", "colour"] (defScope sBegin) := ⟨rfl, rfl, rfl, by decide +kernel, rfl, by decide +kernel, by decide +kernel⟩
theorem ok_begin {f f1 f2 : Addr} {fd fd1 fd2 : FuncData} (F : Fun K "begin" "Session.begin" sBegin f fd) (T : TxS K mg C) (Tc : TxC mg)
    (G1 : FnOk P w K mg base CX0 1 f1 fd1 ["width", "height", "colour"] spPlain) (D1 : Df K mg "plain_rows" f1 fd1 ["width", "height", "colour"])
    (G2 : FnOk P w K mg base CX0 1 f2 fd2 ["length"] spIsSide) (D2 : Df K mg "is_side" f2 fd2 ["length"]) : FnOk P w K mg base CX0 2 f fd ["self", "width", "height", "colour"] (spBegin C) := by
  obtain ⟨to, ho⟩ := Tc.oor
  obtain ⟨tc, hcol⟩ := Tc.colour
  refine F.ok scBegin (fun vs H Q E h => ?_) (fun cdv A outer s H vs Q E hr h => ?_)
  · obtain ⟨a, wd, ht, c, fp, s, rfl, _⟩ := h; rfl
  · obtain ⟨a, wd, ht, c, fp, s, rfl, zz, k⟩ := h
    obtain ⟨dx, R, Ct, rs, as, rfl, z⟩ := id zz
    refine ⟨_, pss_cons (ps_if (PW.pt (pw_or (pt_not (pt_val (pe_call G2 hr rfl D2.mg D2.kp D2.bn .nil pass0 (pa_cons (pv 1) pa_nil)))) (pw_or (pt_not (pt_val (pe_call G2 hr rfl D2.mg D2.kp D2.bn .nil pass0 (pa_cons (pv 2) pa_nil)))) (pw_or1 (pt_cmpR op_gt (pv 3) (pe_gi rfl hcol) (nomark _)))))) (pss_one (ps_ret (pe_lst (pa_cons (pe_gi rfl ho) pa_nil)))) pss_nil)
      (pss_cons (ps_fld (pv 0) (pe_call G1 hr rfl D1.mg D1.kp D1.bn .nil pass0 (pa_cons (pv 1) (pa_cons (pv 2) (pa_cons (pv 3) pa_nil)))) rfl)
      (pss_cons (ps_fld (pv 0) (pe_lst pa_nil) rfl)
      (pss_one (ps_ret (pe_lst (pa_cons pe_int pa_nil)))))), ?_⟩
    have bad : (¬ side wd ∨ ¬ side ht ∨ c > 255) → ((1 : Nat) ≤ sizeLine) ∧ ∀ p, H p = none → Q (.ref p) (upd H p (.lst [V.int (-1)])) := fun hb => by
      unfold mBegin at k
      rw [if_pos hb] at k
      exact ⟨(by show 1 ≤ sizeLine; decide), fun p hp => k.one zz (fun b o e => e) hp rfl⟩
    refine ⟨_, rfl, wd, rfl, _, rfl, ?_⟩
    refine if_nb (fun h1 => ?_) (fun h1 => ?_)
    · exact bad (.inl h1)
    refine ⟨_, rfl, ht, rfl, _, rfl, ?_⟩
    refine if_nb (fun h2 => ?_) (fun h2 => ?_)
    · exact bad (.inr (.inl h2))
    refine ⟨_, rfl, _, _, rfl, rfl, _, rfl, ?_⟩
    refine if_both (fun h3 => ?_) (fun h3 => ?_)
    · exact bad (.inr (.inr h3))
    unfold mBegin at k
    rw [if_neg (by intro q; rcases q with q | q | q; exact q h1; exact q h2; exact h3 q)] at k
    refine ⟨_, rfl, _, rfl, _, rfl, wd, ht, c, rfl, h1, h2, fun H1 R' rs' s1 hR hR1 hRs hn hf => ?_⟩
    have z1 := z.same s1
    have z2 := z1.putR hR1 hRs hn (Ne.symm (ne_of_none z.ctl hR))
    refine ⟨_, rfl, a, C, dx, _, rfl, z1.ins, T.cl, T.nR, sesF_len _ _, ?_⟩
    have kp1 : Keep H (upd H1 a (.ins C dx (putF "rows" (.ref R') (sesF R Ct)))) (a :: Ct :: rs) (a :: Ct :: rs') :=
      Keep.put s1 (by simp) fun b hb => by
        rcases List.mem_cons.mp hb with h | h
        · exact .inl (by simp [h])
        · rcases List.mem_cons.mp h with h | h
          · exact .inl (by simp [h])
          · exact .inr (hf b h)
    refine ⟨Nat.zero_le _, fun l hl => ?_⟩
    have s3 := same_upd (o := .lst []) hl
    have z3 := z2.same s3
    have z4 := z3.putC (l := l) (as' := []) (cs' := []) upd_same (CtrsAt.nil _) (ne_of_none z2.rl hl) (by simp)
    refine ⟨_, rfl, a, C, dx, _, rfl, z3.ins, T.cl, T.nC, sesF_len _ _, ?_⟩
    refine ⟨(by show 1 ≤ sizeLine; decide), fun p hp => ?_⟩
    have kp2 := kp1.trans (Keep.put (fp := a :: Ct :: rs') (fp' := a :: l :: rs') (a := a) (o := .ins C dx (putF "contours" (.ref l) (sesF R' Ct))) s3 (by simp) fun b hb => by
        rcases List.mem_cons.mp hb with h | h
        · exact .inl (by simp [h])
        · rcases List.mem_cons.mp h with h | h
          · exact .inr (by rw [h]; exact hl)
          · exact .inl (by simp [h]))
    exact k _ p (a :: l :: rs') ⟨dx, R', l, rs', [], rfl, z4.same (same_upd hp)⟩ (kp2.same (same_upd hp)) (kp2.free hp) upd_same
def spAdd (K : PySem.W.Frag) (C : Addr) : Sp := fun vs H Q _ => ∃ (a n : Addr) (l : List Int) (fp : List Addr) (s : Ses), vs = [.ref a, .ref n] ∧ SqL K H n (l.map V.int) ∧ l.length ≤ 1024 ∧ SessAt C H a fp s ∧ SesOk s ∧ RetAns C H Q a fp (mAdd s l)
theorem scAdd : FnScope ["self", "numbers", "contour"] ["self", "numbers"] (defScope sAdd) := ⟨rfl, rfl, rfl, by decide +kernel, rfl, by decide +kernel, by decide +kernel⟩
theorem ok_add {f f1 f2 : Addr} {fd fd1 fd2 : FuncData} (F : Fun K "add_contour" "Session.add_contour" sAdd f fd) (O : Own mg) (T : TxS K mg C) (Tc : TxC mg)
    (G1 : FnOk P w K mg base CX0 1 f1 fd1 ["numbers"] (spPairs K)) (D1 : Df K mg "corner_pairs" f1 fd1 ["numbers"])
    (G2 : FnOk P w K mg base CX0 1 f2 fd2 ["self"] (spCount C)) (M2 : Meth K C "corner_count" f2) (b2 : Binds K fd2 ["self"] []) : FnOk P w K mg base CX0 2 f fd ["self", "numbers"] (spAdd K C) := by
  obtain ⟨to, ho⟩ := Tc.oor
  obtain ⟨t2, hodd⟩ := Tc.odd
  obtain ⟨t3, hmany⟩ := Tc.many
  obtain ⟨t4, hcoord⟩ := Tc.coord
  obtain ⟨t5, hfew⟩ := Tc.few
  obtain ⟨t6, hmost⟩ := Tc.most
  refine F.ok scAdd (fun vs H Q E h => ?_) (fun cdv A outer s H vs Q E hr h => ?_)
  · obtain ⟨a, n, l, fp, s, rfl, _⟩ := h; rfl
  · obtain ⟨a, n, l, fp, s, rfl, hS, hlen, zz, o, k⟩ := h
    obtain ⟨dx, R, Ct, rs, as, rfl, z⟩ := id zz
    refine ⟨_, pss_cons (ps_if (pt_cmpR op_ne (pe_op op_mod (pe_callB call_len_seq (by rfl) O.len PySem.boot_len (pa_cons (pv 1) pa_nil)) pe_int) pe_int (nomark _)) (pss_one (ps_ret (pe_lst (pa_cons (pe_gi rfl hodd) pa_nil)))) pss_nil)
      (pss_cons (ps_set (i := 2) scAdd.nd rfl (Or.inl rfl) (pe_call G1 hr rfl D1.mg D1.kp D1.bn .nil pass0 (pa_cons (pv 1) pa_nil)))
      (pss_cons (ps_if (PW.pt (pw_or (pt_cmpR op_lt (pe_callB call_len_seq (by rfl) O.len PySem.boot_len (pa_cons (pv 2) pa_nil)) (pe_gi rfl hfew) (nomark _)) (pw_or1 (pt_cmpR op_gt (pe_callB (cr_max rfl) (by rfl) O.max (by decide +kernel) (pa_cons (pv 1) pa_nil)) (pe_gi rfl hcoord) (nomark _))))) (pss_one (ps_ret (pe_lst (pa_cons (pe_gi rfl ho) pa_nil)))) pss_nil)
      (pss_cons (ps_if (pt_cmpR op_gt (pe_op op_add (pe_meth0 (pv 0) T.cl M2 G2 hr b2 .nil pass0) (pe_callB call_len_seq (by rfl) O.len PySem.boot_len (pa_cons (pv 2) pa_nil))) (pe_gi rfl hmost) (nomark _)) (pss_one (ps_ret (pe_lst (pa_cons (pe_gi rfl hmany) pa_nil)))) pss_nil)
      (pss_cons (ps_expr (pe_bm PySem.F.plainAttrs_list PySem.F.slot_list_append PySem.F.type_list_append mt_append (pe_fld (pv 0) rfl) (pa_cons (pv 2) pa_nil)))
      (pss_one (ps_ret (pe_lst (pa_cons (pe_callB call_len_seq (by rfl) O.len PySem.boot_len (pa_cons (pe_fld (pv 0) rfl) pa_nil)) pa_nil)))))))), ?_⟩
    unfold mAdd at k
    have hml : (l.map V.int).length = l.length := List.length_map _
    refine ⟨_, rfl, n, _, rfl, .inl hS, _, _, rfl, rfl, (by show (0 : Int) < 2; decide), rfl, _, rfl, ?_⟩
    rw [hml]
    by_cases h1 : l.length % 2 ≠ 0
    · rw [if_pos h1] at k
      refine if_true_of (by rw [dint]; simp; omega) ?_
      exact ⟨(by show 1 ≤ sizeLine; decide), fun p hp => k.one zz (fun b o e => e) hp rfl⟩
    rw [if_neg h1] at k
    refine if_false_of (by rw [dint]; simp; omega) ?_
    refine ⟨_, rfl, n, l, rfl, hS, by omega, by omega, fun H1 D ps s1 hD hD1 hP => ?_⟩
    have zz1 := zz.same s1
    have z1 := z.same s1
    have hpl : (ps.map V.ref).length = (pairsM l).length := by rw [List.length_map]; exact hP.1
    refine ⟨_, rfl, D, _, rfl, .inl (SqL.of hD1), _, _, rfl, rfl, _, rfl, ?_⟩
    rw [hpl]
    refine if_both (fun h2 => ?_) (fun h2 => ?_)
    · rw [if_pos (.inl (by omega))] at k
      exact ⟨(by show 1 ≤ sizeLine; decide), fun p hp => k.one zz s1 hp rfl⟩
    have hpos : 0 < l.length := by
      have := pairs_len l
      omega
    refine ⟨_, rfl, n, l, rfl, s1.seq hS, hpos, fun m hm hmax => ⟨_, _, rfl, rfl, _, rfl, ?_⟩⟩
    have hmx : m > 4096 ↔ maxM l > 4096 := by
      rw [maxM_gt]
      exact ⟨fun h => ⟨m, hm, h⟩, fun ⟨y, hy, h⟩ => by have := hmax y hy; omega⟩
    refine if_both (fun h3 => ?_) (fun h3 => ?_)
    · rw [if_pos (.inr (hmx.mp h3))] at k
      exact ⟨(by show 1 ≤ sizeLine; decide), fun p hp => k.one zz s1 hp rfl⟩
    rw [if_neg (by intro q; rcases q with q | q; omega; exact h3 (hmx.mpr q))] at k
    refine ⟨_, rfl, a, dx, _, rfl, z1.ins, rfl, a, _, s, rfl, zz1, by have := o.cs_len; omega, fun H2 s2 => ?_⟩
    have s12 := s1.trans s2
    refine ⟨_, rfl, D, _, rfl, .inl (SqL.of (s2 _ _ hD1)), _, _, rfl, rfl, _, _, rfl, rfl, _, rfl, ?_⟩
    rw [hpl]
    refine if_both (fun h4 => ?_) (fun h4 => ?_)
    · rw [if_pos (by omega)] at k
      exact ⟨(by show 1 ≤ sizeLine; decide), fun p hp => k.one zz s12 hp rfl⟩
    rw [if_neg (by omega)] at k
    have z2 := z.same s12
    have hDC : D ≠ Ct := Ne.symm (ne_of_none z.ctl hD)
    have z3 := z2.more o (s2 _ _ hD1) (hP.same (sTup s2)) hDC
    have hcl := o.cs_len
    have hal : (as.map V.ref).length = s.cs.length := by rw [List.length_map]; exact z.cs.1
    have hsz : (1000 : Nat) < sizeLine := by decide
    refine ⟨_, rfl, a, C, dx, _, _, rfl, z2.ins, T.cl, T.nC, sesF_c _ _, .inl ⟨rfl, _, SqL.of z2.ctl⟩, _, rfl, Ct, _, _, rfl, rfl, z2.ctl, by omega, ?_⟩
    refine ⟨_, rfl, a, C, dx, _, _, rfl, z3.ins, T.cl, T.nC, sesF_c _ _, Ct, _, rfl, .inl (SqL.of z3.ctl), (by show 1 ≤ sizeLine; decide), fun p hp => ?_⟩
    have kp := Keep.put (fp := a :: Ct :: rs) (fp' := a :: Ct :: rs) (a := Ct) (o := .lst (as.map V.ref ++ [.ref D])) s12 (by simp) fun b hb => .inl hb
    refine k _ p (a :: Ct :: rs) ⟨dx, R, Ct, rs, as ++ [D], rfl, z3.same (same_upd hp)⟩ (kp.same (same_upd hp)) (kp.free hp) ?_
    rw [upd_same]
    have e : ((as ++ [D]).map V.ref).length = s.cs.length + 1 := by rw [List.length_map, List.length_append, z.cs.1]; rfl
    rw [e]
    rfl
end
end Pc
set_option Elab.async false
set_option maxRecDepth 100000
set_option maxHeartbeats 4000000
namespace Pc
open PySem PySem.Spec PyProof.Rows L2
open Cv (imax imin)
theorem pix_ok {x y : Int} (hx : 0 ≤ x) (hx' : x < 16) (hy : 0 ≤ y) (hy' : y < 16) : BxOk (pixB x y) := by
  unfold pixB
  refine ⟨?_, ?_, ?_, ?_, ?_, ?_⟩
  · show (16 * x).natAbs ≤ 4096; omega
  · show (16 * y).natAbs ≤ 4096; omega
  · show (16 * x + 16).natAbs ≤ 4096; omega
  · show (16 * y + 16).natAbs ≤ 4096; omega
  · show 16 * y < 16 * y + 16; omega
  · show 16 * x ≤ 16 * x + 16; omega
theorem pic_ok {x y : Nat} (hx : 1 ≤ x) (hx' : x ≤ 16) (hy : 1 ≤ y) (hy' : y ≤ 16) : BxOk (picB x y) := by
  unfold picB
  refine ⟨?_, ?_, ?_, ?_, ?_, ?_⟩
  · show (0 : Int).natAbs ≤ 4096; omega
  · show (0 : Int).natAbs ≤ 4096; omega
  · show (16 * (x : Int)).natAbs ≤ 4096; omega
  · show (16 * (y : Int)).natAbs ≤ 4096; omega
  · show (0 : Int) < 16 * (y : Int); omega
  · show (0 : Int) ≤ 16 * (x : Int); omega
theorem covQ_den {x : Bx} {cs : List (List (Int × Int))} (hx : BxOk x) (h : AllSmall cs) (hl : corners cs ≤ 60) : (covQ x cs).den ≤ 2 ^ 7000 := by
  have hden := sumF_den (sharesF_ok hx h) (by rw [sharesF_len]; exact hl)
  have dn := (sumF (sharesF x cs)).den_nz
  have e : ((sumF (sharesF x cs)).num : Rat) / ((((sumF (sharesF x cs)).den : Int) * 256 : Int) : Rat) = covQ x cs := by
    unfold covQ
    have h1 := Cv.self_div (sumF (sharesF x cs))
    have h2 := Cv.nat_ne dn
    rw [Rat.intCast_mul]
    have h3 : (((sumF (sharesF x cs)).den : Int) : Rat) = ((sumF (sharesF x cs)).den : Rat) := rfl
    have h4 : ((256 : Int) : Rat) = 256 := rfl
    rw [h3, h4]
    generalize ((sumF (sharesF x cs)).num : Rat) = n at *
    generalize ((sumF (sharesF x cs)).den : Rat) = d at *
    generalize sumF (sharesF x cs) = v at *
    grind
  have := (low_size (n := (sumF (sharesF x cs)).num) (d := ((sumF (sharesF x cs)).den : Int) * 256) (by omega)).2
  rw [e] at this
  have h5 : (((sumF (sharesF x cs)).den : Int) * 256).natAbs = (sumF (sharesF x cs)).den * 256 := by omega
  rw [h5] at this
  have h6 : (sumF (sharesF x cs)).den * 256 ≤ 2 ^ 4800 * 2 ^ 8 := Nat.mul_le_mul hden (by decide)
  rw [← Nat.pow_add] at h6
  exact Nat.le_trans this (Nat.le_trans h6 (Nat.pow_le_pow_right (by decide) (by decide)))
theorem paint_shift (st : Pst) (x y : Nat) (c : Int) : paintM st x y c = ((paintM (st.1, 0) x y c).1, st.2 + (paintM (st.1, 0) x y c).2) := by
  unfold paintM
  show (if cellM st.1 x y = c then st else _) = _
  by_cases h : cellM st.1 x y = c
  · rw [if_pos h]
    have : (if cellM (st.1, (0 : Int)).1 x y = c then (st.1, (0 : Int)) else (setM (st.1, (0 : Int)).1 x y c, (st.1, (0 : Int)).2 + 1)) = (st.1, 0) := if_pos h
    rw [this]
    show st = (st.1, st.2 + 0)
    rw [Int.add_zero]
  · rw [if_neg h]
    have : (if cellM (st.1, (0 : Int)).1 x y = c then (st.1, (0 : Int)) else (setM (st.1, (0 : Int)).1 x y c, (st.1, (0 : Int)).2 + 1)) = (setM st.1 x y c, 1) := if_neg h
    rw [this]
theorem Ses0.keep {C : Addr} {H H' : Hp} {a dx R Ct : Addr} {rs as : List Addr} {s' : Ses} (z : Ses0 C H' a dx R Ct rs as s') (fr : ∀ b o, H b = some o → b ∉ rs → H' b = some o) : Keep H H' (a :: Ct :: rs) (a :: Ct :: rs) := by
  refine ⟨fun b o e hb => fr b o e (fun h => hb (by simp [h])), fun b hb => .inl hb, fun b o e n => ?_⟩
  by_cases h : b ∈ rs
  · obtain ⟨_, _, q⟩ := z.rows.has h
    rw [q] at n; cases n
  · rw [fr b o e h] at n; cases n
section
variable {P : Program} {w : World} {K : PySem.W.Frag} {mg : Str → Option Value} {base : Heap} {C B : Addr}
def spCov (C : Addr) : Sp := fun vs H Q _ => ∃ (a : Addr) (x y : Int) (fp : List Addr) (s : Ses), vs = [.ref a, .int x, .int y] ∧ 0 ≤ x ∧ 0 ≤ y ∧ SessAt C H a fp s ∧ SesOk s ∧ RetAns C H Q a fp (mCov s x y)
theorem scCov : FnScope ["self", "x", "y", "fraction"] ["self", "x", "y"] (defScope sCov) := ⟨rfl, rfl, rfl, by decide +kernel, rfl, by decide +kernel, by decide +kernel⟩
theorem ok_cov {f f1 f2 f3 : Addr} {fd fd1 fd2 fd3 : FuncData} (F : Fun K "coverage" "Session.coverage" sCov f fd) (T : TxS K mg C) (Tc : TxC mg)
    (G1 : FnOk P w K mg base CX0 1 f1 fd1 ["self", "x", "y"] (spHas C)) (M1 : Meth K C "has_pixel" f1) (b1 : Binds K fd1 ["self", "x", "y"] [])
    (G2 : FnOk P w K mg base CX0 6 f2 fd2 ["contours", "box"] (spCovOf K B)) (D2 : Df K mg "coverage_of" f2 fd2 ["contours", "box"])
    (G3 : FnOk P w K mg base CX0 3 f3 fd3 ["x", "y"] (spPixBox B)) (D3 : Df K mg "pixel_box" f3 fd3 ["x", "y"]) : FnOk P w K mg base CX0 7 f fd ["self", "x", "y"] (spCov C) := by
  obtain ⟨to, ho⟩ := Tc.oor
  refine F.ok scCov (fun vs H Q E h => ?_) (fun cdv A outer s H vs Q E hr h => ?_)
  · obtain ⟨a, x, y, fp, s, rfl, _⟩ := h; rfl
  · obtain ⟨a, x, y, fp, s, rfl, hx, hy, zz, o, k⟩ := h
    obtain ⟨dx, R, Ct, rs, as, e, z⟩ := id zz
    refine ⟨_, pss_cons (ps_if (pt_not (pt_val (pe_meth (pv 0) T.cl M1 G1 (hr.mono (by decide)) b1 .nil pass0 (pa_cons (pv 1) (pa_cons (pv 2) pa_nil))))) (pss_one (ps_ret (pe_lst (pa_cons (pe_gi rfl ho) pa_nil)))) pss_nil)
      (pss_cons (ps_set (i := 3) scCov.nd rfl (Or.inl rfl) (pe_call G2 hr rfl D2.mg D2.kp D2.bn .nil pass0 (pa_cons (pe_fld (pv 0) rfl) (pa_cons (pe_call G3 (hr.mono (by decide)) rfl D3.mg D3.kp D3.bn .nil pass0 (pa_cons (pv 1) (pa_cons (pv 2) pa_nil))) pa_nil))))
      (pss_one (ps_ret (pe_lst (pa_cons pe_int (pa_cons (pe_ix (r := rIxT K) ix_tup (pv 3) pe_int (fun _ _ => rfl)) (pa_cons (pe_ix (r := rIxT K) ix_tup (pv 3) pe_int (fun _ _ => rfl)) pa_nil))))))), ?_⟩
    unfold mCov at k
    refine ⟨_, rfl, a, dx, _, rfl, z.ins, rfl, _, rfl, _, rfl, a, x, y, fp, s, rfl, zz, o.h1, _, rfl, ?_⟩
    refine if_nb (fun h1 => ?_) (fun h1 => ?_)
    · rw [if_neg h1] at k
      exact ⟨(by show 1 ≤ sizeLine; decide), fun p hp => k.one zz (fun b o e => e) hp rfl⟩
    rw [if_pos h1] at k
    have hw2 := o.w2
    have hh2 := o.h2
    refine ⟨_, rfl, a, C, dx, _, _, rfl, z.ins, T.cl, T.nC, sesF_c _ _, _, rfl, _, rfl, x, y, rfl, fun H1 b s1 hb hB => ?_⟩
    refine ⟨Ct, b, as, s.cs, pixB x y, rfl, SqL.of (s1 _ _ z.ctl), (z.same s1).cs, o.few, o.allSmall, hB, pix_ok hx (by omega) hy (by omega), fun H2 q s2 hq hq1 => ?_⟩
    refine ⟨_, rfl, _, _, _, _, rfl, rfl, SqT.of hq1, rfl, _, rfl, _, _, _, _, rfl, rfl, SqT.of hq1, rfl, (by show 3 ≤ sizeLine; decide), fun p hp => ?_⟩
    exact k.one zz (s1.trans s2) hp rfl
def spArea (C : Addr) : Sp := fun vs H Q _ => ∃ (a : Addr) (fp : List Addr) (s : Ses), vs = [.ref a] ∧ SessAt C H a fp s ∧ SesOk s ∧ RetAns C H Q a fp (mArea s)
theorem scArea : FnScope ["self", "fraction"] ["self"] (defScope sArea) := ⟨rfl, rfl, rfl, by decide +kernel, rfl, by decide +kernel, by decide +kernel⟩
theorem ok_area {f f2 : Addr} {fd fd2 : FuncData} (F : Fun K "area" "Session.area" sArea f fd) (T : TxS K mg C)
    (G2 : FnOk P w K mg base CX0 3 f2 fd2 ["contours"] (spAreaOf K)) (D2 : Df K mg "area_of" f2 fd2 ["contours"]) : FnOk P w K mg base CX0 4 f fd ["self"] (spArea C) := by
  refine F.ok scArea (fun vs H Q E h => ?_) (fun cdv A outer s H vs Q E hr h => ?_)
  · obtain ⟨a, fp, s, rfl, _⟩ := h; rfl
  · obtain ⟨a, fp, s, rfl, zz, o, k⟩ := h
    obtain ⟨dx, R, Ct, rs, as, e, z⟩ := id zz
    refine ⟨_, pss_cons (ps_set (i := 1) scArea.nd rfl (Or.inl rfl) (pe_call G2 hr rfl D2.mg D2.kp D2.bn .nil pass0 (pa_cons (pe_fld (pv 0) rfl) pa_nil)))
      (pss_one (ps_ret (pe_lst (pa_cons pe_int (pa_cons (pe_ix (r := rIxT K) ix_tup (pv 1) pe_int (fun _ _ => rfl)) (pa_cons (pe_ix (r := rIxT K) ix_tup (pv 1) pe_int (fun _ _ => rfl)) pa_nil)))))), ?_⟩
    refine ⟨_, rfl, a, C, dx, _, _, rfl, z.ins, T.cl, T.nC, sesF_c _ _, Ct, as, s.cs, rfl, SqL.of z.ctl, z.cs, o.few, o.allSmall, fun H2 q s2 hq hq1 => ?_⟩
    refine ⟨_, rfl, _, _, _, _, rfl, rfl, SqT.of hq1, rfl, _, rfl, _, _, _, _, rfl, rfl, SqT.of hq1, rfl, (by show 3 ≤ sizeLine; decide), fun p hp => ?_⟩
    exact k.one zz s2 hp rfl
def spTotCov (C : Addr) : Sp := fun vs H Q _ => ∃ (a : Addr) (fp : List Addr) (s : Ses), vs = [.ref a] ∧ SessAt C H a fp s ∧ SesOk s ∧ RetAns C H Q a fp (mTotal s)
theorem scTotCov : FnScope ["self", "whole", "fraction"] ["self"] (defScope sTotCov) := ⟨rfl, rfl, rfl, by decide +kernel, rfl, by decide +kernel, by decide +kernel⟩
theorem ok_totCov {f f2 f3 : Addr} {fd fd2 fd3 : FuncData} (F : Fun K "total_coverage" "Session.total_coverage" sTotCov f fd) (O : Own mg) (T : TxS K mg C)
    (G2 : FnOk P w K mg base CX0 6 f2 fd2 ["contours", "box"] (spCovOf K B)) (D2 : Df K mg "coverage_of" f2 fd2 ["contours", "box"])
    (G3 : FnOk P w K mg base CX0 3 f3 fd3 ["width", "height"] (spPicBox B)) (D3 : Df K mg "picture_box" f3 fd3 ["width", "height"]) : FnOk P w K mg base CX0 7 f fd ["self"] (spTotCov C) := by
  refine F.ok scTotCov (fun vs H Q E h => ?_) (fun cdv A outer s H vs Q E hr h => ?_)
  · obtain ⟨a, fp, s, rfl, _⟩ := h; rfl
  · obtain ⟨a, fp, s, rfl, zz, o, k⟩ := h
    obtain ⟨dx, R, Ct, rs, as, e, z⟩ := id zz
    refine ⟨_, pss_cons (ps_set (i := 1) scTotCov.nd rfl (Or.inl rfl) (pe_call G3 (hr.mono (by decide)) rfl D3.mg D3.kp D3.bn .nil pass0 (pa_cons (pe_callB call_len_seq (by rfl) O.len PySem.boot_len (pa_cons (pe_ix (r := rIxL K) ix_list (pe_fld (pv 0) rfl) pe_int (fun _ _ => rfl)) pa_nil)) (pa_cons (pe_callB call_len_seq (by rfl) O.len PySem.boot_len (pa_cons (pe_fld (pv 0) rfl) pa_nil)) pa_nil))))
      (pss_cons (ps_set (i := 2) scTotCov.nd rfl (Or.inl rfl) (pe_call G2 hr rfl D2.mg D2.kp D2.bn .nil pass0 (pa_cons (pe_fld (pv 0) rfl) (pa_cons (pv 1) pa_nil))))
      (pss_one (ps_ret (pe_lst (pa_cons pe_int (pa_cons (pe_ix (r := rIxT K) ix_tup (pv 2) pe_int (fun _ _ => rfl)) (pa_cons (pe_ix (r := rIxT K) ix_tup (pv 2) pe_int (fun _ _ => rfl)) pa_nil))))))), ?_⟩
    obtain ⟨r, hr0, hrow⟩ := z.rows.get (y := 0) o.h1
    have hl : (rs.map V.ref).length = s.h := by rw [List.length_map]; exact z.rows.1
    have hl0 : ((s.rows.getD 0 []).map V.int).length = s.w := List.length_map _
    refine ⟨_, rfl, a, C, dx, _, _, rfl, z.ins, T.cl, T.nR, sesF_r _ _, R, _, _, _, rfl, rfl, SqL.of z.rl, atI_nat (j := 0) (at_map hr0), r, _, rfl, .inl (SqL.of hrow), _, rfl, a, C, dx, _, _, rfl, z.ins, T.cl, T.nR, sesF_r _ _, R, _, rfl, .inl (SqL.of z.rl), (s.w : Int), (s.h : Int), (by rw [hl, hl0]; rfl), fun H1 b s1 hb hB => ?_⟩
    refine ⟨_, rfl, a, C, dx, _, _, rfl, s1 _ _ z.ins, T.cl, T.nC, sesF_c _ _, _, rfl, ?_⟩
    refine ⟨Ct, b, as, s.cs, picB s.w s.h, rfl, SqL.of (s1 _ _ z.ctl), (z.same s1).cs, o.few, o.allSmall, hB, pic_ok o.w1 o.w2 o.h1 o.h2, fun H2 q s2 hq hq1 => ?_⟩
    refine ⟨_, rfl, _, _, _, _, rfl, rfl, SqT.of hq1, rfl, _, rfl, _, _, _, _, rfl, rfl, SqT.of hq1, rfl, (by show 3 ≤ sizeLine; decide), fun p hp => ?_⟩
    exact k.one zz (s1.trans s2) hp rfl
end
end Pc
set_option Elab.async false
set_option maxRecDepth 100000
set_option maxHeartbeats 4000000
namespace Pc
open PySem PySem.Spec PyProof.Rows L2
open Cv (imax imin)
/-- the running picture: its rows, and what is fixed of it -/
structure Run (s : Ses) (st : Pst) : Prop where
  fit : Fit st.1 s.w s.h
  col : ∀ x y, x < s.w → y < s.h → 0 ≤ cellM st.1 x y ∧ cellM st.1 x y ≤ 255
theorem Run.paint {s : Ses} {st : Pst} (r : Run s st) {x y : Nat} {c : Int} (hx : x < s.w) (hy : y < s.h) (h0 : 0 ≤ c) (h1 : c ≤ 255) : Run s (paintM st x y c) := by
  refine ⟨paintM_fit r.fit hy c, fun x' y' hx' hy' => ?_⟩
  rw [paintM_cell r.fit hx hy]
  split
  · exact ⟨h0, h1⟩
  · exact r.col x' y' hx' hy'
theorem Run.ses {s : Ses} {st : Pst} (r : Run s st) (h : 1 ≤ s.h) : (Ses.mk st.1 s.cs).w = s.w ∧ (Ses.mk st.1 s.cs).h = s.h := fit_ses r.fit h s.cs
section
variable {P : Program} {w : World} {K : PySem.W.Frag} {mg : Str → Option Value} {base : Heap} {C B : Addr}
def spFill (C : Addr) : Sp := fun vs H Q _ => ∃ (a : Addr) (c : Int) (fp : List Addr) (s : Ses), vs = [.ref a, .int c] ∧ 0 ≤ c ∧ SessAt C H a fp s ∧ SesOk s ∧ RetAns C H Q a fp (mFill s c)
theorem scFill : FnScope ["self", "colour", "changed", "y", "x", "coverage"] ["self", "colour"] (defScope sFill) := ⟨rfl, rfl, rfl, by decide +kernel, rfl, by decide +kernel, by decide +kernel⟩
theorem ok_fill {f f1 f2 f3 f4 : Addr} {fd fd1 fd2 fd3 fd4 : FuncData} (F : Fun K "fill" "Session.fill" sFill f fd) (O : Own mg) (T : TxS K mg C) (Tc : TxC mg)
    (G1 : FnOk P w K mg base CX0 1 f1 fd1 ["self", "x", "y", "colour"] (spPaint C)) (M1 : Meth K C "paint" f1) (b1 : Binds K fd1 ["self", "x", "y", "colour"] [])
    (G2 : FnOk P w K mg base CX0 6 f2 fd2 ["contours", "box"] (spCovOf K B)) (D2 : Df K mg "coverage_of" f2 fd2 ["contours", "box"])
    (G3 : FnOk P w K mg base CX0 3 f3 fd3 ["x", "y"] (spPixBox B)) (D3 : Df K mg "pixel_box" f3 fd3 ["x", "y"])
    (G4 : FnOk P w K mg base CX0 2 f4 fd4 ["old", "colour", "coverage"] spFilled) (D4 : Df K mg "filled_colour" f4 fd4 ["old", "colour", "coverage"]) : FnOk P w K mg base CX0 7 f fd ["self", "colour"] (spFill C) := by
  obtain ⟨to, ho⟩ := Tc.oor
  obtain ⟨tc, hcol⟩ := Tc.colour
  refine F.ok scFill (fun vs H Q E h => ?_) (fun cdv A outer s0 H vs Q E hr h => ?_)
  · obtain ⟨a, c, fp, s, rfl, _⟩ := h; rfl
  · obtain ⟨a, c, fp, s, rfl, hc, zz, o, k⟩ := h
    obtain ⟨dx, R, Ct, rs, as, rfl, z⟩ := id zz
    refine ⟨_, pss_cons (ps_if (pt_cmpR op_gt (pv 1) (pe_gi rfl hcol) (nomark _)) (pss_one (ps_ret (pe_lst (pa_cons (pe_gi rfl ho) pa_nil)))) pss_nil)
      (pss_cons (ps_set (i := 2) scFill.nd rfl (Or.inl rfl) pe_int)
      (pss_cons (ps_for PassesOwn.never rfl (pi_range1 rfl O.range (pa_cons (pe_callB call_len_seq (by rfl) O.len PySem.boot_len (pa_cons (pe_fld (pv 0) rfl) pa_nil)) pa_nil)) (pg_name (i := 3) scFill.nd rfl (Or.inl rfl))
        (pss_one (ps_for PassesOwn.never rfl (pi_range1 rfl O.range (pa_cons (pe_callB call_len_seq (by rfl) O.len PySem.boot_len (pa_cons (pe_ix (r := rIxL K) ix_list (pe_fld (pv 0) rfl) pe_int (fun _ _ => rfl)) pa_nil)) pa_nil)) (pg_name (i := 4) scFill.nd rfl (Or.inl rfl))
          (pss_cons (ps_set (i := 5) scFill.nd rfl (Or.inl rfl) (pe_call G2 hr rfl D2.mg D2.kp D2.bn .nil pass0 (pa_cons (pe_fld (pv 0) rfl) (pa_cons (pe_call G3 (hr.mono (by decide)) rfl D3.mg D3.kp D3.bn .nil pass0 (pa_cons (pv 4) (pa_cons (pv 3) pa_nil))) pa_nil))))
          (pss_one (ps_set (i := 2) scFill.nd rfl (Or.inl rfl) (pe_op op_add (pv 2) (pe_meth (pv 0) T.cl M1 G1 (hr.mono (by decide)) b1 .nil pass0 (pa_cons (pv 4) (pa_cons (pv 3) (pa_cons
            (pe_call G4 (hr.mono (by decide)) rfl D4.mg D4.kp D4.bn .nil pass0 (pa_cons (pe_ix (r := rIxL K) ix_list (pe_ix (r := rIxL K) ix_list (pe_fld (pv 0) rfl) (pv 3) (fun _ _ => rfl)) (pv 4) (fun _ _ => rfl)) (pa_cons (pv 1) (pa_cons (pv 5) pa_nil)))) pa_nil)))))))))))
      (pss_one (ps_ret (pe_lst (pa_cons (pv 2) pa_nil)))))), ?_⟩
    unfold mFill at k
    refine ⟨_, rfl, _, _, rfl, rfl, _, rfl, ?_⟩
    refine if_both (fun h1 => ?_) (fun h1 => ?_)
    · rw [if_pos h1] at k
      exact ⟨(by show 1 ≤ sizeLine; decide), fun p hp => k.one zz (fun b o e => e) hp rfl⟩
    rw [if_neg h1] at k
    have hw1 := o.w1
    have hw2 := o.w2
    have hh1 := o.h1
    have hh2 := o.h2
    have hl : (rs.map V.ref).length = s.h := by rw [List.length_map]; exact z.rows.1
    have r0 : Run s (s.rows, 0) := ⟨o.fit, o.col⟩
    refine ⟨_, rfl, a, C, dx, _, _, rfl, z.ins, T.cl, T.nR, sesF_r _ _, R, _, rfl, .inl (SqL.of z.rl), _, rfl, by omega, by omega, ?_⟩
    rw [hl]
    refine for_range (lo := 0) (n := ((s.h : Nat) : Int).toNat)
      (fun i σ H' => ∃ (v1 v2 v3 : Option V), σ = [some (.ref a), some (.int c), some (.int (fillAll s.cs c s.w i (s.rows, 0)).2), v1, v2, v3] ∧ Run s (fillAll s.cs c s.w i (s.rows, 0)) ∧
        Ses0 C H' a dx R Ct rs as ⟨(fillAll s.cs c s.w i (s.rows, 0)).1, s.cs⟩ ∧ ∀ b o, H b = some o → b ∉ rs → H' b = some o) ⟨none, none, none, rfl, r0, z, fun b o e _ => e⟩ ?_ ?_
    · rintro i σ H1 hi ⟨v1, v2, v3, rfl, r1, z1, fr1⟩
      have hi' : i < s.h := by omega
      obtain ⟨e1, e2⟩ := r1.ses hh1
      obtain ⟨r, hr0, hrow⟩ := z1.rows.get (y := 0) (by show 0 < (fillAll s.cs c s.w i (s.rows, 0)).1.length; rw [r1.fit.len]; omega)
      have hwd := r1.fit.wide 0 (by omega)
      have hl0 : (((fillAll s.cs c s.w i (s.rows, 0)).1.getD 0 []).map V.int).length = s.w := by rw [List.length_map]; exact hwd
      refine ⟨_, rfl, a, C, dx, _, _, rfl, z1.ins, T.cl, T.nR, sesF_r _ _, R, _, _, _, rfl, rfl, SqL.of z1.rl, atI_nat (j := 0) (at_map hr0), r, _, rfl, .inl (SqL.of hrow), _, rfl, by rw [hl0]; omega, by rw [hl0]; omega, ?_⟩
      rw [hl0]
      rw [Int.zero_add]
      refine for_range (lo := 0) (n := ((s.w : Nat) : Int).toNat)
        (fun j σ H' => ∃ (v2 v3 : Option V), σ = [some (.ref a), some (.int c), some (.int (fillRow s.cs c j (fillAll s.cs c s.w i (s.rows, 0)) i).2), some (.int (i : Nat)), v2, v3] ∧ Run s (fillRow s.cs c j (fillAll s.cs c s.w i (s.rows, 0)) i) ∧
          Ses0 C H' a dx R Ct rs as ⟨(fillRow s.cs c j (fillAll s.cs c s.w i (s.rows, 0)) i).1, s.cs⟩ ∧ ∀ b o, H b = some o → b ∉ rs → H' b = some o) ⟨v2, v3, rfl, r1, z1, fr1⟩ ?_ ?_
      · rintro j σ H2 hj ⟨v2, v3, rfl, r2, z2, fr2⟩
        have hj' : j < s.w := by omega
        rw [Int.zero_add]
        generalize hst : fillRow s.cs c j (fillAll s.cs c s.w i (s.rows, 0)) i = st at *
        obtain ⟨e1, e2⟩ := r2.ses hh1
        refine ⟨_, rfl, a, C, dx, _, _, rfl, z2.ins, T.cl, T.nC, sesF_c _ _, _, rfl, _, rfl, (j : Int), (i : Int), rfl, fun H3 b s3 hb hB => ?_⟩
        have hbox : BxOk (pixB (j : Int) (i : Int)) := pix_ok (by omega) (by omega) (by omega) (by omega)
        refine ⟨Ct, b, as, s.cs, pixB j i, rfl, SqL.of (s3 _ _ z2.ctl), (z2.same s3).cs, o.few, o.allSmall, hB, hbox, fun H4 q s4 hq hq1 => ?_⟩
        have s34 := s3.trans s4
        have z4 := z2.same s34
        obtain ⟨r', hr', hrow'⟩ := z4.rows.get (y := i) (by show i < st.1.length; rw [r2.fit.len]; exact hi')
        have hcell : atI ((st.1.getD i []).map V.int) ((j : Nat) : Int) = some (.int (cellM st.1 j i)) := num_at (by rw [r2.fit.wide i hi']; exact hj')
        have hcol2 := r2.col j i hj' hi'
        have hrange := fillM_range (q := covQ (pixB j i) s.cs) hcol2.1 hcol2.2 hc (by omega)
        refine ⟨_, rfl, _, rfl, a, dx, _, rfl, z4.ins, rfl, _, rfl, _, rfl, _, rfl, a, C, dx, _, _, rfl, z4.ins, T.cl, T.nR, sesF_r _ _, _, rfl, R, _, _, _, rfl, rfl, SqL.of z4.rl, atI_nat (at_map hr'), _, rfl, r', _, _, _, rfl, rfl, SqL.of hrow', hcell, _, rfl, _, rfl, ?_⟩
        refine ⟨cellM st.1 j i, c, q, covQ (pixB j i) s.cs, rfl, hq1, covQ_den hbox o.allSmall o.few, by omega, by omega, ?_⟩
        refine ⟨a, dx, R, Ct, rs, as, ⟨st.1, s.cs⟩, j, i, _, rfl, z4, by rw [e1, e2]; exact r2.fit, by rw [e1]; exact hj', by rw [e2]; exact hi', fun H5 z5 fr5 => ?_⟩
        refine ⟨_, _, rfl, rfl, ?_⟩
        have est : fillRow s.cs c (j + 1) (fillAll s.cs c s.w i (s.rows, 0)) i = paintM st j i (fillM (cellM st.1 j i) c (covQ (pixB j i) s.cs)) := by
          rw [← hst]
          unfold fillRow
          rw [List.range_succ, List.foldl_append]
          rfl
        refine ⟨some (.int (j : Nat)), some (.ref q), ?_, ?_, ?_, ?_⟩
        · rw [est, paint_shift st]
          rfl
        · rw [est]
          exact r2.paint hj' hi' hrange.1 hrange.2
        · rw [est, paint_shift st]
          exact z5
        · intro b' o' hb' hn
          exact fr5 b' o' (s34 _ _ (fr2 b' o' hb' hn)) hn
      · rintro σ H2 ⟨v2, v3, rfl, r2, z2, fr2⟩
        have est : fillAll s.cs c s.w (i + 1) (s.rows, 0) = fillRow s.cs c ((s.w : Nat) : Int).toNat (fillAll s.cs c s.w i (s.rows, 0)) i := by
          have e : ((s.w : Nat) : Int).toNat = s.w := by omega
          rw [e]
          unfold fillAll
          rw [List.range_succ, List.foldl_append]
          rfl
        rw [← est] at r2 z2
        exact ⟨_, v2, v3, by rw [est], r2, z2, fr2⟩
    · rintro σ H1 ⟨v1, v2, v3, rfl, r1, z1, fr1⟩
      have e : ((s.h : Nat) : Int).toNat = s.h := by omega
      rw [e] at r1 z1
      rw [e]
      refine ⟨_, rfl, (by show 1 ≤ sizeLine; decide), fun p hp => ?_⟩
      have kp := z1.keep fr1
      exact k _ p (a :: Ct :: rs) ⟨dx, R, Ct, rs, as, rfl, z1.same (same_upd hp)⟩ (kp.same (same_upd hp)) (kp.free hp) upd_same
end
end Pc
set_option Elab.async false
set_option maxRecDepth 100000
set_option maxHeartbeats 4000000
namespace Pc
open PySem PySem.Spec PyProof.Rows L2
open Cv (imax imin)
section
variable {P : Program} {w : World} {K : PySem.W.Frag} {mg : Str → Option Value} {base : Heap} {C B : Addr}
theorem lineM_len {a b c d : Int} (h : InLine a b c d) : (lineM a b c d).length ≤ 2001 := by
  unfold lineM
  obtain ⟨h1, h2, h3, h4⟩ := h
  split
  · exact flatG_len ⟨h1, h2, h3, h4⟩
  · rw [List.length_map]; exact flatG_len ⟨h2, h1, h4, h3⟩
theorem drawAll_snoc (v : Int) (n m : Nat) (l : List (Int × Int)) (p : Int × Int) (st : Pst) : drawAll v n m (l ++ [p]) st = drawStep v n m (drawAll v n m l st) p := by
  unfold drawAll; rw [List.foldl_append]; rfl
def spDraw (C : Addr) : Sp := fun vs H Q _ => ∃ (a : Addr) (x0 y0 x1 y1 v : Int) (fp : List Addr) (s : Ses), vs = [.ref a, .int x0, .int y0, .int x1, .int y1, .int v] ∧ 0 ≤ x0 ∧ 0 ≤ y0 ∧ 0 ≤ x1 ∧ 0 ≤ y1 ∧ SessAt C H a fp s ∧ SesOk s ∧ RetAns C H Q a fp (mLine s x0 y0 x1 y1 v)
theorem scDraw : FnScope ["self", "x0", "y0", "x1", "y1", "colour", "pixels", "changed", "pixel"] ["self", "x0", "y0", "x1", "y1", "colour"] (defScope sDraw) := ⟨rfl, rfl, rfl, by decide +kernel, rfl, by decide +kernel, by decide +kernel⟩
theorem ok_draw {f f1 f2 f3 : Addr} {fd fd1 fd2 fd3 : FuncData} (F : Fun K "draw_line" "Session.draw_line" sDraw f fd) (O : Own mg) (T : TxS K mg C) (Tc : TxC mg)
    (G1 : FnOk P w K mg base CX0 1 f1 fd1 ["self", "x", "y", "colour"] (spPaint C)) (M1 : Meth K C "paint" f1) (b1 : Binds K fd1 ["self", "x", "y", "colour"] [])
    (G2 : FnOk P w K mg base CX0 1 f2 fd2 ["self", "x", "y"] (spHas C)) (M2 : Meth K C "has_pixel" f2) (b2 : Binds K fd2 ["self", "x", "y"] [])
    (G3 : FnOk P w K mg base CX0 4 f3 fd3 ["x0", "y0", "x1", "y1"] spLine) (D3 : Df K mg "line_pixels" f3 fd3 ["x0", "y0", "x1", "y1"]) : FnOk P w K mg base CX0 5 f fd ["self", "x0", "y0", "x1", "y1", "colour"] (spDraw C) := by
  obtain ⟨to, ho⟩ := Tc.oor
  obtain ⟨tc, hcol⟩ := Tc.colour
  obtain ⟨tl, hline⟩ := Tc.line
  refine F.ok scDraw (fun vs H Q E h => ?_) (fun cdv A outer s0 H vs Q E hr h => ?_)
  · obtain ⟨a, x0, y0, x1, y1, v, fp, s, rfl, _⟩ := h; rfl
  · obtain ⟨a, x0, y0, x1, y1, v, fp, s, rfl, n0, n1, n2, n3, zz, o, k⟩ := h
    obtain ⟨dx, R, Ct, rs, as, rfl, z⟩ := id zz
    refine ⟨_, pss_cons (ps_if (PW.pt (pw_or (pt_cmpR op_gt (pv 5) (pe_gi rfl hcol) (nomark _)) (pw_or1 (pt_cmpR op_gt (pe_callB (call_max4 rfl) (by rfl) O.max (by decide +kernel) (pa_cons (pv 1) (pa_cons (pv 2) (pa_cons (pv 3) (pa_cons (pv 4) pa_nil))))) (pe_gi rfl hline) (nomark _))))) (pss_one (ps_ret (pe_lst (pa_cons (pe_gi rfl ho) pa_nil)))) pss_nil)
      (pss_cons (ps_set (i := 6) scDraw.nd rfl (Or.inl rfl) (pe_call G3 hr rfl D3.mg D3.kp D3.bn .nil pass0 (pa_cons (pv 1) (pa_cons (pv 2) (pa_cons (pv 3) (pa_cons (pv 4) pa_nil))))))
      (pss_cons (ps_set (i := 7) scDraw.nd rfl (Or.inl rfl) pe_int)
      (pss_cons (ps_for PassesOwn.never rfl (pi_list (pv 6)) (pg_name (i := 8) scDraw.nd rfl (Or.inl rfl))
        (pss_one (ps_if (pt_val (pe_meth (pv 0) T.cl M2 G2 (hr.mono (by decide)) b2 .nil pass0 (pa_cons (pe_ix (r := rIxT K) ix_tup (pv 8) pe_int (fun _ _ => rfl)) (pa_cons (pe_ix (r := rIxT K) ix_tup (pv 8) pe_int (fun _ _ => rfl)) pa_nil))))
          (pss_one (ps_set (i := 7) scDraw.nd rfl (Or.inl rfl) (pe_op op_add (pv 7) (pe_meth (pv 0) T.cl M1 G1 (hr.mono (by decide)) b1 .nil pass0 (pa_cons (pe_ix (r := rIxT K) ix_tup (pv 8) pe_int (fun _ _ => rfl)) (pa_cons (pe_ix (r := rIxT K) ix_tup (pv 8) pe_int (fun _ _ => rfl)) (pa_cons (pv 5) pa_nil))))))) pss_nil)))
      (pss_one (ps_ret (pe_lst (pa_cons (pe_callB call_len_seq (by rfl) O.len PySem.boot_len (pa_cons (pv 6) pa_nil)) (pa_cons (pv 7) pa_nil)))))))), ?_⟩
    have bad : (v > 255 ∨ imax (imax (imax x0 y0) x1) y1 > 1000) → ((1 : Nat) ≤ sizeLine) ∧ ∀ p, H p = none → Q (.ref p) (upd H p (.lst [V.int (-1)])) := fun hb => by
      unfold mLine at k
      rw [if_pos hb] at k
      exact ⟨(by show 1 ≤ sizeLine; decide), fun p hp => k.one zz (fun b o e => e) hp rfl⟩
    refine ⟨_, rfl, _, _, rfl, rfl, _, rfl, ?_⟩
    refine if_both (fun h1 => ?_) (fun h1 => ?_)
    · exact bad (.inl h1)
    refine ⟨_, rfl, _, rfl, _, rfl, _, rfl, _, _, _, _, rfl, _, _, rfl, rfl, _, rfl, ?_⟩
    refine if_both (fun h2 => ?_) (fun h2 => ?_)
    · exact bad (.inr h2)
    unfold mLine at k
    rw [if_neg (by intro q; rcases q with q | q; exact h1 q; exact h2 q)] at k
    have hbd : ¬ x0 > 1000 ∧ ¬ y0 > 1000 ∧ ¬ x1 > 1000 ∧ ¬ y1 > 1000 := by
      have h2' : ¬ imax (imax (imax x0 y0) x1) y1 > 1000 := h2
      rw [imax_gt, imax_gt, imax_gt] at h2'
      refine ⟨fun q => h2' (.inl (.inl (.inl q))), fun q => h2' (.inl (.inl (.inr q))), fun q => h2' (.inl (.inr q)), fun q => h2' (.inr q)⟩
    have hIn : InLine x0 y0 x1 y1 := ⟨by omega, by omega, by omega, by omega⟩
    have hnn := lineM_nonneg n0 n1 n2 n3
    have hlen := lineM_len hIn
    have hw1 := o.w1
    have hh1 := o.h1
    have r0 : Run s (s.rows, 0) := ⟨o.fit, o.col⟩
    refine ⟨_, rfl, _, rfl, _, rfl, _, rfl, x0, y0, x1, y1, rfl, hIn, fun H1 L ps s1 hL hL1 hP => ?_⟩
    have hLr : L ∉ rs := fun hm => by
      obtain ⟨_, _, q⟩ := z.rows.has hm
      rw [hL] at q; cases q
    refine ⟨_, rfl, L, rfl, ⟨_, SqL.of hL1⟩, ?_⟩
    refine for_list (K := K) (a := L) (xs := ps.map V.ref)
      (fun i σ H' => ∃ (v1 : Option V), σ = [some (.ref a), some (.int x0), some (.int y0), some (.int x1), some (.int y1), some (.int v), some (.ref L), some (.int (drawAll v s.w s.h ((lineM x0 y0 x1 y1).take i) (s.rows, 0)).2), v1] ∧ Fit (drawAll v s.w s.h ((lineM x0 y0 x1 y1).take i) (s.rows, 0)).1 s.w s.h ∧
        Ses0 C H' a dx R Ct rs as ⟨(drawAll v s.w s.h ((lineM x0 y0 x1 y1).take i) (s.rows, 0)).1, s.cs⟩ ∧ ∀ b o, H1 b = some o → b ∉ rs → H' b = some o) ⟨none, rfl, o.fit, z.same s1, fun b o e _ => e⟩ (fun i σ H' _ ⟨_, _, _, _, fr⟩ => SqL.of (fr _ _ hL1 hLr)) ?_ ?_
    · rintro i y σ H2 hi ⟨v1, rfl, f2, z2, fr2⟩
      obtain ⟨e, he, rfl⟩ := map_at hi
      obtain ⟨q, hq, t1⟩ := hP.get he
      have hne : e ∉ rs := fun hm => by
        obtain ⟨_, _, w1⟩ := (z.same s1).rows.has hm
        rw [t1] at w1; cases w1
      have t2 := fr2 _ _ t1 hne
      obtain ⟨q1, q2⟩ := hnn q (List.mem_of_getElem? hq)
      have est : drawAll v s.w s.h ((lineM x0 y0 x1 y1).take (i + 1)) (s.rows, 0) = drawStep v s.w s.h (drawAll v s.w s.h ((lineM x0 y0 x1 y1).take i) (s.rows, 0)) q := by
        rw [take_more hq, drawAll_snoc]
      generalize drawAll v s.w s.h ((lineM x0 y0 x1 y1).take i) (s.rows, 0) = st at *
      obtain ⟨e1, e2⟩ := fit_ses f2 hh1 s.cs
      refine ⟨_, rfl, a, dx, _, rfl, z2.ins, rfl, _, rfl, _, _, _, _, rfl, rfl, SqT.of t2, rfl, _, rfl, _, _, _, _, rfl, rfl, SqT.of t2, rfl, ?_⟩
      refine ⟨a, q.1, q.2, a :: Ct :: rs, ⟨st.1, s.cs⟩, rfl, ⟨dx, R, Ct, rs, as, rfl, z2⟩, by rw [e2]; exact hh1, _, rfl, ?_⟩
      rw [e1, e2]
      refine if_both (fun h3 => ?_) (fun h3 => ?_)
      · have es : drawStep v s.w s.h st q = paintM st q.1.toNat q.2.toNat v := if_pos h3
        have c1 : ((q.1.toNat : Nat) : Int) = q.1 := by omega
        have c2 : ((q.2.toNat : Nat) : Int) = q.2 := by omega
        refine ⟨_, rfl, _, rfl, a, dx, _, rfl, z2.ins, rfl, _, rfl, _, _, _, _, rfl, rfl, SqT.of t2, rfl, _, rfl, _, _, _, _, rfl, rfl, SqT.of t2, rfl, _, rfl, ?_⟩
        refine ⟨a, dx, R, Ct, rs, as, ⟨st.1, s.cs⟩, q.1.toNat, q.2.toNat, v, by rw [c1, c2]; rfl, z2, by rw [e1, e2]; exact f2, by rw [e1]; omega, by rw [e2]; omega, fun H5 z5 fr5 => ?_⟩
        refine ⟨_, _, rfl, rfl, ?_⟩
        refine ⟨some (.ref e), ?_, ?_, ?_, fun b' o' hb' hn => fr5 b' o' (fr2 b' o' hb' hn) hn⟩
        · rw [est, es, paint_shift st]
          rfl
        · rw [est, es]
          exact paintM_fit f2 (by omega) v
        · rw [est, es, paint_shift st]
          exact z5
      · have es : drawStep v s.w s.h st q = st := if_neg h3
        refine ⟨some (.ref e), ?_, ?_, ?_, fr2⟩
        · rw [est, es]; rfl
        · rw [est, es]; exact f2
        · rw [est, es]; exact z2
    · rintro σ H2 ⟨v1, rfl, f2, z2, fr2⟩
      rw [List.length_map, hP.1, List.take_length] at z2
      rw [List.length_map, hP.1, List.take_length]
      have hLl : (ps.map V.ref).length = (lineM x0 y0 x1 y1).length := by rw [List.length_map]; exact hP.1
      refine ⟨_, rfl, L, _, rfl, .inl (SqL.of (fr2 _ _ hL1 hLr)), _, rfl, (by show 2 ≤ sizeLine; decide), fun p hp => ?_⟩
      have kp := z2.keep (H := H) (fun b o hb hn => fr2 b o (s1 _ _ hb) hn)
      refine k _ p (a :: Ct :: rs) ⟨dx, R, Ct, rs, as, rfl, z2.same (same_upd hp)⟩ (kp.same (same_upd hp)) (kp.free hp) ?_
      rw [upd_same, hLl]
      rfl
end
end Pc
set_option Elab.async false
set_option maxRecDepth 100000
set_option maxHeartbeats 4000000
namespace Pc
open PySem PySem.Spec PyProof.Rows L2
open Cv (imax imin)
/-! canvas -/
structure TxN (mg : Str → Option Value) : Prop where
  n1 : ∃ t, mg "BEGIN" = some (.int 1 t)
  n2 : ∃ t, mg "ADD_CONTOUR" = some (.int 2 t)
  n3 : ∃ t, mg "CLEAR" = some (.int 3 t)
  n4 : ∃ t, mg "COVERAGE" = some (.int 4 t)
  n5 : ∃ t, mg "AREA" = some (.int 5 t)
  n6 : ∃ t, mg "TOTAL_COVERAGE" = some (.int 6 t)
  n7 : ∃ t, mg "FILL" = some (.int 7 t)
  n8 : ∃ t, mg "DRAW_LINE" = some (.int 8 t)
  n9 : ∃ t, mg "ROW" = some (.int 9 t)
  n10 : ∃ t, mg "REVERSE" = some (.int 10 t)
theorem eqT {i j : Int} (h : i = j) : decide (V.int i = V.int j) = true := by rw [dint, decide_eq_true h]
theorem eqF {i j : Int} (h : ¬ i = j) : decide (V.int i = V.int j) = false := by rw [dint, decide_eq_false h]
theorem eqN {i j : Int} (h : decide (i = j) = false) : decide (V.int i = V.int j) = false := by rw [dint]; exact h
def Op.num : Op → Int
  | .begin _ _ _ => 1
  | .add _ => 2
  | .clear => 3
  | .cov _ _ => 4
  | .area => 5
  | .total => 6
  | .fill _ => 7
  | .line _ _ _ _ _ => 8
  | .row _ => 9
  | .rev => 10
theorem at_pre {pre r : List Int} {x : Int} : atI ((pre ++ x :: r).map V.int) ((pre.length : Nat) : Int) = some (.int x) := by
  refine atI_nat ?_
  rw [List.getElem?_map, List.getElem?_append_right (Nat.le_refl _), Nat.sub_self]
  rfl
theorem at_pre1 {pre r : List Int} {x y : Int} : atI ((pre ++ x :: y :: r).map V.int) ((pre.length : Nat) + 1 : Int) = some (.int y) := by
  have e : ((pre.length : Nat) + 1 : Int) = ((pre.length + 1 : Nat) : Int) := by omega
  rw [e]
  refine atI_nat ?_
  rw [List.getElem?_map, List.getElem?_append_right (by omega)]
  have e2 : pre.length + 1 - pre.length = 1 := by omega
  rw [e2]
  rfl
section
variable {P : Program} {w : World} {K : PySem.W.Frag} {mg : Str → Option Value} {base : Heap} {C B : Addr}
def spLen (K : PySem.W.Frag) : Sp := fun vs H Q _ => ∃ (a : Addr) (pre post : List Int) (o : Op), vs = [.ref a, .int (pre.length : Nat)] ∧ SqL K H a ((pre ++ (o.flat ++ post)).map V.int) ∧ Q (.int (o.flat.length : Nat)) H
theorem scLen : FnScope ["calls", "place", "operation"] ["calls", "place"] (defScope sLen) := ⟨rfl, rfl, rfl, by decide +kernel, rfl, by decide +kernel, by decide +kernel⟩
theorem ok_len {f : Addr} {fd : FuncData} (F : Fun K "call_length" "call_length" sLen f fd) (N : TxN mg) : FnOk P w K mg base CX0 1 f fd ["calls", "place"] (spLen K) := by
  obtain ⟨t1, h1⟩ := N.n1
  obtain ⟨t2, h2⟩ := N.n2
  obtain ⟨t4, h4⟩ := N.n4
  obtain ⟨t7, h7⟩ := N.n7
  obtain ⟨t8, h8⟩ := N.n8
  obtain ⟨t9, h9⟩ := N.n9
  refine F.ok scLen (fun vs H Q E h => ?_) (fun cdv A outer s0 H vs Q E hr h => ?_)
  · obtain ⟨a, pre, post, o, rfl, _⟩ := h; rfl
  · obtain ⟨a, pre, post, o, rfl, hS, k⟩ := h
    refine ⟨_, pss_cons (ps_set (i := 2) scLen.nd rfl (Or.inl rfl) (pe_ix (r := rIxL K) ix_list (pv 0) (pv 1) (fun _ _ => rfl)))
      (pss_cons (ps_if (pt_cmpR op_eq (pv 2) (pe_gi rfl h1) (nomark _)) (pss_one (ps_ret pe_int)) pss_nil)
      (pss_cons (ps_if (pt_cmpR op_eq (pv 2) (pe_gi rfl h2) (nomark _)) (pss_one (ps_ret (pe_op op_add pe_int (pe_ix (r := rIxL K) ix_list (pv 0) (pe_op op_add (pv 1) pe_int) (fun _ _ => rfl))))) pss_nil)
      (pss_cons (ps_if (pt_cmpR op_eq (pv 2) (pe_gi rfl h4) (nomark _)) (pss_one (ps_ret pe_int)) pss_nil)
      (pss_cons (ps_if (PW.pt (pw_or (pt_cmpR op_eq (pv 2) (pe_gi rfl h7) (nomark _)) (pw_or1 (pt_cmpR op_eq (pv 2) (pe_gi rfl h9) (nomark _))))) (pss_one (ps_ret pe_int)) pss_nil)
      (pss_cons (ps_if (pt_cmpR op_eq (pv 2) (pe_gi rfl h8) (nomark _)) (pss_one (ps_ret pe_int)) pss_nil)
      (pss_one (ps_ret pe_int))))))), ?_⟩
    have hat : atI ((pre ++ (o.flat ++ post)).map V.int) ((pre.length : Nat) : Int) = some (.int o.num) := by
      cases o <;> exact at_pre
    refine ⟨_, rfl, _, rfl, a, _, _, _, rfl, rfl, hS, hat, ?_⟩
    cases o with
    | begin w h c => exact ⟨_, rfl, rfl, _, rfl, if_true_of (eqT rfl) k⟩
    | add l =>
      refine ⟨_, rfl, rfl, _, rfl, if_false_of (eqN rfl) ?_⟩
      refine ⟨_, rfl, rfl, _, rfl, if_true_of (eqT rfl) ?_⟩
      refine ⟨_, rfl, _, rfl, _, _, rfl, rfl, a, _, _, _, rfl, rfl, hS, at_pre1, _, _, rfl, rfl, ?_⟩
      have e : (2 : Int) + ((l.length : Nat) : Int) = (((Op.add l).flat.length : Nat) : Int) := by
        show _ = (((l.length + 1 + 1 : Nat)) : Int)
        omega
      show Q (V.int (2 + ((l.length : Nat) : Int))) H
      rw [e]
      exact k
    | cov x y =>
      refine ⟨_, rfl, rfl, _, rfl, if_false_of (eqN rfl) ?_⟩
      refine ⟨_, rfl, rfl, _, rfl, if_false_of (eqN rfl) ?_⟩
      exact ⟨_, rfl, rfl, _, rfl, if_true_of (eqT rfl) k⟩
    | fill c =>
      refine ⟨_, rfl, rfl, _, rfl, if_false_of (eqN rfl) ?_⟩
      refine ⟨_, rfl, rfl, _, rfl, if_false_of (eqN rfl) ?_⟩
      refine ⟨_, rfl, rfl, _, rfl, if_false_of (eqN rfl) ?_⟩
      exact ⟨_, rfl, rfl, _, rfl, if_true_of (eqT rfl) k⟩
    | row y =>
      refine ⟨_, rfl, rfl, _, rfl, if_false_of (eqN rfl) ?_⟩
      refine ⟨_, rfl, rfl, _, rfl, if_false_of (eqN rfl) ?_⟩
      refine ⟨_, rfl, rfl, _, rfl, if_false_of (eqN rfl) ?_⟩
      refine ⟨_, rfl, rfl, _, rfl, if_false_of (eqN rfl) ?_⟩
      exact ⟨_, rfl, rfl, _, rfl, if_true_of (eqT rfl) k⟩
    | line x0 y0 x1 y1 v =>
      refine ⟨_, rfl, rfl, _, rfl, if_false_of (eqN rfl) ?_⟩
      refine ⟨_, rfl, rfl, _, rfl, if_false_of (eqN rfl) ?_⟩
      refine ⟨_, rfl, rfl, _, rfl, if_false_of (eqN rfl) ?_⟩
      refine ⟨_, rfl, rfl, _, rfl, if_false_of (eqN rfl) ?_⟩
      refine ⟨_, rfl, rfl, _, rfl, if_false_of (eqN rfl) ?_⟩
      exact ⟨_, rfl, rfl, _, rfl, if_true_of (eqT rfl) k⟩
    | clear =>
      refine ⟨_, rfl, rfl, _, rfl, if_false_of (eqN rfl) ?_⟩
      refine ⟨_, rfl, rfl, _, rfl, if_false_of (eqN rfl) ?_⟩
      refine ⟨_, rfl, rfl, _, rfl, if_false_of (eqN rfl) ?_⟩
      refine ⟨_, rfl, rfl, _, rfl, if_false_of (eqN rfl) ?_⟩
      refine ⟨_, rfl, rfl, _, rfl, if_false_of (eqN rfl) ?_⟩
      refine ⟨_, rfl, rfl, _, rfl, if_false_of (eqN rfl) ?_⟩
      exact k
    | area =>
      refine ⟨_, rfl, rfl, _, rfl, if_false_of (eqN rfl) ?_⟩
      refine ⟨_, rfl, rfl, _, rfl, if_false_of (eqN rfl) ?_⟩
      refine ⟨_, rfl, rfl, _, rfl, if_false_of (eqN rfl) ?_⟩
      refine ⟨_, rfl, rfl, _, rfl, if_false_of (eqN rfl) ?_⟩
      refine ⟨_, rfl, rfl, _, rfl, if_false_of (eqN rfl) ?_⟩
      refine ⟨_, rfl, rfl, _, rfl, if_false_of (eqN rfl) ?_⟩
      exact k
    | total =>
      refine ⟨_, rfl, rfl, _, rfl, if_false_of (eqN rfl) ?_⟩
      refine ⟨_, rfl, rfl, _, rfl, if_false_of (eqN rfl) ?_⟩
      refine ⟨_, rfl, rfl, _, rfl, if_false_of (eqN rfl) ?_⟩
      refine ⟨_, rfl, rfl, _, rfl, if_false_of (eqN rfl) ?_⟩
      refine ⟨_, rfl, rfl, _, rfl, if_false_of (eqN rfl) ?_⟩
      refine ⟨_, rfl, rfl, _, rfl, if_false_of (eqN rfl) ?_⟩
      exact k
    | rev =>
      refine ⟨_, rfl, rfl, _, rfl, if_false_of (eqN rfl) ?_⟩
      refine ⟨_, rfl, rfl, _, rfl, if_false_of (eqN rfl) ?_⟩
      refine ⟨_, rfl, rfl, _, rfl, if_false_of (eqN rfl) ?_⟩
      refine ⟨_, rfl, rfl, _, rfl, if_false_of (eqN rfl) ?_⟩
      refine ⟨_, rfl, rfl, _, rfl, if_false_of (eqN rfl) ?_⟩
      refine ⟨_, rfl, rfl, _, rfl, if_false_of (eqN rfl) ?_⟩
      exact k
end
end Pc
set_option Elab.async false
set_option maxRecDepth 100000
set_option maxHeartbeats 4000000
namespace Pc
open PySem PySem.Spec PyProof.Rows L2
open Cv (imax imin)
theorem RetAns.at {C : Addr} {H H1 : Hp} {Q : VK} {a : Addr} {fp : List Addr} {r : Ses × List Int} (k : RetAns C H Q a fp r) (s : Same H H1) : RetAns C H1 Q a fp r :=
  fun H' p fp' z kp hp e => k H' p fp' z ((Keep.of_same s fp).trans kp) (s.free hp) e
section
variable {P : Program} {w : World} {K : PySem.W.Frag} {mg : Str → Option Value} {base : Heap} {C B : Addr}
/-- the class's methods, as answer_to calls them -/
structure Meths (P : Program) (w : World) (K : PySem.W.Frag) (mg : Str → Option Value) (base : Heap) (C : Addr) (g1 g2 g3 g4 g5 g6 g7 g8 g9 g10 : Addr) (d1 d2 d3 d4 d5 d6 d7 d8 d9 d10 : FuncData) : Prop where
  G1 : FnOk P w K mg base CX0 2 g1 d1 ["self", "width", "height", "colour"] (spBegin C)
  M1 : Meth K C "begin" g1
  b1 : Binds K d1 ["self", "width", "height", "colour"] []
  G2 : FnOk P w K mg base CX0 2 g2 d2 ["self", "numbers"] (spAdd K C)
  M2 : Meth K C "add_contour" g2
  b2 : Binds K d2 ["self", "numbers"] []
  G3 : FnOk P w K mg base CX0 1 g3 d3 ["self"] (spClear C)
  M3 : Meth K C "clear_contours" g3
  b3 : Binds K d3 ["self"] []
  G4 : FnOk P w K mg base CX0 7 g4 d4 ["self", "x", "y"] (spCov C)
  M4 : Meth K C "coverage" g4
  b4 : Binds K d4 ["self", "x", "y"] []
  G5 : FnOk P w K mg base CX0 4 g5 d5 ["self"] (spArea C)
  M5 : Meth K C "area" g5
  b5 : Binds K d5 ["self"] []
  G6 : FnOk P w K mg base CX0 7 g6 d6 ["self"] (spTotCov C)
  M6 : Meth K C "total_coverage" g6
  b6 : Binds K d6 ["self"] []
  G7 : FnOk P w K mg base CX0 7 g7 d7 ["self", "colour"] (spFill C)
  M7 : Meth K C "fill" g7
  b7 : Binds K d7 ["self", "colour"] []
  G8 : FnOk P w K mg base CX0 5 g8 d8 ["self", "x0", "y0", "x1", "y1", "colour"] (spDraw C)
  M8 : Meth K C "draw_line" g8
  b8 : Binds K d8 ["self", "x0", "y0", "x1", "y1", "colour"] []
  G9 : FnOk P w K mg base CX0 1 g9 d9 ["self", "y"] (spRow C)
  M9 : Meth K C "row" g9
  b9 : Binds K d9 ["self", "y"] []
  G10 : FnOk P w K mg base CX0 1 g10 d10 ["self"] (spRev C)
  M10 : Meth K C "reverse_contours" g10
  b10 : Binds K d10 ["self"] []
def spTo (C : Addr) : Sp := fun vs H Q _ => ∃ (a cl : Addr) (o : Op) (fp : List Addr) (s : Ses), vs = [.ref a, .ref cl] ∧ H cl = some (.lst (o.flat.map V.int)) ∧ o.ok ∧ SessAt C H a fp s ∧ SesOk s ∧ RetAns C H Q a fp (mStep s o)
theorem scTo : FnScope ["session", "call", "operation"] ["session", "call"] (defScope sTo) := ⟨rfl, rfl, rfl, by decide +kernel, rfl, by decide +kernel, by decide +kernel⟩
theorem cut_two (a b : Int) (l : List Int) : cutV ((a :: b :: l).map V.int) (some 2) none = l.map V.int := by
  unfold cutV
  have h1 : HT.sIx ((a :: b :: l).map V.int).length 0 (some 2) = 2 := by
    have : (some (2 : Int)) = some (((2 : Nat)) : Int) := rfl
    rw [this, HT.sIx_nat]
    simp
  have h2 : HT.sIx ((a :: b :: l).map V.int).length ((a :: b :: l).map V.int).length none = ((a :: b :: l).map V.int).length := rfl
  rw [h1, h2]
  show (l.map V.int).take _ = _
  rw [List.take_of_length_le]
  simp
theorem ok_to {f g1 g2 g3 g4 g5 g6 g7 g8 g9 g10 : Addr} {fd d1 d2 d3 d4 d5 d6 d7 d8 d9 d10 : FuncData} (F : Fun K "answer_to" "answer_to" sTo f fd) (T : TxS K mg C) (N : TxN mg) (Z : Meths P w K mg base C g1 g2 g3 g4 g5 g6 g7 g8 g9 g10 d1 d2 d3 d4 d5 d6 d7 d8 d9 d10) :
    FnOk P w K mg base CX0 8 f fd ["session", "call"] (spTo C) := by
  obtain ⟨t1, h1⟩ := N.n1
  obtain ⟨t2, h2⟩ := N.n2
  obtain ⟨t3, h3⟩ := N.n3
  obtain ⟨t4, h4⟩ := N.n4
  obtain ⟨t5, h5⟩ := N.n5
  obtain ⟨t6, h6⟩ := N.n6
  obtain ⟨t7, h7⟩ := N.n7
  obtain ⟨t8, h8⟩ := N.n8
  obtain ⟨t9, h9⟩ := N.n9
  obtain ⟨t10, h10⟩ := N.n10
  refine F.ok scTo (fun vs H Q E h => ?_) (fun cdv A outer s0 H vs Q E hr h => ?_)
  · obtain ⟨a, cl, o, fp, s, rfl, _⟩ := h; rfl
  · obtain ⟨a, cl, o, fp, s, rfl, hcl, hok, zz, so, k⟩ := h
    obtain ⟨dx, R, Ct, rs, as, efp, z⟩ := id zz
    refine ⟨_, pss_cons (ps_set (i := 2) scTo.nd rfl (Or.inl rfl) (pe_ix (r := rIxL K) ix_list (pv 1) pe_int (fun _ _ => rfl)))
      (pss_cons (ps_if (pt_cmpR op_eq (pv 2) (pe_gi rfl h1) (nomark _)) (pss_one (ps_ret (pe_meth (pv 0) T.cl Z.M1 Z.G1 (hr.mono (by decide)) Z.b1 .nil pass0 (pa_cons (pe_ix (r := rIxL K) ix_list (pv 1) pe_int (fun _ _ => rfl)) (pa_cons (pe_ix (r := rIxL K) ix_list (pv 1) pe_int (fun _ _ => rfl)) (pa_cons (pe_ix (r := rIxL K) ix_list (pv 1) pe_int (fun _ _ => rfl)) pa_nil)))))) pss_nil)
      (pss_cons (ps_if (pt_cmpR op_eq (pv 2) (pe_gi rfl h2) (nomark _)) (pss_one (ps_ret (pe_meth (pv 0) T.cl Z.M2 Z.G2 (hr.mono (by decide)) Z.b2 .nil pass0 (pa_cons (pe_slice (r := rSlL K) sl_list (pv 1) (po_some pe_int) po_none) pa_nil)))) pss_nil)
      (pss_cons (ps_if (pt_cmpR op_eq (pv 2) (pe_gi rfl h3) (nomark _)) (pss_one (ps_ret (pe_meth0 (pv 0) T.cl Z.M3 Z.G3 (hr.mono (by decide)) Z.b3 .nil pass0))) pss_nil)
      (pss_cons (ps_if (pt_cmpR op_eq (pv 2) (pe_gi rfl h4) (nomark _)) (pss_one (ps_ret (pe_meth (pv 0) T.cl Z.M4 Z.G4 (hr.mono (by decide)) Z.b4 .nil pass0 (pa_cons (pe_ix (r := rIxL K) ix_list (pv 1) pe_int (fun _ _ => rfl)) (pa_cons (pe_ix (r := rIxL K) ix_list (pv 1) pe_int (fun _ _ => rfl)) pa_nil))))) pss_nil)
      (pss_cons (ps_if (pt_cmpR op_eq (pv 2) (pe_gi rfl h5) (nomark _)) (pss_one (ps_ret (pe_meth0 (pv 0) T.cl Z.M5 Z.G5 (hr.mono (by decide)) Z.b5 .nil pass0))) pss_nil)
      (pss_cons (ps_if (pt_cmpR op_eq (pv 2) (pe_gi rfl h6) (nomark _)) (pss_one (ps_ret (pe_meth0 (pv 0) T.cl Z.M6 Z.G6 (hr.mono (by decide)) Z.b6 .nil pass0))) pss_nil)
      (pss_cons (ps_if (pt_cmpR op_eq (pv 2) (pe_gi rfl h7) (nomark _)) (pss_one (ps_ret (pe_meth (pv 0) T.cl Z.M7 Z.G7 (hr.mono (by decide)) Z.b7 .nil pass0 (pa_cons (pe_ix (r := rIxL K) ix_list (pv 1) pe_int (fun _ _ => rfl)) pa_nil)))) pss_nil)
      (pss_cons (ps_if (pt_cmpR op_eq (pv 2) (pe_gi rfl h8) (nomark _)) (pss_one (ps_ret (pe_meth (pv 0) T.cl Z.M8 Z.G8 (hr.mono (by decide)) Z.b8 .nil pass0 (pa_cons (pe_ix (r := rIxL K) ix_list (pv 1) pe_int (fun _ _ => rfl)) (pa_cons (pe_ix (r := rIxL K) ix_list (pv 1) pe_int (fun _ _ => rfl)) (pa_cons (pe_ix (r := rIxL K) ix_list (pv 1) pe_int (fun _ _ => rfl)) (pa_cons (pe_ix (r := rIxL K) ix_list (pv 1) pe_int (fun _ _ => rfl)) (pa_cons (pe_ix (r := rIxL K) ix_list (pv 1) pe_int (fun _ _ => rfl)) pa_nil)))))))) pss_nil)
      (pss_cons (ps_if (pt_cmpR op_eq (pv 2) (pe_gi rfl h9) (nomark _)) (pss_one (ps_ret (pe_meth (pv 0) T.cl Z.M9 Z.G9 (hr.mono (by decide)) Z.b9 .nil pass0 (pa_cons (pe_ix (r := rIxL K) ix_list (pv 1) pe_int (fun _ _ => rfl)) pa_nil)))) pss_nil)
      (pss_cons (ps_if (pt_cmpR op_eq (pv 2) (pe_gi rfl h10) (nomark _)) (pss_one (ps_ret (pe_meth0 (pv 0) T.cl Z.M10 Z.G10 (hr.mono (by decide)) Z.b10 .nil pass0))) pss_nil)
      (pss_one ps_never))))))))))), ?_⟩
    have hat : atI (o.flat.map V.int) 0 = some (.int o.num) := by cases o <;> exact at_pre (pre := [])
    refine ⟨_, rfl, cl, _, _, _, rfl, rfl, SqL.of hcl, hat, ?_⟩
    have hcs := so.cs_len
    cases o with
    | begin wd ht c =>
      refine ⟨_, rfl, rfl, _, rfl, if_true_of (eqT rfl) ?_⟩
      refine ⟨_, rfl, a, dx, _, rfl, z.ins, rfl, _, rfl, cl, _, _, _, rfl, rfl, SqL.of hcl, rfl, _, rfl, cl, _, _, _, rfl, rfl, SqL.of hcl, rfl, _, rfl, cl, _, _, _, rfl, rfl, SqL.of hcl, rfl, ?_⟩
      exact ⟨a, wd, ht, c, fp, s, rfl, zz, k⟩
    | add l =>
      refine ⟨_, rfl, rfl, _, rfl, if_false_of (eqN rfl) ?_⟩
      refine ⟨_, rfl, rfl, _, rfl, if_true_of (eqT rfl) ?_⟩
      refine ⟨_, rfl, a, dx, _, rfl, z.ins, rfl, _, rfl, 2, rfl, cl, _, rfl, SqL.of hcl, fun n hn => ?_⟩
      have s1 : Same H (upd H n (.lst (cutV ((Op.add l).flat.map V.int) (some 2) none))) := same_upd hn
      refine ⟨a, n, l, fp, s, rfl, ?_, hok.1, zz.same s1, so, RetAns.at k s1⟩
      refine SqL.of ?_
      rw [upd_same]
      exact congrArg (fun q => some (HO.lst q)) (cut_two 2 ((l.length : Nat) : Int) l)
    | clear =>
      refine ⟨_, rfl, rfl, _, rfl, if_false_of (eqN rfl) ?_⟩
      refine ⟨_, rfl, rfl, _, rfl, if_false_of (eqN rfl) ?_⟩
      refine ⟨_, rfl, rfl, _, rfl, if_true_of (eqT rfl) ?_⟩
      exact ⟨_, rfl, a, dx, _, rfl, z.ins, rfl, a, fp, s, rfl, zz, k⟩
    | cov x y =>
      refine ⟨_, rfl, rfl, _, rfl, if_false_of (eqN rfl) ?_⟩
      refine ⟨_, rfl, rfl, _, rfl, if_false_of (eqN rfl) ?_⟩
      refine ⟨_, rfl, rfl, _, rfl, if_false_of (eqN rfl) ?_⟩
      refine ⟨_, rfl, rfl, _, rfl, if_true_of (eqT rfl) ?_⟩
      exact ⟨_, rfl, a, dx, _, rfl, z.ins, rfl, _, rfl, cl, _, _, _, rfl, rfl, SqL.of hcl, rfl, _, rfl, cl, _, _, _, rfl, rfl, SqL.of hcl, rfl, a, x, y, fp, s, rfl, hok.1.1, hok.2.1, zz, so, k⟩
    | area =>
      refine ⟨_, rfl, rfl, _, rfl, if_false_of (eqN rfl) ?_⟩
      refine ⟨_, rfl, rfl, _, rfl, if_false_of (eqN rfl) ?_⟩
      refine ⟨_, rfl, rfl, _, rfl, if_false_of (eqN rfl) ?_⟩
      refine ⟨_, rfl, rfl, _, rfl, if_false_of (eqN rfl) ?_⟩
      refine ⟨_, rfl, rfl, _, rfl, if_true_of (eqT rfl) ?_⟩
      exact ⟨_, rfl, a, dx, _, rfl, z.ins, rfl, a, fp, s, rfl, zz, so, k⟩
    | total =>
      refine ⟨_, rfl, rfl, _, rfl, if_false_of (eqN rfl) ?_⟩
      refine ⟨_, rfl, rfl, _, rfl, if_false_of (eqN rfl) ?_⟩
      refine ⟨_, rfl, rfl, _, rfl, if_false_of (eqN rfl) ?_⟩
      refine ⟨_, rfl, rfl, _, rfl, if_false_of (eqN rfl) ?_⟩
      refine ⟨_, rfl, rfl, _, rfl, if_false_of (eqN rfl) ?_⟩
      refine ⟨_, rfl, rfl, _, rfl, if_true_of (eqT rfl) ?_⟩
      exact ⟨_, rfl, a, dx, _, rfl, z.ins, rfl, a, fp, s, rfl, zz, so, k⟩
    | fill c =>
      refine ⟨_, rfl, rfl, _, rfl, if_false_of (eqN rfl) ?_⟩
      refine ⟨_, rfl, rfl, _, rfl, if_false_of (eqN rfl) ?_⟩
      refine ⟨_, rfl, rfl, _, rfl, if_false_of (eqN rfl) ?_⟩
      refine ⟨_, rfl, rfl, _, rfl, if_false_of (eqN rfl) ?_⟩
      refine ⟨_, rfl, rfl, _, rfl, if_false_of (eqN rfl) ?_⟩
      refine ⟨_, rfl, rfl, _, rfl, if_false_of (eqN rfl) ?_⟩
      refine ⟨_, rfl, rfl, _, rfl, if_true_of (eqT rfl) ?_⟩
      exact ⟨_, rfl, a, dx, _, rfl, z.ins, rfl, _, rfl, cl, _, _, _, rfl, rfl, SqL.of hcl, rfl, a, c, fp, s, rfl, hok.1, zz, so, k⟩
    | line x0 y0 x1 y1 v =>
      refine ⟨_, rfl, rfl, _, rfl, if_false_of (eqN rfl) ?_⟩
      refine ⟨_, rfl, rfl, _, rfl, if_false_of (eqN rfl) ?_⟩
      refine ⟨_, rfl, rfl, _, rfl, if_false_of (eqN rfl) ?_⟩
      refine ⟨_, rfl, rfl, _, rfl, if_false_of (eqN rfl) ?_⟩
      refine ⟨_, rfl, rfl, _, rfl, if_false_of (eqN rfl) ?_⟩
      refine ⟨_, rfl, rfl, _, rfl, if_false_of (eqN rfl) ?_⟩
      refine ⟨_, rfl, rfl, _, rfl, if_false_of (eqN rfl) ?_⟩
      refine ⟨_, rfl, rfl, _, rfl, if_true_of (eqT rfl) ?_⟩
      refine ⟨_, rfl, a, dx, _, rfl, z.ins, rfl, _, rfl, cl, _, _, _, rfl, rfl, SqL.of hcl, rfl, _, rfl, cl, _, _, _, rfl, rfl, SqL.of hcl, rfl, _, rfl, cl, _, _, _, rfl, rfl, SqL.of hcl, rfl, _, rfl, cl, _, _, _, rfl, rfl, SqL.of hcl, rfl, _, rfl, cl, _, _, _, rfl, rfl, SqL.of hcl, rfl, ?_⟩
      exact ⟨a, x0, y0, x1, y1, v, fp, s, rfl, hok.1.1, hok.2.1.1, hok.2.2.1.1, hok.2.2.2.1.1, zz, so, k⟩
    | row y =>
      refine ⟨_, rfl, rfl, _, rfl, if_false_of (eqN rfl) ?_⟩
      refine ⟨_, rfl, rfl, _, rfl, if_false_of (eqN rfl) ?_⟩
      refine ⟨_, rfl, rfl, _, rfl, if_false_of (eqN rfl) ?_⟩
      refine ⟨_, rfl, rfl, _, rfl, if_false_of (eqN rfl) ?_⟩
      refine ⟨_, rfl, rfl, _, rfl, if_false_of (eqN rfl) ?_⟩
      refine ⟨_, rfl, rfl, _, rfl, if_false_of (eqN rfl) ?_⟩
      refine ⟨_, rfl, rfl, _, rfl, if_false_of (eqN rfl) ?_⟩
      refine ⟨_, rfl, rfl, _, rfl, if_false_of (eqN rfl) ?_⟩
      refine ⟨_, rfl, rfl, _, rfl, if_true_of (eqT rfl) ?_⟩
      exact ⟨_, rfl, a, dx, _, rfl, z.ins, rfl, _, rfl, cl, _, _, _, rfl, rfl, SqL.of hcl, rfl, a, y, fp, s, rfl, hok.1, zz, so, k⟩
    | rev =>
      refine ⟨_, rfl, rfl, _, rfl, if_false_of (eqN rfl) ?_⟩
      refine ⟨_, rfl, rfl, _, rfl, if_false_of (eqN rfl) ?_⟩
      refine ⟨_, rfl, rfl, _, rfl, if_false_of (eqN rfl) ?_⟩
      refine ⟨_, rfl, rfl, _, rfl, if_false_of (eqN rfl) ?_⟩
      refine ⟨_, rfl, rfl, _, rfl, if_false_of (eqN rfl) ?_⟩
      refine ⟨_, rfl, rfl, _, rfl, if_false_of (eqN rfl) ?_⟩
      refine ⟨_, rfl, rfl, _, rfl, if_false_of (eqN rfl) ?_⟩
      refine ⟨_, rfl, rfl, _, rfl, if_false_of (eqN rfl) ?_⟩
      refine ⟨_, rfl, rfl, _, rfl, if_false_of (eqN rfl) ?_⟩
      refine ⟨_, rfl, rfl, _, rfl, if_true_of (eqT rfl) ?_⟩
      exact ⟨_, rfl, a, dx, _, rfl, z.ins, rfl, a, fp, s, rfl, zz, by omega, k⟩
end
end Pc
set_option Elab.async false
set_option maxRecDepth 100000
set_option maxHeartbeats 4000000
namespace Pc
open PySem PySem.Spec PyProof.Rows L2
open Cv (imax imin)
def mSt (s : Ses) (l : List Op) : Ses := l.foldl (fun s o => (mStep s o).1) s
theorem mPlay_snoc (o : Op) : ∀ (l : List Op) (s : Ses), mPlay s (l ++ [o]) = mPlay s l ++ [(mStep (mSt s l) o).2]
  | [], s => rfl
  | p :: l, s => by
    show (mStep s p).2 :: mPlay (mStep s p).1 (l ++ [o]) = _
    rw [mPlay_snoc o l]
    rfl
theorem told_snoc (l : List (List Int)) (a : List Int) : PyFlat.told (l ++ [a]) = PyFlat.told l ++ [((a.length : Nat) : Int)] ++ a := by
  unfold PyFlat.told
  rw [List.flatMap_append]
  simp
theorem ans_len {s : Ses} (o : SesOk s) (p : Op) : (mStep s p).2.length ≤ 17 := by
  have hw := o.w2
  cases p with
  | begin w h c => show (mBegin s w h c).2.length ≤ 17; unfold mBegin; split <;> exact (by decide : 1 ≤ 17)
  | add l =>
    show (mAdd s l).2.length ≤ 17
    unfold mAdd
    split
    · exact (by decide : 1 ≤ 17)
    · split
      · exact (by decide : 1 ≤ 17)
      · split <;> exact (by decide : 1 ≤ 17)
  | clear => exact (by decide : 1 ≤ 17)
  | cov x y => show (mCov s x y).2.length ≤ 17; unfold mCov; split; exact (by decide : 3 ≤ 17); exact (by decide : 1 ≤ 17)
  | area => exact (by decide : 3 ≤ 17)
  | total => exact (by decide : 3 ≤ 17)
  | fill c => show (mFill s c).2.length ≤ 17; unfold mFill; split <;> exact (by decide : 1 ≤ 17)
  | line a b c d v => show (mLine s a b c d v).2.length ≤ 17; unfold mLine; split; exact (by decide : 1 ≤ 17); exact (by decide : 2 ≤ 17)
  | row y =>
    show (mRow s y).2.length ≤ 17
    unfold mRow
    split
    · exact (by decide : 1 ≤ 17)
    · show (s.rows.getD y.toNat []).length + 1 ≤ 17
      by_cases h : y.toNat < s.h
      · rw [o.fit.wide _ h]; omega
      · have : s.rows.getD y.toNat [] = [] := by
          rw [List.getD_eq_getElem?_getD, List.getElem?_eq_none (by rw [o.fit.len]; omega)]; rfl
        rw [this]; exact (by decide : 1 ≤ 17)
  | rev => exact (by decide : 1 ≤ 17)
theorem st_ok {ops : List Op} (h : ∀ o ∈ ops, o.ok) : SesOk (mSt mStart ops) := by
  have k : ∀ (l : List Op) (s : Ses), SesOk s → (∀ o ∈ l, o.ok) → SesOk (mSt s l) := by
    intro l
    induction l with
    | nil => intro s o _; exact o
    | cons p l ih => intro s o h; exact ih _ (step_keeps o (h p (by simp))) fun q hq => h q (by simp [hq])
  exact k ops _ ok_start h
theorem told_len : ∀ (l : List Op) (s : Ses), SesOk s → (∀ o ∈ l, o.ok) → (PyFlat.told (mPlay s l)).length ≤ 18 * l.length
  | [], _, _, _ => Nat.le_refl _
  | p :: l, s, o, h => by
    have ih := told_len l _ (step_keeps o (h p (by simp))) fun q hq => h q (by simp [hq])
    have := ans_len o p
    show (((mStep s p).2.length : Int) :: (mStep s p).2 ++ PyFlat.told (mPlay (mStep s p).1 l)).length ≤ _
    rw [List.cons_append, List.length_cons, List.length_append, List.length_cons]
    omega
theorem SessAt.upd {C : Addr} {H : Hp} {a T : Addr} {fp : List Addr} {s : Ses} {l : List Int} {o' : HO} (x : SessAt C H a fp s) (o : SesOk s) (hT : H T = some (.lst (l.map V.int))) (hn : T ∉ fp) : SessAt C (upd H T o') a fp s := by
  obtain ⟨dx, R, Ct, rs, as, rfl, z⟩ := x
  have ref_ne : ∀ (b : Addr) (qs : List Addr), qs ≠ [] → H b = some (.lst (qs.map V.ref)) → b ≠ T := by
    rintro b qs hq hb rfl
    rw [hT] at hb
    injection hb with hb
    injection hb with hb
    exact hq (ints_refs hb).2
  have hR : rs ≠ [] := by
    rintro rfl
    have := z.rows.1
    have h1 := o.h1
    have h2 : s.rows.length = s.h := rfl
    rw [← h2] at h1
    rw [← this] at h1
    exact absurd h1 (by show ¬ 1 ≤ 0; omega)
  refine ⟨dx, R, Ct, rs, as, rfl, ?_, ?_, ?_, ?_, ?_, z.nd, z.ne, z.out⟩
  · rw [upd_ne (fun q => hn (by rw [← q]; simp))]; exact z.ins
  · rw [upd_ne (ref_ne _ _ hR z.rl)]; exact z.rl
  · rw [upd_ne (fun q => hn (by rw [← q]; simp))]; exact z.ctl
  · refine z.rows.same fun r hr o1 e => ?_
    rw [upd_ne (fun q => hn (by rw [← q]; simp [hr]))]; exact e
  · refine z.cs.same (fun b xs hb => ?_) fun b hb o1 e => ?_
    · rw [upd_ne (ne_of hb hT (by intro q; cases q))]; exact hb
    · obtain ⟨i, hi, rfl⟩ := List.getElem_of_mem hb
      obtain ⟨c, hc, ps, hps, hP⟩ := z.cs.get (List.getElem?_eq_getElem hi)
      have hq : ps ≠ [] := by
        rintro rfl
        have h3 := o.three c (List.mem_of_getElem? hc)
        have h4 := hP.1
        rw [← h4] at h3
        exact absurd h3 (by show ¬ 3 ≤ 0; omega)
      rw [upd_ne (ref_ne _ _ hq hps)]; exact e
theorem SqL.keep {K : PySem.W.Frag} {H H' : Hp} {a : Addr} {xs : List V} (x : SqL K H a xs) (s : Same H H') : SqL K H' a xs := s.seq x
theorem cut_mid (pre mid post : List Int) : cutV ((pre ++ (mid ++ post)).map V.int) (some ((pre.length : Nat) : Int)) (some (((pre.length : Nat) : Int) + ((mid.length : Nat) : Int))) = mid.map V.int := by
  have e : ((pre.length : Nat) : Int) + ((mid.length : Nat) : Int) = (((pre.length + mid.length : Nat)) : Int) := by omega
  rw [e]
  unfold cutV
  rw [HT.sIx_nat, HT.sIx_nat]
  have l1 : ((pre ++ (mid ++ post)).map V.int).length = pre.length + (mid.length + post.length) := by rw [List.length_map, List.length_append, List.length_append]
  rw [l1]
  have m1 : min pre.length (pre.length + (mid.length + post.length)) = pre.length := by omega
  have m2 : min (pre.length + mid.length) (pre.length + (mid.length + post.length)) = pre.length + mid.length := by omega
  rw [m1, m2]
  have m3 : pre.length + mid.length - pre.length = mid.length := by omega
  rw [m3, ← List.map_drop, ← List.map_take, List.drop_left, List.take_left]
def muAns (n : Nat) : L2.St → Nat
  | [_, _, _, some (.int p), _, _] => n - p.toNat
  | _ => 0
theorem flat_pos (o : Op) : 1 ≤ o.flat.length := by cases o <;> simp [Op.flat]
section
variable {P : Program} {w : World} {K : PySem.W.Frag} {mg : Str → Option Value} {base : Heap} {C B : Addr}
def spAns (K : PySem.W.Frag) : Sp := fun vs H Q _ => ∃ (a : Addr) (ops : List Op), vs = [.ref a] ∧ SqL K H a ((ops.flatMap Op.flat).map V.int) ∧ ops.length ≤ 60 ∧ (∀ o ∈ ops, o.ok) ∧
  ∀ (H' : Hp) (p : Addr), H' p = some (.lst ((PyFlat.told (mPlay mStart ops)).map V.int)) → Q (.ref p) H'
theorem scAns : FnScope ["calls", "session", "told", "place", "behind", "answer"] ["calls"] (defScope sAns) := ⟨rfl, rfl, rfl, by decide +kernel, rfl, by decide +kernel, by decide +kernel⟩
theorem ok_ans {f fI f1 f2 : Addr} {fd fdI fd1 fd2 : FuncData} (F : Fun K "answers" "answers" sAns f fd) (O : Own mg) (T : TxS K mg C) (M : Mk K C fI)
    (GI : FnOk P w K mg base CX0 2 fI fdI ["self"] (spSesI C)) (bI : Binds K fdI ["self"] [])
    (G1 : FnOk P w K mg base CX0 1 f1 fd1 ["calls", "place"] (spLen K)) (D1 : Df K mg "call_length" f1 fd1 ["calls", "place"])
    (G2 : FnOk P w K mg base CX0 8 f2 fd2 ["session", "call"] (spTo C)) (D2 : Df K mg "answer_to" f2 fd2 ["session", "call"]) : FnOk P w K mg base CX0 9 f fd ["calls"] (spAns K) := by
  refine F.ok scAns (fun vs H Q E h => ?_) (fun cdv A outer s0 H vs Q E hr h => ?_)
  · obtain ⟨a, ops, rfl, _⟩ := h; rfl
  · obtain ⟨a, ops, rfl, hS, hlen, hok, k⟩ := h
    refine ⟨_, pss_cons (ps_set (i := 1) scAns.nd rfl (Or.inl rfl) (pe_make0 M GI (hr.mono (by decide)) rfl T.mgC bI .nil pass0))
      (pss_cons (ps_set (i := 2) scAns.nd rfl (Or.inl rfl) (pe_lst pa_nil))
      (pss_cons (ps_set (i := 3) scAns.nd rfl (Or.inl rfl) pe_int)
      (pss_cons (ps_while PassesOwn.never (pt_cmpR op_lt (pv 3) (pe_callB call_len_seq (by rfl) O.len PySem.boot_len (pa_cons (pv 0) pa_nil)) (nomark _))
        (pss_cons (ps_set (i := 4) scAns.nd rfl (Or.inl rfl) (pe_op op_add (pv 3) (pe_call G1 (hr.mono (by decide)) rfl D1.mg D1.kp D1.bn .nil pass0 (pa_cons (pv 0) (pa_cons (pv 3) pa_nil)))))
        (pss_cons (ps_set (i := 5) scAns.nd rfl (Or.inl rfl) (pe_call G2 hr rfl D2.mg D2.kp D2.bn .nil pass0 (pa_cons (pv 1) (pa_cons (pe_slice (r := rSlL K) sl_list (pv 0) (po_some (pv 3)) (po_some (pv 4))) pa_nil))))
        (pss_cons (ps_expr (pe_bm PySem.F.plainAttrs_list PySem.F.slot_list_append PySem.F.type_list_append mt_append (pv 2) (pa_cons (pe_callB call_len_seq (by rfl) O.len PySem.boot_len (pa_cons (pv 5) pa_nil)) pa_nil)))
        (pss_cons (ps_expr (pe_bm PySem.F.plainAttrs_list PySem.F.slot_list_extend PySem.F.type_list_extend mt_extend (pv 2) (pa_cons (pv 5) pa_nil)))
        (pss_one (ps_set (i := 3) scAns.nd rfl (Or.inl rfl) (pv 4))))))))
      (pss_one (ps_ret (pv 2)))))), ?_⟩
    intro z dx nz nd ne
    refine ⟨z, dx, rfl, upd_same, fun H1 fp zs old new => ⟨rfl, ?_⟩⟩
    have s1 : Same H H1 := fun b o e => by
      have hbz : b ≠ z := ne_of_none e nz
      have hbd : b ≠ dx := ne_of_none e nd
      exact old b o (by rw [upd_ne hbz, upd_ne hbd]; exact e) hbz
    have n1 : ∀ b ∈ fp, H b = none := fun b hb => by
      rcases new b hb with h | h
      · rw [h]; exact nz
      · cases e : H b with
        | none => rfl
        | some o =>
          rw [upd_ne (ne_of_none e nz), upd_ne (ne_of_none e nd), e] at h
          cases h
    refine ⟨Nat.zero_le _, fun Tl hT => ?_⟩
    have hsz : (2000 : Nat) < sizeLine := by decide
    have hTf : Tl ∉ fp := fun hm => by
      obtain ⟨dx', R, Ct, rs, as, e, y⟩ := zs
      rw [e] at hm
      rcases List.mem_cons.mp hm with h | h
      · rw [h, y.ins] at hT; cases hT
      · rcases List.mem_cons.mp h with h | h
        · rw [h, y.ctl] at hT; cases hT
        · obtain ⟨_, _, q⟩ := y.rows.has h
          rw [q] at hT; cases hT
    refine while_by (fun σ H' => ∃ (done rest : List Op) (fp : List Addr) (v4 v5 : Option V), ops = done ++ rest ∧ σ = [some (.ref a), some (.ref z), some (.ref Tl), some (.int ((done.flatMap Op.flat).length : Nat)), v4, v5] ∧
        H' Tl = some (.lst ((PyFlat.told (mPlay mStart done)).map V.int)) ∧ SessAt C H' z fp (mSt mStart done) ∧ Tl ∉ fp ∧ (∀ b ∈ fp, H b = none) ∧ Same H H') (fun σ _ => muAns (ops.flatMap Op.flat).length σ)
      ⟨[], ops, fp, none, none, rfl, rfl, upd_same, zs.same (same_upd hT), hTf, n1, s1.trans (same_upd hT)⟩ ?_ ?_
    · rintro σ H2 ⟨done, rest, fp2, v4, v5, eo, rfl, t2, z2, f2, n2, s2⟩
      have hS2 : SqL K H2 a ((ops.flatMap Op.flat).map V.int) := s2.seq hS
      refine ⟨_, rfl, _, rfl, a, _, rfl, .inl hS2, _, _, rfl, rfl, _, rfl, ?_⟩
      rw [List.length_map]
      cases rest with
      | nil =>
        rw [List.append_nil] at eo
        subst eo
        refine if_false_of (decide_eq_false (by omega)) ?_
        exact ⟨_, rfl, k _ Tl t2⟩
      | cons o rest =>
        have hfl : ops.flatMap Op.flat = done.flatMap Op.flat ++ (o.flat ++ rest.flatMap Op.flat) := by
          rw [eo, List.flatMap_append, List.flatMap_cons]
        have hop := flat_pos o
        have hoo : o.ok := hok o (by rw [eo]; simp)
        have hdone : ∀ q ∈ done, q.ok := fun q hq => hok q (by rw [eo]; simp [hq])
        have so := st_ok hdone
        have hdl : done.length + 1 ≤ 60 := by
          have : ops.length = done.length + (rest.length + 1) := by rw [eo, List.length_append, List.length_cons]
          omega
        have hll : (ops.flatMap Op.flat).length = (done.flatMap Op.flat).length + (o.flat.length + (rest.flatMap Op.flat).length) := by rw [hfl, List.length_append, List.length_append]
        refine if_true_of (decide_eq_true (by omega)) ?_
        rw [hfl] at hS2
        refine ⟨_, rfl, _, rfl, _, rfl, a, done.flatMap Op.flat, rest.flatMap Op.flat, o, rfl, hS2, _, _, rfl, rfl, ?_⟩
        refine ⟨_, rfl, _, rfl, _, rfl, _, rfl, _, rfl, _, rfl, a, _, rfl, hS2, fun cl hcl => ?_⟩
        rw [cut_mid]
        have s3 : Same H2 (upd H2 cl (.lst (o.flat.map V.int))) := same_upd hcl
        refine ⟨z, cl, o, fp2, mSt mStart done, rfl, upd_same, hoo, z2.same s3, so, fun H4 p fp4 z4 kp hp hp4 => ?_⟩
        have t3 := s3 _ _ t2
        have t4 : H4 Tl = _ := kp.old _ _ t3 f2
        have hpT : p ≠ Tl := Ne.symm (ne_of_none t3 hp)
        have f4 : Tl ∉ fp4 := fun hm => by
          rcases kp.new _ hm with h | h
          · exact f2 h
          · rw [t3] at h; cases h
        have n4 : ∀ b ∈ fp4, H b = none := fun b hb => by
          rcases kp.new b hb with h | h
          · exact n2 b h
          · exact (s2.trans s3).free h
        have s4 : Same H H4 := fun b o' e => kp.old _ _ (s3 _ _ (s2 _ _ e)) fun h => by rw [n2 b h] at e; cases e
        have so4 := step_keeps so hoo
        have hal := ans_len so o
        have htl := told_len done mStart ok_start hdone
        have hTn : H Tl = none := by
          cases e : H Tl with
          | none => rfl
          | some o' => rw [s1 _ _ e] at hT; cases hT
        refine ⟨_, rfl, .inl ⟨rfl, _, SqL.of t4⟩, _, rfl, p, _, rfl, .inl (SqL.of hp4), Tl, _, _, rfl, rfl, t4, by rw [List.length_map]; omega, ?_⟩
        refine ⟨_, rfl, .inl ⟨rfl, _, SqL.of upd_same⟩, _, rfl, Tl, p, _, _, rfl, rfl, upd_same, (by rw [upd_ne hpT]; exact hp4), ?_, ?_⟩
        · rw [List.length_append, List.length_map, List.length_map]; show _ + 1 + _ ≤ _; omega
        refine ⟨_, rfl, ?_⟩
        have eplay : mPlay mStart (done ++ [o]) = mPlay mStart done ++ [(mStep (mSt mStart done) o).2] := mPlay_snoc o done mStart
        have est : mSt mStart (done ++ [o]) = (mStep (mSt mStart done) o).1 := by unfold mSt; rw [List.foldl_append]; rfl
        have efl : ((done ++ [o]).flatMap Op.flat).length = (done.flatMap Op.flat).length + o.flat.length := by
          rw [List.flatMap_append, List.length_append]; simp
        refine ⟨⟨done ++ [o], rest, fp4, some (.int (((done.flatMap Op.flat).length : Nat) + (o.flat.length : Nat))), some (.ref p), ?_, ?_, ?_, ?_, f4, n4, ?_⟩, ?_⟩
        · rw [eo]; simp
        · rw [efl]; rfl
        · rw [upd_same, eplay, told_snoc, List.map_append, List.map_append]
          rw [List.length_map]
          rfl
        · rw [est]
          refine (z4.upd so4 t4 f4).upd so4 (l := PyFlat.told (mPlay mStart done) ++ [(((mStep (mSt mStart done) o).2.length : Nat) : Int)]) ?_ f4
          rw [upd_same, List.map_append, List.length_map]
          rfl
        · exact sOld (sOld s4 hTn) hTn
        · show (ops.flatMap Op.flat).length - (((done.flatMap Op.flat).length : Nat) + (o.flat.length : Nat) : Int).toNat < (ops.flatMap Op.flat).length - (((done.flatMap Op.flat).length : Nat) : Int).toNat
          omega
    · rintro σ H' Q1 Q2 hq ⟨v, h1, v2, h2, a2, ys, h3, h4, x1, x2, e1, e2, k', e, h5⟩
      exact ⟨v, h1, v2, h2, a2, ys, h3, h4, x1, x2, e1, e2, k', e, hq _ _ h5⟩
end
end Pc
set_option Elab.async false
set_option maxRecDepth 100000
set_option maxHeartbeats 4000000
namespace Pc
open PySem PySem.Spec PyProof.Rows L2
/-! The end: what the program's top has left. -/
def TopDef (K : PySem.W.Frag) (mg : Str → Option Value) (x : Str) (st : Stmt) : Prop := ∃ (f : Addr) (fd : FuncData), mg x = some (.ref f) ∧ Fun K x x st f fd
def MetDef (K : PySem.W.Frag) (C : Addr) (x q : Str) (st : Stmt) : Prop := ∃ (f : Addr) (fd : FuncData), PySem.W.findIn K (.ref C) x = some (some (.ref f)) ∧ PySem.W.isFn K (.ref f) = true ∧ Fun K x q st f fd
theorem topDef {K : PySem.W.Frag} {h : Heap} {mg : Str → Option Value} (X : K.In h) (G : h.Ns mainGlobals mg) {x : Str} {st : Stmt} {f : Addr} {od an : Option Addr} {sl : Array (Option Value)} {oc kV dc pm cd ct : Value}
    (a : PySem.W.nsIn K mainGlobals x = some (some (.ref f))) (l : K.lookup f = some ⟨oc, od, .func (PySem.W.fnOf x x (defArgs st) (defBody st) (defScope st) .none kV dc pm an cd ct), sl⟩) (c : PySem.W.codeIn K cd x = true) (k : PySem.W.keepIn K (.ref f) = true) : TopDef K mg x st :=
  ⟨f, _, PySem.W.mg_of X G a, fun_mk (st := st) l c k⟩
theorem metDef {K : PySem.W.Frag} {C : Addr} {x q : Str} {st : Stmt} {f : Addr} {od an : Option Addr} {sl : Array (Option Value)} {oc kV dc pm cd ct : Value}
    (a : PySem.W.findIn K (.ref C) x = some (some (.ref f))) (i : PySem.W.isFn K (.ref f) = true) (l : K.lookup f = some ⟨oc, od, .func (PySem.W.fnOf x q (defArgs st) (defBody st) (defScope st) .none kV dc pm an cd ct), sl⟩) (c : PySem.W.codeIn K cd q = true) (k : PySem.W.keepIn K (.ref f) = true) : MetDef K C x q st :=
  ⟨f, _, a, i, fun_mk (st := st) l c k⟩
theorem numDef {K : PySem.W.Frag} {h : Heap} {mg : Str → Option Value} (X : K.In h) (G : h.Ns mainGlobals mg) {x : Str} {n : Int} {t : Tok} (a : PySem.W.nsIn K mainGlobals x = some (some (.int n t))) : ∃ t, mg x = some (.int n t) := ⟨t, PySem.W.mg_of X G a⟩
structure ClsFacts (K : PySem.W.Frag) (C : Addr) : Prop where
  cls : Cls K C
  makes : PySem.W.makesIn K C = true
  kc : PySem.W.keepIn K (.ref C) = true
/-- all that stands -/
structure Stands (K : PySem.W.Frag) (mg : Str → Option Value) (B S : Addr) : Prop where
  own : Own mg
  box : ClsFacts K B
  txb : TxB K mg B
  boxI : MetDef K B "__init__" "Box.__init__" sBoxI
  ses : ClsFacts K S
  txs : TxS K mg S
  txc : TxC mg
  txn : TxN mg
  sGcd : TopDef K mg "common_divisor" Pc.sGcd
  sLow : TopDef K mg "lowest_terms" Pc.sLow
  sNeg : TopDef K mg "negated" Pc.sNeg
  sNear : TopDef K mg "nearest" Pc.sNear
  sTotal : TopDef K mg "total" Pc.sTotal
  sPixBox : TopDef K mg "pixel_box" Pc.sPixBox
  sPicBox : TopDef K mg "picture_box" Pc.sPicBox
  sEdges : TopDef K mg "edges_of" Pc.sEdges
  sEdgesAll : TopDef K mg "edges_of_all" Pc.sEdgesAll
  sBeyond : TopDef K mg "area_beyond" Pc.sBeyond
  sLeft : TopDef K mg "area_left_of" Pc.sLeft
  sShare : TopDef K mg "edge_share" Pc.sShare
  sCovOf : TopDef K mg "coverage_of" Pc.sCovOf
  sAreaOf : TopDef K mg "area_of" Pc.sAreaOf
  sFlat : TopDef K mg "flat_line" Pc.sFlat
  sLine : TopDef K mg "line_pixels" Pc.sLine
  sIsSide : TopDef K mg "is_side" Pc.sIsSide
  sPlain : TopDef K mg "plain_rows" Pc.sPlain
  sPairs : TopDef K mg "corner_pairs" Pc.sPairs
  sFilled : TopDef K mg "filled_colour" Pc.sFilled
  sLen : TopDef K mg "call_length" Pc.sLen
  sTo : TopDef K mg "answer_to" Pc.sTo
  sAns : TopDef K mg "answers" Pc.sAns
  sSesI : MetDef K S "__init__" "Session.__init__" Pc.sSesI
  sBegin : MetDef K S "begin" "Session.begin" Pc.sBegin
  sAdd : MetDef K S "add_contour" "Session.add_contour" Pc.sAdd
  sCount : MetDef K S "corner_count" "Session.corner_count" Pc.sCount
  sClear : MetDef K S "clear_contours" "Session.clear_contours" Pc.sClear
  sHas : MetDef K S "has_pixel" "Session.has_pixel" Pc.sHas
  sCov : MetDef K S "coverage" "Session.coverage" Pc.sCov
  sArea : MetDef K S "area" "Session.area" Pc.sArea
  sTotCov : MetDef K S "total_coverage" "Session.total_coverage" Pc.sTotCov
  sPaint : MetDef K S "paint" "Session.paint" Pc.sPaint
  sFill : MetDef K S "fill" "Session.fill" Pc.sFill
  sDraw : MetDef K S "draw_line" "Session.draw_line" Pc.sDraw
  sRow : MetDef K S "row" "Session.row" Pc.sRow
  sRev : MetDef K S "reverse_contours" "Session.reverse_contours" Pc.sRev
theorem all_mk {P : Program} {w : World} {K : PySem.W.Frag} {h : Heap} {mg : Str → Option Value} {fa B S : Addr} (hfa : mg "answers" = some (.ref fa)) (Z : Stands K mg B S) :
    ∃ fd : FuncData, (∀ (s : Shared) (us : List Value), us.length = (["calls"] : List Str).length → BindsTo s fd ⟨us, []⟩ ((["calls"] : List Str).zip us)) ∧ ∀ base : Heap, K.In base → base.Ns mainGlobals mg → FnOk P w K mg base CX0 9 fa fd ["calls"] (spAns K) := by
  obtain ⟨f_sGcd, d_sGcd, m_sGcd, F_sGcd⟩ := Z.sGcd
  obtain ⟨f_sLow, d_sLow, m_sLow, F_sLow⟩ := Z.sLow
  obtain ⟨f_sNeg, d_sNeg, m_sNeg, F_sNeg⟩ := Z.sNeg
  obtain ⟨f_sNear, d_sNear, m_sNear, F_sNear⟩ := Z.sNear
  obtain ⟨f_sTotal, d_sTotal, m_sTotal, F_sTotal⟩ := Z.sTotal
  obtain ⟨f_sPixBox, d_sPixBox, m_sPixBox, F_sPixBox⟩ := Z.sPixBox
  obtain ⟨f_sPicBox, d_sPicBox, m_sPicBox, F_sPicBox⟩ := Z.sPicBox
  obtain ⟨f_sEdges, d_sEdges, m_sEdges, F_sEdges⟩ := Z.sEdges
  obtain ⟨f_sEdgesAll, d_sEdgesAll, m_sEdgesAll, F_sEdgesAll⟩ := Z.sEdgesAll
  obtain ⟨f_sBeyond, d_sBeyond, m_sBeyond, F_sBeyond⟩ := Z.sBeyond
  obtain ⟨f_sLeft, d_sLeft, m_sLeft, F_sLeft⟩ := Z.sLeft
  obtain ⟨f_sShare, d_sShare, m_sShare, F_sShare⟩ := Z.sShare
  obtain ⟨f_sCovOf, d_sCovOf, m_sCovOf, F_sCovOf⟩ := Z.sCovOf
  obtain ⟨f_sAreaOf, d_sAreaOf, m_sAreaOf, F_sAreaOf⟩ := Z.sAreaOf
  obtain ⟨f_sFlat, d_sFlat, m_sFlat, F_sFlat⟩ := Z.sFlat
  obtain ⟨f_sLine, d_sLine, m_sLine, F_sLine⟩ := Z.sLine
  obtain ⟨f_sIsSide, d_sIsSide, m_sIsSide, F_sIsSide⟩ := Z.sIsSide
  obtain ⟨f_sPlain, d_sPlain, m_sPlain, F_sPlain⟩ := Z.sPlain
  obtain ⟨f_sPairs, d_sPairs, m_sPairs, F_sPairs⟩ := Z.sPairs
  obtain ⟨f_sFilled, d_sFilled, m_sFilled, F_sFilled⟩ := Z.sFilled
  obtain ⟨f_sLen, d_sLen, m_sLen, F_sLen⟩ := Z.sLen
  obtain ⟨f_sTo, d_sTo, m_sTo, F_sTo⟩ := Z.sTo
  obtain ⟨f_sAns, d_sAns, m_sAns, F_sAns⟩ := Z.sAns
  cases hfa.symm.trans m_sAns
  have b_sGcd : Binds K d_sGcd ["first", "second"] [] := F_sGcd.binds (ps := ["first", "second"]) fun _ _ _ _ _ _ us hl => match us, hl with | [_, _], _ => rfl
  have D_sGcd : Df K mg "common_divisor" f_sGcd d_sGcd ["first", "second"] := ⟨m_sGcd, F_sGcd.kp, b_sGcd⟩
  have b_sLow : Binds K d_sLow ["numerator", "denominator"] [] := F_sLow.binds (ps := ["numerator", "denominator"]) fun _ _ _ _ _ _ us hl => match us, hl with | [_, _], _ => rfl
  have D_sLow : Df K mg "lowest_terms" f_sLow d_sLow ["numerator", "denominator"] := ⟨m_sLow, F_sLow.kp, b_sLow⟩
  have b_sNeg : Binds K d_sNeg ["fraction"] [] := F_sNeg.binds (ps := ["fraction"]) fun _ _ _ _ _ _ us hl => match us, hl with | [_], _ => rfl
  have D_sNeg : Df K mg "negated" f_sNeg d_sNeg ["fraction"] := ⟨m_sNeg, F_sNeg.kp, b_sNeg⟩
  have b_sNear : Binds K d_sNear ["numerator", "denominator"] [] := F_sNear.binds (ps := ["numerator", "denominator"]) fun _ _ _ _ _ _ us hl => match us, hl with | [_, _], _ => rfl
  have D_sNear : Df K mg "nearest" f_sNear d_sNear ["numerator", "denominator"] := ⟨m_sNear, F_sNear.kp, b_sNear⟩
  have b_sTotal : Binds K d_sTotal ["fractions"] [] := F_sTotal.binds (ps := ["fractions"]) fun _ _ _ _ _ _ us hl => match us, hl with | [_], _ => rfl
  have D_sTotal : Df K mg "total" f_sTotal d_sTotal ["fractions"] := ⟨m_sTotal, F_sTotal.kp, b_sTotal⟩
  have b_sPixBox : Binds K d_sPixBox ["x", "y"] [] := F_sPixBox.binds (ps := ["x", "y"]) fun _ _ _ _ _ _ us hl => match us, hl with | [_, _], _ => rfl
  have D_sPixBox : Df K mg "pixel_box" f_sPixBox d_sPixBox ["x", "y"] := ⟨m_sPixBox, F_sPixBox.kp, b_sPixBox⟩
  have b_sPicBox : Binds K d_sPicBox ["width", "height"] [] := F_sPicBox.binds (ps := ["width", "height"]) fun _ _ _ _ _ _ us hl => match us, hl with | [_, _], _ => rfl
  have D_sPicBox : Df K mg "picture_box" f_sPicBox d_sPicBox ["width", "height"] := ⟨m_sPicBox, F_sPicBox.kp, b_sPicBox⟩
  have b_sEdges : Binds K d_sEdges ["contour"] [] := F_sEdges.binds (ps := ["contour"]) fun _ _ _ _ _ _ us hl => match us, hl with | [_], _ => rfl
  have D_sEdges : Df K mg "edges_of" f_sEdges d_sEdges ["contour"] := ⟨m_sEdges, F_sEdges.kp, b_sEdges⟩
  have b_sEdgesAll : Binds K d_sEdgesAll ["contours"] [] := F_sEdgesAll.binds (ps := ["contours"]) fun _ _ _ _ _ _ us hl => match us, hl with | [_], _ => rfl
  have D_sEdgesAll : Df K mg "edges_of_all" f_sEdgesAll d_sEdgesAll ["contours"] := ⟨m_sEdgesAll, F_sEdgesAll.kp, b_sEdgesAll⟩
  have b_sBeyond : Binds K d_sBeyond ["low", "high", "top", "bottom", "border"] [] := F_sBeyond.binds (ps := ["low", "high", "top", "bottom", "border"]) fun _ _ _ _ _ _ us hl => match us, hl with | [_, _, _, _, _], _ => rfl
  have D_sBeyond : Df K mg "area_beyond" f_sBeyond d_sBeyond ["low", "high", "top", "bottom", "border"] := ⟨m_sBeyond, F_sBeyond.kp, b_sBeyond⟩
  have b_sLeft : Binds K d_sLeft ["low", "high", "box"] [] := F_sLeft.binds (ps := ["low", "high", "box"]) fun _ _ _ _ _ _ us hl => match us, hl with | [_, _, _], _ => rfl
  have D_sLeft : Df K mg "area_left_of" f_sLeft d_sLeft ["low", "high", "box"] := ⟨m_sLeft, F_sLeft.kp, b_sLeft⟩
  have b_sShare : Binds K d_sShare ["start", "end", "box"] [] := F_sShare.binds (ps := ["start", "end", "box"]) fun _ _ _ _ _ _ us hl => match us, hl with | [_, _, _], _ => rfl
  have D_sShare : Df K mg "edge_share" f_sShare d_sShare ["start", "end", "box"] := ⟨m_sShare, F_sShare.kp, b_sShare⟩
  have b_sCovOf : Binds K d_sCovOf ["contours", "box"] [] := F_sCovOf.binds (ps := ["contours", "box"]) fun _ _ _ _ _ _ us hl => match us, hl with | [_, _], _ => rfl
  have D_sCovOf : Df K mg "coverage_of" f_sCovOf d_sCovOf ["contours", "box"] := ⟨m_sCovOf, F_sCovOf.kp, b_sCovOf⟩
  have b_sAreaOf : Binds K d_sAreaOf ["contours"] [] := F_sAreaOf.binds (ps := ["contours"]) fun _ _ _ _ _ _ us hl => match us, hl with | [_], _ => rfl
  have D_sAreaOf : Df K mg "area_of" f_sAreaOf d_sAreaOf ["contours"] := ⟨m_sAreaOf, F_sAreaOf.kp, b_sAreaOf⟩
  have b_sFlat : Binds K d_sFlat ["x0", "y0", "x1", "y1"] [] := F_sFlat.binds (ps := ["x0", "y0", "x1", "y1"]) fun _ _ _ _ _ _ us hl => match us, hl with | [_, _, _, _], _ => rfl
  have D_sFlat : Df K mg "flat_line" f_sFlat d_sFlat ["x0", "y0", "x1", "y1"] := ⟨m_sFlat, F_sFlat.kp, b_sFlat⟩
  have b_sLine : Binds K d_sLine ["x0", "y0", "x1", "y1"] [] := F_sLine.binds (ps := ["x0", "y0", "x1", "y1"]) fun _ _ _ _ _ _ us hl => match us, hl with | [_, _, _, _], _ => rfl
  have D_sLine : Df K mg "line_pixels" f_sLine d_sLine ["x0", "y0", "x1", "y1"] := ⟨m_sLine, F_sLine.kp, b_sLine⟩
  have b_sIsSide : Binds K d_sIsSide ["length"] [] := F_sIsSide.binds (ps := ["length"]) fun _ _ _ _ _ _ us hl => match us, hl with | [_], _ => rfl
  have D_sIsSide : Df K mg "is_side" f_sIsSide d_sIsSide ["length"] := ⟨m_sIsSide, F_sIsSide.kp, b_sIsSide⟩
  have b_sPlain : Binds K d_sPlain ["width", "height", "colour"] [] := F_sPlain.binds (ps := ["width", "height", "colour"]) fun _ _ _ _ _ _ us hl => match us, hl with | [_, _, _], _ => rfl
  have D_sPlain : Df K mg "plain_rows" f_sPlain d_sPlain ["width", "height", "colour"] := ⟨m_sPlain, F_sPlain.kp, b_sPlain⟩
  have b_sPairs : Binds K d_sPairs ["numbers"] [] := F_sPairs.binds (ps := ["numbers"]) fun _ _ _ _ _ _ us hl => match us, hl with | [_], _ => rfl
  have D_sPairs : Df K mg "corner_pairs" f_sPairs d_sPairs ["numbers"] := ⟨m_sPairs, F_sPairs.kp, b_sPairs⟩
  have b_sFilled : Binds K d_sFilled ["old", "colour", "coverage"] [] := F_sFilled.binds (ps := ["old", "colour", "coverage"]) fun _ _ _ _ _ _ us hl => match us, hl with | [_, _, _], _ => rfl
  have D_sFilled : Df K mg "filled_colour" f_sFilled d_sFilled ["old", "colour", "coverage"] := ⟨m_sFilled, F_sFilled.kp, b_sFilled⟩
  have b_sLen : Binds K d_sLen ["calls", "place"] [] := F_sLen.binds (ps := ["calls", "place"]) fun _ _ _ _ _ _ us hl => match us, hl with | [_, _], _ => rfl
  have D_sLen : Df K mg "call_length" f_sLen d_sLen ["calls", "place"] := ⟨m_sLen, F_sLen.kp, b_sLen⟩
  have b_sTo : Binds K d_sTo ["session", "call"] [] := F_sTo.binds (ps := ["session", "call"]) fun _ _ _ _ _ _ us hl => match us, hl with | [_, _], _ => rfl
  have D_sTo : Df K mg "answer_to" f_sTo d_sTo ["session", "call"] := ⟨m_sTo, F_sTo.kp, b_sTo⟩
  have b_sAns : Binds K d_sAns ["calls"] [] := F_sAns.binds (ps := ["calls"]) fun _ _ _ _ _ _ us hl => match us, hl with | [_], _ => rfl
  obtain ⟨f_sSesI, d_sSesI, a_sSesI, i_sSesI, F_sSesI⟩ := Z.sSesI
  have b_sSesI : Binds K d_sSesI ["self"] [] := F_sSesI.binds (ps := ["self"]) fun _ _ _ _ _ _ us hl => match us, hl with | [_], _ => rfl
  have M_sSesI : Mk K S f_sSesI := ⟨Z.ses.makes, a_sSesI, i_sSesI, Z.ses.kc⟩
  obtain ⟨f_sBegin, d_sBegin, a_sBegin, i_sBegin, F_sBegin⟩ := Z.sBegin
  have b_sBegin : Binds K d_sBegin ["self", "width", "height", "colour"] [] := F_sBegin.binds (ps := ["self", "width", "height", "colour"]) fun _ _ _ _ _ _ us hl => match us, hl with | [_, _, _, _], _ => rfl
  have M_sBegin : Meth K S "begin" f_sBegin := ⟨a_sBegin, i_sBegin, F_sBegin.kp⟩
  obtain ⟨f_sAdd, d_sAdd, a_sAdd, i_sAdd, F_sAdd⟩ := Z.sAdd
  have b_sAdd : Binds K d_sAdd ["self", "numbers"] [] := F_sAdd.binds (ps := ["self", "numbers"]) fun _ _ _ _ _ _ us hl => match us, hl with | [_, _], _ => rfl
  have M_sAdd : Meth K S "add_contour" f_sAdd := ⟨a_sAdd, i_sAdd, F_sAdd.kp⟩
  obtain ⟨f_sCount, d_sCount, a_sCount, i_sCount, F_sCount⟩ := Z.sCount
  have b_sCount : Binds K d_sCount ["self"] [] := F_sCount.binds (ps := ["self"]) fun _ _ _ _ _ _ us hl => match us, hl with | [_], _ => rfl
  have M_sCount : Meth K S "corner_count" f_sCount := ⟨a_sCount, i_sCount, F_sCount.kp⟩
  obtain ⟨f_sClear, d_sClear, a_sClear, i_sClear, F_sClear⟩ := Z.sClear
  have b_sClear : Binds K d_sClear ["self"] [] := F_sClear.binds (ps := ["self"]) fun _ _ _ _ _ _ us hl => match us, hl with | [_], _ => rfl
  have M_sClear : Meth K S "clear_contours" f_sClear := ⟨a_sClear, i_sClear, F_sClear.kp⟩
  obtain ⟨f_sHas, d_sHas, a_sHas, i_sHas, F_sHas⟩ := Z.sHas
  have b_sHas : Binds K d_sHas ["self", "x", "y"] [] := F_sHas.binds (ps := ["self", "x", "y"]) fun _ _ _ _ _ _ us hl => match us, hl with | [_, _, _], _ => rfl
  have M_sHas : Meth K S "has_pixel" f_sHas := ⟨a_sHas, i_sHas, F_sHas.kp⟩
  obtain ⟨f_sCov, d_sCov, a_sCov, i_sCov, F_sCov⟩ := Z.sCov
  have b_sCov : Binds K d_sCov ["self", "x", "y"] [] := F_sCov.binds (ps := ["self", "x", "y"]) fun _ _ _ _ _ _ us hl => match us, hl with | [_, _, _], _ => rfl
  have M_sCov : Meth K S "coverage" f_sCov := ⟨a_sCov, i_sCov, F_sCov.kp⟩
  obtain ⟨f_sArea, d_sArea, a_sArea, i_sArea, F_sArea⟩ := Z.sArea
  have b_sArea : Binds K d_sArea ["self"] [] := F_sArea.binds (ps := ["self"]) fun _ _ _ _ _ _ us hl => match us, hl with | [_], _ => rfl
  have M_sArea : Meth K S "area" f_sArea := ⟨a_sArea, i_sArea, F_sArea.kp⟩
  obtain ⟨f_sTotCov, d_sTotCov, a_sTotCov, i_sTotCov, F_sTotCov⟩ := Z.sTotCov
  have b_sTotCov : Binds K d_sTotCov ["self"] [] := F_sTotCov.binds (ps := ["self"]) fun _ _ _ _ _ _ us hl => match us, hl with | [_], _ => rfl
  have M_sTotCov : Meth K S "total_coverage" f_sTotCov := ⟨a_sTotCov, i_sTotCov, F_sTotCov.kp⟩
  obtain ⟨f_sPaint, d_sPaint, a_sPaint, i_sPaint, F_sPaint⟩ := Z.sPaint
  have b_sPaint : Binds K d_sPaint ["self", "x", "y", "colour"] [] := F_sPaint.binds (ps := ["self", "x", "y", "colour"]) fun _ _ _ _ _ _ us hl => match us, hl with | [_, _, _, _], _ => rfl
  have M_sPaint : Meth K S "paint" f_sPaint := ⟨a_sPaint, i_sPaint, F_sPaint.kp⟩
  obtain ⟨f_sFill, d_sFill, a_sFill, i_sFill, F_sFill⟩ := Z.sFill
  have b_sFill : Binds K d_sFill ["self", "colour"] [] := F_sFill.binds (ps := ["self", "colour"]) fun _ _ _ _ _ _ us hl => match us, hl with | [_, _], _ => rfl
  have M_sFill : Meth K S "fill" f_sFill := ⟨a_sFill, i_sFill, F_sFill.kp⟩
  obtain ⟨f_sDraw, d_sDraw, a_sDraw, i_sDraw, F_sDraw⟩ := Z.sDraw
  have b_sDraw : Binds K d_sDraw ["self", "x0", "y0", "x1", "y1", "colour"] [] := F_sDraw.binds (ps := ["self", "x0", "y0", "x1", "y1", "colour"]) fun _ _ _ _ _ _ us hl => match us, hl with | [_, _, _, _, _, _], _ => rfl
  have M_sDraw : Meth K S "draw_line" f_sDraw := ⟨a_sDraw, i_sDraw, F_sDraw.kp⟩
  obtain ⟨f_sRow, d_sRow, a_sRow, i_sRow, F_sRow⟩ := Z.sRow
  have b_sRow : Binds K d_sRow ["self", "y"] [] := F_sRow.binds (ps := ["self", "y"]) fun _ _ _ _ _ _ us hl => match us, hl with | [_, _], _ => rfl
  have M_sRow : Meth K S "row" f_sRow := ⟨a_sRow, i_sRow, F_sRow.kp⟩
  obtain ⟨f_sRev, d_sRev, a_sRev, i_sRev, F_sRev⟩ := Z.sRev
  have b_sRev : Binds K d_sRev ["self"] [] := F_sRev.binds (ps := ["self"]) fun _ _ _ _ _ _ us hl => match us, hl with | [_], _ => rfl
  have M_sRev : Meth K S "reverse_contours" f_sRev := ⟨a_sRev, i_sRev, F_sRev.kp⟩
  obtain ⟨f_sBoxI, d_sBoxI, a_sBoxI, i_sBoxI, F_sBoxI⟩ := Z.boxI
  have b_sBoxI : Binds K d_sBoxI ["self", "left", "top", "right", "bottom"] [] := F_sBoxI.binds (ps := ["self", "left", "top", "right", "bottom"]) fun _ _ _ _ _ _ us hl => match us, hl with | [_, _, _, _, _], _ => rfl
  have M_sBoxI : Mk K B f_sBoxI := ⟨Z.box.makes, a_sBoxI, i_sBoxI, Z.box.kc⟩
  refine ⟨d_sAns, ?_, fun base _ _ => ?_⟩
  · obtain ⟨oc, od, kV, doc, pm, an, cdv, ct, osl, rfl, _, _⟩ := F_sAns.ex
    exact fun s us hu => match us, hu with | [_], _ => .of_eq rfl
  have G_sGcd : FnOk P w K mg base CX0 1 f_sGcd d_sGcd ["first", "second"] spGcd := ok_gcd F_sGcd
  have G_sLow : FnOk P w K mg base CX0 2 f_sLow d_sLow ["numerator", "denominator"] spLow := ok_low F_sLow Z.own G_sGcd D_sGcd
  have G_sNeg : FnOk P w K mg base CX0 1 f_sNeg d_sNeg ["fraction"] spNeg := ok_neg F_sNeg
  have G_sNear : FnOk P w K mg base CX0 1 f_sNear d_sNear ["numerator", "denominator"] spNear := ok_near F_sNear
  have G_sTotal : FnOk P w K mg base CX0 3 f_sTotal d_sTotal ["fractions"] (spTotal K) := ok_total F_sTotal G_sLow D_sLow
  have G_sBoxI : FnOk P w K mg base CX0 1 f_sBoxI d_sBoxI ["self", "left", "top", "right", "bottom"] (spBoxI B) := ok_boxI F_sBoxI Z.txb
  have G_sPixBox : FnOk P w K mg base CX0 3 f_sPixBox d_sPixBox ["x", "y"] (spPixBox B) := ok_pixBox F_sPixBox Z.txb M_sBoxI G_sBoxI b_sBoxI
  have G_sPicBox : FnOk P w K mg base CX0 3 f_sPicBox d_sPicBox ["width", "height"] (spPicBox B) := ok_picBox F_sPicBox Z.txb M_sBoxI G_sBoxI b_sBoxI
  have G_sEdges : FnOk P w K mg base CX0 1 f_sEdges d_sEdges ["contour"] (spEdges K) := ok_edges F_sEdges Z.own
  have G_sEdgesAll : FnOk P w K mg base CX0 2 f_sEdgesAll d_sEdgesAll ["contours"] (spEdgesAll K) := ok_edgesAll F_sEdgesAll G_sEdges D_sEdges
  have G_sBeyond : FnOk P w K mg base CX0 1 f_sBeyond d_sBeyond ["low", "high", "top", "bottom", "border"] spBey := ok_bey F_sBeyond Z.own
  have G_sLeft : FnOk P w K mg base CX0 4 f_sLeft d_sLeft ["low", "high", "box"] (spLeft B) := ok_left F_sLeft Z.own Z.txb G_sTotal D_sTotal G_sNeg D_sNeg G_sBeyond D_sBeyond
  have G_sShare : FnOk P w K mg base CX0 5 f_sShare d_sShare ["start", "end", "box"] (spShare B) := ok_share F_sShare G_sLeft D_sLeft G_sNeg D_sNeg
  have G_sCovOf : FnOk P w K mg base CX0 6 f_sCovOf d_sCovOf ["contours", "box"] (spCovOf K B) := ok_covOf F_sCovOf Z.txb G_sTotal D_sTotal G_sShare D_sShare G_sEdgesAll D_sEdgesAll G_sLow D_sLow
  have G_sAreaOf : FnOk P w K mg base CX0 3 f_sAreaOf d_sAreaOf ["contours"] (spAreaOf K) := ok_areaOf F_sAreaOf Z.txb G_sEdgesAll D_sEdgesAll G_sLow D_sLow
  have G_sFlat : FnOk P w K mg base CX0 3 f_sFlat d_sFlat ["x0", "y0", "x1", "y1"] spFlat := ok_flat F_sFlat Z.own G_sNear D_sNear D_sFlat
  have G_sLine : FnOk P w K mg base CX0 4 f_sLine d_sLine ["x0", "y0", "x1", "y1"] spLine := ok_line F_sLine Z.own G_sFlat D_sFlat
  have G_sIsSide : FnOk P w K mg base CX0 1 f_sIsSide d_sIsSide ["length"] spIsSide := ok_isSide F_sIsSide Z.txc
  have G_sPlain : FnOk P w K mg base CX0 1 f_sPlain d_sPlain ["width", "height", "colour"] spPlain := ok_plain F_sPlain Z.own
  have G_sPairs : FnOk P w K mg base CX0 1 f_sPairs d_sPairs ["numbers"] (spPairs K) := ok_pairs F_sPairs Z.own
  have G_sFilled : FnOk P w K mg base CX0 2 f_sFilled d_sFilled ["old", "colour", "coverage"] spFilled := ok_filled F_sFilled Z.own G_sNear D_sNear
  have G_sSesI : FnOk P w K mg base CX0 2 f_sSesI d_sSesI ["self"] (spSesI S) := ok_sesI F_sSesI Z.txs G_sPlain D_sPlain
  have G_sBegin : FnOk P w K mg base CX0 2 f_sBegin d_sBegin ["self", "width", "height", "colour"] (spBegin S) := ok_begin F_sBegin Z.txs Z.txc G_sPlain D_sPlain G_sIsSide D_sIsSide
  have G_sCount : FnOk P w K mg base CX0 1 f_sCount d_sCount ["self"] (spCount S) := ok_count F_sCount Z.own Z.txs
  have G_sAdd : FnOk P w K mg base CX0 2 f_sAdd d_sAdd ["self", "numbers"] (spAdd K S) := ok_add F_sAdd Z.own Z.txs Z.txc G_sPairs D_sPairs G_sCount M_sCount b_sCount
  have G_sClear : FnOk P w K mg base CX0 1 f_sClear d_sClear ["self"] (spClear S) := ok_clear F_sClear Z.txs
  have G_sHas : FnOk P w K mg base CX0 1 f_sHas d_sHas ["self", "x", "y"] (spHas S) := ok_has F_sHas Z.own Z.txs
  have G_sCov : FnOk P w K mg base CX0 7 f_sCov d_sCov ["self", "x", "y"] (spCov S) := ok_cov F_sCov Z.txs Z.txc G_sHas M_sHas b_sHas G_sCovOf D_sCovOf G_sPixBox D_sPixBox
  have G_sArea : FnOk P w K mg base CX0 4 f_sArea d_sArea ["self"] (spArea S) := ok_area F_sArea Z.txs G_sAreaOf D_sAreaOf
  have G_sTotCov : FnOk P w K mg base CX0 7 f_sTotCov d_sTotCov ["self"] (spTotCov S) := ok_totCov F_sTotCov Z.own Z.txs G_sCovOf D_sCovOf G_sPicBox D_sPicBox
  have G_sPaint : FnOk P w K mg base CX0 1 f_sPaint d_sPaint ["self", "x", "y", "colour"] (spPaint S) := ok_paint F_sPaint Z.txs
  have G_sFill : FnOk P w K mg base CX0 7 f_sFill d_sFill ["self", "colour"] (spFill S) := ok_fill F_sFill Z.own Z.txs Z.txc G_sPaint M_sPaint b_sPaint G_sCovOf D_sCovOf G_sPixBox D_sPixBox G_sFilled D_sFilled
  have G_sDraw : FnOk P w K mg base CX0 5 f_sDraw d_sDraw ["self", "x0", "y0", "x1", "y1", "colour"] (spDraw S) := ok_draw F_sDraw Z.own Z.txs Z.txc G_sPaint M_sPaint b_sPaint G_sHas M_sHas b_sHas G_sLine D_sLine
  have G_sRow : FnOk P w K mg base CX0 1 f_sRow d_sRow ["self", "y"] (spRow S) := ok_row F_sRow Z.own Z.txs Z.txc
  have G_sRev : FnOk P w K mg base CX0 1 f_sRev d_sRev ["self"] (spRev S) := ok_rev F_sRev Z.own Z.txs
  have G_sLen : FnOk P w K mg base CX0 1 f_sLen d_sLen ["calls", "place"] (spLen K) := ok_len F_sLen Z.txn
  have Y : Meths P w K mg base S f_sBegin f_sAdd f_sClear f_sCov f_sArea f_sTotCov f_sFill f_sDraw f_sRow f_sRev d_sBegin d_sAdd d_sClear d_sCov d_sArea d_sTotCov d_sFill d_sDraw d_sRow d_sRev :=
    ⟨G_sBegin, M_sBegin, b_sBegin, G_sAdd, M_sAdd, b_sAdd, G_sClear, M_sClear, b_sClear, G_sCov, M_sCov, b_sCov, G_sArea, M_sArea, b_sArea, G_sTotCov, M_sTotCov, b_sTotCov, G_sFill, M_sFill, b_sFill, G_sDraw, M_sDraw, b_sDraw, G_sRow, M_sRow, b_sRow, G_sRev, M_sRev, b_sRev⟩
  have G_sTo : FnOk P w K mg base CX0 8 f_sTo d_sTo ["session", "call"] (spTo S) := ok_to F_sTo Z.txs Z.txn Y
  exact ok_ans F_sAns Z.own Z.txs M_sSesI G_sSesI b_sSesI G_sLen D_sLen G_sTo D_sTo
end Pc
set_option Elab.async false
open PySem PySem.W PyProof.Rows
set_option maxRecDepth 100000 in
set_option maxHeartbeats 16000000 in
theorem PySem.Challenge.cw_partcovers_s01_answers_holds : PySem.Challenge.rw_partcovers_s01_answers.Holds := by
  w_on; k_headS; (case hw => exact ⟨[.list [.int 3]], by decide +kernel, by decide +kernel⟩)
  k_fillS
  refine L2.walk_specK (r := PySem.Challenge.rw_partcovers_s01_answers) (k := 9) (CX := L2.CX0) (ps := ["calls"]) (sp := Pc.spAns) (by decide +kernel) rfl rfl ⟨rfl, by decide, by decide⟩ (fun w h Y => PySem.W.kIn_of Y) ?F ?S (fun _ _ _ _ z => z)
  case F =>
    intro w mg fa h Y KX G hmg
    refine' Pc.all_mk (h := h) hmg (Pc.Stands.mk ?own ?box ?txb ?boxI ?ses ?txs ?txc ?txn ?sGcd ?sLow ?sNeg ?sNear ?sTotal ?sPixBox ?sPicBox ?sEdges ?sEdgesAll ?sBeyond ?sLeft ?sShare ?sCovOf ?sAreaOf ?sFlat ?sLine ?sIsSide ?sPlain ?sPairs ?sFilled ?sLen ?sTo ?sAns ?sSesI ?sBegin ?sAdd ?sCount ?sClear ?sHas ?sCov ?sArea ?sTotCov ?sPaint ?sFill ?sDraw ?sRow ?sRev)
    case txb => refine' ⟨⟨?pgB, ?hdB, ?poB, ?saB⟩, ?nL, ?nT, ?nR, ?nB, PySem.W.mg_of KX G ?aB, Pc.numDef KX G ?c1, Pc.numDef KX G ?c2⟩; (case aB => k_is); (case pgB => k_is); (case hdB => k_is); (case poB => k_is); (case saB => k_is); (case nL => unfold L2.NoAttr; k_is); (case nT => unfold L2.NoAttr; k_is); (case nR => unfold L2.NoAttr; k_is); (case nB => unfold L2.NoAttr; k_is); (case c1 => k_is); (case c2 => k_is)
    case txs => refine' ⟨⟨?pgS, ?hdS, ?poS, ?saS⟩, ?sR, ?sC, PySem.W.mg_of KX G ?aS⟩; (case aS => k_is); (case pgS => k_is); (case hdS => k_is); (case poS => k_is); (case saS => k_is); (case sR => unfold L2.NoAttr; k_is); (case sC => unfold L2.NoAttr; k_is)
    case box => refine' ⟨⟨?pg, ?hd, ?po, ?sa⟩, ?mk, ?kc⟩; (case pg => k_is); (case hd => k_is); (case po => k_is); (case sa => k_is); (case mk => k_is); (case kc => k_is)
    case ses => refine' ⟨⟨?pg, ?hd, ?po, ?sa⟩, ?mk, ?kc⟩; (case pg => k_is); (case hd => k_is); (case po => k_is); (case sa => k_is); (case mk => k_is); (case kc => k_is)
    case own => refine' ⟨PySem.W.mg_none_of KX G ?abs, PySem.W.mg_none_of KX G ?max, PySem.W.mg_none_of KX G ?min, PySem.W.mg_none_of KX G ?range, PySem.W.mg_none_of KX G ?len, PySem.W.mg_none_of KX G ?sum, PySem.W.mg_none_of KX G ?list, PySem.W.mg_none_of KX G ?reversed⟩; (case abs => k_is); (case max => k_is); (case min => k_is); (case range => k_is); (case len => k_is); (case sum => k_is); (case list => k_is); (case reversed => k_is)
    case txc => refine' ⟨Pc.numDef KX G ?oor, Pc.numDef KX G ?odd, Pc.numDef KX G ?many, Pc.numDef KX G ?side, Pc.numDef KX G ?colour, Pc.numDef KX G ?coord, Pc.numDef KX G ?line, Pc.numDef KX G ?few, Pc.numDef KX G ?most⟩; (case oor => k_is); (case odd => k_is); (case many => k_is); (case side => k_is); (case colour => k_is); (case coord => k_is); (case line => k_is); (case few => k_is); (case most => k_is)
    case txn => refine' ⟨Pc.numDef KX G ?n1, Pc.numDef KX G ?n2, Pc.numDef KX G ?n3, Pc.numDef KX G ?n4, Pc.numDef KX G ?n5, Pc.numDef KX G ?n6, Pc.numDef KX G ?n7, Pc.numDef KX G ?n8, Pc.numDef KX G ?n9, Pc.numDef KX G ?n10⟩; (case n1 => k_is); (case n2 => k_is); (case n3 => k_is); (case n4 => k_is); (case n5 => k_is); (case n6 => k_is); (case n7 => k_is); (case n8 => k_is); (case n9 => k_is); (case n10 => k_is)
    case boxI => refine' Pc.metDef ?a ?i ?l ?c ?k; (case a => k_is); (case i => k_is); (case l => k_is); (case c => k_is); (case k => k_is)
    case sGcd => refine' Pc.topDef KX G ?a ?l ?c ?k; (case a => k_is); (case l => k_is); (case c => k_is); (case k => k_is)
    case sLow => refine' Pc.topDef KX G ?a ?l ?c ?k; (case a => k_is); (case l => k_is); (case c => k_is); (case k => k_is)
    case sNeg => refine' Pc.topDef KX G ?a ?l ?c ?k; (case a => k_is); (case l => k_is); (case c => k_is); (case k => k_is)
    case sNear => refine' Pc.topDef KX G ?a ?l ?c ?k; (case a => k_is); (case l => k_is); (case c => k_is); (case k => k_is)
    case sTotal => refine' Pc.topDef KX G ?a ?l ?c ?k; (case a => k_is); (case l => k_is); (case c => k_is); (case k => k_is)
    case sPixBox => refine' Pc.topDef KX G ?a ?l ?c ?k; (case a => k_is); (case l => k_is); (case c => k_is); (case k => k_is)
    case sPicBox => refine' Pc.topDef KX G ?a ?l ?c ?k; (case a => k_is); (case l => k_is); (case c => k_is); (case k => k_is)
    case sEdges => refine' Pc.topDef KX G ?a ?l ?c ?k; (case a => k_is); (case l => k_is); (case c => k_is); (case k => k_is)
    case sEdgesAll => refine' Pc.topDef KX G ?a ?l ?c ?k; (case a => k_is); (case l => k_is); (case c => k_is); (case k => k_is)
    case sBeyond => refine' Pc.topDef KX G ?a ?l ?c ?k; (case a => k_is); (case l => k_is); (case c => k_is); (case k => k_is)
    case sLeft => refine' Pc.topDef KX G ?a ?l ?c ?k; (case a => k_is); (case l => k_is); (case c => k_is); (case k => k_is)
    case sShare => refine' Pc.topDef KX G ?a ?l ?c ?k; (case a => k_is); (case l => k_is); (case c => k_is); (case k => k_is)
    case sCovOf => refine' Pc.topDef KX G ?a ?l ?c ?k; (case a => k_is); (case l => k_is); (case c => k_is); (case k => k_is)
    case sAreaOf => refine' Pc.topDef KX G ?a ?l ?c ?k; (case a => k_is); (case l => k_is); (case c => k_is); (case k => k_is)
    case sFlat => refine' Pc.topDef KX G ?a ?l ?c ?k; (case a => k_is); (case l => k_is); (case c => k_is); (case k => k_is)
    case sLine => refine' Pc.topDef KX G ?a ?l ?c ?k; (case a => k_is); (case l => k_is); (case c => k_is); (case k => k_is)
    case sIsSide => refine' Pc.topDef KX G ?a ?l ?c ?k; (case a => k_is); (case l => k_is); (case c => k_is); (case k => k_is)
    case sPlain => refine' Pc.topDef KX G ?a ?l ?c ?k; (case a => k_is); (case l => k_is); (case c => k_is); (case k => k_is)
    case sPairs => refine' Pc.topDef KX G ?a ?l ?c ?k; (case a => k_is); (case l => k_is); (case c => k_is); (case k => k_is)
    case sFilled => refine' Pc.topDef KX G ?a ?l ?c ?k; (case a => k_is); (case l => k_is); (case c => k_is); (case k => k_is)
    case sLen => refine' Pc.topDef KX G ?a ?l ?c ?k; (case a => k_is); (case l => k_is); (case c => k_is); (case k => k_is)
    case sTo => refine' Pc.topDef KX G ?a ?l ?c ?k; (case a => k_is); (case l => k_is); (case c => k_is); (case k => k_is)
    case sAns => refine' Pc.topDef KX G ?a ?l ?c ?k; (case a => k_is); (case l => k_is); (case c => k_is); (case k => k_is)
    case sSesI => refine' Pc.metDef ?a ?i ?l ?c ?k; (case a => k_is); (case i => k_is); (case l => k_is); (case c => k_is); (case k => k_is)
    case sBegin => refine' Pc.metDef ?a ?i ?l ?c ?k; (case a => k_is); (case i => k_is); (case l => k_is); (case c => k_is); (case k => k_is)
    case sAdd => refine' Pc.metDef ?a ?i ?l ?c ?k; (case a => k_is); (case i => k_is); (case l => k_is); (case c => k_is); (case k => k_is)
    case sCount => refine' Pc.metDef ?a ?i ?l ?c ?k; (case a => k_is); (case i => k_is); (case l => k_is); (case c => k_is); (case k => k_is)
    case sClear => refine' Pc.metDef ?a ?i ?l ?c ?k; (case a => k_is); (case i => k_is); (case l => k_is); (case c => k_is); (case k => k_is)
    case sHas => refine' Pc.metDef ?a ?i ?l ?c ?k; (case a => k_is); (case i => k_is); (case l => k_is); (case c => k_is); (case k => k_is)
    case sCov => refine' Pc.metDef ?a ?i ?l ?c ?k; (case a => k_is); (case i => k_is); (case l => k_is); (case c => k_is); (case k => k_is)
    case sArea => refine' Pc.metDef ?a ?i ?l ?c ?k; (case a => k_is); (case i => k_is); (case l => k_is); (case c => k_is); (case k => k_is)
    case sTotCov => refine' Pc.metDef ?a ?i ?l ?c ?k; (case a => k_is); (case i => k_is); (case l => k_is); (case c => k_is); (case k => k_is)
    case sPaint => refine' Pc.metDef ?a ?i ?l ?c ?k; (case a => k_is); (case i => k_is); (case l => k_is); (case c => k_is); (case k => k_is)
    case sFill => refine' Pc.metDef ?a ?i ?l ?c ?k; (case a => k_is); (case i => k_is); (case l => k_is); (case c => k_is); (case k => k_is)
    case sDraw => refine' Pc.metDef ?a ?i ?l ?c ?k; (case a => k_is); (case i => k_is); (case l => k_is); (case c => k_is); (case k => k_is)
    case sRow => refine' Pc.metDef ?a ?i ?l ?c ?k; (case a => k_is); (case i => k_is); (case l => k_is); (case c => k_is); (case k => k_is)
    case sRev => refine' Pc.metDef ?a ?i ?l ?c ?k; (case a => k_is); (case i => k_is); (case l => k_is); (case c => k_is); (case k => k_is)
  case S =>
    intro K H xs a hO hwi hask hx
    cases hx with
    | cons h1 h2 =>
      cases h2
      cases h1 with
      | lst hs ha =>
        have e := L2.ints_dw a.1 _ ha
        subst e
        have hq : PySq43.answers_asked a.1 = true := hask
        obtain ⟨ops, e1, e2, e3, e4⟩ := Pc.read_all hq
        refine ⟨_, ops, rfl, ?_, e2, e3, fun H' p hp => ?_⟩
        · rw [← e1]; exact hs
        · rw [← e4] at hp
          exact .lst (L2.SqL.of hp) (L2.dw_ints _)
