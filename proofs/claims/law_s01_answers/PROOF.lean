import PyProof.Rows.All
import Wide.All
import OpenK.AllK
import Wide.FinOn
import PyProof.EqAt
import PyProof.EqKinds
import PyProof.TupleCall
import Open.SpecLaws
import KE.OsGo
import HandS.ForSpec
import HandS.ForMost
import HandS.Codes
import HandS.CallLocal
import HandS.Conv
import HandS.Steps
import HandS.Evl
import HandS.Walk
import HandS.SortInts
import PySem.Challenge.RW_arrowrows_s01_answers
set_option linter.all false
/-! The mathematics over the specification: categories. -/
namespace AR
open Fc02
def others (c : Cat) : List Nat := (all c).filter fun f => decide (c.n ≤ f)
structure WC (c : Cat) : Prop where
  n1 : 1 ≤ c.n
  n3 : c.n ≤ 3
  len : c.n ≤ c.arrows.length
  len9 : c.arrows.length ≤ 9
  own : ∀ x, x < c.n → c.arrows[x]? = some (x, x)
  ends : ∀ p, p ∈ c.arrows → p.1 < c.n ∧ p.2 < c.n
  mks : ∀ x, x ∈ c.makes → x.2 < c.arrows.length
def told (c : Cat) (f g : Nat) : Option Nat := (c.makes.find? fun x => x.1 == (f, g)).map fun x => x.2
def made (c : Cat) (f g : Nat) : Option Nat := if f < c.n then some g else if g < c.n then some f else told c f g
def meet (c : Cat) (f g : Nat) : Bool := to_ c f == from_ c g
theorem mem_others {c : Cat} {f : Nat} : f ∈ others c ↔ c.n ≤ f ∧ f < c.arrows.length := by
  unfold others all
  rw [List.mem_filter, List.mem_range, decide_eq_true_eq]
  exact And.comm
theorem after_made {c : Cat} {f g : Nat} (h : to_ c f = from_ c g) : after c f g = made c f g := by
  unfold after made told
  rw [if_neg (by simp [h])]
theorem after_none {c : Cat} {f g : Nat} (h : ¬ to_ c f = from_ c g) : after c f g = none := by
  unfold after
  rw [if_pos h]
theorem from_own {c : Cat} (W : WC c) {x : Nat} (h : x < c.n) : from_ c x = x := by
  unfold from_
  rw [List.getD_eq_getElem?_getD, W.own x h]
  rfl
theorem to_own {c : Cat} (W : WC c) {x : Nat} (h : x < c.n) : to_ c x = x := by
  unfold to_
  rw [List.getD_eq_getElem?_getD, W.own x h]
  rfl
theorem ends_get {c : Cat} {f : Nat} (h : f < c.arrows.length) : c.arrows[f]? = some (from_ c f, to_ c f) := by
  unfold from_ to_
  rw [List.getD_eq_getElem?_getD, List.getElem?_eq_getElem h]
  rfl
theorem from_lt {c : Cat} (W : WC c) {f : Nat} (h : f < c.arrows.length) : from_ c f < c.n := (W.ends _ (List.mem_of_getElem? (ends_get h))).1
theorem to_lt {c : Cat} (W : WC c) {f : Nat} (h : f < c.arrows.length) : to_ c f < c.n := (W.ends _ (List.mem_of_getElem? (ends_get h))).2
theorem told_lt {c : Cat} (W : WC c) {f g h : Nat} (e : told c f g = some h) : h < c.arrows.length := by
  unfold told at e
  cases q : c.makes.find? fun x => x.1 == (f, g) with
  | none => rw [q] at e; cases e
  | some x =>
    rw [q] at e
    have e : x.2 = h := Option.some.inj e
    rw [← e]
    exact W.mks x (List.mem_of_find?_eq_some q)
theorem made_lt {c : Cat} (W : WC c) {f g h : Nat} (hf : f < c.arrows.length) (hg : g < c.arrows.length) (e : made c f g = some h) : h < c.arrows.length := by
  unfold made at e
  by_cases a : f < c.n
  · rw [if_pos a] at e; cases e; exact hg
  · rw [if_neg a] at e
    by_cases b : g < c.n
    · rw [if_pos b] at e; cases e; exact hf
    · rw [if_neg b] at e
      exact told_lt W e
def fits (c : Cat) (f g : Nat) : Bool := match made c f g with
  | none => false
  | some h => from_ c h == from_ c f && to_ c h == to_ c g
def agrees (c : Cat) (f g h : Nat) : Bool := match made c f g, made c g h with
  | some a, some b => made c a h == made c f b
  | _, _ => false
def pairs (c : Cat) : List (Nat × Nat) := (others c).flatMap fun f => ((others c).filter (meet c f)).map fun g => (f, g)
def isCatM (c : Cat) : Bool := (pairs c).all (fun p => fits c p.1 p.2) && (pairs c).all fun p => (others c).all fun h => !meet c p.2 h || agrees c p.1 p.2 h
theorem mem_pairs {c : Cat} {p : Nat × Nat} : p ∈ pairs c ↔ p.1 ∈ others c ∧ p.2 ∈ others c ∧ to_ c p.1 = from_ c p.2 := by
  unfold pairs meet
  rw [List.mem_flatMap]
  constructor
  · rintro ⟨f, hf, h⟩
    obtain ⟨g, hg, rfl⟩ := List.mem_map.mp h
    obtain ⟨h1, h2⟩ := List.mem_filter.mp hg
    exact ⟨hf, h1, by simpa using h2⟩
  · rintro ⟨h1, h2, h3⟩
    exact ⟨p.1, h1, List.mem_map.mpr ⟨p.2, List.mem_filter.mpr ⟨h2, by simpa using h3⟩, rfl⟩⟩
/-- every pair that meets makes an arrow that fits -/
def Fit (c : Cat) : Prop := ∀ f g, f < c.arrows.length → g < c.arrows.length → to_ c f = from_ c g → ∃ h, made c f g = some h ∧ h < c.arrows.length ∧ from_ c h = from_ c f ∧ to_ c h = to_ c g
theorem fits_iff {c : Cat} {f g : Nat} : fits c f g = true ↔ ∃ h, made c f g = some h ∧ from_ c h = from_ c f ∧ to_ c h = to_ c g := by
  unfold fits
  cases made c f g with
  | none => simp
  | some h => simp
theorem fit_of {c : Cat} (W : WC c) (h : (pairs c).all (fun p => fits c p.1 p.2) = true) : Fit c := by
  intro f g hf hg m
  by_cases a : f < c.n
  · refine ⟨g, by unfold made; rw [if_pos a], hg, ?_, rfl⟩
    rw [← m, to_own W a, from_own W a]
  · by_cases b : g < c.n
    · refine ⟨f, by unfold made; rw [if_neg a, if_pos b], hf, rfl, ?_⟩
      rw [m, to_own W b, from_own W b]
    · have q := List.all_eq_true.mp h (f, g) (mem_pairs.mpr ⟨mem_others.mpr ⟨Nat.le_of_not_lt a, hf⟩, mem_others.mpr ⟨Nat.le_of_not_lt b, hg⟩, m⟩)
      obtain ⟨k, e, e1, e2⟩ := fits_iff.mp q
      exact ⟨k, e, made_lt W hf hg e, e1, e2⟩
theorem fit_all {c : Cat} (F : Fit c) : (pairs c).all (fun p => fits c p.1 p.2) = true := by
  refine List.all_eq_true.mpr fun p hp => ?_
  obtain ⟨h1, h2, h3⟩ := mem_pairs.mp hp
  obtain ⟨k, e, _, e1, e2⟩ := F p.1 p.2 (mem_others.mp h1).2 (mem_others.mp h2).2 h3
  exact fits_iff.mpr ⟨k, e, e1, e2⟩
/-- three that meet -/
def Asc (c : Cat) : Prop := ∀ f g k a b, f < c.arrows.length → g < c.arrows.length → k < c.arrows.length → to_ c f = from_ c g → to_ c g = from_ c k → made c f g = some a → made c g k = some b → made c a k = made c f b
theorem isCat_iff {c : Cat} : isCat c = true ↔ Fit c ∧ Asc c := by
  unfold isCat
  simp only [List.all_eq_true, all, List.mem_range]
  constructor
  · intro h
    have F : Fit c := by
      intro f g hf hg m
      have q := h f hf g hg
      rw [after_made m] at q
      cases e : made c f g with
      | none => rw [e] at q; simp [m] at q
      | some k =>
        rw [e] at q
        simp [m] at q
        exact ⟨k, rfl, q.1, q.2.1, q.2.2.1⟩
    refine ⟨F, ?_⟩
    intro f g k a b hf hg hk m1 m2 e1 e2
    have q := h f hf g hg
    rw [after_made m1, e1] at q
    simp [m1] at q
    have q := q.2.2.2 k hk
    obtain ⟨a', e1', la, fa, ta⟩ := F f g hf hg m1
    have ea : a' = a := Option.some.inj (e1'.symm.trans e1)
    subst ea
    obtain ⟨b', e2', lb, fb, tb⟩ := F g k hg hk m2
    have eb : b' = b := Option.some.inj (e2'.symm.trans e2)
    subst eb
    rcases q with q | q
    · exact absurd m2 q
    · rw [after_made (ta.trans m2), after_made m2, e2] at q
      have q : made c a' k = after c f b' := q
      rw [after_made (m1.trans fb.symm)] at q
      exact q
  · rintro ⟨F, A⟩ f hf g hg
    by_cases m1 : to_ c f = from_ c g
    · obtain ⟨a, e1, la, fa, ta⟩ := F f g hf hg m1
      rw [after_made m1, e1]
      simp [m1, la, fa, ta]
      intro k hk
      by_cases m2 : to_ c g = from_ c k
      · refine Or.inr ?_
        obtain ⟨b, e2, lb, fb, tb⟩ := F g k hg hk m2
        rw [after_made (ta.trans m2), after_made m2, e2]
        show made c a k = after c f b
        rw [after_made (m1.trans fb.symm)]
        exact A f g k a b hf hg hk m1 m2 e1 e2
      · exact Or.inl m2
    · simp [m1]
theorem isCatM_eq {c : Cat} (W : WC c) : isCatM c = isCat c := by
  have two : isCatM c = true ↔ isCat c = true := by
    rw [isCat_iff]
    unfold isCatM
    rw [Bool.and_eq_true]
    constructor
    · rintro ⟨h1, h2⟩
      have F := fit_of W h1
      refine ⟨F, ?_⟩
      intro f g k a b hf hg hk m1 m2 e1 e2
      by_cases of : f < c.n
      · have e : made c f g = some g := by unfold made; rw [if_pos of]
        rw [e] at e1
        cases e1
        rw [e2]
        unfold made
        rw [if_pos of]
      · by_cases og : g < c.n
        · have e : made c f g = some f := by unfold made; rw [if_neg of, if_pos og]
          have e' : made c g k = some k := by unfold made; rw [if_pos og]
          rw [e] at e1; rw [e'] at e2
          cases e1; cases e2
          rfl
        · by_cases ok : k < c.n
          · have e' : made c g k = some g := by unfold made; rw [if_neg og, if_pos ok]
            rw [e'] at e2
            cases e2
            rw [e1]
            by_cases oa : a < c.n
            · unfold made
              rw [if_pos oa]
              obtain ⟨a', e1', la, fa, ta⟩ := F f g hf hg m1
              have ea : a' = a := Option.some.inj (e1'.symm.trans e1)
              subst ea
              rw [to_own W oa] at ta
              rw [← ta, from_own W ok] at m2
              rw [m2]
            · unfold made
              rw [if_neg oa, if_pos ok]
          · have q := List.all_eq_true.mp h2 (f, g) (mem_pairs.mpr ⟨mem_others.mpr ⟨Nat.le_of_not_lt of, hf⟩, mem_others.mpr ⟨Nat.le_of_not_lt og, hg⟩, m1⟩)
            have q := List.all_eq_true.mp q k (mem_others.mpr ⟨Nat.le_of_not_lt ok, hk⟩)
            have m : meet c g k = true := by unfold meet; simp [m2]
            unfold agrees at q
            simp only [m, e1, e2] at q
            simpa using q
    · rintro ⟨F, A⟩
      refine ⟨fit_all F, ?_⟩
      refine List.all_eq_true.mpr fun p hp => List.all_eq_true.mpr fun k hk => ?_
      obtain ⟨h1, h2, h3⟩ := mem_pairs.mp hp
      have hf := (mem_others.mp h1).2
      have hg := (mem_others.mp h2).2
      have hk := (mem_others.mp hk).2
      by_cases m : to_ c p.2 = from_ c k
      · obtain ⟨a, e1, _⟩ := F p.1 p.2 hf hg h3
        obtain ⟨b, e2, _⟩ := F p.2 k hg hk m
        have q := A p.1 p.2 k a b hf hg hk h3 m e1 e2
        unfold agrees
        rw [e1, e2]
        simp [q]
      · simp [meet, m]
  cases a : isCatM c <;> cases b : isCat c
  · rfl
  · rw [b] at two; rw [a] at two; simp at two
  · rw [b] at two; rw [a] at two; simp at two
  · rfl
/-- the arrows that are not own, counted on -/
theorem range_filter_ge (n : Nat) : ∀ k, (List.range (n + k)).filter (fun f => decide (n ≤ f)) = (List.range k).map (n + ·)
  | 0 => by
    rw [List.filter_eq_nil_iff.mpr]
    · rfl
    · intro a h
      have := List.mem_range.mp h
      simp
      omega
  | k + 1 => by
    have e : n + (k + 1) = (n + k) + 1 := rfl
    rw [e, List.range_succ, List.filter_append, range_filter_ge n k, List.range_succ, List.map_append]
    congr 1
    simp
theorem others_eq {c : Cat} (W : WC c) : others c = (List.range (c.arrows.length - c.n)).map (c.n + ·) := by
  unfold others all
  have e : c.arrows.length = c.n + (c.arrows.length - c.n) := (Nat.add_sub_cancel' W.len).symm
  rw [e, range_filter_ge, Nat.add_sub_cancel_left]
end AR
set_option linter.all false
/-! Instances: rows in order, the first fault, maps. -/
namespace AR
open Fc02
/-- what holds of every instance of a line -/
structure WI (c : Cat) (t : Inst) : Prop where
  sz : t.size.length = c.n
  tot : total t ≤ 6
  tabl : t.tab.length = c.arrows.length
  rowl : ∀ f, c.n ≤ f → f < c.arrows.length → (t.tab.getD f []).length = rows t (from_ c f)
  le99 : ∀ f, c.n ≤ f → f < c.arrows.length → ∀ v, v ∈ t.tab.getD f [] → v ≤ 99
theorem foldl_add : ∀ (l : List Nat) (a : Nat), l.foldl (fun a b => a + b) a = a + l.sum
  | [], a => by simp
  | x :: r, a => by rw [List.foldl_cons, foldl_add r, List.sum_cons]; omega
theorem total_sum (t : Inst) : total t = t.size.sum := by
  unfold total; rw [foldl_add]; omega
theorem offset_sum (t : Inst) (x : Nat) : offset t x = (t.size.take x).sum := by
  unfold offset; rw [foldl_add]; omega
theorem rows_get {t : Inst} {x : Nat} (h : x < t.size.length) : t.size[x]? = some (rows t x) := by
  unfold rows
  rw [List.getD_eq_getElem?_getD, List.getElem?_eq_getElem h]
  rfl
theorem take_sum_succ : ∀ (l : List Nat) (x : Nat), (l.take (x + 1)).sum = (l.take x).sum + l.getD x 0
  | [], x => by simp
  | a :: l, 0 => by simp
  | a :: l, x + 1 => by
    have := take_sum_succ l x
    simp only [List.take_succ_cons, List.sum_cons, List.getD_cons_succ]
    omega
theorem offset_succ (t : Inst) (x : Nat) : offset t (x + 1) = offset t x + rows t x := by
  rw [offset_sum, offset_sum, take_sum_succ]
  rfl
theorem take_sum_le (l : List Nat) (x : Nat) : (l.take x).sum ≤ l.sum := by
  have : l.sum = (l.take x).sum + (l.drop x).sum := by rw [← List.sum_append, List.take_append_drop]
  omega
theorem offset_le (t : Inst) (x : Nat) : offset t x ≤ total t := by
  rw [offset_sum, total_sum]; exact take_sum_le _ _
theorem offset_all {t : Inst} {n : Nat} (h : t.size.length = n) : offset t n = total t := by
  rw [offset_sum, total_sum, List.take_of_length_le (by omega)]
theorem offset_mono (t : Inst) {x y : Nat} (h : x ≤ y) : offset t x ≤ offset t y := by
  induction y with
  | zero => have : x = 0 := by omega
            subst this; exact Nat.le_refl _
  | succ y ih =>
    by_cases e : x = y + 1
    · subst e; exact Nat.le_refl _
    · have := ih (by omega)
      rw [offset_succ]; omega
theorem rows_le (t : Inst) (x : Nat) : rows t x ≤ total t := by
  have := offset_succ t x
  have := offset_le t (x + 1)
  omega
/-- a row's place -/
theorem place_lt {t : Inst} {x r : Nat} (h : r < rows t x) : offset t x + r < total t := by
  have := offset_succ t x
  have := offset_le t (x + 1)
  omega
theorem place_inj {t : Inst} {x y r q : Nat} (h : r < rows t x) (k : q < rows t y) (e : offset t x + r = offset t y + q) : x = y ∧ r = q := by
  rcases Nat.lt_trichotomy x y with l | l | l
  · have := offset_mono t (show x + 1 ≤ y from l)
    rw [offset_succ] at this
    omega
  · subst l
    exact ⟨rfl, by omega⟩
  · have := offset_mono t (show y + 1 ≤ x from l)
    rw [offset_succ] at this
    omega
/-! rows, in order -/
def placesTo (t : Inst) (n : Nat) : List (Nat × Nat) := (List.range n).flatMap fun x => (List.range (rows t x)).map fun r => (x, r)
theorem places_eq (c : Cat) (t : Inst) : places c t = placesTo t c.n := rfl
theorem placesTo_succ (t : Inst) (n : Nat) : placesTo t (n + 1) = placesTo t n ++ (List.range (rows t n)).map fun r => (n, r) := by
  unfold placesTo
  rw [List.range_succ, List.flatMap_append]
  simp
theorem placesTo_length (t : Inst) : ∀ n, (placesTo t n).length = offset t n
  | 0 => by rw [offset_sum]; rfl
  | n + 1 => by
    rw [placesTo_succ, List.length_append, placesTo_length t n, List.length_map, List.length_range, offset_succ]
theorem placesTo_get (t : Inst) : ∀ (n k x r : Nat), (placesTo t n)[k]? = some (x, r) → x < n ∧ r < rows t x ∧ k = offset t x + r
  | 0, k, x, r, h => by simp [placesTo] at h
  | n + 1, k, x, r, h => by
    rw [placesTo_succ] at h
    by_cases e : k < (placesTo t n).length
    · rw [List.getElem?_append_left e] at h
      obtain ⟨h1, h2, h3⟩ := placesTo_get t n k x r h
      exact ⟨by omega, h2, h3⟩
    · rw [List.getElem?_append_right (by omega)] at h
      rw [placesTo_length] at h e
      rw [List.getElem?_map] at h
      cases q : (List.range (rows t n))[k - offset t n]? with
      | none => rw [q] at h; cases h
      | some z =>
        rw [q] at h
        obtain ⟨q1, q2⟩ := List.getElem?_eq_some_iff.mp q
        rw [List.length_range] at q1
        rw [List.getElem_range] at q2
        have h : (n, z) = (x, r) := Option.some.inj h
        have e1 : n = x := congrArg Prod.fst h
        have e2 : z = r := congrArg Prod.snd h
        subst e1 e2
        exact ⟨by omega, by omega, by omega⟩
theorem places_length {c : Cat} {t : Inst} (h : t.size.length = c.n) : (places c t).length = total t := by
  rw [places_eq, placesTo_length, offset_all h]
theorem places_get {c : Cat} {t : Inst} {k x r : Nat} (h : (places c t)[k]? = some (x, r)) : x < c.n ∧ r < rows t x ∧ k = offset t x + r := placesTo_get t c.n k x r h
theorem mem_places {c : Cat} {t : Inst} {x r : Nat} : (x, r) ∈ places c t ↔ x < c.n ∧ r < rows t x := by
  rw [places_eq]
  unfold placesTo
  rw [List.mem_flatMap]
  constructor
  · rintro ⟨y, hy, h⟩
    obtain ⟨q, hq, e⟩ := List.mem_map.mp h
    cases e
    exact ⟨List.mem_range.mp hy, List.mem_range.mp hq⟩
  · rintro ⟨h1, h2⟩
    exact ⟨x, List.mem_range.mpr h1, List.mem_map.mpr ⟨r, List.mem_range.mpr h2, rfl⟩⟩
theorem places_at {c : Cat} {t : Inst} (h : t.size.length = c.n) {x r : Nat} (hx : x < c.n) (hr : r < rows t x) : (places c t)[offset t x + r]? = some (x, r) := by
  obtain ⟨k, hk, e⟩ := List.getElem_of_mem (mem_places.mpr ⟨hx, hr⟩)
  have q : (places c t)[k]? = some (x, r) := by rw [List.getElem?_eq_getElem hk, e]
  rw [← (places_get q).2.2]
  exact q
/-! the first fault -/
def fault12 (c : Cat) (t : Inst) (f r : Nat) : Option (List Nat) := if go c t f r = 99 then some [1, f, r] else if rows t (to_ c f) ≤ go c t f r then some [2, f, r] else none
def missing (c : Cat) (t : Inst) : Option (List Nat) := (others c).findSome? fun f => (List.range (rows t (from_ c f))).findSome? fun r => fault12 c t f r
def fault3 (c : Cat) (t : Inst) (f g r : Nat) : Option (List Nat) := match made c f g with
  | none => none
  | some h => if go c t g (go c t f r) = go c t h r then none else some [3, f, g, r]
def elsewhere (c : Cat) (t : Inst) : Option (List Nat) := (pairs c).findSome? fun p => (List.range (rows t (from_ c p.1))).findSome? fun r => fault3 c t p.1 p.2 r
theorem findSome_map {α β γ : Type} (f : α → β) (g : β → Option γ) : ∀ l : List α, (l.map f).findSome? g = l.findSome? fun a => g (f a)
  | [] => rfl
  | a :: l => by rw [List.map_cons, List.findSome?_cons, List.findSome?_cons, findSome_map f g l]
theorem findSome_flat {α β γ : Type} (f : α → List β) (g : β → Option γ) : ∀ l : List α, (l.flatMap f).findSome? g = l.findSome? fun a => (f a).findSome? g
  | [] => rfl
  | a :: l => by
    rw [List.flatMap_cons, List.findSome?_append, List.findSome?_cons, findSome_flat f g l]
    cases (f a).findSome? g <;> rfl
theorem findSome_filter {α γ : Type} (p : α → Bool) (g : α → Option γ) : ∀ l : List α, (l.filter p).findSome? g = l.findSome? fun a => if p a = true then g a else none
  | [] => rfl
  | a :: l => by
    by_cases h : p a = true
    · rw [List.filter_cons, if_pos h, List.findSome?_cons, List.findSome?_cons, findSome_filter p g l, if_pos h]
    · rw [List.filter_cons, if_neg h, List.findSome?_cons, findSome_filter p g l, if_neg h]
theorem findSome_ext {α γ : Type} {g h : α → Option γ} : ∀ {l : List α}, (∀ a, a ∈ l → g a = h a) → l.findSome? g = l.findSome? h
  | [], _ => rfl
  | a :: l, e => by
    rw [List.findSome?_cons, List.findSome?_cons, e a List.mem_cons_self, findSome_ext fun b hb => e b (List.mem_cons_of_mem _ hb)]
theorem faultI_eq (c : Cat) (t : Inst) : faultI c t = (missing c t).or (elsewhere c t) := by
  have e2 : elsewhere c t = (others c).findSome? fun f => (others c).findSome? fun g => match after c f g with
    | none => none
    | some h => (List.range (rows t (from_ c f))).findSome? fun r => if go c t g (go c t f r) = go c t h r then none else some [3, f, g, r] := by
    unfold elsewhere pairs
    rw [findSome_flat]
    refine findSome_ext fun f _ => ?_
    rw [findSome_map, findSome_filter]
    refine findSome_ext fun g _ => ?_
    by_cases m : to_ c f = from_ c g
    · rw [if_pos (by simp [meet, m]), after_made m]
      unfold fault3
      cases made c f g with
      | none => 
        show List.findSome? (fun r => none) _ = none
        rw [List.findSome?_eq_none_iff]; intros; rfl
      | some h => rfl
    · rw [if_neg (by simp [meet, m]), after_none m]
  rw [e2]
  unfold faultI missing fault12 others
  simp only []
  cases List.findSome? (fun f => List.findSome? (fun r => if go c t f r = 99 then some [1, f, r] else if rows t (to_ c f) ≤ go c t f r then some [2, f, r] else none) (List.range (rows t (from_ c f)))) (List.filter (fun f => decide (c.n ≤ f)) (all c)) with
  | none => rfl
  | some l => rfl
/-- an instance that is right -/
structure Right (c : Cat) (t : Inst) : Prop where
  there : ∀ f, c.n ≤ f → f < c.arrows.length → ∀ r, r < rows t (from_ c f) → go c t f r < rows t (to_ c f)
theorem right_of_missing {c : Cat} {t : Inst} (h : missing c t = none) : Right c t := by
  refine ⟨fun f h1 h2 r hr => ?_⟩
  unfold missing at h
  rw [List.findSome?_eq_none_iff] at h
  have q := h f (mem_others.mpr ⟨h1, h2⟩)
  rw [List.findSome?_eq_none_iff] at q
  have q := q r (List.mem_range.mpr hr)
  unfold fault12 at q
  by_cases a : go c t f r = 99
  · rw [if_pos a] at q; cases q
  · rw [if_neg a] at q
    by_cases b : rows t (to_ c f) ≤ go c t f r
    · rw [if_pos b] at q; cases q
    · omega
theorem right_of {c : Cat} {t : Inst} (h : faultI c t = none) : Right c t := by
  rw [faultI_eq] at h
  cases e : missing c t with
  | none => exact right_of_missing e
  | some l => rw [e] at h; cases h
theorem Right.go_lt {c : Cat} {t : Inst} (W : WC c) (R : Right c t) {f r : Nat} (hf : f < c.arrows.length) (hr : r < rows t (from_ c f)) : go c t f r < rows t (to_ c f) := by
  by_cases h : f < c.n
  · unfold go
    rw [if_pos h, to_own W h]
    rw [from_own W h] at hr
    exact hr
  · exact R.there f (by omega) hf r hr
end AR
set_option linter.all false
/-! Maps, row by row. -/
namespace AR
open Fc02
/-- a condition: a row's place, the place of the row to which it leads along an arrow, the arrow -/
def condsOf (c : Cat) (s : Inst) (f : Nat) : List (Nat × Nat × Nat) := (List.range (rows s (from_ c f))).map fun r => (offset s (from_ c f) + r, offset s (to_ c f) + go c s f r, f)
def condsAll (c : Cat) (s : Inst) : List (Nat × Nat × Nat) := (others c).flatMap (condsOf c s)
def conds (c : Cat) (s : Inst) (p : Nat) : List (Nat × Nat × Nat) := (condsAll c s).filter fun q => max q.1 q.2.1 == p
def holdsM (c : Cat) (t : Inst) (cs : List (Nat × Nat × Nat)) (w : List Nat) : Bool := cs.all fun q => go c t q.2.2 (w.getD q.1 0) == w.getD q.2.1 0
def grownM (c : Cat) (t : Inst) (ms : List (List Nat)) (k : Nat) (cs : List (Nat × Nat × Nat)) : List (List Nat) := ms.flatMap fun m => ((List.range k).map fun v => m ++ [v]).filter (holdsM c t cs)
def stage (c : Cat) (s t : Inst) : Nat → List (List Nat)
  | 0 => [[]]
  | k + 1 => grownM c t (stage c s t k) (rows t ((places c s).getD k (0, 0)).1) (conds c s k)
theorem mem_grownM {c : Cat} {t : Inst} {ms : List (List Nat)} {k : Nat} {cs : List (Nat × Nat × Nat)} {w : List Nat} : w ∈ grownM c t ms k cs ↔ ∃ m v, m ∈ ms ∧ v < k ∧ w = m ++ [v] ∧ holdsM c t cs w = true := by
  unfold grownM
  rw [List.mem_flatMap]
  constructor
  · rintro ⟨m, hm, h⟩
    obtain ⟨h1, h2⟩ := List.mem_filter.mp h
    obtain ⟨v, hv, rfl⟩ := List.mem_map.mp h1
    exact ⟨m, v, hm, List.mem_range.mp hv, rfl, h2⟩
  · rintro ⟨m, v, hm, hv, rfl, h⟩
    exact ⟨m, hm, List.mem_filter.mpr ⟨List.mem_map.mpr ⟨v, List.mem_range.mpr hv, rfl⟩, h⟩⟩
/-- a beginning of a map: of length k, each row to one that is there -/
structure Beg (c : Cat) (s t : Inst) (k : Nat) (m : List Nat) : Prop where
  len : m.length = k
  there : ∀ j x r, j < k → (places c s)[j]? = some (x, r) → m.getD j 0 < rows t x
theorem getD_left {m : List Nat} {v j : Nat} (h : j < m.length) : (m ++ [v]).getD j 0 = m.getD j 0 := by
  rw [List.getD_eq_getElem?_getD, List.getD_eq_getElem?_getD, List.getElem?_append_left h]
theorem getD_last {m : List Nat} {v j : Nat} (h : j = m.length) : (m ++ [v]).getD j 0 = v := by
  subst h
  rw [List.getD_eq_getElem?_getD, List.getElem?_append_right (Nat.le_refl _)]
  simp
theorem beg_stage {c : Cat} {s t : Inst} : ∀ {k : Nat}, k ≤ (places c s).length → ∀ m, m ∈ stage c s t k → Beg c s t k m
  | 0, _, m, h => by
    have e : m = [] := by simpa [stage] using h
    subst e
    exact ⟨rfl, fun j x r hj => by omega⟩
  | k + 1, hk, w, h => by
    obtain ⟨m, v, hm, hv, rfl, _⟩ := mem_grownM.mp h
    have B := beg_stage (k := k) (by omega) m hm
    refine ⟨by rw [List.length_append, B.len]; rfl, fun j x r hj e => ?_⟩
    by_cases q : j < k
    · rw [getD_left (by rw [B.len]; exact q)]
      exact B.there j x r q e
    · have q : j = k := by omega
      subst q
      rw [getD_last B.len.symm]
      rw [List.getD_eq_getElem?_getD, e] at hv
      exact hv
theorem stage_len {c : Cat} {s t : Inst} (ht : total t ≤ 6) : ∀ k, (stage c s t k).length ≤ 6 ^ k
  | 0 => by simp [stage]
  | k + 1 => by
    have ih := stage_len ht (c := c) (s := s) k
    have gen : ∀ (ms : List (List Nat)) (n : Nat) (cs : List (Nat × Nat × Nat)), n ≤ 6 → (grownM c t ms n cs).length ≤ 6 * ms.length := by
      intro ms n cs hn
      induction ms with
      | nil => simp [grownM]
      | cons m ms ih2 =>
        unfold grownM at ih2 ⊢
        rw [List.flatMap_cons, List.length_append, List.length_cons]
        have a := List.length_filter_le (holdsM c t cs) ((List.range n).map fun v => m ++ [v])
        rw [List.length_map, List.length_range] at a
        omega
    have a := gen (stage c s t k) (rows t ((places c s).getD k (0, 0)).1) (conds c s k) (Nat.le_trans (rows_le _ _) ht)
    rw [Nat.pow_succ]
    show (grownM c t (stage c s t k) _ _).length ≤ _
    omega
theorem mem_conds {c : Cat} {s : Inst} {p : Nat} {q : Nat × Nat × Nat} : q ∈ conds c s p ↔ ∃ f r, f ∈ others c ∧ r < rows s (from_ c f) ∧ q = (offset s (from_ c f) + r, offset s (to_ c f) + go c s f r, f) ∧ max (offset s (from_ c f) + r) (offset s (to_ c f) + go c s f r) = p := by
  unfold conds condsAll condsOf
  rw [List.mem_filter, List.mem_flatMap]
  constructor
  · rintro ⟨⟨f, hf, h⟩, e⟩
    obtain ⟨r, hr, rfl⟩ := List.mem_map.mp h
    exact ⟨f, r, hf, List.mem_range.mp hr, rfl, by simpa using e⟩
  · rintro ⟨f, r, hf, hr, rfl, e⟩
    exact ⟨⟨f, hf, List.mem_map.mpr ⟨r, List.mem_range.mpr hr, rfl⟩⟩, by simpa using e⟩
theorem getD_some {w : List Nat} {j : Nat} (h : j < w.length) : w[j]? = some (w.getD j 0) := by
  rw [List.getD_eq_getElem?_getD, List.getElem?_eq_getElem h]
  rfl
theorem getD_of_some {w : List Nat} {j u : Nat} (h : w[j]? = some u) : w.getD j 0 = u ∧ j < w.length := by
  rw [List.getD_eq_getElem?_getD, h]
  exact ⟨rfl, (List.getElem?_eq_some_iff.mp h).1⟩
theorem suits_iff {c : Cat} {s t : Inst} {m : List Nat} {x r v : Nat} : suits c s t m x r v = true ↔ ∀ f, f < c.arrows.length →
    (from_ c f = x → ∀ u, (m ++ [v])[offset s (to_ c f) + go c s f r]? = some u → go c t f v = u) ∧
    (to_ c f = x → ∀ q, q < rows s (from_ c f) → go c s f q = r → ∀ u, (m ++ [v])[offset s (from_ c f) + q]? = some u → go c t f u = v) := by
  unfold suits
  simp only [List.all_eq_true, all, List.mem_range, Bool.and_eq_true, Bool.or_eq_true, bne_iff_ne, ne_eq]
  constructor
  · intro h f hf
    obtain ⟨h1, h2⟩ := h f hf
    refine ⟨fun e u hu => ?_, fun e q hq eq u hu => ?_⟩
    · rcases h1 with h1 | h1
      · exact absurd e h1
      · rw [hu] at h1
        simpa using h1
    · rcases h2 with h2 | h2
      · exact absurd e h2
      · rcases h2 q hq with h3 | h3
        · exact absurd eq h3
        · rw [hu] at h3
          simpa using h3
  · intro h f hf
    obtain ⟨h1, h2⟩ := h f hf
    refine ⟨?_, ?_⟩
    · by_cases e : from_ c f = x
      · refine Or.inr ?_
        cases q : (m ++ [v])[offset s (to_ c f) + go c s f r]? with
        | none => rfl
        | some u => simpa using h1 e u q
      · exact Or.inl e
    · by_cases e : to_ c f = x
      · refine Or.inr fun q hq => ?_
        by_cases eq : go c s f q = r
        · refine Or.inr ?_
          cases k : (m ++ [v])[offset s (from_ c f) + q]? with
          | none => rfl
          | some u => simpa using h2 e q hq eq u k
        · exact Or.inl eq
      · exact Or.inl e
theorem suits_holds {c : Cat} (W : WC c) {s t : Inst} (hs : s.size.length = c.n) (R : Right c s) {m : List Nat} {x r v : Nat} (hx : x < c.n) (hr : r < rows s x) (hm : m.length = offset s x + r) :
    suits c s t m x r v = holdsM c t (conds c s (offset s x + r)) (m ++ [v]) := by
  have wl : (m ++ [v]).length = offset s x + r + 1 := by rw [List.length_append, hm]; rfl
  have wk : (m ++ [v]).getD (offset s x + r) 0 = v := getD_last hm.symm
  have two : suits c s t m x r v = true ↔ holdsM c t (conds c s (offset s x + r)) (m ++ [v]) = true := by
    rw [suits_iff]
    unfold holdsM
    rw [List.all_eq_true]
    constructor
    · intro h z hz
      obtain ⟨f, q, hf, hq, rfl, e⟩ := mem_conds.mp hz
      obtain ⟨hn, hl⟩ := mem_others.mp hf
      obtain ⟨h1, h2⟩ := h f hl
      have gl := R.there f hn hl q hq
      have goal : go c t f ((m ++ [v]).getD (offset s (from_ c f) + q) 0) = (m ++ [v]).getD (offset s (to_ c f) + go c s f q) 0 := by
        by_cases a : offset s (from_ c f) + q = offset s x + r
        · obtain ⟨ex, eq⟩ := place_inj hq hr a
          subst eq
          rw [a, wk]
          exact h1 ex _ (getD_some (by rw [wl]; omega))
        · have b : offset s (to_ c f) + go c s f q = offset s x + r := by omega
          obtain ⟨ex, eq⟩ := place_inj gl hr b
          rw [b, wk]
          exact h2 ex q hq eq _ (getD_some (by rw [wl]; omega))
      simpa using goal
    · intro h f hl
      by_cases o : f < c.n
      · have g1 : ∀ z : Inst, ∀ q, go c z f q = q := fun z q => by unfold go; rw [if_pos o]
        rw [from_own W o, to_own W o]
        refine ⟨fun e u hu => ?_, fun e q hq eq u hu => ?_⟩
        · subst e
          rw [g1] at hu ⊢
          rw [← wk]
          exact (getD_of_some hu).1
        · subst e
          rw [g1] at eq ⊢
          subst eq
          rw [← wk]
          exact (getD_of_some hu).1.symm
      · have hn : c.n ≤ f := Nat.le_of_not_lt o
        refine ⟨fun e u hu => ?_, fun e q hq eq u hu => ?_⟩
        · obtain ⟨u1, u2⟩ := getD_of_some hu
          rw [wl] at u2
          have z := h (offset s (from_ c f) + r, offset s (to_ c f) + go c s f r, f) (mem_conds.mpr ⟨f, r, mem_others.mpr ⟨hn, hl⟩, by rw [e]; exact hr, rfl, by rw [e]; omega⟩)
          have z : go c t f ((m ++ [v]).getD (offset s (from_ c f) + r) 0) = (m ++ [v]).getD (offset s (to_ c f) + go c s f r) 0 := by simpa using z
          rw [e, wk, u1] at z
          exact z
        · obtain ⟨u1, u2⟩ := getD_of_some hu
          rw [wl] at u2
          have z := h (offset s (from_ c f) + q, offset s (to_ c f) + go c s f q, f) (mem_conds.mpr ⟨f, q, mem_others.mpr ⟨hn, hl⟩, hq, rfl, by rw [e, eq]; omega⟩)
          have z : go c t f ((m ++ [v]).getD (offset s (from_ c f) + q) 0) = (m ++ [v]).getD (offset s (to_ c f) + go c s f q) 0 := by simpa using z
          rw [e, eq, wk, u1] at z
          exact z
  exact Bool.eq_iff_iff.mpr two
theorem filter_ext {α : Type} {p q : α → Bool} : ∀ {l : List α}, (∀ a, a ∈ l → p a = q a) → l.filter p = l.filter q
  | [], _ => rfl
  | a :: l, h => by
    rw [List.filter_cons, List.filter_cons, h a List.mem_cons_self, filter_ext fun b hb => h b (List.mem_cons_of_mem _ hb)]
theorem flatMap_ext {α β : Type} {f g : α → List β} : ∀ {l : List α}, (∀ a, a ∈ l → f a = g a) → l.flatMap f = l.flatMap g
  | [], _ => rfl
  | a :: l, h => by
    rw [List.flatMap_cons, List.flatMap_cons, h a List.mem_cons_self, flatMap_ext fun b hb => h b (List.mem_cons_of_mem _ hb)]
theorem drop_cons {α : Type} {l : List α} {k : Nat} {a : α} (h : l[k]? = some a) : l.drop k = a :: l.drop (k + 1) := by
  obtain ⟨h1, h2⟩ := List.getElem?_eq_some_iff.mp h
  rw [List.drop_eq_getElem_cons h1, h2]
theorem stage_maps {c : Cat} (W : WC c) {s t : Inst} (hs : s.size.length = c.n) (R : Right c s) : ∀ {k : Nat}, k ≤ (places c s).length → (stage c s t k).flatMap (extend c s t ((places c s).drop k)) = maps c s t
  | 0, _ => by
    show List.flatMap _ [[]] = _
    rw [List.drop_zero]
    simp [maps]
  | k + 1, hk => by
    rw [← stage_maps W hs R (k := k) (by omega)]
    obtain ⟨⟨x, r⟩, e⟩ : ∃ p, (places c s)[k]? = some p := ⟨_, List.getElem?_eq_getElem (by omega)⟩
    obtain ⟨hx, hr, hp⟩ := places_get e
    rw [drop_cons e]
    show (grownM c t (stage c s t k) (rows t ((places c s).getD k (0, 0)).1) (conds c s k)).flatMap _ = _
    rw [List.getD_eq_getElem?_getD, e]
    show (grownM c t (stage c s t k) (rows t x) (conds c s k)).flatMap _ = _
    unfold grownM
    rw [List.flatMap_assoc]
    refine flatMap_ext fun m hm => ?_
    have B := beg_stage (t := t) (k := k) (by omega) m hm
    show _ = ((List.range (rows t x)).filter (suits c s t m x r)).flatMap fun v => extend c s t ((places c s).drop (k + 1)) (m ++ [v])
    rw [List.filter_map, List.flatMap_map]
    congr 1
    refine filter_ext fun v _ => ?_
    rw [suits_holds W hs R hx hr (by rw [B.len]; exact hp), hp]
    rfl
theorem stage_all {c : Cat} (W : WC c) {s t : Inst} (hs : s.size.length = c.n) (R : Right c s) : stage c s t (total s) = maps c s t := by
  rw [← stage_maps W hs R (k := total s) (by rw [places_length hs]; exact Nat.le_refl _), List.drop_of_length_le (by rw [places_length hs]; exact Nat.le_refl _)]
  have e : ∀ l : List (List Nat), l.flatMap (extend c s t []) = l := fun l => by
    induction l with
    | nil => rfl
    | cons a l ih => rw [List.flatMap_cons, ih]; rfl
  exact (e _).symm
end AR
set_option linter.all false
/-! A thing's arrows as rows; what hangs together. -/
namespace AR
open Fc02
theorem mem_hom {c : Cat} {x y f : Nat} : f ∈ hom c x y ↔ f < c.arrows.length ∧ from_ c f = x ∧ to_ c f = y := by
  unfold hom all
  rw [List.mem_filter, List.mem_range]
  constructor
  · rintro ⟨h1, h2⟩
    rw [ends_get h1] at h2
    have h2 : (from_ c f, to_ c f) = (x, y) := by simpa using h2
    exact ⟨h1, congrArg Prod.fst h2, congrArg Prod.snd h2⟩
  · rintro ⟨h1, rfl, rfl⟩
    exact ⟨h1, by rw [ends_get h1]; simp⟩
theorem hom_len (c : Cat) (x y : Nat) : (hom c x y).length ≤ c.arrows.length := by
  unfold hom all
  have := List.length_filter_le (fun f => c.arrows[f]? == some (x, y)) (List.range c.arrows.length)
  rw [List.length_range] at this
  exact this
theorem arrowsOf_rows {c : Cat} {x y : Nat} (h : y < c.n) : rows (arrowsOf c x) y = (hom c x y).length := by
  show ((List.range c.n).map _).getD y 0 = _
  rw [List.getD_eq_getElem?_getD, List.getElem?_map, List.getElem?_range h]
  rfl
theorem arrowsOf_tab {c : Cat} {x f : Nat} (h : f < c.arrows.length) : (arrowsOf c x).tab.getD f [] = (hom c x (from_ c f)).map fun h => match after c h f with
    | none => 99
    | some k => ((hom c x (to_ c f)).findIdx? fun g => g == k).getD 99 := by
  show ((List.range c.arrows.length).map _).getD f [] = _
  rw [List.getD_eq_getElem?_getD, List.getElem?_map, List.getElem?_range h]
  rfl
theorem wi_arrowsOf {c : Cat} (W : WC c) {x : Nat} (h6 : total (arrowsOf c x) ≤ 6) : WI c (arrowsOf c x) := by
  refine ⟨?_, h6, ?_, fun f h1 h2 => ?_, fun f h1 h2 v hv => ?_⟩
  · show ((List.range c.n).map _).length = _
    rw [List.length_map, List.length_range]
  · show ((List.range c.arrows.length).map _).length = _
    rw [List.length_map, List.length_range]
  · rw [arrowsOf_tab h2, List.length_map, arrowsOf_rows (from_lt W h2)]
  · rw [arrowsOf_tab h2] at hv
    obtain ⟨g, _, rfl⟩ := List.mem_map.mp hv
    cases after c g f with
    | none => exact Nat.le_refl _
    | some k =>
      simp only
      cases e : (hom c x (to_ c f)).findIdx? fun g => g == k with
      | none => exact Nat.le_refl _
      | some i =>
        have := (List.findIdx?_eq_some_iff_getElem.mp e).1
        have l := hom_len c x (to_ c f)
        have l9 := W.len9
        show i ≤ 99
        omega
/-! what hangs together -/
/-- row p leads to row q along some arrow -/
def Leads (c : Cat) (t : Inst) (p q : Nat × Nat) : Prop := ∃ f, f < c.arrows.length ∧ from_ c f = p.1 ∧ to_ c f = q.1 ∧ go c t f p.2 = q.2
theorem mem_reached {c : Cat} {t : Inst} {l : List (Nat × Nat)} {p : Nat × Nat} : p ∈ reached c t l ↔ p ∈ places c t ∧ ∃ q, q ∈ l ∧ Leads c t q p := by
  unfold reached Leads all
  rw [List.mem_filter]
  simp only [List.any_eq_true, List.mem_range, Bool.and_eq_true, beq_iff_eq]
inductive Conn (c : Cat) (t : Inst) (p : Nat × Nat) : Nat × Nat → Prop
  | here : Conn c t p p
  | to {q r : Nat × Nat} : Conn c t p q → r ∈ places c t → Leads c t q r → Conn c t p r
  | back {q r : Nat × Nat} : Conn c t p q → r ∈ places c t → Leads c t r q → Conn c t p r
/-- one step of spread -/
def wider (c : Cat) (t : Inst) (l : List (Nat × Nat)) : List (Nat × Nat) := (places c t).filter fun p => l.contains p || ((reached c t l).contains p || (reached c t [p]).any l.contains)
theorem spread_succ (c : Cat) (t : Inst) (f : Nat) (l : List (Nat × Nat)) : spread c t (f + 1) l = spread c t f (wider c t l) := rfl
theorem mem_wider {c : Cat} {t : Inst} {l : List (Nat × Nat)} {p : Nat × Nat} (hl : ∀ q, q ∈ l → q ∈ places c t) : p ∈ wider c t l ↔ p ∈ places c t ∧ (p ∈ l ∨ (∃ q, q ∈ l ∧ Leads c t q p) ∨ ∃ q, q ∈ l ∧ Leads c t p q) := by
  unfold wider
  rw [List.mem_filter]
  simp only [Bool.or_eq_true, List.any_eq_true, List.contains_iff_mem, mem_reached]
  constructor
  · rintro ⟨h, h1 | ⟨_, h2⟩ | ⟨q, ⟨_, r, hr, h3⟩, hq⟩⟩
    · exact ⟨h, Or.inl h1⟩
    · exact ⟨h, Or.inr (Or.inl h2)⟩
    · rw [List.mem_singleton.mp hr] at h3
      exact ⟨h, Or.inr (Or.inr ⟨q, hq, h3⟩)⟩
  · rintro ⟨h, h1 | h2 | ⟨q, hq, h3⟩⟩
    · exact ⟨h, Or.inl h1⟩
    · exact ⟨h, Or.inr (Or.inl ⟨h, h2⟩)⟩
    · exact ⟨h, Or.inr (Or.inr ⟨q, ⟨hl q hq, p, List.mem_singleton.mpr rfl, h3⟩, hq⟩)⟩
theorem wider_sub {c : Cat} {t : Inst} {l : List (Nat × Nat)} : ∀ q, q ∈ wider c t l → q ∈ places c t := fun q h => (List.mem_filter.mp h).1
def Closed (c : Cat) (t : Inst) (l : List (Nat × Nat)) : Prop := ∀ p q, p ∈ l → q ∈ places c t → Leads c t p q ∨ Leads c t q p → q ∈ l
theorem closed_conn {c : Cat} {t : Inst} {l : List (Nat × Nat)} (h : Closed c t l) {p q : Nat × Nat} (hp : p ∈ l) (k : Conn c t p q) : q ∈ l := by
  induction k with
  | here => exact hp
  | to _ hr e ih => exact h _ _ ih hr (Or.inl e)
  | back _ hr e ih => exact h _ _ ih hr (Or.inr e)
theorem filter_same {α : Type} {P Q : α → Bool} : ∀ {l : List α}, (∀ a, a ∈ l → P a = true → Q a = true) → (l.filter P).length = (l.filter Q).length → ∀ a, a ∈ l → Q a = true → P a = true
  | [], _, _, a, h, _ => by cases h
  | b :: l, sub, len, a, h, q => by
    have subl : ∀ a, a ∈ l → P a = true → Q a = true := fun a h => sub a (List.mem_cons_of_mem _ h)
    have le : (l.filter P).length ≤ (l.filter Q).length := by
      clear len h q
      have gen : ∀ l : List α, (∀ a, a ∈ l → P a = true → Q a = true) → (l.filter P).length ≤ (l.filter Q).length := fun l => by
        induction l with
        | nil => intro _; exact Nat.le_refl _
        | cons d l ih =>
          intro s
          have ih := ih fun a h => s a (List.mem_cons_of_mem _ h)
          by_cases p : P d = true
          · rw [List.filter_cons, if_pos p, List.filter_cons, if_pos (s d List.mem_cons_self p), List.length_cons, List.length_cons]; omega
          · rw [List.filter_cons, if_neg p, List.filter_cons]
            split
            · rw [List.length_cons]; omega
            · exact ih
      exact gen l subl
    by_cases p : P b = true
    · have qb := sub b List.mem_cons_self p
      rw [List.filter_cons, if_pos p, List.filter_cons, if_pos qb, List.length_cons, List.length_cons] at len
      rcases List.mem_cons.mp h with e | h
      · rw [e]; exact p
      · exact filter_same subl (by omega) a h q
    · by_cases qb : Q b = true
      · rw [List.filter_cons, if_neg p, List.filter_cons, if_pos qb, List.length_cons] at len
        omega
      · rw [List.filter_cons, if_neg p, List.filter_cons, if_neg qb] at len
        rcases List.mem_cons.mp h with e | h
        · rw [e] at q; exact absurd q qb
        · exact filter_same subl len a h q
/-- lists that are cut out of the places -/
structure Cut (c : Cat) (t : Inst) (l : List (Nat × Nat)) : Prop where
  ex : ∃ P, l = (places c t).filter P
theorem Cut.sub {c : Cat} {t : Inst} {l : List (Nat × Nat)} (h : Cut c t l) : ∀ q, q ∈ l → q ∈ places c t := fun q hq => by
  obtain ⟨P, rfl⟩ := h.ex
  exact (List.mem_filter.mp hq).1
theorem Cut.wider {c : Cat} {t : Inst} (l : List (Nat × Nat)) : Cut c t (wider c t l) := ⟨_, rfl⟩
theorem Cut.mem {c : Cat} {t : Inst} {l : List (Nat × Nat)} {P : Nat × Nat → Bool} (e : l = (places c t).filter P) {q : Nat × Nat} (h : q ∈ places c t) : P q = true ↔ q ∈ l := by
  rw [e, List.mem_filter]
  exact ⟨fun w => ⟨h, w⟩, fun w => w.2⟩
/-- if nothing is added, it is closed -/
theorem closed_of_len {c : Cat} {t : Inst} {l : List (Nat × Nat)} (h : Cut c t l) (len : (wider c t l).length = l.length) : Closed c t l := by
  intro p q hp hq e
  obtain ⟨P, el⟩ := h.ex
  have hs := h.sub
  obtain ⟨P2, e2⟩ := (Cut.wider (c := c) (t := t) l).ex
  have sub : ∀ a, a ∈ places c t → P a = true → P2 a = true := fun a ha w => (Cut.mem e2 ha).mpr ((mem_wider hs).mpr ⟨ha, Or.inl ((Cut.mem el ha).mp w)⟩)
  have w : P2 q = true := (Cut.mem e2 hq).mpr ((mem_wider hs).mpr ⟨hq, Or.inr (e.imp (fun z => ⟨p, hp, z⟩) fun z => ⟨p, hp, z⟩)⟩)
  have len' : ((places c t).filter P).length = ((places c t).filter P2).length := by rw [← el, ← e2]; exact len.symm
  exact (Cut.mem el hq).mp (filter_same sub len' q hq w)
theorem wider_grows {c : Cat} {t : Inst} {l : List (Nat × Nat)} (h : Cut c t l) : l.length ≤ (wider c t l).length := by
  obtain ⟨P, el⟩ := h.ex
  obtain ⟨P2, e2⟩ := (Cut.wider (c := c) (t := t) l).ex
  have sub : ∀ a, a ∈ places c t → P a = true → P2 a = true := fun a ha w => (Cut.mem e2 ha).mpr ((mem_wider h.sub).mpr ⟨ha, Or.inl ((Cut.mem el ha).mp w)⟩)
  rw [e2, el]
  clear el e2
  generalize places c t = L at sub
  induction L with
  | nil => exact Nat.le_refl _
  | cons d l ih =>
    have ih := ih fun a h => sub a (List.mem_cons_of_mem _ h)
    by_cases p : P d = true
    · rw [List.filter_cons, if_pos p, List.filter_cons, if_pos (sub d List.mem_cons_self p), List.length_cons, List.length_cons]; omega
    · rw [List.filter_cons, if_neg p, List.filter_cons]
      split
      · rw [List.length_cons]; omega
      · exact ih
theorem closed_wider {c : Cat} {t : Inst} {l : List (Nat × Nat)} (h : Cut c t l) (k : Closed c t l) : Closed c t (wider c t l) := by
  have e : ∀ q, q ∈ wider c t l ↔ q ∈ l := fun q => by
    rw [mem_wider h.sub]
    constructor
    · rintro ⟨hq, w | ⟨p, hp, w⟩ | ⟨p, hp, w⟩⟩
      · exact w
      · exact k p q hp hq (Or.inl w)
      · exact k p q hp hq (Or.inr w)
    · intro w
      exact ⟨h.sub q w, Or.inl w⟩
  intro p q hp hq w
  exact (e q).mpr (k p q ((e p).mp hp) hq w)
theorem spread_closed {c : Cat} {t : Inst} : ∀ (f : Nat) {l : List (Nat × Nat)}, Cut c t l → (Closed c t l ∨ (places c t).length < l.length + f) → Closed c t (spread c t f l)
  | 0, l, h, w => by
    rcases w with w | w
    · exact w
    · exfalso
      obtain ⟨P, el⟩ := h.ex
      have := List.length_filter_le P (places c t)
      rw [← el] at this
      omega
  | f + 1, l, h, w => by
    rw [spread_succ]
    refine spread_closed f (Cut.wider l) ?_
    rcases w with w | w
    · exact Or.inl (closed_wider h w)
    · by_cases e : (wider c t l).length = l.length
      · exact Or.inl (closed_wider h (closed_of_len h e))
      · have := wider_grows h
        exact Or.inr (by omega)
theorem spread_cut {c : Cat} {t : Inst} : ∀ (f : Nat) {l : List (Nat × Nat)}, Cut c t l → Cut c t (spread c t f l)
  | 0, l, h => h
  | f + 1, l, h => spread_cut f (Cut.wider l)
theorem spread_has {c : Cat} {t : Inst} : ∀ (f : Nat) {l : List (Nat × Nat)}, (∀ q, q ∈ l → q ∈ places c t) → ∀ q, q ∈ l → q ∈ spread c t f l
  | 0, l, _, q, h => h
  | f + 1, l, hl, q, h => spread_has f wider_sub q ((mem_wider hl).mpr ⟨hl q h, Or.inl h⟩)
theorem spread_conn {c : Cat} {t : Inst} {p : Nat × Nat} : ∀ (f : Nat) {l : List (Nat × Nat)}, (∀ q, q ∈ l → q ∈ places c t) → (∀ q, q ∈ l → Conn c t p q) → ∀ q, q ∈ spread c t f l → Conn c t p q
  | 0, l, _, k, q, h => k q h
  | f + 1, l, hl, k, q, h => spread_conn f wider_sub (fun r hr => by
      rcases (mem_wider hl).mp hr with ⟨hp, w | ⟨s, hs, w⟩ | ⟨s, hs, w⟩⟩
      · exact k r w
      · exact .to (k s hs) hp w
      · exact .back (k s hs) hp w) q h
theorem nodup_placesTo (t : Inst) : ∀ n, (placesTo t n).Nodup
  | 0 => by simp [placesTo]
  | n + 1 => by
    rw [placesTo_succ]
    refine List.nodup_append.mpr ⟨nodup_placesTo t n, ?_, ?_⟩
    · exact List.Pairwise.map _ (fun a b h e => h (congrArg Prod.snd e)) List.nodup_range
    · intro p hp q hq e
      subst e
      obtain ⟨r, _, rfl⟩ := List.mem_map.mp hq
      have h1 : n < n := ((mem_places (c := ⟨n, [], []⟩) (t := t) (x := n) (r := r)).mp hp).1
      omega
theorem filter_one {l : List (Nat × Nat)} (nd : l.Nodup) {p : Nat × Nat} (h : p ∈ l) : l.filter (fun q => q == p) = [p] := by
  induction l with
  | nil => cases h
  | cons a l ih =>
    have nd := List.nodup_cons.mp nd
    rw [List.filter_cons]
    by_cases e : a = p
    · subst e
      rw [if_pos (by simp)]
      congr 1
      rw [List.filter_eq_nil_iff]
      intro b hb z
      exact nd.1 ((by simpa using z : b = a) ▸ hb)
    · rw [if_neg (by simpa using e)]
      rcases List.mem_cons.mp h with z | z
      · exact absurd z.symm e
      · exact ih nd.2 z
theorem cut_one {c : Cat} {t : Inst} {p : Nat × Nat} (h : p ∈ places c t) : Cut c t [p] := ⟨fun q => q == p, (filter_one (nodup_placesTo t c.n) h).symm⟩
/-- **a piece is what hangs together** -/
theorem mem_piece {c : Cat} {t : Inst} (hs : t.size.length = c.n) {p q : Nat × Nat} (hp : p ∈ places c t) : q ∈ piece c t p ↔ Conn c t p q := by
  have one : ∀ q, q ∈ [p] → q ∈ places c t := fun q hq => by rw [List.mem_singleton.mp hq]; exact hp
  unfold piece
  constructor
  · exact spread_conn _ one (fun q hq => by rw [List.mem_singleton.mp hq]; exact .here) q
  · intro k
    have cl := spread_closed (c := c) (t := t) (total t) (cut_one hp) (Or.inr (by rw [places_length hs]; show _ < 1 + _; omega))
    exact closed_conn cl (spread_has _ one p (List.mem_singleton.mpr rfl)) k
theorem piece_cut {c : Cat} {t : Inst} {p : Nat × Nat} (hp : p ∈ places c t) : Cut c t (piece c t p) := spread_cut _ (cut_one hp)
theorem Conn.trans {c : Cat} {t : Inst} {p q r : Nat × Nat} (a : Conn c t p q) (b : Conn c t q r) : Conn c t p r := by
  induction b with
  | here => exact a
  | to _ h e ih => exact .to ih h e
  | back _ h e ih => exact .back ih h e
theorem Conn.mem {c : Cat} {t : Inst} {p q : Nat × Nat} (hp : p ∈ places c t) (a : Conn c t p q) : q ∈ places c t := by
  cases a with
  | here => exact hp
  | to _ h _ => exact h
  | back _ h _ => exact h
theorem Conn.symm {c : Cat} {t : Inst} {p q : Nat × Nat} (hp : p ∈ places c t) (a : Conn c t p q) : Conn c t q p := by
  induction a with
  | here => exact .here
  | to k h e ih => exact Conn.trans (.back .here (Conn.mem hp k) e) ih
  | back k h e ih => exact Conn.trans (.to .here (Conn.mem hp k) e) ih
end AR
set_option linter.all false
/-! Stage 2's mathematics: what rows bring with them; the first rows of pieces; maps that meet each row once; a thing's arrows. -/
namespace AR
open Fc02
/-! lists by their places -/
theorem filter_range {α : Type} (l : List α) (P : α → Bool) (f : Nat → Bool) (h : ∀ i x, l[i]? = some x → f i = P x) (d : α) : ((List.range l.length).filter f).map (fun i => l.getD i d) = l.filter P := by
  have key : ∀ k, k ≤ l.length → ((List.range k).filter f).map (fun i => l.getD i d) = (l.take k).filter P := by
    intro k
    induction k with
    | zero => intro _; rfl
    | succ k ih =>
      intro hk
      have hx : l[k]? = some l[k] := List.getElem?_eq_getElem hk
      have e : l.getD k d = l[k] := by rw [List.getD_eq_getElem?_getD, hx]; rfl
      rw [List.range_succ, List.filter_append, List.map_append, ih (by omega), List.take_succ, hx, List.filter_append]
      congr 1
      show List.map _ (List.filter f [k]) = List.filter P [l[k]]
      rw [List.filter_cons, List.filter_cons, h k _ hx]
      by_cases q : P l[k] = true
      · rw [if_pos q, if_pos q]
        show [l.getD k d] = [l[k]]
        rw [e]
      · rw [if_neg q, if_neg q]
        rfl
  have := key l.length (Nat.le_refl _)
  rw [List.take_length] at this
  exact this
theorem map_range {α β : Type} (l : List α) (g : α → β) (v : Nat → β) (h : ∀ i x, l[i]? = some x → v i = g x) : (List.range l.length).map v = l.map g := by
  refine List.ext_getElem? fun i => ?_
  rw [List.getElem?_map, List.getElem?_map]
  by_cases hi : i < l.length
  · rw [List.getElem?_range hi, List.getElem?_eq_getElem hi]
    show some (v i) = some (g l[i])
    rw [h i _ (List.getElem?_eq_getElem hi)]
  · rw [List.getElem?_eq_none (by rw [List.length_range]; omega), List.getElem?_eq_none (by omega)]
    rfl
/-- a row's place -/
def at_ (t : Inst) (p : Nat × Nat) : Nat := offset t p.1 + p.2
theorem mem_condsAll {c : Cat} {s : Inst} {q : Nat × Nat × Nat} : q ∈ condsAll c s ↔ ∃ f r, f ∈ others c ∧ r < rows s (from_ c f) ∧ q = (offset s (from_ c f) + r, offset s (to_ c f) + go c s f r, f) := by
  unfold condsAll condsOf
  rw [List.mem_flatMap]
  constructor
  · rintro ⟨f, hf, h⟩
    obtain ⟨r, hr, rfl⟩ := List.mem_map.mp h
    exact ⟨f, r, hf, List.mem_range.mp hr, rfl⟩
  · rintro ⟨f, r, hf, hr, rfl⟩
    exact ⟨f, hf, List.mem_map.mpr ⟨r, List.mem_range.mpr hr, rfl⟩⟩
/-! what rows bring with them -/
def broughtIx (c : Cat) (t : Inst) (ps : List Nat) : List Nat := ps ++ ((condsAll c t).filter fun q => decide (q.1 ∈ ps)).map fun q => q.2.1
theorem reached_eq {c : Cat} (W : WC c) {t : Inst} (R : Right c t) {l : List (Nat × Nat)} (hl : ∀ q, q ∈ l → q.1 < c.n ∧ q.2 < rows t q.1) : reached c t l = (places c t).filter fun p => decide (at_ t p ∈ broughtIx c t (l.map (at_ t))) := by
  refine filter_ext fun p hp => ?_
  obtain ⟨x, r⟩ := p
  obtain ⟨hx, hr⟩ := mem_places.mp hp
  have iff : (x, r) ∈ reached c t l ↔ at_ t (x, r) ∈ broughtIx c t (l.map (at_ t)) := by
    rw [mem_reached]
    unfold broughtIx
    rw [List.mem_append]
    constructor
    · rintro ⟨_, q, hq, f, fl, f1, f2, f3⟩
      obtain ⟨q1, q2⟩ := hl q hq
      by_cases fn : f < c.n
      · have a := from_own W fn
        have b := to_own W fn
        have g : go c t f q.2 = q.2 := by unfold go; rw [if_pos fn]
        refine Or.inl (List.mem_map.mpr ⟨q, hq, ?_⟩)
        have e1 : q.1 = x := by rw [← f1, a]; rw [b] at f2; exact f2
        have e2 : q.2 = r := by rw [← g]; exact f3
        unfold at_
        rw [e1, e2]
      · refine Or.inr (List.mem_map.mpr ⟨(offset t (from_ c f) + q.2, offset t (to_ c f) + go c t f q.2, f), List.mem_filter.mpr ⟨mem_condsAll.mpr ⟨f, q.2, mem_others.mpr ⟨by omega, fl⟩, by rw [f1]; exact q2, rfl⟩, decide_eq_true ?_⟩, ?_⟩)
        · show offset t (from_ c f) + q.2 ∈ _
          rw [f1]
          exact List.mem_map.mpr ⟨q, hq, rfl⟩
        · show offset t (to_ c f) + go c t f q.2 = _
          rw [f2, f3]; rfl
    · rintro (h | h)
      · obtain ⟨q, hq, e⟩ := List.mem_map.mp h
        obtain ⟨q1, q2⟩ := hl q hq
        have e : offset t q.1 + q.2 = offset t x + r := e
        obtain ⟨e1, e2⟩ := place_inj q2 hr e
        refine ⟨hp, q, hq, x, Nat.lt_of_lt_of_le hx W.len, ?_, ?_, ?_⟩
        · rw [from_own W hx]; exact e1.symm
        · exact to_own W hx
        · show go c t x q.2 = r
          unfold go
          rw [if_pos hx]; exact e2
      · obtain ⟨z, hz, e⟩ := List.mem_map.mp h
        obtain ⟨h1, h2⟩ := List.mem_filter.mp hz
        obtain ⟨f, u, fo, ur, rfl⟩ := mem_condsAll.mp h1
        obtain ⟨fn, fl⟩ := mem_others.mp fo
        obtain ⟨q, hq, eq⟩ := List.mem_map.mp (of_decide_eq_true h2)
        obtain ⟨q1, q2⟩ := hl q hq
        have eq : offset t q.1 + q.2 = offset t (from_ c f) + u := eq
        obtain ⟨a1, a2⟩ := place_inj q2 ur eq
        have e : offset t (to_ c f) + go c t f u = offset t x + r := e
        obtain ⟨b1, b2⟩ := place_inj (R.there f fn fl u ur) hr e
        exact ⟨hp, q, hq, f, fl, a1.symm, b1, by rw [a2]; exact b2⟩
  have m : ∀ {P : Nat × Nat → Bool}, (x, r) ∈ (places c t).filter P ↔ P (x, r) = true := fun {P} => by
    rw [List.mem_filter]; exact ⟨fun h => h.2, fun h => ⟨hp, h⟩⟩
  unfold reached at iff
  rw [m] at iff
  rw [Bool.eq_iff_iff, iff, decide_eq_true_iff]
/-! the first rows of pieces -/
def stepF (fs : List Nat) (h t : Nat) : List Nat := (fs.set h (min (fs.getD h 0) (fs.getD t 0))).set t (min (fs.getD h 0) (fs.getD t 0))
def stepsF (cs : List (Nat × Nat × Nat)) (fs : List Nat) : List Nat := cs.foldl (fun fs z => stepF fs z.1 z.2.1) fs
def roundF (c : Cat) (t : Inst) : Nat → List Nat
  | 0 => List.range (total t)
  | k + 1 => stepsF (condsAll c t) (roundF c t k)
theorem stepF_len (fs : List Nat) (h t : Nat) : (stepF fs h t).length = fs.length := by
  unfold stepF
  rw [List.length_set, List.length_set]
theorem stepF_get {fs : List Nat} {h t : Nat} (hh : h < fs.length) (ht : t < fs.length) (i : Nat) : (stepF fs h t).getD i 0 = if i = h ∨ i = t then min (fs.getD h 0) (fs.getD t 0) else fs.getD i 0 := by
  unfold stepF
  rw [List.getD_eq_getElem?_getD, List.getElem?_set, List.getElem?_set, List.length_set]
  by_cases e : t = i
  · subst e
    rw [if_pos rfl, if_pos ht, if_pos (Or.inr rfl)]
    rfl
  · rw [if_neg e]
    by_cases e2 : h = i
    · subst e2
      rw [if_pos rfl, if_pos hh, if_pos (Or.inl rfl)]
      rfl
    · rw [if_neg e2, if_neg (by omega), ← List.getD_eq_getElem?_getD]
theorem stepF_le {fs : List Nat} {h t : Nat} (hh : h < fs.length) (ht : t < fs.length) (i : Nat) : (stepF fs h t).getD i 0 ≤ fs.getD i 0 := by
  rw [stepF_get hh ht]
  by_cases e : i = h ∨ i = t
  · rw [if_pos e]
    rcases e with e | e
    · subst e; omega
    · subst e; omega
  · rw [if_neg e]; exact Nat.le_refl _
theorem stepsF_len (cs : List (Nat × Nat × Nat)) : ∀ fs, (stepsF cs fs).length = fs.length := by
  induction cs with
  | nil => intro fs; rfl
  | cons z cs ih => intro fs; show (stepsF cs (stepF fs z.1 z.2.1)).length = _; rw [ih, stepF_len]
def InB (n : Nat) (cs : List (Nat × Nat × Nat)) : Prop := ∀ z, z ∈ cs → z.1 < n ∧ z.2.1 < n
theorem stepsF_le : ∀ (cs : List (Nat × Nat × Nat)) (fs : List Nat), InB fs.length cs → ∀ i, (stepsF cs fs).getD i 0 ≤ fs.getD i 0
  | [], fs, _, i => Nat.le_refl _
  | z :: cs, fs, h, i => by
    have hz := h z List.mem_cons_self
    have a := stepsF_le cs (stepF fs z.1 z.2.1) (by rw [stepF_len]; exact fun y hy => h y (List.mem_cons_of_mem _ hy)) i
    exact Nat.le_trans a (stepF_le hz.1 hz.2 i)
theorem stepsF_edge : ∀ (cs : List (Nat × Nat × Nat)) (fs : List Nat), InB fs.length cs → ∀ z, z ∈ cs → (stepsF cs fs).getD z.1 0 ≤ fs.getD z.2.1 0 ∧ (stepsF cs fs).getD z.2.1 0 ≤ fs.getD z.1 0
  | [], fs, _, z, hz => by cases hz
  | y :: cs, fs, h, z, hz => by
    have hy := h y List.mem_cons_self
    have hb : InB (stepF fs y.1 y.2.1).length cs := by rw [stepF_len]; exact fun y hy => h y (List.mem_cons_of_mem _ hy)
    show (stepsF cs (stepF fs y.1 y.2.1)).getD z.1 0 ≤ _ ∧ (stepsF cs (stepF fs y.1 y.2.1)).getD z.2.1 0 ≤ _
    rcases List.mem_cons.mp hz with e | e
    · subst e
      have a := stepsF_le cs _ hb z.1
      have b := stepsF_le cs _ hb z.2.1
      rw [stepF_get hy.1 hy.2, if_pos (Or.inl rfl)] at a
      rw [stepF_get hy.1 hy.2, if_pos (Or.inr rfl)] at b
      omega
    · obtain ⟨a, b⟩ := stepsF_edge cs _ hb z e
      exact ⟨Nat.le_trans a (stepF_le hy.1 hy.2 _), Nat.le_trans b (stepF_le hy.1 hy.2 _)⟩
theorem roundF_len (c : Cat) (t : Inst) : ∀ k, (roundF c t k).length = total t
  | 0 => List.length_range
  | k + 1 => by show (stepsF _ _).length = _; rw [stepsF_len, roundF_len c t k]
theorem conds_in {c : Cat} {t : Inst} (R : Right c t) : InB (total t) (condsAll c t) := fun z hz => by
  obtain ⟨f, r, fo, hr, rfl⟩ := mem_condsAll.mp hz
  obtain ⟨fn, fl⟩ := mem_others.mp fo
  exact ⟨place_lt hr, place_lt (R.there f fn fl r hr)⟩
def pl (c : Cat) (t : Inst) (i : Nat) : Nat × Nat := (places c t).getD i (0, 0)
theorem pl_get {c : Cat} {t : Inst} (hs : t.size.length = c.n) {i : Nat} (h : i < total t) : (places c t)[i]? = some (pl c t i) := by
  unfold pl
  rw [List.getD_eq_getElem?_getD, List.getElem?_eq_getElem (by rw [places_length hs]; exact h)]
  rfl
theorem pl_mem {c : Cat} {t : Inst} (hs : t.size.length = c.n) {i : Nat} (h : i < total t) : pl c t i ∈ places c t := List.mem_of_getElem? (pl_get hs h)
theorem pl_at {c : Cat} {t : Inst} (hs : t.size.length = c.n) {p : Nat × Nat} (h : p ∈ places c t) : at_ t p < total t ∧ pl c t (at_ t p) = p := by
  obtain ⟨x, r⟩ := p
  obtain ⟨hx, hr⟩ := mem_places.mp h
  have q := places_at hs hx hr
  refine ⟨place_lt hr, ?_⟩
  unfold pl at_
  rw [List.getD_eq_getElem?_getD, q]
  rfl
theorem at_pl {c : Cat} {t : Inst} (hs : t.size.length = c.n) {i : Nat} (h : i < total t) : at_ t (pl c t i) = i := by
  have q := pl_get hs h
  generalize hp : pl c t i = p at q
  obtain ⟨x, r⟩ := p
  exact (places_get q).2.2.symm
/-- a step of two rows, one leading to the other -/
theorem leads_edge {c : Cat} (W : WC c) {t : Inst} {p q : Nat × Nat} (hp : p ∈ places c t) (h : Leads c t p q) : p = q ∨ ∃ z, z ∈ condsAll c t ∧ z.1 = at_ t p ∧ z.2.1 = at_ t q := by
  obtain ⟨x, r⟩ := p
  obtain ⟨y, u⟩ := q
  obtain ⟨hx, hr⟩ := mem_places.mp hp
  obtain ⟨f, fl, f1, f2, f3⟩ := h
  have f1 : from_ c f = x := f1
  have f2 : to_ c f = y := f2
  have f3 : go c t f r = u := f3
  by_cases fn : f < c.n
  · rw [from_own W fn] at f1
    rw [to_own W fn] at f2
    have g : go c t f r = r := by unfold go; rw [if_pos fn]
    rw [g] at f3
    exact Or.inl (by rw [← f1, ← f2, f3])
  · refine Or.inr ⟨_, mem_condsAll.mpr ⟨f, r, mem_others.mpr ⟨by omega, fl⟩, by rw [f1]; exact hr, rfl⟩, ?_, ?_⟩
    · show offset t (from_ c f) + r = offset t x + r
      rw [f1]
    · show offset t (to_ c f) + go c t f r = offset t y + u
      rw [f2, f3]
theorem spread_low {c : Cat} (W : WC c) {t : Inst} (hs : t.size.length = c.n) (R : Right c t) : ∀ (k : Nat) (l : List (Nat × Nat)), (∀ q, q ∈ l → q ∈ places c t) → ∀ q, q ∈ spread c t k l → ∃ p, p ∈ l ∧ (roundF c t k).getD (at_ t p) 0 ≤ at_ t q
  | 0, l, hl, q, hq => by
    have hq : q ∈ l := hq
    refine ⟨q, hq, ?_⟩
    obtain ⟨a, _⟩ := pl_at hs (hl q hq)
    show (List.range (total t)).getD (at_ t q) 0 ≤ _
    rw [List.getD_eq_getElem?_getD, List.getElem?_range a]
    exact Nat.le_refl _
  | k + 1, l, hl, q, hq => by
    rw [spread_succ] at hq
    obtain ⟨p', hp', le⟩ := spread_low W hs R k _ wider_sub q hq
    have hb : InB (roundF c t k).length (condsAll c t) := by rw [roundF_len]; exact conds_in R
    obtain ⟨pm, h⟩ := (mem_wider hl).mp hp'
    have same : p' ∈ l → ∃ p, p ∈ l ∧ (roundF c t (k + 1)).getD (at_ t p) 0 ≤ at_ t q := fun h => ⟨p', h, Nat.le_trans (stepsF_le _ _ hb _) le⟩
    rcases h with h | ⟨p, hp, L⟩ | ⟨p, hp, L⟩
    · exact same h
    · rcases leads_edge W (hl p hp) L with e | ⟨z, hz, z1, z2⟩
      · exact same (e ▸ hp)
      · refine ⟨p, hp, Nat.le_trans ?_ le⟩
        have := (stepsF_edge _ _ hb z hz).1
        rw [z1, z2] at this
        exact this
    · rcases leads_edge W pm L with e | ⟨z, hz, z1, z2⟩
      · exact same (e ▸ hp)
      · refine ⟨p, hp, Nat.le_trans ?_ le⟩
        have := (stepsF_edge _ _ hb z hz).2
        rw [z1, z2] at this
        exact this
/-- each one's first hangs together with it -/
def Hang (c : Cat) (t : Inst) (fs : List Nat) : Prop := ∀ i, i < total t → fs.getD i 0 < total t ∧ Conn c t (pl c t i) (pl c t (fs.getD i 0))
theorem hang_step {c : Cat} {t : Inst} (hs : t.size.length = c.n) (R : Right c t) {fs : List Nat} (hl : fs.length = total t) (H : Hang c t fs) {z : Nat × Nat × Nat} (hz : z ∈ condsAll c t) : Hang c t (stepF fs z.1 z.2.1) := by
  obtain ⟨z1, z2⟩ := conds_in R z hz
  have lead : Leads c t (pl c t z.1) (pl c t z.2.1) := by
    obtain ⟨f, r, fo, hr, rfl⟩ := mem_condsAll.mp hz
    obtain ⟨fn, fl⟩ := mem_others.mp fo
    have W1 := R.there f fn fl r hr
    have h1 : from_ c f < c.n := by
      by_cases q : from_ c f < c.n
      · exact q
      · have : rows t (from_ c f) = 0 := by
          unfold rows
          rw [List.getD_eq_getElem?_getD, List.getElem?_eq_none (by rw [hs]; omega)]
          rfl
        omega
    have h2 : to_ c f < c.n := by
      by_cases q : to_ c f < c.n
      · exact q
      · have : rows t (to_ c f) = 0 := by
          unfold rows
          rw [List.getD_eq_getElem?_getD, List.getElem?_eq_none (by rw [hs]; omega)]
          rfl
        omega
    have p1 := (pl_at hs (mem_places.mpr ⟨h1, hr⟩ : (from_ c f, r) ∈ places c t)).2
    have p2 := (pl_at hs (mem_places.mpr ⟨h2, W1⟩ : (to_ c f, go c t f r) ∈ places c t)).2
    show Leads c t (pl c t (offset t (from_ c f) + r)) (pl c t (offset t (to_ c f) + go c t f r))
    have p1 : pl c t (offset t (from_ c f) + r) = (from_ c f, r) := p1
    have p2 : pl c t (offset t (to_ c f) + go c t f r) = (to_ c f, go c t f r) := p2
    rw [p1, p2]
    exact ⟨f, fl, rfl, rfl, rfl⟩
  have c1 : Conn c t (pl c t z.1) (pl c t z.2.1) := .to .here (pl_mem hs z2) lead
  have c2 : Conn c t (pl c t z.2.1) (pl c t z.1) := .back .here (pl_mem hs z1) lead
  intro i hi
  rw [stepF_get (by rw [hl]; exact z1) (by rw [hl]; exact z2)]
  by_cases e : i = z.1 ∨ i = z.2.1
  · rw [if_pos e]
    obtain ⟨a1, a2⟩ := H z.1 z1
    obtain ⟨b1, b2⟩ := H z.2.1 z2
    refine ⟨by omega, ?_⟩
    rcases Nat.le_total (fs.getD z.1 0) (fs.getD z.2.1 0) with le | le
    · rw [Nat.min_eq_left le]
      rcases e with e | e
      · rw [e]; exact a2
      · rw [e]; exact c2.trans a2
    · rw [Nat.min_eq_right le]
      rcases e with e | e
      · rw [e]; exact c1.trans b2
      · rw [e]; exact b2
  · rw [if_neg e]
    exact H i hi
theorem hang_steps {c : Cat} {t : Inst} (hs : t.size.length = c.n) (R : Right c t) : ∀ (cs : List (Nat × Nat × Nat)) (fs : List Nat), (∀ z, z ∈ cs → z ∈ condsAll c t) → fs.length = total t → Hang c t fs → Hang c t (stepsF cs fs)
  | [], _, _, _, H => H
  | z :: cs, fs, h, hl, H => hang_steps hs R cs _ (fun y hy => h y (List.mem_cons_of_mem _ hy)) (by rw [stepF_len]; exact hl) (hang_step hs R hl H (h z List.mem_cons_self))
theorem hang_round {c : Cat} {t : Inst} (hs : t.size.length = c.n) (R : Right c t) : ∀ k, Hang c t (roundF c t k)
  | 0 => fun i hi => by
    have e : (roundF c t 0).getD i 0 = i := by
      show (List.range (total t)).getD i 0 = i
      rw [List.getD_eq_getElem?_getD, List.getElem?_range hi]; rfl
    rw [e]
    exact ⟨hi, .here⟩
  | k + 1 => hang_steps hs R _ _ (fun z h => h) (roundF_len c t k) (hang_round hs R k)
def firstsF (c : Cat) (t : Inst) : List Nat := roundF c t (total t)
def firstOf (c : Cat) (t : Inst) (i : Nat) : Nat := (firstsF c t).getD i 0
theorem firstsF_len (c : Cat) (t : Inst) : (firstsF c t).length = total t := roundF_len c t _
section
variable {c : Cat} {t : Inst} (W : WC c) (hs : t.size.length = c.n) (R : Right c t)
include W hs R
theorem first_lt {i : Nat} (h : i < total t) : firstOf c t i < total t := (hang_round hs R _ i h).1
theorem first_conn {i : Nat} (h : i < total t) : Conn c t (pl c t i) (pl c t (firstOf c t i)) := (hang_round hs R _ i h).2
theorem first_low {i j : Nat} (hi : i < total t) (hj : j < total t) (k : Conn c t (pl c t i) (pl c t j)) : firstOf c t i ≤ j := by
  have q := (mem_piece hs (pl_mem hs hi)).mpr k
  obtain ⟨p, hp, le⟩ := spread_low W hs R (total t) [pl c t i] (fun q hq => by rw [List.mem_singleton.mp hq]; exact pl_mem hs hi) _ q
  rw [List.mem_singleton.mp hp, at_pl hs hi, at_pl hs hj] at le
  exact le
theorem first_iff {i j : Nat} (hi : i < total t) (hj : j < total t) : firstOf c t i = firstOf c t j ↔ Conn c t (pl c t i) (pl c t j) := by
  constructor
  · intro e
    have a := first_conn W hs R hi
    have b := first_conn W hs R hj
    rw [e] at a
    exact a.trans (b.symm (pl_mem hs hj))
  · intro k
    have a := first_low W hs R hi (first_lt W hs R hj) (k.trans (first_conn W hs R hj))
    have b := first_low W hs R hj (first_lt W hs R hi) ((k.symm (pl_mem hs hi)).trans (first_conn W hs R hi))
    omega
theorem first_first {i : Nat} (hi : i < total t) : firstOf c t (firstOf c t i) = firstOf c t i :=
  ((first_iff W hs R hi (first_lt W hs R hi)).mpr (first_conn W hs R hi)).symm
theorem mem_piece_ix {i j : Nat} (hi : i < total t) (hj : j < total t) : (piece c t (pl c t i)).contains (pl c t j) = decide (firstOf c t i = firstOf c t j) := by
  rw [Bool.eq_iff_iff, List.contains_iff_mem, mem_piece hs (pl_mem hs hi), decide_eq_true_iff]
  exact (first_iff W hs R hi hj).symm
theorem head_piece {i : Nat} (hi : i < total t) : ((piece c t (pl c t i)).head? == some (pl c t i)) = decide (i = firstOf c t i) := by
  obtain ⟨P, hP⟩ := (piece_cut (t := t) (pl_mem hs hi)).ex
  have len := places_length (c := c) (t := t) hs
  have mm : ∀ j, j < total t → (P (pl c t j) = true ↔ firstOf c t i = firstOf c t j) := fun j hj => by
    have a : pl c t j ∈ piece c t (pl c t i) ↔ P (pl c t j) = true := by
      rw [hP, List.mem_filter]
      exact ⟨fun h => h.2, fun h => ⟨pl_mem hs hj, h⟩⟩
    rw [← a, mem_piece hs (pl_mem hs hi)]
    exact (first_iff W hs R hi hj).symm
  rw [Bool.eq_iff_iff, beq_iff_eq, decide_eq_true_iff]
  have e : (piece c t (pl c t i)).head? = (places c t).find? P := by rw [hP, List.head?_filter]
  rw [e, List.find?_eq_some_iff_getElem]
  have gp : ∀ j (hj : j < (places c t).length), (places c t)[j] = pl c t j := fun j hj => by
    have := pl_get hs (by rw [← len]; exact hj)
    rw [List.getElem?_eq_getElem hj] at this
    exact Option.some.inj this
  constructor
  · rintro ⟨h1, j, hj, ej, hlow⟩
    rw [gp j hj] at ej
    have ji : j = i := by
      have := congrArg (at_ t) ej
      rw [at_pl hs (by rw [← len]; exact hj), at_pl hs hi] at this
      exact this
    subst ji
    have lt := first_lt W hs R hi
    have le := first_low W hs R hi hi .here
    rcases Nat.lt_or_ge (firstOf c t j) j with q | q
    · have h := hlow (firstOf c t j) q
      rw [gp] at h
      have tr := (mm (firstOf c t j) lt).mpr (first_first W hs R hi).symm
      rw [tr] at h
      cases h
    · omega
  · intro ei
    refine ⟨(mm i hi).mpr rfl, i, by rw [len]; exact hi, gp i _, fun j hj => ?_⟩
    have hj2 : j < total t := by omega
    rw [gp]
    cases q : P (pl c t j) with
    | false => rfl
    | true =>
      have := (mm j hj2).mp q
      have b := first_low W hs R hj2 hj2 .here
      omega
def heads (c : Cat) (t : Inst) : List Nat := (List.range (total t)).filter fun i => decide (i = firstOf c t i)
omit W hs R in
theorem mem_heads {i : Nat} : i ∈ heads c t ↔ i < total t ∧ i = firstOf c t i := by
  unfold heads
  rw [List.mem_filter, List.mem_range, decide_eq_true_iff]
theorem firsts_eq : firsts c t = (heads c t).map (pl c t) := by
  unfold firsts heads
  have := filter_range (places c t) (fun p => (piece c t p).head? == some p) (fun i => decide (i = firstOf c t i)) (fun i x hx => by
    have hi : i < total t := by rw [← places_length (c := c) hs]; exact (List.getElem?_eq_some_iff.mp hx).1
    rw [pl_get hs hi] at hx
    cases hx
    exact (head_piece W hs R hi).symm) (0, 0)
  rw [places_length (c := c) hs] at this
  exact this.symm
theorem findIdx_map {α β : Type} (g : α → β) (P : β → Bool) (l : List α) : (l.map g).findIdx? P = l.findIdx? fun a => P (g a) := by
  rw [List.findIdx?_map]; rfl
omit W hs R in
theorem findIdx_ext {α : Type} {P Q : α → Bool} : ∀ {l : List α}, (∀ a, a ∈ l → P a = Q a) → l.findIdx? P = l.findIdx? Q
  | [], _ => rfl
  | a :: l, h => by
    rw [List.findIdx?_cons, List.findIdx?_cons, h a List.mem_cons_self, findIdx_ext fun b hb => h b (List.mem_cons_of_mem _ hb)]
/-- the piece of a row, by its number -/
theorem piece_no {i : Nat} (hi : i < total t) : ((firsts c t).findIdx? fun q => (piece c t q).contains (pl c t i)) = (heads c t).findIdx? fun h => h == firstOf c t i := by
  rw [firsts_eq W hs R, List.findIdx?_map]
  refine findIdx_ext fun h hh => ?_
  obtain ⟨hl, he⟩ := mem_heads.mp hh
  show (piece c t (pl c t h)).contains (pl c t i) = _
  rw [mem_piece_ix W hs R hl hi, ← he]
  rfl
theorem first_mem {i : Nat} (hi : i < total t) : firstOf c t i ∈ heads c t := mem_heads.mpr ⟨first_lt W hs R hi, (first_first W hs R hi).symm⟩
end
/-! maps that meet each row once -/
theorem perm_range : ∀ (n : Nat) (l : List Nat), l.length = n → (∀ v, v < n → v ∈ l) → l.Perm (List.range n)
  | 0, l, h, _ => by rw [List.length_eq_zero_iff.mp h]; exact List.Perm.refl _
  | n + 1, l, h, hv => by
    have hn := hv n (Nat.lt_succ_self n)
    have a := List.perm_cons_erase hn
    have b := perm_range n (l.erase n) (by rw [List.length_erase_of_mem hn]; omega) (fun v hl => (List.mem_erase_of_ne (by omega)).mpr (hv v (by omega)))
    rw [List.range_succ]
    exact a.trans ((b.cons n).trans (List.perm_append_comm (l₁ := [n])))
theorem sorted_range {n : Nat} {l ns : List Nat} (hp : ns.Perm l) (hs : ns.Pairwise (· ≤ ·)) : ns = List.range n ↔ l.length = n ∧ ∀ v, v < n → v ∈ l := by
  constructor
  · intro e
    subst e
    refine ⟨by rw [← hp.length_eq, List.length_range], fun v hv => hp.mem_iff.mp (List.mem_range.mpr hv)⟩
  · rintro ⟨h1, h2⟩
    have q := hp.trans (perm_range n l h1 h2)
    exact List.Perm.eq_of_pairwise (le := fun a b => decide (a ≤ b)) (fun a b _ _ h1 h2 => by simp at h1 h2; omega) (hs.imp (by intro a b h; simpa using h)) (List.pairwise_lt_range.imp (by intro a b h; simp; omega)) q
end AR
set_option linter.all false
/-! Stage 2's mathematics, further. -/
namespace AR
open Fc02
def sliceAt (s : Inst) (m : List Nat) (x : Nat) : List Nat := (m.drop (offset s x)).take (rows s x)
def turnAt (s t : Inst) (m : Map) (x : Nat) : Bool := rows s x == rows t x && (List.range (rows t x)).all fun v => (List.range (rows s x)).any fun r => valueAt s m x r == v
theorem isTurn_eq (c : Cat) (s t : Inst) (m : Map) : isTurn c s t m = (things c).all (turnAt s t m) := rfl
theorem slice_len {s : Inst} {m : List Nat} (h : m.length = total s) (x : Nat) : (sliceAt s m x).length = rows s x := by
  unfold sliceAt
  rw [List.length_take, List.length_drop, h]
  have a := offset_succ s x
  have b := offset_le s (x + 1)
  omega
theorem slice_get {s : Inst} {m : List Nat} (h : m.length = total s) {x r : Nat} (hr : r < rows s x) : (sliceAt s m x)[r]? = some (valueAt s m x r) := by
  unfold sliceAt valueAt
  rw [List.getElem?_take, if_pos hr, List.getElem?_drop]
  exact getD_some (by rw [h]; exact place_lt hr)
theorem turnAt_iff {s t : Inst} {m : List Nat} (h : m.length = total s) (x : Nat) : turnAt s t m x = true ↔ (sliceAt s m x).length = rows t x ∧ ∀ v, v < rows t x → v ∈ sliceAt s m x := by
  unfold turnAt
  rw [Bool.and_eq_true, beq_iff_eq, slice_len h, List.all_eq_true]
  constructor
  · rintro ⟨h1, h2⟩
    refine ⟨h1, fun v hv => ?_⟩
    obtain ⟨r, hr, e⟩ := List.any_eq_true.mp (h2 v (List.mem_range.mpr hv))
    have e : valueAt s m x r = v := by simpa using e
    rw [← e]
    exact List.mem_of_getElem? (slice_get h (List.mem_range.mp hr))
  · rintro ⟨h1, h2⟩
    refine ⟨h1, fun v hv => ?_⟩
    obtain ⟨r, hr, e⟩ := List.getElem_of_mem (h2 v (List.mem_range.mp hv))
    have hr2 : r < rows s x := by rw [← slice_len h]; exact hr
    refine List.any_eq_true.mpr ⟨r, List.mem_range.mpr hr2, ?_⟩
    have q := slice_get h hr2
    rw [List.getElem?_eq_getElem hr, e] at q
    rw [← Option.some.inj q]
    simp
theorem turn_sorted {s t : Inst} {m ns : List Nat} (h : m.length = total s) (x : Nat) (hp : ns.Perm (sliceAt s m x)) (hs : ns.Pairwise (· ≤ ·)) : decide (ns = List.range (rows t x)) = turnAt s t m x := by
  rw [Bool.eq_iff_iff, decide_eq_true_iff, turnAt_iff h]
  exact sorted_range hp hs
/-! a thing's arrows as rows -/
def ixOf (l : List Nat) (k : Nat) : Nat := (l.findIdx? fun g => g == k).getD 99
theorem ixOf_mem {l : List Nat} {k : Nat} (h : k ∈ l) : ∃ j, l.findIdx? (fun g => g == k) = some j ∧ ixOf l k = j ∧ l[j]? = some k ∧ ∀ m z, m < j → l[m]? = some z → z ≠ k := by
  cases e : l.findIdx? fun g => g == k with
  | none =>
    have := List.findIdx?_eq_none_iff.mp e k h
    simp at this
  | some j =>
    obtain ⟨h1, h2, h3⟩ := List.findIdx?_eq_some_iff_getElem.mp e
    refine ⟨j, rfl, by unfold ixOf; rw [e]; rfl, ?_, fun m z hm hz => ?_⟩
    · have : l[j] = k := by simpa using h2
      rw [List.getElem?_eq_getElem h1, this]
    · have := h3 m hm
      rw [List.getElem?_eq_getElem (by omega)] at hz
      cases hz
      simpa using this
/-- what the arrow h and f make, by its number among x's arrows -/
def arrowTo (c : Cat) (x f h : Nat) : Nat := match after c h f with
  | none => 99
  | some k => ixOf (hom c x (to_ c f)) k
theorem arrowsOf_row {c : Cat} {x f : Nat} (h : f < c.arrows.length) : (arrowsOf c x).tab.getD f [] = (hom c x (from_ c f)).map (arrowTo c x f) := arrowsOf_tab h
theorem arrowTo_eq {c : Cat} (F : Fit c) {x f h : Nat} (hf : f < c.arrows.length) (hh : h ∈ hom c x (from_ c f)) : ∃ k, made c h f = some k ∧ k ∈ hom c x (to_ c f) ∧ arrowTo c x f h = ixOf (hom c x (to_ c f)) k := by
  obtain ⟨h1, h2, h3⟩ := mem_hom.mp hh
  obtain ⟨k, e, kl, k1, k2⟩ := F h f h1 hf h3
  refine ⟨k, e, mem_hom.mpr ⟨kl, k1.trans h2, k2⟩, ?_⟩
  unfold arrowTo
  rw [after_made h3, e]
theorem hom_given (c : Cat) (x y : Nat) (P : Nat → Bool) (h : ∀ i p, c.arrows[i]? = some p → P i = decide (p = (x, y))) : (List.range c.arrows.length).filter P = hom c x y := by
  unfold hom all
  refine filter_ext fun i hi => ?_
  have hi := List.mem_range.mp hi
  have q : c.arrows[i]? = some c.arrows[i] := List.getElem?_eq_getElem hi
  rw [h i _ q, q]
  rw [Bool.eq_iff_iff]
  simp
theorem sizes_eq (c : Cat) (x : Nat) : (arrowsOf c x).size = (List.range c.n).map fun y => (hom c x y).length := rfl
/-! shows -/
theorem shows_row {c : Cat} {t : Inst} (w : WI c t) {f : Nat} (h : f ∈ others c) : (List.range (rows t (from_ c f))).map (go c t f) = t.tab.getD f [] := by
  obtain ⟨h1, h2⟩ := mem_others.mp h
  have l := w.rowl f h1 h2
  rw [← l]
  have := map_range (t.tab.getD f []) id (go c t f) (fun i x hx => by
    unfold go
    rw [if_neg (by omega), List.getD_eq_getElem?_getD (l := t.tab.getD f []), hx]
    rfl)
  rw [this, List.map_id]
/-! groups of numbers -/
def grp (size : Nat) (ns : List Nat) (i : Nat) : List Nat := (ns.drop (i * size)).take size
theorem pairs_grp : ∀ {ns : List Nat} {l : List (Nat × Nat)}, Fc02Neutral.pairsIn ns = some l → ns.length = l.length * 2 ∧ ∀ i p, l[i]? = some p → grp 2 ns i = [p.1, p.2]
  | [], l, h => by cases h; exact ⟨rfl, fun i p h => by simp at h⟩
  | [a], l, h => by cases h
  | a :: b :: ns, l, h => by
    have h : (Fc02Neutral.pairsIn ns).map (fun r => (a, b) :: r) = some l := h
    cases e : Fc02Neutral.pairsIn ns with
    | none => rw [e] at h; cases h
    | some r =>
      rw [e] at h
      cases h
      obtain ⟨h1, h2⟩ := pairs_grp e
      refine ⟨by simp only [List.length_cons]; omega, fun i p hp => ?_⟩
      cases i with
      | zero => cases hp; rfl
      | succ i =>
        have hp : r[i]? = some p := by simpa using hp
        rw [← h2 i p hp]
        unfold grp
        rw [show (i + 1) * 2 = i * 2 + 1 + 1 by omega, List.drop_succ_cons, List.drop_succ_cons]
theorem threes_grp : ∀ {ns : List Nat} {l : List (Nat × Nat × Nat)}, Fc02Neutral.threesIn ns = some l → ns.length = l.length * 3 ∧ ∀ i p, l[i]? = some p → grp 3 ns i = [p.1, p.2.1, p.2.2]
  | [], l, h => by cases h; exact ⟨rfl, fun i p h => by simp at h⟩
  | [a], l, h => by cases h
  | [a, b], l, h => by cases h
  | a :: b :: d :: ns, l, h => by
    have h : (Fc02Neutral.threesIn ns).map (fun r => (a, b, d) :: r) = some l := h
    cases e : Fc02Neutral.threesIn ns with
    | none => rw [e] at h; cases h
    | some r =>
      rw [e] at h
      cases h
      obtain ⟨h1, h2⟩ := threes_grp e
      refine ⟨by simp only [List.length_cons]; omega, fun i p hp => ?_⟩
      cases i with
      | zero => cases hp; rfl
      | succ i =>
        have hp : r[i]? = some p := by simpa using hp
        rw [← h2 i p hp]
        unfold grp
        rw [show (i + 1) * 3 = i * 3 + 1 + 1 + 1 by omega, List.drop_succ_cons, List.drop_succ_cons, List.drop_succ_cons]
end AR
set_option linter.all false
set_option maxRecDepth 10000
/-! The list that is handed in: its calls, one behind another. -/
namespace AR
open Fc02
abbrev cst (l : List Nat) : List Int := l.map fun n : Nat => (n : Int)
def numsOf : Nat → Nat
  | 0 => 1 | 1 => 2 | 2 => 3 | 3 => 3 | 4 => 4 | 5 => 1 | 6 => 2 | 7 => 3 | 8 => 2 | 9 => 2 | 10 => 1 | 11 => 1 | 12 => 2 | 13 => 3 | 14 => 1 | _ => 0
def hasRow (p : Nat) : Bool := p == 8 || p == 10
def natCall : Nat → List Nat → List Nat → Option Fc02.Call
  | 0, [n], _ => some (.start n)
  | 1, [x, y], _ => some (.arrow x y)
  | 2, [f, g, h], _ => some (.make f g h)
  | 3, [i, x, k], _ => some (.rows i x k)
  | 4, [i, f, r, v], _ => some (.set i f r v)
  | 5, [i], _ => some (.check i)
  | 6, [i, j], _ => some (.maps i j)
  | 7, [i, j, k], _ => some (.nth i j k)
  | 8, [i, j], l => (Fc02Neutral.threesIn l).map (.fixed i j)
  | 9, [i, j], _ => some (.alike i j)
  | 10, [i], l => (Fc02Neutral.pairsIn l).map (.part i)
  | 11, [i], _ => some (.pieces i)
  | 12, [i, x], _ => some (.arrows i x)
  | 13, [i, x, r], _ => some (.mapOf i x r)
  | 14, [i], _ => some (.shows i)
  | _, _, _ => none
/-- one call at the front of l, t behind it -/
structure One (l t : List Nat) (p : Nat) (xs rs : List Nat) (k : Fc02.Call) : Prop where
  p15 : p < 15
  nx : xs.length = numsOf p
  eq : l = p :: (xs ++ ((if hasRow p = true then rs.length :: rs else []) ++ t))
  call : natCall p xs rs = some k
  rs30 : rs.length ≤ 30
  rs0 : hasRow p = false → rs = []
theorem cst_nil {l : List Nat} (h : cst l = []) : l = [] := List.map_eq_nil_iff.mp h
theorem nat_cst {n : Nat} (h : n < 4294967296) : Fc02Neutral.nat (n : Int) = true := by
  unfold Fc02Neutral.nat
  have e : (2 : Int) ^ 32 = 4294967296 := by decide
  rw [e]
  simp
  omega
theorem nats_cst : ∀ {l : List Nat}, (∀ n, n ∈ l → n < 4294967296) → Fc02Neutral.nats (cst l) = true := fun {l} h => by
  unfold Fc02Neutral.nats
  rw [List.all_eq_true]
  intro z hz
  obtain ⟨n, hn, rfl⟩ := List.mem_map.mp hz
  exact nat_cst (h n hn)
theorem toNat_cst (l : List Nat) : (cst l).map Int.toNat = l := by
  rw [List.map_map]
  conv => rhs; rw [← List.map_id l]
  congr 1
theorem take_cst (l : List Nat) (n : Nat) : (cst l).take n = cst (l.take n) := by rw [← List.map_take]
theorem drop_cst (l : List Nat) (n : Nat) : (cst l).drop n = cst (l.drop n) := by rw [← List.map_drop]
/-- the first call of some -/
theorem calls_cons {f : Nat} {p : Int} {r : List Int} {cs : List (List (List Int))} (h : PyFlat.calls PyFc02.shape f (p :: r) = some cs) : ∃ f' c t cs', cs = c :: cs' ∧ PyFlat.call PyFc02.shape (p :: r) = some (c, t) ∧ PyFlat.calls PyFc02.shape f' t = some cs' := by
  cases f with
  | zero => simp [PyFlat.calls] at h
  | succ f =>
    unfold PyFlat.calls at h
    cases e : PyFlat.call PyFc02.shape (p :: r) with
    | none => rw [e] at h; cases h
    | some x =>
      obtain ⟨c, t⟩ := x
      rw [e] at h
      simp only at h
      cases e2 : PyFlat.calls PyFc02.shape f t with
      | none => rw [e2] at h; cases h
      | some cs' =>
        rw [e2] at h
        exact ⟨f, c, t, cs', (Option.some.inj h).symm, rfl, e2⟩
theorem call_plain {p : Int} {r : List Int} {n : Nat} {c : List (List Int)} {t : List Int} (hs : PyFc02.shape p = some (n, 0)) (h : PyFlat.call PyFc02.shape (p :: r) = some (c, t)) : n ≤ r.length ∧ c = [p :: r.take n] ∧ t = r.drop n := by
  unfold PyFlat.call at h
  simp only [hs] at h
  by_cases l : r.length < n
  · rw [if_pos l] at h; cases h
  · rw [if_neg l] at h
    simp only [PyFlat.rows] at h
    have h := Option.some.inj h
    exact ⟨by omega, (congrArg Prod.fst h).symm, (congrArg Prod.snd h).symm⟩
theorem call_row {p : Int} {r : List Int} {n : Nat} {c : List (List Int)} {t : List Int} (hs : PyFc02.shape p = some (n, 1)) (h : PyFlat.call PyFc02.shape (p :: r) = some (c, t)) : ∃ m : Int, ∃ q : List Int, n ≤ r.length ∧ r.drop n = m :: q ∧ 0 ≤ m ∧ m.toNat ≤ q.length ∧ c = [p :: r.take n, q.take m.toNat] ∧ t = q.drop m.toNat := by
  unfold PyFlat.call at h
  simp only [hs] at h
  by_cases l : r.length < n
  · rw [if_pos l] at h; cases h
  · rw [if_neg l] at h
    cases e : r.drop n with
    | nil => rw [e] at h; simp [PyFlat.rows, PyFlat.row] at h
    | cons m q =>
      rw [e] at h
      simp only [PyFlat.rows, PyFlat.row] at h
      by_cases g : 0 ≤ m ∧ m.toNat ≤ q.length
      · rw [if_pos g] at h
        have h := Option.some.inj h
        exact ⟨m, q, by omega, rfl, g.1, g.2, (congrArg Prod.fst h).symm, (congrArg Prod.snd h).symm⟩
      · rw [if_neg g] at h; cases h
theorem list1 {l : List Nat} (h : l.length = 1) : ∃ a, l = [a] := by
  match l, h with
  | [a], _ => exact ⟨a, rfl⟩
theorem list2 {l : List Nat} (h : l.length = 2) : ∃ a b, l = [a, b] := by
  match l, h with
  | [a, b], _ => exact ⟨a, b, rfl⟩
theorem list3 {l : List Nat} (h : l.length = 3) : ∃ a b c, l = [a, b, c] := by
  match l, h with
  | [a, b, c], _ => exact ⟨a, b, c, rfl⟩
theorem list4 {l : List Nat} (h : l.length = 4) : ∃ a b c d, l = [a, b, c, d] := by
  match l, h with
  | [a, b, c, d], _ => exact ⟨a, b, c, d, rfl⟩
/-- what a call asks, by its numbers -/
def flatOf (c : List (List Int)) : List Int := (PyFc02.whole c).headD []
theorem one_plain {p : Nat} {r : List Nat} {n : Nat} (hn : numsOf p = n) (hr : hasRow p = false) (p15 : p < 15) (hl : n ≤ r.length) {k : Fc02.Call} (hk : natCall p (r.take n) [] = some k) : One (p :: r) (r.drop n) p (r.take n) [] k :=
  ⟨p15, by rw [List.length_take, hn]; omega, by rw [hr]; simp, hk, Nat.zero_le _, fun _ => rfl⟩
theorem shape_cases {p : Nat} {x : Nat × Nat} (h : PyFc02.shape (p : Int) = some x) : p < 15 ∧ x = (numsOf p, if hasRow p = true then 1 else 0) := by
  have hp : p < 15 := by
    false_or_by_contra
    rename_i z
    unfold PyFc02.shape at h
    rw [if_neg (by omega), if_neg (by omega), if_neg (by omega), if_neg (by omega), if_neg (by omega), if_neg (by omega), if_neg (by omega), if_neg (by omega), if_neg (by omega), if_neg (by omega), if_neg (by omega), if_neg (by omega), if_neg (by omega), if_neg (by omega), if_neg (by omega)] at h
    cases h
  refine ⟨hp, ?_⟩
  have : ∀ q : Nat, q < 15 → PyFc02.shape (q : Int) = some (numsOf q, if hasRow q = true then 1 else 0) := by decide
  rw [this p hp] at h
  exact (Option.some.inj h).symm
/-- the flat call, by its numbers -/
theorem callOf_0 (n : Nat) (hb : ∀ z, z ∈ [n] → z < 4294967296) : Fc02Neutral.callOf (flatOf [cst [(0 : Nat), n]]) = some (.start n) := by
  have e1 : flatOf [cst [(0 : Nat), n]] = [0, (n : Int)] := rfl
  have e2 : ∀ n : Int, Fc02Neutral.callOf [0, n] = if Fc02Neutral.nats [n] = true then some (.start n.toNat) else none := by
    intros
    rw [Fc02Neutral.callOf]
  rw [e1, e2, if_pos (show Fc02Neutral.nats [(n : Int)] = true from nats_cst (l := [n]) hb)]
  rfl
theorem callOf_1 (x : Nat) (y : Nat) (hb : ∀ z, z ∈ [x, y] → z < 4294967296) : Fc02Neutral.callOf (flatOf [cst [(1 : Nat), x, y]]) = some (.arrow x y) := by
  have e1 : flatOf [cst [(1 : Nat), x, y]] = [1, (x : Int), (y : Int)] := rfl
  have e2 : ∀ x y : Int, Fc02Neutral.callOf [1, x, y] = if Fc02Neutral.nats [x, y] = true then some (.arrow x.toNat y.toNat) else none := by
    intros
    rw [Fc02Neutral.callOf]
  rw [e1, e2, if_pos (show Fc02Neutral.nats [(x : Int), (y : Int)] = true from nats_cst (l := [x, y]) hb)]
  rfl
theorem callOf_2 (f : Nat) (g : Nat) (h : Nat) (hb : ∀ z, z ∈ [f, g, h] → z < 4294967296) : Fc02Neutral.callOf (flatOf [cst [(2 : Nat), f, g, h]]) = some (.make f g h) := by
  have e1 : flatOf [cst [(2 : Nat), f, g, h]] = [2, (f : Int), (g : Int), (h : Int)] := rfl
  have e2 : ∀ f g h : Int, Fc02Neutral.callOf [2, f, g, h] = if Fc02Neutral.nats [f, g, h] = true then some (.make f.toNat g.toNat h.toNat) else none := by
    intros
    rw [Fc02Neutral.callOf]
  rw [e1, e2, if_pos (show Fc02Neutral.nats [(f : Int), (g : Int), (h : Int)] = true from nats_cst (l := [f, g, h]) hb)]
  rfl
theorem callOf_3 (i : Nat) (x : Nat) (k : Nat) (hb : ∀ z, z ∈ [i, x, k] → z < 4294967296) : Fc02Neutral.callOf (flatOf [cst [(3 : Nat), i, x, k]]) = some (.rows i x k) := by
  have e1 : flatOf [cst [(3 : Nat), i, x, k]] = [3, (i : Int), (x : Int), (k : Int)] := rfl
  have e2 : ∀ i x k : Int, Fc02Neutral.callOf [3, i, x, k] = if Fc02Neutral.nats [i, x, k] = true then some (.rows i.toNat x.toNat k.toNat) else none := by
    intros
    rw [Fc02Neutral.callOf]
  rw [e1, e2, if_pos (show Fc02Neutral.nats [(i : Int), (x : Int), (k : Int)] = true from nats_cst (l := [i, x, k]) hb)]
  rfl
theorem callOf_4 (i : Nat) (f : Nat) (r : Nat) (v : Nat) (hb : ∀ z, z ∈ [i, f, r, v] → z < 4294967296) : Fc02Neutral.callOf (flatOf [cst [(4 : Nat), i, f, r, v]]) = some (.set i f r v) := by
  have e1 : flatOf [cst [(4 : Nat), i, f, r, v]] = [4, (i : Int), (f : Int), (r : Int), (v : Int)] := rfl
  have e2 : ∀ i f r v : Int, Fc02Neutral.callOf [4, i, f, r, v] = if Fc02Neutral.nats [i, f, r, v] = true then some (.set i.toNat f.toNat r.toNat v.toNat) else none := by
    intros
    rw [Fc02Neutral.callOf]
  rw [e1, e2, if_pos (show Fc02Neutral.nats [(i : Int), (f : Int), (r : Int), (v : Int)] = true from nats_cst (l := [i, f, r, v]) hb)]
  rfl
theorem callOf_5 (i : Nat) (hb : ∀ z, z ∈ [i] → z < 4294967296) : Fc02Neutral.callOf (flatOf [cst [(5 : Nat), i]]) = some (.check i) := by
  have e1 : flatOf [cst [(5 : Nat), i]] = [5, (i : Int)] := rfl
  have e2 : ∀ i : Int, Fc02Neutral.callOf [5, i] = if Fc02Neutral.nats [i] = true then some (.check i.toNat) else none := by
    intros
    rw [Fc02Neutral.callOf]
  rw [e1, e2, if_pos (show Fc02Neutral.nats [(i : Int)] = true from nats_cst (l := [i]) hb)]
  rfl
theorem callOf_6 (i : Nat) (j : Nat) (hb : ∀ z, z ∈ [i, j] → z < 4294967296) : Fc02Neutral.callOf (flatOf [cst [(6 : Nat), i, j]]) = some (.maps i j) := by
  have e1 : flatOf [cst [(6 : Nat), i, j]] = [6, (i : Int), (j : Int)] := rfl
  have e2 : ∀ i j : Int, Fc02Neutral.callOf [6, i, j] = if Fc02Neutral.nats [i, j] = true then some (.maps i.toNat j.toNat) else none := by
    intros
    rw [Fc02Neutral.callOf]
  rw [e1, e2, if_pos (show Fc02Neutral.nats [(i : Int), (j : Int)] = true from nats_cst (l := [i, j]) hb)]
  rfl
theorem callOf_7 (i : Nat) (j : Nat) (k : Nat) (hb : ∀ z, z ∈ [i, j, k] → z < 4294967296) : Fc02Neutral.callOf (flatOf [cst [(7 : Nat), i, j, k]]) = some (.nth i j k) := by
  have e1 : flatOf [cst [(7 : Nat), i, j, k]] = [7, (i : Int), (j : Int), (k : Int)] := rfl
  have e2 : ∀ i j k : Int, Fc02Neutral.callOf [7, i, j, k] = if Fc02Neutral.nats [i, j, k] = true then some (.nth i.toNat j.toNat k.toNat) else none := by
    intros
    rw [Fc02Neutral.callOf]
  rw [e1, e2, if_pos (show Fc02Neutral.nats [(i : Int), (j : Int), (k : Int)] = true from nats_cst (l := [i, j, k]) hb)]
  rfl
theorem callOf_9 (i : Nat) (j : Nat) (hb : ∀ z, z ∈ [i, j] → z < 4294967296) : Fc02Neutral.callOf (flatOf [cst [(9 : Nat), i, j]]) = some (.alike i j) := by
  have e1 : flatOf [cst [(9 : Nat), i, j]] = [9, (i : Int), (j : Int)] := rfl
  have e2 : ∀ i j : Int, Fc02Neutral.callOf [9, i, j] = if Fc02Neutral.nats [i, j] = true then some (.alike i.toNat j.toNat) else none := by
    intros
    rw [Fc02Neutral.callOf]
  rw [e1, e2, if_pos (show Fc02Neutral.nats [(i : Int), (j : Int)] = true from nats_cst (l := [i, j]) hb)]
  rfl
theorem callOf_11 (i : Nat) (hb : ∀ z, z ∈ [i] → z < 4294967296) : Fc02Neutral.callOf (flatOf [cst [(11 : Nat), i]]) = some (.pieces i) := by
  have e1 : flatOf [cst [(11 : Nat), i]] = [11, (i : Int)] := rfl
  have e2 : ∀ i : Int, Fc02Neutral.callOf [11, i] = if Fc02Neutral.nats [i] = true then some (.pieces i.toNat) else none := by
    intros
    rw [Fc02Neutral.callOf]
  rw [e1, e2, if_pos (show Fc02Neutral.nats [(i : Int)] = true from nats_cst (l := [i]) hb)]
  rfl
theorem callOf_12 (i : Nat) (x : Nat) (hb : ∀ z, z ∈ [i, x] → z < 4294967296) : Fc02Neutral.callOf (flatOf [cst [(12 : Nat), i, x]]) = some (.arrows i x) := by
  have e1 : flatOf [cst [(12 : Nat), i, x]] = [12, (i : Int), (x : Int)] := rfl
  have e2 : ∀ i x : Int, Fc02Neutral.callOf [12, i, x] = if Fc02Neutral.nats [i, x] = true then some (.arrows i.toNat x.toNat) else none := by
    intros
    rw [Fc02Neutral.callOf]
  rw [e1, e2, if_pos (show Fc02Neutral.nats [(i : Int), (x : Int)] = true from nats_cst (l := [i, x]) hb)]
  rfl
theorem callOf_13 (i : Nat) (x : Nat) (r : Nat) (hb : ∀ z, z ∈ [i, x, r] → z < 4294967296) : Fc02Neutral.callOf (flatOf [cst [(13 : Nat), i, x, r]]) = some (.mapOf i x r) := by
  have e1 : flatOf [cst [(13 : Nat), i, x, r]] = [13, (i : Int), (x : Int), (r : Int)] := rfl
  have e2 : ∀ i x r : Int, Fc02Neutral.callOf [13, i, x, r] = if Fc02Neutral.nats [i, x, r] = true then some (.mapOf i.toNat x.toNat r.toNat) else none := by
    intros
    rw [Fc02Neutral.callOf]
  rw [e1, e2, if_pos (show Fc02Neutral.nats [(i : Int), (x : Int), (r : Int)] = true from nats_cst (l := [i, x, r]) hb)]
  rfl
theorem callOf_14 (i : Nat) (hb : ∀ z, z ∈ [i] → z < 4294967296) : Fc02Neutral.callOf (flatOf [cst [(14 : Nat), i]]) = some (.shows i) := by
  have e1 : flatOf [cst [(14 : Nat), i]] = [14, (i : Int)] := rfl
  have e2 : ∀ i : Int, Fc02Neutral.callOf [14, i] = if Fc02Neutral.nats [i] = true then some (.shows i.toNat) else none := by
    intros
    rw [Fc02Neutral.callOf]
  rw [e1, e2, if_pos (show Fc02Neutral.nats [(i : Int)] = true from nats_cst (l := [i]) hb)]
  rfl
theorem callOf_8 (i j : Nat) (rs : List Nat) (hb : ∀ z, z ∈ [i, j] → z < 4294967296) (hr : ∀ z, z ∈ rs → z < 4294967296) : Fc02Neutral.callOf (flatOf [cst [(8 : Nat), i, j], cst rs]) = (Fc02Neutral.threesIn rs).map (.fixed i j) := by
  have e1 : flatOf [cst [(8 : Nat), i, j], cst rs] = 8 :: (i : Int) :: (j : Int) :: cst rs := rfl
  have e2 : ∀ (i j : Int) (l : List Int), Fc02Neutral.callOf (8 :: i :: j :: l) = if Fc02Neutral.nats [i, j] = true ∧ Fc02Neutral.nats l = true then (Fc02Neutral.threesIn (l.map Int.toNat)).map (.fixed i.toNat j.toNat) else none := by
    intros
    rw [Fc02Neutral.callOf]
  rw [e1, e2, if_pos ⟨(show Fc02Neutral.nats [(i : Int), (j : Int)] = true from nats_cst (l := [i, j]) hb), nats_cst hr⟩, toNat_cst]
  rfl
theorem callOf_10 (i : Nat) (rs : List Nat) (hi : i < 4294967296) (hr : ∀ z, z ∈ rs → z < 4294967296) : Fc02Neutral.callOf (flatOf [cst [(10 : Nat), i], cst rs]) = (Fc02Neutral.pairsIn rs).map (.part i) := by
  have e1 : flatOf [cst [(10 : Nat), i], cst rs] = 10 :: (i : Int) :: cst rs := rfl
  have e2 : ∀ (i : Int) (l : List Int), Fc02Neutral.callOf (10 :: i :: l) = if Fc02Neutral.nat i = true ∧ Fc02Neutral.nats l = true then (Fc02Neutral.pairsIn (l.map Int.toNat)).map (.part i.toNat) else none := by
    intros
    rw [Fc02Neutral.callOf]
  rw [e1, e2, if_pos ⟨nat_cst hi, nats_cst hr⟩, toNat_cst]
  rfl
theorem decode {l : List Nat} (hb : ∀ n, n ∈ l → n < 4294967296) (hne : l ≠ []) {f : Nat} {cs : List (List (List Int))} (h : PyFlat.calls PyFc02.shape f (cst l) = some cs) (hin : PyInside.calls PyFc02.bound cs = true) (hask : ∀ c, c ∈ cs → Fc02Neutral.asked1 (flatOf c) = true) :
    ∃ f' c cs' t p xs rs k, cs = c :: cs' ∧ PyFlat.calls PyFc02.shape f' (cst t) = some cs' ∧ One l t p xs rs k ∧ Fc02Neutral.callOf (flatOf c) = some k ∧ ∀ n, n ∈ t → n < 4294967296 := by
  obtain ⟨p, r, rfl⟩ : ∃ p r, l = p :: r := by
    cases l with
    | nil => exact absurd rfl hne
    | cons p r => exact ⟨p, r, rfl⟩
  have h : PyFlat.calls PyFc02.shape f ((p : Int) :: cst r) = some cs := h
  obtain ⟨f', c, t, cs', rfl, hc, hrest⟩ := calls_cons h
  have ha := hask c List.mem_cons_self
  have hi : PyInside.call PyFc02.bound c = true := List.all_eq_true.mp hin c List.mem_cons_self
  have hbr : ∀ n, n ∈ r → n < 4294967296 := fun n hn => hb n (List.mem_cons_of_mem _ hn)
  cases hs : PyFc02.shape (p : Int) with
  | none =>
    unfold PyFlat.call at hc
    simp only [hs] at hc
    cases hc
  | some x =>
    obtain ⟨p15, rfl⟩ := shape_cases hs
    by_cases row : hasRow p = true
    · rw [if_pos row] at hs
      obtain ⟨m, q, hl, hd, hm, hmq, rfl, rfl⟩ := call_row hs hc
      rw [drop_cst] at hd
      obtain ⟨m', q', e⟩ : ∃ m' q', r.drop (numsOf p) = m' :: q' := by
        cases z : r.drop (numsOf p) with
        | nil => rw [z] at hd; cases hd
        | cons a b => exact ⟨a, b, rfl⟩
      rw [e] at hd
      have em : (m' : Int) = m := (List.cons.inj hd).1
      have eq : cst q' = q := (List.cons.inj hd).2
      subst em eq
      have e0 : ((m' : Nat) : Int).toNat = m' := by omega
      rw [e0] at hmq ha hi hrest ⊢
      rw [take_cst, take_cst] at ha hi ⊢
      rw [drop_cst] at hrest
      rw [List.length_map] at hl hmq
      have hxl : (r.take (numsOf p)).length = numsOf p := by rw [List.length_take]; omega
      have hq' : ∀ n, n ∈ q' → n < 4294967296 := fun n hn => hbr n (List.mem_of_mem_drop (by rw [e]; exact List.mem_cons_of_mem _ hn))
      have hrs : ∀ z, z ∈ q'.take m' → z < 4294967296 := fun z hz => hq' z (List.mem_of_mem_take hz)
      have hxs : ∀ z, z ∈ r.take (numsOf p) → z < 4294967296 := fun z hz => hbr z (List.mem_of_mem_take hz)
      have hrl : (q'.take m').length = m' := by rw [List.length_take]; omega
      have heq : p :: r = p :: (r.take (numsOf p) ++ ((if hasRow p = true then (q'.take m').length :: q'.take m' else []) ++ q'.drop m')) := by
        rw [if_pos row, hrl, List.cons_append, List.take_append_drop, ← e, List.take_append_drop]
      have fin : ∀ k, natCall p (r.take (numsOf p)) (q'.take m') = some k → (q'.take m').length ≤ 30 → Fc02Neutral.callOf (flatOf [(p : Int) :: cst (r.take (numsOf p)), cst (q'.take m')]) = some k → ∃ f' c cs'' t p' xs rs k, [(p : Int) :: cst (r.take (numsOf p)), cst (q'.take m')] :: cs' = c :: cs'' ∧ PyFlat.calls PyFc02.shape f' (cst t) = some cs'' ∧ One (p :: r) t p' xs rs k ∧ Fc02Neutral.callOf (flatOf c) = some k ∧ ∀ n, n ∈ t → n < 4294967296 := fun k hk h30 hco =>
        ⟨f', _, cs', q'.drop m', p, r.take (numsOf p), q'.take m', k, rfl, hrest, ⟨p15, hxl, heq, hk, h30, fun w => by rw [row] at w; cases w⟩, hco, fun n hn => hq' n (List.mem_of_mem_drop hn)⟩
      have h810 : p = 8 ∨ p = 10 := by simpa [hasRow] using row
      rcases h810 with rfl | rfl
      · obtain ⟨i, j, ex⟩ := list2 hxl
        rw [ex] at ha hi hxs fin ⊢
        unfold Fc02Neutral.asked1 at ha
        have co := callOf_8 i j (q'.take m') hxs hrs
        have ha' : (Fc02Neutral.callOf (flatOf [cst [(8 : Nat), i, j], cst (q'.take m')])).isSome = true := ha
        obtain ⟨k, hk⟩ := Option.isSome_iff_exists.mp ha'
        refine fin k (co.symm.trans hk) ?_ hk
        have hi' : (PyInside.each [(0, 4294967295), (0, 4294967295)] (cst [i, j]) && (decide (0 ≤ (cst (q'.take m')).length) && decide ((cst (q'.take m')).length ≤ 30) && (cst (q'.take m')).all (PyInside.within 0 4294967295) && true)) = true := hi
        simp only [Bool.and_eq_true, decide_eq_true_eq] at hi'
        have := hi'.2.1.1.2
        rw [List.length_map] at this
        exact this
      · obtain ⟨i, ex⟩ := list1 hxl
        rw [ex] at ha hi hxs fin ⊢
        unfold Fc02Neutral.asked1 at ha
        have co := callOf_10 i (q'.take m') (hxs i (by simp)) hrs
        have ha' : (Fc02Neutral.callOf (flatOf [cst [(10 : Nat), i], cst (q'.take m')])).isSome = true := ha
        obtain ⟨k, hk⟩ := Option.isSome_iff_exists.mp ha'
        refine fin k (co.symm.trans hk) ?_ hk
        have hi' : (PyInside.each [(0, 4294967295)] (cst [i]) && (decide (0 ≤ (cst (q'.take m')).length) && decide ((cst (q'.take m')).length ≤ 20) && (cst (q'.take m')).all (PyInside.within 0 4294967295) && true)) = true := hi
        simp only [Bool.and_eq_true, decide_eq_true_eq] at hi'
        have := hi'.2.1.1.2
        rw [List.length_map] at this
        omega
    · rw [if_neg row] at hs
      have row : hasRow p = false := by simpa using row
      obtain ⟨hl, rfl, rfl⟩ := call_plain hs hc
      rw [take_cst] at ha hi ⊢
      rw [drop_cst] at hrest
      rw [List.length_map] at hl
      have hxl : (r.take (numsOf p)).length = numsOf p := by rw [List.length_take]; omega
      have hxs : ∀ z, z ∈ r.take (numsOf p) → z < 4294967296 := fun z hz => hbr z (List.mem_of_mem_take hz)
      have fin : ∀ k, natCall p (r.take (numsOf p)) [] = some k → Fc02Neutral.callOf (flatOf [(p : Int) :: cst (r.take (numsOf p))]) = some k → ∃ f' c cs'' t p' xs rs k, [(p : Int) :: cst (r.take (numsOf p))] :: cs' = c :: cs'' ∧ PyFlat.calls PyFc02.shape f' (cst t) = some cs'' ∧ One (p :: r) t p' xs rs k ∧ Fc02Neutral.callOf (flatOf c) = some k ∧ ∀ n, n ∈ t → n < 4294967296 := fun k hk hco =>
        ⟨f', _, cs', r.drop (numsOf p), p, r.take (numsOf p), [], k, rfl, hrest, one_plain rfl row p15 hl hk, hco, fun n hn => hbr n (List.mem_of_mem_drop hn)⟩
      have all : p = 0 ∨ p = 1 ∨ p = 2 ∨ p = 3 ∨ p = 4 ∨ p = 5 ∨ p = 6 ∨ p = 7 ∨ p = 9 ∨ p = 11 ∨ p = 12 ∨ p = 13 ∨ p = 14 := by
        have z : p ≠ 8 ∧ p ≠ 10 := by simpa [hasRow] using row
        omega
      rcases all with rfl | rfl | rfl | rfl | rfl | rfl | rfl | rfl | rfl | rfl | rfl | rfl | rfl
      · obtain ⟨n, ex⟩ := list1 hxl
        rw [ex] at hxs fin ⊢
        exact fin (.start n) rfl (callOf_0 n hxs)
      · obtain ⟨x, y, ex⟩ := list2 hxl
        rw [ex] at hxs fin ⊢
        exact fin (.arrow x y) rfl (callOf_1 x y hxs)
      · obtain ⟨f, g, h, ex⟩ := list3 hxl
        rw [ex] at hxs fin ⊢
        exact fin (.make f g h) rfl (callOf_2 f g h hxs)
      · obtain ⟨i, x, k, ex⟩ := list3 hxl
        rw [ex] at hxs fin ⊢
        exact fin (.rows i x k) rfl (callOf_3 i x k hxs)
      · obtain ⟨i, f, r, v, ex⟩ := list4 hxl
        rw [ex] at hxs fin ⊢
        exact fin (.set i f r v) rfl (callOf_4 i f r v hxs)
      · obtain ⟨i, ex⟩ := list1 hxl
        rw [ex] at hxs fin ⊢
        exact fin (.check i) rfl (callOf_5 i hxs)
      · obtain ⟨i, j, ex⟩ := list2 hxl
        rw [ex] at hxs fin ⊢
        exact fin (.maps i j) rfl (callOf_6 i j hxs)
      · obtain ⟨i, j, k, ex⟩ := list3 hxl
        rw [ex] at hxs fin ⊢
        exact fin (.nth i j k) rfl (callOf_7 i j k hxs)
      · obtain ⟨i, j, ex⟩ := list2 hxl
        rw [ex] at hxs fin ⊢
        exact fin (.alike i j) rfl (callOf_9 i j hxs)
      · obtain ⟨i, ex⟩ := list1 hxl
        rw [ex] at hxs fin ⊢
        exact fin (.pieces i) rfl (callOf_11 i hxs)
      · obtain ⟨i, x, ex⟩ := list2 hxl
        rw [ex] at hxs fin ⊢
        exact fin (.arrows i x) rfl (callOf_12 i x hxs)
      · obtain ⟨i, x, r, ex⟩ := list3 hxl
        rw [ex] at hxs fin ⊢
        exact fin (.mapOf i x r) rfl (callOf_13 i x r hxs)
      · obtain ⟨i, ex⟩ := list1 hxl
        rw [ex] at hxs fin ⊢
        exact fin (.shows i) rfl (callOf_14 i hxs)
end AR
set_option linter.all false
/-! What is due for a list of calls, call by call. -/
namespace AR
open Fc02
def dueOf (s : St) (raw : List (List (List Int))) : List Int := PyFlat.told (PyFlat.played (fun s c => Fc02Neutral.step s (c.headD [])) s (raw.map PyFc02.whole))
theorem due_nil (s : St) : dueOf s [] = [] := rfl
theorem due_cons {s : St} {c : List (List Int)} {cs : List (List (List Int))} {k : Call} (h : Fc02Neutral.callOf (flatOf c) = some k) : dueOf s (c :: cs) = ((step s k).2.length : Int) :: ((step s k).2 ++ dueOf (step s k).1 cs) := by
  have e : Fc02Neutral.step s ((PyFc02.whole c).headD []) = step s k := by
    have h : Fc02Neutral.callOf ((PyFc02.whole c).headD []) = some k := h
    unfold Fc02Neutral.step
    rw [h]
  unfold dueOf
  rw [List.map_cons]
  show PyFlat.told ((Fc02Neutral.step s ((PyFc02.whole c).headD [])).2 :: PyFlat.played _ (Fc02Neutral.step s ((PyFc02.whole c).headD [])).1 _) = _
  rw [e]
  unfold PyFlat.told
  rw [List.flatMap_cons]
  rfl
structure Asked (l : List Int) (raw : List (List (List Int))) : Prop where
  calls : PyFlat.calls PyFc02.shape l.length l = some raw
  ne : raw ≠ []
  n40 : raw.length ≤ 40
  ins : PyInside.calls PyFc02.bound raw = true
  ask : ∀ c, c ∈ raw → Fc02Neutral.asked1 (flatOf c) = true
  short : (PyFc02.answers l).length ≤ 10000000
  due : PyFc02.answers l = dueOf init raw
theorem asked_of {l : List Int} (h : PyFc02.answers_asked l = true) : ∃ raw, Asked l raw := by
  unfold PyFc02.answers_asked at h
  cases e : PyFlat.calls PyFc02.shape l.length l with
  | none => rw [e] at h; cases h
  | some raw =>
    rw [e] at h
    simp only [Bool.and_eq_true] at h
    obtain ⟨⟨⟨⟨h1, h2⟩, h3⟩, h4⟩, h5⟩ := h
    refine ⟨raw, e, ?_, ?_, h3, fun c hc => ?_, ?_, ?_⟩
    · intro z
      rw [z] at h1
      cases h1
    · exact of_decide_eq_true h2
    · unfold Fc02Neutral.asked at h4
      rw [Bool.and_eq_true] at h4
      have := List.all_eq_true.mp h4.1 (flatOf c)
      refine this ?_
      rw [List.map_map]
      exact List.mem_map.mpr ⟨c, hc, rfl⟩
    · exact of_decide_eq_true h5
    · unfold PyFc02.answers PyFc02.calls
      rw [e]
      rfl
theorem cst_toNat {l : List Int} (h : ∀ z, z ∈ l → 0 ≤ z) : cst (l.map Int.toNat) = l := by
  show List.map _ (List.map _ l) = l
  rw [List.map_map]
  conv => rhs; rw [← List.map_id l]
  refine List.map_congr_left fun z hz => ?_
  have := h z hz
  show ((z.toNat : Nat) : Int) = z
  omega
end AR
set_option Elab.async false
set_option linter.all false
set_option maxRecDepth 100000
set_option maxHeartbeats 4000000
/-! The program's own words over the hand layer: addresses, facts of the text, a call of a local that holds a def. -/
namespace AR
open PySem PySem.Spec PyProof.Rows L2
structure Ad where
  K : PySem.W.Frag
  cC : Addr
  cI : Addr
  cL : Addr
  calls : Addr
  fn : Nat → Addr
abbrev rLtI : R2 := rI0 fun i j => .bl (decide (i < j))
abbrev rLeI : R2 := rI0 fun i j => .bl (decide (i ≤ j))
abbrev rGtI : R2 := rI0 fun i j => .bl (decide (j < i))
abbrev rGeI : R2 := rI0 fun i j => .bl (decide (j ≤ i))
abbrev rAddI : R2 := rI0 fun i j => .int (i + j)
abbrev rSubI : R2 := rI0 fun i j => .int (i - j)
structure DefAt (K : PySem.W.Frag) (mg : Str → Option Value) (x : Str) (st : Stmt) (ps : List Str) : Prop where
  ex : ∃ (f : Addr) (fd : FuncData), C8.Def K mg x st f fd ∧ Binds K fd ps []
structure DefF (K : PySem.W.Frag) (mg : Str → Option Value) (x : Str) (st : Stmt) (ps : List Str) (f : Addr) : Prop where
  ex : ∃ fd : FuncData, C8.Def K mg x st f fd ∧ Binds K fd ps []
theorem DefF.at_ {K : PySem.W.Frag} {mg : Str → Option Value} {x : Str} {st : Stmt} {ps : List Str} {f : Addr} (h : DefF K mg x st ps f) : DefAt K mg x st ps := let ⟨fd, q⟩ := h.ex; ⟨f, fd, q⟩
structure MetAt (K : PySem.W.Frag) (x qual : Str) (C : Addr) (st : Stmt) (ps : List Str) : Prop where
  ex : ∃ (f : Addr) (fd : FuncData), Cls K C ∧ Meth K C x f ∧ C8.Fun K x qual st f fd ∧ Binds K fd ps []
structure MakAt (K : PySem.W.Frag) (mg : Str → Option Value) (x qual : Str) (C : Addr) (st : Stmt) (ps : List Str) : Prop where
  ex : ∃ (f : Addr) (fd : FuncData), Mk K C f ∧ mg x = some (.ref C) ∧ C8.Fun K "__init__" qual st f fd ∧ Binds K fd ps []
/-- a local that holds a def: which promise it has is told by a relation -/
def tCallR (i : Nat) (An : Addr → Sp → Prop) (t : TA) : TE := fun σ H Q => ∃ f sp, σ[i]? = some (some (.ref f)) ∧ An f sp ∧ t σ H fun vs H1 => sp (vs ++ []) H1 Q C8.E0
section
variable {X : Cx} {k i j : Nat} {x : Str} {p pos : Pos} {e : Expr} {es : List Expr} {t : TA} {An : Addr → Sp → Prop}
theorem pe_callR (HA : ∀ f sp, An f sp → Held X.prog X.w X.K X.mg X.base k f sp) (hr : Room k X.A) (hN : X.N[i]? = some x) (hv : Vis X.env.scope x) (ha : PA X (e :: es) t)
    (hdb : (x == ("__debug__" : Str)) = false := by decide) (hcd : (x == ("__classdict__" : Str)) = false := by decide)
    (he : starEach (e :: es) X.env = (false, eval e X.env) :: starEach es X.env := by rfl) (hpl : (backTo pos (starEach es X.env)).any (·.1) = false := by rfl) : PE X (.Call (.Name x p) (e :: es) [] pos) (tCallR i An t) := by
  refine ⟨fun pins s σ H Q I h => ?_⟩
  obtain ⟨f, sp, hs, hA, ht⟩ := h
  obtain ⟨fd, ps, F, hk, hb⟩ := (HA f sp hA).ex
  exact (pe_callL (i := i) (f := f) (sp := sp) (dvs := []) (E := C8.E0) F hr hN hv hk hb .nil (fun _ _ _ _ _ _ _ z => z.elim) ha hdb hcd he hpl).run pins s σ H Q I ⟨hs, ht⟩
theorem pe_mk0 {C : Addr} {sp : Sp} {dvs : List V} (c : C8.Mak X.prog X.w X.K X.mg X.base k x C sp dvs) (hr : Room j X.A) (hk : k + 1 ≤ j) (hg : Gl X x) (hdb : (x == ("__debug__" : Str)) = false := by decide) :
    PE X (.Call (.Name x p) [] [] pos) (tMake C sp dvs C8.E0 tNil) := by
  obtain ⟨f, fd, ps, ds, M, F, hm, b, d⟩ := c.ex
  exact pe_make0 M F (hr.mono hk) hg hm b d C8.pass0 hdb
end
/-! what the end finds -/
section
variable {K : PySem.W.Frag} {h : Heap} {mg : Str → Option Value} {x qual : Str} {st : Stmt} {ps : List Str} {f C : Addr} {oc : Value} {od an : Option Addr} {osl : Array (Option Value)} {kV doc pm cdv ct : Value}
abbrev BindsB (x qual : Str) (st : Stmt) (ps : List Str) : Prop := ∀ (kV doc pm : Value) (an : Option Addr) (cdv ct : Value) (us : List Value), us.length = ps.length → bindArgs (PySem.W.fnOf x qual (C8.fnArgs st) (C8.fnBody st) (C8.fnScope st) .none kV doc pm an cdv ct) ⟨us, []⟩ = pure (ps.zip us)
theorem def_mk (X : K.In h) (G : h.Ns mainGlobals mg) (a : PySem.W.nsIn K mainGlobals x = some (some (.ref f))) (l : K.lookup f = some ⟨oc, od, .func (PySem.W.fnOf x x (C8.fnArgs st) (C8.fnBody st) (C8.fnScope st) .none kV doc pm an cdv ct), osl⟩) (c : PySem.W.codeIn K cdv x = true) (k : PySem.W.keepIn K (.ref f) = true) (hb : BindsB x x st ps) : DefF K mg x st ps f :=
  ⟨_, ⟨⟨oc, od, .none, kV, doc, pm, an, cdv, ct, osl, rfl, l, c⟩, PySem.W.mg_of X G a, k⟩, .all (hb kV doc pm an cdv ct)⟩
theorem met_mk (cl : Cls K C) (m : Meth K C x f) (l : K.lookup f = some ⟨oc, od, .func (PySem.W.fnOf x qual (C8.fnArgs st) (C8.fnBody st) (C8.fnScope st) .none kV doc pm an cdv ct), osl⟩) (c : PySem.W.codeIn K cdv qual = true) (hb : BindsB x qual st ps) : MetAt K x qual C st ps :=
  ⟨f, _, cl, m, ⟨oc, od, .none, kV, doc, pm, an, cdv, ct, osl, rfl, l, c⟩, .all (hb kV doc pm an cdv ct)⟩
theorem mak_mk (X : K.In h) (G : h.Ns mainGlobals mg) (a : PySem.W.nsIn K mainGlobals x = some (some (.ref C))) (M : Mk K C f) (l : K.lookup f = some ⟨oc, od, .func (PySem.W.fnOf "__init__" qual (C8.fnArgs st) (C8.fnBody st) (C8.fnScope st) .none kV doc pm an cdv ct), osl⟩) (c : PySem.W.codeIn K cdv qual = true) (hb : BindsB "__init__" qual st ps) : MakAt K mg x qual C st ps :=
  ⟨f, _, M, PySem.W.mg_of X G a, ⟨oc, od, .none, kV, doc, pm, an, cdv, ct, osl, rfl, l, c⟩, .all (hb kV doc pm an cdv ct)⟩
theorem held_mono {P : Program} {w : World} {base : Heap} {j k : Nat} {sp : Sp} (h : Held P w K mg base j f sp) (e : j ≤ k) : Held P w K mg base k f sp :=
  let ⟨fd, ps, F, q⟩ := h.ex
  ⟨fd, ps, F.mono e, q⟩
end
/-! the lesser of two; how many different ones a list has -/
def rMin2 : List V → Hp → VK → Prop := fun vs H Q => ∃ m n : Int, vs = [.int m, .int n] ∧ Q (.int (if n < m then n else m)) H
def distinct (ns : List Int) : List Int := PyProof.Rows.firstMet (fun i => ns.getD i 0) ns.length
def tLenSetD (K : PySem.W.Frag) (ta : TE) : TE := fun σ H Q => ta σ H fun x H1 => ∃ (l : Addr) (ns : List Int), x = .ref l ∧ SqL K H1 l (ns.map V.int) ∧ ns.length ≤ 1000 ∧ Q (.int ((distinct ns).length : Nat)) H1
theorem ints_vals : ∀ {ns : List Int} {us : List Value}, Vals (ns.map V.int) us → PyProof.Rows.IntsAre us ns
  | [], _, .nil => .nil
  | z :: zs, _, .cons a b => by
    obtain ⟨tk, rfl⟩ := a
    exact .cons z tk (ints_vals b)
theorem pe_lenSetD {X : Cx} {x : Expr} {tx : TE} {p1 p2 p3 p4 : Pos} (g1 : Gl X "len") (m1 : X.mg "len" = none) (g2 : Gl X "set") (m2 : X.mg "set" = none) (hx : PE X x tx) (calm : X.calm = true := by rfl)
    (st : starEach [x] X.env = (false, eval x X.env) :: starEach [] X.env := by rfl) : PE X (.Call (.Name "len" p1) [.Call (.Name "set" p2) [x] [] p3] [] p4) (tLenSetD X.K tx) := by
  refine ⟨fun pins s σ H Q I w => Call_ (ld_blt I g1 m1 boot_len ?_)⟩
  refine PyProof.Rows.callWith_builtin1 (PyProof.Rows.args_cons (Call_ (ld_blt I g2 m2 boot_set ?_)) rfl) rfl rfl
  refine PyProof.Rows.callWith_type1 (PyProof.Rows.args_cons (thn (hx.run pins s σ H _ I w) fun v s1 ⟨y, H1, I1, r1, z⟩ => PyProof.Rows.args_nil ?_) st) st rfl
  obtain ⟨l, ns, rfl, sq, small, z⟩ := z
  cases r1
  obtain ⟨its, rv, isl, _⟩ := I1.list sq
  have size : its.toArray.size = ns.length := by
    rw [List.size_toArray, ← rv.length, List.length_map]
  refine call_set_list (I1.ok.hd calm) isl.isList (by simpa using ints_vals rv) (by rw [size]; unfold scanBound; omega) fun h2 tk isSet keep => PyProof.Rows.args_nil ?_
  rw [size] at isSet
  obtain ⟨ob, es, ep, tb, ho, hex, hd, _, _, _, fit, num⟩ := isSet
  have I2 : Inv X pins σ H1 { s1 with heap := h2, toks := tk } := I1.kept fun b u e => keep b u (Heap.lt_size e) e
  have le : (distinct ns).length ≤ ns.length := PyProof.Rows.firstMet_length_le _ _
  have num : es.size = (distinct ns).length := num
  exact call_len_set ho hex hd fit (by rw [num]; omega) ⟨.int (distinct ns).length, H1, I2.tok _, ⟨_, by rw [num]⟩, z⟩
theorem distinct_step (ns : List Int) : ∀ i, i ≤ ns.length → (PyProof.Rows.firstMet (fun i => ns.getD i 0) i).Nodup ∧ ∀ k, k ∈ PyProof.Rows.firstMet (fun i => ns.getD i 0) i ↔ k ∈ ns.take i
  | 0, _ => ⟨by rw [PyProof.Rows.firstMet_zero]; exact List.nodup_nil, fun k => by rw [PyProof.Rows.firstMet_zero, List.take_zero]⟩
  | i + 1, hi => by
    obtain ⟨a, b⟩ := distinct_step ns i (by omega)
    have g : ns.getD i 0 = ns[i] := by rw [List.getD_eq_getElem?_getD, List.getElem?_eq_getElem (by omega)]; rfl
    have tk : ns.take (i + 1) = ns.take i ++ [ns[i]] := by rw [List.take_add_one, List.getElem?_eq_getElem (by omega)]; rfl
    rw [PyProof.Rows.firstMet_succ, tk]
    generalize PyProof.Rows.firstMet (fun i => ns.getD i 0) i = met at a b
    show (if met.any (· == ns.getD i 0) then met else met ++ [ns.getD i 0]).Nodup ∧ ∀ k, k ∈ (if met.any (· == ns.getD i 0) then met else met ++ [ns.getD i 0]) ↔ _
    rw [g]
    by_cases q : met.any (· == ns[i]) = true
    · rw [if_pos q]
      obtain ⟨y, hy, ey⟩ := List.any_eq_true.mp q
      have ey : y = ns[i] := eq_of_beq ey
      refine ⟨a, fun k => ?_⟩
      rw [List.mem_append, List.mem_singleton, b k]
      constructor
      · exact Or.inl
      · rintro (h | h)
        · exact h
        · rw [h, ← ey]; exact (b y).mp hy
    · rw [if_neg q]
      refine ⟨List.nodup_append.mpr ⟨a, by simp, ?_⟩, fun k => ?_⟩
      · intro u hu v hv e
        rw [List.mem_singleton.mp hv] at e
        exact q (List.any_eq_true.mpr ⟨u, hu, by rw [e]; exact beq_self_eq_true _⟩)
      · rw [List.mem_append, List.mem_append, b k]
theorem distinct_nodup (ns : List Int) : (distinct ns).Nodup := (distinct_step ns ns.length (Nat.le_refl _)).1
theorem mem_distinct {ns : List Int} {k : Int} : k ∈ distinct ns ↔ k ∈ ns := by
  have := (distinct_step ns ns.length (Nat.le_refl _)).2 k
  rw [List.take_length] at this
  exact this
/-- a constant of the module that is a whole number -/
def IsC (mg : Str → Option Value) (x : Str) (n : Int) : Prop := ∃ u, mg x = some u ∧ RelV (.int n) u
/-- a class of the text, with the names of its objects' values -/
structure ClsT (K : PySem.W.Frag) (mg : Str → Option Value) (x : Str) (C : Addr) (fs : List Str) : Prop where
  cl : Cls K C
  na : ∀ f, f ∈ fs → NoAttr K C f
end AR
set_option Elab.async false
set_option linter.all false
set_option maxRecDepth 100000
set_option maxHeartbeats 4000000
/-! How the data lie in the heap; values that are read. -/
namespace AR
open PySem PySem.Spec PyProof.Rows L2 Evl
abbrev kN (n : Nat) : V := .int (n : Int)
/-- a tuple of the written part -/
structure TupK (K : PySem.W.Frag) (a : Addr) (xs : List V) : Prop where
  ex : ∃ (o : Obj) (its : Array Value) (n : Nat), K.lookup a = some o ∧ o.cls = .type "tuple" ∧ o.data = .seq its n ∧ its.size ≤ sizeLine ∧ Vals xs its.toList
theorem TupK.sq {K : PySem.W.Frag} {a : Addr} {xs : List V} (h : TupK K a xs) (H : Hp) : SqT K H a xs := Or.inr h.ex
def instsOf : Nat → Nat
  | 3 => 1 | 4 => 1 | 5 => 1 | 6 => 2 | 7 => 2 | 8 => 2 | 9 => 2 | 10 => 1 | 11 => 1 | 12 => 1 | 13 => 1 | 14 => 1 | _ => 0
/-- what a call needs: nothing, a category, instances that are right -/
def needOf : Nat → Nat
  | 5 => 1 | 6 => 2 | 7 => 2 | 8 => 2 | 9 => 2 | 10 => 2 | 11 => 2 | 12 => 1 | 13 => 2 | _ => 0
def needS : Nat → Str
  | 0 => "" | 1 => "category" | _ => "right"
structure TableAt (D : Ad) : Prop where
  ex : ∃ rows : List Addr, rows.length = 15 ∧ TupK D.K D.calls (rows.map V.ref) ∧ ∀ (i : Nat) (r : Addr), rows[i]? = some r → TupK D.K r [kN (numsOf i), kN (instsOf i), .bl (hasRow i), .str (needS (needOf i)), .ref (D.fn i)]
theorem lk_here {k : Str} {v : V} {r : List (Str × V)} : List.lookup k ((k, v) :: r) = some v := by
  have e : (k == k) = true := beq_self_eq_true k
  simp only [List.lookup, e]
theorem lk_past {k g : Str} {v : V} {r : List (Str × V)} (h : (k == g) = false) : List.lookup k ((g, v) :: r) = List.lookup k r := by
  simp only [List.lookup, h]
theorem put_here {f : Str} {v x : V} {r : List (Str × V)} : putF f v ((f, x) :: r) = (f, v) :: r := if_pos rfl
theorem put_past {f g : Str} {v x : V} {r : List (Str × V)} (h : ¬ g = f) : putF f v ((g, x) :: r) = (g, x) :: putF f v r := if_neg h
/-! categories -/
def catF (n : Nat) (e d : Addr) : List (Str × V) := [("things", kN n), ("ends", .ref e), ("told", .ref d)]
theorem catF_things {n : Nat} {e d : Addr} : (catF n e d).lookup ("things" : Str) = some (kN n) := lk_here
theorem catF_ends {n : Nat} {e d : Addr} : (catF n e d).lookup ("ends" : Str) = some (.ref e) := (lk_past (by decide +kernel)).trans lk_here
theorem catF_told {n : Nat} {e d : Addr} : (catF n e d).lookup ("told" : Str) = some (.ref d) := (lk_past (by decide +kernel)).trans ((lk_past (by decide +kernel)).trans lk_here)
theorem catF_no {n : Nat} {e d : Addr} {m : Str} (h1 : (m == ("things" : Str)) = false) (h2 : (m == ("ends" : Str)) = false) (h3 : (m == ("told" : Str)) = false) : (catF n e d).lookup m = none :=
  (lk_past h1).trans ((lk_past h2).trans ((lk_past h3).trans rfl))
structure CatX (D : Ad) (H : Hp) (a e d dx : Addr) (refs : List Addr) (kvs : List (List Key × V)) (c : Fc02.Cat) : Prop where
  ob : H a = some (.ins D.cC dx (catF c.n e d))
  le : H e = some (.lst (refs.map V.ref))
  rl : refs.length = c.arrows.length
  rt : ∀ (i : Nat) (r : Addr) (p : Nat × Nat), refs[i]? = some r → c.arrows[i]? = some p → H r = some (.tup [kN p.1, kN p.2])
  di : H d = some (.dT kvs)
  dv : ∀ f g : Nat, valV kvs [Sum.inl (f : Int), Sum.inl (g : Int)] = (told c f g).map kN
theorem CatX.mono {D : Ad} {H H' : Hp} {a e d dx : Addr} {refs : List Addr} {kvs : List (List Key × V)} {c : Fc02.Cat} (x : Ex H H') (h : CatX D H a e d dx refs kvs c) : CatX D H' a e d dx refs kvs c :=
  ⟨x _ _ h.ob, x _ _ h.le, h.rl, fun i r p h1 h2 => x _ _ (h.rt i r p h1 h2), x _ _ h.di, h.dv⟩
def CatAt (D : Ad) (H : Hp) (a : Addr) (c : Fc02.Cat) : Prop := (∃ e d dx refs kvs, CatX D H a e d dx refs kvs c) ∧ WC c
theorem CatAt.mono {D : Ad} {H H' : Hp} {a : Addr} {c : Fc02.Cat} (x : Ex H H') (h : CatAt D H a c) : CatAt D H' a c :=
  let ⟨⟨e, d, dx, refs, kvs, q⟩, w⟩ := h
  ⟨⟨e, d, dx, refs, kvs, q.mono x⟩, w⟩
/-! instances -/
structure IL where
  b : Addr
  cl : Addr
  ll : Addr
  dx : Addr
  rr : List Addr
def instF (l : IL) : List (Str × V) := [("counts", .ref l.cl), ("leads", .ref l.ll)]
theorem instF_counts {l : IL} : (instF l).lookup ("counts" : Str) = some (.ref l.cl) := lk_here
theorem instF_leads {l : IL} : (instF l).lookup ("leads" : Str) = some (.ref l.ll) := (lk_past (by decide +kernel)).trans lk_here
theorem instF_no {l : IL} {m : Str} (h1 : (m == ("counts" : Str)) = false) (h2 : (m == ("leads" : Str)) = false) : (instF l).lookup m = none :=
  (lk_past h1).trans ((lk_past h2).trans rfl)
structure InstX (D : Ad) (H : Hp) (l : IL) (c : Fc02.Cat) (t : Fc02.Inst) : Prop where
  ob : H l.b = some (.ins D.cI l.dx (instF l))
  lc : H l.cl = some (.lst (t.size.map kN))
  ll : H l.ll = some (.lst (l.rr.map V.ref))
  rl : l.rr.length = c.arrows.length
  rw : ∀ (f : Nat) (r : Addr), c.n ≤ f → l.rr[f]? = some r → H r = some (.lst ((t.tab.getD f []).map kN))
  ra : ∀ r : Addr, r ∈ l.rr → ∃ xs, H r = some (.lst xs)
theorem InstX.mono {D : Ad} {H H' : Hp} {l : IL} {c : Fc02.Cat} {t : Fc02.Inst} (x : Ex H H') (h : InstX D H l c t) : InstX D H' l c t :=
  ⟨x _ _ h.ob, x _ _ h.lc, x _ _ h.ll, h.rl, fun f r h1 h2 => x _ _ (h.rw f r h1 h2), fun r hr => let ⟨xs, q⟩ := h.ra r hr; ⟨xs, x _ _ q⟩⟩
def InstAt (D : Ad) (H : Hp) (b : Addr) (c : Fc02.Cat) (t : Fc02.Inst) : Prop := (∃ l : IL, l.b = b ∧ InstX D H l c t) ∧ WI c t
theorem InstAt.mono {D : Ad} {H H' : Hp} {b : Addr} {c : Fc02.Cat} {t : Fc02.Inst} (x : Ex H H') (h : InstAt D H b c t) : InstAt D H' b c t :=
  let ⟨⟨l, e, q⟩, w⟩ := h
  ⟨⟨l, e, q.mono x⟩, w⟩
/-! lists of pairs, of lists, in the heap -/
/-- refs are tuples (or lists) of these -/
def Pts (H : Hp) (o : List V → HO) (refs : List Addr) (xs : List (List V)) : Prop := refs.length = xs.length ∧ ∀ (i : Nat) (r : Addr) (x : List V), refs[i]? = some r → xs[i]? = some x → H r = some (o x)
theorem Pts.mono {H H' : Hp} {o : List V → HO} {refs : List Addr} {xs : List (List V)} (x : Ex H H') (h : Pts H o refs xs) : Pts H' o refs xs := ⟨h.1, fun i r y h1 h2 => x _ _ (h.2 i r y h1 h2)⟩
theorem Pts.nil {H : Hp} {o : List V → HO} : Pts H o [] [] := ⟨rfl, fun i r x h => by simp at h⟩
theorem Pts.snoc {H : Hp} {o : List V → HO} {refs : List Addr} {xs : List (List V)} {p : Addr} {x : List V} (h : Pts H o refs xs) (hp : H p = some (o x)) : Pts H o (refs ++ [p]) (xs ++ [x]) := by
  refine ⟨by rw [List.length_append, List.length_append, h.1]; rfl, fun i r y h1 h2 => ?_⟩
  by_cases q : i < refs.length
  · rw [List.getElem?_append_left q] at h1
    rw [List.getElem?_append_left (by rw [← h.1]; exact q)] at h2
    exact h.2 i r y h1 h2
  · rw [List.getElem?_append_right (by omega)] at h1
    rw [List.getElem?_append_right (by rw [← h.1]; omega), ← h.1] at h2
    cases z : i - refs.length with
    | zero =>
      rw [z] at h1 h2
      cases h1; cases h2
      exact hp
    | succ n =>
      rw [z] at h1
      simp at h1
theorem Pts.get {H : Hp} {o : List V → HO} {refs : List Addr} {xs : List (List V)} {i : Nat} {x : List V} (h : Pts H o refs xs) (hx : xs[i]? = some x) : ∃ r, refs[i]? = some r ∧ H r = some (o x) := by
  have l := (List.getElem?_eq_some_iff.mp hx).1
  have e : refs[i]? = some (refs[i]'(by rw [h.1]; exact l)) := List.getElem?_eq_getElem _
  exact ⟨_, e, h.2 i _ x e hx⟩
/-! what is read -/
section
variable {K : PySem.W.Frag} {σ : L2.St} {H : Hp} {ta tb : TE} {t : TA} {C a dx : Addr} {fs : List (Str × V)} {f m : Str} {v z : V} {vs : List V} {sp : Sp} {E : XK}
theorem ev_fld (ho : Ev ta σ H (.ref a)) (hi : H a = some (.ins C dx fs)) (cl : Cls K C) (na : NoAttr K C f) (lk : fs.lookup f = some v) : Ev (tFld K ta f) σ H v := fun H1 e Q q =>
  ho H1 e _ fun H2 e2 => ⟨a, C, dx, fs, v, rfl, (e.trans e2) _ _ hi, cl, na, lk, q H2 e2⟩
theorem ev_meth (ho : Ev ta σ H (.ref a)) (hi : H a = some (.ins C dx fs)) (hl : fs.lookup m = none) (h : EvA t σ H vs) (hs : SpV sp (.ref a :: (vs ++ [])) H z) : Ev (tMeth C m sp [] E ta t) σ H z := fun H1 e Q q =>
  ho H1 e _ fun H2 e2 => ⟨a, dx, fs, rfl, (e.trans e2) _ _ hi, hl, h H2 (e.trans e2) _ fun H3 e3 => hs H3 ((e.trans e2).trans e3) Q (fun H4 e4 => q H4 ((e2.trans e3).trans e4)) E⟩
theorem el_meth {xs : List V} (ho : Ev ta σ H (.ref a)) (hi : H a = some (.ins C dx fs)) (hl : fs.lookup m = none) (h : EvA t σ H vs) (hs : SpL sp (.ref a :: (vs ++ [])) H xs) : EvL (tMeth C m sp [] E ta t) σ H xs := fun H1 e Q q =>
  ho H1 e _ fun H2 e2 => ⟨a, dx, fs, rfl, (e.trans e2) _ _ hi, hl, h H2 (e.trans e2) _ fun H3 e3 => hs H3 ((e.trans e2).trans e3) Q (fun p H4 hp e4 h4 => q p H4 (fresh_back (e2.trans e3) hp) ((e2.trans e3).trans e4) h4) E⟩
theorem at_nat {xs : List V} {i : Nat} {v : V} (h : xs[i]? = some v) : atI xs (i : Int) = some v := atI_nat h
theorem ev_ixL {p : Addr} {xs : List V} {i : Nat} (ha : Ev ta σ H (.ref p)) (hb : Ev tb σ H (kN i)) (h : H p = some (.lst xs)) (hx : xs[i]? = some v) : Ev (tOp (rIxL K) ta tb) σ H v :=
  ev_op ha hb (rv_ixL (sq_of h) (at_nat hx))
theorem ev_ixT {p : Addr} {xs : List V} {i : Nat} (ha : Ev ta σ H (.ref p)) (hb : Ev tb σ H (kN i)) (h : H p = some (.tup xs)) (hx : xs[i]? = some v) : Ev (tOp (rIxT K) ta tb) σ H v :=
  ev_op ha hb (rv_ixT (st_of h) (at_nat hx))
theorem ev_lt {i j : Nat} (ha : Ev ta σ H (kN i)) (hb : Ev tb σ H (kN j)) : Ev (tOp rLtI ta tb) σ H (.bl (decide (i < j))) := by
  have e : V.bl (decide (i < j)) = V.bl (decide ((i : Int) < (j : Int))) := by congr 1; simp
  rw [e]
  exact ev_op ha hb rv_I0
theorem ev_gt {i j : Nat} (ha : Ev ta σ H (kN i)) (hb : Ev tb σ H (kN j)) : Ev (tOp rGtI ta tb) σ H (.bl (decide (j < i))) := by
  have e : V.bl (decide (j < i)) = V.bl (decide ((j : Int) < (i : Int))) := by congr 1; simp
  rw [e]
  exact ev_op ha hb rv_I0
theorem ev_ge {i j : Nat} (ha : Ev ta σ H (kN i)) (hb : Ev tb σ H (kN j)) : Ev (tOp rGeI ta tb) σ H (.bl (decide (j ≤ i))) := by
  have e : V.bl (decide (j ≤ i)) = V.bl (decide ((j : Int) ≤ (i : Int))) := by congr 1; simp
  rw [e]
  exact ev_op ha hb rv_I0
theorem kN_inj {i j : Nat} : kN i = kN j ↔ i = j := by
  constructor
  · intro h
    have h : (i : Int) = (j : Int) := by injection h
    omega
  · intro h; rw [h]
theorem dec_kN (i j : Nat) : decide (kN i = kN j) = decide (i = j) := by
  by_cases h : i = j
  · rw [decide_eq_true h, decide_eq_true (kN_inj.mpr h)]
  · rw [decide_eq_false h, decide_eq_false (fun q => h (kN_inj.mp q))]
theorem ev_eq {i j : Nat} (ha : Ev ta σ H (kN i)) (hb : Ev tb σ H (kN j)) : Ev (tOp rEq ta tb) σ H (.bl (decide (i = j))) := by
  rw [← dec_kN]
  exact ev_op ha hb (rv_eq rfl)
theorem ev_ne {i j : Nat} (ha : Ev ta σ H (kN i)) (hb : Ev tb σ H (kN j)) : Ev (tOp rNe ta tb) σ H (.bl (!decide (i = j))) := by
  rw [← dec_kN]
  exact ev_op ha hb (rv_ne rfl)
theorem ev_add {i j : Nat} (ha : Ev ta σ H (kN i)) (hb : Ev tb σ H (kN j)) : Ev (tOp rAddI ta tb) σ H (kN (i + j)) := by
  have e : kN (i + j) = V.int ((i : Int) + (j : Int)) := by show V.int _ = V.int _; congr 1
  rw [e]
  exact ev_op ha hb rv_I0
end
theorem map_get {α : Type} {f : α → V} {l : List α} {i : Nat} {x : α} (h : l[i]? = some x) : (l.map f)[i]? = some (f x) := by
  rw [List.getElem?_map, h]; rfl
theorem map_get_inv {α : Type} {f : α → V} {l : List α} {i : Nat} {v : V} (h : (l.map f)[i]? = some v) : ∃ x, l[i]? = some x ∧ v = f x := by
  rw [List.getElem?_map] at h
  cases e : l[i]? with
  | none => rw [e] at h; cases h
  | some x => rw [e] at h; exact ⟨x, rfl, (Option.some.inj h).symm⟩
end AR
set_option Elab.async false
set_option linter.all false
set_option maxRecDepth 100000
set_option maxHeartbeats 4000000
/-! The promises: categories. -/
namespace AR
open PySem PySem.Spec PyProof.Rows L2 Evl
def optV : Option Nat → V
  | none => .non
  | some h => kN h
/-- a new list of tuples (lists) of these -/
def RetP (o : List V → HO) (xs : List (List V)) (H : Hp) (Q : VK) : Prop := ∀ p H2 refs, H p = none → Ex H H2 → H2 p = some (.lst (refs.map V.ref)) → Pts H2 o refs xs → Q (.ref p) H2
theorem RetP.go {o : List V → HO} {xs : List (List V)} {H H' : Hp} {Q : VK} (k : RetP o xs H Q) (e : Ex H H') {p : Addr} {H2 : Hp} {refs : List Addr} (hp : H' p = none) (e2 : Ex H' H2) (h : H2 p = some (.lst (refs.map V.ref))) (h2 : Pts H2 o refs xs) : Q (.ref p) H2 :=
  k p H2 refs (fresh_back e hp) (e.trans e2) h h2
def sp_init_Category (D : Ad) : Sp := fun vs H Q _ => ∃ (p dx : Addr) (n : Nat), vs = [.ref p, kN n] ∧ H p = some (.ins D.cC dx []) ∧ n ≤ 3 ∧
  ∀ (H' : Hp) (e d : Addr) (refs : List Addr), CatX D H' p e d dx refs [] (Fc02.begin_ n) → (∀ b o, H b = some o → b ≠ p → H' b = some o) → (∀ b, H' b = none → H b = none) → H e = none → H d = none → Q .non H'
def sp_has_thing (D : Ad) : Sp := fun vs H Q _ => ∃ (a : Addr) (c : Fc02.Cat) (x : Nat), vs = [.ref a, kN x] ∧ CatAt D H a c ∧ RetV (.bl (decide (x < c.n))) H Q
def sp_has_arrow (D : Ad) : Sp := fun vs H Q _ => ∃ (a : Addr) (c : Fc02.Cat) (x : Nat), vs = [.ref a, kN x] ∧ CatAt D H a c ∧ RetV (.bl (decide (x < c.arrows.length))) H Q
def sp_is_own (D : Ad) : Sp := fun vs H Q _ => ∃ (a : Addr) (c : Fc02.Cat) (x : Nat), vs = [.ref a, kN x] ∧ CatAt D H a c ∧ RetV (.bl (decide (x < c.n))) H Q
def sp_source (D : Ad) : Sp := fun vs H Q _ => ∃ (a : Addr) (c : Fc02.Cat) (f : Nat), vs = [.ref a, kN f] ∧ CatAt D H a c ∧ f < c.arrows.length ∧ RetV (kN (Fc02.from_ c f)) H Q
def sp_target (D : Ad) : Sp := fun vs H Q _ => ∃ (a : Addr) (c : Fc02.Cat) (f : Nat), vs = [.ref a, kN f] ∧ CatAt D H a c ∧ f < c.arrows.length ∧ RetV (kN (Fc02.to_ c f)) H Q
def sp_touches (D : Ad) : Sp := fun vs H Q _ => ∃ (a : Addr) (c : Fc02.Cat) (f x : Nat), vs = [.ref a, kN f, kN x] ∧ CatAt D H a c ∧ f < c.arrows.length ∧ RetV (.bl (decide (Fc02.from_ c f = x) || decide (Fc02.to_ c f = x))) H Q
def sp_meet (D : Ad) : Sp := fun vs H Q _ => ∃ (a : Addr) (c : Fc02.Cat) (f g : Nat), vs = [.ref a, kN f, kN g] ∧ CatAt D H a c ∧ f < c.arrows.length ∧ g < c.arrows.length ∧ RetV (.bl (meet c f g)) H Q
def sp_others (D : Ad) : Sp := fun vs H Q _ => ∃ (a : Addr) (c : Fc02.Cat), vs = [.ref a] ∧ CatAt D H a c ∧ RetL ((others c).map kN) H Q
def sp_made (D : Ad) : Sp := fun vs H Q _ => ∃ (a : Addr) (c : Fc02.Cat) (f g : Nat), vs = [.ref a, kN f, kN g] ∧ CatAt D H a c ∧ RetV (optV (made c f g)) H Q
def pairV (p : Nat × Nat) : List V := [kN p.1, kN p.2]
def sp_meeting_pairs (D : Ad) : Sp := fun vs H Q _ => ∃ (a : Addr) (c : Fc02.Cat), vs = [.ref a] ∧ CatAt D H a c ∧ RetP .tup ((pairs c).map pairV) H Q
def sp_pair_fits (D : Ad) : Sp := fun vs H Q _ => ∃ (a : Addr) (c : Fc02.Cat) (f g : Nat), vs = [.ref a, kN f, kN g] ∧ CatAt D H a c ∧ f < c.arrows.length ∧ g < c.arrows.length ∧ RetV (.bl (fits c f g)) H Q
def sp_triple_agrees (D : Ad) : Sp := fun vs H Q _ => ∃ (a : Addr) (c : Fc02.Cat) (f g h : Nat), vs = [.ref a, kN f, kN g, kN h] ∧ CatAt D H a c ∧ (made c f g).isSome = true ∧ (made c g h).isSome = true ∧ RetV (.bl (agrees c f g h)) H Q
def sp_is_category (D : Ad) : Sp := fun vs H Q _ => ∃ (a : Addr) (c : Fc02.Cat), vs = [.ref a] ∧ CatAt D H a c ∧ RetV (.bl (Fc02.isCat c)) H Q
def sp_arrows_between (D : Ad) : Sp := fun vs H Q _ => ∃ (a : Addr) (c : Fc02.Cat) (x y : Nat), vs = [.ref a, kN x, kN y] ∧ CatAt D H a c ∧ RetL ((Fc02.hom c x y).map kN) H Q
/-! the promises at a call -/
section
variable {D : Ad} {H : Hp} {a : Addr} {c : Fc02.Cat} {σ : L2.St} {ta tb tc td : TE} {f g h x : Nat}
theorem CatAt.no (hc : CatAt D H a c) {m : Str} (h1 : (m == ("things" : Str)) = false := by decide +kernel) (h2 : (m == ("ends" : Str)) = false := by decide +kernel) (h3 : (m == ("told" : Str)) = false := by decide +kernel) : ∃ dx fs, H a = some (.ins D.cC dx fs) ∧ fs.lookup m = none :=
  let ⟨⟨_, _, dx, _, _, q⟩, _⟩ := hc
  ⟨dx, _, q.ob, catF_no h1 h2 h3⟩
theorem em_1 {sp : Sp} {m : Str} {z : V} (hc : CatAt D H a c) (ho : Ev ta σ H (.ref a)) (h1 : Ev tb σ H (kN f)) (hs : SpV sp [.ref a, kN f] H z) (hm : (m == ("things" : Str)) = false := by decide +kernel) (hm2 : (m == ("ends" : Str)) = false := by decide +kernel) (hm3 : (m == ("told" : Str)) = false := by decide +kernel) : Ev (tMeth D.cC m sp [] C8.E0 ta (tCons tb tNil)) σ H z :=
  let ⟨_, _, q, n⟩ := hc.no hm hm2 hm3
  ev_meth ho q n (ea_cons h1 ea_nil) hs
theorem em_2 {sp : Sp} {m : Str} {z : V} (hc : CatAt D H a c) (ho : Ev ta σ H (.ref a)) (h1 : Ev tb σ H (kN f)) (h2 : Ev tc σ H (kN g)) (hs : SpV sp [.ref a, kN f, kN g] H z) (hm : (m == ("things" : Str)) = false := by decide +kernel) (hm2 : (m == ("ends" : Str)) = false := by decide +kernel) (hm3 : (m == ("told" : Str)) = false := by decide +kernel) : Ev (tMeth D.cC m sp [] C8.E0 ta (tCons tb (tCons tc tNil))) σ H z :=
  let ⟨_, _, q, n⟩ := hc.no hm hm2 hm3
  ev_meth ho q n (ea_cons h1 (ea_cons h2 ea_nil)) hs
theorem e_has_thing (hc : CatAt D H a c) (ho : Ev ta σ H (.ref a)) (h1 : Ev tb σ H (kN x)) : Ev (tMeth D.cC "has_thing" (sp_has_thing D) [] C8.E0 ta (tCons tb tNil)) σ H (.bl (decide (x < c.n))) :=
  em_1 hc ho h1 fun H1 e Q q E => ⟨a, c, x, rfl, hc.mono e, q⟩
theorem e_has_arrow (hc : CatAt D H a c) (ho : Ev ta σ H (.ref a)) (h1 : Ev tb σ H (kN x)) : Ev (tMeth D.cC "has_arrow" (sp_has_arrow D) [] C8.E0 ta (tCons tb tNil)) σ H (.bl (decide (x < c.arrows.length))) :=
  em_1 hc ho h1 fun H1 e Q q E => ⟨a, c, x, rfl, hc.mono e, q⟩
theorem e_is_own (hc : CatAt D H a c) (ho : Ev ta σ H (.ref a)) (h1 : Ev tb σ H (kN x)) : Ev (tMeth D.cC "is_own" (sp_is_own D) [] C8.E0 ta (tCons tb tNil)) σ H (.bl (decide (x < c.n))) :=
  em_1 hc ho h1 fun H1 e Q q E => ⟨a, c, x, rfl, hc.mono e, q⟩
theorem e_source (hc : CatAt D H a c) (ho : Ev ta σ H (.ref a)) (h1 : Ev tb σ H (kN f)) (hf : f < c.arrows.length) : Ev (tMeth D.cC "source" (sp_source D) [] C8.E0 ta (tCons tb tNil)) σ H (kN (Fc02.from_ c f)) :=
  em_1 hc ho h1 fun H1 e Q q E => ⟨a, c, f, rfl, hc.mono e, hf, q⟩
theorem e_target (hc : CatAt D H a c) (ho : Ev ta σ H (.ref a)) (h1 : Ev tb σ H (kN f)) (hf : f < c.arrows.length) : Ev (tMeth D.cC "target" (sp_target D) [] C8.E0 ta (tCons tb tNil)) σ H (kN (Fc02.to_ c f)) :=
  em_1 hc ho h1 fun H1 e Q q E => ⟨a, c, f, rfl, hc.mono e, hf, q⟩
theorem e_touches (hc : CatAt D H a c) (ho : Ev ta σ H (.ref a)) (h1 : Ev tb σ H (kN f)) (h2 : Ev tc σ H (kN x)) (hf : f < c.arrows.length) : Ev (tMeth D.cC "touches" (sp_touches D) [] C8.E0 ta (tCons tb (tCons tc tNil))) σ H (.bl (decide (Fc02.from_ c f = x) || decide (Fc02.to_ c f = x))) :=
  em_2 hc ho h1 h2 fun H1 e Q q E => ⟨a, c, f, x, rfl, hc.mono e, hf, q⟩
theorem e_meet (hc : CatAt D H a c) (ho : Ev ta σ H (.ref a)) (h1 : Ev tb σ H (kN f)) (h2 : Ev tc σ H (kN g)) (hf : f < c.arrows.length) (hg : g < c.arrows.length) : Ev (tMeth D.cC "meet" (sp_meet D) [] C8.E0 ta (tCons tb (tCons tc tNil))) σ H (.bl (meet c f g)) :=
  em_2 hc ho h1 h2 fun H1 e Q q E => ⟨a, c, f, g, rfl, hc.mono e, hf, hg, q⟩
theorem e_made (hc : CatAt D H a c) (ho : Ev ta σ H (.ref a)) (h1 : Ev tb σ H (kN f)) (h2 : Ev tc σ H (kN g)) : Ev (tMeth D.cC "made" (sp_made D) [] C8.E0 ta (tCons tb (tCons tc tNil))) σ H (optV (made c f g)) :=
  em_2 hc ho h1 h2 fun H1 e Q q E => ⟨a, c, f, g, rfl, hc.mono e, q⟩
theorem e_others (hc : CatAt D H a c) (ho : Ev ta σ H (.ref a)) : EvL (tMeth D.cC "others" (sp_others D) [] C8.E0 ta tNil) σ H ((others c).map kN) :=
  let ⟨_, _, q, n⟩ := hc.no (m := "others")
  el_meth ho q n ea_nil fun H1 e Q q E => ⟨a, c, rfl, hc.mono e, q⟩
theorem e_pair_fits (hc : CatAt D H a c) (ho : Ev ta σ H (.ref a)) (h1 : Ev tb σ H (kN f)) (h2 : Ev tc σ H (kN g)) (hf : f < c.arrows.length) (hg : g < c.arrows.length) : Ev (tCall (sp_pair_fits D) [] C8.E0 (tCons ta (tCons tb (tCons tc tNil)))) σ H (.bl (fits c f g)) :=
  ev_call (ea_cons ho (ea_cons h1 (ea_cons h2 ea_nil))) fun H1 e Q q E => ⟨a, c, f, g, rfl, hc.mono e, hf, hg, q⟩
theorem e_triple (hc : CatAt D H a c) (ho : Ev ta σ H (.ref a)) (h1 : Ev tb σ H (kN f)) (h2 : Ev tc σ H (kN g)) (h3 : Ev td σ H (kN h)) (m1 : (made c f g).isSome = true) (m2 : (made c g h).isSome = true) : Ev (tCall (sp_triple_agrees D) [] C8.E0 (tCons ta (tCons tb (tCons tc (tCons td tNil))))) σ H (.bl (agrees c f g h)) :=
  ev_call (ea_cons ho (ea_cons h1 (ea_cons h2 (ea_cons h3 ea_nil)))) fun H1 e Q q E => ⟨a, c, f, g, h, rfl, hc.mono e, m1, m2, q⟩
theorem e_is_category (hc : CatAt D H a c) (ho : Ev ta σ H (.ref a)) : Ev (tCall (sp_is_category D) [] C8.E0 (tCons ta tNil)) σ H (.bl (Fc02.isCat c)) :=
  ev_call (ea_cons ho ea_nil) fun H1 e Q q E => ⟨a, c, rfl, hc.mono e, q⟩
end
end AR
set_option Elab.async false
set_option linter.all false
set_option maxRecDepth 100000
set_option maxHeartbeats 5000000
/-! Comprehensions over any walk; in, index, min, extend; data compared. -/
namespace AR
open PySem PySem.Spec PyProof.Rows L2 Evl
section
variable {K : PySem.W.Frag} {σ : L2.St} {H : Hp} {ta tb te tl : TE} {t : TT} {g : TG} {J : It} {n : Nat} {G : Hp → Prop} {Y : Nat → Hp → V → Hp → Prop} {vs : List Nat} {Q : VK}
/-- a comprehension, its walk known -/
def lcB (J : It) (g : TG) (t : TT) (te : TE) (vs : List Nat) (σ : L2.St) (H : Hp) (Q : VK) : Prop := tLc (fun _ Ha R => R J Ha) g t te vs σ H Q
theorem t_lc {wi : TI} (h : wi σ H fun J H1 => lcB J g t te vs σ H1 Q) : tLc wi g t te vs σ H Q := h
/-- values, of the turns at which the test holds -/
theorem lcW_given (w : Walk J n G Y) (σi : Nat → L2.St) (f : Nat → Bool) (v : Nat → V) (hG : ∀ H1, Ex H H1 → G H1) (hz : n ≤ 50000)
    (hg : ∀ (i : Nat) (x : V) (H1 H2 : Hp) (R : L2.St → Hp → Prop), Ex H H1 → i < n → Y i H1 x H2 → (∀ H3, Ex H1 H3 → R (σi i) H3) → g x (wipe σ vs) H2 R) (hw : ∀ i, i < n → wipe (σi i) vs = wipe σ vs)
    (ht : ∀ (i : Nat) (H1 : Hp), Ex H H1 → i < n → EvT t (σi i) H1 (f i)) (he : ∀ (i : Nat) (H1 : Hp), Ex H H1 → i < n → f i = true → Ev te (σi i) H1 (v i))
    (hQ : RetL (given n f v) H Q) : lcB J g t te vs σ H Q := fun Dl hD =>
  lc_it w (Cw H f v Dl) ⟨hD, Ex.new hD, upd_same⟩ (fun i H1 _ p => hG H1 p.2.1) (fun i x H1 H2 hi p y => hg i x H1 H2 _ p.2.1 hi y fun H3 e3 => ⟨hw i hi, cw_turn ⟨p.1, p.2.1.trans e3, e3 _ _ p.2.2⟩ (by omega) (ht i H (Ex.refl _) hi) (fun hf => he i H (Ex.refl _) hi hf)⟩)
    (fun H1 p => hQ Dl H1 p.1 p.2.1 p.2.2)
theorem yat {xs : List V} {i : Nat} {x : V} {H1 H2 : Hp} (y : YAt xs i H1 x H2) : H2 = H1 ∧ xs[i]? = some x := y
/-- [e for x in a list if t] -/
theorem lcL_given {a : Addr} {xs : List V} {j : Nat} (f : Nat → Bool) (v : Nat → V) (hx : SqL K H a xs) (hz : xs.length ≤ 50000) (hw : ∀ x, wipe ((wipe σ vs).set j (some x)) vs = wipe σ vs)
    (ht : ∀ (i : Nat) (x : V) (H1 : Hp), Ex H H1 → xs[i]? = some x → EvT t ((wipe σ vs).set j (some x)) H1 (f i)) (he : ∀ (i : Nat) (x : V) (H1 : Hp), Ex H H1 → xs[i]? = some x → f i = true → Ev te ((wipe σ vs).set j (some x)) H1 (v i))
    (hQ : RetL (given xs.length f v) H Q) : lcB (Itl K a) (gName j) t te vs σ H Q := by
  have gx : ∀ i, i < xs.length → xs[i]? = some (xs.getD i .non) := fun i hi => by rw [List.getD_eq_getElem?_getD, List.getElem?_eq_getElem hi]; rfl
  refine lcW_given walk_list (fun i => (wipe σ vs).set j (some (xs.getD i .non))) f v (fun H1 e => ex_l e hx) hz (fun i x H1 H2 R e hi y k => ?_) (fun i _ => hw _) (fun i H1 e hi => ht i _ H1 e (gx i hi)) (fun i H1 e hi hf => he i _ H1 e (gx i hi) hf) hQ
  obtain ⟨rfl, hy⟩ := yat y
  rw [gx i hi] at hy
  cases hy
  exact k H2 (Ex.refl _)
/-- [e for i, x in enumerate(a list) if t] -/
theorem lcE_given {a : Addr} {xs : List V} {j1 j2 : Nat} (f : Nat → Bool) (v : Nat → V) (hx : SqL K H a xs) (hz : xs.length ≤ 50000) (hw : ∀ x y, wipe (((wipe σ vs).set j1 (some x)).set j2 (some y)) vs = wipe σ vs)
    (ht : ∀ (i : Nat) (x : V) (H1 : Hp), Ex H H1 → xs[i]? = some x → EvT t (((wipe σ vs).set j1 (some (kN i))).set j2 (some x)) H1 (f i)) (he : ∀ (i : Nat) (x : V) (H1 : Hp), Ex H H1 → xs[i]? = some x → f i = true → Ev te (((wipe σ vs).set j1 (some (kN i))).set j2 (some x)) H1 (v i))
    (hQ : RetL (given xs.length f v) H Q) : lcB (Ite K a) (gTup K 2 (gCons (gName j1) (gCons (gName j2) gNil))) t te vs σ H Q := by
  have gx : ∀ i, i < xs.length → xs[i]? = some (xs.getD i .non) := fun i hi => by rw [List.getD_eq_getElem?_getD, List.getElem?_eq_getElem hi]; rfl
  refine lcW_given walk_enum (fun i => ((wipe σ vs).set j1 (some (kN i))).set j2 (some (xs.getD i .non))) f v (fun H1 e => ex_l e hx) hz (fun i x H1 H2 R e hi y k => ?_) (fun i _ => hw _ _) (fun i H1 e hi => ht i _ H1 e (gx i hi)) (fun i H1 e hi hf => he i _ H1 e (gx i hi) hf) hQ
  obtain ⟨T, u, z, rfl, hT, rfl, hu, hz⟩ := y
  cases hu
  have hz : xs[i]? = some z := hz
  rw [gx i hi] at hz
  cases hz
  exact ⟨T, _, rfl, st_of upd_same, rfl, _, _, rfl, _, _, rfl, rfl, k _ (Ex.new hT)⟩
/-- [e for x, y in a list of pairs if t] -/
theorem lcP_given {a : Addr} {refs : List Addr} {zs : List (List V)} {j1 j2 : Nat} (f : Nat → Bool) (v : Nat → V) (hx : SqL K H a (refs.map V.ref)) (hP : Pts H .tup refs zs) (h2 : ∀ z, z ∈ zs → z.length = 2) (hz : zs.length ≤ 50000) (hw : ∀ x y, wipe (((wipe σ vs).set j1 (some x)).set j2 (some y)) vs = wipe σ vs)
    (ht : ∀ (i : Nat) (x y : V) (H1 : Hp), Ex H H1 → zs[i]? = some [x, y] → EvT t (((wipe σ vs).set j1 (some x)).set j2 (some y)) H1 (f i)) (he : ∀ (i : Nat) (x y : V) (H1 : Hp), Ex H H1 → zs[i]? = some [x, y] → f i = true → Ev te (((wipe σ vs).set j1 (some x)).set j2 (some y)) H1 (v i))
    (hQ : RetL (given zs.length f v) H Q) : lcB (Itl K a) (gTup K 2 (gCons (gName j1) (gCons (gName j2) gNil))) t te vs σ H Q := by
  have len : (refs.map V.ref).length = zs.length := by rw [List.length_map, hP.1]
  rw [← len] at hQ hz
  have gz : ∀ i, i < (refs.map V.ref).length → zs[i]? = some [(zs.getD i []).getD 0 .non, (zs.getD i []).getD 1 .non] := fun i hi => by
    rw [len] at hi
    have m := h2 zs[i] (List.getElem_mem hi)
    have ez : zs.getD i [] = zs[i] := by rw [List.getD_eq_getElem?_getD, List.getElem?_eq_getElem hi]; rfl
    rw [ez, List.getElem?_eq_getElem hi]
    match hq : zs[i], m with
    | [p, q], _ => rfl
  refine lcW_given walk_list (fun i => ((wipe σ vs).set j1 (some ((zs.getD i []).getD 0 .non))).set j2 (some ((zs.getD i []).getD 1 .non))) f v (fun H1 e => ex_l e hx) hz (fun i x H1 H2 R e hi y k => ?_) (fun i _ => hw _ _) (fun i H1 e hi => ht i _ _ H1 e (gz i hi)) (fun i H1 e hi hf => he i _ _ H1 e (gz i hi) hf) hQ
  obtain ⟨rfl, hy⟩ := yat y
  obtain ⟨r, hr, rfl⟩ := map_get_inv hy
  exact ⟨r, _, rfl, st_of (e _ _ (hP.2 i r _ hr (gz i hi))), rfl, _, _, rfl, _, _, rfl, rfl, k _ (Ex.refl _)⟩
/-! in, index, min -/
theorem inV_kN (i : Nat) (l : List Nat) : inV (kN i) (l.map kN) = decide (i ∈ l) := by
  rw [Bool.eq_iff_iff, decide_eq_true_iff]
  unfold inV
  rw [List.any_eq_true]
  constructor
  · rintro ⟨y, hy, e⟩
    obtain ⟨j, hj, rfl⟩ := List.mem_map.mp hy
    have e : ((j : Int) == (i : Int)) = true := e
    have e : (j : Int) = (i : Int) := eq_of_beq e
    have e : j = i := by omega
    exact e ▸ hj
  · intro h
    exact ⟨kN i, List.mem_map.mpr ⟨i, h, rfl⟩, by show ((i : Int) == (i : Int)) = true; simp⟩
theorem flat_kN (l : List Nat) : (l.map kN).all flatV = true := by
  rw [List.all_eq_true]
  intro x hx
  obtain ⟨j, _, rfl⟩ := List.mem_map.mp hx
  rfl
theorem ev_in {i : Nat} {q : Addr} {l : List Nat} (h0 : Ev ta σ H (kN i)) (h1 : Ev tb σ H (.ref q)) (hq : H q = some (.lst (l.map kN))) : Ev (tOp (rIn K false) ta tb) σ H (.bl (decide (i ∈ l))) := by
  rw [← inV_kN]
  exact ev_op h0 h1 (rv_isL (sq_of hq) rfl (flat_kN l))
theorem ev_index {k : Nat} {q : Addr} {l : List Nat} (h0 : Ev ta σ H (.ref q)) (h1 : Ev tb σ H (kN k)) (hq : H q = some (.lst (l.map kN))) (hk : k ∈ l) : Ev (tBM K "list" (rIndex K) ta (tCons tb tNil)) σ H (kN (ixOf l k)) := fun H1 e1 R kk => by
  obtain ⟨j, _, e, hj, lo⟩ := ixOf_mem hk
  rw [e] at kk
  refine h0 H1 e1 _ fun H2 e2 => ⟨Or.inl ⟨rfl, _, sq_of ((e1.trans e2) _ _ hq)⟩, h1 H2 (e1.trans e2) _ fun H3 e3 => ⟨q, l.map kN, kN k, j, kN k, rfl, rfl, sq_of (((e1.trans e2).trans e3) _ _ hq), rfl, flat_kN l, map_get hj, by show ((k : Int) == (k : Int)) = true; simp, fun m z hm hz => ?_, kk H3 (e2.trans e3)⟩⟩
  obtain ⟨u, hu, rfl⟩ := map_get_inv hz
  have := lo m u hm hu
  show ((u : Int) == (k : Int)) = false
  rw [beq_eq_false_iff_ne]
  omega
theorem ev_min {i k : Nat} (h0 : Ev ta σ H (kN i)) (h1 : Ev tb σ H (kN k)) : Ev (tCB rMin2 (tCons ta (tCons tb tNil))) σ H (kN (min i k)) := fun H1 e Q q => by
  refine h0 H1 e _ fun H2 e2 => h1 H2 (e.trans e2) _ fun H3 e3 => ⟨(i : Int), (k : Int), rfl, ?_⟩
  have : (if (k : Int) < (i : Int) then (k : Int) else (i : Int)) = ((min i k : Nat) : Int) := by
    by_cases h : k < i
    · rw [if_pos (by omega)]; omega
    · rw [if_neg (by omega)]; omega
  rw [this]
  exact q H3 (e2.trans e3)
end
section
variable {K : PySem.W.Frag} {σ : L2.St} {H : Hp} {ta te : TE} {D : Ends} {tz : TS}
/-- xs.extend(ys): ys a new list | one that stands -/
theorem s_extL {l : Addr} {xs ys : List V} (hl : H l = some (.lst xs)) (ha : Ev ta σ H (.ref l)) (h : EvL te σ H ys) (hz : xs.length + ys.length ≤ 100000) (k : ∀ H1, Ex H H1 → D.nx σ (upd H1 l (.lst (xs ++ ys)))) :
    tDrop (tBM K "list" rExtend ta (tCons te tNil)) D σ H := ha H (Ex.refl H) _ fun H1 e1 =>
  ⟨Or.inl ⟨rfl, xs, sq_of (e1 l _ hl)⟩, h H1 e1 _ fun p H2 _ e2 h2 => ⟨l, p, xs, ys, rfl, rfl, e2 l _ (e1 l _ hl), h2, sz_of hz, k H2 (e1.trans e2)⟩⟩
theorem s_ext {l p : Addr} {xs ys : List V} (hl : H l = some (.lst xs)) (ha : Ev ta σ H (.ref l)) (h : Ev te σ H (.ref p)) (hp : H p = some (.lst ys)) (hz : xs.length + ys.length ≤ 100000) (k : ∀ H1, Ex H H1 → D.nx σ (upd H1 l (.lst (xs ++ ys)))) :
    tDrop (tBM K "list" rExtend ta (tCons te tNil)) D σ H := ha H (Ex.refl H) _ fun H1 e1 =>
  ⟨Or.inl ⟨rfl, xs, sq_of (e1 l _ hl)⟩, h H1 e1 _ fun H2 e2 => ⟨l, p, xs, ys, rfl, rfl, e2 l _ (e1 l _ hl), e2 _ _ (e1 _ _ hp), sz_of hz, k H2 (e1.trans e2)⟩⟩
theorem q_as {te : TE} {i : Nat} (h : te σ H fun x H1 => tz D (σ.set i (some x)) H1) : tSeq (tAsg te (gName i)) tz D σ H := h
theorem s_as {te : TE} {i : Nat} (h : te σ H fun x H1 => D.nx (σ.set i (some x)) H1) : tAsg te (gName i) D σ H := h
theorem t_call {sp : Sp} {E : XK} {ta : TA} {vs : List V} {Q : VK} (h : EvA ta σ H vs) (k : ∀ H1, Ex H H1 → sp (vs ++ []) H1 Q E) : tCall sp [] E ta σ H Q := h H (Ex.refl H) _ k
/-- for x in a list that is told by a reading -/
theorem q_forG {g : TG} {tl : TE} {tu : TS} (h : tl σ H fun v H1 => ∃ a, v = .ref a ∧ (∃ xs, SqL K H1 a xs) ∧ tSeq (tFor (fun _ Ha R => R (Itl K a) Ha) g tu) tz D σ H1) : tSeq (tFor (iList K tl) g tu) tz D σ H := h
theorem s_forG {g : TG} {tl : TE} {tu : TS} (h : tl σ H fun v H1 => ∃ a, v = .ref a ∧ (∃ xs, SqL K H1 a xs) ∧ tFor (fun _ Ha R => R (Itl K a) Ha) g tu D σ H1) : tFor (iList K tl) g tu D σ H := h
end
/-! data compared -/
section
variable {K : PySem.W.Frag} {H : Hp}
theorem sum_kN (l : List Nat) : (l.map fun n : Nat => (n : Int)).sum = ((l.sum : Nat) : Int) := by
  induction l with
  | nil => rfl
  | cons a l ih => rw [List.map_cons, List.sum_cons, List.sum_cons, ih]; omega
theorem map_kN (l : List Nat) : l.map kN = (l.map fun n : Nat => (n : Int)).map V.int := by rw [List.map_map]; rfl
theorem rc_sum {K : PySem.W.Frag} {p : Addr} {l : List Nat} (h : H p = some (.lst (l.map kN))) : RC (rSum K) [.ref p] H (kN l.sum) := fun H1 e Q q => by
  refine ⟨p, l.map fun n : Nat => (n : Int), rfl, ?_, ?_⟩
  · rw [← map_kN]
    exact sq_of (e _ _ h)
  · rw [sum_kN]
    exact q H1 (Ex.refl _)
/-! data compared with [] -/
theorem depth_ints (l : List Int) : PyData.depthAll (l.map PyData.int) ≤ 1 := by
  induction l with
  | nil => simp [PyData.depthAll]
  | cons a l ih => simp [PyData.depthAll, PyData.depth] at ih ⊢; omega
theorem lay_ints (l : List Int) : PyData.canLayAll0 (l.map PyData.int) = true := by
  induction l with
  | nil => rfl
  | cons a l ih => simp [PyData.canLayAll0, PyData.canLay0, ih]
theorem shaped_ints (l : List Int) : SeqAt.shaped (.list (l.map PyData.int)) = true := by
  unfold SeqAt.shaped
  rw [Bool.and_eq_true]
  refine ⟨?_, ?_⟩
  · simp only [PyData.canLay0]; exact lay_ints l
  · refine decide_eq_true ?_
    have := depth_ints l
    simp only [PyData.depth]
    omega
theorem dpa_ints {K : PySem.W.Frag} (l : List Int) : DpAll K H (l.map V.int) (l.map PyData.int) := by
  induction l with
  | nil => exact .nil
  | cons a l ih => exact .cons (.int a) ih
theorem eqv_nil (ds : List PyData) : PyData.eqv (.list ds) (.list []) = ds.isEmpty := by
  cases ds <;> simp [PyData.eqv, PyData.eqvAll]
theorem rv_eqNil {K : PySem.W.Frag} {p q : Addr} {l : List Int} (hp : H p = some (.lst (l.map V.int))) (hq : H q = some (.lst [])) : RV (rEqD K) (.ref p) (.ref q) H (.bl l.isEmpty) := fun H1 e Q k => by
  refine ⟨.list (l.map PyData.int), .list [], .lst (sq_of (e _ _ hp)) (dpa_ints l), .lst (sq_of (e _ _ hq)) .nil, shaped_ints l, shaped_ints [], ?_⟩
  rw [eqv_nil]
  have e2 : (l.map PyData.int).isEmpty = l.isEmpty := by cases l <;> rfl
  rw [e2]
  exact k H1 (Ex.refl _)
theorem rv_neNil {K : PySem.W.Frag} {p q : Addr} {l : List Int} (hp : H p = some (.lst (l.map V.int))) (hq : H q = some (.lst [])) : RV (rNeD K) (.ref p) (.ref q) H (.bl (!l.isEmpty)) := fun H1 e Q k => by
  refine ⟨.list (l.map PyData.int), .list [], .lst (sq_of (e _ _ hp)) (dpa_ints l), .lst (sq_of (e _ _ hq)) .nil, shaped_ints l, shaped_ints [], ?_⟩
  rw [eqv_nil]
  have e2 : (l.map PyData.int).isEmpty = l.isEmpty := by cases l <;> rfl
  rw [e2]
  exact k H1 (Ex.refl _)
theorem empty_kN (l : List Nat) : (l.map fun n : Nat => (n : Int)).isEmpty = l.isEmpty := by cases l <;> rfl
theorem eqvAll_ints : ∀ (l m : List Int), PyData.eqvAll (l.map PyData.int) (m.map PyData.int) = decide (l = m)
  | [], [] => by simp [PyData.eqvAll]
  | [], _ :: _ => by simp [PyData.eqvAll]
  | _ :: _, [] => by simp [PyData.eqvAll]
  | a :: l, b :: m => by
    have ih := eqvAll_ints l m
    rw [List.map_cons, List.map_cons, PyData.eqvAll, ih, PyData.eqv, Bool.eq_iff_iff]
    simp
theorem shaped_tup (l : List Int) : SeqAt.shaped (.tuple (l.map PyData.int)) = true := by
  unfold SeqAt.shaped
  rw [Bool.and_eq_true]
  refine ⟨?_, decide_eq_true ?_⟩
  · simp only [PyData.canLay0]; exact lay_ints l
  · have := depth_ints l
    simp only [PyData.depth]
    omega
theorem eqv_lists (l m : List Int) : PyData.eqv (.list (l.map PyData.int)) (.list (m.map PyData.int)) = decide (l = m) := by
  rw [PyData.eqv, eqvAll_ints]
theorem eqv_tups (l m : List Int) : PyData.eqv (.tuple (l.map PyData.int)) (.tuple (m.map PyData.int)) = decide (l = m) := by
  rw [PyData.eqv, eqvAll_ints]
theorem rv_eqT {p q : Addr} {l m : List Int} (hp : H p = some (.tup (l.map V.int))) (hq : H q = some (.tup (m.map V.int))) : RV (rEqD K) (.ref p) (.ref q) H (.bl (decide (l = m))) := fun H1 e Q k => by
  refine ⟨.tuple (l.map PyData.int), .tuple (m.map PyData.int), .tup (st_of (e _ _ hp)) (dpa_ints l), .tup (st_of (e _ _ hq)) (dpa_ints m), shaped_tup l, shaped_tup m, ?_⟩
  rw [eqv_tups]
  exact k H1 (Ex.refl _)
theorem rv_neL {p q : Addr} {l m : List Int} (hp : H p = some (.lst (l.map V.int))) (hq : H q = some (.lst (m.map V.int))) : RV (rNeD K) (.ref p) (.ref q) H (.bl (!decide (l = m))) := fun H1 e Q k => by
  refine ⟨.list (l.map PyData.int), .list (m.map PyData.int), .lst (sq_of (e _ _ hp)) (dpa_ints l), .lst (sq_of (e _ _ hq)) (dpa_ints m), shaped_ints l, shaped_ints m, ?_⟩
  rw [eqv_lists]
  exact k H1 (Ex.refl _)
end
end AR
set_option Elab.async false
set_option linter.all false
set_option maxRecDepth 100000
set_option maxHeartbeats 4000000
/-! The readings of the defs (printed by gen.py). -/
namespace AR
open PySem PySem.Spec PyProof.Rows L2
structure Txt (D : Ad) (mg : Str → Option Value) : Prop where
  cl_Category : Cls D.K D.cC
  mg_Category : mg "Category" = some (.ref D.cC)
  na_things : NoAttr D.K D.cC "things"
  na_ends : NoAttr D.K D.cC "ends"
  na_told : NoAttr D.K D.cC "told"
  cl_Instance : Cls D.K D.cI
  mg_Instance : mg "Instance" = some (.ref D.cI)
  na_counts : NoAttr D.K D.cI "counts"
  na_leads : NoAttr D.K D.cI "leads"
  cl_Line : Cls D.K D.cL
  mg_Line : mg "Line" = some (.ref D.cL)
  na_category : NoAttr D.K D.cL "category"
  na_instances : NoAttr D.K D.cL "instances"
  b_enumerate : mg "enumerate" = none
  b_len : mg "len" = none
  b_list : mg "list" = none
  b_max : mg "max" = none
  b_min : mg "min" = none
  b_range : mg "range" = none
  b_set : mg "set" = none
  b_sorted : mg "sorted" = none
  b_sum : mg "sum" = none
  b_tuple : mg "tuple" = none
  g_UNTOLD : IsC mg "UNTOLD" (99)
  g_NOT_LET : IsC mg "NOT_LET" (-1)
  g_NO_INSTANCE : IsC mg "NO_INSTANCE" (-2)
  g_NOT_THERE : IsC mg "NOT_THERE" (-3)
  g_TOO_MANY : IsC mg "TOO_MANY" (-5)
  g_NOT_RIGHT : IsC mg "NOT_RIGHT" (-6)
  g_MOST_THINGS : IsC mg "MOST_THINGS" (3)
  g_MOST_ARROWS : IsC mg "MOST_ARROWS" (9)
  g_MOST_ROWS : IsC mg "MOST_ROWS" (6)
  g_HOW_MANY_INSTANCES : IsC mg "HOW_MANY_INSTANCES" (3)
  g_CALLS : mg "CALLS" = some (.ref D.calls)
  t_CALLS : TableAt D
abbrev n_init_Category : List Str := ["self", "things", "x"]
def t_init_Category (D : Ad) : TS :=
  (tSeq (sFld D.K (tVar 0) (tVar 1) "things") (tSeq (sFld D.K (tVar 0) (tLc (iRng1 (tCons (tVar 1) tNil)) (gName 2) tYes (tTup (tCons (tVar 2) (tCons (tVar 2) tNil))) [2]) "ends") (sFld D.K (tVar 0) tDNewT "told")))
abbrev n_has_thing : List Str := ["self", "x"]
def t_has_thing (D : Ad) : TS :=
  (tRet (tOp rLtI (tVar 1) (tFld D.K (tVar 0) "things")))
abbrev n_has_arrow : List Str := ["self", "f"]
def t_has_arrow (D : Ad) : TS :=
  (tRet (tOp rLtI (tVar 1) (tCB (Evl.rLenS D.K) (tCons (tFld D.K (tVar 0) "ends") tNil))))
abbrev n_is_own : List Str := ["self", "f"]
def t_is_own (D : Ad) : TS :=
  (tRet (tOp rLtI (tVar 1) (tFld D.K (tVar 0) "things")))
abbrev n_source : List Str := ["self", "f"]
def t_source (D : Ad) : TS :=
  (tRet (tOp (rIxT D.K) (tOp (rIxL D.K) (tFld D.K (tVar 0) "ends") (tVar 1)) (tC (.int 0))))
abbrev n_target : List Str := ["self", "f"]
def t_target (D : Ad) : TS :=
  (tRet (tOp (rIxT D.K) (tOp (rIxL D.K) (tFld D.K (tVar 0) "ends") (tVar 1)) (tC (.int 1))))
abbrev n_touches : List Str := ["self", "f", "x"]
def t_touches (D : Ad) : TS :=
  (tRet (tOrV (tOp rEq (tMeth D.cC "source" (sp_source D) [] C8.E0 (tVar 0) (tCons (tVar 1) tNil)) (tVar 2)) (tOp rEq (tMeth D.cC "target" (sp_target D) [] C8.E0 (tVar 0) (tCons (tVar 1) tNil)) (tVar 2))))
abbrev n_meet : List Str := ["self", "f", "g"]
def t_meet (D : Ad) : TS :=
  (tRet (tOp rEq (tMeth D.cC "target" (sp_target D) [] C8.E0 (tVar 0) (tCons (tVar 1) tNil)) (tMeth D.cC "source" (sp_source D) [] C8.E0 (tVar 0) (tCons (tVar 2) tNil))))
abbrev n_others : List Str := ["self"]
def t_others (D : Ad) : TS :=
  (tRet (tLstRg (tRg2 (tFld D.K (tVar 0) "things") (tCB (Evl.rLenS D.K) (tCons (tFld D.K (tVar 0) "ends") tNil)))))
abbrev n_made : List Str := ["self", "f", "g"]
def t_made (D : Ad) : TS :=
  (tSeq (tIfS (tB (tMeth D.cC "is_own" (sp_is_own D) [] C8.E0 (tVar 0) (tCons (tVar 1) tNil))) (tRet (tVar 2)) tNext) (tSeq (tIfS (tB (tMeth D.cC "is_own" (sp_is_own D) [] C8.E0 (tVar 0) (tCons (tVar 2) tNil))) (tRet (tVar 1)) tNext) (tRet (tDGet1 (tFld D.K (tVar 0) "told") (tTup (tCons (tVar 1) (tCons (tVar 2) tNil)))))))
abbrev n_meeting_pairs : List Str := ["category", "pairs", "f", "g"]
def t_meeting_pairs (D : Ad) : TS :=
  (tSeq (tAsg (tLst tNil) (gName 1)) (tSeq (tFor (iList D.K (tMeth D.cC "others" (sp_others D) [] C8.E0 (tVar 0) tNil)) (gName 2) (tFor (iList D.K (tMeth D.cC "others" (sp_others D) [] C8.E0 (tVar 0) tNil)) (gName 3) (tIfS (tB (tMeth D.cC "meet" (sp_meet D) [] C8.E0 (tVar 0) (tCons (tVar 2) (tCons (tVar 3) tNil)))) (tDrop (tBM D.K "list" rAppend (tVar 1) (tCons (tTup (tCons (tVar 2) (tCons (tVar 3) tNil))) tNil))) tNext))) (tRet (tVar 1))))
abbrev n_pair_fits : List Str := ["category", "f", "g", "h"]
def t_pair_fits (D : Ad) : TS :=
  (tSeq (tAsg (tMeth D.cC "made" (sp_made D) [] C8.E0 (tVar 0) (tCons (tVar 1) (tCons (tVar 2) tNil))) (gName 3)) (tSeq (tIfS (tTest (tOp rIsN (tVar 3) (tC .non))) (tRet (tC (.bl false))) tNext) (tRet (tAndV (tOp rEq (tMeth D.cC "source" (sp_source D) [] C8.E0 (tVar 0) (tCons (tVar 3) tNil)) (tMeth D.cC "source" (sp_source D) [] C8.E0 (tVar 0) (tCons (tVar 1) tNil))) (tOp rEq (tMeth D.cC "target" (sp_target D) [] C8.E0 (tVar 0) (tCons (tVar 3) tNil)) (tMeth D.cC "target" (sp_target D) [] C8.E0 (tVar 0) (tCons (tVar 2) tNil)))))))
abbrev n_triple_agrees : List Str := ["category", "f", "g", "h", "first_two", "last_two"]
def t_triple_agrees (D : Ad) : TS :=
  (tSeq (tAsg (tMeth D.cC "made" (sp_made D) [] C8.E0 (tVar 0) (tCons (tMeth D.cC "made" (sp_made D) [] C8.E0 (tVar 0) (tCons (tVar 1) (tCons (tVar 2) tNil))) (tCons (tVar 3) tNil))) (gName 4)) (tSeq (tAsg (tMeth D.cC "made" (sp_made D) [] C8.E0 (tVar 0) (tCons (tVar 1) (tCons (tMeth D.cC "made" (sp_made D) [] C8.E0 (tVar 0) (tCons (tVar 2) (tCons (tVar 3) tNil))) tNil))) (gName 5)) (tRet (tOp rEq (tVar 4) (tVar 5)))))
abbrev n_is_category : List Str := ["category", "pairs", "f", "g", "h"]
def t_is_category (D : Ad) : TS :=
  (tSeq (tAsg (tCall (sp_meeting_pairs D) [] C8.E0 (tCons (tVar 0) tNil)) (gName 1)) (tSeq (tFor (iList D.K (tVar 1)) (gTup D.K 2 (gCons (gName 2) (gCons (gName 3) gNil))) (tIfS (tNot (tB (tCall (sp_pair_fits D) [] C8.E0 (tCons (tVar 0) (tCons (tVar 2) (tCons (tVar 3) tNil)))))) (tRet (tC (.bl false))) tNext)) (tSeq (tFor (iList D.K (tVar 1)) (gTup D.K 2 (gCons (gName 2) (gCons (gName 3) gNil))) (tFor (iList D.K (tMeth D.cC "others" (sp_others D) [] C8.E0 (tVar 0) tNil)) (gName 4) (tIfS (tAnd (tB (tMeth D.cC "meet" (sp_meet D) [] C8.E0 (tVar 0) (tCons (tVar 3) (tCons (tVar 4) tNil)))) (tNot (tB (tCall (sp_triple_agrees D) [] C8.E0 (tCons (tVar 0) (tCons (tVar 2) (tCons (tVar 3) (tCons (tVar 4) tNil)))))))) (tRet (tC (.bl false))) tNext))) (tRet (tC (.bl true))))))
abbrev n_arrows_between : List Str := ["category", "x", "y", "f", "ends"]
def t_arrows_between (D : Ad) : TS :=
  (tRet (tLc (iEnum D.K (tCons (tFld D.K (tVar 0) "ends") tNil)) (gTup D.K 2 (gCons (gName 3) (gCons (gName 4) gNil))) (tTest (tOp (rEqD D.K) (tVar 4) (tTup (tCons (tVar 1) (tCons (tVar 2) tNil))))) (tVar 3) [3, 4]))
end AR
set_option Elab.async false
set_option linter.all false
set_option maxRecDepth 100000
set_option maxHeartbeats 4000000
/-! Promise gives reading: categories. -/
namespace AR
open PySem PySem.Spec PyProof.Rows L2 Evl
section
variable {D : Ad} {mg : Str → Option Value} {H : Hp} {a : Addr} {c : Fc02.Cat} {σ : L2.St} {ta tb tc : TE} {f g h x : Nat}
theorem e_things (T : Txt D mg) (hc : CatAt D H a c) (ho : Ev ta σ H (.ref a)) : Ev (tFld D.K ta "things") σ H (kN c.n) :=
  let ⟨⟨_, _, _, _, _, q⟩, _⟩ := hc
  ev_fld ho q.ob T.cl_Category T.na_things catF_things
theorem el_rg {i j : Int} (ha : Ev ta σ H (.int i)) (hb : Ev tb σ H (.int j)) (ok : RgOk i j) : EvL (tLstRg (tRg2 ta tb)) σ H (rgV i j) := fun H1 e Q q =>
  ha H1 e _ fun H2 e2 => hb H2 (e.trans e2) _ fun H3 e3 => ⟨i, j, rfl, rfl, ok, fun p hp => q p _ (fresh_back (e2.trans e3) hp) ((e2.trans e3).trans (Ex.new hp)) upd_same⟩
theorem ev_dget1 {d : Addr} {kvs : List (List Key × V)} (hd : Ev ta σ H (.ref d)) (hk : EvU tb σ H [kN f, kN g]) (h : H d = some (.dT kvs)) : Ev (tDGet1 ta tb) σ H ((valV kvs [Sum.inl (f : Int), Sum.inl (g : Int)]).getD .non) := fun H1 e Q q =>
  hd H1 e _ fun H2 e2 => ⟨d, rfl, Or.inr ⟨kvs, Or.inl ((e.trans e2) _ _ h)⟩, hk H2 (e.trans e2) _ fun b H3 _ e3 hb => ⟨_, DGet.t (k := [Sum.inl (f : Int), Sum.inl (g : Int)]) (((e.trans e2).trans e3) _ _ h) hb, q H3 (e2.trans e3)⟩⟩
end
section
variable {D : Ad} {mg : Str → Option Value} {vs : List V} {H : Hp} {Q : VK} {E : XK}
theorem len_init_Category (h : sp_init_Category D vs H Q E) : vs.length = 2 := by obtain ⟨_, _, _, rfl, _⟩ := h; rfl
theorem len_has_thing (h : sp_has_thing D vs H Q E) : vs.length = 2 := by obtain ⟨_, _, _, rfl, _⟩ := h; rfl
theorem len_has_arrow (h : sp_has_arrow D vs H Q E) : vs.length = 2 := by obtain ⟨_, _, _, rfl, _⟩ := h; rfl
theorem len_is_own (h : sp_is_own D vs H Q E) : vs.length = 2 := by obtain ⟨_, _, _, rfl, _⟩ := h; rfl
theorem len_source (h : sp_source D vs H Q E) : vs.length = 2 := by obtain ⟨_, _, _, rfl, _⟩ := h; rfl
theorem len_target (h : sp_target D vs H Q E) : vs.length = 2 := by obtain ⟨_, _, _, rfl, _⟩ := h; rfl
theorem len_touches (h : sp_touches D vs H Q E) : vs.length = 3 := by obtain ⟨_, _, _, _, rfl, _⟩ := h; rfl
theorem len_meet (h : sp_meet D vs H Q E) : vs.length = 3 := by obtain ⟨_, _, _, _, rfl, _⟩ := h; rfl
theorem len_others (h : sp_others D vs H Q E) : vs.length = 1 := by obtain ⟨_, _, rfl, _⟩ := h; rfl
theorem len_made (h : sp_made D vs H Q E) : vs.length = 3 := by obtain ⟨_, _, _, _, rfl, _⟩ := h; rfl
theorem len_meeting_pairs (h : sp_meeting_pairs D vs H Q E) : vs.length = 1 := by obtain ⟨_, _, rfl, _⟩ := h; rfl
theorem len_pair_fits (h : sp_pair_fits D vs H Q E) : vs.length = 3 := by obtain ⟨_, _, _, _, rfl, _⟩ := h; rfl
theorem len_triple_agrees (h : sp_triple_agrees D vs H Q E) : vs.length = 4 := by obtain ⟨_, _, _, _, _, rfl, _⟩ := h; rfl
theorem len_arrows_between (h : sp_arrows_between D vs H Q E) : vs.length = 3 := by obtain ⟨_, _, _, _, rfl, _⟩ := h; rfl
theorem len_is_category (h : sp_is_category D vs H Q E) : vs.length = 1 := by obtain ⟨_, _, rfl, _⟩ := h; rfl
abbrev En (Q : VK) : Ends := { nx := fun _ H' => Q .non H', rt := Q }
theorem pure_has_thing (T : Txt D mg) (h : sp_has_thing D vs H Q E) : t_has_thing D (En Q) (start n_has_thing vs) H := by
  obtain ⟨a, c, x, rfl, hc, k⟩ := h
  exact s_ret (ev_lt (ev_var rfl) (e_things T hc (ev_var rfl))) k
theorem pure_is_own (T : Txt D mg) (h : sp_is_own D vs H Q E) : t_is_own D (En Q) (start n_is_own vs) H := by
  obtain ⟨a, c, x, rfl, hc, k⟩ := h
  exact s_ret (ev_lt (ev_var rfl) (e_things T hc (ev_var rfl))) k
theorem pure_has_arrow (T : Txt D mg) (h : sp_has_arrow D vs H Q E) : t_has_arrow D (En Q) (start n_has_arrow vs) H := by
  obtain ⟨a, c, x, rfl, ⟨⟨e, d, dx, refs, kvs, q⟩, w⟩, k⟩ := h
  have l : (refs.map V.ref).length = c.arrows.length := by rw [List.length_map, q.rl]
  refine s_ret (ev_lt (ev_var rfl) ?_) k
  have := ev_len (K := D.K) (ev_fld (f := "ends") (ev_var (H := H) (σ := start n_has_arrow [V.ref a, kN x]) (i := 0) rfl) q.ob T.cl_Category T.na_ends catF_ends) (sq_of q.le)
  rw [l] at this
  exact this
theorem pure_source (T : Txt D mg) (h : sp_source D vs H Q E) : t_source D (En Q) (start n_source vs) H := by
  obtain ⟨a, c, f, rfl, ⟨⟨e, d, dx, refs, kvs, q⟩, w⟩, hf, k⟩ := h
  have hr : refs[f]? = some (refs[f]'(by rw [q.rl]; exact hf)) := List.getElem?_eq_getElem _
  exact s_ret (ev_ixT (i := 0) (ev_ixL (ev_fld (ev_var rfl) q.ob T.cl_Category T.na_ends catF_ends) (ev_var rfl) q.le (map_get hr)) ev_c (q.rt f _ _ hr (ends_get hf)) rfl) k
theorem pure_target (T : Txt D mg) (h : sp_target D vs H Q E) : t_target D (En Q) (start n_target vs) H := by
  obtain ⟨a, c, f, rfl, ⟨⟨e, d, dx, refs, kvs, q⟩, w⟩, hf, k⟩ := h
  have hr : refs[f]? = some (refs[f]'(by rw [q.rl]; exact hf)) := List.getElem?_eq_getElem _
  exact s_ret (ev_ixT (i := 1) (ev_ixL (ev_fld (ev_var rfl) q.ob T.cl_Category T.na_ends catF_ends) (ev_var rfl) q.le (map_get hr)) ev_c (q.rt f _ _ hr (ends_get hf)) rfl) k
theorem pure_touches (T : Txt D mg) (h : sp_touches D vs H Q E) : t_touches D (En Q) (start n_touches vs) H := by
  obtain ⟨a, c, f, x, rfl, hc, hf, k⟩ := h
  exact s_ret (ev_orV (ev_eq (e_source hc (ev_var rfl) (ev_var rfl) hf) (ev_var rfl)) fun _ => ev_eq (e_target hc (ev_var rfl) (ev_var rfl) hf) (ev_var rfl)) k
theorem pure_meet (T : Txt D mg) (h : sp_meet D vs H Q E) : t_meet D (En Q) (start n_meet vs) H := by
  obtain ⟨a, c, f, g, rfl, hc, hf, hg, k⟩ := h
  exact s_ret (ev_eq (e_target hc (ev_var rfl) (ev_var rfl) hf) (e_source hc (ev_var rfl) (ev_var rfl) hg)) k
theorem rgV_others {c : Fc02.Cat} (W : WC c) : rgV (c.n : Int) (c.arrows.length : Int) = (others c).map kN := by
  unfold rgV
  have e : ((c.arrows.length : Int) - (c.n : Int)).toNat = c.arrows.length - c.n := by have := W.len; omega
  rw [others_eq W, List.map_map, e]
  rfl
theorem pure_others (T : Txt D mg) (h : sp_others D vs H Q E) : t_others D (En Q) (start n_others vs) H := by
  obtain ⟨a, c, rfl, hc, k⟩ := h
  obtain ⟨⟨e, d, dx, refs, kvs, q⟩, w⟩ := id hc
  have l : (refs.map V.ref).length = c.arrows.length := by rw [List.length_map, q.rl]
  have z := ev_len (K := D.K) (ev_fld (f := "ends") (ev_var (H := H) (σ := start n_others [V.ref a]) (i := 0) rfl) q.ob T.cl_Category T.na_ends catF_ends) (sq_of q.le)
  rw [l] at z
  have y := el_rg (e_things T hc (ev_var (H := H) (σ := start n_others [V.ref a]) (i := 0) rfl)) z (RgOk.of_le (by omega) (by have := w.len9; omega) (by have := w.n3; omega) (by omega))
  rw [rgV_others w] at y
  exact s_retL y k
theorem pure_made (T : Txt D mg) (h : sp_made D vs H Q E) : t_made D (En Q) (start n_made vs) H := by
  obtain ⟨a, c, f, g, rfl, hc, k⟩ := h
  refine q_when (et_B (e_is_own hc (ev_var rfl) (ev_var rfl))) (fun hb H1 e1 => ?_) (fun hb H1 e1 => ?_)
  · have hf : f < c.n := of_decide_eq_true hb
    have e : made c f g = some g := by unfold made; rw [if_pos hf]
    rw [e] at k
    exact s_ret (ev_var rfl) fun H2 e2 => k H2 (e1.trans e2)
  · have hf : ¬ f < c.n := of_decide_eq_false hb
    refine q_when (et_B (e_is_own (hc.mono e1) (ev_var rfl) (ev_var rfl))) (fun hb2 H2 e2 => ?_) (fun hb2 H2 e2 => ?_)
    · have hg : g < c.n := of_decide_eq_true hb2
      have e : made c f g = some f := by unfold made; rw [if_neg hf, if_pos hg]
      rw [e] at k
      exact s_ret (ev_var rfl) fun H3 e3 => k H3 ((e1.trans e2).trans e3)
    · have hg : ¬ g < c.n := of_decide_eq_false hb2
      obtain ⟨⟨e, d, dx, refs, kvs, q⟩, w⟩ := hc.mono (e1.trans e2)
      have z := ev_dget1 (f := f) (g := g) (ev_fld (f := "told") (ev_var (H := H2) (σ := start n_made [V.ref a, kN f, kN g]) (i := 0) rfl) q.ob T.cl_Category T.na_told catF_told) (eu_tup (ea_cons (ev_var (i := 1) rfl) (ea_cons (ev_var (i := 2) rfl) ea_nil)) (by show 2 ≤ 100000; decide)) q.di
      rw [q.dv f g] at z
      have e : (Option.map kN (told c f g)).getD V.non = optV (made c f g) := by
        unfold made
        rw [if_neg hf, if_neg hg]
        cases told c f g <;> rfl
      rw [e] at z
      exact s_ret z fun H3 e3 => k H3 ((e1.trans e2).trans e3)
theorem pure_pair_fits (T : Txt D mg) (h : sp_pair_fits D vs H Q E) : t_pair_fits D (En Q) (start n_pair_fits vs) H := by
  obtain ⟨a, c, f, g, rfl, hc, hf, hg, k⟩ := h
  refine q_asg (e_made hc (ev_var rfl) (ev_var rfl) (ev_var rfl)) fun H1 e1 => ?_
  cases m : made c f g with
  | none =>
    have e : fits c f g = false := by unfold fits; rw [m]
    rw [e] at k
    refine q_when (b := true) (et_test (ev_op (ev_var rfl) ev_c fun H1 _ _ q => ⟨rfl, q H1 (Ex.refl H1)⟩)) (fun hb H2 e2 => ?_) (fun hb H2 e2 => nomatch hb)
    exact s_ret ev_c fun H3 e3 => k H3 ((e1.trans e2).trans e3)
  | some h =>
    have hh := made_lt hc.2 hf hg m
    have e : fits c f g = (decide (Fc02.from_ c h = Fc02.from_ c f) && decide (Fc02.to_ c h = Fc02.to_ c g)) := by unfold fits; rw [m]; rfl
    rw [e] at k
    refine q_when (b := false) (et_test (ev_op (ev_var rfl) ev_c fun H1 _ _ q => ⟨rfl, q H1 (Ex.refl H1)⟩)) (fun hb H2 e2 => nomatch hb) (fun hb H2 e2 => ?_)
    have hc := hc.mono (e1.trans e2)
    exact s_ret (ev_andV (ev_eq (e_source hc (ev_var rfl) (ev_var rfl) hh) (e_source hc (ev_var rfl) (ev_var rfl) hf)) fun _ => ev_eq (e_target hc (ev_var rfl) (ev_var rfl) hh) (e_target hc (ev_var rfl) (ev_var rfl) hg)) fun H3 e3 => k H3 ((e1.trans e2).trans e3)
theorem scal_opt (x y : Option Nat) : scal (optV x) (optV y) = true := by cases x <;> cases y <;> rfl
theorem dec_opt (x y : Option Nat) : decide (optV x = optV y) = (x == y) := by
  cases x with
  | none => cases y with
    | none => rfl
    | some b => rfl
  | some a => cases y with
    | none => rfl
    | some b =>
      show decide (kN a = kN b) = _
      rw [dec_kN]
      rfl
theorem pure_triple_agrees (T : Txt D mg) (h : sp_triple_agrees D vs H Q E) : t_triple_agrees D (En Q) (start n_triple_agrees vs) H := by
  obtain ⟨a, c, f, g, h, rfl, hc, m1, m2, k⟩ := h
  obtain ⟨p, hp⟩ := Option.isSome_iff_exists.mp m1
  obtain ⟨q, hq⟩ := Option.isSome_iff_exists.mp m2
  have e : agrees c f g h = (made c p h == made c f q) := by unfold agrees; rw [hp, hq]
  rw [e, ← dec_opt] at k
  have z1 : ∀ {H1 : Hp} {σ : L2.St}, CatAt D H1 a c → σ[0]? = some (some (V.ref a)) → σ[1]? = some (some (kN f)) → σ[2]? = some (some (kN g)) → Ev (tMeth D.cC "made" (sp_made D) [] C8.E0 (tVar 0) (tCons (tVar 1) (tCons (tVar 2) tNil))) σ H1 (kN p) := fun hc s0 s1 s2 => by
    have := e_made hc (ev_var s0) (ev_var s1) (ev_var s2)
    rw [hp] at this
    exact this
  have z2 : ∀ {H1 : Hp} {σ : L2.St}, CatAt D H1 a c → σ[0]? = some (some (V.ref a)) → σ[2]? = some (some (kN g)) → σ[3]? = some (some (kN h)) → Ev (tMeth D.cC "made" (sp_made D) [] C8.E0 (tVar 0) (tCons (tVar 2) (tCons (tVar 3) tNil))) σ H1 (kN q) := fun hc s0 s1 s2 => by
    have := e_made hc (ev_var s0) (ev_var s1) (ev_var s2)
    rw [hq] at this
    exact this
  refine q_asg (e_made hc (ev_var rfl) (z1 hc rfl rfl rfl) (ev_var rfl)) fun H1 e1 => ?_
  refine q_asg (e_made (hc.mono e1) (ev_var rfl) (ev_var rfl) (z2 (hc.mono e1) rfl rfl rfl)) fun H2 e2 => ?_
  exact s_ret (ev_op (ev_var rfl) (ev_var rfl) (rv_eq (scal_opt _ _))) fun H3 e3 => k H3 ((e1.trans e2).trans e3)
theorem given_eq {α : Type} (l : List α) (d : α) (P : α → Bool) (f : Nat → Bool) (g : α → V) (h : ∀ i x, l[i]? = some x → f i = P x) : given l.length f (fun i => g (l.getD i d)) = (l.filter P).map g := by
  unfold given
  rw [← filter_range l P f h d, List.map_map]
  rfl
theorem given_all {α : Type} (l : List α) (f : Nat → Bool) (v : Nat → V) (g : α → V) (hf : ∀ i x, l[i]? = some x → f i = true) (h : ∀ i x, l[i]? = some x → v i = g x) : given l.length f v = l.map g := by
  unfold given
  have e : (List.range l.length).filter f = List.range l.length := List.filter_eq_self.mpr fun i hi => hf i _ (List.getElem?_eq_getElem (List.mem_range.mp hi))
  rw [e]
  exact map_range l g v h
theorem pure_arrows_between (T : Txt D mg) (h : sp_arrows_between D vs H Q E) : t_arrows_between D (En Q) (start n_arrows_between vs) H := by
  obtain ⟨a, c, x, y, rfl, hc, k⟩ := h
  obtain ⟨⟨e, d, dx, refs, kvs, q⟩, w⟩ := id hc
  have l9 := w.len9
  have rl : (refs.map V.ref).length = c.arrows.length := by rw [List.length_map, q.rl]
  refine t_lc (wi := iEnum D.K (tCons (tFld D.K (tVar 0) "ends") tNil)) ?_
  refine ev_fld (f := "ends") (ev_var (i := 0) rfl) q.ob T.cl_Category T.na_ends catF_ends H (Ex.refl _) _ fun H1 e1 => ⟨e, _, rfl, sq_of (e1 _ _ q.le), ?_⟩
  refine lcE_given (fun i => decide (c.arrows.getD i (0, 0) = (x, y))) (fun i => kN i) (sq_of (e1 _ _ q.le)) (by rw [rl]; omega) (fun _ _ => rfl) (fun i v H2 e2 hv => ?_) (fun i v H2 e2 hv _ => ev_var rfl) ?_
  · obtain ⟨r, hr, rfl⟩ := map_get_inv hv
    have il := (List.getElem?_eq_some_iff.mp hr).1
    rw [q.rl] at il
    have hp : c.arrows[i]? = some (c.arrows.getD i (0, 0)) := by rw [List.getD_eq_getElem?_getD, List.getElem?_eq_getElem il]; rfl
    have ht := (e1.trans e2) _ _ (q.rt i r _ hr hp)
    generalize c.arrows.getD i (0, 0) = p at ht
    refine et_test (ev_opU (ev_var rfl) (eu_tup (ea_cons (x := kN x) (ev_var rfl) (ea_cons (x := kN y) (ev_var rfl) ea_nil)) (by show 2 ≤ 100000; decide)) fun u H3 h3 e3 => ?_)
    have z := rv_eqT (K := D.K) (l := [(p.1 : Int), (p.2 : Int)]) (m := [(x : Int), (y : Int)]) (e3 _ _ ht) h3
    have eq : decide ([(p.1 : Int), (p.2 : Int)] = [(x : Int), (y : Int)]) = decide (p = (x, y)) := by
      rw [Bool.eq_iff_iff, decide_eq_true_iff, decide_eq_true_iff]
      obtain ⟨p1, p2⟩ := p
      simp
      omega
    rw [eq] at z
    exact z
  · rw [rl]
    have g : given c.arrows.length (fun i => decide (c.arrows.getD i (0, 0) = (x, y))) (fun i => kN i) = (Fc02.hom c x y).map kN := by
      unfold given
      rw [hom_given c x y (fun i => decide (c.arrows.getD i (0, 0) = (x, y))) fun i p hp => by rw [List.getD_eq_getElem?_getD, hp]; rfl]
    rw [g]
    exact fun p H2 hp e2 h2 => k.go e1 hp e2 h2
end
end AR
set_option Elab.async false
set_option linter.all false
set_option maxRecDepth 100000
set_option maxHeartbeats 4000000
/-! Promise gives reading: pairs that meet, whether it is a category, a new category. -/
namespace AR
open PySem PySem.Spec PyProof.Rows L2 Evl
/-- a write to a list leaves the tuples -/
theorem Pts.tup_upd {H : Hp} {refs : List Addr} {xs : List (List V)} {p : Addr} {ys : List V} {o : HO} (h : Pts H .tup refs xs) (hp : H p = some (.lst ys)) : Pts (upd H p o) .tup refs xs :=
  ⟨h.1, fun i r x h1 h2 => by
    have q := h.2 i r x h1 h2
    have n : r ≠ p := fun z => by rw [z, hp] at q; cases q
    rw [upd_ne n]
    exact q⟩
theorem take_succ_of {α : Type} {l : List α} {i : Nat} {x : α} (h : l[i]? = some x) : l.take (i + 1) = l.take i ++ [x] := by
  obtain ⟨h1, h2⟩ := List.getElem?_eq_some_iff.mp h
  rw [List.take_succ, h]
  rfl
theorem mem_take_of {α : Type} {l : List α} {i : Nat} {x : α} (h : l[i]? = some x) : x ∈ l := List.mem_of_getElem? h
section
variable {D : Ad} {mg : Str → Option Value} {vs : List V} {H : Hp} {Q : VK} {E : XK}
/-- the inner part of pairs -/
def pairsAt (c : Fc02.Cat) (f : Nat) (l : List Nat) : List (Nat × Nat) := (l.filter (meet c f)).map fun g => (f, g)
theorem pairsAt_yes {c : Fc02.Cat} {f g : Nat} {l : List Nat} (h : meet c f g = true) : pairsAt c f (l ++ [g]) = pairsAt c f l ++ [(f, g)] := by
  unfold pairsAt
  rw [List.filter_append, List.map_append, List.filter_cons, if_pos h]
  rfl
theorem pairsAt_no {c : Fc02.Cat} {f g : Nat} {l : List Nat} (h : meet c f g = false) : pairsAt c f (l ++ [g]) = pairsAt c f l := by
  unfold pairsAt
  rw [List.filter_append, List.map_append, List.filter_cons, if_neg (by rw [h]; decide)]
  simp
theorem others_len {c : Fc02.Cat} (W : WC c) : (others c).length ≤ 9 := by
  have := W.len9
  unfold others Fc02.all
  have q := List.length_filter_le (fun f => decide (c.n ≤ f)) (List.range c.arrows.length)
  rw [List.length_range] at q
  omega
theorem pairsAt_len (c : Fc02.Cat) (f : Nat) (l : List Nat) : (pairsAt c f l).length ≤ l.length := by
  unfold pairsAt
  rw [List.length_map]
  exact List.length_filter_le _ _
theorem pairs_take_len {c : Fc02.Cat} (l : List Nat) : (l.flatMap fun f => pairsAt c f (others c)).length ≤ l.length * (others c).length := by
  induction l with
  | nil => simp
  | cons f l ih =>
    rw [List.flatMap_cons, List.length_append, List.length_cons, Nat.add_mul, Nat.one_mul]
    have := pairsAt_len c f (others c)
    omega
theorem pure_meeting_pairs (T : Txt D mg) (h : sp_meeting_pairs D vs H Q E) : t_meeting_pairs D (En Q) (start n_meeting_pairs vs) H := by
  obtain ⟨a, c, rfl, hc, k⟩ := h
  have ol := others_len hc.2
  refine q_asgL (el_lst ea_nil (Nat.zero_le _)) fun p H1 hp e1 h1 => ?_
  refine q_forNL (K := D.K) (e_others (hc.mono e1) (ev_var rfl)) (fun q i σ' H' => ∃ v3 v4 refs, σ' = [some (.ref a), some (.ref p), v3, v4] ∧ Ex H H' ∧ q ≠ p ∧ H' q = some (.lst ((others c).map kN)) ∧ H' p = some (.lst (refs.map V.ref)) ∧ Pts H' .tup refs ((((others c).take i).flatMap fun f => pairsAt c f (others c)).map pairV)) ?_ ?_ ?_ ?_
  · intro q H2 hq e2 h2
    exact ⟨none, none, [], rfl, e1.trans e2, fun z => (by rw [z, h1] at hq; cases hq), h2, e2 _ _ h1, Pts.nil⟩
  · rintro q i σ' H' _ ⟨v3, v4, refs, rfl, _, _, hq, _⟩
    exact sq_of hq
  · rintro q i x σ' H' hx ⟨v3, v4, refs, rfl, ex, nq, hq, hl, hP⟩
    obtain ⟨f, hf, rfl⟩ := map_get_inv hx
    have fl := (mem_others.mp (mem_take_of hf)).2
    have il := (List.getElem?_eq_some_iff.mp hf).1
    refine s_forNL (K := D.K) (e_others (hc.mono ex) (ev_var rfl)) (fun q2 j σ2 H2 => ∃ v4 refs, σ2 = [some (.ref a), some (.ref p), some (kN f), v4] ∧ Ex H H2 ∧ q2 ≠ p ∧ H2 q2 = some (.lst ((others c).map kN)) ∧ H2 q = some (.lst ((others c).map kN)) ∧ H2 p = some (.lst (refs.map V.ref)) ∧ Pts H2 .tup refs (((((others c).take i).flatMap fun f => pairsAt c f (others c)) ++ pairsAt c f ((others c).take j)).map pairV)) ?_ ?_ ?_ ?_
    · intro q2 H2 hq2 e2 h2
      refine ⟨v4, refs, rfl, ex.trans e2, fun z => (by rw [z, hl] at hq2; cases hq2), h2, e2 _ _ hq, e2 _ _ hl, ?_⟩
      have z : pairsAt c f ((others c).take 0) = [] := rfl
      rw [z, List.append_nil]
      exact hP.mono e2
    · rintro q2 j σ2 H2 _ ⟨v4, refs, rfl, _, _, hq2, _⟩
      exact sq_of hq2
    · rintro q2 j y σ2 H2 hy ⟨v4, refs, rfl, ex2, nq2, hq2, hqq, hl2, hP2⟩
      obtain ⟨g, hg, rfl⟩ := map_get_inv hy
      have gl := (mem_others.mp (mem_take_of hg)).2
      have jl := (List.getElem?_eq_some_iff.mp hg).1
      refine s_when (et_B (e_meet (hc.mono ex2) (ev_var rfl) (ev_var rfl) (ev_var rfl) fl gl)) (fun hb H3 e3 => ?_) (fun hb H3 e3 => ?_)
      · have sz : (refs.map V.ref).length < 100000 := by
          rw [List.length_map, hP2.1, List.length_map, List.length_append]
          have a1 := pairs_take_len (c := c) ((others c).take i)
          have a2 := pairsAt_len c f ((others c).take j)
          rw [List.length_take] at a1 a2
          have a3 : min i (others c).length * (others c).length ≤ 9 * 9 := Nat.mul_le_mul (by omega) ol
          omega
        refine s_appU (e3 _ _ hl2) (ev_var rfl) (eu_tup (ea_cons (ev_var (i := 2) rfl) (ea_cons (ev_var (i := 3) rfl) ea_nil)) (by show 2 ≤ 100000; decide)) sz fun r H4 hr e4 h4 => ?_
        have hl4 := e4 _ _ (e3 _ _ hl2)
        have rp : r ≠ p := fun z => by rw [z] at h4; rw [hl4] at h4; cases h4
        refine ⟨some (kN g), refs ++ [r], rfl, Ex.mut ((ex2.trans e3).trans e4) hp, nq2, ?_, ?_, ?_, ?_⟩
        · rw [upd_ne nq2]; exact e4 _ _ (e3 _ _ hq2)
        · rw [upd_ne nq]; exact e4 _ _ (e3 _ _ hqq)
        · rw [List.map_append]; exact upd_same
        · rw [take_succ_of hg, pairsAt_yes hb, ← List.append_assoc, List.map_append]
          refine Pts.snoc (((hP2.mono e3).mono e4).tup_upd hl4) ?_
          rw [upd_ne rp]
          exact h4
      · refine ⟨some (kN g), refs, rfl, ex2.trans e3, nq2, e3 _ _ hq2, e3 _ _ hqq, e3 _ _ hl2, ?_⟩
        rw [take_succ_of hg, pairsAt_no hb]
        exact hP2.mono e3
    · rintro q2 σ2 H2 ⟨v4, refs, rfl, ex2, nq2, hq2, hqq, hl2, hP2⟩
      rw [List.length_map, List.take_length] at hP2
      refine ⟨some (kN f), v4, refs, rfl, ex2, nq, hqq, hl2, ?_⟩
      rw [take_succ_of hf, List.flatMap_append]
      have z : ([f] : List Nat).flatMap (fun f => pairsAt c f (others c)) = pairsAt c f (others c) := by simp
      rw [z]
      exact hP2
  · rintro q σ' H' ⟨v3, v4, refs, rfl, ex, nq, hq, hl, hP⟩
    rw [List.length_map, List.take_length] at hP
    exact s_ret (ev_var rfl) fun H2 e2 => k.go (Ex.refl _) hp (ex.trans e2) (e2 _ _ hl) (hP.mono e2)
/-- a new list of tuples, as a value -/
theorem q_pairs {D : Ad} {H : Hp} {a : Addr} {c : Fc02.Cat} {σ : L2.St} {ta : TE} {R : VK} (hc : CatAt D H a c) (ho : Ev ta σ H (.ref a)) (hR : ∀ p H2 refs, H p = none → Ex H H2 → H2 p = some (.lst (refs.map V.ref)) → Pts H2 .tup refs ((pairs c).map pairV) → R (.ref p) H2) :
    tCall (sp_meeting_pairs D) [] C8.E0 (tCons ta tNil) σ H R :=
  ho H (Ex.refl H) _ fun H1 e1 => ⟨a, c, rfl, hc.mono e1, fun p H2 refs hp e h1 h2 => hR p H2 refs (fresh_back e1 hp) (e1.trans e) h1 h2⟩
theorem cat_false1 {c : Fc02.Cat} (W : WC c) {p : Nat × Nat} (hp : p ∈ pairs c) (h : fits c p.1 p.2 = false) : Fc02.isCat c = false := by
  rw [← isCatM_eq W]
  unfold isCatM
  rw [Bool.and_eq_false_iff]
  left
  cases q : (pairs c).all fun p => fits c p.1 p.2 with
  | false => rfl
  | true => 
    have := List.all_eq_true.mp q p hp
    rw [h] at this
    cases this
theorem cat_false2 {c : Fc02.Cat} (W : WC c) {p : Nat × Nat} {k : Nat} (hp : p ∈ pairs c) (hk : k ∈ others c) (hm : meet c p.2 k = true) (h : agrees c p.1 p.2 k = false) : Fc02.isCat c = false := by
  rw [← isCatM_eq W]
  unfold isCatM
  rw [Bool.and_eq_false_iff]
  right
  cases q : (pairs c).all fun p => (others c).all fun h => !meet c p.2 h || agrees c p.1 p.2 h with
  | false => rfl
  | true =>
    have := List.all_eq_true.mp (List.all_eq_true.mp q p hp) k hk
    rw [hm, h] at this
    cases this
theorem cat_true {c : Fc02.Cat} (W : WC c) (h1 : ∀ p, p ∈ pairs c → fits c p.1 p.2 = true) (h2 : ∀ p, p ∈ pairs c → ∀ k, k ∈ others c → meet c p.2 k = true → agrees c p.1 p.2 k = true) : Fc02.isCat c = true := by
  rw [← isCatM_eq W]
  unfold isCatM
  rw [Bool.and_eq_true]
  refine ⟨List.all_eq_true.mpr h1, List.all_eq_true.mpr fun p hp => List.all_eq_true.mpr fun k hk => ?_⟩
  cases m : meet c p.2 k with
  | false => rfl
  | true => rw [h2 p hp k hk m]; rfl
theorem g_pair {D : Ad} {H : Hp} {σ : L2.St} {r : Addr} {u v : V} {i j : Nat} {R : L2.St → Hp → Prop} (h : H r = some (.tup [u, v])) (hR : R ((σ.set i (some u)).set j (some v)) H) : gTup D.K 2 (gCons (gName i) (gCons (gName j) gNil)) (.ref r) σ H R :=
  ⟨r, [u, v], rfl, st_of h, rfl, u, [v], rfl, v, [], rfl, rfl, hR⟩
theorem pure_is_category (T : Txt D mg) (h : sp_is_category D vs H Q E) : t_is_category D (En Q) (start n_is_category vs) H := by
  obtain ⟨a, c, rfl, hc, k⟩ := h
  have W := hc.2
  refine q_pairs hc (ev_var rfl) fun p H1 refs hp e1 h1 hP => ?_
  refine q_forL (K := D.K) (ev_var rfl) (sq_of h1) (fun i σ' H' => ∃ v2 v3, σ' = [some (.ref a), some (.ref p), v2, v3, none] ∧ Ex H1 H' ∧ ∀ j q, j < i → (pairs c)[j]? = some q → fits c q.1 q.2 = true) ?_ ?_ ?_ ?_
  · intro H2 e2
    exact ⟨none, none, rfl, e2, fun j q hj => by omega⟩
  · rintro i σ' H' _ ⟨v2, v3, rfl, e2, _⟩
    exact sq_of (e2 _ _ h1)
  · rintro i x σ' H' hx ⟨v2, v3, rfl, e2, hi⟩
    obtain ⟨r, hr, rfl⟩ := map_get_inv hx
    have il := (List.getElem?_eq_some_iff.mp hr).1
    rw [hP.1, List.length_map] at il
    obtain ⟨⟨f, g⟩, hq⟩ : ∃ q, (pairs c)[i]? = some q := ⟨_, List.getElem?_eq_getElem il⟩
    have hm := mem_pairs.mp (mem_take_of hq)
    have fl := (mem_others.mp hm.1).2
    have gl := (mem_others.mp hm.2.1).2
    have ht : H' r = some (.tup (pairV (f, g))) := e2 _ _ (hP.2 i r _ hr (by rw [List.getElem?_map, hq]; rfl))
    refine g_pair ht ?_
    have hc' := hc.mono (e1.trans e2)
    refine s_when (et_not (et_B (e_pair_fits hc' (ev_var rfl) (ev_var rfl) (ev_var rfl) fl gl))) (fun hb H3 e3 => ?_) (fun hb H3 e3 => ?_)
    · have z : fits c f g = false := by simpa using hb
      rw [cat_false1 W (mem_take_of hq) z] at k
      exact s_ret ev_c fun H4 e4 => k H4 (((e1.trans e2).trans e3).trans e4)
    · have z : fits c f g = true := by simpa using hb
      refine ⟨some (kN f), some (kN g), rfl, e2.trans e3, fun j q hj hjq => ?_⟩
      by_cases e : j = i
      · subst e
        rw [hq] at hjq
        cases hjq
        exact z
      · exact hi j q (by omega) hjq
  · rintro σ' H' ⟨v2, v3, rfl, e2, hall⟩
    rw [List.length_map, hP.1, List.length_map] at hall
    have fitp : ∀ q, q ∈ pairs c → fits c q.1 q.2 = true := fun q hq => by
      obtain ⟨j, hj, e⟩ := List.getElem_of_mem hq
      exact hall j q hj (by rw [List.getElem?_eq_getElem hj, e])
    have F := fit_of W (List.all_eq_true.mpr fitp)
    refine q_forL (K := D.K) (ev_var rfl) (sq_of (e2 _ _ h1)) (fun i σ' H' => ∃ v2 v3 v4, σ' = [some (.ref a), some (.ref p), v2, v3, v4] ∧ Ex H1 H' ∧ ∀ j q, j < i → (pairs c)[j]? = some q → ∀ k, k ∈ others c → meet c q.2 k = true → agrees c q.1 q.2 k = true) ?_ ?_ ?_ ?_
    · intro H2 e3
      exact ⟨v2, v3, none, rfl, e2.trans e3, fun j q hj => by omega⟩
    · rintro i σ' H' _ ⟨v2, v3, v4, rfl, e2, _⟩
      exact sq_of (e2 _ _ h1)
    · rintro i x σ' H3 hx ⟨v2, v3, v4, rfl, e3, hi⟩
      obtain ⟨r, hr, rfl⟩ := map_get_inv hx
      have il := (List.getElem?_eq_some_iff.mp hr).1
      rw [hP.1, List.length_map] at il
      obtain ⟨⟨f, g⟩, hq⟩ : ∃ q, (pairs c)[i]? = some q := ⟨_, List.getElem?_eq_getElem il⟩
      have hm := mem_pairs.mp (mem_take_of hq)
      have fl := (mem_others.mp hm.1).2
      have gl := (mem_others.mp hm.2.1).2
      have ht : H3 r = some (.tup (pairV (f, g))) := e3 _ _ (hP.2 i r _ hr (by rw [List.getElem?_map, hq]; rfl))
      refine g_pair ht ?_
      have hc3 := hc.mono (e1.trans e3)
      refine s_forNL (K := D.K) (e_others hc3 (ev_var rfl)) (fun q2 j σ2 H2 => ∃ v4, σ2 = [some (.ref a), some (.ref p), some (kN f), some (kN g), v4] ∧ Ex H3 H2 ∧ H2 q2 = some (.lst ((others c).map kN)) ∧ ∀ m y, m < j → (others c)[m]? = some y → meet c g y = true → agrees c f g y = true) ?_ ?_ ?_ ?_
      · intro q2 H2 hq2 e4 h2
        exact ⟨v4, rfl, e4, h2, fun m y hm => by omega⟩
      · rintro q2 j σ2 H2 _ ⟨v4, rfl, _, hq2, _⟩
        exact sq_of hq2
      · rintro q2 j y σ2 H2 hy ⟨v4, rfl, e4, hq2, hj⟩
        obtain ⟨z, hz, rfl⟩ := map_get_inv hy
        have zl := (mem_others.mp (mem_take_of hz)).2
        have hc2 := hc3.mono e4
        have m1 : (made c f g).isSome = true := by
          obtain ⟨u, hu, _⟩ := F f g fl gl hm.2.2
          rw [hu]; rfl
        have m2 : meet c g z = true → (made c g z).isSome = true := fun m => by
          obtain ⟨u, hu, _⟩ := F g z gl zl (by simpa [meet] using m)
          rw [hu]; rfl
        refine s_when (b := meet c g z && !agrees c f g z) (et_and (et_B (e_meet hc2 (ev_var rfl) (ev_var rfl) (ev_var rfl) gl zl)) fun m => et_not (et_B (e_triple hc2 (ev_var rfl) (ev_var rfl) (ev_var rfl) (ev_var rfl) m1 (m2 m)))) (fun hb H4 e5 => ?_) (fun hb H4 e5 => ?_)
        · rw [Bool.and_eq_true] at hb
          have z3 : agrees c f g z = false := by simpa using hb.2
          rw [cat_false2 W (mem_take_of hq) (mem_take_of hz) hb.1 z3] at k
          exact s_ret ev_c fun H5 e6 => k H5 ((((e1.trans e3).trans e4).trans e5).trans e6)
        · refine ⟨some (kN z), rfl, e4.trans e5, e5 _ _ hq2, fun m y hm hmy hmt => ?_⟩
          by_cases e : m = j
          · subst e
            rw [hz] at hmy
            cases hmy
            rw [hmt] at hb
            simpa using hb
          · exact hj m y (by omega) hmy hmt
      · rintro q2 σ2 H2 ⟨v4, rfl, e4, hq2, hj⟩
        rw [List.length_map] at hj
        refine ⟨some (kN f), some (kN g), v4, rfl, e3.trans e4, fun j q hjl hjq kk hk hmt => ?_⟩
        by_cases e : j = i
        · subst e
          rw [hq] at hjq
          cases hjq
          obtain ⟨m, hml, e⟩ := List.getElem_of_mem hk
          exact hj m kk hml (by rw [List.getElem?_eq_getElem hml, e]) hmt
        · exact hi j q (by omega) hjq kk hk hmt
    · rintro σ' H3 ⟨v2, v3, v4, rfl, e3, hag⟩
      rw [List.length_map, hP.1, List.length_map] at hag
      rw [cat_true W fitp fun q hq => by
        obtain ⟨j, hj, e⟩ := List.getElem_of_mem hq
        exact hag j q hj (by rw [List.getElem?_eq_getElem hj, e])] at k
      exact s_ret ev_c fun H5 e6 => k H5 ((e1.trans e3).trans e6)
end
end AR
set_option Elab.async false
set_option linter.all false
set_option maxRecDepth 100000
set_option maxHeartbeats 4000000
/-! New lists of new objects; a new category. -/
namespace AR
open PySem PySem.Spec PyProof.Rows L2 Evl
theorem Pts.upd_ne {H : Hp} {o : List V → HO} {refs : List Addr} {xs : List (List V)} {p : Addr} {u : HO} (h : Pts H o refs xs) (hn : p ∉ refs) : Pts (upd H p u) o refs xs :=
  ⟨h.1, fun i r x h1 h2 => by
    have n : r ≠ p := fun z => hn (z ▸ List.mem_of_getElem? h1)
    rw [L2.upd_ne n]
    exact h.2 i r x h1 h2⟩
theorem Pts.mem_some {H : Hp} {o : List V → HO} {refs : List Addr} {xs : List (List V)} {r : Addr} (h : Pts H o refs xs) (hr : r ∈ refs) : ∃ u, H r = some u := by
  obtain ⟨i, hi, e⟩ := List.getElem_of_mem hr
  have hx : i < xs.length := by rw [← h.1]; exact hi
  exact ⟨_, h.2 i r _ (by rw [List.getElem?_eq_getElem hi, e]) (List.getElem?_eq_getElem hx)⟩
/-- a new object -/
def EvN (te : TE) (σ : L2.St) (H : Hp) (u : HO) : Prop := ∀ H1, Ex H H1 → ∀ Q : VK, (∀ r H2, H1 r = none → Ex H1 H2 → H2 r = some u → Q (.ref r) H2) → te σ H1 Q
/-- a new list of new objects -/
structure NewL (H H2 : Hp) (o : List V → HO) (xs : List (List V)) (p : Addr) (refs : List Addr) : Prop where
  ex : Ex H H2
  at_ : H2 p = some (.lst (refs.map V.ref))
  pts : Pts H2 o refs xs
  new : ∀ r, r ∈ p :: refs → H r = none
  nd : (p :: refs).Nodup
theorem NewL.start {H : Hp} {o : List V → HO} {p : Addr} (hp : H p = none) : NewL H (upd H p (.lst [])) o [] p [] :=
  ⟨Ex.new hp, upd_same, Pts.nil, fun r h => by rw [List.mem_singleton.mp h]; exact hp, by simp⟩
theorem NewL.grow {H H2 H3 : Hp} {o : List V → HO} {xs : List (List V)} {p r : Addr} {refs : List Addr} {x : List V} (h : NewL H H2 o xs p refs) (hr : H2 r = none) (e : Ex H2 H3) (h3 : H3 r = some (o x)) :
    NewL H (upd H3 p (.lst ((refs ++ [r]).map V.ref))) o (xs ++ [x]) p (refs ++ [r]) := by
  have hp : H p = none := h.new p List.mem_cons_self
  have rp : r ≠ p := fun z => by rw [z, h.at_] at hr; cases hr
  have rn : r ∉ refs := fun z => by obtain ⟨u, q⟩ := h.pts.mem_some z; rw [q] at hr; cases hr
  have pn : p ∉ refs := (List.nodup_cons.mp h.nd).1
  refine ⟨Ex.mut (h.ex.trans e) hp, upd_same, Pts.upd_ne ((h.pts.mono e).snoc h3) ?_, ?_, ?_⟩
  · rw [List.mem_append, List.mem_singleton]
    rintro (q | q)
    · exact pn q
    · exact rp q.symm
  · intro z hz
    rcases List.mem_cons.mp hz with q | q
    · rw [q]; exact hp
    · rcases List.mem_append.mp q with q | q
      · exact h.new z (List.mem_cons_of_mem _ q)
      · rw [List.mem_singleton.mp q]
        exact fresh_back h.ex hr
  · refine List.nodup_cons.mpr ⟨?_, ?_⟩
    · rw [List.mem_append, List.mem_singleton]
      rintro (q | q)
      · exact pn q
      · exact rp q.symm
    · refine List.nodup_append.mpr ⟨(List.nodup_cons.mp h.nd).2, by simp, ?_⟩
      intro u hu v hv e
      rw [List.mem_singleton.mp hv] at e
      subst e
      exact rn hu
section
variable {K : PySem.W.Frag} {σ : L2.St} {H : Hp} {te tl : TE} {ta : TA} {j : Nat} {o : List V → HO}
/-- [e for x in range(n)], e a new object -/
theorem lcR_new {vs : List Nat} {n : Nat} {xs : Nat → List V} {Q : VK} (h : EvA ta σ H [kN n]) (hn : n ≤ 100000) (hw : ∀ x, wipe ((wipe σ vs).set j (some x)) vs = wipe σ vs)
    (he : ∀ (i : Nat) H1, Ex H H1 → i < n → EvN te ((wipe σ vs).set j (some (kN i))) H1 (o (xs i)))
    (hQ : ∀ p H2 refs, NewL H H2 o ((List.range n).map xs) p refs → Q (.ref p) H2) : tLc (iRng1 ta) (gName j) tYes te vs σ H Q :=
  h H (Ex.refl H) _ fun H1 e1 => ⟨(n : Int), rfl, by omega, by omega, fun Dl hD =>
    lc_range (lo := 0) (n := ((n : Nat) : Int).toNat) (fun i H' => ∃ refs, NewL H1 H' o ((List.range i).map xs) Dl refs) ⟨[], NewL.start hD⟩ (fun i H' hi ⟨refs, N⟩ => by
      have e0 : (0 : Int) + (i : Int) = (i : Int) := Int.zero_add _
      have hi : i < n := by omega
      show wipe ((wipe σ vs).set j (some (.int ((0 : Int) + (i : Int))))) vs = wipe σ vs ∧ _
      rw [e0]
      refine ⟨hw _, ?_⟩
      show te ((wipe σ vs).set j (some (.int (i : Int)))) H' _
      refine he i H' (e1.trans N.ex) hi H' (Ex.refl _) _ fun r H3 hr e3 h3 => ⟨refs.map V.ref, e3 _ _ N.at_, ?_, refs ++ [r], ?_⟩
      · rw [List.length_map, N.pts.1, List.length_map, List.length_range]
        exact sz_lt (by omega)
      · have G := N.grow hr e3 h3
        rw [List.range_succ, List.map_append]
        rw [List.map_append] at G
        exact G) (fun H' ⟨refs, N⟩ => hQ Dl H' refs (by
      have e : (((n : Nat) : Int)).toNat = n := by omega
      rw [e] at N
      exact ⟨e1.trans N.ex, N.at_, N.pts, fun r hr => fresh_back e1 (N.new r hr), N.nd⟩))⟩
/-- [e for x in l], e a new object -/
theorem lcL_new {vs : List Nat} {a : Addr} {ys : List V} {xs : Nat → List V} {Q : VK} (h : Ev tl σ H (.ref a)) (hx : H a = some (.lst ys)) (hz : ys.length ≤ 50000) (hw : ∀ x, wipe ((wipe σ vs).set j (some x)) vs = wipe σ vs)
    (he : ∀ (i : Nat) (y : V) H1, Ex H H1 → ys[i]? = some y → EvN te ((wipe σ vs).set j (some y)) H1 (o (xs i)))
    (hQ : ∀ p H2 refs, NewL H H2 o ((List.range ys.length).map xs) p refs → Q (.ref p) H2) : tLc (iList K tl) (gName j) tYes te vs σ H Q :=
  h H (Ex.refl H) _ fun H1 e1 => ⟨a, rfl, ⟨ys, sq_of (e1 _ _ hx)⟩, fun Dl hD =>
    lc_list (xs := ys) (fun i H' => ∃ refs, NewL H1 H' o ((List.range i).map xs) Dl refs) ⟨[], NewL.start hD⟩ (fun i H' _ ⟨refs, N⟩ => sq_of (N.ex _ _ (e1 _ _ hx))) (fun i y H' hi ⟨refs, N⟩ => by
      have il := (List.getElem?_eq_some_iff.mp hi).1
      refine ⟨hw _, ?_⟩
      show te ((wipe σ vs).set j (some y)) H' _
      refine he i y H' (e1.trans N.ex) hi H' (Ex.refl _) _ fun r H3 hr e3 h3 => ⟨refs.map V.ref, e3 _ _ N.at_, ?_, refs ++ [r], ?_⟩
      · rw [List.length_map, N.pts.1, List.length_map, List.length_range]
        exact sz_lt (by omega)
      · have G := N.grow hr e3 h3
        rw [List.range_succ, List.map_append]
        rw [List.map_append] at G
        exact G) (fun H' ⟨refs, N⟩ => hQ Dl H' refs ⟨e1.trans N.ex, N.at_, N.pts, fun r hr => fresh_back e1 (N.new r hr), N.nd⟩)⟩
end
section
variable {K : PySem.W.Frag} {σ : L2.St} {H : Hp} {ta tv : TE} {tz : TS} {D : Ends} {f : Str} {C a dx : Addr} {fs : List (Str × V)} {y : V}
/-- o.f = e, something behind it | at the end; e any reading | a value -/
theorem q_fld (h : tv σ H fun y H1 => ta σ H1 fun x H2 => ∃ a C dx fs, x = .ref a ∧ H2 a = some (.ins C dx fs) ∧ Cls K C ∧ NoAttr K C f ∧ fs.length < 1000 ∧ tz D σ (upd H2 a (.ins C dx (putF f y fs)))) : tSeq (sFld K ta tv f) tz D σ H := h
theorem s_fld (h : tv σ H fun y H1 => ta σ H1 fun x H2 => ∃ a C dx fs, x = .ref a ∧ H2 a = some (.ins C dx fs) ∧ Cls K C ∧ NoAttr K C f ∧ fs.length < 1000 ∧ D.nx σ (upd H2 a (.ins C dx (putF f y fs)))) : sFld K ta tv f D σ H := h
theorem q_fldV (hv : Ev tv σ H y) (ho : Ev ta σ H (.ref a)) (hi : H a = some (.ins C dx fs)) (cl : Cls K C) (na : NoAttr K C f) (hl : fs.length < 1000) (k : ∀ H1, Ex H H1 → tz D σ (upd H1 a (.ins C dx (putF f y fs)))) : tSeq (sFld K ta tv f) tz D σ H :=
  hv H (Ex.refl H) _ fun H1 e1 => ho H1 e1 _ fun H2 e2 => ⟨a, C, dx, fs, rfl, (e1.trans e2) _ _ hi, cl, na, hl, k H2 (e1.trans e2)⟩
end
section
variable {D : Ad} {mg : Str → Option Value} {vs : List V} {H : Hp} {Q : VK} {E : XK}
theorem catF_new {n : Nat} {e d : Addr} : putF "told" (.ref d) (putF "ends" (.ref e) (putF "things" (kN n) [])) = catF n e d := by
  have e1 : putF "ends" (.ref e) (putF "things" (kN n) []) = ([("things", kN n), ("ends", V.ref e)] : List (Str × V)) := (put_past (by decide +kernel)).trans rfl
  rw [e1]
  exact (put_past (by decide +kernel)).trans (congrArg _ ((put_past (by decide +kernel)).trans rfl))
theorem pure_init_Category (T : Txt D mg) (h : sp_init_Category D vs H Q E) : t_init_Category D (En Q) (start n_init_Category vs) H := by
  obtain ⟨p, dx, n, rfl, hp, hn, k⟩ := h
  refine q_fldV (ev_var rfl) (ev_var rfl) hp T.cl_Category T.na_things (by show 0 < 1000; decide) fun H0 e0 => q_fld ?_
  refine lcR_new (o := HO.tup) (n := n) (xs := fun i => [kN i, kN i]) (ea_cons (ev_var rfl) ea_nil) (by omega) (fun x => rfl) (fun i H1 e1 hi => eu_tup (ea_cons (ev_var rfl) (ea_cons (ev_var rfl) ea_nil)) (by show 2 ≤ 100000; decide)) fun e H2 refs N => ?_
  have h2 : H2 p = _ := N.ex p _ upd_same
  refine ⟨_, rfl, p, D.cC, dx, _, rfl, h2, T.cl_Category, T.na_ends, (by show 1 < 1000; decide), ?_⟩
  intro d hd
  have dp : p ≠ d := fun z => by rw [z, upd_same] at hd; cases hd
  have ne : e ≠ p := fun z => by have q := N.new e List.mem_cons_self; rw [z, upd_same] at q; cases q
  have de : e ≠ d := fun z => by rw [upd_ne (by rw [← z]; exact ne), ← z, N.at_] at hd; cases hd
  have hd2 : H2 d = none := by rw [upd_ne (Ne.symm dp)] at hd; exact hd
  refine ⟨_, rfl, p, D.cC, dx, _, rfl, (by rw [upd_ne dp]; exact upd_same), T.cl_Category, T.na_told, ?_, ?_⟩
  · show (putF "ends" _ (putF "things" (kN n) [])).length < 1000
    have e1 : putF "ends" (.ref e) (putF "things" (kN n) []) = ([("things", kN n), ("ends", V.ref e)] : List (Str × V)) := (put_past (by decide +kernel)).trans rfl
    rw [e1]; show 2 < 1000; decide
  have out : ∀ b, b ≠ p → b ≠ d → (upd (upd (upd H2 p (.ins D.cC dx (putF "ends" (.ref e) (putF "things" (kN n) [])))) d (.dT [])) p (.ins D.cC dx (putF "told" (.ref d) (putF "ends" (.ref e) (putF "things" (kN n) []))))) b = H2 b := fun b h1 h2 => by
    rw [upd_ne h1, upd_ne h2, upd_ne h1]
  have fr : ∀ b o, H b = some o → b ≠ p → H2 b = some o := fun b o hb nb => N.ex b o (by rw [upd_ne nb]; exact e0 _ _ hb)
  refine k _ e d refs ⟨?_, ?_, ?_, ?_, ?_, ?_⟩ (fun b o hb nb => ?_) (fun b hb => ?_) ?_ ?_
  · rw [upd_same, catF_new]
    rfl
  · rw [out e ne de]
    exact N.at_
  · rw [N.pts.1, List.length_map, List.length_range]
    show _ = (List.map _ (List.range n)).length
    rw [List.length_map, List.length_range]
  · intro i r q hr hq
    have q' : ((List.range n).map fun x => (x, x))[i]? = some q := hq
    rw [List.getElem?_map] at q'
    cases hi : (List.range n)[i]? with
    | none => rw [hi] at q'; cases q'
    | some z =>
      rw [hi] at q'
      have q' : (z, z) = q := Option.some.inj q'
      subst q'
      have iz : i = z := by
        obtain ⟨_, h2⟩ := List.getElem?_eq_some_iff.mp hi
        rw [List.getElem_range] at h2
        exact h2
      subst iz
      have hr2 := N.pts.2 i r [kN i, kN i] hr (by rw [List.getElem?_map, hi]; rfl)
      have rp : r ≠ p := fun z => by rw [z, h2] at hr2; cases hr2
      have rd : r ≠ d := fun z => by rw [z, hd2] at hr2; cases hr2
      rw [out r rp rd]
      exact hr2
  · rw [upd_ne (Ne.symm dp), upd_same]
  · intro f g
    rfl
  · by_cases bd : b = d
    · rw [bd] at hb nb
      rw [fr d o hb nb] at hd2
      cases hd2
    · rw [out b nb bd]
      exact fr b o hb nb
  · cases hb2 : H b with
    | none => rfl
    | some o =>
      by_cases nb : b = p
      · rw [nb, upd_same] at hb; cases hb
      · by_cases bd : b = d
        · rw [bd, upd_ne (Ne.symm dp), upd_same] at hb; cases hb
        · rw [out b nb bd, fr b o hb2 nb] at hb; cases hb
  · cases he : H e with
    | none => rfl
    | some o =>
      have q := N.new e List.mem_cons_self
      rw [upd_ne ne, e0 _ _ he] at q
      cases q
  · cases he : H d with
    | none => rfl
    | some o => rw [fr d o he (Ne.symm dp)] at hd2; cases hd2
end
end AR
set_option Elab.async false
set_option linter.all false
set_option maxRecDepth 100000
set_option maxHeartbeats 4000000
/-! The promises: instances. -/
namespace AR
open PySem PySem.Spec PyProof.Rows L2 Evl
def fp (l : IL) : List Addr := l.cl :: l.ll :: l.rr
/-- all but these stands, nothing is lost -/
structure Fr (F : Addr → Prop) (H H' : Hp) : Prop where
  keep : ∀ b o, H b = some o → ¬ F b → H' b = some o
  back : ∀ b, H' b = none → H b = none
theorem Fr.of_ex {F : Addr → Prop} {H H' : Hp} (e : Ex H H') : Fr F H H' := ⟨fun b o h _ => e b o h, fun b h => fresh_back e h⟩
theorem Fr.trans {F : Addr → Prop} {H H1 H2 : Hp} (a : Fr F H H1) (b : Fr F H1 H2) : Fr F H H2 := ⟨fun x o h n => b.keep x o (a.keep x o h n) n, fun x h => a.back x (b.back x h)⟩
theorem Fr.upd {F : Addr → Prop} {H H1 : Hp} {p : Addr} {o : HO} (a : Fr F H H1) (h : F p ∨ H p = none) : Fr F H (upd H1 p o) := by
  refine ⟨fun x u hx n => ?_, fun x hx => ?_⟩
  · have xp : x ≠ p := fun z => by
      rcases h with h | h
      · exact n (z ▸ h)
      · rw [z, h] at hx; cases hx
    rw [upd_ne xp]
    exact a.keep x u hx n
  · by_cases xp : x = p
    · rw [xp, upd_same] at hx; cases hx
    · rw [upd_ne xp] at hx
      exact a.back x hx
theorem Fr.mono {F G : Addr → Prop} {H H' : Hp} (a : Fr F H H') (h : ∀ b, F b → G b) : Fr G H H' := ⟨fun b o hb n => a.keep b o hb fun z => n (h b z), a.back⟩
def sp_init_Instance (D : Ad) : Sp := fun vs H Q _ => ∃ (p dx a : Addr) (c : Fc02.Cat), vs = [.ref p, .ref a] ∧ H p = some (.ins D.cI dx []) ∧ CatAt D H a c ∧
  ∀ (H' : Hp) (l : IL), l.b = p → InstX D H' l c (Fc02.none_ c) → (fp l).Nodup → (∀ y, y ∈ fp l → H y = none) → Fr (fun b => b = p) H H' → Q .non H'
def sp_row_count (D : Ad) : Sp := fun vs H Q _ => ∃ (l : IL) (c : Fc02.Cat) (t : Fc02.Inst), vs = [.ref l.b] ∧ InstX D H l c t ∧ RetV (kN (Fc02.total t)) H Q
def sp_has_row (D : Ad) : Sp := fun vs H Q _ => ∃ (b : Addr) (c : Fc02.Cat) (t : Fc02.Inst) (x r : Nat), vs = [.ref b, kN x, kN r] ∧ InstAt D H b c t ∧ RetV (.bl (Fc02.isRow c t x r)) H Q
def sp_put_rows (D : Ad) : Sp := fun vs H Q _ => ∃ (a e d dx : Addr) (refs : List Addr) (kvs : List (List Key × V)) (c : Fc02.Cat) (l : IL) (t : Fc02.Inst) (x k : Nat), vs = [.ref a, .ref l.b, kN x, kN k] ∧ CatX D H a e d dx refs kvs c ∧ WC c ∧ InstX D H l c t ∧ WI c t ∧ (fp l).Nodup ∧ e ∉ fp l ∧ x < c.n ∧ k ≤ 6 ∧
  ∀ (H' : Hp) (l' : IL), l'.b = l.b → InstX D H' l' c (Fc02.resized c t x k) → (fp l').Nodup → (∀ y, y ∈ fp l' → y ∈ fp l ∨ H y = none) → Fr (· ∈ fp l) H H' → Q .non H'
def sp_leads_to (D : Ad) : Sp := fun vs H Q _ => ∃ (a b : Addr) (c : Fc02.Cat) (t : Fc02.Inst) (f r : Nat), vs = [.ref a, .ref b, kN f, kN r] ∧ CatAt D H a c ∧ InstAt D H b c t ∧ f < c.arrows.length ∧ (c.n ≤ f → r < Fc02.rows t (Fc02.from_ c f)) ∧ RetV (kN (Fc02.go c t f r)) H Q
def fcode (c : Fc02.Cat) (t : Fc02.Inst) (f r : Nat) : Nat := if Fc02.go c t f r = 99 then 1 else if Fc02.rows t (Fc02.to_ c f) ≤ Fc02.go c t f r then 2 else 0
def sp_fault_of_row (D : Ad) : Sp := fun vs H Q _ => ∃ (a b : Addr) (c : Fc02.Cat) (t : Fc02.Inst) (f r : Nat), vs = [.ref a, .ref b, kN f, kN r] ∧ CatAt D H a c ∧ InstAt D H b c t ∧ f ∈ others c ∧ r < Fc02.rows t (Fc02.from_ c f) ∧ RetV (kN (fcode c t f r)) H Q
def sp_first_missing (D : Ad) : Sp := fun vs H Q _ => ∃ (a b : Addr) (c : Fc02.Cat) (t : Fc02.Inst), vs = [.ref a, .ref b] ∧ CatAt D H a c ∧ InstAt D H b c t ∧ RetL (((missing c t).getD []).map kN) H Q
def sp_leads_elsewhere (D : Ad) : Sp := fun vs H Q _ => ∃ (a b : Addr) (c : Fc02.Cat) (t : Fc02.Inst) (f g r : Nat), vs = [.ref a, .ref b, kN f, kN g, kN r] ∧ CatAt D H a c ∧ InstAt D H b c t ∧ Fit c ∧ Right c t ∧ (f, g) ∈ pairs c ∧ r < Fc02.rows t (Fc02.from_ c f) ∧ RetV (.bl (fault3 c t f g r).isSome) H Q
def sp_first_elsewhere (D : Ad) : Sp := fun vs H Q _ => ∃ (a b : Addr) (c : Fc02.Cat) (t : Fc02.Inst), vs = [.ref a, .ref b] ∧ CatAt D H a c ∧ InstAt D H b c t ∧ Fit c ∧ Right c t ∧ RetL (((elsewhere c t).getD []).map kN) H Q
def sp_first_fault (D : Ad) : Sp := fun vs H Q _ => ∃ (a b : Addr) (c : Fc02.Cat) (t : Fc02.Inst), vs = [.ref a, .ref b] ∧ CatAt D H a c ∧ InstAt D H b c t ∧ Fit c ∧ RetL (((Fc02.faultI c t).getD []).map kN) H Q
def sp_is_right (D : Ad) : Sp := fun vs H Q _ => ∃ (a b : Addr) (c : Fc02.Cat) (t : Fc02.Inst), vs = [.ref a, .ref b] ∧ CatAt D H a c ∧ InstAt D H b c t ∧ Fit c ∧ RetV (.bl (Fc02.faultI c t).isNone) H Q
section
variable {D : Ad} {H : Hp} {a b : Addr} {c : Fc02.Cat} {t : Fc02.Inst} {σ : L2.St} {ta tb tc td te : TE} {f g r x : Nat}
theorem InstAt.no (hc : InstAt D H b c t) {m : Str} (h1 : (m == ("counts" : Str)) = false := by decide +kernel) (h2 : (m == ("leads" : Str)) = false := by decide +kernel) : ∃ dx fs, H b = some (.ins D.cI dx fs) ∧ fs.lookup m = none :=
  let ⟨⟨l, e, q⟩, _⟩ := hc
  ⟨l.dx, _, e ▸ q.ob, instF_no h1 h2⟩
theorem e_row_countX {l : IL} (hi : InstX D H l c t) (ho : Ev ta σ H (.ref l.b)) : Ev (tMeth D.cI "row_count" (sp_row_count D) [] C8.E0 ta tNil) σ H (kN (Fc02.total t)) :=
  ev_meth ho hi.ob (instF_no (by decide +kernel) (by decide +kernel)) ea_nil fun H1 e Q q E => ⟨l, c, t, rfl, hi.mono e, q⟩
theorem e_row_count (hi : InstAt D H b c t) (ho : Ev ta σ H (.ref b)) : Ev (tMeth D.cI "row_count" (sp_row_count D) [] C8.E0 ta tNil) σ H (kN (Fc02.total t)) :=
  let ⟨⟨l, e, q⟩, _⟩ := hi
  e_row_countX q (e ▸ ho)
theorem e_is_row (hi : InstAt D H b c t) (ho : Ev ta σ H (.ref b)) (h1 : Ev tb σ H (kN x)) (h2 : Ev tc σ H (kN r)) : Ev (tMeth D.cI "has_row" (sp_has_row D) [] C8.E0 ta (tCons tb (tCons tc tNil))) σ H (.bl (Fc02.isRow c t x r)) :=
  let ⟨_, _, q, n⟩ := hi.no (m := "has_row")
  ev_meth ho q n (ea_cons h1 (ea_cons h2 ea_nil)) fun H1 e Q q E => ⟨b, c, t, x, r, rfl, hi.mono e, q⟩
theorem e_has_row (hi : InstAt D H b c t) (ho : Ev ta σ H (.ref b)) (h1 : Ev tb σ H (kN x)) (h2 : Ev tc σ H (kN r)) (hx : x < c.n) : Ev (tMeth D.cI "has_row" (sp_has_row D) [] C8.E0 ta (tCons tb (tCons tc tNil))) σ H (.bl (decide (r < Fc02.rows t x))) :=
  ev_is (e_is_row hi ho h1 h2) (by unfold Fc02.isRow; rw [decide_eq_true hx, Bool.true_and])
theorem e_leads_to (hc : CatAt D H a c) (hi : InstAt D H b c t) (h0 : Ev ta σ H (.ref a)) (h1 : Ev tb σ H (.ref b)) (h2 : Ev tc σ H (kN f)) (h3 : Ev td σ H (kN r)) (hf : f < c.arrows.length) (hr : c.n ≤ f → r < Fc02.rows t (Fc02.from_ c f)) : Ev (tCall (sp_leads_to D) [] C8.E0 (tCons ta (tCons tb (tCons tc (tCons td tNil))))) σ H (kN (Fc02.go c t f r)) :=
  ev_call (ea_cons h0 (ea_cons h1 (ea_cons h2 (ea_cons h3 ea_nil)))) fun H1 e Q q E => ⟨a, b, c, t, f, r, rfl, hc.mono e, hi.mono e, hf, hr, q⟩
theorem e_fault_of_row (hc : CatAt D H a c) (hi : InstAt D H b c t) (h0 : Ev ta σ H (.ref a)) (h1 : Ev tb σ H (.ref b)) (h2 : Ev tc σ H (kN f)) (h3 : Ev td σ H (kN r)) (hf : f ∈ others c) (hr : r < Fc02.rows t (Fc02.from_ c f)) : Ev (tCall (sp_fault_of_row D) [] C8.E0 (tCons ta (tCons tb (tCons tc (tCons td tNil))))) σ H (kN (fcode c t f r)) :=
  ev_call (ea_cons h0 (ea_cons h1 (ea_cons h2 (ea_cons h3 ea_nil)))) fun H1 e Q q E => ⟨a, b, c, t, f, r, rfl, hc.mono e, hi.mono e, hf, hr, q⟩
theorem e_first_missing (hc : CatAt D H a c) (hi : InstAt D H b c t) (h0 : Ev ta σ H (.ref a)) (h1 : Ev tb σ H (.ref b)) : EvL (tCall (sp_first_missing D) [] C8.E0 (tCons ta (tCons tb tNil))) σ H (((missing c t).getD []).map kN) :=
  el_call (ea_cons h0 (ea_cons h1 ea_nil)) fun H1 e Q q E => ⟨a, b, c, t, rfl, hc.mono e, hi.mono e, q⟩
theorem e_leads_elsewhere (hc : CatAt D H a c) (hi : InstAt D H b c t) (h0 : Ev ta σ H (.ref a)) (h1 : Ev tb σ H (.ref b)) (h2 : Ev tc σ H (kN f)) (h3 : Ev td σ H (kN g)) (h4 : Ev te σ H (kN r)) (F : Fit c) (R : Right c t) (hp : (f, g) ∈ pairs c) (hr : r < Fc02.rows t (Fc02.from_ c f)) : Ev (tCall (sp_leads_elsewhere D) [] C8.E0 (tCons ta (tCons tb (tCons tc (tCons td (tCons te tNil)))))) σ H (.bl (fault3 c t f g r).isSome) :=
  ev_call (ea_cons h0 (ea_cons h1 (ea_cons h2 (ea_cons h3 (ea_cons h4 ea_nil))))) fun H1 e Q q E => ⟨a, b, c, t, f, g, r, rfl, hc.mono e, hi.mono e, F, R, hp, hr, q⟩
theorem e_first_elsewhere (hc : CatAt D H a c) (hi : InstAt D H b c t) (h0 : Ev ta σ H (.ref a)) (h1 : Ev tb σ H (.ref b)) (F : Fit c) (R : Right c t) : EvL (tCall (sp_first_elsewhere D) [] C8.E0 (tCons ta (tCons tb tNil))) σ H (((elsewhere c t).getD []).map kN) :=
  el_call (ea_cons h0 (ea_cons h1 ea_nil)) fun H1 e Q q E => ⟨a, b, c, t, rfl, hc.mono e, hi.mono e, F, R, q⟩
theorem e_first_fault (hc : CatAt D H a c) (hi : InstAt D H b c t) (h0 : Ev ta σ H (.ref a)) (h1 : Ev tb σ H (.ref b)) (F : Fit c) : EvL (tCall (sp_first_fault D) [] C8.E0 (tCons ta (tCons tb tNil))) σ H (((Fc02.faultI c t).getD []).map kN) :=
  el_call (ea_cons h0 (ea_cons h1 ea_nil)) fun H1 e Q q E => ⟨a, b, c, t, rfl, hc.mono e, hi.mono e, F, q⟩
theorem e_is_right (hc : CatAt D H a c) (hi : InstAt D H b c t) (h0 : Ev ta σ H (.ref a)) (h1 : Ev tb σ H (.ref b)) (F : Fit c) : Ev (tCall (sp_is_right D) [] C8.E0 (tCons ta (tCons tb tNil))) σ H (.bl (Fc02.faultI c t).isNone) :=
  ev_call (ea_cons h0 (ea_cons h1 ea_nil)) fun H1 e Q q E => ⟨a, b, c, t, rfl, hc.mono e, hi.mono e, F, q⟩
end
end AR
set_option Elab.async false
set_option linter.all false
set_option maxRecDepth 100000
set_option maxHeartbeats 4000000
/-! The readings of the defs (printed by gen.py). -/
namespace AR
open PySem PySem.Spec PyProof.Rows L2
abbrev n_init_Instance : List Str := ["self", "category", "ends"]
def t_init_Instance (D : Ad) : TS :=
  (tSeq (sFld D.K (tVar 0) (tOp rRep (tLst (tCons (tC (.int 0)) tNil)) (tFld D.K (tVar 1) "things")) "counts") (sFld D.K (tVar 0) (tLc (iList D.K (tFld D.K (tVar 1) "ends")) (gName 2) tYes (tLst tNil) [2]) "leads"))
abbrev n_row_count : List Str := ["self"]
def t_row_count (D : Ad) : TS :=
  (tRet (tCB (rSum D.K) (tCons (tFld D.K (tVar 0) "counts") tNil)))
abbrev n_has_row : List Str := ["self", "x", "r"]
def t_has_row (D : Ad) : TS :=
  (tRet (tAndV (tOp rLtI (tVar 1) (tCB (Evl.rLenS D.K) (tCons (tFld D.K (tVar 0) "counts") tNil))) (tOp rLtI (tVar 2) (tOp (rIxL D.K) (tFld D.K (tVar 0) "counts") (tVar 1)))))
abbrev n_put_rows : List Str := ["category", "instance", "x", "k", "f"]
def t_put_rows (D : Ad) : TS :=
  (tSeq (tAsg (tVar 3) (gSub (tFld D.K (tVar 1) "counts") (tVar 2) rSetL)) (tFor (iList D.K (tMeth D.cC "others" (sp_others D) [] C8.E0 (tVar 0) tNil)) (gName 4) (tIfS (tB (tMeth D.cC "touches" (sp_touches D) [] C8.E0 (tVar 0) (tCons (tVar 4) (tCons (tVar 2) tNil)))) (tAsg (tOp rRep (tLst (tCons (tC (.int (99))) tNil)) (tOp (rIxL D.K) (tFld D.K (tVar 1) "counts") (tMeth D.cC "source" (sp_source D) [] C8.E0 (tVar 0) (tCons (tVar 4) tNil)))) (gSub (tFld D.K (tVar 1) "leads") (tVar 4) rSetL)) tNext)))
abbrev n_leads_to : List Str := ["category", "instance", "f", "r"]
def t_leads_to (D : Ad) : TS :=
  (tSeq (tIfS (tB (tMeth D.cC "is_own" (sp_is_own D) [] C8.E0 (tVar 0) (tCons (tVar 2) tNil))) (tRet (tVar 3)) tNext) (tRet (tOp (rIxL D.K) (tOp (rIxL D.K) (tFld D.K (tVar 1) "leads") (tVar 2)) (tVar 3))))
abbrev n_fault_of_row : List Str := ["category", "instance", "f", "r", "v"]
def t_fault_of_row (D : Ad) : TS :=
  (tSeq (tAsg (tCall (sp_leads_to D) [] C8.E0 (tCons (tVar 0) (tCons (tVar 1) (tCons (tVar 2) (tCons (tVar 3) tNil))))) (gName 4)) (tSeq (tIfS (tTest (tOp rEq (tVar 4) (tC (.int (99))))) (tRet (tC (.int 1))) tNext) (tSeq (tIfS (tNot (tB (tMeth D.cI "has_row" (sp_has_row D) [] C8.E0 (tVar 1) (tCons (tMeth D.cC "target" (sp_target D) [] C8.E0 (tVar 0) (tCons (tVar 2) tNil)) (tCons (tVar 4) tNil))))) (tRet (tC (.int 2))) tNext) (tRet (tC (.int 0))))))
abbrev n_first_missing : List Str := ["category", "instance", "f", "r", "fault"]
def t_first_missing (D : Ad) : TS :=
  (tSeq (tFor (iList D.K (tMeth D.cC "others" (sp_others D) [] C8.E0 (tVar 0) tNil)) (gName 2) (tFor (iRng1 (tCons (tOp (rIxL D.K) (tFld D.K (tVar 1) "counts") (tMeth D.cC "source" (sp_source D) [] C8.E0 (tVar 0) (tCons (tVar 2) tNil))) tNil)) (gName 3) (tSeq (tAsg (tCall (sp_fault_of_row D) [] C8.E0 (tCons (tVar 0) (tCons (tVar 1) (tCons (tVar 2) (tCons (tVar 3) tNil))))) (gName 4)) (tIfS (tTest (tOp rNe (tVar 4) (tC (.int 0)))) (tRet (tLst (tCons (tVar 4) (tCons (tVar 2) (tCons (tVar 3) tNil))))) tNext)))) (tRet (tLst tNil)))
abbrev n_leads_elsewhere : List Str := ["category", "instance", "f", "g", "r", "behind_both"]
def t_leads_elsewhere (D : Ad) : TS :=
  (tSeq (tAsg (tCall (sp_leads_to D) [] C8.E0 (tCons (tVar 0) (tCons (tVar 1) (tCons (tVar 3) (tCons (tCall (sp_leads_to D) [] C8.E0 (tCons (tVar 0) (tCons (tVar 1) (tCons (tVar 2) (tCons (tVar 4) tNil))))) tNil))))) (gName 5)) (tRet (tOp rNe (tVar 5) (tCall (sp_leads_to D) [] C8.E0 (tCons (tVar 0) (tCons (tVar 1) (tCons (tMeth D.cC "made" (sp_made D) [] C8.E0 (tVar 0) (tCons (tVar 2) (tCons (tVar 3) tNil))) (tCons (tVar 4) tNil))))))))
abbrev n_first_elsewhere : List Str := ["category", "instance", "f", "g", "r"]
def t_first_elsewhere (D : Ad) : TS :=
  (tSeq (tFor (iList D.K (tCall (sp_meeting_pairs D) [] C8.E0 (tCons (tVar 0) tNil))) (gTup D.K 2 (gCons (gName 2) (gCons (gName 3) gNil))) (tFor (iRng1 (tCons (tOp (rIxL D.K) (tFld D.K (tVar 1) "counts") (tMeth D.cC "source" (sp_source D) [] C8.E0 (tVar 0) (tCons (tVar 2) tNil))) tNil)) (gName 4) (tIfS (tB (tCall (sp_leads_elsewhere D) [] C8.E0 (tCons (tVar 0) (tCons (tVar 1) (tCons (tVar 2) (tCons (tVar 3) (tCons (tVar 4) tNil))))))) (tRet (tLst (tCons (tC (.int 3)) (tCons (tVar 2) (tCons (tVar 3) (tCons (tVar 4) tNil)))))) tNext))) (tRet (tLst tNil)))
abbrev n_first_fault : List Str := ["category", "instance", "missing"]
def t_first_fault (D : Ad) : TS :=
  (tSeq (tAsg (tCall (sp_first_missing D) [] C8.E0 (tCons (tVar 0) (tCons (tVar 1) tNil))) (gName 2)) (tSeq (tIfS (tTest (tOp (rNeD D.K) (tVar 2) (tLst tNil))) (tRet (tVar 2)) tNext) (tRet (tCall (sp_first_elsewhere D) [] C8.E0 (tCons (tVar 0) (tCons (tVar 1) tNil))))))
abbrev n_is_right : List Str := ["category", "instance"]
def t_is_right (D : Ad) : TS :=
  (tRet (tOp (rEqD D.K) (tCall (sp_first_fault D) [] C8.E0 (tCons (tVar 0) (tCons (tVar 1) tNil))) (tLst tNil)))
end AR
set_option Elab.async false
set_option linter.all false
set_option maxRecDepth 100000
set_option maxHeartbeats 4000000
/-! Promise gives reading: instances, read. -/
namespace AR
open PySem PySem.Spec PyProof.Rows L2 Evl
section
variable {D : Ad} {mg : Str → Option Value} {H : Hp} {a b : Addr} {c : Fc02.Cat} {t : Fc02.Inst} {σ : L2.St} {ta tb tc : TE} {f g h x r : Nat}
theorem e_counts (T : Txt D mg) (hi : InstAt D H b c t) (ho : Ev ta σ H (.ref b)) (hx : Ev tb σ H (kN x)) (xl : x < c.n) : Ev (tOp (rIxL D.K) (tFld D.K ta "counts") tb) σ H (kN (Fc02.rows t x)) :=
  let ⟨⟨l, e, q⟩, w⟩ := hi
  ev_ixL (ev_fld ho (e ▸ q.ob) T.cl_Instance T.na_counts instF_counts) hx q.lc (map_get (rows_get (by rw [w.sz]; exact xl)))
end
section
variable {D : Ad} {mg : Str → Option Value} {vs : List V} {H : Hp} {Q : VK} {E : XK}
theorem len_init_Instance (h : sp_init_Instance D vs H Q E) : vs.length = 2 := by obtain ⟨_, _, _, _, rfl, _⟩ := h; rfl
theorem len_row_count (h : sp_row_count D vs H Q E) : vs.length = 1 := by obtain ⟨_, _, _, rfl, _⟩ := h; rfl
theorem len_has_row (h : sp_has_row D vs H Q E) : vs.length = 3 := by obtain ⟨_, _, _, _, _, rfl, _⟩ := h; rfl
theorem len_put_rows (h : sp_put_rows D vs H Q E) : vs.length = 4 := by obtain ⟨_, _, _, _, _, _, _, _, _, _, _, rfl, _⟩ := h; rfl
theorem len_leads_to (h : sp_leads_to D vs H Q E) : vs.length = 4 := by obtain ⟨_, _, _, _, _, _, rfl, _⟩ := h; rfl
theorem len_fault_of_row (h : sp_fault_of_row D vs H Q E) : vs.length = 4 := by obtain ⟨_, _, _, _, _, _, rfl, _⟩ := h; rfl
theorem len_first_missing (h : sp_first_missing D vs H Q E) : vs.length = 2 := by obtain ⟨_, _, _, _, rfl, _⟩ := h; rfl
theorem len_leads_elsewhere (h : sp_leads_elsewhere D vs H Q E) : vs.length = 5 := by obtain ⟨_, _, _, _, _, _, _, rfl, _⟩ := h; rfl
theorem len_first_elsewhere (h : sp_first_elsewhere D vs H Q E) : vs.length = 2 := by obtain ⟨_, _, _, _, rfl, _⟩ := h; rfl
theorem len_first_fault (h : sp_first_fault D vs H Q E) : vs.length = 2 := by obtain ⟨_, _, _, _, rfl, _⟩ := h; rfl
theorem len_is_right (h : sp_is_right D vs H Q E) : vs.length = 2 := by obtain ⟨_, _, _, _, rfl, _⟩ := h; rfl
theorem pure_row_count (T : Txt D mg) (h : sp_row_count D vs H Q E) : t_row_count D (En Q) (start n_row_count vs) H := by
  obtain ⟨l, c, t, rfl, q, k⟩ := h
  rw [total_sum] at k
  exact s_ret (ev_cb (ea_cons (ev_fld (ev_var rfl) q.ob T.cl_Instance T.na_counts instF_counts) ea_nil) (rc_sum q.lc)) k
theorem pure_has_row (T : Txt D mg) (h : sp_has_row D vs H Q E) : t_has_row D (En Q) (start n_has_row vs) H := by
  obtain ⟨b, c, t, x, r, rfl, hi, k⟩ := h
  obtain ⟨⟨l, rfl, q⟩, w⟩ := id hi
  have z := ev_len (K := D.K) (ev_fld (f := "counts") (ev_var (H := H) (σ := start n_has_row [V.ref l.b, kN x, kN r]) (i := 0) rfl) q.ob T.cl_Instance T.na_counts instF_counts) (sq_of q.lc)
  rw [List.length_map, w.sz] at z
  exact s_ret (ev_andV (ev_lt (ev_var rfl) z) fun hx => ev_lt (ev_var rfl) (e_counts T hi (ev_var rfl) (ev_var rfl) (of_decide_eq_true hx))) k
theorem go_get {c : Fc02.Cat} {t : Fc02.Inst} (W : WI c t) {f r : Nat} (h1 : c.n ≤ f) (h2 : f < c.arrows.length) (hr : r < Fc02.rows t (Fc02.from_ c f)) : (t.tab.getD f [])[r]? = some (Fc02.go c t f r) := by
  have l := W.rowl f h1 h2
  unfold Fc02.go
  rw [if_neg (by omega), List.getD_eq_getElem?_getD (l := t.tab.getD f []), List.getElem?_eq_getElem (by rw [l]; exact hr)]
  rfl
theorem pure_leads_to (T : Txt D mg) (h : sp_leads_to D vs H Q E) : t_leads_to D (En Q) (start n_leads_to vs) H := by
  obtain ⟨a, b, c, t, f, r, rfl, hc, hi, hf, hr, k⟩ := h
  refine q_when (et_B (e_is_own hc (ev_var rfl) (ev_var rfl))) (fun hb H1 e1 => ?_) (fun hb H1 e1 => ?_)
  · have e : Fc02.go c t f r = r := by unfold Fc02.go; rw [if_pos (of_decide_eq_true hb)]
    rw [e] at k
    exact s_ret (ev_var rfl) fun H2 e2 => k H2 (e1.trans e2)
  · have hn : c.n ≤ f := Nat.le_of_not_lt (of_decide_eq_false hb)
    obtain ⟨⟨l, rfl, q⟩, w⟩ := hi.mono e1
    have hr2 : l.rr[f]? = some (l.rr[f]'(by rw [q.rl]; exact hf)) := List.getElem?_eq_getElem _
    exact s_ret (ev_ixL (ev_ixL (ev_fld (ev_var rfl) q.ob T.cl_Instance T.na_leads instF_leads) (ev_var rfl) q.ll (map_get hr2)) (ev_var rfl) (q.rw f _ hn hr2) (map_get (go_get w hn hf (hr hn)))) fun H2 e2 => k H2 (e1.trans e2)
theorem pure_fault_of_row (T : Txt D mg) (h : sp_fault_of_row D vs H Q E) : t_fault_of_row D (En Q) (start n_fault_of_row vs) H := by
  obtain ⟨a, b, c, t, f, r, rfl, hc, hi, hf, hr, k⟩ := h
  obtain ⟨hn, hl⟩ := mem_others.mp hf
  refine q_asg (e_leads_to hc hi (ev_var rfl) (ev_var rfl) (ev_var rfl) (ev_var rfl) hl fun _ => hr) fun H1 e1 => ?_
  have hc1 := hc.mono e1
  have hi1 := hi.mono e1
  refine q_when (et_test (ev_eq (j := 99) (ev_var rfl) ev_c)) (fun hb H2 e2 => ?_) (fun hb H2 e2 => ?_)
  · have e : fcode c t f r = 1 := by unfold fcode; rw [if_pos (of_decide_eq_true hb)]
    rw [e] at k
    exact s_ret ev_c fun H3 e3 => k H3 ((e1.trans e2).trans e3)
  · have h99 := of_decide_eq_false hb
    have hc2 := hc1.mono e2
    have hi2 := hi1.mono e2
    refine q_when (et_not (et_B (e_has_row hi2 (ev_var rfl) (e_target hc2 (ev_var rfl) (ev_var rfl) hl) (ev_var rfl) (to_lt hc.2 hl)))) (fun hb H3 e3 => ?_) (fun hb H3 e3 => ?_)
    · have q : ¬ Fc02.go c t f r < Fc02.rows t (Fc02.to_ c f) := by simpa using hb
      have e : fcode c t f r = 2 := by unfold fcode; rw [if_neg h99, if_pos (by omega)]
      rw [e] at k
      exact s_ret ev_c fun H4 e4 => k H4 (((e1.trans e2).trans e3).trans e4)
    · have q : Fc02.go c t f r < Fc02.rows t (Fc02.to_ c f) := by simpa using hb
      have e : fcode c t f r = 0 := by unfold fcode; rw [if_neg h99, if_neg (by omega)]
      rw [e] at k
      exact s_ret ev_c fun H4 e4 => k H4 (((e1.trans e2).trans e3).trans e4)
theorem fault12_code (c : Fc02.Cat) (t : Fc02.Inst) (f r : Nat) : fault12 c t f r = if fcode c t f r = 0 then none else some [fcode c t f r, f, r] := by
  unfold fault12 fcode
  by_cases h : Fc02.go c t f r = 99
  · rw [if_pos h, if_pos h, if_neg (by decide)]
  · rw [if_neg h, if_neg h]
    by_cases q : Fc02.rows t (Fc02.to_ c f) ≤ Fc02.go c t f r
    · rw [if_pos q, if_pos q, if_neg (by decide)]
    · rw [if_neg q, if_neg q, if_pos rfl]
/-- where a search stands -/
theorem find_drop {α β : Type} {F : α → Option β} {l : List α} {i : Nat} {x : α} {y : Option β} (h : l.findSome? F = (l.drop i).findSome? F) (hx : l[i]? = some x) (hF : F x = none) : l.findSome? F = (l.drop (i + 1)).findSome? F := by
  rw [h, drop_cons hx, List.findSome?_cons, hF]
theorem find_hit {α β : Type} {F : α → Option β} {l : List α} {i : Nat} {x : α} {y : β} (h : l.findSome? F = (l.drop i).findSome? F) (hx : l[i]? = some x) (hF : F x = some y) : l.findSome? F = some y := by
  rw [h, drop_cons hx, List.findSome?_cons, hF]
theorem rows_small {c : Fc02.Cat} {t : Fc02.Inst} (w : WI c t) (x : Nat) : Fc02.rows t x ≤ 6 := Nat.le_trans (rows_le t x) w.tot
theorem pure_first_missing (T : Txt D mg) (h : sp_first_missing D vs H Q E) : t_first_missing D (En Q) (start n_first_missing vs) H := by
  obtain ⟨a, b, c, t, rfl, hc, hi, k⟩ := h
  refine q_forNL (K := D.K) (e_others hc (ev_var rfl)) (fun q i σ' H' => ∃ v2 v3 v4, σ' = [some (.ref a), some (.ref b), v2, v3, v4] ∧ Ex H H' ∧ H' q = some (.lst ((others c).map kN)) ∧ missing c t = ((others c).drop i).findSome? fun f => (List.range (Fc02.rows t (Fc02.from_ c f))).findSome? fun r => fault12 c t f r) ?_ ?_ ?_ ?_
  · intro q H1 hq e1 h1
    exact ⟨none, none, none, rfl, e1, h1, rfl⟩
  · rintro q i σ' H' _ ⟨v2, v3, v4, rfl, _, hq, _⟩
    exact sq_of hq
  · rintro q i x σ' H1 hx ⟨v2, v3, v4, rfl, e1, hq, hm⟩
    obtain ⟨f, hf, rfl⟩ := map_get_inv hx
    have fo := mem_take_of hf
    obtain ⟨hn, hl⟩ := mem_others.mp fo
    have hc1 := hc.mono e1
    have hi1 := hi.mono e1
    refine s_forR1 (n := (Fc02.rows t (Fc02.from_ c f) : Nat)) (ea_cons (e_counts T hi1 (ev_var rfl) (e_source hc1 (ev_var rfl) (ev_var rfl) hl) (from_lt hc.2 hl)) ea_nil) (by have := rows_small hi.2 (Fc02.from_ c f); omega)
      (fun j σ2 H2 => ∃ v3 v4, σ2 = [some (.ref a), some (.ref b), some (kN f), v3, v4] ∧ Ex H1 H2 ∧ ((List.range (Fc02.rows t (Fc02.from_ c f))).findSome? fun r => fault12 c t f r) = ((List.range (Fc02.rows t (Fc02.from_ c f))).drop j).findSome? fun r => fault12 c t f r) ?_ ?_ ?_
    · intro H2 e2
      exact ⟨v3, v4, rfl, e2, rfl⟩
    · rintro r σ2 H2 hr ⟨v3, v4, rfl, e2, hs⟩
      have hr : r < Fc02.rows t (Fc02.from_ c f) := by omega
      have rg : (List.range (Fc02.rows t (Fc02.from_ c f)))[r]? = some r := by rw [List.getElem?_range hr]
      have hc2 := hc1.mono e2
      have hi2 := hi1.mono e2
      refine q_asg (e_fault_of_row hc2 hi2 (ev_var rfl) (ev_var rfl) (ev_var rfl) (ev_var rfl) fo hr) fun H3 e3 => ?_
      have code := fault12_code c t f r
      refine s_when (et_test (ev_ne (j := 0) (ev_var rfl) ev_c)) (fun hb H4 e4 => ?_) (fun hb H4 e4 => ?_)
      · have nz : fcode c t f r ≠ 0 := by simpa using hb
        rw [if_neg nz] at code
        have m : missing c t = some [fcode c t f r, f, r] := by
          rw [hm, drop_cons hf, List.findSome?_cons, find_hit hs rg code]
        rw [m] at k
        refine s_retL (el_lst (ea_cons (ev_var rfl) (ea_cons (ev_var rfl) (ea_cons (ev_var rfl) ea_nil))) (by show 3 ≤ 100000; decide)) fun p H5 hp e5 h5 => ?_
        exact k.go (((e1.trans e2).trans e3).trans e4) hp e5 h5
      · have nz : fcode c t f r = 0 := by simpa using hb
        rw [if_pos nz] at code
        exact ⟨some (kN r), some (kN (fcode c t f r)), rfl, (e2.trans e3).trans e4, find_drop (y := none) hs rg code⟩
    · rintro σ2 H2 ⟨v3, v4, rfl, e2, hs⟩
      refine ⟨some (kN f), v3, v4, rfl, e1.trans e2, e2 _ _ hq, ?_⟩
      have e : ((Fc02.rows t (Fc02.from_ c f) : Nat) : Int).toNat = Fc02.rows t (Fc02.from_ c f) := by omega
      rw [e, List.drop_of_length_le (by rw [List.length_range]; exact Nat.le_refl _)] at hs
      rw [hm, drop_cons hf, List.findSome?_cons, hs]
      rfl
  · rintro q σ' H1 ⟨v2, v3, v4, rfl, e1, hq, hm⟩
    rw [List.length_map, List.drop_of_length_le (Nat.le_refl _)] at hm
    have hm : missing c t = none := hm
    rw [hm] at k
    exact s_retL (el_lst ea_nil (Nat.zero_le _)) fun p H2 hp e2 h2 => k.go e1 hp e2 h2
theorem pure_leads_elsewhere (T : Txt D mg) (h : sp_leads_elsewhere D vs H Q E) : t_leads_elsewhere D (En Q) (start n_leads_elsewhere vs) H := by
  obtain ⟨a, b, c, t, f, g, r, rfl, hc, hi, F, R, hp, hr, k⟩ := h
  obtain ⟨fo, go_, hm⟩ := mem_pairs.mp hp
  obtain ⟨fn, fl⟩ := mem_others.mp fo
  obtain ⟨gn, gl⟩ := mem_others.mp go_
  have W := hc.2
  obtain ⟨h, e, hl, hfrom, hto⟩ := F f g fl gl hm
  have r1 := R.go_lt W fl hr
  have hm' : Fc02.to_ c f = Fc02.from_ c g := hm
  have e3 : (fault3 c t f g r).isSome = !decide (Fc02.go c t g (Fc02.go c t f r) = Fc02.go c t h r) := by
    unfold fault3
    rw [e]
    by_cases q : Fc02.go c t g (Fc02.go c t f r) = Fc02.go c t h r
    · simp [q]
    · simp [q]
  rw [e3] at k
  refine q_asg (e_leads_to hc hi (ev_var rfl) (ev_var rfl) (ev_var rfl) (e_leads_to hc hi (ev_var rfl) (ev_var rfl) (ev_var rfl) (ev_var rfl) fl fun _ => hr) gl fun _ => by rw [← hm']; exact r1) fun H1 e1 => ?_
  have hc1 := hc.mono e1
  have z := e_made (f := f) (g := g) hc1 (ev_var (σ := List.set (start n_leads_elsewhere [V.ref a, V.ref b, kN f, kN g, kN r]) 5 (some (kN (Fc02.go c t g (Fc02.go c t f r))))) (i := 0) rfl) (ev_var (i := 2) rfl) (ev_var (i := 3) rfl)
  rw [e] at z
  exact s_ret (ev_ne (ev_var rfl) (e_leads_to hc1 (hi.mono e1) (ev_var rfl) (ev_var rfl) z (ev_var rfl) hl fun _ => by rw [hfrom]; exact hr)) fun H2 e2 => k H2 (e1.trans e2)
theorem fault3_val {c : Fc02.Cat} {t : Fc02.Inst} {f g r : Nat} (h : (fault3 c t f g r).isSome = true) : fault3 c t f g r = some [3, f, g, r] := by
  unfold fault3 at h ⊢
  cases e : made c f g with
  | none => rw [e] at h; cases h
  | some k =>
    rw [e] at h
    simp only at h ⊢
    by_cases q : Fc02.go c t g (Fc02.go c t f r) = Fc02.go c t k r
    · rw [if_pos q] at h; cases h
    · rw [if_neg q]
theorem pure_first_elsewhere (T : Txt D mg) (h : sp_first_elsewhere D vs H Q E) : t_first_elsewhere D (En Q) (start n_first_elsewhere vs) H := by
  obtain ⟨a, b, c, t, rfl, hc, hi, F, R, k⟩ := h
  refine q_pairs hc (ev_var rfl) fun p H1 refs hp e1 h1 hP => ?_
  refine ⟨p, rfl, ⟨_, sq_of h1⟩, for_list (K := D.K) (a := p) (xs := refs.map V.ref) (fun i σ' H' => ∃ v2 v3 v4, σ' = [some (.ref a), some (.ref b), v2, v3, v4] ∧ Ex H1 H' ∧ elsewhere c t = ((pairs c).drop i).findSome? fun q => (List.range (Fc02.rows t (Fc02.from_ c q.1))).findSome? fun r => fault3 c t q.1 q.2 r) ?_ ?_ ?_ ?_⟩
  · exact ⟨none, none, none, rfl, Ex.refl _, rfl⟩
  · rintro i σ' H' _ ⟨v2, v3, v4, rfl, e2, _⟩
    exact sq_of (e2 _ _ h1)
  · rintro i x σ' H2 hx ⟨v2, v3, v4, rfl, e2, hm⟩
    obtain ⟨r, hr, rfl⟩ := map_get_inv hx
    have il := (List.getElem?_eq_some_iff.mp hr).1
    rw [hP.1, List.length_map] at il
    obtain ⟨⟨f, g⟩, hq⟩ : ∃ q, (pairs c)[i]? = some q := ⟨_, List.getElem?_eq_getElem il⟩
    have hpm := mem_take_of hq
    have fl := (mem_others.mp (mem_pairs.mp hpm).1).2
    have ht : H2 r = some (.tup (pairV (f, g))) := e2 _ _ (hP.2 i r _ hr (by rw [List.getElem?_map, hq]; rfl))
    refine g_pair ht ?_
    have hc1 := hc.mono (e1.trans e2)
    have hi1 := hi.mono (e1.trans e2)
    refine s_forR1 (n := (Fc02.rows t (Fc02.from_ c f) : Nat)) (ea_cons (e_counts T hi1 (ev_var rfl) (e_source hc1 (ev_var rfl) (ev_var rfl) fl) (from_lt hc.2 fl)) ea_nil) (by have := rows_small hi.2 (Fc02.from_ c f); omega)
      (fun j σ2 H3 => ∃ v4, σ2 = [some (.ref a), some (.ref b), some (kN f), some (kN g), v4] ∧ Ex H2 H3 ∧ ((List.range (Fc02.rows t (Fc02.from_ c f))).findSome? fun r => fault3 c t f g r) = ((List.range (Fc02.rows t (Fc02.from_ c f))).drop j).findSome? fun r => fault3 c t f g r) ?_ ?_ ?_
    · intro H3 e3
      exact ⟨v4, rfl, e3, rfl⟩
    · rintro r σ2 H3 hr ⟨v4, rfl, e3, hs⟩
      have hr : r < Fc02.rows t (Fc02.from_ c f) := by omega
      have rg : (List.range (Fc02.rows t (Fc02.from_ c f)))[r]? = some r := by rw [List.getElem?_range hr]
      refine s_when (et_B (e_leads_elsewhere (hc1.mono e3) (hi1.mono e3) (ev_var rfl) (ev_var rfl) (ev_var rfl) (ev_var rfl) (ev_var rfl) F R hpm hr)) (fun hb H4 e4 => ?_) (fun hb H4 e4 => ?_)
      · have m : elsewhere c t = some [3, f, g, r] := by
          rw [hm, drop_cons hq, List.findSome?_cons, find_hit hs rg (fault3_val hb)]
        rw [m] at k
        refine s_retL (el_lst (ea_cons (x := kN 3) ev_c (ea_cons (ev_var rfl) (ea_cons (ev_var rfl) (ea_cons (ev_var rfl) ea_nil)))) (by show 4 ≤ 100000; decide)) fun p H5 hp e5 h5 => ?_
        exact k.go (((e1.trans e2).trans e3).trans e4) hp e5 h5
      · have n : fault3 c t f g r = none := by
          cases q : fault3 c t f g r with
          | none => rfl
          | some y => rw [q] at hb; cases hb
        exact ⟨some (kN r), rfl, e3.trans e4, find_drop (y := none) hs rg n⟩
    · rintro σ2 H3 ⟨v4, rfl, e3, hs⟩
      refine ⟨some (kN f), some (kN g), v4, rfl, e2.trans e3, ?_⟩
      have e : ((Fc02.rows t (Fc02.from_ c f) : Nat) : Int).toNat = Fc02.rows t (Fc02.from_ c f) := by omega
      rw [e, List.drop_of_length_le (by rw [List.length_range]; exact Nat.le_refl _)] at hs
      rw [hm, drop_cons hq, List.findSome?_cons, hs]
      rfl
  · rintro σ' H2 ⟨v2, v3, v4, rfl, e2, hm⟩
    rw [List.length_map, hP.1, List.length_map, List.drop_of_length_le (Nat.le_refl _)] at hm
    have hm : elsewhere c t = none := hm
    rw [hm] at k
    show tRet (tLst tNil) (En Q) [some (.ref a), some (.ref b), v2, v3, v4] H2
    exact s_retL (el_lst ea_nil (Nat.zero_le _)) fun p H3 hp e3 h3 => k.go (e1.trans e2) hp e3 h3
theorem pure_first_fault (T : Txt D mg) (h : sp_first_fault D vs H Q E) : t_first_fault D (En Q) (start n_first_fault vs) H := by
  obtain ⟨a, b, c, t, rfl, hc, hi, F, k⟩ := h
  have fe := faultI_eq c t
  refine q_asgL (e_first_missing hc hi (ev_var rfl) (ev_var rfl)) fun p H1 hp e1 h1 => ?_
  rw [map_kN] at h1
  refine q_when (et_test (ev_opL (ev_var rfl) (el_lst ea_nil (Nat.zero_le _)) fun q H2 h2 e2 => rv_neNil (e2 _ _ h1) h2)) (fun hb H2 e2 => ?_) (fun hb H2 e2 => ?_)
  · rw [empty_kN] at hb
    cases m : missing c t with
    | none => rw [m] at hb; cases hb
    | some l =>
      rw [m] at fe h1
      have fe : Fc02.faultI c t = some l := fe
      rw [fe] at k
      rw [← map_kN] at h1
      exact s_ret (ev_var rfl) fun H3 e3 => k p H3 hp ((e1.trans e2).trans e3) ((e2.trans e3) _ _ h1)
  · rw [empty_kN] at hb
    have m : missing c t = none := by
      cases m : missing c t with
      | none => rfl
      | some l =>
        exfalso
        rw [m] at hb
        have hb : (!l.isEmpty) = false := hb
        have ne : l = [] := by simpa using hb
        subst ne
        unfold missing at m
        obtain ⟨f, _, hf⟩ := List.exists_of_findSome?_eq_some m
        obtain ⟨r, _, hr⟩ := List.exists_of_findSome?_eq_some hf
        rw [fault12_code] at hr
        by_cases z : fcode c t f r = 0
        · rw [if_pos z] at hr; cases hr
        · rw [if_neg z] at hr; cases hr
    rw [m] at fe
    have fe : Fc02.faultI c t = elsewhere c t := fe
    rw [fe] at k
    exact s_retL (e_first_elsewhere (hc.mono (e1.trans e2)) (hi.mono (e1.trans e2)) (ev_var rfl) (ev_var rfl) F (right_of_missing m)) fun p H3 hp e3 h3 => k.go (e1.trans e2) hp e3 h3
theorem fault_ne (c : Fc02.Cat) (t : Fc02.Inst) : Fc02.faultI c t ≠ some [] := by
  rw [faultI_eq]
  intro h
  cases m : missing c t with
  | none =>
    rw [m] at h
    have h : elsewhere c t = some [] := h
    unfold elsewhere at h
    obtain ⟨q, _, hf⟩ := List.exists_of_findSome?_eq_some h
    obtain ⟨r, _, hr⟩ := List.exists_of_findSome?_eq_some hf
    have := fault3_val (c := c) (t := t) (f := q.1) (g := q.2) (r := r) (by rw [hr]; rfl)
    rw [hr] at this
    cases this
  | some l =>
    rw [m] at h
    cases h
    unfold missing at m
    obtain ⟨f, _, hf⟩ := List.exists_of_findSome?_eq_some m
    obtain ⟨r, _, hr⟩ := List.exists_of_findSome?_eq_some hf
    rw [fault12_code] at hr
    by_cases z : fcode c t f r = 0
    · rw [if_pos z] at hr; cases hr
    · rw [if_neg z] at hr; cases hr
theorem fault_empty (c : Fc02.Cat) (t : Fc02.Inst) : ((Fc02.faultI c t).getD []).isEmpty = (Fc02.faultI c t).isNone := by
  have n := fault_ne c t
  cases e : Fc02.faultI c t with
  | none => rfl
  | some l =>
    cases l with
    | nil => exact absurd e n
    | cons x l => rfl
theorem pure_is_right (T : Txt D mg) (h : sp_is_right D vs H Q E) : t_is_right D (En Q) (start n_is_right vs) H := by
  obtain ⟨a, b, c, t, rfl, hc, hi, F, k⟩ := h
  rw [← fault_empty, ← empty_kN] at k
  exact s_ret (ev_opLL (e_first_fault hc hi (ev_var rfl) (ev_var rfl) F) (el_lst ea_nil (Nat.zero_le _)) fun p q H1 h1 h2 e1 => rv_eqNil (by rw [← map_kN]; exact h1) h2) k
end
end AR
set_option Elab.async false
set_option linter.all false
set_option maxRecDepth 100000
set_option maxHeartbeats 4000000
/-! Promise gives reading: a new instance; rows put anew. -/
namespace AR
open PySem PySem.Spec PyProof.Rows L2 Evl
theorem Fr.ex {F : Addr → Prop} {H H1 : Hp} (a : Fr F H H1) {H2 : Hp} (e : Ex H1 H2) : Fr F H H2 := a.trans (Fr.of_ex e)
theorem CatX.frame {D : Ad} {F : Addr → Prop} {H H' : Hp} {a e d dx : Addr} {refs : List Addr} {kvs : List (List Key × V)} {c : Fc02.Cat} (fr : Fr F H H') (h : CatX D H a e d dx refs kvs c) (na : ¬ F a) (ne : ¬ F e) (nr : ∀ r, r ∈ refs → ¬ F r) (nd : ¬ F d) : CatX D H' a e d dx refs kvs c :=
  ⟨fr.keep _ _ h.ob na, fr.keep _ _ h.le ne, h.rl, fun i r p h1 h2 => fr.keep _ _ (h.rt i r p h1 h2) (nr r (List.mem_of_getElem? h1)), fr.keep _ _ h.di nd, h.dv⟩
theorem CatX.tup {D : Ad} {H : Hp} {a e d dx : Addr} {refs : List Addr} {kvs : List (List Key × V)} {c : Fc02.Cat} (h : CatX D H a e d dx refs kvs c) {r : Addr} (hr : r ∈ refs) : ∃ xs, H r = some (.tup xs) := by
  obtain ⟨i, hi, e⟩ := List.getElem_of_mem hr
  have hx : i < c.arrows.length := by rw [← h.rl]; exact hi
  exact ⟨_, h.rt i r _ (by rw [List.getElem?_eq_getElem hi, e]) (List.getElem?_eq_getElem hx)⟩
/-- the lists of an instance are lists -/
theorem InstX.lst {D : Ad} {H : Hp} {l : IL} {c : Fc02.Cat} {t : Fc02.Inst} (h : InstX D H l c t) {y : Addr} (hy : y ∈ fp l) : ∃ xs, H y = some (.lst xs) := by
  rcases List.mem_cons.mp hy with q | q
  · rw [q]; exact ⟨_, h.lc⟩
  · rcases List.mem_cons.mp q with q | q
    · rw [q]; exact ⟨_, h.ll⟩
    · exact h.ra y q
theorem CatX.offLists {D : Ad} {H : Hp} {a e d dx : Addr} {refs : List Addr} {kvs : List (List Key × V)} {c : Fc02.Cat} (h : CatX D H a e d dx refs kvs c) {F : List Addr} (hF : ∀ y, y ∈ F → ∃ xs, H y = some (.lst xs)) : a ∉ F ∧ (∀ r, r ∈ refs → r ∉ F) ∧ d ∉ F := by
  refine ⟨fun q => ?_, fun r hr q => ?_, fun q => ?_⟩
  · obtain ⟨xs, z⟩ := hF _ q
    rw [h.ob] at z; cases z
  · obtain ⟨xs, z⟩ := hF _ q
    obtain ⟨ys, w⟩ := h.tup hr
    rw [w] at z; cases z
  · obtain ⟨xs, z⟩ := hF _ q
    rw [h.di] at z; cases z
section
variable {K : PySem.W.Frag} {σ : L2.St} {H : Hp} {ta tb : TE} {v : V} {k : Nat}
theorem flat_rep (k : Nat) (v : V) : (List.replicate k [v]).flatten = List.replicate k v := by
  induction k with
  | zero => rfl
  | succ k ih => rw [List.replicate_succ, List.flatten_cons, ih]; rfl
theorem el_rep (h : EvL ta σ H [v]) (hk : ∀ H1, Ex H H1 → Ev tb σ H1 (kN k)) (hz : k ≤ 100000) : EvL (tOp rRep ta tb) σ H (List.replicate k v) := fun H1 e Q q =>
  h H1 e _ fun p H2 hp e2 h2 => hk H2 (e.trans e2) H2 (Ex.refl _) _ fun H3 e3 => ⟨p, (k : Int), [v], rfl, rfl, e3 _ _ h2, by omega, by omega, (by
    have e0 : ((k : Nat) : Int).toNat = k := by omega
    rw [e0, List.length_singleton, Nat.one_mul]
    exact sz_of hz), fun r hr => by
    have e0 : ((k : Nat) : Int).toNat = k := by omega
    rw [e0, flat_rep]
    exact q r _ (fresh_back (e2.trans e3) hr) ((e2.trans e3).trans (Ex.new hr)) upd_same⟩
end
section
variable {D : Ad} {mg : Str → Option Value} {vs : List V} {H : Hp} {Q : VK} {E : XK}
theorem put_two {x y : V} : putF "leads" y (putF "counts" x []) = ([("counts", x), ("leads", y)] : List (Str × V)) := (put_past (by decide +kernel)).trans rfl
theorem none_size (c : Fc02.Cat) : (Fc02.none_ c).size.map kN = List.replicate c.n (kN 0) := by
  show (List.map (fun _ => 0) (List.range c.n)).map kN = _
  rw [List.map_map]
  have : ∀ n, (List.range n).map (kN ∘ fun _ => 0) = List.replicate n (kN 0) := fun n => by
    rw [List.eq_replicate_iff]
    refine ⟨by rw [List.length_map, List.length_range], fun b hb => ?_⟩
    obtain ⟨_, _, rfl⟩ := List.mem_map.mp hb
    rfl
  exact this c.n
theorem none_tab (c : Fc02.Cat) (f : Nat) : (Fc02.none_ c).tab.getD f [] = [] := by
  show (List.map (fun _ => []) (Fc02.all c)).getD f [] = []
  rw [List.getD_eq_getElem?_getD, List.getElem?_map]
  cases (Fc02.all c)[f]? <;> rfl
theorem pure_init_Instance (T : Txt D mg) (h : sp_init_Instance D vs H Q E) : t_init_Instance D (En Q) (start n_init_Instance vs) H := by
  obtain ⟨p, dx, a, c, rfl, hp, hc, k⟩ := h
  have W := hc.2
  refine q_fld ?_
  refine el_rep (k := c.n) (el_lst (ea_cons (x := kN 0) ev_c ea_nil) (by show 1 ≤ 100000; decide)) (fun H1 e1 => e_things T (hc.mono e1) (ev_var rfl)) (by have := W.n3; omega) H (Ex.refl _) _ fun cl H1 hcl e1 h1 => ?_
  refine ⟨_, rfl, p, D.cI, dx, [], rfl, e1 _ _ hp, T.cl_Instance, T.na_counts, (by show 0 < 1000; decide), ?_⟩
  obtain ⟨⟨e, d, cdx, refs, kvs, q⟩, _⟩ := hc.mono e1
  have hp1 := e1 _ _ hp
  have ap : a ≠ p := fun z => by
    have w := q.ob
    rw [z, hp1] at w
    injection w with w
    injection w with _ _ w
    exact absurd w (by unfold catF; simp)
  have ep : e ≠ p := fun z => by have := q.le; rw [z, hp1] at this; cases this
  have clp : cl ≠ p := fun z => by rw [z, hp1] at h1; cases h1
  refine s_fld ?_
  refine lcL_new (K := D.K) (o := HO.lst) (ys := refs.map V.ref) (a := e) (xs := fun _ => []) (ev_fld (dx := cdx) (fs := catF c.n e d) (ev_var rfl) (by rw [upd_ne ap]; exact q.ob) T.cl_Category T.na_ends catF_ends) (by rw [upd_ne ep]; exact q.le) (by rw [List.length_map, q.rl]; have := W.len9; omega) (fun x => rfl) (fun i y H2 e2 hi => el_lst ea_nil (Nat.zero_le _)) fun ll H2 rr N => ?_
  have h2p : H2 p = _ := N.ex p _ upd_same
  have h2cl : H2 cl = _ := N.ex cl _ (by rw [upd_ne clp]; exact h1)
  refine ⟨_, rfl, p, D.cI, dx, _, rfl, h2p, T.cl_Instance, T.na_leads, (by show 1 < 1000; decide), ?_⟩
  have new : ∀ y, y ∈ ll :: rr → H1 y = none ∧ y ≠ p := fun y hy => by
    have z := N.new y hy
    have yp : y ≠ p := fun w => by rw [w, upd_same] at z; cases z
    rw [upd_ne yp] at z
    exact ⟨z, yp⟩
  have rrl : rr.length = c.arrows.length := by rw [N.pts.1, List.length_map, List.length_range, List.length_map, q.rl]
  have rrat : ∀ r, r ∈ rr → H2 r = some (.lst []) := fun r hr => by
    obtain ⟨i, hi, e⟩ := List.getElem_of_mem hr
    have hx : i < (refs.map V.ref).length := by rw [List.length_map, q.rl, ← rrl]; exact hi
    exact N.pts.2 i r [] (by rw [List.getElem?_eq_getElem hi, e]) (by rw [List.getElem?_map, List.getElem?_range hx]; rfl)
  refine k _ ⟨p, cl, ll, dx, rr⟩ rfl ⟨?_, ?_, ?_, rrl, ?_, ?_⟩ ?_ ?_ ?_
  · rw [upd_same, put_two]; rfl
  · rw [upd_ne clp, none_size]; exact h2cl
  · rw [upd_ne (new ll List.mem_cons_self).2]; exact N.at_
  · intro f r hn hr
    have hm : r ∈ rr := List.mem_of_getElem? hr
    rw [upd_ne (new r (List.mem_cons_of_mem _ hm)).2, none_tab]
    exact rrat r hm
  · intro r hr
    rw [upd_ne (new r (List.mem_cons_of_mem _ hr)).2]
    exact ⟨_, rrat r hr⟩
  · refine List.nodup_cons.mpr ⟨fun z => ?_, N.nd⟩
    have := (new cl z).1
    rw [h1] at this; cases this
  · intro y hy
    rcases List.mem_cons.mp hy with z | z
    · rw [z]; exact hcl
    · exact fresh_back e1 (new y z).1
  · refine Fr.upd ?_ (Or.inl rfl)
    exact (Fr.upd (F := fun b => b = p) (Fr.of_ex e1) (Or.inl rfl)).ex N.ex
theorem zip_get {α : Type} {l : List α} {f : Nat} {x : α} (h : l[f]? = some x) : l.zipIdx[f]? = some (x, f) := by
  rw [List.getElem?_zipIdx, h]
  simp
theorem resized_tab {c : Fc02.Cat} {t : Fc02.Inst} {x k f : Nat} (h : f < t.tab.length) : (Fc02.resized c t x k).tab.getD f [] = if Fc02.from_ c f = x ∨ Fc02.to_ c f = x then List.replicate ((t.size.set x k).getD (Fc02.from_ c f) 0) 99 else t.tab.getD f [] := by
  have e : t.tab[f]? = some (t.tab.getD f []) := by rw [List.getD_eq_getElem?_getD, List.getElem?_eq_getElem h]; rfl
  show (List.map _ t.tab.zipIdx).getD f [] = _
  rw [List.getD_eq_getElem?_getD, List.getElem?_map, zip_get e]
  rfl
theorem set_get_size {l : List Nat} {x k y : Nat} (h : y < l.length) : (l.set x k)[y]? = some ((l.set x k).getD y 0) := by
  rw [List.getD_eq_getElem?_getD, List.getElem?_eq_getElem (by rw [List.length_set]; exact h)]
  rfl
theorem map_set {α : Type} (f : α → V) (l : List α) (i : Nat) (x : α) : (l.map f).set i (f x) = (l.set i x).map f := by rw [List.map_set]
theorem others_get {c : Fc02.Cat} (W : WC c) {i f : Nat} (h : (others c)[i]? = some f) : f = c.n + i := by
  rw [others_eq W, List.getElem?_map] at h
  cases e : (List.range (c.arrows.length - c.n))[i]? with
  | none => rw [e] at h; cases h
  | some z =>
    rw [e] at h
    obtain ⟨_, h2⟩ := List.getElem?_eq_some_iff.mp e
    rw [List.getElem_range] at h2
    have h : c.n + z = f := Option.some.inj h
    omega
theorem others_len_eq {c : Fc02.Cat} (W : WC c) : (others c).length = c.arrows.length - c.n := by
  rw [others_eq W, List.length_map, List.length_range]
theorem nodup_set {α : Type} : ∀ {l : List α} {i : Nat} {p : α}, l.Nodup → p ∉ l → (l.set i p).Nodup
  | [], i, p, h, _ => by simp
  | a :: l, 0, p, h, n => by
    have h := List.nodup_cons.mp h
    exact List.nodup_cons.mpr ⟨fun z => n (List.mem_cons_of_mem _ z), h.2⟩
  | a :: l, i + 1, p, h, n => by
    have h := List.nodup_cons.mp h
    refine List.nodup_cons.mpr ⟨fun z => ?_, nodup_set h.2 fun z => n (List.mem_cons_of_mem _ z)⟩
    rcases List.mem_or_eq_of_mem_set z with z | z
    · exact h.1 z
    · exact n (by rw [z]; exact List.mem_cons_self)
/-- where the rows led, as far as the loop has come -/
def tabTo (c : Fc02.Cat) (t : Fc02.Inst) (x k i f : Nat) : List Nat := if f < c.n + i then (Fc02.resized c t x k).tab.getD f [] else t.tab.getD f []
theorem pure_put_rows (T : Txt D mg) (h : sp_put_rows D vs H Q E) : t_put_rows D (En Q) (start n_put_rows vs) H := by
  obtain ⟨a, e, d, cdx, refs, kvs, c, l, t, x, k, rfl, hC, W, hI, wI, nd, enf, hx, hk, kont⟩ := h
  obtain ⟨na, nr, ndd⟩ := hC.offLists (F := fp l) fun y hy => hI.lst hy
  have clm : l.cl ∈ fp l := List.mem_cons_self
  have llm : l.ll ∈ fp l := List.mem_cons_of_mem _ List.mem_cons_self
  have clll : l.cl ≠ l.ll := fun z => (List.nodup_cons.mp nd).1 (by rw [z]; exact List.mem_cons_self)
  have bnf : l.b ∉ fp l := fun z => by obtain ⟨xs, w⟩ := hI.lst z; rw [hI.ob] at w; cases w
  have rrne : ∀ (r : Addr), r ∈ l.rr → r ≠ l.cl ∧ r ≠ l.ll := fun r hr => ⟨fun z => (List.nodup_cons.mp nd).1 (by rw [← z]; exact List.mem_cons_of_mem _ hr), fun z => (List.nodup_cons.mp (List.nodup_cons.mp nd).2).1 (by rw [← z]; exact hr)⟩
  have xl : x < t.size.length := by rw [wI.sz]; exact hx
  -- instance.counts[x] = k
  refine q_setL (j := x) (v := kN k) hI.lc (ev_var rfl) (ev_fld (ev_var rfl) hI.ob T.cl_Instance T.na_counts instF_counts) (ev_var rfl) (by rw [List.length_map]; exact xl) fun H1 e1 => ?_
  rw [map_set]
  have f1 : Fr (· ∈ fp l) H (upd H1 l.cl (.lst ((t.size.set x k).map kN))) := (Fr.of_ex e1).upd (Or.inl clm)
  have hC1 : ∀ {H' : Hp}, Fr (· ∈ fp l) H H' → CatAt D H' a c := fun fr => ⟨⟨e, d, cdx, refs, kvs, hC.frame fr na enf nr ndd⟩, W⟩
  refine s_forNL (K := D.K) (e_others (hC1 f1) (ev_var rfl)) (fun q i σ' H' => ∃ (v4 : Option V) (rr : List Addr), σ' = [some (.ref a), some (.ref l.b), some (kN x), some (kN k), v4] ∧ q ∉ fp l ∧ q ∉ rr ∧ H' q = some (.lst ((others c).map kN)) ∧ Fr (· ∈ fp l) H H' ∧ H' l.cl = some (.lst ((t.size.set x k).map kN)) ∧ H' l.ll = some (.lst (rr.map V.ref)) ∧ rr.length = c.arrows.length ∧
    (∀ f r, c.n ≤ f → rr[f]? = some r → H' r = some (.lst ((tabTo c t x k i f).map kN))) ∧ (∀ r, r ∈ rr → ∃ xs, H' r = some (.lst xs)) ∧ (l.cl :: l.ll :: rr).Nodup ∧ (∀ r, r ∈ rr → r ∈ fp l ∨ H r = none)) ?_ ?_ ?_ ?_
  · intro q H2 hq e2 h2
    have qn : ∀ y, y ∈ fp l → q ≠ y := fun y hy z => by
      obtain ⟨xs, w⟩ := hI.lst hy
      by_cases yc : y = l.cl
      · rw [z, yc, upd_same] at hq; cases hq
      · rw [z, upd_ne yc, e1 _ _ w] at hq; cases hq
    have keep : ∀ r, r ∈ l.rr → ∀ xs, H r = some (.lst xs) → H2 r = some (.lst xs) := fun r hr xs h => e2 _ _ (by rw [upd_ne (rrne r hr).1]; exact e1 _ _ h)
    refine ⟨none, l.rr, rfl, fun z => qn q z rfl, fun z => qn q (List.mem_cons_of_mem _ (List.mem_cons_of_mem _ z)) rfl, h2, f1.ex e2, e2 _ _ upd_same, e2 _ _ (by rw [upd_ne (Ne.symm clll)]; exact e1 _ _ hI.ll), hI.rl, fun f r hn hr => ?_, fun r hr => ?_, nd, fun r hr => Or.inl (List.mem_cons_of_mem _ (List.mem_cons_of_mem _ hr))⟩
    · have e0 : tabTo c t x k 0 f = t.tab.getD f [] := by unfold tabTo; rw [if_neg (by omega)]
      rw [e0]
      exact keep r (List.mem_of_getElem? hr) _ (hI.rw f r hn hr)
    · obtain ⟨xs, z⟩ := hI.ra r hr
      exact ⟨xs, keep r hr xs z⟩
  · rintro q i σ' H' _ ⟨v4, rr, rfl, _, _, hq, _⟩
    exact sq_of hq
  · rintro q i y σ' H2 hy ⟨v4, rr, rfl, qf, qr, hq, fr, hcl, hll, rrl, hrw, hra, hnd, hnew⟩
    obtain ⟨f, hf, rfl⟩ := map_get_inv hy
    have fi := others_get W hf
    have fo := mem_take_of hf
    obtain ⟨hn, hl⟩ := mem_others.mp fo
    have hc2 := hC1 fr
    have hob : H2 l.b = some (.ins D.cI l.dx (instF l)) := fr.keep _ _ hI.ob bnf
    have tabl : f < t.tab.length := by rw [wI.tabl]; exact hl
    have step : ∀ g, g ≠ f → tabTo c t x k (i + 1) g = tabTo c t x k i g := fun g hg => by
      unfold tabTo
      by_cases z : g < c.n + i
      · rw [if_pos z, if_pos (by omega)]
      · rw [if_neg z, if_neg (by omega)]
    have here : tabTo c t x k (i + 1) f = (Fc02.resized c t x k).tab.getD f [] := by unfold tabTo; rw [if_pos (by omega)]
    have was : tabTo c t x k i f = t.tab.getD f [] := by unfold tabTo; rw [if_neg (by omega)]
    refine s_when (et_B (e_touches hc2 (ev_var rfl) (ev_var rfl) (ev_var rfl) hl)) (fun hb H3 e3 => ?_) (fun hb H3 e3 => ?_)
    · have tch : Fc02.from_ c f = x ∨ Fc02.to_ c f = x := by simpa using hb
      have hc3 := hc2.mono e3
      have cnt : ∀ H4, Ex H3 H4 → Ev (tOp (rIxL D.K) (tFld D.K (tVar 1) "counts") (tMeth D.cC "source" (sp_source D) [] C8.E0 (tVar 0) (tCons (tVar 4) tNil))) [some (.ref a), some (.ref l.b), some (kN x), some (kN k), some (kN f)] H4 (kN ((t.size.set x k).getD (Fc02.from_ c f) 0)) := fun H4 e4 =>
        ev_ixL (ev_fld (ev_var rfl) (e4 _ _ (e3 _ _ hob)) T.cl_Instance T.na_counts instF_counts) (e_source (hc3.mono e4) (ev_var rfl) (ev_var rfl) hl) (e4 _ _ (e3 _ _ hcl)) (map_get (set_get_size (by rw [wI.sz]; exact from_lt W hl)))
      have small : (t.size.set x k).getD (Fc02.from_ c f) 0 ≤ 100000 := by
        have fl := from_lt W hl
        rw [List.getD_eq_getElem?_getD, List.getElem?_set]
        by_cases z : x = Fc02.from_ c f
        · rw [if_pos z]
          by_cases w : Fc02.from_ c f < t.size.length
          · rw [if_pos (by rw [z]; exact w)]; show k ≤ 100000; omega
          · rw [if_neg (by rw [z]; exact w)]; show 0 ≤ 100000; omega
        · rw [if_neg z]
          have := rows_small wI (Fc02.from_ c f)
          unfold Fc02.rows at this
          rw [List.getD_eq_getElem?_getD] at this
          omega
      refine el_rep (el_lst (ea_cons (x := kN 99) ev_c ea_nil) (by show 1 ≤ 100000; decide)) cnt small H3 (Ex.refl _) _ fun p H4 hp e4 h4 => ?_
      have pn3 : H3 p = none := hp
      have e34 := e3.trans e4
      have pfl : p ∉ fp l := fun z => by
        obtain ⟨xs, w⟩ := hI.lst z
        have : H p = none := (fr.ex e3).back p hp
        rw [w] at this; cases this
      have pcl : p ≠ l.cl := fun z => pfl (z ▸ clm)
      have pll : p ≠ l.ll := fun z => pfl (z ▸ llm)
      have prr : p ∉ rr := fun z => by
        obtain ⟨xs, w⟩ := hra p z
        rw [e3 _ _ w] at hp; cases hp
      have pq : p ≠ q := fun z => by rw [z, e3 _ _ hq] at hp; cases hp
      have hrr : ∀ r, r ∈ rr → r ≠ l.ll := fun r hr z => (List.nodup_cons.mp (List.nodup_cons.mp hnd).2).1 (by rw [← z]; exact hr)
      have hln : f < (rr.map V.ref).length := by rw [List.length_map, rrl]; exact hl
      refine ⟨_, rfl, l.b, D.cI, l.dx, _, _, rfl, e34 _ _ hob, T.cl_Instance, T.na_leads, instF_leads, _, rfl, l.ll, rr.map V.ref, _, f, rfl, rfl, e34 _ _ hll, ixN_nat hln, ?_⟩
      have setm : (rr.map V.ref).set f (.ref p) = (rr.set f p).map V.ref := by rw [List.map_set]
      refine ⟨some (kN f), rr.set f p, rfl, qf, fun z => ?_, ?_, ?_, ?_, ?_, ?_, fun g r hg hr => ?_, fun r hr => ?_, ?_, fun r hr => ?_⟩
      · rcases List.mem_or_eq_of_mem_set z with z | z
        · exact qr z
        · exact pq z.symm
      · rw [upd_ne (fun z : q = l.ll => qf (by rw [z]; exact llm))]; exact e34 _ _ hq
      · exact (fr.ex e34).upd (Or.inl llm)
      · rw [upd_ne clll]; exact e34 _ _ hcl
      · rw [upd_same, setm]
      · rw [List.length_set]; exact rrl
      · have rm := List.mem_of_getElem? hr
        by_cases gf : g = f
        · subst gf
          rw [List.getElem?_set, if_pos rfl, if_pos (by rw [rrl]; exact hl)] at hr
          cases hr
          rw [upd_ne pll, here, resized_tab tabl, if_pos tch, h4, List.map_replicate]
        · rw [List.getElem?_set, if_neg (Ne.symm gf)] at hr
          rw [upd_ne (hrr r (List.mem_of_getElem? hr)), step g gf]
          exact e34 _ _ (hrw g r hg hr)
      · rcases List.mem_or_eq_of_mem_set hr with z | z
        · obtain ⟨xs, w⟩ := hra r z
          exact ⟨xs, by rw [upd_ne (hrr r z)]; exact e34 _ _ w⟩
        · rw [z]
          exact ⟨_, by rw [upd_ne pll]; exact h4⟩
      · have n1 := List.nodup_cons.mp hnd
        have n2 := List.nodup_cons.mp n1.2
        refine List.nodup_cons.mpr ⟨fun z => ?_, List.nodup_cons.mpr ⟨fun z => ?_, ?_⟩⟩
        · rcases List.mem_cons.mp z with z | z
          · exact clll z
          · rcases List.mem_or_eq_of_mem_set z with z | z
            · exact n1.1 (List.mem_cons_of_mem _ z)
            · exact pcl z.symm
        · rcases List.mem_or_eq_of_mem_set z with z | z
          · exact n2.1 z
          · exact pll z.symm
        · exact nodup_set n2.2 prr
      · rcases List.mem_or_eq_of_mem_set hr with z | z
        · exact hnew r z
        · rw [z]
          exact Or.inr ((fr.ex e3).back p hp)
    · have tch : ¬ (Fc02.from_ c f = x ∨ Fc02.to_ c f = x) := by simpa using hb
      refine ⟨some (kN f), rr, rfl, qf, qr, e3 _ _ hq, fr.ex e3, e3 _ _ hcl, e3 _ _ hll, rrl, fun g r hg hr => ?_, fun r hr => let ⟨xs, w⟩ := hra r hr; ⟨xs, e3 _ _ w⟩, hnd, hnew⟩
      by_cases gf : g = f
      · subst gf
        rw [here, resized_tab tabl, if_neg tch, ← was]
        exact e3 _ _ (hrw g r hg hr)
      · rw [step g gf]
        exact e3 _ _ (hrw g r hg hr)
  · rintro q σ' H2 ⟨v4, rr, rfl, qf, qr, hq, fr, hcl, hll, rrl, hrw, hra, hnd, hnew⟩
    rw [List.length_map, others_len_eq W] at hrw
    refine kont H2 ⟨l.b, l.cl, l.ll, l.dx, rr⟩ rfl ⟨fr.keep _ _ hI.ob bnf, hcl, hll, rrl, fun f r hn hr => ?_, hra⟩ hnd (fun y hy => ?_) fr
    · have fl : f < c.arrows.length := by
        have := (List.getElem?_eq_some_iff.mp hr).1
        rw [rrl] at this; exact this
      have e0 : tabTo c t x k (c.arrows.length - c.n) f = (Fc02.resized c t x k).tab.getD f [] := by unfold tabTo; rw [if_pos (by omega)]
      rw [← e0]
      exact hrw f r hn hr
    · rcases List.mem_cons.mp hy with z | z
      · exact Or.inl (by rw [z]; exact clm)
      · rcases List.mem_cons.mp z with z | z
        · exact Or.inl (by rw [z]; exact llm)
        · exact hnew y z
end
end AR
set_option Elab.async false
set_option linter.all false
set_option maxRecDepth 100000
set_option maxHeartbeats 4000000
/-! The promises: maps. -/
namespace AR
open PySem PySem.Spec PyProof.Rows L2 Evl
/-- a new list of new lists (tuples) of these -/
def RetN (o : List V → HO) (xs : List (List V)) (H : Hp) (Q : VK) : Prop := ∀ p H2 refs, NewL H H2 o xs p refs → Q (.ref p) H2
theorem NewL.base {H H1 H2 : Hp} {o : List V → HO} {xs : List (List V)} {p : Addr} {refs : List Addr} (e : Ex H H1) (h : NewL H1 H2 o xs p refs) : NewL H H2 o xs p refs := ⟨e.trans h.ex, h.at_, h.pts, fun r hr => fresh_back e (h.new r hr), h.nd⟩
def listsV (ms : List (List Nat)) : List (List V) := ms.map fun m => m.map kN
def condV (rr : List Addr) (q : Nat × Nat × Nat) : List V := [kN q.1, kN q.2.1, .ref (rr.getD q.2.2 0)]
/-- a list of conditions at q -/
def CondsAt (H : Hp) (rr : List Addr) (q : Addr) (cs : List (Nat × Nat × Nat)) : Prop := ∃ refs, H q = some (.lst (refs.map V.ref)) ∧ Pts H .tup refs (cs.map (condV rr))
theorem CondsAt.mono {H H' : Hp} {rr : List Addr} {q : Addr} {cs : List (Nat × Nat × Nat)} (e : Ex H H') (h : CondsAt H rr q cs) : CondsAt H' rr q cs :=
  let ⟨refs, h1, h2⟩ := h
  ⟨refs, e _ _ h1, h2.mono e⟩
/-- the conditions speak of rows that are there -/
def CondsOk (c : Fc02.Cat) (t : Fc02.Inst) (cs : List (Nat × Nat × Nat)) (m : List Nat) : Prop := ∀ q, q ∈ cs → q.2.2 ∈ others c ∧ q.1 < m.length ∧ q.2.1 < m.length ∧ m.getD q.1 0 < Fc02.rows t (Fc02.from_ c q.2.2)
def linkV (q : Nat × Nat × Nat) : List V := [kN q.2.2, kN q.1, kN q.2.1]
def headsOf (fs : List Nat) : List Nat := (List.range fs.length).filter fun i => decide (i = fs.getD i 0)
def sp_rows_in_order (D : Ad) : Sp := fun vs H Q _ => ∃ (b : Addr) (c : Fc02.Cat) (t : Fc02.Inst), vs = [.ref b] ∧ InstAt D H b c t ∧ RetP .tup ((Fc02.places c t).map pairV) H Q
def sp_links (D : Ad) : Sp := fun vs H Q _ => ∃ (a b : Addr) (c : Fc02.Cat) (t : Fc02.Inst), vs = [.ref a, .ref b] ∧ CatAt D H a c ∧ InstAt D H b c t ∧ RetP .tup ((condsAll c t).map linkV) H Q
def sp_brought_along (D : Ad) : Sp := fun vs H Q _ => ∃ (a b q : Addr) (c : Fc02.Cat) (t : Fc02.Inst) (ps : List Nat), vs = [.ref a, .ref b, .ref q] ∧ CatAt D H a c ∧ InstAt D H b c t ∧ H q = some (.lst (ps.map kN)) ∧ ps.length ≤ 1000 ∧ RetP .tup (((Fc02.places c t).filter fun p => decide (at_ t p ∈ broughtIx c t ps)).map pairV) H Q
def sp_first_places (D : Ad) : Sp := fun vs H Q _ => ∃ (a b : Addr) (c : Fc02.Cat) (t : Fc02.Inst), vs = [.ref a, .ref b] ∧ CatAt D H a c ∧ InstAt D H b c t ∧ Right c t ∧ RetL ((firstsF c t).map kN) H Q
def sp_piece_numbers (D : Ad) : Sp := fun vs H Q _ => ∃ (q : Addr) (fs : List Nat), vs = [.ref q] ∧ H q = some (.lst (fs.map kN)) ∧ fs.length ≤ 1000 ∧ (∀ v, v ∈ fs → v ∈ headsOf fs) ∧ RetL ((fs.map (ixOf (headsOf fs))).map kN) H Q
def sp_place_of_row (D : Ad) : Sp := fun vs H Q _ => ∃ (b : Addr) (c : Fc02.Cat) (t : Fc02.Inst) (x r : Nat), vs = [.ref b, kN x, kN r] ∧ InstAt D H b c t ∧ RetV (kN (Fc02.offset t x + r)) H Q
def sp_takes_there (D : Ad) : Sp := fun vs H Q _ => ∃ (w q : Addr) (refs : List Addr) (m : List Nat) (ws : List (Nat × Nat)), vs = [.ref w, .ref q] ∧ H w = some (.lst (m.map kN)) ∧ H q = some (.lst (refs.map V.ref)) ∧ Pts H .tup refs (ws.map pairV) ∧ (∀ z, z ∈ ws → z.1 < m.length) ∧ RetV (.bl (ws.all fun z => m.getD z.1 0 == z.2)) H Q
def sp_takes_to_each_once (D : Ad) : Sp := fun vs H Q _ => ∃ (b b2 w : Addr) (c : Fc02.Cat) (s t : Fc02.Inst) (m : List Nat), vs = [.ref b, .ref b2, .ref w] ∧ InstAt D H b c s ∧ InstAt D H b2 c t ∧ H w = some (.lst (m.map kN)) ∧ m.length = Fc02.total s ∧ RetV (.bl (Fc02.isTurn c s t m)) H Q
def sp_arrows_by_end (D : Ad) : Sp := fun vs H Q _ => ∃ (a : Addr) (c : Fc02.Cat) (x : Nat), vs = [.ref a, kN x] ∧ CatAt D H a c ∧ RetN .lst (listsV ((List.range c.n).map (Fc02.hom c x))) H Q
def sp_arrows_as_rows (D : Ad) : Sp := fun vs H Q _ => ∃ (a : Addr) (c : Fc02.Cat) (x : Nat), vs = [.ref a, kN x] ∧ CatAt D H a c ∧ Fit c ∧
  ∀ (H' : Hp) (l : IL), InstX D H' l c (Fc02.arrowsOf c x) → (fp l).Nodup → (∀ y, y ∈ fp l → H y = none) → H l.b = none → Ex H H' → Q (.ref l.b) H'
def sp_map_to_row (D : Ad) : Sp := fun vs H Q _ => ∃ (a b : Addr) (c : Fc02.Cat) (t : Fc02.Inst) (x r : Nat), vs = [.ref a, .ref b, kN x, kN r] ∧ CatAt D H a c ∧ InstAt D H b c t ∧ r < Fc02.rows t x ∧ RetL ((Fc02.mapOf c t x r).map kN) H Q
def sp_conditions_by_place (D : Ad) : Sp := fun vs H Q _ => ∃ (a b : Addr) (l : IL) (c : Fc02.Cat) (s t : Fc02.Inst), vs = [.ref a, .ref b, .ref l.b] ∧ CatAt D H a c ∧ InstAt D H b c s ∧ InstX D H l c t ∧ Right c s ∧
  ∀ (p : Addr) (H2 : Hp) (qs : List Addr), Ex H H2 → H2 p = some (.lst (qs.map V.ref)) → qs.length = Fc02.total s → (∀ (k : Nat) (q : Addr), qs[k]? = some q → CondsAt H2 l.rr q (conds c s k)) → Q (.ref p) H2
def sp_holds (D : Ad) : Sp := fun vs H Q _ => ∃ (q w : Addr) (l : IL) (c : Fc02.Cat) (t : Fc02.Inst) (cs : List (Nat × Nat × Nat)) (m : List Nat), vs = [.ref q, .ref w] ∧ InstX D H l c t ∧ WI c t ∧ CondsAt H l.rr q cs ∧ H w = some (.lst (m.map kN)) ∧ CondsOk c t cs m ∧ RetV (.bl (holdsM c t cs m)) H Q
def sp_grown (D : Ad) : Sp := fun vs H Q _ => ∃ (u q : Addr) (refs : List Addr) (l : IL) (c : Fc02.Cat) (t : Fc02.Inst) (ms : List (List Nat)) (k : Nat) (cs : List (Nat × Nat × Nat)), vs = [.ref u, kN k, .ref q] ∧ InstX D H l c t ∧ WI c t ∧ H u = some (.lst (refs.map V.ref)) ∧ Pts H .lst refs (listsV ms) ∧ CondsAt H l.rr q cs ∧
  (∀ m, m ∈ ms → m.length ≤ 10 ∧ ∀ v, v < k → CondsOk c t cs (m ++ [v])) ∧ k ≤ 6 ∧ ms.length ≤ 7776 ∧ RetN .lst (listsV (grownM c t ms k cs)) H Q
def sp_all_maps (D : Ad) : Sp := fun vs H Q _ => ∃ (a b b2 : Addr) (c : Fc02.Cat) (s t : Fc02.Inst), vs = [.ref a, .ref b, .ref b2] ∧ CatAt D H a c ∧ InstAt D H b c s ∧ InstAt D H b2 c t ∧ Right c s ∧ RetN .lst (listsV (Fc02.maps c s t)) H Q
section
variable {D : Ad} {H : Hp} {a b : Addr} {c : Fc02.Cat} {t : Fc02.Inst} {σ : L2.St} {ta tb tc td te : TE} {f g r x : Nat}
theorem c_links {Q : VK} (hc : CatAt D H a c) (hi : InstAt D H b c t) (h0 : Ev ta σ H (.ref a)) (h1 : Ev tb σ H (.ref b)) (k : RetP .tup ((condsAll c t).map linkV) H Q) : tCall (sp_links D) [] C8.E0 (tCons ta (tCons tb tNil)) σ H Q :=
  ea_cons h0 (ea_cons h1 ea_nil) H (Ex.refl H) _ fun H1 e1 => ⟨a, b, c, t, rfl, hc.mono e1, hi.mono e1, fun p H2 refs hp e2 h2 hP => k.go e1 hp e2 h2 hP⟩
theorem c_rows_in_order {Q : VK} (hi : InstAt D H b c t) (h0 : Ev ta σ H (.ref b)) (k : RetP .tup ((Fc02.places c t).map pairV) H Q) : tCall (sp_rows_in_order D) [] C8.E0 (tCons ta tNil) σ H Q :=
  ea_cons h0 ea_nil H (Ex.refl H) _ fun H1 e1 => ⟨b, c, t, rfl, hi.mono e1, fun p H2 refs hp e2 h2 hP => k.go e1 hp e2 h2 hP⟩
theorem e_arrows_between {x y : Nat} (hc : CatAt D H a c) (h0 : Ev ta σ H (.ref a)) (h1 : Ev tb σ H (kN x)) (h2 : Ev tc σ H (kN y)) : EvL (tCall (sp_arrows_between D) [] C8.E0 (tCons ta (tCons tb (tCons tc tNil)))) σ H ((Fc02.hom c x y).map kN) :=
  el_call (ea_cons h0 (ea_cons h1 (ea_cons h2 ea_nil))) fun H1 e Q q E => ⟨a, c, x, y, rfl, hc.mono e, q⟩
theorem c_arrows_by_end {Q : VK} {x : Nat} (hc : CatAt D H a c) (h0 : Ev ta σ H (.ref a)) (h1 : Ev tb σ H (kN x)) (k : RetN .lst (listsV ((List.range c.n).map (Fc02.hom c x))) H Q) : tCall (sp_arrows_by_end D) [] C8.E0 (tCons ta (tCons tb tNil)) σ H Q :=
  ea_cons h0 (ea_cons h1 ea_nil) H (Ex.refl H) _ fun H1 e1 => ⟨a, c, x, rfl, hc.mono e1, fun p H2 refs N => k p H2 refs (N.base e1)⟩
theorem e_takes_there {w q : Addr} {refs : List Addr} {m : List Nat} {ws : List (Nat × Nat)} (hw : H w = some (.lst (m.map kN))) (hq : H q = some (.lst (refs.map V.ref))) (hP : Pts H .tup refs (ws.map pairV)) (hl : ∀ z, z ∈ ws → z.1 < m.length) (h0 : Ev ta σ H (.ref w)) (h1 : Ev tb σ H (.ref q)) : Ev (tCall (sp_takes_there D) [] C8.E0 (tCons ta (tCons tb tNil))) σ H (.bl (ws.all fun z => m.getD z.1 0 == z.2)) :=
  ev_call (ea_cons h0 (ea_cons h1 ea_nil)) fun H1 e Q k E => ⟨w, q, refs, m, ws, rfl, e _ _ hw, e _ _ hq, hP.mono e, hl, k⟩
theorem e_takes_once {b2 w : Addr} {s : Fc02.Inst} {m : List Nat} (hi : InstAt D H b c s) (hi2 : InstAt D H b2 c t) (hw : H w = some (.lst (m.map kN))) (hm : m.length = Fc02.total s) (h0 : Ev ta σ H (.ref b)) (h1 : Ev tb σ H (.ref b2)) (h2 : Ev tc σ H (.ref w)) : Ev (tCall (sp_takes_to_each_once D) [] C8.E0 (tCons ta (tCons tb (tCons tc tNil)))) σ H (.bl (Fc02.isTurn c s t m)) :=
  ev_call (ea_cons h0 (ea_cons h1 (ea_cons h2 ea_nil))) fun H1 e Q k E => ⟨b, b2, w, c, s, t, m, rfl, hi.mono e, hi2.mono e, e _ _ hw, hm, k⟩
theorem e_place_of_row (hi : InstAt D H b c t) (h0 : Ev ta σ H (.ref b)) (h1 : Ev tb σ H (kN x)) (h2 : Ev tc σ H (kN r)) : Ev (tCall (sp_place_of_row D) [] C8.E0 (tCons ta (tCons tb (tCons tc tNil)))) σ H (kN (Fc02.offset t x + r)) :=
  ev_call (ea_cons h0 (ea_cons h1 (ea_cons h2 ea_nil))) fun H1 e Q q E => ⟨b, c, t, x, r, rfl, hi.mono e, q⟩
theorem e_holds {q w : Addr} {l : IL} {cs : List (Nat × Nat × Nat)} {m : List Nat} (hi : InstX D H l c t) (wi : WI c t) (hq : CondsAt H l.rr q cs) (hw : H w = some (.lst (m.map kN))) (ok : CondsOk c t cs m) (h0 : Ev ta σ H (.ref q)) (h1 : Ev tb σ H (.ref w)) : Ev (tCall (sp_holds D) [] C8.E0 (tCons ta (tCons tb tNil))) σ H (.bl (holdsM c t cs m)) :=
  ev_call (ea_cons h0 (ea_cons h1 ea_nil)) fun H1 e Q k E => ⟨q, w, l, c, t, cs, m, rfl, hi.mono e, wi, hq.mono e, e _ _ hw, ok, k⟩
end
end AR
set_option Elab.async false
set_option linter.all false
set_option maxRecDepth 100000
set_option maxHeartbeats 4000000
/-! The readings of the defs (printed by gen.py). -/
namespace AR
open PySem PySem.Spec PyProof.Rows L2
abbrev n_rows_in_order : List Str := ["instance", "found", "x", "k", "r"]
def t_rows_in_order (D : Ad) : TS :=
  (tSeq (tAsg (tLst tNil) (gName 1)) (tSeq (tFor (iEnum D.K (tCons (tFld D.K (tVar 0) "counts") tNil)) (gTup D.K 2 (gCons (gName 2) (gCons (gName 3) gNil))) (tDrop (tBM D.K "list" rExtend (tVar 1) (tCons (tLc (iRng1 (tCons (tVar 3) tNil)) (gName 4) tYes (tTup (tCons (tVar 2) (tCons (tVar 4) tNil))) [4]) tNil)))) (tRet (tVar 1))))
abbrev n_place_of_row : List Str := ["instance", "x", "r"]
def t_place_of_row (D : Ad) : TS :=
  (tRet (tOp rAddI (tCB (rSum D.K) (tCons (tSl (rSlL D.K) (tFld D.K (tVar 0) "counts") tNoPart (tPart (tVar 1))) tNil)) (tVar 2)))
abbrev n_links : List Str := ["category", "instance", "found", "f", "x", "r", "here", "there"]
def t_links (D : Ad) : TS :=
  (tSeq (tAsg (tLst tNil) (gName 2)) (tSeq (tFor (iList D.K (tMeth D.cC "others" (sp_others D) [] C8.E0 (tVar 0) tNil)) (gName 3) (tSeq (tAsg (tMeth D.cC "source" (sp_source D) [] C8.E0 (tVar 0) (tCons (tVar 3) tNil)) (gName 4)) (tFor (iRng1 (tCons (tOp (rIxL D.K) (tFld D.K (tVar 1) "counts") (tVar 4)) tNil)) (gName 5) (tSeq (tAsg (tCall (sp_place_of_row D) [] C8.E0 (tCons (tVar 1) (tCons (tVar 4) (tCons (tVar 5) tNil)))) (gName 6)) (tSeq (tAsg (tCall (sp_place_of_row D) [] C8.E0 (tCons (tVar 1) (tCons (tMeth D.cC "target" (sp_target D) [] C8.E0 (tVar 0) (tCons (tVar 3) tNil)) (tCons (tCall (sp_leads_to D) [] C8.E0 (tCons (tVar 0) (tCons (tVar 1) (tCons (tVar 3) (tCons (tVar 5) tNil))))) tNil)))) (gName 7)) (tDrop (tBM D.K "list" rAppend (tVar 2) (tCons (tTup (tCons (tVar 3) (tCons (tVar 6) (tCons (tVar 7) tNil)))) tNil)))))))) (tRet (tVar 2))))
abbrev n_brought_along : List Str := ["category", "instance", "places", "reached", "f", "here", "there", "place", "row"]
def t_brought_along (D : Ad) : TS :=
  (tSeq (tAsg (tCB (Evl.rListS D.K) (tCons (tVar 2) tNil)) (gName 3)) (tSeq (tFor (iList D.K (tCall (sp_links D) [] C8.E0 (tCons (tVar 0) (tCons (tVar 1) tNil)))) (gTup D.K 3 (gCons (gName 4) (gCons (gName 5) (gCons (gName 6) gNil)))) (tIfS (tTest (tOp (rIn D.K false) (tVar 5) (tVar 2))) (tDrop (tBM D.K "list" rAppend (tVar 3) (tCons (tVar 6) tNil))) tNext)) (tRet (tLc (iEnum D.K (tCons (tCall (sp_rows_in_order D) [] C8.E0 (tCons (tVar 1) tNil)) tNil)) (gTup D.K 2 (gCons (gName 7) (gCons (gName 8) gNil))) (tTest (tOp (rIn D.K false) (tVar 7) (tVar 3))) (tVar 8) [7, 8]))))
abbrev n_first_places : List Str := ["category", "instance", "count", "steps", "firsts", "turn", "f", "here", "there", "lower"]
def t_first_places (D : Ad) : TS :=
  (tSeq (tAsg (tMeth D.cI "row_count" (sp_row_count D) [] C8.E0 (tVar 1) tNil) (gName 2)) (tSeq (tAsg (tCall (sp_links D) [] C8.E0 (tCons (tVar 0) (tCons (tVar 1) tNil))) (gName 3)) (tSeq (tAsg (tLstRg (tRg1 (tVar 2))) (gName 4)) (tSeq (tFor (iRng1 (tCons (tVar 2) tNil)) (gName 5) (tFor (iList D.K (tVar 3)) (gTup D.K 3 (gCons (gName 6) (gCons (gName 7) (gCons (gName 8) gNil)))) (tSeq (tAsg (tCB rMin2 (tCons (tOp (rIxL D.K) (tVar 4) (tVar 7)) (tCons (tOp (rIxL D.K) (tVar 4) (tVar 8)) tNil))) (gName 9)) (tSeq (tAsg (tVar 9) (gSub (tVar 4) (tVar 7) rSetL)) (tAsg (tVar 9) (gSub (tVar 4) (tVar 8) rSetL)))))) (tRet (tVar 4))))))
abbrev n_piece_numbers : List Str := ["firsts", "heads", "place", "first"]
def t_piece_numbers (D : Ad) : TS :=
  (tSeq (tAsg (tLc (iEnum D.K (tCons (tVar 0) tNil)) (gTup D.K 2 (gCons (gName 2) (gCons (gName 3) gNil))) (tTest (tOp rEq (tVar 2) (tVar 3))) (tVar 2) [2, 3]) (gName 1)) (tRet (tLc (iList D.K (tVar 0)) (gName 3) tYes (tBM D.K "list" (rIndex D.K) (tVar 1) (tCons (tVar 3) tNil)) [3])))
abbrev n_conditions_by_place : List Str := ["category", "first", "second", "conditions", "row", "f", "here", "there"]
def t_conditions_by_place (D : Ad) : TS :=
  (tSeq (tAsg (tLc (iList D.K (tCall (sp_rows_in_order D) [] C8.E0 (tCons (tVar 1) tNil))) (gName 4) tYes (tLst tNil) [4]) (gName 3)) (tSeq (tFor (iList D.K (tCall (sp_links D) [] C8.E0 (tCons (tVar 0) (tCons (tVar 1) tNil)))) (gTup D.K 3 (gCons (gName 5) (gCons (gName 6) (gCons (gName 7) gNil)))) (tDrop (tBM D.K "list" rAppend (tOp (rIxL D.K) (tVar 3) (tCB Evl.rMax2 (tCons (tVar 6) (tCons (tVar 7) tNil)))) (tCons (tTup (tCons (tVar 6) (tCons (tVar 7) (tCons (tOp (rIxL D.K) (tFld D.K (tVar 2) "leads") (tVar 5)) tNil)))) tNil)))) (tRet (tVar 3))))
abbrev n_holds : List Str := ["conditions", "taken", "here", "there", "leads"]
def t_holds (D : Ad) : TS :=
  (tSeq (tFor (iList D.K (tVar 0)) (gTup D.K 3 (gCons (gName 2) (gCons (gName 3) (gCons (gName 4) gNil)))) (tIfS (tTest (tOp rNe (tOp (rIxL D.K) (tVar 4) (tOp (rIxL D.K) (tVar 1) (tVar 2))) (tOp (rIxL D.K) (tVar 1) (tVar 3)))) (tRet (tC (.bl false))) tNext)) (tRet (tC (.bl true))))
abbrev n_grown : List Str := ["beginnings", "choices", "conditions", "longer", "beginning", "row", "taken"]
def t_grown (D : Ad) : TS :=
  (tSeq (tAsg (tLst tNil) (gName 3)) (tSeq (tFor (iList D.K (tVar 0)) (gName 4) (tFor (iRng1 (tCons (tVar 1) tNil)) (gName 5) (tSeq (tAsg (tOp rCat (tVar 4) (tLst (tCons (tVar 5) tNil))) (gName 6)) (tIfS (tB (tCall (sp_holds D) [] C8.E0 (tCons (tVar 2) (tCons (tVar 6) tNil)))) (tDrop (tBM D.K "list" rAppend (tVar 3) (tCons (tVar 6) tNil))) tNext)))) (tRet (tVar 3))))
abbrev n_all_maps : List Str := ["category", "first", "second", "conditions", "found", "place", "row"]
def t_all_maps (D : Ad) : TS :=
  (tSeq (tAsg (tCall (sp_conditions_by_place D) [] C8.E0 (tCons (tVar 0) (tCons (tVar 1) (tCons (tVar 2) tNil)))) (gName 3)) (tSeq (tAsg (tLst (tCons (tLst tNil) tNil)) (gName 4)) (tSeq (tFor (iEnum D.K (tCons (tCall (sp_rows_in_order D) [] C8.E0 (tCons (tVar 1) tNil)) tNil)) (gTup D.K 2 (gCons (gName 5) (gCons (gName 6) gNil))) (tAsg (tCall (sp_grown D) [] C8.E0 (tCons (tVar 4) (tCons (tOp (rIxL D.K) (tFld D.K (tVar 2) "counts") (tOp (rIxT D.K) (tVar 6) (tC (.int 0)))) (tCons (tOp (rIxL D.K) (tVar 3) (tVar 5)) tNil)))) (gName 4))) (tRet (tVar 4)))))
abbrev n_takes_there : List Str := ["taken", "wanted", "place", "number"]
def t_takes_there (D : Ad) : TS :=
  (tSeq (tFor (iList D.K (tVar 1)) (gTup D.K 2 (gCons (gName 2) (gCons (gName 3) gNil))) (tIfS (tTest (tOp rNe (tOp (rIxL D.K) (tVar 0) (tVar 2)) (tVar 3))) (tRet (tC (.bl false))) tNext)) (tRet (tC (.bl true))))
abbrev n_takes_to_each_once : List Str := ["first", "second", "taken", "begin", "x", "k", "behind"]
def t_takes_to_each_once (D : Ad) : TS :=
  (tSeq (tAsg (tC (.int 0)) (gName 3)) (tSeq (tFor (iEnum D.K (tCons (tFld D.K (tVar 0) "counts") tNil)) (gTup D.K 2 (gCons (gName 4) (gCons (gName 5) gNil))) (tSeq (tAsg (tOp rAddI (tVar 3) (tVar 5)) (gName 6)) (tSeq (tIfS (tTest (tOp (rNeD D.K) (tCB (rSortedI D.K) (tCons (tSl (rSlL D.K) (tVar 2) (tPart (tVar 3)) (tPart (tVar 6))) tNil)) (tLstRg (tRg1 (tOp (rIxL D.K) (tFld D.K (tVar 1) "counts") (tVar 4)))))) (tRet (tC (.bl false))) tNext) (tAsg (tVar 6) (gName 3))))) (tRet (tC (.bl true)))))
abbrev n_arrows_by_end : List Str := ["category", "x", "y"]
def t_arrows_by_end (D : Ad) : TS :=
  (tRet (tLc (iRng1 (tCons (tFld D.K (tVar 0) "things") tNil)) (gName 2) tYes (tCall (sp_arrows_between D) [] C8.E0 (tCons (tVar 0) (tCons (tVar 1) (tCons (tVar 2) tNil)))) [2]))
abbrev n_arrows_as_rows : List Str := ["category", "x", "instance", "by_end", "arrows", "f", "reached", "h"]
def t_arrows_as_rows (D : Ad) : TS :=
  (tSeq (tAsg (tMake D.cI (sp_init_Instance D) [] C8.E0 (tCons (tVar 0) tNil)) (gName 2)) (tSeq (tAsg (tCall (sp_arrows_by_end D) [] C8.E0 (tCons (tVar 0) (tCons (tVar 1) tNil))) (gName 3)) (tSeq (sFld D.K (tVar 2) (tLc (iList D.K (tVar 3)) (gName 4) tYes (tCB (Evl.rLenS D.K) (tCons (tVar 4) tNil)) [4]) "counts") (tSeq (tFor (iList D.K (tMeth D.cC "others" (sp_others D) [] C8.E0 (tVar 0) tNil)) (gName 5) (tSeq (tAsg (tOp (rIxL D.K) (tVar 3) (tMeth D.cC "target" (sp_target D) [] C8.E0 (tVar 0) (tCons (tVar 5) tNil))) (gName 6)) (tAsg (tLc (iList D.K (tOp (rIxL D.K) (tVar 3) (tMeth D.cC "source" (sp_source D) [] C8.E0 (tVar 0) (tCons (tVar 5) tNil)))) (gName 7) tYes (tBM D.K "list" (rIndex D.K) (tVar 6) (tCons (tMeth D.cC "made" (sp_made D) [] C8.E0 (tVar 0) (tCons (tVar 7) (tCons (tVar 5) tNil))) tNil)) [7]) (gSub (tFld D.K (tVar 2) "leads") (tVar 5) rSetL)))) (tRet (tVar 2))))))
abbrev n_map_to_row : List Str := ["category", "instance", "x", "r", "taken", "arrows", "h"]
def t_map_to_row (D : Ad) : TS :=
  (tSeq (tAsg (tLst tNil) (gName 4)) (tSeq (tFor (iList D.K (tCall (sp_arrows_by_end D) [] C8.E0 (tCons (tVar 0) (tCons (tVar 2) tNil)))) (gName 5) (tDrop (tBM D.K "list" rExtend (tVar 4) (tCons (tLc (iList D.K (tVar 5)) (gName 6) tYes (tCall (sp_leads_to D) [] C8.E0 (tCons (tVar 0) (tCons (tVar 1) (tCons (tVar 6) (tCons (tVar 3) tNil))))) [6]) tNil)))) (tRet (tVar 4))))
end AR
set_option Elab.async false
set_option linter.all false
set_option maxRecDepth 100000
set_option maxHeartbeats 4000000
/-! Promise gives reading: maps. -/
namespace AR
open PySem PySem.Spec PyProof.Rows L2 Evl
/-- for i, x in enumerate(a list that stands) -/
theorem for_enum {K : PySem.W.Frag} {a : Addr} {xs : List V} {j1 j2 : Nat} {tb : TS} {D : Ends} {σ : L2.St} {H : Hp} (Pv : Nat → L2.St → Hp → Prop) (h0 : Pv 0 σ H) (hl : ∀ i σ H, i ≤ xs.length → Pv i σ H → SqL K H a xs)
    (hs : ∀ i x σ H T, xs[i]? = some x → Pv i σ H → H T = none → tb { D with nx := Pv (i + 1), ct := Pv (i + 1), bk := D.nx } ((σ.set j1 (some (kN i))).set j2 (some x)) (upd H T (.tup [kN i, x]))) (hd : ∀ σ H, Pv xs.length σ H → D.nx σ H) :
    ∃ W : Nat → Nat → L2.St → Hp → Prop, (∃ m, W 0 m σ H) ∧ ∀ i m σ H, W i m σ H → ((Ite K a).stop i H ∧ D.nx σ H) ∨ ((Ite K a).go i H ∧ ∃ N : L2.St → Hp → Prop, (∀ σ' H', N σ' H' → ∃ m', m' < m ∧ W (i + 1) m' σ' H') ∧
      ∀ x H', (Ite K a).yld i H x H' → gTup K 2 (gCons (gName j1) (gCons (gName j2) gNil)) x σ H' fun σ2 H2 => tb { D with nx := N, ct := N, bk := D.nx } σ2 H2) := by
  refine ⟨fun i m σ H => m + i = xs.length ∧ Pv i σ H, ⟨xs.length, rfl, h0⟩, fun i m σ H ⟨hm, p⟩ => ?_⟩
  have q := hl i σ H (by omega) p
  cases m with
  | zero =>
    have e : i = xs.length := by omega
    subst e
    exact Or.inl ⟨⟨xs, q, Nat.le_refl _⟩, hd σ H p⟩
  | succ m =>
    have hi : i < xs.length := by omega
    refine Or.inr ⟨⟨xs, xs[i], q, List.getElem?_eq_getElem hi⟩, Pv (i + 1), fun σ' H' p' => ⟨m, Nat.lt_succ_self m, by omega, p'⟩, fun v H' y => ?_⟩
    obtain ⟨T, x, rfl, hT, rfl, hx⟩ := y
    exact ⟨T, [kN i, x], rfl, st_of upd_same, rfl, _, _, rfl, _, _, rfl, rfl, hs i x σ H T (hx xs q) p hT⟩
section
variable {K : PySem.W.Frag} {σ : L2.St} {H : Hp} {te tl ta tb : TE} {j : Nat} {o : List V → HO}
/-- [e for x in a new list], e a new object -/
theorem lcNL_new {vs : List Nat} {ys : List V} {xs : Nat → List V} {Q : VK} (h : EvL tl σ H ys) (hz : ys.length ≤ 50000) (hw : ∀ x, wipe ((wipe σ vs).set j (some x)) vs = wipe σ vs)
    (he : ∀ (i : Nat) (y : V) H1, Ex H H1 → ys[i]? = some y → EvN te ((wipe σ vs).set j (some y)) H1 (o (xs i)))
    (hQ : ∀ p H2 refs, NewL H H2 o ((List.range ys.length).map xs) p refs → Q (.ref p) H2) : tLc (iList K tl) (gName j) tYes te vs σ H Q :=
  h H (Ex.refl H) _ fun a H1 ha e1 hx => ⟨a, rfl, ⟨ys, sq_of hx⟩, fun Dl hD =>
    lc_list (xs := ys) (fun i H' => ∃ refs, NewL H1 H' o ((List.range i).map xs) Dl refs) ⟨[], NewL.start hD⟩ (fun i H' _ ⟨refs, N⟩ => sq_of (N.ex _ _ hx)) (fun i y H' hi ⟨refs, N⟩ => by
      have il := (List.getElem?_eq_some_iff.mp hi).1
      refine ⟨hw _, ?_⟩
      show te ((wipe σ vs).set j (some y)) H' _
      refine he i y H' (e1.trans N.ex) hi H' (Ex.refl _) _ fun r H3 hr e3 h3 => ⟨refs.map V.ref, e3 _ _ N.at_, ?_, refs ++ [r], ?_⟩
      · rw [List.length_map, N.pts.1, List.length_map, List.length_range]
        exact sz_lt (by omega)
      · have G := N.grow hr e3 h3
        rw [List.range_succ, List.map_append]
        rw [List.map_append] at G
        exact G) (fun H' ⟨refs, N⟩ => hQ Dl H' refs ⟨e1.trans N.ex, N.at_, N.pts, fun r hr => fresh_back e1 (N.new r hr), N.nd⟩)⟩
theorem NewL.more {H H2 H3 : Hp} {o : List V → HO} {xs : List (List V)} {p : Addr} {refs : List Addr} (h : NewL H H2 o xs p refs) (e : Ex H2 H3) : NewL H H3 o xs p refs := ⟨h.ex.trans e, e _ _ h.at_, h.pts.mono e, h.new, h.nd⟩
theorem ev_max {i k : Nat} (ha : Ev ta σ H (kN i)) (hb : Ev tb σ H (kN k)) : Ev (tCB Evl.rMax2 (tCons ta (tCons tb tNil))) σ H (kN (max i k)) := by
  have e : kN (max i k) = V.int (if (k : Int) > (i : Int) then (k : Int) else (i : Int)) := by
    show V.int _ = V.int _
    congr 1
    by_cases h : k > i
    · rw [if_pos (by omega)]; omega
    · rw [if_neg (by omega)]; omega
  rw [e]
  exact ev_max2 ha hb
theorem el_cat {l : Addr} {xs ys : List V} (ha : Ev ta σ H (.ref l)) (hl : H l = some (.lst xs)) (hb : EvL tb σ H ys) (hz : xs.length + ys.length ≤ 100000) : EvL (tOp rCat ta tb) σ H (xs ++ ys) := fun H1 e Q q =>
  ha H1 e _ fun H2 e2 => hb H2 (e.trans e2) _ fun b H3 _ e3 hb => ⟨l, b, xs, ys, rfl, rfl, ((e.trans e2).trans e3) _ _ hl, hb, sz_of hz, fun p hp => q p _ (fresh_back (e2.trans e3) hp) ((e2.trans e3).trans (Ex.new hp)) upd_same⟩
theorem cut_take (xs : List V) (x : Nat) : cutV xs none (some (x : Int)) = xs.take x := by
  unfold cutV
  rw [HT.sIx_none, HT.sIx_nat, List.drop_zero, Nat.sub_zero]
  by_cases h : x ≤ xs.length
  · rw [Nat.min_eq_left h]
  · rw [Nat.min_eq_right (by omega), List.take_of_length_le (Nat.le_refl _), List.take_of_length_le (by omega)]
end
section
variable {D : Ad} {mg : Str → Option Value} {vs : List V} {H : Hp} {Q : VK} {E : XK}
theorem len_rows_in_order (h : sp_rows_in_order D vs H Q E) : vs.length = 1 := by obtain ⟨_, _, _, rfl, _⟩ := h; rfl
theorem len_links (h : sp_links D vs H Q E) : vs.length = 2 := by obtain ⟨_, _, _, _, rfl, _⟩ := h; rfl
theorem len_brought_along (h : sp_brought_along D vs H Q E) : vs.length = 3 := by obtain ⟨_, _, _, _, _, _, rfl, _⟩ := h; rfl
theorem len_first_places (h : sp_first_places D vs H Q E) : vs.length = 2 := by obtain ⟨_, _, _, _, rfl, _⟩ := h; rfl
theorem len_piece_numbers (h : sp_piece_numbers D vs H Q E) : vs.length = 1 := by obtain ⟨_, _, rfl, _⟩ := h; rfl
theorem len_takes_there (h : sp_takes_there D vs H Q E) : vs.length = 2 := by obtain ⟨_, _, _, _, _, rfl, _⟩ := h; rfl
theorem len_takes_to_each_once (h : sp_takes_to_each_once D vs H Q E) : vs.length = 3 := by obtain ⟨_, _, _, _, _, _, _, rfl, _⟩ := h; rfl
theorem len_arrows_by_end (h : sp_arrows_by_end D vs H Q E) : vs.length = 2 := by obtain ⟨_, _, _, rfl, _⟩ := h; rfl
theorem len_arrows_as_rows (h : sp_arrows_as_rows D vs H Q E) : vs.length = 2 := by obtain ⟨_, _, _, rfl, _⟩ := h; rfl
theorem len_map_to_row (h : sp_map_to_row D vs H Q E) : vs.length = 4 := by obtain ⟨_, _, _, _, _, _, rfl, _⟩ := h; rfl
theorem len_place_of_row (h : sp_place_of_row D vs H Q E) : vs.length = 3 := by obtain ⟨_, _, _, _, _, rfl, _⟩ := h; rfl
theorem len_conditions_by_place (h : sp_conditions_by_place D vs H Q E) : vs.length = 3 := by obtain ⟨_, _, _, _, _, _, rfl, _⟩ := h; rfl
theorem len_holds (h : sp_holds D vs H Q E) : vs.length = 2 := by obtain ⟨_, _, _, _, _, _, _, rfl, _⟩ := h; rfl
theorem len_grown (h : sp_grown D vs H Q E) : vs.length = 3 := by obtain ⟨_, _, _, _, _, _, _, _, _, rfl, _⟩ := h; rfl
theorem len_all_maps (h : sp_all_maps D vs H Q E) : vs.length = 3 := by obtain ⟨_, _, _, _, _, _, rfl, _⟩ := h; rfl
theorem offset_le6 {c : Fc02.Cat} {t : Fc02.Inst} (w : WI c t) (x : Nat) : Fc02.offset t x ≤ 6 := Nat.le_trans (offset_le t x) w.tot
theorem Pts.append {H : Hp} {o : List V → HO} {refs rs : List Addr} {xs ys : List (List V)} (h1 : Pts H o refs xs) (h2 : Pts H o rs ys) : Pts H o (refs ++ rs) (xs ++ ys) := by
  refine ⟨by rw [List.length_append, List.length_append, h1.1, h2.1], fun i r y hr hy => ?_⟩
  by_cases q : i < refs.length
  · rw [List.getElem?_append_left q] at hr
    rw [List.getElem?_append_left (by rw [← h1.1]; exact q)] at hy
    exact h1.2 i r y hr hy
  · rw [List.getElem?_append_right (by omega)] at hr
    rw [List.getElem?_append_right (by rw [← h1.1]; omega), ← h1.1] at hy
    exact h2.2 _ r y hr hy
/-- a list that grows, of tuples -/
def GrP (H H' : Hp) (p : Addr) (pre : List (List V)) : Prop := ∃ refs : List Addr, Ex H H' ∧ H' p = some (.lst (refs.map V.ref)) ∧ Pts H' .tup refs pre
theorem GrP.mono {H H' H2 : Hp} {p : Addr} {pre : List (List V)} (e : Ex H' H2) (h : GrP H H' p pre) : GrP H H2 p pre :=
  let ⟨refs, a, b, c⟩ := h
  ⟨refs, a.trans e, e _ _ b, c.mono e⟩
theorem places_pair (t : Fc02.Inst) (n : Nat) : (placesTo t (n + 1)).map pairV = (placesTo t n).map pairV ++ (List.range (Fc02.rows t n)).map fun r => [kN n, kN r] := by
  rw [placesTo_succ, List.map_append, List.map_map]
  rfl
theorem pure_rows_in_order (T : Txt D mg) (h : sp_rows_in_order D vs H Q E) : t_rows_in_order D (En Q) (start n_rows_in_order vs) H := by
  obtain ⟨b, c, t, rfl, hi, k⟩ := h
  obtain ⟨⟨l, rfl, q⟩, w⟩ := id hi
  refine q_asgL (el_lst ea_nil (Nat.zero_le _)) fun p H1 hp e1 h1 => ?_
  refine ⟨_, rfl, l.b, D.cI, l.dx, _, _, rfl, e1 _ _ q.ob, T.cl_Instance, T.na_counts, instF_counts, l.cl, _, rfl, sq_of (e1 _ _ q.lc), for_enum (K := D.K) (a := l.cl) (xs := t.size.map kN) (fun i σ' H' => ∃ v2 v3, σ' = [some (.ref l.b), some (.ref p), v2, v3, none] ∧ GrP H H' p ((placesTo t i).map pairV)) ?_ ?_ ?_ ?_⟩
  · exact ⟨none, none, rfl, [], e1, h1, Pts.nil⟩
  · rintro i σ' H' _ ⟨v2, v3, rfl, refs, e2, _⟩
    exact sq_of (e2 _ _ q.lc)
  · rintro i x σ' H2 U hx ⟨v2, v3, rfl, refs, e2, hp2, hP⟩ hU
    obtain ⟨n, hn, rfl⟩ := map_get_inv hx
    have il := (List.getElem?_eq_some_iff.mp hn).1
    have en : n = Fc02.rows t i := by
      rw [rows_get il] at hn
      exact (Option.some.inj hn).symm
    subst en
    have e3 : Ex H2 (upd H2 U (.tup [kN i, kN (Fc02.rows t i)])) := Ex.new hU
    have off := offset_le6 w i
    have rs := rows_small w i
    refine ⟨_, rfl, Or.inl ⟨rfl, _, sq_of (e3 _ _ hp2)⟩, ?_⟩
    refine lcR_new (o := HO.tup) (n := Fc02.rows t i) (xs := fun r => [kN i, kN r]) (ea_cons (ev_var rfl) ea_nil) (by omega) (fun x => rfl) (fun r H4 e4 hr => eu_tup (ea_cons (ev_var rfl) (ea_cons (ev_var rfl) ea_nil)) (by show 2 ≤ 100000; decide)) fun u H4 us N => ?_
    have e24 := e3.trans N.ex
    refine ⟨p, u, _, _, rfl, rfl, N.ex _ _ (e3 _ _ hp2), N.at_, ?_, ?_⟩
    · rw [List.length_map, hP.1, List.length_map, placesTo_length, List.length_map, N.pts.1, List.length_map, List.length_range]
      exact sz_of (by omega)
    · refine ⟨some (kN i), some (kN (Fc02.rows t i)), rfl, refs ++ us, Ex.mut (e2.trans e24) hp, by rw [List.map_append]; exact upd_same, ?_⟩
      rw [places_pair]
      exact ((hP.mono e24).append N.pts).tup_upd (e24 _ _ hp2)
  · rintro σ' H2 ⟨v2, v3, rfl, refs, e2, hp2, hP⟩
    rw [List.length_map, w.sz] at hP
    exact ⟨_, rfl, k p H2 refs hp e2 hp2 hP⟩
theorem pure_place_of_row (T : Txt D mg) (h : sp_place_of_row D vs H Q E) : t_place_of_row D (En Q) (start n_place_of_row vs) H := by
  obtain ⟨b, c, t, x, r, rfl, hi, k⟩ := h
  obtain ⟨⟨l, rfl, q⟩, w⟩ := id hi
  have z : Ev (tCB (rSum D.K) (tCons (tSl (rSlL D.K) (tFld D.K (tVar 0) "counts") tNoPart (tPart (tVar 1))) tNil)) (start n_place_of_row [V.ref l.b, kN x, kN r]) H (kN (Fc02.offset t x)) := fun H1 e1 R kk => by
    refine el_sl (K := D.K) (ev_fld (ev_var rfl) q.ob T.cl_Instance T.na_counts instF_counts) eo_none (eo_some (i := (x : Int)) (ev_var rfl)) (sq_of q.lc) H1 e1 _ fun p H2 hp e2 h2 => ?_
    rw [cut_take, ← List.map_take] at h2
    refine rc_sum (K := D.K) h2 H2 (Ex.refl _) _ fun H3 e3 => ?_
    rw [← offset_sum]
    exact kk H3 (e2.trans e3)
  exact s_ret (ev_add z (ev_var rfl)) k
theorem pure_holds (T : Txt D mg) (h : sp_holds D vs H Q E) : t_holds D (En Q) (start n_holds vs) H := by
  obtain ⟨q, w, l, c, t, cs, m, rfl, hi, wi, ⟨refs, hq, hP⟩, hw, ok, k⟩ := h
  refine q_forL (K := D.K) (ev_var rfl) (sq_of hq) (fun i σ' H' => ∃ v2 v3 v4, σ' = [some (.ref q), some (.ref w), v2, v3, v4] ∧ Ex H H' ∧ ∀ j z, j < i → cs[j]? = some z → (Fc02.go c t z.2.2 (m.getD z.1 0) == m.getD z.2.1 0) = true) ?_ ?_ ?_ ?_
  · intro H1 e1
    exact ⟨none, none, none, rfl, e1, fun j z hj => by omega⟩
  · rintro i σ' H' _ ⟨v2, v3, v4, rfl, e1, _⟩
    exact sq_of (e1 _ _ hq)
  · rintro i x σ' H1 hx ⟨v2, v3, v4, rfl, e1, hj⟩
    obtain ⟨r, hr, rfl⟩ := map_get_inv hx
    have il := (List.getElem?_eq_some_iff.mp hr).1
    rw [hP.1, List.length_map] at il
    obtain ⟨⟨u, v, f⟩, hz⟩ : ∃ z, cs[i]? = some z := ⟨_, List.getElem?_eq_getElem il⟩
    obtain ⟨fo, ul, vl, ur⟩ := ok (u, v, f) (mem_take_of hz)
    obtain ⟨fn, fl⟩ := mem_others.mp fo
    have ht : H1 r = some (.tup (condV l.rr (u, v, f))) := e1 _ _ (hP.2 i r _ hr (by rw [List.getElem?_map, hz]; rfl))
    have hrr : l.rr[f]? = some (l.rr.getD f 0) := by rw [List.getD_eq_getElem?_getD, List.getElem?_eq_getElem (by rw [hi.rl]; exact fl)]; rfl
    refine ⟨r, _, rfl, st_of ht, rfl, _, _, rfl, _, _, rfl, _, _, rfl, rfl, ?_⟩
    have gm : ∀ {y : Nat}, y < m.length → (m.map kN)[y]? = some (kN (m.getD y 0)) := fun hy => map_get (getD_some hy)
    refine s_when (et_test (ev_ne (i := Fc02.go c t f (m.getD u 0)) (j := m.getD v 0) (ev_ixL (p := l.rr.getD f 0) (ev_var rfl) (ev_ixL (p := w) (i := u) (ev_var rfl) (ev_var rfl) (e1 _ _ hw) (gm ul)) (e1 _ _ (hi.rw f _ fn hrr)) (map_get (go_get wi fn fl ur))) (ev_ixL (p := w) (i := v) (ev_var rfl) (ev_var rfl) (e1 _ _ hw) (gm vl)))) (fun hb H2 e2 => ?_) (fun hb H2 e2 => ?_)
    · have ne : ¬ Fc02.go c t f (m.getD u 0) = m.getD v 0 := by simpa using hb
      have fa : holdsM c t cs m = false := by
        cases z : holdsM c t cs m with
        | false => rfl
        | true =>
          unfold holdsM at z
          have := List.all_eq_true.mp z (u, v, f) (mem_take_of hz)
          exact absurd (by simpa using this) ne
      rw [fa] at k
      exact s_ret ev_c fun H3 e3 => k H3 ((e1.trans e2).trans e3)
    · have eq : Fc02.go c t f (m.getD u 0) = m.getD v 0 := by simpa using hb
      refine ⟨some (kN u), some (kN v), some (.ref (l.rr.getD f 0)), rfl, e1.trans e2, fun j z hjl hjz => ?_⟩
      by_cases e : j = i
      · subst e
        rw [hz] at hjz
        cases hjz
        simpa using eq
      · exact hj j z (by omega) hjz
  · rintro σ' H1 ⟨v2, v3, v4, rfl, e1, hj⟩
    rw [List.length_map, hP.1, List.length_map] at hj
    have tr : holdsM c t cs m = true := by
      unfold holdsM
      refine List.all_eq_true.mpr fun z hz => ?_
      obtain ⟨j, hjl, e⟩ := List.getElem_of_mem hz
      exact hj j z hjl (by rw [List.getElem?_eq_getElem hjl, e])
    rw [tr] at k
    exact s_ret ev_c fun H3 e3 => k H3 (e1.trans e3)
def grownAt (c : Fc02.Cat) (t : Fc02.Inst) (cs : List (Nat × Nat × Nat)) (m : List Nat) (k : Nat) : List (List Nat) := ((List.range k).map fun v => m ++ [v]).filter (holdsM c t cs)
theorem grownAt_yes {c : Fc02.Cat} {t : Fc02.Inst} {cs : List (Nat × Nat × Nat)} {m : List Nat} {k : Nat} (h : holdsM c t cs (m ++ [k]) = true) : grownAt c t cs m (k + 1) = grownAt c t cs m k ++ [m ++ [k]] := by
  unfold grownAt
  rw [List.range_succ, List.map_append, List.filter_append, List.map_singleton, List.filter_cons, if_pos h]
  rfl
theorem grownAt_no {c : Fc02.Cat} {t : Fc02.Inst} {cs : List (Nat × Nat × Nat)} {m : List Nat} {k : Nat} (h : holdsM c t cs (m ++ [k]) = false) : grownAt c t cs m (k + 1) = grownAt c t cs m k := by
  unfold grownAt
  rw [List.range_succ, List.map_append, List.filter_append, List.map_singleton, List.filter_cons, if_neg (by rw [h]; decide)]
  simp
theorem grownAt_len (c : Fc02.Cat) (t : Fc02.Inst) (cs : List (Nat × Nat × Nat)) (m : List Nat) (k : Nat) : (grownAt c t cs m k).length ≤ k := by
  unfold grownAt
  have := List.length_filter_le (holdsM c t cs) ((List.range k).map fun v => m ++ [v])
  rw [List.length_map, List.length_range] at this
  exact this
theorem flat_len {c : Fc02.Cat} {t : Fc02.Inst} {cs : List (Nat × Nat × Nat)} {k : Nat} (ms : List (List Nat)) : (ms.flatMap fun m => grownAt c t cs m k).length ≤ ms.length * k := by
  induction ms with
  | nil => simp
  | cons m ms ih =>
    rw [List.flatMap_cons, List.length_append, List.length_cons, Nat.add_mul, Nat.one_mul]
    have := grownAt_len c t cs m k
    omega
theorem listsV_append (x y : List (List Nat)) : listsV (x ++ y) = listsV x ++ listsV y := List.map_append
theorem pure_grown (T : Txt D mg) (h : sp_grown D vs H Q E) : t_grown D (En Q) (start n_grown vs) H := by
  obtain ⟨u, q, refs, l, c, t, ms, kk, cs, rfl, hi, wi, hu, hP, hq, ok, hk, hms, k⟩ := h
  refine q_asgL (el_lst ea_nil (Nat.zero_le _)) fun p H1 hp e1 h1 => ?_
  have N0 : NewL H H1 .lst (listsV []) p [] := ⟨e1, h1, Pts.nil, fun r hr => by rw [List.mem_singleton.mp hr]; exact hp, by simp⟩
  refine q_forL (K := D.K) (ev_var rfl) (sq_of (e1 _ _ hu)) (fun i σ' H' => ∃ v4 v5 v6 rs, σ' = [some (.ref u), some (kN kk), some (.ref q), some (.ref p), v4, v5, v6] ∧ NewL H H' .lst (listsV ((ms.take i).flatMap fun m => grownAt c t cs m kk)) p rs) ?_ ?_ ?_ ?_
  · intro H2 e2
    exact ⟨none, none, none, [], rfl, N0.more e2⟩
  · rintro i σ' H' _ ⟨v4, v5, v6, rs, rfl, N⟩
    exact sq_of (N.ex _ _ hu)
  · rintro i x σ' H2 hx ⟨v4, v5, v6, rs, rfl, N⟩
    obtain ⟨r, hr, rfl⟩ := map_get_inv hx
    have il := (List.getElem?_eq_some_iff.mp hr).1
    rw [hP.1, listsV, List.length_map] at il
    obtain ⟨m, hm⟩ : ∃ m, ms[i]? = some m := ⟨_, List.getElem?_eq_getElem il⟩
    have hrm : H r = some (.lst (m.map kN)) := hP.2 i r _ hr (by rw [listsV, List.getElem?_map, hm]; rfl)
    obtain ⟨ml, okm⟩ := ok m (mem_take_of hm)
    refine s_forR1 (n := (kk : Nat)) (ea_cons (ev_var rfl) ea_nil) (by omega) (fun j σ2 H3 => ∃ v5 v6 rs, σ2 = [some (.ref u), some (kN kk), some (.ref q), some (.ref p), some (.ref r), v5, v6] ∧ NewL H H3 .lst (listsV (((ms.take i).flatMap fun m => grownAt c t cs m kk) ++ grownAt c t cs m j)) p rs) ?_ ?_ ?_
    · intro H3 e3
      refine ⟨v5, v6, rs, rfl, ?_⟩
      have z : grownAt c t cs m 0 = [] := rfl
      rw [z, List.append_nil]
      exact N.more e3
    · rintro j σ2 H3 hj ⟨v5, v6, rs, rfl, N3⟩
      have hj : j < kk := by omega
      -- taken = beginning + [row]
      have hr3 : H3 r = some (.lst (m.map kN)) := N3.ex _ _ hrm
      have wv : m.map kN ++ [kN j] = (m ++ [j]).map kN := by rw [List.map_append]; rfl
      refine q_asgL (el_cat (ev_var rfl) hr3 (el_lst (ea_cons (x := kN j) (ev_var rfl) ea_nil) (by show 1 ≤ 100000; decide)) (by rw [List.length_map]; show _ + 1 ≤ _; omega)) fun w H5 w3 e5 h5 => ?_
      rw [wv] at h5
      have N5 := N3.more e5
      refine s_when (et_B (e_holds (hi.mono N5.ex) wi (hq.mono N5.ex) h5 (okm j hj) (ev_var rfl) (ev_var rfl))) (fun hb H6 e6 => ?_) (fun hb H6 e6 => ?_)
      · have N6 := N3.more (e5.trans e6)
        have sz : (rs.map V.ref).length < 100000 := by
          rw [List.length_map, N6.pts.1, listsV, List.length_map, List.length_append]
          have a1 := flat_len (c := c) (t := t) (cs := cs) (k := kk) (ms.take i)
          have a2 := grownAt_len c t cs m j
          rw [List.length_take] at a1
          have a3 : min i ms.length * kk ≤ 7776 * 6 := Nat.mul_le_mul (by omega) hk
          omega
        refine s_app N6.at_ (ev_var rfl) (ev_var (v := .ref w) rfl) sz fun H7 e7 => ?_
        have G := N3.grow (x := (m ++ [j]).map kN) w3 ((e5.trans e6).trans e7) (e7 _ _ (e6 _ _ h5))
        refine ⟨some (kN j), some (.ref w), rs ++ [w], rfl, ?_⟩
        rw [grownAt_yes hb, ← List.append_assoc, listsV_append]
        rw [List.map_append] at G
        exact G
      · refine ⟨some (kN j), some (.ref w), rs, rfl, ?_⟩
        rw [grownAt_no hb]
        exact N3.more (e5.trans e6)
    · rintro σ2 H3 ⟨v5, v6, rs, rfl, N3⟩
      refine ⟨some (.ref r), v5, v6, rs, rfl, ?_⟩
      have e : ((kk : Nat) : Int).toNat = kk := by omega
      rw [e] at N3
      rw [take_succ_of hm, List.flatMap_append]
      have z : ([m] : List (List Nat)).flatMap (fun m => grownAt c t cs m kk) = grownAt c t cs m kk := by simp
      rw [z]
      exact N3
  · rintro σ' H2 ⟨v4, v5, v6, rs, rfl, N⟩
    have lv : (listsV ms).length = ms.length := List.length_map _
    rw [List.length_map, hP.1, lv, List.take_length] at N
    exact s_ret (ev_var rfl) fun H3 e3 => k p H3 rs (N.more e3)
end
end AR
set_option Elab.async false
set_option linter.all false
set_option maxRecDepth 100000
set_option maxHeartbeats 4000000
/-! Promise gives reading: which rows lead to which; what rows bring with them; pieces. -/
namespace AR
open PySem PySem.Spec PyProof.Rows L2 Evl
theorem et_yes {σ : L2.St} {H : Hp} : EvT tYes σ H true := fun H1 _ Q q => q H1 (Ex.refl _)
theorem g_three {D : Ad} {H : Hp} {σ : L2.St} {r : Addr} {u v w : V} {i j k : Nat} {R : L2.St → Hp → Prop} (h : H r = some (.tup [u, v, w])) (hR : R (((σ.set i (some u)).set j (some v)).set k (some w)) H) : gTup D.K 3 (gCons (gName i) (gCons (gName j) (gCons (gName k) gNil))) (.ref r) σ H R :=
  ⟨r, _, rfl, st_of h, rfl, _, _, rfl, _, _, rfl, _, _, rfl, rfl, hR⟩
theorem condsOf_get {c : Fc02.Cat} {s : Fc02.Inst} {f r : Nat} (h : r < Fc02.rows s (Fc02.from_ c f)) : (condsOf c s f)[r]? = some (Fc02.offset s (Fc02.from_ c f) + r, Fc02.offset s (Fc02.to_ c f) + Fc02.go c s f r, f) := by
  unfold condsOf
  rw [List.getElem?_map, List.getElem?_range h]
  rfl
theorem condsOf_len (c : Fc02.Cat) (s : Fc02.Inst) (f : Nat) : (condsOf c s f).length = Fc02.rows s (Fc02.from_ c f) := by
  unfold condsOf
  rw [List.length_map, List.length_range]
theorem condsPre_len {c : Fc02.Cat} {s : Fc02.Inst} (w : WI c s) (l : List Nat) : (l.flatMap (condsOf c s)).length ≤ l.length * 6 := by
  induction l with
  | nil => simp
  | cons f l ih =>
    rw [List.flatMap_cons, List.length_append, List.length_cons, condsOf_len, Nat.add_mul]
    have := rows_small w (Fc02.from_ c f)
    omega
theorem condsAll_len {c : Fc02.Cat} {s : Fc02.Inst} (W : WC c) (w : WI c s) : (condsAll c s).length ≤ 54 := by
  have a := condsPre_len w (others c)
  have b := others_len W
  unfold condsAll
  omega
section
variable {D : Ad} {mg : Str → Option Value} {vs : List V} {H : Hp} {Q : VK} {E : XK}
theorem pure_links (T : Txt D mg) (h : sp_links D vs H Q E) : t_links D (En Q) (start n_links vs) H := by
  obtain ⟨a, b, c, s, rfl, hc, hi, k⟩ := h
  have W := hc.2
  have wi := hi.2
  refine q_asgL (el_lst ea_nil (Nat.zero_le _)) fun p H1 hp e1 h1 => ?_
  refine q_forNL (K := D.K) (e_others (hc.mono e1) (ev_var rfl)) (fun z i σ' H' => ∃ v3 v4 v5 v6 v7, σ' = [some (.ref a), some (.ref b), some (.ref p), v3, v4, v5, v6, v7] ∧ z ≠ p ∧ H' z = some (.lst ((others c).map kN)) ∧ GrP H H' p ((((others c).take i).flatMap (condsOf c s)).map linkV)) ?_ ?_ ?_ ?_
  · intro z H2 hz e2 h2
    exact ⟨none, none, none, none, none, rfl, (fun w => by rw [w, h1] at hz; cases hz), h2, [], e1.trans e2, e2 _ _ h1, Pts.nil⟩
  · rintro z i σ' H' _ ⟨v3, v4, v5, v6, v7, rfl, _, hz, _⟩
    exact sq_of hz
  · rintro z i x σ' H2 hx ⟨v3, v4, v5, v6, v7, rfl, zp, hz, refs, e2, hp2, hP⟩
    obtain ⟨f, hf, rfl⟩ := map_get_inv hx
    have fo := mem_take_of hf
    obtain ⟨fn, fl⟩ := mem_others.mp fo
    refine q_asg (e_source (hc.mono e2) (ev_var rfl) (ev_var rfl) fl) fun H3 e3 => ?_
    have hi3 := hi.mono (e2.trans e3)
    refine s_forR1 (n := (Fc02.rows s (Fc02.from_ c f) : Nat)) (ea_cons (e_counts T hi3 (ev_var rfl) (ev_var rfl) (from_lt W fl)) ea_nil) (by have := rows_small wi (Fc02.from_ c f); omega)
      (fun j σ2 H4 => ∃ v5 v6 v7, σ2 = [some (.ref a), some (.ref b), some (.ref p), some (kN f), some (kN (Fc02.from_ c f)), v5, v6, v7] ∧ H4 z = some (.lst ((others c).map kN)) ∧ GrP H H4 p ((((others c).take i).flatMap (condsOf c s) ++ (condsOf c s f).take j).map linkV)) ?_ ?_ ?_
    · intro H4 e4
      refine ⟨v5, v6, v7, rfl, e4 _ _ (e3 _ _ hz), ?_⟩
      rw [List.take_zero, List.append_nil]
      exact GrP.mono (e3.trans e4) ⟨refs, e2, hp2, hP⟩
    · rintro r σ2 H4 hr ⟨v5, v6, v7, rfl, hz4, rs, e4, hp4, hP4⟩
      have hr : r < Fc02.rows s (Fc02.from_ c f) := by omega
      have hc4 := hc.mono e4
      have hi4 := hi.mono e4
      refine q_asg (e_place_of_row hi4 (ev_var rfl) (ev_var rfl) (ev_var rfl)) fun H5 e5 => ?_
      have hc5 := hc4.mono e5
      have hi5 := hi4.mono e5
      refine q_asg (e_place_of_row hi5 (ev_var rfl) (e_target hc5 (ev_var rfl) (ev_var rfl) fl) (e_leads_to hc5 hi5 (ev_var rfl) (ev_var rfl) (ev_var rfl) (ev_var rfl) fl fun _ => hr)) fun H6 e6 => ?_
      have e46 := e5.trans e6
      have sz : (rs.map V.ref).length < 100000 := by
        rw [List.length_map, hP4.1, List.length_map, List.length_append, List.length_take, condsOf_len]
        have a2 := condsPre_len wi ((others c).take i)
        rw [List.length_take] at a2
        have a3 := others_len W
        have a4 := rows_small wi (Fc02.from_ c f)
        omega
      refine s_appU (ys := linkV (Fc02.offset s (Fc02.from_ c f) + r, Fc02.offset s (Fc02.to_ c f) + Fc02.go c s f r, f)) (e46 _ _ hp4) (ev_var rfl) (eu_tup (ea_cons (ev_var rfl) (ea_cons (ev_var rfl) (ea_cons (ev_var rfl) ea_nil))) (by show 3 ≤ 100000; decide)) sz fun y H7 hy e7 h7 => ?_
      have e47 := e46.trans e7
      have yp : y ≠ p := fun w => by rw [w, e46 _ _ hp4] at hy; cases hy
      refine ⟨some (kN r), some (kN (Fc02.offset s (Fc02.from_ c f) + r)), some (kN (Fc02.offset s (Fc02.to_ c f) + Fc02.go c s f r)), rfl, ?_, rs ++ [y], Ex.mut (e4.trans e47) hp, by rw [List.map_append]; exact upd_same, ?_⟩
      · rw [upd_ne zp]; exact e47 _ _ hz4
      · rw [take_succ_of (condsOf_get hr), ← List.append_assoc, List.map_append (l₂ := [_])]
        refine Pts.snoc ((hP4.mono e47).tup_upd (e47 _ _ hp4)) ?_
        rw [upd_ne yp]
        exact h7
    · rintro σ2 H4 ⟨v5, v6, v7, rfl, hz4, G⟩
      refine ⟨some (kN f), some (kN (Fc02.from_ c f)), v5, v6, v7, rfl, zp, hz4, ?_⟩
      have e : ((Fc02.rows s (Fc02.from_ c f) : Nat) : Int).toNat = (condsOf c s f).length := by rw [condsOf_len]; omega
      rw [e, List.take_length] at G
      rw [take_succ_of hf, List.flatMap_append]
      have z : ([f] : List Nat).flatMap (condsOf c s) = condsOf c s f := by simp
      rw [z]
      exact G
  · rintro z σ' H2 ⟨v3, v4, v5, v6, v7, rfl, zp, hz, refs, e2, hp2, hP⟩
    rw [List.length_map, List.take_length] at hP
    exact s_ret (ev_var rfl) fun H3 e3 => k p H3 refs hp (e2.trans e3) (e3 _ _ hp2) (hP.mono e3)
/-- a turn over what links gives -/
theorem link_get {c : Fc02.Cat} {t : Fc02.Inst} {refs : List Addr} {H' : Hp} (hP : Pts H' .tup refs ((condsAll c t).map linkV)) {i : Nat} {x : V} (hx : (refs.map V.ref)[i]? = some x) : ∃ r z, x = .ref r ∧ (condsAll c t)[i]? = some z ∧ H' r = some (.tup [kN z.2.2, kN z.1, kN z.2.1]) := by
  obtain ⟨r, hr, rfl⟩ := map_get_inv hx
  have il := (List.getElem?_eq_some_iff.mp hr).1
  rw [hP.1, List.length_map] at il
  have hz : (condsAll c t)[i]? = some (condsAll c t)[i] := List.getElem?_eq_getElem il
  exact ⟨r, _, rfl, hz, hP.2 i r _ hr (by rw [List.getElem?_map, hz]; rfl)⟩
theorem links_len {c : Fc02.Cat} {t : Fc02.Inst} {refs : List Addr} {H' : Hp} (hP : Pts H' .tup refs ((condsAll c t).map linkV)) : (refs.map V.ref).length = (condsAll c t).length := by
  rw [List.length_map, hP.1, List.length_map]
theorem pure_brought_along (T : Txt D mg) (h : sp_brought_along D vs H Q E) : t_brought_along D (En Q) (start n_brought_along vs) H := by
  obtain ⟨a, b, q, c, t, ps, rfl, hc, hi, hq, hl, k⟩ := h
  have W := hc.2
  have wi := hi.2
  have cl := condsAll_len W wi
  refine q_asgL (el_list (K := D.K) (ev_var rfl) (sq_of hq)) fun u H1 hu e1 h1 => ?_
  have hc1 := hc.mono e1
  have hi1 := hi.mono e1
  refine c_links hc1 hi1 (ev_var rfl) (ev_var rfl) fun z H2 refs hz e2 h2 hP => ⟨z, rfl, ⟨_, sq_of h2⟩, ?_⟩
  have zu : z ≠ u := fun w => by rw [w, h1] at hz; cases hz
  have e02 := e1.trans e2
  refine for_list (K := D.K) (xs := refs.map V.ref) (fun i σ' H' => ∃ v4 v5 v6, σ' = [some (.ref a), some (.ref b), some (.ref q), some (.ref u), v4, v5, v6, none, none] ∧ Ex H H' ∧ H' z = some (.lst (refs.map V.ref)) ∧ Pts H' .tup refs ((condsAll c t).map linkV) ∧ H' u = some (.lst ((ps ++ (((condsAll c t).take i).filter fun q => decide (q.1 ∈ ps)).map fun q => q.2.1).map kN))) ?_ ?_ ?_ ?_
  · refine ⟨none, none, none, rfl, e02, h2, hP, ?_⟩
    rw [List.take_zero, List.filter_nil, List.map_nil, List.append_nil]
    exact e2 _ _ h1
  · rintro i σ' H' _ ⟨v4, v5, v6, rfl, _, hz, _⟩
    exact sq_of hz
  · rintro i x σ' H3 hx ⟨v4, v5, v6, rfl, e3, hz3, hP3, hu3⟩
    obtain ⟨r, y, rfl, hy, hr⟩ := link_get hP3 hx
    refine g_three hr ?_
    refine s_when (et_test (ev_in (i := y.1) (l := ps) (ev_var rfl) (ev_var rfl) (e3 _ _ hq))) (fun hb H4 e4 => ?_) (fun hb H4 e4 => ?_)
    · have sz : ((ps ++ (((condsAll c t).take i).filter fun q => decide (q.1 ∈ ps)).map fun q => q.2.1).map kN).length < 100000 := by
        rw [List.length_map, List.length_append, List.length_map]
        have := List.length_filter_le (fun q : Nat × Nat × Nat => decide (q.1 ∈ ps)) ((condsAll c t).take i)
        rw [List.length_take] at this
        omega
      refine s_app (K := D.K) (v := kN y.2.1) (e4 _ _ hu3) (ev_var rfl) (ev_var rfl) sz fun H5 e5 => ?_
      have e45 := e4.trans e5
      refine ⟨some (kN y.2.2), some (kN y.1), some (kN y.2.1), rfl, Ex.mut (e3.trans e45) hu, ?_, (hP3.mono e45).tup_upd (e45 _ _ hu3), ?_⟩
      · rw [upd_ne zu]; exact e45 _ _ hz3
      · rw [upd_same, take_succ_of hy, List.filter_append, List.filter_cons, if_pos hb]
        simp only [List.map_append, List.append_assoc]
        rfl
    · refine ⟨some (kN y.2.2), some (kN y.1), some (kN y.2.1), rfl, e3.trans e4, e4 _ _ hz3, hP3.mono e4, ?_⟩
      rw [take_succ_of hy, List.filter_append, List.filter_cons, if_neg (by rw [hb]; decide), List.filter_nil, List.append_nil]
      exact e4 _ _ hu3
  · rintro σ' H3 ⟨v4, v5, v6, rfl, e3, hz3, hP3, hu3⟩
    rw [links_len hP, List.take_length] at hu3
    have hu3 : H3 u = some (.lst ((broughtIx c t ps).map kN)) := hu3
    refine t_lc (wi := iEnum D.K (tCons (tCall (sp_rows_in_order D) [] C8.E0 (tCons (tVar 1) tNil)) tNil)) ?_
    refine c_rows_in_order (hi.mono e3) (ev_var rfl) fun y H4 rs hy e4 h4 hR => ⟨y, _, rfl, sq_of h4, ?_⟩
    have len : rs.length = (Fc02.places c t).length := by rw [hR.1, List.length_map]
    have p6 := places_length (c := c) (t := t) wi.sz
    have t6 := wi.tot
    refine lcE_given (fun i => decide (i ∈ broughtIx c t ps)) (fun i => .ref (rs.getD i 0)) (sq_of h4) (by rw [List.length_map]; omega) (fun _ _ => rfl) (fun i x H5 e5 hx => et_test (ev_in (ev_var rfl) (ev_var rfl) ((e4.trans e5) _ _ hu3))) (fun i x H5 e5 hx _ => ?_) ?_
    · obtain ⟨r, hr, rfl⟩ := map_get_inv hx
      have : rs.getD i 0 = r := by rw [List.getD_eq_getElem?_getD, hr]; rfl
      rw [this]
      exact ev_var rfl
    · rw [List.length_map]
      have sel : given rs.length (fun i => decide (i ∈ broughtIx c t ps)) (fun i => V.ref (rs.getD i 0)) = (((List.range rs.length).filter fun i => decide (i ∈ broughtIx c t ps)).map fun i => rs.getD i 0).map V.ref := by
        unfold given
        rw [List.map_map]
        rfl
      rw [sel]
      intro p H5 hp e5 h5
      refine k p H5 _ (fresh_back (e3.trans e4) hp) ((e3.trans e4).trans e5) h5 ?_
      have flt := filter_range (Fc02.places c t) (fun p => decide (at_ t p ∈ broughtIx c t ps)) (fun i => decide (i ∈ broughtIx c t ps)) (fun i x hx => by
        have hi : i < Fc02.total t := by rw [← p6]; exact (List.getElem?_eq_some_iff.mp hx).1
        rw [pl_get wi.sz hi] at hx
        cases hx
        rw [at_pl wi.sz hi]) (0, 0)
      rw [← flt, len]
      refine ⟨by rw [List.length_map, List.length_map, List.length_map], fun i r x hr hx => ?_⟩
      rw [List.getElem?_map] at hr hx
      rw [List.getElem?_map] at hx
      cases hj : ((List.range (Fc02.places c t).length).filter fun i => decide (i ∈ broughtIx c t ps))[i]? with
      | none => rw [hj] at hr; cases hr
      | some j =>
        rw [hj] at hr hx
        have jl : j < (Fc02.places c t).length := List.mem_range.mp (List.mem_filter.mp (List.mem_of_getElem? hj)).1
        have hr : rs.getD j 0 = r := Option.some.inj hr
        have hx : pairV ((Fc02.places c t).getD j (0, 0)) = x := Option.some.inj hx
        have hr2 : rs[j]? = some r := by rw [← hr, List.getD_eq_getElem?_getD, List.getElem?_eq_getElem (by rw [len]; exact jl)]; rfl
        have hx2 : ((Fc02.places c t).map pairV)[j]? = some x := by rw [List.getElem?_map, List.getElem?_eq_getElem jl, ← hx, List.getD_eq_getElem?_getD, List.getElem?_eq_getElem jl]; rfl
        exact e5 _ _ (hR.2 j r x hr2 hx2)
theorem stepsF_take {cs : List (Nat × Nat × Nat)} {fs : List Nat} {i : Nat} {z : Nat × Nat × Nat} (h : cs[i]? = some z) : stepsF (cs.take (i + 1)) fs = stepF (stepsF (cs.take i) fs) z.1 z.2.1 := by
  unfold stepsF
  rw [take_succ_of h, List.foldl_append]
  rfl
theorem el_rg1 {ta : TE} {σ : L2.St} {n : Nat} (ha : Ev ta σ H (kN n)) (hn : n ≤ 1000) : EvL (tLstRg (tRg1 ta)) σ H ((List.range n).map kN) := fun H1 e Q q =>
  ha H1 e _ fun H2 e2 => ⟨(n : Int), rfl, RgOk.of_le (by omega) (by omega) (by omega) (by omega), fun p hp => q p _ (fresh_back e2 hp) (e2.trans (Ex.new hp)) (by
    rw [upd_same]
    have : rgV 0 (n : Int) = (List.range n).map kN := by
      unfold rgV
      rw [show ((n : Int) - 0).toNat = n by omega]
      refine List.map_congr_left fun i _ => ?_
      show V.int (0 + (i : Int)) = V.int (i : Int)
      rw [Int.zero_add]
    rw [this])⟩
theorem pure_first_places (T : Txt D mg) (h : sp_first_places D vs H Q E) : t_first_places D (En Q) (start n_first_places vs) H := by
  obtain ⟨a, b, c, t, rfl, hc, hi, R, k⟩ := h
  have W := hc.2
  have wi := hi.2
  have t6 := wi.tot
  have cl := condsAll_len W wi
  refine q_asg (e_row_count hi (ev_var rfl)) fun H1 e1 => ?_
  refine q_as (c_links (hc.mono e1) (hi.mono e1) (ev_var rfl) (ev_var rfl) fun z H2 refs hz e2 h2 hP => ?_)
  have e02 := e1.trans e2
  refine q_asgL (el_rg1 (n := Fc02.total t) (ev_var rfl) (by omega)) fun u H3 hu e3 h3 => ?_
  have e03 := e02.trans e3
  refine q_forR1 (n := (Fc02.total t : Nat)) (ea_cons (ev_var rfl) ea_nil) (by omega) (fun i σ' H' => ∃ v5 v6 v7 v8 v9, σ' = [some (.ref a), some (.ref b), some (kN (Fc02.total t)), some (.ref z), some (.ref u), v5, v6, v7, v8, v9] ∧ Ex H2 H' ∧ H' u = some (.lst ((roundF c t i).map kN))) ?_ ?_ ?_
  · intro H4 e4
    exact ⟨none, none, none, none, none, rfl, e3.trans e4, e4 _ _ h3⟩
  · rintro i σ' H4 hit ⟨v5, v6, v7, v8, v9, rfl, e4, hu4⟩
    refine s_forL (K := D.K) (xs := refs.map V.ref) (ev_var rfl) (sq_of (e4 _ _ h2)) (fun j σ' H' => ∃ v6 v7 v8 v9, σ' = [some (.ref a), some (.ref b), some (kN (Fc02.total t)), some (.ref z), some (.ref u), some (kN i), v6, v7, v8, v9] ∧ Ex H2 H' ∧ H' u = some (.lst ((stepsF ((condsAll c t).take j) (roundF c t i)).map kN))) ?_ ?_ ?_ ?_
    · intro H5 e5
      exact ⟨v6, v7, v8, v9, rfl, e4.trans e5, e5 _ _ hu4⟩
    · rintro j σ' H' _ ⟨v6, v7, v8, v9, rfl, e, _⟩
      exact sq_of (e _ _ h2)
    · rintro j x σ' H5 hx ⟨v6, v7, v8, v9, rfl, e5, hu5⟩
      obtain ⟨r, y, rfl, hy, hr⟩ := link_get (hP.mono e5) hx
      obtain ⟨y1, y2⟩ := conds_in R y (List.mem_of_getElem? hy)
      refine g_three hr ?_
      have fl : (stepsF ((condsAll c t).take j) (roundF c t i)).length = Fc02.total t := by rw [stepsF_len, roundF_len]
      rw [stepsF_take hy]
      generalize stepsF ((condsAll c t).take j) (roundF c t i) = fs at hu5 fl
      have g : ∀ {m : Nat}, m < Fc02.total t → (fs.map kN)[m]? = some (kN (fs.getD m 0)) := fun hm => map_get (getD_some (by rw [fl]; exact hm))
      refine q_asg (ev_min (ev_ixL (i := y.1) (ev_var rfl) (ev_var rfl) hu5 (g y1)) (ev_ixL (i := y.2.1) (ev_var rfl) (ev_var rfl) hu5 (g y2))) fun H6 e6 => ?_
      refine q_setL (j := y.1) (v := kN (min (fs.getD y.1 0) (fs.getD y.2.1 0))) (e6 _ _ hu5) (ev_var rfl) (ev_var rfl) (ev_var rfl) (by rw [List.length_map, fl]; exact y1) fun H7 e7 => ?_
      rw [map_set]
      refine s_setL (j := y.2.1) (v := kN (min (fs.getD y.1 0) (fs.getD y.2.1 0))) upd_same (ev_var rfl) (ev_var rfl) (ev_var rfl) (by rw [List.length_map, List.length_set, fl]; exact y2) fun H8 e8 => ?_
      rw [map_set]
      refine ⟨some (kN y.2.2), some (kN y.1), some (kN y.2.1), some (kN (min (fs.getD y.1 0) (fs.getD y.2.1 0))), rfl, ?_, upd_same⟩
      exact Ex.mut ((Ex.mut ((e5.trans e6).trans e7) hu).trans e8) hu
    · rintro σ' H5 ⟨v6, v7, v8, v9, rfl, e5, hu5⟩
      rw [links_len hP, List.take_length] at hu5
      exact ⟨some (kN i), v6, v7, v8, v9, rfl, e5, hu5⟩
  · rintro σ' H4 ⟨v5, v6, v7, v8, v9, rfl, e4, hu4⟩
    have e : ((Fc02.total t : Nat) : Int).toNat = Fc02.total t := by omega
    rw [e] at hu4
    exact s_ret (ev_var rfl) fun H5 e5 => k u H5 (fresh_back e02 hu) ((e02.trans e4).trans e5) (e5 _ _ hu4)
theorem pure_piece_numbers (T : Txt D mg) (h : sp_piece_numbers D vs H Q E) : t_piece_numbers D (En Q) (start n_piece_numbers vs) H := by
  obtain ⟨q, fs, rfl, hq, hl, hm, k⟩ := h
  refine q_as ?_
  refine t_lc (wi := iEnum D.K (tCons (tVar 0) tNil)) ?_
  refine ⟨_, rfl, q, _, rfl, sq_of hq, ?_⟩
  have ml : (fs.map kN).length = fs.length := List.length_map _
  refine lcE_given (fun i => decide (i = fs.getD i 0)) (fun i => kN i) (sq_of hq) (by rw [ml]; omega) (fun _ _ => rfl) (fun i x H1 e1 hx => ?_) (fun i x H1 e1 hx _ => ev_var rfl) ?_
  · obtain ⟨n, hn, rfl⟩ := map_get_inv hx
    have : fs.getD i 0 = n := by rw [List.getD_eq_getElem?_getD, hn]; rfl
    rw [this]
    exact et_test (ev_eq (ev_var rfl) (ev_var rfl))
  · rw [ml]
    intro p H1 hp e1 h1
    have h1 : H1 p = some (.lst ((headsOf fs).map kN)) := h1
    refine t_lc (wi := iList D.K (tVar 0)) ?_
    refine ⟨_, rfl, q, rfl, ⟨_, sq_of (e1 _ _ hq)⟩, ?_⟩
    refine lcL_given (fun i => true) (fun i => kN (ixOf (headsOf fs) (fs.getD i 0))) (sq_of (e1 _ _ hq)) (by rw [ml]; omega) (fun _ => rfl) (fun i x H2 e2 hx => et_yes) (fun i x H2 e2 hx _ => ?_) ?_
    · obtain ⟨n, hn, rfl⟩ := map_get_inv hx
      have : fs.getD i 0 = n := by rw [List.getD_eq_getElem?_getD, hn]; rfl
      rw [this]
      exact ev_index (ev_var rfl) (ev_var rfl) (e2 _ _ h1) (hm n (List.mem_of_getElem? hn))
    · rw [ml, given_all fs _ _ (fun n => kN (ixOf (headsOf fs) n)) (fun _ _ _ => rfl) fun i x hx => by rw [List.getD_eq_getElem?_getD, hx]; rfl]
      intro r H2 hr e2 h2
      refine k r H2 (fresh_back e1 hr) (e1.trans e2) ?_
      rw [List.map_map]
      exact h2
end
end AR
set_option Elab.async false
set_option linter.all false
set_option maxRecDepth 100000
set_option maxHeartbeats 4000000
/-! Promise gives reading: the conditions by place; all maps. -/
namespace AR
open PySem PySem.Spec PyProof.Rows L2 Evl
/-- what has been told so far, place by place -/
def CondsSt (H : Hp) (rr : List Addr) (qs : List Addr) (pre : List (Nat × Nat × Nat)) : Prop := ∀ (k : Nat) (q : Addr), qs[k]? = some q → CondsAt H rr q (pre.filter fun z => max z.1 z.2.1 == k)
theorem CondsSt.mono {H H' : Hp} {rr qs : List Addr} {pre : List (Nat × Nat × Nat)} (e : Ex H H') (h : CondsSt H rr qs pre) : CondsSt H' rr qs pre := fun k q hq => (h k q hq).mono e
theorem nodup_inj {α : Type} {l : List α} (h : l.Nodup) {i j : Nat} {x : α} (hi : l[i]? = some x) (hj : l[j]? = some x) : i = j := nd_ix h hi hj
theorem CondsSt.app {H : Hp} {rr qs : List Addr} {pre : List (Nat × Nat × Nat)} {z : Nat × Nat × Nat} {q r : Addr} {refs : List Addr} (h : CondsSt H rr qs pre) (nd : qs.Nodup) (hq : qs[max z.1 z.2.1]? = some q) (hl : H q = some (.lst (refs.map V.ref))) (hP : Pts H .tup refs ((pre.filter fun y => max y.1 y.2.1 == max z.1 z.2.1).map (condV rr))) (hr : H r = some (.tup (condV rr z))) :
    CondsSt (upd H q (.lst (refs.map V.ref ++ [.ref r]))) rr qs (pre ++ [z]) := by
  intro k y hy
  have rq : r ≠ q := fun w => by rw [w, hl] at hr; cases hr
  by_cases e : k = max z.1 z.2.1
  · subst e
    rw [hq] at hy
    cases hy
    refine ⟨refs ++ [r], by rw [List.map_append]; exact upd_same, ?_⟩
    rw [List.filter_append, List.map_append, List.filter_cons, if_pos (by simp)]
    refine Pts.snoc (hP.tup_upd hl) ?_
    rw [upd_ne rq]
    exact hr
  · obtain ⟨rs, h1, h2⟩ := h k y hy
    have yq : y ≠ q := fun w => e (nodup_inj nd (w ▸ hy) hq)
    refine ⟨rs, by rw [upd_ne yq]; exact h1, ?_⟩
    rw [List.filter_append, List.filter_cons, if_neg (by simpa using fun w => e w.symm)]
    rw [List.filter_nil, List.append_nil]
    exact h2.tup_upd hl
section
variable {D : Ad} {mg : Str → Option Value} {vs : List V} {H : Hp} {Q : VK} {E : XK}
theorem lcB_of {K : PySem.W.Frag} {a : Addr} {g : TG} {t : TT} {te : TE} {vs : List Nat} {σ : L2.St} (h : tLc (iList K (tC (.ref a))) g t te vs σ H Q) : lcB (Itl K a) g t te vs σ H Q := by
  obtain ⟨a', e, _, w⟩ := h
  cases e
  exact w
theorem pure_conditions_by_place (T : Txt D mg) (h : sp_conditions_by_place D vs H Q E) : t_conditions_by_place D (En Q) (start n_conditions_by_place vs) H := by
  obtain ⟨a, b, l, c, s, t, rfl, hc, hi, hI, R, k⟩ := h
  have W := hc.2
  have wi := hi.2
  have t6 := wi.tot
  have cl := condsAll_len W wi
  refine q_as ?_
  refine t_lc (wi := iList D.K (tCall (sp_rows_in_order D) [] C8.E0 (tCons (tVar 1) tNil))) ?_
  refine c_rows_in_order hi (ev_var rfl) fun y H0 rs hy e0 h0 hR => ⟨y, rfl, ⟨_, sq_of h0⟩, ?_⟩
  have pl : (rs.map V.ref).length = Fc02.total s := by rw [List.length_map, hR.1, List.length_map, places_length wi.sz]
  refine lcB_of (lcL_new (K := D.K) (o := HO.lst) (xs := fun _ => []) (σ := start n_conditions_by_place [V.ref a, V.ref b, V.ref l.b]) ev_c h0 (by rw [pl]; omega) (fun x => rfl) (fun i y H1 e1 hy => el_lst ea_nil (Nat.zero_le _)) fun p H1 qs N => ?_)
  have e01 := e0.trans N.ex
  have qsl : qs.length = Fc02.total s := by rw [N.pts.1, List.length_map, List.length_range, pl]
  have qnd : qs.Nodup := (List.nodup_cons.mp N.nd).2
  have pqs : p ∉ qs := (List.nodup_cons.mp N.nd).1
  have C0 : CondsSt H1 l.rr qs [] := fun kk q hq => by
    refine ⟨[], ?_, Pts.nil⟩
    have hl : kk < (rs.map V.ref).length := by rw [pl, ← qsl]; exact (List.getElem?_eq_some_iff.mp hq).1
    exact N.pts.2 kk q [] hq (by rw [List.getElem?_map, List.getElem?_range hl]; rfl)
  show tSeq (tFor (iList D.K (tCall (sp_links D) [] C8.E0 (tCons (tVar 0) (tCons (tVar 1) tNil)))) _ _) _ _ [some (.ref a), some (.ref b), some (.ref l.b), some (.ref p), none, none, none, none] H1
  refine c_links (hc.mono e01) (hi.mono e01) (ev_var rfl) (ev_var rfl) fun z H2 ks hz e2 h2 hP => ⟨z, rfl, ⟨_, sq_of h2⟩, ?_⟩
  have zq : z ∉ qs := fun w => by
    obtain ⟨u, q⟩ := N.pts.mem_some w
    rw [q] at hz; cases hz
  refine for_list (K := D.K) (xs := ks.map V.ref) (fun i σ' H' => ∃ v5 v6 v7, σ' = [some (.ref a), some (.ref b), some (.ref l.b), some (.ref p), none, v5, v6, v7] ∧ Ex H H' ∧ H' p = some (.lst (qs.map V.ref)) ∧ H' z = some (.lst (ks.map V.ref)) ∧ Pts H' .tup ks ((condsAll c s).map linkV) ∧ CondsSt H' l.rr qs ((condsAll c s).take i)) ?_ ?_ ?_ ?_
  · exact ⟨none, none, none, rfl, e01.trans e2, e2 _ _ N.at_, h2, hP, by rw [List.take_zero]; exact C0.mono e2⟩
  · rintro i σ' H' _ ⟨v5, v6, v7, rfl, _, _, hz, _⟩
    exact sq_of hz
  · rintro i x σ' H4 hx ⟨v5, v6, v7, rfl, e4, hp4, hz4, hP4, C4⟩
    obtain ⟨r, y, rfl, hy, hr⟩ := link_get hP4 hx
    have ym := List.mem_of_getElem? hy
    obtain ⟨y1, y2⟩ := conds_in R y ym
    have fo : y.2.2 ∈ others c := by
      obtain ⟨f, u, fo, _, rfl⟩ := mem_condsAll.mp ym
      exact fo
    obtain ⟨fn, fl⟩ := mem_others.mp fo
    refine g_three hr ?_
    have hmx : max y.1 y.2.1 < qs.length := by rw [qsl]; omega
    obtain ⟨q, hq⟩ : ∃ q, qs[max y.1 y.2.1]? = some q := ⟨_, List.getElem?_eq_getElem hmx⟩
    have qm := List.mem_of_getElem? hq
    obtain ⟨refs, hl, hPr⟩ := C4 _ q hq
    have sz : (refs.map V.ref).length < 100000 := by
      rw [List.length_map, hPr.1, List.length_map]
      have a1 := List.length_filter_le (fun z : Nat × Nat × Nat => max z.1 z.2.1 == max y.1 y.2.1) ((condsAll c s).take i)
      rw [List.length_take] at a1
      omega
    have hI6 := hI.mono e4
    have hrr : l.rr[y.2.2]? = some (l.rr.getD y.2.2 0) := by rw [List.getD_eq_getElem?_getD, List.getElem?_eq_getElem (by rw [hI.rl]; exact fl)]; rfl
    refine s_appU (ys := condV l.rr y) hl (ev_ixL (i := max y.1 y.2.1) (ev_var rfl) (ev_max (ev_var rfl) (ev_var rfl)) hp4 (map_get hq))
      (eu_tup (ea_cons (ev_var rfl) (ea_cons (ev_var rfl) (ea_cons (ev_ixL (ev_fld (ev_var rfl) hI6.ob T.cl_Instance T.na_leads instF_leads) (ev_var rfl) hI6.ll (map_get hrr)) ea_nil))) (by show 3 ≤ 100000; decide)) sz fun w H7 hw e7 h7 => ?_
    have hqn : H q = none := fresh_back e0 (N.new q (List.mem_cons_of_mem _ qm))
    refine ⟨some (kN y.2.2), some (kN y.1), some (kN y.2.1), rfl, Ex.mut (e4.trans e7) hqn, ?_, ?_, (hP4.mono e7).tup_upd (e7 _ _ hl), ?_⟩
    · rw [upd_ne (fun w : p = q => pqs (by rw [w]; exact qm))]; exact e7 _ _ hp4
    · rw [upd_ne (fun w : z = q => zq (by rw [w]; exact qm))]; exact e7 _ _ hz4
    · rw [take_succ_of hy]
      exact (C4.mono e7).app qnd hq (e7 _ _ hl) (hPr.mono e7) h7
  · rintro σ' H4 ⟨v5, v6, v7, rfl, e4, hp4, hz4, hP4, C4⟩
    rw [links_len hP, List.take_length] at C4
    exact s_ret (ev_var rfl) fun H5 e5 => k p H5 qs (e4.trans e5) (e5 _ _ hp4) qsl (C4.mono e5)
theorem conds_ok {c : Fc02.Cat} {s t : Fc02.Inst} (W : WC c) (wi : WI c s) (R : Right c s) {i x r v : Nat} {m : List Nat} (B : Beg c s t i m) (hp : (Fc02.places c s)[i]? = some (x, r)) (hv : v < Fc02.rows t x) : CondsOk c t (conds c s i) (m ++ [v]) := by
  intro q hq
  obtain ⟨f, y, fo, hy, rfl, e⟩ := mem_conds.mp hq
  obtain ⟨fn, fl⟩ := mem_others.mp fo
  have ml : (m ++ [v]).length = i + 1 := by rw [List.length_append, B.len]; rfl
  refine ⟨fo, ?_, ?_, ?_⟩
  · rw [ml]; show Fc02.offset s (Fc02.from_ c f) + y < i + 1; omega
  · rw [ml]; show Fc02.offset s (Fc02.to_ c f) + Fc02.go c s f y < i + 1; omega
  · show (m ++ [v]).getD (Fc02.offset s (Fc02.from_ c f) + y) 0 < Fc02.rows t (Fc02.from_ c f)
    have pa := places_at wi.sz (from_lt W fl) hy
    by_cases z : Fc02.offset s (Fc02.from_ c f) + y < i
    · rw [getD_left (by rw [B.len]; exact z)]
      exact B.there _ _ _ z pa
    · have z : Fc02.offset s (Fc02.from_ c f) + y = i := by omega
      rw [getD_last (by rw [B.len]; exact z)]
      rw [z, hp] at pa
      cases pa
      exact hv
theorem pure_all_maps (T : Txt D mg) (h : sp_all_maps D vs H Q E) : t_all_maps D (En Q) (start n_all_maps vs) H := by
  obtain ⟨a, b, b2, c, s, t, rfl, hc, hi, hi2, R, k⟩ := h
  have W := hc.2
  have wi := hi.2
  obtain ⟨⟨l, rfl, hI⟩, wi2⟩ := id hi2
  refine ⟨_, rfl, _, rfl, _, rfl, a, b, l, c, s, t, rfl, hc, hi, hI, R, fun u H1 qs e1 hu ql hqs => ?_⟩
  show tSeq (tAsg (tLst (tCons (tLst tNil) tNil)) (gName 4)) _ _ [some (.ref a), some (.ref b), some (.ref l.b), some (.ref u), none, none, none] H1
  refine ⟨Nat.zero_le _, fun y hy => ⟨(by show 1 ≤ sizeLine; decide), fun p hp => ?_⟩⟩
  have py : p ≠ y := fun z => by rw [z, upd_same] at hp; cases hp
  have e2 : Ex H1 (upd (upd H1 y (.lst [])) p (.lst [.ref y])) := (Ex.new hy).trans (Ex.new hp)
  show tSeq (tFor (iEnum D.K (tCons (tCall (sp_rows_in_order D) [] C8.E0 (tCons (tVar 1) tNil)) tNil)) _ _) _ _ [some (.ref a), some (.ref b), some (.ref l.b), some (.ref u), some (.ref p), none, none] _
  refine c_rows_in_order (hi.mono (e1.trans e2)) (ev_var rfl) fun z H3 zs hz e3 h3 hZ => ?_
  have plen := places_length (c := c) (t := s) wi.sz
  refine ⟨z, _, rfl, sq_of h3, for_enum (K := D.K) (a := z) (xs := zs.map V.ref) (fun i σ' H' => ∃ (p : Addr) (refs : List Addr) (v5 v6 : Option V), σ' = [some (.ref a), some (.ref b), some (.ref l.b), some (.ref u), some (.ref p), v5, v6] ∧ Ex H1 H' ∧ H' z = some (.lst (zs.map V.ref)) ∧ Pts H' .tup zs ((Fc02.places c s).map pairV) ∧ NewL H H' .lst (listsV (stage c s t i)) p refs) ?_ ?_ ?_ ?_⟩
  · refine ⟨p, [y], none, none, rfl, e2.trans e3, h3, hZ, ⟨(e1.trans e2).trans e3, e3 _ _ upd_same, ⟨rfl, fun i r x h1 h2 => ?_⟩, fun r hr => ?_, ?_⟩⟩
    · cases i with
      | zero =>
        cases h1; cases h2
        exact e3 _ _ (by rw [upd_ne (Ne.symm py)]; exact upd_same)
      | succ i => simp at h1
    · rcases List.mem_cons.mp hr with q | q
      · rw [q]; exact fresh_back (e1.trans (Ex.new hy)) hp
      · rw [List.mem_singleton.mp q]; exact fresh_back e1 hy
    · exact List.nodup_cons.mpr ⟨by rw [List.mem_singleton]; exact py, by simp⟩
  · rintro i σ' H' _ ⟨p, refs, v5, v6, rfl, _, hz, _⟩
    exact sq_of hz
  · rintro i x σ' H4 U hx ⟨p, refs, v5, v6, rfl, e4, hz4, hZ4, N4⟩ hU
    obtain ⟨w, hw, rfl⟩ := map_get_inv hx
    obtain ⟨⟨y, r⟩, hpl⟩ : ∃ z, (Fc02.places c s)[i]? = some z := ⟨_, List.getElem?_eq_getElem (by have := (List.getElem?_eq_some_iff.mp hw).1; rw [hZ4.1, List.length_map] at this; exact this)⟩
    have hwt : H4 w = some (.tup [kN y, kN r]) := hZ4.2 i w _ hw (by rw [List.getElem?_map, hpl]; rfl)
    obtain ⟨yn, yr, yk⟩ := places_get hpl
    have il := (List.getElem?_eq_some_iff.mp hpl).1
    have e5 : Ex H4 (upd H4 U (.tup [kN i, .ref w])) := Ex.new hU
    have e15 := e4.trans e5
    have e05 := e1.trans e15
    obtain ⟨q, hq⟩ : ∃ q, qs[i]? = some q := ⟨_, List.getElem?_eq_getElem (by rw [ql, ← plen]; exact il)⟩
    have ev : EvA (tCons (tVar 4) (tCons (tOp (rIxL D.K) (tFld D.K (tVar 2) "counts") (tOp (rIxT D.K) (tVar 6) (tC (.int 0)))) (tCons (tOp (rIxL D.K) (tVar 3) (tVar 5)) tNil))) [some (.ref a), some (.ref b), some (.ref l.b), some (.ref u), some (.ref p), some (kN i), some (.ref w)] (upd H4 U (.tup [kN i, .ref w])) [.ref p, kN (Fc02.rows t y), .ref q] :=
      ea_cons (ev_var rfl) (ea_cons (e_counts T (hi2.mono e05) (ev_var rfl) (ev_ixT (i := 0) (ev_var rfl) ev_c (e5 _ _ hwt) rfl) yn) (ea_cons (ev_ixL (i := i) (ev_var rfl) (ev_var rfl) (e15 _ _ hu) (map_get hq)) ea_nil))
    have sl := stage_len (c := c) (s := s) wi2.tot i
    have i6 : i < 6 := by have := wi.tot; omega
    have pw : 6 ^ i ≤ 7776 := by
      have : 6 ^ i ≤ 6 ^ 5 := Nat.pow_le_pow_right (by decide) (by omega)
      have e : 6 ^ 5 = 7776 := by decide
      omega
    refine s_as (t_call ev fun H6 e6 => ⟨p, q, refs, l, c, t, stage c s t i, Fc02.rows t y, conds c s i, rfl, hI.mono (e05.trans e6), wi2, (e5.trans e6) _ _ N4.at_, N4.pts.mono (e5.trans e6), (hqs i q hq).mono (e15.trans e6), fun m hm => ?_, rows_small wi2 y, by omega, fun p' H7 refs' N7 => ?_⟩)
    · have B := beg_stage (t := t) (k := i) (Nat.le_of_lt il) m hm
      exact ⟨by rw [B.len]; omega, fun v hv => conds_ok W wi R B hpl hv⟩
    · refine ⟨p', refs', some (kN i), some (.ref w), rfl, (e15.trans e6).trans N7.ex, ((e5.trans e6).trans N7.ex) _ _ hz4, hZ4.mono ((e5.trans e6).trans N7.ex), ?_⟩
      show NewL H H7 .lst (listsV (grownM c t (stage c s t i) (Fc02.rows t ((Fc02.places c s).getD i (0, 0)).1) (conds c s i))) p' refs'
      rw [List.getD_eq_getElem?_getD, hpl]
      exact N7.base (e05.trans e6)
  · rintro σ' H4 ⟨p, refs, v5, v6, rfl, e4, hz4, hZ4, N4⟩
    rw [List.length_map, hZ.1, List.length_map, plen, stage_all W wi.sz R] at N4
    exact ⟨_, rfl, k p H4 refs N4⟩
end
end AR
set_option Elab.async false
set_option linter.all false
set_option maxRecDepth 100000
set_option maxHeartbeats 4000000
/-! Promise gives reading: what maps are asked; a thing's arrows. -/
namespace AR
open PySem PySem.Spec PyProof.Rows L2 Evl
theorem drop_min {α : Type} (l : List α) (a : Nat) : l.drop (min a l.length) = l.drop a := by
  by_cases h : a ≤ l.length
  · rw [Nat.min_eq_left h]
  · rw [Nat.min_eq_right (by omega), List.drop_of_length_le (Nat.le_refl _), List.drop_of_length_le (by omega)]
theorem cut_two (xs : List V) (a b : Nat) : cutV xs (some (a : Int)) (some (b : Int)) = (xs.drop a).take (b - a) := by
  unfold cutV
  rw [HT.sIx_nat, HT.sIx_nat, drop_min]
  by_cases h : b ≤ xs.length
  · rw [Nat.min_eq_left h]
    by_cases g : a ≤ xs.length
    · rw [Nat.min_eq_left g]
    · rw [List.drop_of_length_le (by omega), List.take_nil, List.take_nil]
  · rw [Nat.min_eq_right (by omega)]
    by_cases g : a ≤ xs.length
    · rw [Nat.min_eq_left g, List.take_of_length_le (by rw [List.length_drop]; exact Nat.le_refl _), List.take_of_length_le (by rw [List.length_drop]; omega)]
    · rw [List.drop_of_length_le (by omega), List.take_nil, List.take_nil]
theorem cut_from (xs : List V) (a : Nat) : cutV xs (some (a : Int)) none = xs.drop a := by
  unfold cutV
  rw [HT.sIx_nat, HT.sIx_none, drop_min]
  by_cases g : a ≤ xs.length
  · rw [Nat.min_eq_left g, List.take_of_length_le (by rw [List.length_drop]; exact Nat.le_refl _)]
  · rw [List.drop_of_length_le (by omega), List.take_nil]
theorem sort_nat {l : List Nat} {ns : List Int} (hp : ns.Perm (l.map fun n : Nat => (n : Int))) (hs : ns.Pairwise (· ≤ ·)) : ∃ ms : List Nat, ns = ms.map (fun n : Nat => (n : Int)) ∧ ms.Perm l ∧ ms.Pairwise (· ≤ ·) := by
  have nn : ∀ z, z ∈ ns → 0 ≤ z := fun z hz => by
    obtain ⟨n, _, rfl⟩ := List.mem_map.mp (hp.mem_iff.mp hz)
    omega
  refine ⟨ns.map Int.toNat, ?_, ?_, ?_⟩
  · rw [List.map_map]
    have : ns.map ((fun n : Nat => (n : Int)) ∘ Int.toNat) = ns.map id := List.map_congr_left fun z hz => by
      have := nn z hz
      show ((z.toNat : Nat) : Int) = z
      omega
    rw [this, List.map_id]
  · have q := hp.map Int.toNat
    rw [List.map_map] at q
    have : l.map (Int.toNat ∘ fun n : Nat => (n : Int)) = l.map id := List.map_congr_left fun z _ => by
      show ((z : Int)).toNat = z
      omega
    rw [this, List.map_id] at q
    exact q
  · exact hs.map Int.toNat fun a b h => by omega
theorem ints_inj {l m : List Nat} : decide (l.map (fun n : Nat => (n : Int)) = m.map fun n : Nat => (n : Int)) = decide (l = m) := by
  rw [Bool.eq_iff_iff, decide_eq_true_iff, decide_eq_true_iff]
  constructor
  · intro h
    have := congrArg (List.map Int.toNat) h
    rw [List.map_map, List.map_map] at this
    have e : ∀ k : List Nat, k.map (Int.toNat ∘ fun n : Nat => (n : Int)) = k := fun k => by
      have : k.map (Int.toNat ∘ fun n : Nat => (n : Int)) = k.map id := List.map_congr_left fun z _ => by
        show ((z : Int)).toNat = z
        omega
      rw [this, List.map_id]
    rw [e, e] at this
    exact this
  · intro h; rw [h]
section
variable {D : Ad} {mg : Str → Option Value} {vs : List V} {H : Hp} {Q : VK} {E : XK}
theorem pure_takes_there (T : Txt D mg) (h : sp_takes_there D vs H Q E) : t_takes_there D (En Q) (start n_takes_there vs) H := by
  obtain ⟨w, q, refs, m, ws, rfl, hw, hq, hP, ok, k⟩ := h
  refine q_forL (K := D.K) (ev_var rfl) (sq_of hq) (fun i σ' H' => ∃ v2 v3, σ' = [some (.ref w), some (.ref q), v2, v3] ∧ Ex H H' ∧ ∀ j z, j < i → ws[j]? = some z → (m.getD z.1 0 == z.2) = true) ?_ ?_ ?_ ?_
  · intro H1 e1
    exact ⟨none, none, rfl, e1, fun j z hj => by omega⟩
  · rintro i σ' H' _ ⟨v2, v3, rfl, e1, _⟩
    exact sq_of (e1 _ _ hq)
  · rintro i x σ' H1 hx ⟨v2, v3, rfl, e1, hj⟩
    obtain ⟨r, hr, rfl⟩ := map_get_inv hx
    have il := (List.getElem?_eq_some_iff.mp hr).1
    rw [hP.1, List.length_map] at il
    obtain ⟨⟨u, v⟩, hz⟩ : ∃ z, ws[i]? = some z := ⟨_, List.getElem?_eq_getElem il⟩
    have ul := ok (u, v) (mem_take_of hz)
    have ht : H1 r = some (.tup [kN u, kN v]) := e1 _ _ (hP.2 i r _ hr (by rw [List.getElem?_map, hz]; rfl))
    refine g_pair ht ?_
    refine s_when (et_test (ev_ne (i := m.getD u 0) (j := v) (ev_ixL (p := w) (i := u) (ev_var rfl) (ev_var rfl) (e1 _ _ hw) (map_get (getD_some ul))) (ev_var rfl))) (fun hb H2 e2 => ?_) (fun hb H2 e2 => ?_)
    · have ne : ¬ m.getD u 0 = v := by simpa using hb
      have fa : (ws.all fun z => m.getD z.1 0 == z.2) = false := by
        cases z : (ws.all fun z => m.getD z.1 0 == z.2) with
        | false => rfl
        | true =>
          have := List.all_eq_true.mp z (u, v) (mem_take_of hz)
          exact absurd (by simpa using this) ne
      rw [fa] at k
      exact s_ret ev_c fun H3 e3 => k H3 ((e1.trans e2).trans e3)
    · have eq : m.getD u 0 = v := by simpa using hb
      refine ⟨some (kN u), some (kN v), rfl, e1.trans e2, fun j z hjl hjz => ?_⟩
      by_cases e : j = i
      · subst e
        rw [hz] at hjz
        cases hjz
        simpa using eq
      · exact hj j z (by omega) hjz
  · rintro σ' H1 ⟨v2, v3, rfl, e1, hj⟩
    rw [List.length_map, hP.1, List.length_map] at hj
    have tr : (ws.all fun z => m.getD z.1 0 == z.2) = true := by
      refine List.all_eq_true.mpr fun z hz => ?_
      obtain ⟨j, hjl, e⟩ := List.getElem_of_mem hz
      exact hj j z hjl (by rw [List.getElem?_eq_getElem hjl, e])
    rw [tr] at k
    exact s_ret ev_c fun H3 e3 => k H3 (e1.trans e3)
theorem pure_takes_to_each_once (T : Txt D mg) (h : sp_takes_to_each_once D vs H Q E) : t_takes_to_each_once D (En Q) (start n_takes_to_each_once vs) H := by
  obtain ⟨b, b2, w, c, s, t, m, rfl, hi, hi2, hw, hm, k⟩ := h
  obtain ⟨⟨l, rfl, q⟩, ws⟩ := id hi
  have wt := hi2.2
  refine q_asg (v := kN 0) ev_c fun H1 e1 => ?_
  refine ⟨_, rfl, l.b, D.cI, l.dx, _, _, rfl, e1 _ _ q.ob, T.cl_Instance, T.na_counts, instF_counts, l.cl, _, rfl, sq_of (e1 _ _ q.lc), for_enum (K := D.K) (a := l.cl) (xs := s.size.map kN) (fun i σ' H' => ∃ v4 v5 v6, σ' = [some (.ref l.b), some (.ref b2), some (.ref w), some (kN (Fc02.offset s i)), v4, v5, v6] ∧ Ex H H' ∧ ∀ x, x < i → turnAt s t m x = true) ?_ ?_ ?_ ?_⟩
  · exact ⟨none, none, none, rfl, e1, fun x hx => by omega⟩
  · rintro i σ' H' _ ⟨v4, v5, v6, rfl, e2, _⟩
    exact sq_of (e2 _ _ q.lc)
  · rintro i x σ' H2 U hx ⟨v4, v5, v6, rfl, e2, hj⟩ hU
    obtain ⟨n, hn, rfl⟩ := map_get_inv hx
    have il := (List.getElem?_eq_some_iff.mp hn).1
    have ic : i < c.n := by rw [← ws.sz]; exact il
    have en : n = Fc02.rows s i := by
      rw [rows_get il] at hn
      exact (Option.some.inj hn).symm
    subst en
    have e3 : Ex H2 (upd H2 U (.tup [kN i, kN (Fc02.rows s i)])) := Ex.new hU
    have e03 := e2.trans e3
    refine q_asg (v := kN (Fc02.offset s (i + 1))) (by rw [offset_succ]; exact ev_add (ev_var rfl) (ev_var rfl)) fun H4 e4 => ?_
    have e04 := e03.trans e4
    have rs := rows_small wt i
    refine q_when (b := !turnAt s t m i) (et_test fun H5 e5 R kk => ?_) (fun hb H5 e5 => ?_) (fun hb H5 e5 => ?_)
    · have e05 := e04.trans e5
      have z := el_sl (K := D.K) (H := H5) (σ := [some (.ref l.b), some (.ref b2), some (.ref w), some (kN (Fc02.offset s i)), some (kN i), some (kN (Fc02.rows s i)), some (kN (Fc02.offset s (i + 1)))]) (ev_var (i := 2) rfl) (eo_some (i := (Fc02.offset s i : Int)) (ev_var (i := 3) rfl)) (eo_some (i := ((Fc02.offset s (i + 1) : Nat) : Int)) (ev_var (i := 6) rfl)) (sq_of (e05 _ _ hw))
      rw [cut_two] at z
      have ec : ((m.map kN).drop (Fc02.offset s i)).take (Fc02.offset s (i + 1) - Fc02.offset s i) = (sliceAt s m i).map kN := by
        unfold sliceAt
        rw [offset_succ, Nat.add_sub_cancel_left, List.map_take, List.map_drop]
      rw [ec, map_kN] at z
      refine z H5 (Ex.refl _) _ fun p H6 hp e6 h6 => ⟨p, _, rfl, sq_of h6, fun ns r per srt hr => ?_⟩
      obtain ⟨ms, rfl, pm, sm⟩ := sort_nat per srt
      have e7 : Ex H6 (upd H6 r (.lst ((ms.map fun n : Nat => (n : Int)).map V.int))) := Ex.new hr
      have e57 := e6.trans e7
      refine el_rg1 (n := Fc02.rows t i) (e_counts T (hi2.mono (e05.trans e57)) (ev_var rfl) (ev_var rfl) ic) (by omega) _ (Ex.refl _) _ fun y H8 hy e8 h8 => ?_
      rw [map_kN] at h8
      have fin := rv_neL (K := D.K) (e8 _ _ upd_same) h8
      rw [ints_inj, turn_sorted hm i pm sm] at fin
      exact fin H8 (Ex.refl _) _ fun H9 e9 => kk H9 (((e57.trans e8).trans e9))
    · have tf : turnAt s t m i = false := by simpa using hb
      have fa : Fc02.isTurn c s t m = false := by
        rw [isTurn_eq]
        cases z : (Fc02.things c).all (turnAt s t m) with
        | false => rfl
        | true =>
          have := List.all_eq_true.mp z i (List.mem_range.mpr ic)
          rw [tf] at this; cases this
      rw [fa] at k
      exact s_ret ev_c fun H6 e6 => k H6 ((e04.trans e5).trans e6)
    · have tt : turnAt s t m i = true := by simpa using hb
      refine s_asg (v := kN (Fc02.offset s (i + 1))) (ev_var rfl) fun H6 e6 => ⟨some (kN i), some (kN (Fc02.rows s i)), some (kN (Fc02.offset s (i + 1))), rfl, (e04.trans e5).trans e6, fun x hx => ?_⟩
      by_cases e : x = i
      · rw [e]; exact tt
      · exact hj x (by omega)
  · rintro σ' H2 ⟨v4, v5, v6, rfl, e2, hj⟩
    rw [List.length_map, ws.sz] at hj
    have tr : Fc02.isTurn c s t m = true := by
      rw [isTurn_eq]
      exact List.all_eq_true.mpr fun x hx => hj x (List.mem_range.mp hx)
    rw [tr] at k
    exact k H2 e2
theorem pure_arrows_by_end (T : Txt D mg) (h : sp_arrows_by_end D vs H Q E) : t_arrows_by_end D (En Q) (start n_arrows_by_end vs) H := by
  obtain ⟨a, c, x, rfl, hc, k⟩ := h
  have n3 := hc.2.n3
  refine lcR_new (o := HO.lst) (n := c.n) (xs := fun y => (Fc02.hom c x y).map kN) (ea_cons (e_things T hc (ev_var rfl)) ea_nil) (by omega) (fun y => rfl) (fun y H1 e1 hy => e_arrows_between (hc.mono e1) (ev_var rfl) (ev_var rfl) (ev_var rfl)) fun p H2 refs N => k p H2 refs ?_
  unfold listsV
  rw [List.map_map]
  exact N
theorem by_end_get {c : Fc02.Cat} {x y : Nat} {refs : List Addr} {H' : Hp} (hP : Pts H' .lst refs (listsV ((List.range c.n).map (Fc02.hom c x)))) (hy : y < c.n) : ∃ r, refs[y]? = some r ∧ H' r = some (.lst ((Fc02.hom c x y).map kN)) :=
  hP.get (by unfold listsV; rw [List.getElem?_map, List.getElem?_map, List.getElem?_range hy]; rfl)
theorem map_pre_len {c : Fc02.Cat} (W : WC c) (x : Nat) (g : Nat → Nat) : ∀ i, ((List.range i).flatMap fun y => (Fc02.hom c x y).map g).length ≤ i * 9
  | 0 => Nat.zero_le _
  | i + 1 => by
    have a := map_pre_len W x g i
    have b := hom_len c x i
    have d := W.len9
    rw [List.range_succ, List.flatMap_append, List.length_append, List.flatMap_singleton, List.length_map]
    omega
theorem pure_map_to_row (T : Txt D mg) (h : sp_map_to_row D vs H Q E) : t_map_to_row D (En Q) (start n_map_to_row vs) H := by
  obtain ⟨a, b, c, t, x, r, rfl, hc, hi, hr, k⟩ := h
  have W := hc.2
  have n3 := W.n3
  refine q_asgL (el_lst ea_nil (Nat.zero_le _)) fun p H1 hp e1 h1 => ?_
  refine c_arrows_by_end (hc.mono e1) (ev_var rfl) (ev_var rfl) fun u H2 refs N => ⟨u, rfl, ⟨_, sq_of N.at_⟩, ?_⟩
  have up : u ≠ p := fun z => by have := N.new u List.mem_cons_self; rw [z, h1] at this; cases this
  have pr : p ∉ refs := fun z => by have := N.new p (List.mem_cons_of_mem _ z); rw [h1] at this; cases this
  refine for_list (K := D.K) (xs := refs.map V.ref) (fun i σ' H' => ∃ v5, σ' = [some (.ref a), some (.ref b), some (kN x), some (kN r), some (.ref p), v5, none] ∧ Ex H H' ∧ H' u = some (.lst (refs.map V.ref)) ∧ Pts H' .lst refs (listsV ((List.range c.n).map (Fc02.hom c x))) ∧ H' p = some (.lst (((List.range i).flatMap fun y => (Fc02.hom c x y).map fun h => Fc02.go c t h r).map kN))) ?_ ?_ ?_ ?_
  · exact ⟨none, rfl, e1.trans N.ex, N.at_, N.pts, N.ex _ _ h1⟩
  · rintro i σ' H' _ ⟨v5, rfl, _, hu, _⟩
    exact sq_of hu
  · rintro i v σ' H3 hv ⟨v5, rfl, e3, hu3, hP3, hp3⟩
    obtain ⟨w, hw, rfl⟩ := map_get_inv hv
    have il : i < c.n := by
      have := (List.getElem?_eq_some_iff.mp hw).1
      rw [hP3.1, listsV, List.length_map, List.length_map, List.length_range] at this
      exact this
    obtain ⟨w', hw', hwl⟩ := by_end_get hP3 il
    rw [hw] at hw'; cases hw'
    have pre := map_pre_len W x (fun h => Fc02.go c t h r) i
    have hl := hom_len c x i
    have l9 := W.len9
    have row : EvL (tLc (iList D.K (tVar 5)) (gName 6) tYes (tCall (sp_leads_to D) [] C8.E0 (tCons (tVar 0) (tCons (tVar 1) (tCons (tVar 6) (tCons (tVar 3) tNil))))) [6]) [some (.ref a), some (.ref b), some (kN x), some (kN r), some (.ref p), some (.ref w), none] H3 (((Fc02.hom c x i).map fun h => Fc02.go c t h r).map kN) := by
      have z := el_lcL (K := D.K) (H := H3) (σ := [some (.ref a), some (.ref b), some (kN x), some (kN r), some (.ref p), some (.ref w), none]) (tl := tVar 5) (j := 6) (vs := [6]) (t := tYes) (te := tCall (sp_leads_to D) [] C8.E0 (tCons (tVar 0) (tCons (tVar 1) (tCons (tVar 6) (tCons (tVar 3) tNil))))) (fun _ => true) (fun j => kN (Fc02.go c t ((Fc02.hom c x i).getD j 0) r)) (ev_var rfl) (sq_of hwl) (by rw [List.length_map]; omega) (fun _ => rfl) (fun _ _ _ _ _ => et_yes) (fun j y H4 e4 hy _ => by
        obtain ⟨h, hh, rfl⟩ := map_get_inv hy
        have eh : (Fc02.hom c x i).getD j 0 = h := by rw [List.getD_eq_getElem?_getD, hh]; rfl
        rw [eh]
        obtain ⟨h1, h2, _⟩ := mem_hom.mp (List.mem_of_getElem? hh)
        exact e_leads_to (hc.mono (e3.trans e4)) (hi.mono (e3.trans e4)) (ev_var rfl) (ev_var rfl) (ev_var rfl) (ev_var rfl) h1 fun _ => by rw [h2]; exact hr)
      rw [List.length_map, given_all (Fc02.hom c x i) _ _ (fun h => kN (Fc02.go c t h r)) (fun _ _ _ => rfl) fun j h hh => by rw [List.getD_eq_getElem?_getD, hh]; rfl] at z
      rw [List.map_map]
      exact z
    refine s_extL (K := D.K) hp3 (ev_var rfl) row (by rw [List.length_map, List.length_map, List.length_map]; omega) fun H4 e4 => ?_
    refine ⟨some (.ref w), rfl, Ex.mut (e3.trans e4) hp, by rw [upd_ne up]; exact e4 _ _ hu3, Pts.upd_ne (hP3.mono e4) pr, ?_⟩
    rw [upd_same, List.range_succ, List.flatMap_append, List.flatMap_singleton, List.map_append]
  · rintro σ' H3 ⟨v5, rfl, e3, hu3, hP3, hp3⟩
    have ln : (refs.map V.ref).length = c.n := by rw [List.length_map, N.pts.1, listsV, List.length_map, List.length_map, List.length_range]
    rw [ln] at hp3
    exact s_ret (ev_var rfl) fun H4 e4 => k p H4 hp (e3.trans e4) (e4 _ _ hp3)
theorem counts_put {l : IL} {cn : Addr} : putF "counts" (.ref cn) (instF l) = instF { l with cl := cn } := put_here
theorem pure_arrows_as_rows (T : Txt D mg) (h : sp_arrows_as_rows D vs H Q E) : t_arrows_as_rows D (En Q) (start n_arrows_as_rows vs) H := by
  obtain ⟨a, c, x, rfl, hc, F, kont⟩ := h
  have W := hc.2
  have n3 := W.n3
  have l9 := W.len9
  refine q_as ⟨_, rfl, ?_⟩
  intro p dx np ndx ne
  have e1 : Ex H (upd (upd H dx (.own p)) p (.ins D.cI dx [])) := (Ex.new ndx).trans (Ex.new (by rw [upd_ne (Ne.symm ne)]; exact np))
  refine ⟨p, dx, a, c, rfl, upd_same, hc.mono e1, fun H3 l lb hI nd hnew fr => ⟨rfl, ?_⟩⟩
  subst lb
  have e3 : Ex H H3 := fun b o hb => fr.keep b o (e1 b o hb) (ne_of_none hb np)
  have new3 : ∀ y, y ∈ fp l → H y = none := fun y hy => fresh_back e1 (hnew y hy)
  show tSeq _ _ _ [some (.ref a), some (kN x), some (.ref l.b), none, none, none, none, none] H3
  refine q_as (c_arrows_by_end (hc.mono e3) (ev_var rfl) (ev_var rfl) fun u H4 refs N => ?_)
  show tSeq _ _ _ [some (.ref a), some (kN x), some (.ref l.b), some (.ref u), none, none, none, none] H4
  have e4 := e3.trans N.ex
  have hI4 := hI.mono N.ex
  have refl : (refs.map V.ref).length = c.n := by rw [List.length_map, N.pts.1, listsV, List.length_map, List.length_map, List.length_range]
  -- instance.counts = [len(arrows) for arrows in by_end]
  refine q_fld (t_lc (wi := iList D.K (tVar 3)) ⟨_, rfl, u, rfl, ⟨_, sq_of N.at_⟩, ?_⟩)
  refine lcL_given (fun _ => true) (fun y => kN (Fc02.hom c x y).length) (sq_of N.at_) (by rw [refl]; omega) (fun _ => rfl) (fun _ _ _ _ _ => et_yes) (fun y v H5 e5 hv _ => ?_) ?_
  · obtain ⟨w, hw, rfl⟩ := map_get_inv hv
    have il : y < c.n := by
      have := (List.getElem?_eq_some_iff.mp hw).1
      rw [N.pts.1, listsV, List.length_map, List.length_map, List.length_range] at this
      exact this
    obtain ⟨w', hw', hwl⟩ := by_end_get (N.pts.mono e5) il
    rw [hw] at hw'; cases hw'
    have z := ev_len (K := D.K) (ev_var (H := H5) (σ := (wipe [some (V.ref a), some (kN x), some (.ref l.b), some (.ref u), none, none, none, none] [4]).set 4 (some (.ref w))) (i := 4) rfl) (sq_of hwl)
    rw [List.length_map] at z
    exact z
  intro cn H5 hcn e5 h5
  have h5 : H5 cn = some (.lst ((Fc02.arrowsOf c x).size.map kN)) := by
    have e : given (refs.map V.ref).length (fun _ => true) (fun y => kN (Fc02.hom c x y).length) = (Fc02.arrowsOf c x).size.map kN := by
      rw [refl, sizes_eq, List.map_map]
      unfold given
      rw [List.filter_eq_self.mpr fun _ _ => rfl]
      rfl
    rw [← e]
    exact h5
  have hI5 := hI4.mono e5
  refine ⟨_, rfl, l.b, D.cI, l.dx, _, rfl, hI5.ob, T.cl_Instance, T.na_counts, by show 2 < 1000; decide, ?_⟩
  rw [counts_put]
  have lbf : l.b ∉ fp l := fun z => by obtain ⟨xs, w⟩ := hI.lst z; rw [hI.ob] at w; cases w
  have hlb : H l.b = none := np
  have cnb : cn ≠ l.b := fun z => by rw [z, hI4.ob] at hcn; cases hcn
  have cnf : ∀ y, y ∈ fp l → cn ≠ y := fun y hy z => by obtain ⟨xs, w⟩ := hI4.lst hy; rw [z, w] at hcn; cases hcn
  have llm : l.ll ∈ fp l := List.mem_cons_of_mem _ List.mem_cons_self
  have rrm : ∀ r, r ∈ l.rr → r ∈ fp l := fun r hr => List.mem_cons_of_mem _ (List.mem_cons_of_mem _ hr)
  have ub : u ≠ l.b := fun z => by have := N.new u List.mem_cons_self; rw [z, hI.ob] at this; cases this
  have ull : u ≠ l.ll := fun z => by have := N.new u List.mem_cons_self; rw [z, hI.ll] at this; cases this
  have rb : l.b ∉ refs := fun z => by have := N.new _ (List.mem_cons_of_mem _ z); rw [hI.ob] at this; cases this
  have rll : l.ll ∉ refs := fun z => by have := N.new _ (List.mem_cons_of_mem _ z); rw [hI.ll] at this; cases this
  have llb : l.ll ≠ l.b := fun z => lbf (z ▸ llm)
  have e06 : Ex H (upd H5 l.b (.ins D.cI l.dx (instF { l with cl := cn }))) := Ex.mut (e4.trans e5) hlb
  refine q_forNL (K := D.K) (e_others (hc.mono e06) (ev_var rfl)) (fun q i σ' H' => ∃ (v5 v6 : Option V) (rr : List Addr), σ' = [some (.ref a), some (kN x), some (.ref l.b), some (.ref u), none, v5, v6, none] ∧ Ex H H' ∧ q ≠ l.ll ∧ H' q = some (.lst ((others c).map kN)) ∧ H' l.b = some (.ins D.cI l.dx (instF { l with cl := cn })) ∧ H' cn = some (.lst ((Fc02.arrowsOf c x).size.map kN)) ∧ H' l.ll = some (.lst (rr.map V.ref)) ∧ rr.length = c.arrows.length ∧
    (∀ f r, c.n ≤ f → f < c.n + i → rr[f]? = some r → H' r = some (.lst (((Fc02.hom c x (Fc02.from_ c f)).map (arrowTo c x f)).map kN))) ∧ (∀ r, r ∈ rr → ∃ xs, H' r = some (.lst xs)) ∧ (cn :: l.ll :: rr).Nodup ∧ (∀ r, r ∈ rr → H r = none) ∧ H' u = some (.lst (refs.map V.ref)) ∧ Pts H' .lst refs (listsV ((List.range c.n).map (Fc02.hom c x)))) ?_ ?_ ?_ ?_
  · intro q H7 hq e7 h7
    have at6 : ∀ {y : Addr} {o : HO}, H5 y = some o → y ≠ l.b → H7 y = some o := fun h n => e7 _ _ (by rw [upd_ne n]; exact h)
    refine ⟨none, none, l.rr, rfl, e06.trans e7, fun z => ?_, h7, e7 _ _ upd_same, at6 h5 cnb, at6 hI5.ll llb, hI.rl, fun f r h1 h2 => by omega, fun r hr => ?_, ?_, fun r hr => new3 r (rrm r hr), at6 (e5 _ _ N.at_) ub, ?_⟩
    · rw [z, upd_ne llb, hI5.ll] at hq; cases hq
    · obtain ⟨xs, w⟩ := hI5.ra r hr
      exact ⟨xs, at6 w fun z => lbf (z ▸ rrm r hr)⟩
    · refine List.nodup_cons.mpr ⟨fun z => ?_, (List.nodup_cons.mp nd).2⟩
      exact cnf cn (List.mem_cons_of_mem _ z) rfl
    · exact Pts.mono e7 (Pts.upd_ne (N.pts.mono e5) rb)
  · rintro q i σ' H' _ ⟨v5, v6, rr, rfl, _, _, hq, _⟩
    exact sq_of hq
  · rintro q i y σ' H7 hy ⟨v5, v6, rr, rfl, e7, qll, hq, hob, hcn7, hll, rrl, hrw, hra, hnd, hnew7, hu, hP⟩
    obtain ⟨f, hf, rfl⟩ := map_get_inv hy
    have fi := others_get W hf
    obtain ⟨hn, hl⟩ := mem_others.mp (mem_take_of hf)
    obtain ⟨rt, hrt, hrtl⟩ := by_end_get hP (to_lt W hl)
    obtain ⟨rs, hrs, hrsl⟩ := by_end_get hP (from_lt W hl)
    have hc7 := hc.mono e7
    refine q_asg (ev_ixL (ev_var rfl) (e_target hc7 (ev_var rfl) (ev_var rfl) hl) hu (map_get hrt)) fun H8 e8 => ?_
    have hc8 := hc7.mono e8
    refine t_lc (wi := iList D.K (tOp (rIxL D.K) (tVar 3) (tMeth D.cC "source" (sp_source D) [] C8.E0 (tVar 0) (tCons (tVar 5) tNil)))) ?_
    refine ev_ixL (ev_var (i := 3) rfl) (e_source hc8 (ev_var rfl) (ev_var rfl) hl) (e8 _ _ hu) (map_get hrs) H8 (Ex.refl _) _ fun H9 e9 => ⟨rs, rfl, ⟨_, sq_of ((e8.trans e9) _ _ hrsl)⟩, ?_⟩
    have e79 := e8.trans e9
    have ml : ((Fc02.hom c x (Fc02.from_ c f)).map kN).length = (Fc02.hom c x (Fc02.from_ c f)).length := List.length_map _
    have hlen := hom_len c x (Fc02.from_ c f)
    refine lcL_given (fun _ => true) (fun j => kN (arrowTo c x f ((Fc02.hom c x (Fc02.from_ c f)).getD j 0))) (sq_of (e79 _ _ hrsl)) (by rw [ml]; omega) (fun _ => rfl) (fun _ _ _ _ _ => et_yes) (fun j v H10 e10 hv _ => ?_) ?_
    · obtain ⟨h, hh, rfl⟩ := map_get_inv hv
      have eh : (Fc02.hom c x (Fc02.from_ c f)).getD j 0 = h := by rw [List.getD_eq_getElem?_getD, hh]; rfl
      rw [eh]
      obtain ⟨k, mk, km, ek⟩ := arrowTo_eq F hl (List.mem_of_getElem? hh)
      rw [ek]
      have em := e_made (f := h) (g := f) (hc7.mono (e79.trans e10)) (ta := tVar 0) (tb := tVar 7) (tc := tVar 5) (σ := (wipe [some (V.ref a), some (kN x), some (.ref l.b), some (.ref u), none, some (kN f), some (.ref rt), none] [7]).set 7 (some (kN h))) (ev_var rfl) (ev_var rfl) (ev_var rfl)
      rw [mk] at em
      exact ev_index (ev_var rfl) em ((e79.trans e10) _ _ hrtl) km
    rw [ml, given_all (Fc02.hom c x (Fc02.from_ c f)) _ _ (fun h => kN (arrowTo c x f h)) (fun _ _ _ => rfl) fun j h hh => by rw [List.getD_eq_getElem?_getD, hh]; rfl]
    intro w H10 hw e10 h10
    have e70 := e79.trans e10
    have w7 : H7 w = none := fresh_back e79 hw
    have wH : H w = none := fresh_back e7 w7
    have wcn : w ≠ cn := fun z => by rw [z, hcn7] at w7; cases w7
    have wll : w ≠ l.ll := fun z => by rw [z, hll] at w7; cases w7
    have wrr : w ∉ rr := fun z => by obtain ⟨xs, y⟩ := hra w z; rw [y] at w7; cases w7
    have n1 := List.nodup_cons.mp hnd
    have n2 := List.nodup_cons.mp n1.2
    have hrr : ∀ r, r ∈ rr → r ≠ l.ll := fun r hr z => n2.1 (by rw [← z]; exact hr)
    have cll : cn ≠ l.ll := fun z => n1.1 (by rw [z]; exact List.mem_cons_self)
    have llH : H l.ll = none := new3 _ llm
    have hln : f < (rr.map V.ref).length := by rw [List.length_map, rrl]; exact hl
    have ob10 : H10 l.b = _ := e70 _ _ hob
    refine ⟨_, rfl, l.b, D.cI, l.dx, _, _, rfl, ob10, T.cl_Instance, T.na_leads, instF_leads, _, rfl, l.ll, rr.map V.ref, _, f, rfl, rfl, e70 _ _ hll, ixN_nat hln, ?_⟩
    have setm : (rr.map V.ref).set f (.ref w) = (rr.set f w).map V.ref := by rw [List.map_set]
    refine ⟨some (kN f), some (.ref rt), rr.set f w, rfl, Ex.mut (e7.trans e70) llH, qll, ?_, ?_, ?_, ?_, ?_, fun g r hg hgi hr => ?_, fun r hr => ?_, ?_, fun r hr => ?_, ?_, ?_⟩
    · rw [upd_ne qll]; exact e70 _ _ hq
    · rw [upd_ne (Ne.symm llb)]; exact ob10
    · rw [upd_ne cll]; exact e70 _ _ hcn7
    · rw [upd_same, setm]
    · rw [List.length_set]; exact rrl
    · by_cases gf : g = f
      · subst gf
        rw [List.getElem?_set, if_pos rfl, if_pos (by rw [rrl]; exact hl)] at hr
        cases hr
        rw [upd_ne wll, h10, List.map_map]
        rfl
      · rw [List.getElem?_set, if_neg (Ne.symm gf)] at hr
        rw [upd_ne (hrr r (List.mem_of_getElem? hr))]
        exact e70 _ _ (hrw g r hg (by omega) hr)
    · rcases List.mem_or_eq_of_mem_set hr with z | z
      · obtain ⟨xs, y⟩ := hra r z
        exact ⟨xs, by rw [upd_ne (hrr r z)]; exact e70 _ _ y⟩
      · rw [z]
        exact ⟨_, by rw [upd_ne wll]; exact h10⟩
    · refine List.nodup_cons.mpr ⟨fun z => ?_, List.nodup_cons.mpr ⟨fun z => ?_, nodup_set n2.2 wrr⟩⟩
      · rcases List.mem_cons.mp z with z | z
        · exact cll z
        · rcases List.mem_or_eq_of_mem_set z with z | z
          · exact n1.1 (List.mem_cons_of_mem _ z)
          · exact wcn z.symm
      · rcases List.mem_or_eq_of_mem_set z with z | z
        · exact n2.1 z
        · exact wll z.symm
    · rcases List.mem_or_eq_of_mem_set hr with z | z
      · exact hnew7 r z
      · rw [z]; exact wH
    · rw [upd_ne ull]; exact e70 _ _ hu
    · exact Pts.upd_ne (hP.mono e70) rll
  · rintro q σ' H7 ⟨v5, v6, rr, rfl, e7, qll, hq, hob, hcn7, hll, rrl, hrw, hra, hnd, hnew7, hu, hP⟩
    rw [List.length_map, others_len_eq W] at hrw
    refine s_ret (ev_var rfl) fun H8 e8 => ?_
    have fin : InstX D H7 ⟨l.b, cn, l.ll, l.dx, rr⟩ c (Fc02.arrowsOf c x) := ⟨hob, hcn7, hll, rrl, fun f r hn hr => by
      have fl : f < c.arrows.length := by
        have := (List.getElem?_eq_some_iff.mp hr).1
        rw [rrl] at this; exact this
      rw [arrowsOf_row fl]
      exact hrw f r hn (by omega) hr, hra⟩
    refine kont H8 ⟨l.b, cn, l.ll, l.dx, rr⟩ (fin.mono e8) hnd (fun y hy => ?_) hlb (e7.trans e8)
    rcases List.mem_cons.mp hy with z | z
    · rw [z]; exact fresh_back e4 hcn
    · rcases List.mem_cons.mp z with z | z
      · rw [z]; exact new3 _ llm
      · exact hnew7 y z
end
end AR
set_option Elab.async false
set_option linter.all false
set_option maxRecDepth 100000
set_option maxHeartbeats 4000000
/-! The promises: the line. -/
namespace AR
open PySem PySem.Spec PyProof.Rows L2 Evl
structure SL where
  a : Addr
  ca : Addr
  e : Addr
  d : Addr
  cdx : Addr
  il : Addr
  ldx : Addr
  refs : List Addr
  kvs : List (List Key × V)
  ls : List IL
def lineF (ca il : Addr) : List (Str × V) := [("category", .ref ca), ("instances", .ref il)]
theorem lineF_category {ca il : Addr} : (lineF ca il).lookup ("category" : Str) = some (.ref ca) := lk_here
theorem lineF_instances {ca il : Addr} : (lineF ca il).lookup ("instances" : Str) = some (.ref il) := (lk_past (by decide +kernel)).trans lk_here
theorem lineF_no {ca il : Addr} {m : Str} (h1 : (m == ("category" : Str)) = false) (h2 : (m == ("instances" : Str)) = false) : (lineF ca il).lookup m = none :=
  (lk_past h1).trans ((lk_past h2).trans rfl)
/-- instances apart from one another -/
def Sep (ls : List IL) : Prop := ∀ (i j : Nat) (l k : IL), i ≠ j → ls[i]? = some l → ls[j]? = some k → ∀ y, y ∈ fp l → y ∉ fp k
structure StX (D : Ad) (H : Hp) (L : SL) (s : Fc02.St) : Prop where
  ob : H L.a = some (.ins D.cL L.ldx (lineF L.ca L.il))
  cat : CatX D H L.ca L.e L.d L.cdx L.refs L.kvs s.cat
  wc : WC s.cat
  li : H L.il = some (.lst (L.ls.map fun l => V.ref l.b))
  n3 : L.ls.length = 3
  i3 : s.insts.length = 3
  inst : ∀ (i : Nat) (l : IL) (t : Fc02.Inst), L.ls[i]? = some l → s.insts[i]? = some t → InstX D H l s.cat t ∧ WI s.cat t ∧ (fp l).Nodup
  sep : Sep L.ls
  off : ∀ l, l ∈ L.ls → L.e ∉ fp l ∧ L.il ∉ fp l
theorem StX.mono {D : Ad} {H H' : Hp} {L : SL} {s : Fc02.St} (x : Ex H H') (h : StX D H L s) : StX D H' L s :=
  ⟨x _ _ h.ob, h.cat.mono x, h.wc, x _ _ h.li, h.n3, h.i3, fun i l t h1 h2 => let ⟨q1, q2⟩ := h.inst i l t h1 h2; ⟨q1.mono x, q2⟩, h.sep, h.off⟩
def foot (L : SL) (y : Addr) : Prop := y = L.a ∨ y = L.e ∨ y = L.d ∨ y = L.il ∨ ∃ l, l ∈ L.ls ∧ y ∈ fp l
theorem StX.catAt {D : Ad} {H : Hp} {L : SL} {s : Fc02.St} (h : StX D H L s) : CatAt D H L.ca s.cat := ⟨⟨_, _, _, _, _, h.cat⟩, h.wc⟩
theorem StX.get {D : Ad} {H : Hp} {L : SL} {s : Fc02.St} (h : StX D H L s) {i : Nat} (hi : i < 3) : ∃ l t, L.ls[i]? = some l ∧ s.insts[i]? = some t ∧ InstX D H l s.cat t ∧ WI s.cat t ∧ (fp l).Nodup := by
  have h1 : L.ls[i]? = some (L.ls[i]'(by rw [h.n3]; exact hi)) := List.getElem?_eq_getElem _
  have h2 : s.insts[i]? = some (s.insts[i]'(by rw [h.i3]; exact hi)) := List.getElem?_eq_getElem _
  exact ⟨_, _, h1, h2, h.inst i _ _ h1 h2⟩
theorem StX.has {D : Ad} {H : Hp} {L : SL} {s : Fc02.St} (h : StX D H L s) {y : Addr} (hy : foot L y) : ∃ o, H y = some o := by
  rcases hy with q | q | q | q | ⟨l, hl, q⟩
  · rw [q]; exact ⟨_, h.ob⟩
  · rw [q]; exact ⟨_, h.cat.le⟩
  · rw [q]; exact ⟨_, h.cat.di⟩
  · rw [q]; exact ⟨_, h.li⟩
  · obtain ⟨i, hi, e⟩ := List.getElem_of_mem hl
    have i3 : i < 3 := by rw [← h.n3]; exact hi
    obtain ⟨l', t, h1, h2, q1, _⟩ := h.get i3
    rw [List.getElem?_eq_getElem hi, e] at h1
    cases h1
    obtain ⟨xs, w⟩ := q1.lst q
    exact ⟨_, w⟩
def emptySt (c : Fc02.Cat) : Fc02.St := ⟨c, List.replicate 3 (Fc02.none_ c)⟩
def sp_empty_instances (D : Ad) : Sp := fun vs H Q _ => ∃ (a : Addr) (c : Fc02.Cat), vs = [.ref a] ∧ CatAt D H a c ∧
  ∀ (p : Addr) (H2 : Hp) (ls : List IL), H p = none → Ex H H2 → H2 p = some (.lst (ls.map fun l => V.ref l.b)) → ls.length = 3 → (∀ l, l ∈ ls → InstX D H2 l c (Fc02.none_ c) ∧ (fp l).Nodup ∧ (∀ y, y ∈ fp l → H y = none) ∧ p ∉ fp l) → Sep ls → Q (.ref p) H2
def sp_init_Line (D : Ad) : Sp := fun vs H Q _ => ∃ (p dx : Addr), vs = [.ref p] ∧ H p = some (.ins D.cL dx []) ∧
  ∀ (H' : Hp) (L : SL), L.a = p → StX D H' L Fc02.init → L.kvs = [] → (∀ y, foot L y → y = p ∨ H y = none) → Fr (fun b => b = p) H H' → Q .non H'
def sp_begin_anew (D : Ad) : Sp := fun vs H Q _ => ∃ (L : SL) (s : Fc02.St) (n : Nat), vs = [.ref L.a, kN n] ∧ StX D H L s ∧ 1 ≤ n ∧ n ≤ 3 ∧
  ∀ (H' : Hp) (L' : SL), L'.a = L.a → StX D H' L' (emptySt (Fc02.begin_ n)) → L'.kvs = [] → (∀ y, foot L' y → y = L.a ∨ H y = none) → Fr (fun b => b = L.a) H H' → Q .non H'
def moreArrow (c : Fc02.Cat) (x y : Nat) : Fc02.Cat := ⟨c.n, c.arrows ++ [(x, y)], c.makes⟩
def sp_put_arrow (D : Ad) : Sp := fun vs H Q _ => ∃ (L : SL) (s : Fc02.St) (x y : Nat), vs = [.ref L.a, kN x, kN y] ∧ StX D H L s ∧ x < s.cat.n ∧ y < s.cat.n ∧ s.cat.arrows.length < 9 ∧
  ∀ (H' : Hp) (L' : SL), L'.a = L.a → StX D H' L' (emptySt (moreArrow s.cat x y)) → L'.kvs = L.kvs → (∀ y, foot L' y → foot L y ∨ H y = none) → Fr (foot L) H H' → Q .non H'
def rightAt (s : Fc02.St) (i : Nat) : Bool := match s.insts[i]? with
  | some t => (Fc02.faultI s.cat t).isNone
  | none => false
def sp_all_right (D : Ad) : Sp := fun vs H Q _ => ∃ (L : SL) (s : Fc02.St) (q : Addr) (is : List Nat), vs = [.ref L.a, .ref q] ∧ StX D H L s ∧ H q = some (.lst (is.map kN)) ∧ (∀ i, i ∈ is → i < 3) ∧ Fc02.isCat s.cat = true ∧ RetV (.bl (is.all (rightAt s))) H Q
/-- whether what a call needs holds -/
def okNeed (s : Fc02.St) (k : Nat) (is : List Nat) : Bool := decide (k = 0) || (Fc02.isCat s.cat && (decide (k = 1) || is.all (rightAt s)))
def sp_fulfils (D : Ad) : Sp := fun vs H Q _ => ∃ (L : SL) (s : Fc02.St) (q : Addr) (k : Nat) (is : List Nat), vs = [.ref L.a, .str (needS k), .ref q] ∧ StX D H L s ∧ H q = some (.lst (is.map kN)) ∧ (∀ i, i ∈ is → i < 3) ∧ k < 3 ∧ RetV (.bl (okNeed s k is)) H Q
section
variable {D : Ad} {mg : Str → Option Value} {H : Hp} {L : SL} {s : Fc02.St} {σ : L2.St} {ta tb tc : TE}
theorem e_category (T : Txt D mg) (hs : StX D H L s) (ho : Ev ta σ H (.ref L.a)) : Ev (tFld D.K ta "category") σ H (.ref L.ca) := ev_fld ho hs.ob T.cl_Line T.na_category lineF_category
theorem e_instance (T : Txt D mg) (hs : StX D H L s) (ho : Ev ta σ H (.ref L.a)) {i : Nat} {l : IL} (hi : Ev tb σ H (kN i)) (hl : L.ls[i]? = some l) : Ev (tOp (rIxL D.K) (tFld D.K ta "instances") tb) σ H (.ref l.b) :=
  ev_ixL (ev_fld ho hs.ob T.cl_Line T.na_instances lineF_instances) hi hs.li (map_get hl)
theorem e_all_right (hs : StX D H L s) (ho : Ev ta σ H (.ref L.a)) {is : List Nat} {q : Addr} (hq : H q = some (.lst (is.map kN))) (h1 : Ev tb σ H (.ref q)) (hi : ∀ i, i ∈ is → i < 3) (ic : Fc02.isCat s.cat = true) : Ev (tMeth D.cL "all_right" (sp_all_right D) [] C8.E0 ta (tCons tb tNil)) σ H (.bl (is.all (rightAt s))) :=
  ev_meth ho hs.ob (lineF_no (by decide +kernel) (by decide +kernel)) (ea_cons h1 ea_nil) fun H1 e Q k E => ⟨L, s, q, is, rfl, hs.mono e, e _ _ hq, hi, ic, k⟩
theorem e_fulfils (hs : StX D H L s) (ho : Ev ta σ H (.ref L.a)) {is : List Nat} {q : Addr} {k : Nat} (hq : H q = some (.lst (is.map kN))) (h0 : Ev tb σ H (.str (needS k))) (h1 : Ev tc σ H (.ref q)) (hi : ∀ i, i ∈ is → i < 3) (k3 : k < 3) : Ev (tMeth D.cL "fulfils" (sp_fulfils D) [] C8.E0 ta (tCons tb (tCons tc tNil))) σ H (.bl (okNeed s k is)) :=
  ev_meth ho hs.ob (lineF_no (by decide +kernel) (by decide +kernel)) (ea_cons h0 (ea_cons h1 ea_nil)) fun H1 e Q kk E => ⟨L, s, q, k, is, rfl, hs.mono e, e _ _ hq, hi, k3, kk⟩
end
end AR
set_option Elab.async false
set_option linter.all false
set_option maxRecDepth 100000
set_option maxHeartbeats 4000000
/-! The readings of the defs (printed by gen.py). -/
namespace AR
open PySem PySem.Spec PyProof.Rows L2
abbrev n_empty_instances : List Str := ["category", "i"]
def t_empty_instances (D : Ad) : TS :=
  (tRet (tLc (iRng1 (tCons (tC (.int (3))) tNil)) (gName 1) tYes (tMake D.cI (sp_init_Instance D) [] C8.E0 (tCons (tVar 0) tNil)) [1]))
abbrev n_init_Line : List Str := ["self"]
def t_init_Line (D : Ad) : TS :=
  (tSeq (sFld D.K (tVar 0) (tMake D.cC (sp_init_Category D) [] C8.E0 (tCons (tC (.int 1)) tNil)) "category") (sFld D.K (tVar 0) (tCall (sp_empty_instances D) [] C8.E0 (tCons (tFld D.K (tVar 0) "category") tNil)) "instances"))
abbrev n_begin_anew : List Str := ["self", "things"]
def t_begin_anew (D : Ad) : TS :=
  (tSeq (sFld D.K (tVar 0) (tMake D.cC (sp_init_Category D) [] C8.E0 (tCons (tVar 1) tNil)) "category") (sFld D.K (tVar 0) (tCall (sp_empty_instances D) [] C8.E0 (tCons (tFld D.K (tVar 0) "category") tNil)) "instances"))
abbrev n_put_arrow : List Str := ["self", "x", "y"]
def t_put_arrow (D : Ad) : TS :=
  (tSeq (tDrop (tBM D.K "list" rAppend (tFld D.K (tFld D.K (tVar 0) "category") "ends") (tCons (tTup (tCons (tVar 1) (tCons (tVar 2) tNil))) tNil))) (sFld D.K (tVar 0) (tCall (sp_empty_instances D) [] C8.E0 (tCons (tFld D.K (tVar 0) "category") tNil)) "instances"))
abbrev n_fulfils : List Str := ["self", "need", "chosen"]
def t_fulfils (D : Ad) : TS :=
  (tSeq (tIfS (tTest (tOp rEq (tVar 1) (tC (.str "")))) (tRet (tC (.bl true))) tNext) (tSeq (tIfS (tNot (tB (tCall (sp_is_category D) [] C8.E0 (tCons (tFld D.K (tVar 0) "category") tNil)))) (tRet (tC (.bl false))) tNext) (tRet (tOrV (tOp rEq (tVar 1) (tC (.str "category"))) (tMeth D.cL "all_right" (sp_all_right D) [] C8.E0 (tVar 0) (tCons (tVar 2) tNil))))))
abbrev n_all_right : List Str := ["self", "chosen", "i"]
def t_all_right (D : Ad) : TS :=
  (tSeq (tFor (iList D.K (tVar 1)) (gName 2) (tIfS (tNot (tB (tCall (sp_is_right D) [] C8.E0 (tCons (tFld D.K (tVar 0) "category") (tCons (tOp (rIxL D.K) (tFld D.K (tVar 0) "instances") (tVar 2)) tNil))))) (tRet (tC (.bl false))) tNext)) (tRet (tC (.bl true))))
end AR
set_option Elab.async false
set_option linter.all false
set_option maxRecDepth 100000
set_option maxHeartbeats 4000000
/-! Promise gives reading: the line. -/
namespace AR
open PySem PySem.Spec PyProof.Rows L2 Evl
theorem InstX.frame {D : Ad} {F : Addr → Prop} {H H' : Hp} {l : IL} {c : Fc02.Cat} {t : Fc02.Inst} (fr : Fr F H H') (h : InstX D H l c t) (nb : ¬ F l.b) (nf : ∀ y, y ∈ fp l → ¬ F y) : InstX D H' l c t :=
  ⟨fr.keep _ _ h.ob nb, fr.keep _ _ h.lc (nf _ List.mem_cons_self), fr.keep _ _ h.ll (nf _ (List.mem_cons_of_mem _ List.mem_cons_self)), h.rl,
    fun f r h1 h2 => fr.keep _ _ (h.rw f r h1 h2) (nf _ (List.mem_cons_of_mem _ (List.mem_cons_of_mem _ (List.mem_of_getElem? h2)))), fun r hr => let ⟨xs, q⟩ := h.ra r hr; ⟨xs, fr.keep _ _ q (nf _ (List.mem_cons_of_mem _ (List.mem_cons_of_mem _ hr)))⟩⟩
theorem wi_none {c : Fc02.Cat} (W : WC c) : WI c (Fc02.none_ c) := by
  have sz : (Fc02.none_ c).size.length = c.n := by
    show (List.map _ (List.range c.n)).length = c.n
    rw [List.length_map, List.length_range]
  have z : ∀ l : List Nat, (l.map fun _ => 0).sum = 0 := fun l => by
    induction l with
    | nil => rfl
    | cons a l ih => rw [List.map_cons, List.sum_cons, ih]
  have r0 : ∀ x, Fc02.rows (Fc02.none_ c) x = 0 := fun x => by
    have := rows_le (Fc02.none_ c) x
    rw [total_sum] at this
    have e : (Fc02.none_ c).size.sum = 0 := z _
    omega
  refine ⟨sz, ?_, ?_, fun f h1 h2 => ?_, fun f h1 h2 v hv => ?_⟩
  · rw [total_sum]
    have e : (Fc02.none_ c).size.sum = 0 := z _
    omega
  · show (List.map _ (List.range c.arrows.length)).length = _
    rw [List.length_map, List.length_range]
  · rw [none_tab, r0]; rfl
  · rw [none_tab] at hv
    cases hv
theorem wc_begin {n : Nat} (h1 : 1 ≤ n) (h3 : n ≤ 3) : WC (Fc02.begin_ n) := by
  have l : (Fc02.begin_ n).arrows.length = n := by
    show (List.map _ (List.range n)).length = n
    rw [List.length_map, List.length_range]
  refine ⟨h1, h3, Nat.le_of_eq l.symm, by rw [l]; omega, fun x hx => ?_, fun p hp => ?_, fun x hx => by cases hx⟩
  · show (List.map _ (List.range n))[x]? = _
    have hx : x < n := hx
    rw [List.getElem?_map, List.getElem?_range hx]
    rfl
  · obtain ⟨x, hx, rfl⟩ := List.mem_map.mp hp
    have := List.mem_range.mp hx
    exact ⟨this, this⟩
theorem wc_more {c : Fc02.Cat} (W : WC c) {x y : Nat} (hx : x < c.n) (hy : y < c.n) (hl : c.arrows.length < 9) : WC (moreArrow c x y) := by
  have l : (moreArrow c x y).arrows.length = c.arrows.length + 1 := by
    show (c.arrows ++ [(x, y)]).length = _
    rw [List.length_append]; rfl
  refine ⟨W.n1, W.n3, by rw [l]; show c.n ≤ _; have := W.len; omega, by rw [l]; omega, fun z hz => ?_, fun p hp => ?_, fun z hz => ?_⟩
  · show (c.arrows ++ [(x, y)])[z]? = _
    have : z < c.arrows.length := Nat.lt_of_lt_of_le hz W.len
    rw [List.getElem?_append_left this]
    exact W.own z hz
  · rcases List.mem_append.mp hp with q | q
    · exact W.ends p q
    · rw [List.mem_singleton.mp q]; exact ⟨hx, hy⟩
  · rw [l]
    have := W.mks z hz
    omega
section
variable {D : Ad} {mg : Str → Option Value} {vs : List V} {H : Hp} {Q : VK} {E : XK}
theorem len_empty_instances (h : sp_empty_instances D vs H Q E) : vs.length = 1 := by obtain ⟨_, _, rfl, _⟩ := h; rfl
theorem len_init_Line (h : sp_init_Line D vs H Q E) : vs.length = 1 := by obtain ⟨_, _, rfl, _⟩ := h; rfl
theorem len_begin_anew (h : sp_begin_anew D vs H Q E) : vs.length = 2 := by obtain ⟨_, _, _, rfl, _⟩ := h; rfl
theorem len_put_arrow (h : sp_put_arrow D vs H Q E) : vs.length = 3 := by obtain ⟨_, _, _, _, rfl, _⟩ := h; rfl
theorem len_fulfils (h : sp_fulfils D vs H Q E) : vs.length = 3 := by obtain ⟨_, _, _, _, _, rfl, _⟩ := h; rfl
theorem len_all_right (h : sp_all_right D vs H Q E) : vs.length = 2 := by obtain ⟨_, _, _, _, rfl, _⟩ := h; rfl
theorem Sep.nil : Sep [] := fun i j l k _ h => by simp at h
theorem Sep.snoc {ls : List IL} {l : IL} (h : Sep ls) (hl : ∀ k, k ∈ ls → ∀ y, y ∈ fp l → y ∉ fp k) : Sep (ls ++ [l]) := by
  intro i j u v hij hi hj y hy hz
  by_cases a : i < ls.length
  · rw [List.getElem?_append_left a] at hi
    by_cases b : j < ls.length
    · rw [List.getElem?_append_left b] at hj
      exact h i j u v hij hi hj y hy hz
    · rw [List.getElem?_append_right (by omega)] at hj
      have e : j - ls.length = 0 := by have := (List.getElem?_eq_some_iff.mp hj).1; simp at this; omega
      rw [e] at hj
      cases hj
      exact hl u (List.mem_of_getElem? hi) y hz hy
  · rw [List.getElem?_append_right (by omega)] at hi
    have e : i - ls.length = 0 := by have := (List.getElem?_eq_some_iff.mp hi).1; simp at this; omega
    rw [e] at hi
    cases hi
    have b : j < ls.length := by
      by_cases b : j < ls.length
      · exact b
      · rw [List.getElem?_append_right (by omega)] at hj
        have := (List.getElem?_eq_some_iff.mp hj).1
        simp at this
        omega
    rw [List.getElem?_append_left b] at hj
    exact hl v (List.mem_of_getElem? hj) y hy hz
theorem pure_empty_instances (T : Txt D mg) (h : sp_empty_instances D vs H Q E) : t_empty_instances D (En Q) (start n_empty_instances vs) H := by
  obtain ⟨a, c, rfl, hc, k⟩ := h
  refine ⟨3, rfl, by decide, by decide, fun p hp => lc_range (lo := 0) (n := 3) (fun i H' => ∃ ls : List IL, ls.length = i ∧ Ex H H' ∧ H' p = some (.lst (ls.map fun l => V.ref l.b)) ∧ (∀ l, l ∈ ls → InstX D H' l c (Fc02.none_ c) ∧ (fp l).Nodup ∧ (∀ y, y ∈ fp l → H y = none) ∧ p ∉ fp l) ∧ Sep ls) ?_ ?_ ?_⟩
  · exact ⟨[], rfl, Ex.new hp, upd_same, (fun l hl => absurd hl (by simp)), Sep.nil⟩
  · rintro i H1 hi ⟨ls, rfl, e1, h1, hls, sep⟩
    refine ⟨rfl, _, rfl, ?_⟩
    intro x dx nx ndx ne
    have e2 : Ex H1 (upd (upd H1 dx (.own x)) x (.ins D.cI dx [])) := (Ex.new ndx).trans (Ex.new (by rw [upd_ne (Ne.symm ne)]; exact nx))
    refine ⟨x, dx, a, c, rfl, upd_same, hc.mono (e1.trans e2), fun H3 l lb hI nd hnew fr => ⟨rfl, ?_⟩⟩
    subst lb
    have e3 : Ex H1 H3 := fun b o hb => fr.keep b o (e2 b o hb) (ne_of_none hb nx)
    have hp3 := e3 _ _ h1
    have new1 : ∀ y, y ∈ fp l → H1 y = none := fun y hy => fresh_back e2 (hnew y hy)
    have pl : p ∉ fp l := fun z => by have := new1 p z; rw [h1] at this; cases this
    refine ⟨_, hp3, by rw [List.length_map]; exact sz_lt (by omega), ls ++ [l], by rw [List.length_append]; rfl, Ex.mut (e1.trans e3) hp, by rw [List.map_append]; exact upd_same, fun z hz => ?_, sep.snoc fun k' hk y hy hz => ?_⟩
    · have off : ∀ {w : IL}, InstX D H3 w c (Fc02.none_ c) → p ∉ fp w → InstX D (upd H3 p (.lst (ls.map (fun l => V.ref l.b) ++ [.ref l.b]))) w c (Fc02.none_ c) := fun q hn =>
        q.frame (Fr.upd (F := fun b => b = p) (Fr.of_ex (Ex.refl _)) (Or.inl rfl)) (fun z => by have := q.ob; rw [z, hp3] at this; cases this) fun y hy z => hn (z ▸ hy)
      rcases List.mem_append.mp hz with q | q
      · obtain ⟨q1, q2, q3, q4⟩ := hls z q
        exact ⟨off (q1.mono e3) q4, q2, q3, q4⟩
      · rw [List.mem_singleton.mp q]
        exact ⟨off hI pl, nd, fun y hy => fresh_back e1 (new1 y hy), pl⟩
    · obtain ⟨q1, _⟩ := hls k' hk
      obtain ⟨xs, w⟩ := q1.lst hz
      have := new1 y hy
      rw [w] at this; cases this
  · rintro H1 ⟨ls, n3, e1, h1, hls, sep⟩
    exact k p H1 ls hp e1 h1 n3 hls sep
/-- the end of all that makes the line anew: its instances -/
theorem fin_line (T : Txt D mg) {σ : L2.St} {Z : Ends} {p ldx ca e d cdx : Addr} {refs : List Addr} {kvs : List (List Key × V)} {c : Fc02.Cat} {fs : List (Str × V)} (h0 : σ[0]? = some (some (.ref p))) (hp : H p = some (.ins D.cL ldx fs)) (lk : fs.lookup ("category" : Str) = some (.ref ca)) (fl : fs.length < 1000)
    (pf : ∀ il : Addr, putF "instances" (.ref il) fs = lineF ca il) (hC : CatX D H ca e d cdx refs kvs c) (W : WC c) (cap : ca ≠ p)
    (k : ∀ (H' : Hp) (L : SL), L.a = p → L.e = e → L.d = d → L.kvs = kvs → StX D H' L (emptySt c) → H L.il = none → (∀ l, l ∈ L.ls → ∀ y, y ∈ fp l → H y = none) → Fr (fun b => b = p) H H' → Z.nx σ H') :
    sFld D.K (tVar 0) (tCall (sp_empty_instances D) [] C8.E0 (tCons (tFld D.K (tVar 0) "category") tNil)) "instances" Z σ H := by
  refine s_fld (t_call (ea_cons (ev_fld (ev_var h0) hp T.cl_Line T.na_category lk) ea_nil) fun H1 e1 => ⟨ca, c, rfl, ⟨⟨e, d, cdx, refs, kvs, hC.mono e1⟩, W⟩, fun il H2 ls hil e2 h2 n3 hls sep => ⟨_, h0, p, D.cL, ldx, fs, rfl, (e1.trans e2) _ _ hp, T.cl_Line, T.na_instances, fl, ?_⟩⟩)
  rw [pf]
  have e12 := e1.trans e2
  have hp2 := e12 _ _ hp
  have hC2 := hC.mono e12
  have fr : Fr (fun b => b = p) H2 (upd H2 p (.ins D.cL ldx (lineF ca il))) := Fr.upd (F := fun b => b = p) (Fr.of_ex (Ex.refl _)) (Or.inl rfl)
  have ilp : il ≠ p := fun z => by rw [z, hp2] at h2; cases h2
  refine k _ ⟨p, ca, e, d, cdx, il, ldx, refs, kvs, ls⟩ rfl rfl rfl rfl ⟨upd_same, ?_, W, ?_, n3, rfl, fun i l t hi ht => ?_, sep, fun l hl => ?_⟩ (fresh_back e1 hil) (fun l hl y hy => fresh_back e1 ((hls l hl).2.2.1 y hy)) ((Fr.of_ex e12).trans fr)
  · refine hC2.frame fr cap (fun z : e = p => ?_) (fun r hr z => ?_) fun z : d = p => ?_
    · have := hC2.le; rw [z, hp2] at this; cases this
    · obtain ⟨xs, w⟩ := hC2.tup hr
      rw [z, hp2] at w; cases w
    · have := hC2.di; rw [z, hp2] at this; cases this
  · rw [upd_ne ilp]; exact h2
  · have lm := List.mem_of_getElem? hi
    obtain ⟨q1, q2, q3, q4⟩ := hls l lm
    have ti : t = Fc02.none_ c := by
      have ht : (List.replicate 3 (Fc02.none_ c))[i]? = some t := ht
      exact (List.mem_replicate.mp (List.mem_of_getElem? ht)).2
    subst ti
    refine ⟨q1.frame fr (fun z => ?_) fun y hy z => ?_, wi_none W, q2⟩
    · have := h2
      have hb : H2 l.b = some (.ins D.cI l.dx (instF l)) := q1.ob
      rw [z, hp2] at hb
      injection hb with hb
      injection hb with _ _ hb
      rw [hb] at lk
      rw [instF_no (by decide +kernel) (by decide +kernel)] at lk
      cases lk
    · obtain ⟨xs, w⟩ := q1.lst hy
      rw [z, hp2] at w; cases w
  · obtain ⟨q1, q2, q3, q4⟩ := hls l hl
    refine ⟨fun z => ?_, q4⟩
    have := q3 e z
    rw [e1 _ _ hC.le] at this; cases this
theorem make_line (T : Txt D mg) {σ : L2.St} {Z : Ends} {p ldx : Addr} {fs : List (Str × V)} {tn : TE} {n : Nat} (h0 : σ[0]? = some (some (.ref p))) (hn : Ev tn σ H (kN n)) (n1 : 1 ≤ n) (n3 : n ≤ 3) (hp : H p = some (.ins D.cL ldx fs)) (fl : fs.length < 1000)
    (lk : ∀ ca : Addr, (putF "category" (.ref ca) fs).lookup ("category" : Str) = some (.ref ca)) (fl2 : ∀ ca : Addr, (putF "category" (.ref ca) fs).length < 1000) (pf : ∀ ca il : Addr, putF "instances" (.ref il) (putF "category" (.ref ca) fs) = lineF ca il)
    (k : ∀ (H' : Hp) (L : SL), L.a = p → StX D H' L (emptySt (Fc02.begin_ n)) → L.kvs = [] → (∀ y, foot L y → y = p ∨ H y = none) → Fr (fun b => b = p) H H' → Z.nx σ H') :
    tSeq (sFld D.K (tVar 0) (tMake D.cC (sp_init_Category D) [] C8.E0 (tCons tn tNil)) "category") (sFld D.K (tVar 0) (tCall (sp_empty_instances D) [] C8.E0 (tCons (tFld D.K (tVar 0) "category") tNil)) "instances") Z σ H := by
  refine q_fld ?_
  refine hn H (Ex.refl _) _ fun H1 e1 => ?_
  intro x dx nx ndx ne
  have e2 : Ex H1 (upd (upd H1 dx (.own x)) x (.ins D.cC dx [])) := (Ex.new ndx).trans (Ex.new (by rw [upd_ne (Ne.symm ne)]; exact nx))
  refine ⟨x, dx, n, rfl, upd_same, n3, fun H3 e d refs hC fr back he hd => ⟨rfl, ?_⟩⟩
  have hp1 := e1 _ _ hp
  have px : p ≠ x := ne_of_none hp1 nx
  have hp3 : H3 p = _ := fr p _ (e2 _ _ hp1) px
  have e13 : Ex H1 H3 := fun b o hb => fr b o (e2 b o hb) (ne_of_none hb nx)
  refine ⟨_, h0, p, D.cL, ldx, fs, rfl, hp3, T.cl_Line, T.na_category, fl, ?_⟩
  have fr4 : Fr (fun b => b = p) H3 (upd H3 p (.ins D.cL ldx (putF "category" (.ref x) fs))) := Fr.upd (F := fun b => b = p) (Fr.of_ex (Ex.refl _)) (Or.inl rfl)
  have hC4 := hC.frame fr4 (Ne.symm px) (fun z => by have := hC.le; rw [z, hp3] at this; cases this) (fun r hr z => by obtain ⟨xs, w⟩ := hC.tup hr; rw [z, hp3] at w; cases w) (fun z => by have := hC.di; rw [z, hp3] at this; cases this)
  have fr04 : Fr (fun b => b = p) H (upd H3 p (.ins D.cL ldx (putF "category" (.ref x) fs))) := (Fr.of_ex (e1.trans e13)).trans fr4
  refine fin_line T h0 upd_same (lk x) (fl2 x) (pf x) hC4 (wc_begin n1 n3) (Ne.symm px) fun H5 L la le ld lkv S hil hnew fr5 => k H5 L la S lkv (fun y hy => ?_) (fr04.trans fr5)
  rcases hy with z | z | z | z | ⟨l, hl, z⟩
  · exact Or.inl (z.trans la)
  · rw [z, le]; exact Or.inr (fresh_back (e1.trans e2) he)
  · rw [z, ld]; exact Or.inr (fresh_back (e1.trans e2) hd)
  · rw [z]; exact Or.inr (fr04.back _ hil)
  · exact Or.inr (fr04.back y (hnew l hl y z))
theorem pure_init_Line (T : Txt D mg) (h : sp_init_Line D vs H Q E) : t_init_Line D (En Q) (start n_init_Line vs) H := by
  obtain ⟨p, dx, rfl, hp, k⟩ := h
  exact make_line (n := 1) T rfl ev_c (by decide) (by decide) hp (by show 0 < 1000; decide) (fun ca => lk_here) (fun ca => by show 1 < 1000; decide) (fun ca il => (put_past (by decide +kernel)).trans rfl) k
theorem lineF_putC {ca il x : Addr} : putF "category" (.ref x) (lineF ca il) = lineF x il := put_here
theorem lineF_putI {ca il x : Addr} : putF "instances" (.ref x) (lineF ca il) = lineF ca x := (put_past (by decide +kernel)).trans (congrArg _ put_here)
theorem pure_begin_anew (T : Txt D mg) (h : sp_begin_anew D vs H Q E) : t_begin_anew D (En Q) (start n_begin_anew vs) H := by
  obtain ⟨L, s, n, rfl, hs, n1, n3, k⟩ := h
  exact make_line (n := n) T rfl (ev_var rfl) n1 n3 hs.ob (by show 2 < 1000; decide) (fun ca => by rw [lineF_putC]; exact lineF_category) (fun ca => by rw [lineF_putC]; show 2 < 1000; decide) (fun ca il => by rw [lineF_putC, lineF_putI]) k
theorem told_more (c : Fc02.Cat) (x y f g : Nat) : told (moreArrow c x y) f g = told c f g := rfl
theorem pure_put_arrow (T : Txt D mg) (h : sp_put_arrow D vs H Q E) : t_put_arrow D (En Q) (start n_put_arrow vs) H := by
  obtain ⟨L, s, x, y, rfl, hs, hx, hy, hl, k⟩ := h
  have W := hs.wc
  refine q_appU (ys := [kN x, kN y]) hs.cat.le (ev_fld (e_category T hs (ev_var rfl)) hs.cat.ob T.cl_Category T.na_ends catF_ends) (eu_tup (ea_cons (ev_var rfl) (ea_cons (ev_var rfl) ea_nil)) (by show 2 ≤ 100000; decide)) (by rw [List.length_map, hs.cat.rl]; omega) fun r H1 hr e1 h1 => ?_
  have fm : foot L L.e := Or.inr (Or.inl rfl)
  have fr : Fr (fun b => b = L.e) H (upd H1 L.e (.lst (L.refs.map V.ref ++ [.ref r]))) := Fr.upd (F := fun b => b = L.e) (Fr.of_ex e1) (Or.inl rfl)
  have hle := hs.cat.le
  have re : r ≠ L.e := fun z => by rw [z, hle] at hr; cases hr
  have ae : L.a ≠ L.e := fun z => by have := hs.ob; rw [z, hle] at this; cases this
  have cae : L.ca ≠ L.e := fun z => by have := hs.cat.ob; rw [z, hle] at this; cases this
  have de : L.d ≠ L.e := fun z => by have := hs.cat.di; rw [z, hle] at this; cases this
  have caa : L.ca ≠ L.a := fun z => by
    have w := hs.cat.ob
    rw [z, hs.ob] at w
    injection w with w
    injection w with _ _ w
    have q : (lineF L.ca L.il).lookup ("things" : Str) = none := lineF_no (by decide +kernel) (by decide +kernel)
    rw [w, catF_things] at q
    cases q
  have hC : CatX D (upd H1 L.e (.lst (L.refs.map V.ref ++ [.ref r]))) L.ca L.e L.d L.cdx (L.refs ++ [r]) L.kvs (moreArrow s.cat x y) := by
    refine ⟨fr.keep _ _ hs.cat.ob cae, by rw [List.map_append]; exact upd_same, ?_, fun i u p hu hp => ?_, fr.keep _ _ hs.cat.di de, fun f g => by rw [told_more]; exact hs.cat.dv f g⟩
    · show (L.refs ++ [r]).length = (s.cat.arrows ++ [(x, y)]).length
      rw [List.length_append, List.length_append, hs.cat.rl]; rfl
    · have hp : (s.cat.arrows ++ [(x, y)])[i]? = some p := hp
      by_cases z : i < L.refs.length
      · rw [List.getElem?_append_left z] at hu
        rw [List.getElem?_append_left (by rw [← hs.cat.rl]; exact z)] at hp
        have q := hs.cat.rt i u p hu hp
        exact fr.keep _ _ q fun w => by rw [w, hle] at q; cases q
      · rw [List.getElem?_append_right (by omega)] at hu
        rw [List.getElem?_append_right (by rw [← hs.cat.rl]; omega), ← hs.cat.rl] at hp
        have e0 : i - L.refs.length = 0 := by have := (List.getElem?_eq_some_iff.mp hu).1; simp at this; omega
        rw [e0] at hu hp
        cases hu; cases hp
        rw [upd_ne re]
        exact h1
  refine fin_line T (fs := lineF L.ca L.il) (p := L.a) (ldx := L.ldx) rfl (fr.keep _ _ hs.ob ae) lineF_category (by show 2 < 1000; decide) (fun il => lineF_putI) hC (wc_more W hx hy hl) caa fun H2 L' la le ld lkv S hil hnew fr2 => ?_
  have fr02 : Fr (foot L) H H2 := (fr.mono fun b hb => by rw [hb]; exact fm).trans (fr2.mono fun b hb => Or.inl hb)
  refine k H2 L' la S lkv (fun z hz => ?_) fr02
  rcases hz with q | q | q | q | ⟨l, hl, q⟩
  · exact Or.inl (Or.inl (q.trans la))
  · exact Or.inl (Or.inr (Or.inl (q.trans le)))
  · exact Or.inl (Or.inr (Or.inr (Or.inl (q.trans ld))))
  · rw [q]; exact Or.inr (fr.back _ hil)
  · exact Or.inr (fr.back z (hnew l hl z q))
theorem fit_of_cat {c : Fc02.Cat} (h : Fc02.isCat c = true) : Fit c := (isCat_iff.mp h).1
theorem pure_all_right (T : Txt D mg) (h : sp_all_right D vs H Q E) : t_all_right D (En Q) (start n_all_right vs) H := by
  obtain ⟨L, s, q, is, rfl, hs, hq, hi3, z, k⟩ := h
  have e1 := Ex.refl H
  · have F := fit_of_cat z
    refine q_forLn (K := D.K) (ev_var rfl) (sq_of (e1 _ _ hq)) (fun i σ' H' => ∃ v2, σ' = [some (.ref L.a), some (.ref q), v2] ∧ Ex H H' ∧ ∀ m x, m < i → is[m]? = some x → rightAt s x = true) ?_ ?_ ?_ ?_
    · intro H2 e2
      exact ⟨none, rfl, e1.trans e2, fun m x hm => by omega⟩
    · rintro i σ' H' _ ⟨v2, rfl, e2, _⟩
      exact sq_of (e2 _ _ hq)
    · rintro i x σ' H2 hx ⟨v2, rfl, e2, hm⟩
      obtain ⟨n, hn, rfl⟩ := map_get_inv hx
      have n3 := hi3 n (mem_take_of hn)
      have hs2 := hs.mono e2
      obtain ⟨l, t, hl, ht, hI, wi, _⟩ := hs2.get n3
      have ra : rightAt s n = (Fc02.faultI s.cat t).isNone := by unfold rightAt; rw [ht]
      refine s_when (et_not (et_B (e_is_right (b := l.b) hs2.catAt ⟨⟨l, rfl, hI⟩, wi⟩ (e_category T hs2 (ev_var rfl)) (e_instance T hs2 (ev_var rfl) (ev_var rfl) hl) F))) (fun hb H3 e3 => ?_) (fun hb H3 e3 => ?_)
      · have fa : is.all (rightAt s) = false := by
          cases y : is.all (rightAt s) with
          | false => rfl
          | true =>
            have := List.all_eq_true.mp y n (mem_take_of hn)
            rw [ra] at this
            rw [this] at hb
            cases hb
        rw [fa] at k
        exact s_ret ev_c fun H4 e4 => k H4 ((e2.trans e3).trans e4)
      · refine ⟨some (kN n), rfl, e2.trans e3, fun m x hml hmx => ?_⟩
        by_cases e : m = i
        · subst e
          rw [hn] at hmx
          cases hmx
          rw [ra]
          simpa using hb
        · exact hm m x (by omega) hmx
    · rintro σ' H2 ⟨v2, rfl, e2, hm⟩
      rw [List.length_map] at hm
      have tr : is.all (rightAt s) = true := List.all_eq_true.mpr fun x hx => by
        obtain ⟨m, hml, e⟩ := List.getElem_of_mem hx
        exact hm m x hml (by rw [List.getElem?_eq_getElem hml, e])
      rw [tr] at k
      exact s_ret ev_c fun H3 e3 => k H3 (e2.trans e3)
theorem need_eq {k j : Nat} (hk : k < 3) (hj : j < 3) : decide (V.str (needS k) = V.str (needS j)) = decide (k = j) := by
  have ck : k = 0 ∨ k = 1 ∨ k = 2 := by omega
  have cj : j = 0 ∨ j = 1 ∨ j = 2 := by omega
  rcases ck with rfl | rfl | rfl <;> rcases cj with rfl | rfl | rfl <;> decide +kernel
theorem pure_fulfils (T : Txt D mg) (h : sp_fulfils D vs H Q E) : t_fulfils D (En Q) (start n_fulfils vs) H := by
  obtain ⟨L, s, q, n, is, rfl, hs, hq, hi3, n3, k⟩ := h
  have nd : ∀ {H' : Hp} {j : Nat}, j < 3 → Ev (tOp rEq (tVar 1) (tC (.str (needS j)))) (start n_fulfils [.ref L.a, .str (needS n), .ref q]) H' (.bl (decide (n = j))) := fun hj => by
    rw [← need_eq n3 hj]
    exact ev_op (ev_var rfl) ev_c (rv_eq rfl)
  refine q_when (et_test (nd (j := 0) (by decide))) (fun hb H1 e1 => ?_) (fun hb H1 e1 => ?_)
  · have e : okNeed s n is = true := by unfold okNeed; rw [hb]; rfl
    rw [e] at k
    exact s_ret ev_c fun H2 e2 => k H2 (e1.trans e2)
  · have hs1 := hs.mono e1
    have e : okNeed s n is = (Fc02.isCat s.cat && (decide (n = 1) || is.all (rightAt s))) := by unfold okNeed; rw [hb]; rfl
    rw [e] at k
    refine q_when (et_not (et_B (e_is_category hs1.catAt (e_category T hs1 (ev_var rfl))))) (fun hb H2 e2 => ?_) (fun hb H2 e2 => ?_)
    · have z : Fc02.isCat s.cat = false := by simpa using hb
      rw [z] at k
      exact s_ret ev_c fun H3 e3 => k H3 ((e1.trans e2).trans e3)
    · have z : Fc02.isCat s.cat = true := by simpa using hb
      rw [z, Bool.true_and] at k
      have e02 := e1.trans e2
      exact s_ret (ev_orV (nd (j := 1) (by decide)) fun _ => e_all_right (hs.mono e02) (ev_var rfl) (e02 _ _ hq) (ev_var rfl) hi3 z) fun H3 e3 => k H3 (e02.trans e3)
end
end AR
set_option Elab.async false
set_option linter.all false
set_option maxRecDepth 100000
set_option maxHeartbeats 4000000
/-! The promises: what the calls answer. -/
namespace AR
open PySem PySem.Spec PyProof.Rows L2 Evl
/-- what follows a call's answer -/
def AnsQ (D : Ad) (H : Hp) (L : SL) (s : Fc02.St) (m : Nat) (out : List Int) (Q : VK) : Prop := ∀ (H' : Hp) (L' : SL) (r : Addr), StX D H' L' s → L'.a = L.a → L'.kvs.length ≤ m → (∀ y, foot L' y → foot L y ∨ H y = none) → Fr (foot L) H H' → H r = none → H' r = some (.lst (out.map V.int)) → Q (.ref r) H'
theorem AnsQ.same {D : Ad} {H H' : Hp} {L : SL} {s : Fc02.St} {m : Nat} {out : List Int} {Q : VK} (k : AnsQ D H L s (m + 1) out Q) (hs : StX D H L s) (hm : L.kvs.length ≤ m) (e : Ex H H') {r : Addr} (hr : H r = none) (h : H' r = some (.lst (out.map V.int))) : Q (.ref r) H' :=
  k H' L r (hs.mono e) rfl (by omega) (fun y hy => Or.inl hy) (Fr.of_ex e) hr h
def spAns (D : Ad) (p : Nat) (cl : List Nat → Option Fc02.Call) : Sp := fun vs H Q _ => ∃ (L : SL) (s : Fc02.St) (m : Nat) (q : Addr) (ns : List Nat) (k : Fc02.Call), vs = [.ref L.a, .ref q] ∧ StX D H L s ∧ L.kvs.length ≤ m ∧ m ≤ 1000 ∧ H q = some (.lst (ns.map kN)) ∧ cl ns = some k ∧ (ns.length ≤ 40 ∧ okNeed s (needOf p) (ns.take (instsOf p)) = true) ∧ AnsQ D H L (Fc02.step s k).1 (m + 1) (Fc02.step s k).2 Q
def cl_start : List Nat → Option Fc02.Call
  | [n] => some (.start n)
  | _ => none
def cl_arrow : List Nat → Option Fc02.Call
  | [x, y] => some (.arrow x y)
  | _ => none
def cl_make : List Nat → Option Fc02.Call
  | [f, g, h] => some (.make f g h)
  | _ => none
def cl_rows : List Nat → Option Fc02.Call
  | [i, x, k] => if i < 3 then some (.rows i x k) else none
  | _ => none
def cl_set : List Nat → Option Fc02.Call
  | [i, f, r, v] => if i < 3 then some (.set i f r v) else none
  | _ => none
def cl_check : List Nat → Option Fc02.Call
  | [i] => if i < 3 then some (.check i) else none
  | _ => none
def cl_maps : List Nat → Option Fc02.Call
  | [i, j] => if i < 3 ∧ j < 3 then some (.maps i j) else none
  | _ => none
def cl_nth : List Nat → Option Fc02.Call
  | [i, j, k] => if i < 3 ∧ j < 3 then some (.nth i j k) else none
  | _ => none
def cl_fixed : List Nat → Option Fc02.Call
  | i :: j :: n :: l => if i < 3 ∧ j < 3 then (Fc02Neutral.threesIn l).map (.fixed i j) else none
  | _ => none
def cl_alike : List Nat → Option Fc02.Call
  | [i, j] => if i < 3 ∧ j < 3 then some (.alike i j) else none
  | _ => none
def cl_part : List Nat → Option Fc02.Call
  | i :: n :: l => if i < 3 then (Fc02Neutral.pairsIn l).map (.part i) else none
  | _ => none
def cl_pieces : List Nat → Option Fc02.Call
  | [i] => if i < 3 then some (.pieces i) else none
  | _ => none
def cl_arrows : List Nat → Option Fc02.Call
  | [i, x] => if i < 3 then some (.arrows i x) else none
  | _ => none
def cl_mapOf : List Nat → Option Fc02.Call
  | [i, x, r] => if i < 3 then some (.mapOf i x r) else none
  | _ => none
def cl_shows : List Nat → Option Fc02.Call
  | [i] => if i < 3 then some (.shows i) else none
  | _ => none
def sp_answer_start (D : Ad) : Sp := spAns D 0 cl_start
def sp_answer_arrow (D : Ad) : Sp := spAns D 1 cl_arrow
def sp_answer_make (D : Ad) : Sp := spAns D 2 cl_make
def sp_answer_rows (D : Ad) : Sp := spAns D 3 cl_rows
def sp_answer_set (D : Ad) : Sp := spAns D 4 cl_set
def sp_answer_check (D : Ad) : Sp := spAns D 5 cl_check
def sp_answer_maps (D : Ad) : Sp := spAns D 6 cl_maps
def sp_answer_nth (D : Ad) : Sp := spAns D 7 cl_nth
def sp_answer_fixed (D : Ad) : Sp := spAns D 8 cl_fixed
def sp_answer_alike (D : Ad) : Sp := spAns D 9 cl_alike
def sp_answer_part (D : Ad) : Sp := spAns D 10 cl_part
def sp_answer_pieces (D : Ad) : Sp := spAns D 11 cl_pieces
def sp_answer_arrows (D : Ad) : Sp := spAns D 12 cl_arrows
def sp_answer_map_of (D : Ad) : Sp := spAns D 13 cl_mapOf
def sp_answer_shows (D : Ad) : Sp := spAns D 14 cl_shows
/-- numbers, so many at a time; whether one that is named is no row -/
def sp_in_groups (D : Ad) : Sp := fun vs H Q _ => ∃ (q : Addr) (ns : List Nat) (z k : Nat), vs = [.ref q, kN z] ∧ H q = some (.lst (ns.map kN)) ∧ 1 ≤ z ∧ z ≤ 3 ∧ ns.length = k * z ∧ k ≤ 100 ∧ RetP .tup ((List.range k).map fun i => (grp z ns i).map kN) H Q
def sp_lacks_a_row (D : Ad) : Sp := fun vs H Q _ => ∃ (b q : Addr) (refs : List Addr) (c : Fc02.Cat) (t : Fc02.Inst) (ls : List (List Nat)), vs = [.ref b, .ref q] ∧ InstAt D H b c t ∧ H q = some (.lst (refs.map V.ref)) ∧ Pts H .tup refs (listsV ls) ∧ (∀ l, l ∈ ls → 2 ≤ l.length) ∧ RetV (.bl (ls.any fun l => !Fc02.isRow c t (l.getD 0 0) (l.getD 1 0))) H Q
def sp_maps_between (D : Ad) : Sp := fun vs H Q _ => ∃ (L : SL) (s : Fc02.St) (i j : Nat) (t u : Fc02.Inst), vs = [.ref L.a, kN i, kN j] ∧ StX D H L s ∧ s.insts[i]? = some t ∧ s.insts[j]? = some u ∧ Right s.cat t ∧ RetN .lst (listsV (Fc02.maps s.cat t u)) H Q
end AR
set_option Elab.async false
set_option linter.all false
set_option maxRecDepth 100000
set_option maxHeartbeats 4000000
/-! The readings of the defs (printed by gen.py). -/
namespace AR
open PySem PySem.Spec PyProof.Rows L2
abbrev n_answer_start : List Str := ["line", "numbers", "n"]
def t_answer_start (D : Ad) : TS :=
  (tSeq (tAsg (tOp (rIxL D.K) (tVar 1) (tC (.int 0))) (gName 2)) (tSeq (tIfS (tOr (tTest (tOp rLtI (tVar 2) (tC (.int 1)))) (tTest (tOp rGtI (tVar 2) (tC (.int (3)))))) (tRet (tLst (tCons (tC (.int (-1))) tNil))) tNext) (tSeq (tDrop (tMeth D.cL "begin_anew" (sp_begin_anew D) [] C8.E0 (tVar 0) (tCons (tVar 2) tNil))) (tRet (tLst (tCons (tVar 2) tNil))))))
abbrev n_answer_arrow : List Str := ["line", "numbers", "x", "y", "category", "number"]
def t_answer_arrow (D : Ad) : TS :=
  (tSeq (tAsg (tOp (rIxL D.K) (tVar 1) (tC (.int 0))) (gName 2)) (tSeq (tAsg (tOp (rIxL D.K) (tVar 1) (tC (.int 1))) (gName 3)) (tSeq (tAsg (tFld D.K (tVar 0) "category") (gName 4)) (tSeq (tIfS (tOr (tNot (tB (tMeth D.cC "has_thing" (sp_has_thing D) [] C8.E0 (tVar 4) (tCons (tVar 2) tNil)))) (tNot (tB (tMeth D.cC "has_thing" (sp_has_thing D) [] C8.E0 (tVar 4) (tCons (tVar 3) tNil))))) (tRet (tLst (tCons (tC (.int (-1))) tNil))) tNext) (tSeq (tAsg (tCB (Evl.rLenS D.K) (tCons (tFld D.K (tVar 4) "ends") tNil)) (gName 5)) (tSeq (tIfS (tTest (tOp rGeI (tVar 5) (tC (.int (9))))) (tRet (tLst (tCons (tC (.int (-5))) tNil))) tNext) (tSeq (tDrop (tMeth D.cL "put_arrow" (sp_put_arrow D) [] C8.E0 (tVar 0) (tCons (tVar 2) (tCons (tVar 3) tNil)))) (tRet (tLst (tCons (tVar 5) tNil))))))))))
abbrev n_answer_make : List Str := ["line", "numbers", "f", "g", "h", "category"]
def t_answer_make (D : Ad) : TS :=
  (tSeq (tAsg (tOp (rIxL D.K) (tVar 1) (tC (.int 0))) (gName 2)) (tSeq (tAsg (tOp (rIxL D.K) (tVar 1) (tC (.int 1))) (gName 3)) (tSeq (tAsg (tOp (rIxL D.K) (tVar 1) (tC (.int 2))) (gName 4)) (tSeq (tAsg (tFld D.K (tVar 0) "category") (gName 5)) (tSeq (tIfS (tOr (tNot (tB (tMeth D.cC "has_arrow" (sp_has_arrow D) [] C8.E0 (tVar 5) (tCons (tVar 2) tNil)))) (tOr (tNot (tB (tMeth D.cC "has_arrow" (sp_has_arrow D) [] C8.E0 (tVar 5) (tCons (tVar 3) tNil)))) (tNot (tB (tMeth D.cC "has_arrow" (sp_has_arrow D) [] C8.E0 (tVar 5) (tCons (tVar 4) tNil)))))) (tRet (tLst (tCons (tC (.int (-3))) tNil))) tNext) (tSeq (tIfS (tOr (tB (tMeth D.cC "is_own" (sp_is_own D) [] C8.E0 (tVar 5) (tCons (tVar 2) tNil))) (tOr (tB (tMeth D.cC "is_own" (sp_is_own D) [] C8.E0 (tVar 5) (tCons (tVar 3) tNil))) (tNot (tB (tMeth D.cC "meet" (sp_meet D) [] C8.E0 (tVar 5) (tCons (tVar 2) (tCons (tVar 3) tNil))))))) (tRet (tLst (tCons (tC (.int (-1))) tNil))) tNext) (tSeq (sDPut (tFld D.K (tVar 5) "told") (tTup (tCons (tVar 2) (tCons (tVar 3) tNil))) (tVar 4)) (tRet (tLst (tCons (tVar 4) tNil))))))))))
abbrev n_answer_rows : List Str := ["line", "numbers", "instance", "x", "k"]
def t_answer_rows (D : Ad) : TS :=
  (tSeq (tAsg (tOp (rIxL D.K) (tFld D.K (tVar 0) "instances") (tOp (rIxL D.K) (tVar 1) (tC (.int 0)))) (gName 2)) (tSeq (tAsg (tOp (rIxL D.K) (tVar 1) (tC (.int 1))) (gName 3)) (tSeq (tAsg (tOp (rIxL D.K) (tVar 1) (tC (.int 2))) (gName 4)) (tSeq (tIfS (tNot (tB (tMeth D.cC "has_thing" (sp_has_thing D) [] C8.E0 (tFld D.K (tVar 0) "category") (tCons (tVar 3) tNil)))) (tRet (tLst (tCons (tC (.int (-1))) tNil))) tNext) (tSeq (tIfS (tTest (tOp rGtI (tOp rAddI (tOp rSubI (tMeth D.cI "row_count" (sp_row_count D) [] C8.E0 (tVar 2) tNil) (tOp (rIxL D.K) (tFld D.K (tVar 2) "counts") (tVar 3))) (tVar 4)) (tC (.int (6))))) (tRet (tLst (tCons (tC (.int (-5))) tNil))) tNext) (tSeq (tDrop (tCall (sp_put_rows D) [] C8.E0 (tCons (tFld D.K (tVar 0) "category") (tCons (tVar 2) (tCons (tVar 3) (tCons (tVar 4) tNil)))))) (tRet (tLst (tCons (tMeth D.cI "row_count" (sp_row_count D) [] C8.E0 (tVar 2) tNil) tNil)))))))))
abbrev n_answer_set : List Str := ["line", "numbers", "instance", "f", "r", "v", "category", "before"]
def t_answer_set (D : Ad) : TS :=
  (tSeq (tAsg (tOp (rIxL D.K) (tFld D.K (tVar 0) "instances") (tOp (rIxL D.K) (tVar 1) (tC (.int 0)))) (gName 2)) (tSeq (tAsg (tOp (rIxL D.K) (tVar 1) (tC (.int 1))) (gName 3)) (tSeq (tAsg (tOp (rIxL D.K) (tVar 1) (tC (.int 2))) (gName 4)) (tSeq (tAsg (tOp (rIxL D.K) (tVar 1) (tC (.int 3))) (gName 5)) (tSeq (tAsg (tFld D.K (tVar 0) "category") (gName 6)) (tSeq (tIfS (tNot (tB (tMeth D.cC "has_arrow" (sp_has_arrow D) [] C8.E0 (tVar 6) (tCons (tVar 3) tNil)))) (tRet (tLst (tCons (tC (.int (-3))) tNil))) tNext) (tSeq (tIfS (tOr (tB (tMeth D.cC "is_own" (sp_is_own D) [] C8.E0 (tVar 6) (tCons (tVar 3) tNil))) (tOr (tNot (tB (tMeth D.cI "has_row" (sp_has_row D) [] C8.E0 (tVar 2) (tCons (tMeth D.cC "source" (sp_source D) [] C8.E0 (tVar 6) (tCons (tVar 3) tNil)) (tCons (tVar 4) tNil))))) (tTest (tOp rGtI (tVar 5) (tC (.int (99))))))) (tRet (tLst (tCons (tC (.int (-1))) tNil))) tNext) (tSeq (tAsg (tOp (rIxL D.K) (tOp (rIxL D.K) (tFld D.K (tVar 2) "leads") (tVar 3)) (tVar 4)) (gName 7)) (tSeq (tAsg (tVar 5) (gSub (tOp (rIxL D.K) (tFld D.K (tVar 2) "leads") (tVar 3)) (tVar 4) rSetL)) (tRet (tLst (tCons (tVar 7) tNil))))))))))))
abbrev n_answer_check : List Str := ["line", "numbers", "fault"]
def t_answer_check (D : Ad) : TS :=
  (tSeq (tAsg (tCall (sp_first_fault D) [] C8.E0 (tCons (tFld D.K (tVar 0) "category") (tCons (tOp (rIxL D.K) (tFld D.K (tVar 0) "instances") (tOp (rIxL D.K) (tVar 1) (tC (.int 0)))) tNil))) (gName 2)) (tSeq (tIfS (tTest (tOp (rEqD D.K) (tVar 2) (tLst tNil))) (tRet (tLst (tCons (tC (.int 0)) tNil))) tNext) (tRet (tVar 2))))
abbrev n_maps_between : List Str := ["line", "i", "j"]
def t_maps_between (D : Ad) : TS :=
  (tRet (tCall (sp_all_maps D) [] C8.E0 (tCons (tFld D.K (tVar 0) "category") (tCons (tOp (rIxL D.K) (tFld D.K (tVar 0) "instances") (tVar 1)) (tCons (tOp (rIxL D.K) (tFld D.K (tVar 0) "instances") (tVar 2)) tNil)))))
abbrev n_answer_maps : List Str := ["line", "numbers", "found"]
def t_answer_maps (D : Ad) : TS :=
  (tSeq (tAsg (tCall (sp_maps_between D) [] C8.E0 (tCons (tVar 0) (tCons (tOp (rIxL D.K) (tVar 1) (tC (.int 0))) (tCons (tOp (rIxL D.K) (tVar 1) (tC (.int 1))) tNil)))) (gName 2)) (tSeq (tIfS (tTest (tOp (rEqD D.K) (tVar 2) (tLst tNil))) (tRet (tLst (tCons (tC (.int 0)) tNil))) tNext) (tRet (tOp rCat (tLst (tCons (tCB (Evl.rLenS D.K) (tCons (tVar 2) tNil)) tNil)) (tOp (rIxL D.K) (tVar 2) (tC (.int 0)))))))
abbrev n_answer_nth : List Str := ["line", "numbers", "found", "k"]
def t_answer_nth (D : Ad) : TS :=
  (tSeq (tAsg (tCall (sp_maps_between D) [] C8.E0 (tCons (tVar 0) (tCons (tOp (rIxL D.K) (tVar 1) (tC (.int 0))) (tCons (tOp (rIxL D.K) (tVar 1) (tC (.int 1))) tNil)))) (gName 2)) (tSeq (tAsg (tOp (rIxL D.K) (tVar 1) (tC (.int 2))) (gName 3)) (tSeq (tIfS (tTest (tOp rGeI (tVar 3) (tCB (Evl.rLenS D.K) (tCons (tVar 2) tNil)))) (tRet (tLst (tCons (tC (.int (-3))) tNil))) tNext) (tRet (tOp (rIxL D.K) (tVar 2) (tVar 3))))))
abbrev n_in_groups : List Str := ["numbers", "size", "begin"]
def t_in_groups (D : Ad) : TS :=
  (tRet (tLc (iRng3 (tCons (tC (.int 0)) (tCons (tCB (Evl.rLenS D.K) (tCons (tVar 0) tNil)) (tCons (tVar 1) tNil)))) (gName 2) tYes (tThen (tSl (rSlL D.K) (tVar 0) (tPart (tVar 2)) (tPart (tOp rAddI (tVar 2) (tVar 1)))) (kTup D.K)) [2]))
abbrev n_lacks_a_row : List Str := ["instance", "named", "each"]
def t_lacks_a_row (D : Ad) : TS :=
  (tSeq (tFor (iList D.K (tVar 1)) (gName 2) (tIfS (tNot (tB (tMeth D.cI "has_row" (sp_has_row D) [] C8.E0 (tVar 0) (tCons (tOp (rIxT D.K) (tVar 2) (tC (.int 0))) (tCons (tOp (rIxT D.K) (tVar 2) (tC (.int 1))) tNil))))) (tRet (tC (.bl true))) tNext)) (tRet (tC (.bl false))))
abbrev n_answer_fixed : List Str := ["line", "numbers", "first", "named", "wanted", "x", "r", "v", "found", "taken"]
def t_answer_fixed (D : Ad) : TS :=
  (tSeq (tAsg (tOp (rIxL D.K) (tFld D.K (tVar 0) "instances") (tOp (rIxL D.K) (tVar 1) (tC (.int 0)))) (gName 2)) (tSeq (tAsg (tCall (sp_in_groups D) [] C8.E0 (tCons (tSl (rSlL D.K) (tVar 1) (tPart (tC (.int 3))) tNoPart) (tCons (tC (.int 3)) tNil))) (gName 3)) (tSeq (tIfS (tB (tCall (sp_lacks_a_row D) [] C8.E0 (tCons (tVar 2) (tCons (tVar 3) tNil)))) (tRet (tLst (tCons (tC (.int (-1))) tNil))) tNext) (tSeq (tAsg (tLc (iList D.K (tVar 3)) (gTup D.K 3 (gCons (gName 5) (gCons (gName 6) (gCons (gName 7) gNil)))) tYes (tTup (tCons (tCall (sp_place_of_row D) [] C8.E0 (tCons (tVar 2) (tCons (tVar 5) (tCons (tVar 6) tNil)))) (tCons (tVar 7) tNil))) [5, 6, 7]) (gName 4)) (tSeq (tAsg (tCall (sp_maps_between D) [] C8.E0 (tCons (tVar 0) (tCons (tOp (rIxL D.K) (tVar 1) (tC (.int 0))) (tCons (tOp (rIxL D.K) (tVar 1) (tC (.int 1))) tNil)))) (gName 8)) (tRet (tLst (tCons (tCB (Evl.rLenS D.K) (tCons (tLc (iList D.K (tVar 8)) (gName 9) (tB (tCall (sp_takes_there D) [] C8.E0 (tCons (tVar 9) (tCons (tVar 4) tNil)))) (tVar 9) [9]) tNil)) tNil))))))))
abbrev n_answer_alike : List Str := ["line", "numbers", "first", "second", "found", "taken"]
def t_answer_alike (D : Ad) : TS :=
  (tSeq (tAsg (tOp (rIxL D.K) (tFld D.K (tVar 0) "instances") (tOp (rIxL D.K) (tVar 1) (tC (.int 0)))) (gName 2)) (tSeq (tAsg (tOp (rIxL D.K) (tFld D.K (tVar 0) "instances") (tOp (rIxL D.K) (tVar 1) (tC (.int 1)))) (gName 3)) (tSeq (tAsg (tCall (sp_maps_between D) [] C8.E0 (tCons (tVar 0) (tCons (tOp (rIxL D.K) (tVar 1) (tC (.int 0))) (tCons (tOp (rIxL D.K) (tVar 1) (tC (.int 1))) tNil)))) (gName 4)) (tRet (tLst (tCons (tCB (Evl.rLenS D.K) (tCons (tLc (iList D.K (tVar 4)) (gName 5) (tB (tCall (sp_takes_to_each_once D) [] C8.E0 (tCons (tVar 2) (tCons (tVar 3) (tCons (tVar 5) tNil))))) (tVar 5) [5]) tNil)) tNil))))))
abbrev n_answer_part : List Str := ["line", "numbers", "instance", "named", "places", "x", "r", "brought", "answer"]
def t_answer_part (D : Ad) : TS :=
  (tSeq (tAsg (tOp (rIxL D.K) (tFld D.K (tVar 0) "instances") (tOp (rIxL D.K) (tVar 1) (tC (.int 0)))) (gName 2)) (tSeq (tAsg (tCall (sp_in_groups D) [] C8.E0 (tCons (tSl (rSlL D.K) (tVar 1) (tPart (tC (.int 2))) tNoPart) (tCons (tC (.int 2)) tNil))) (gName 3)) (tSeq (tIfS (tB (tCall (sp_lacks_a_row D) [] C8.E0 (tCons (tVar 2) (tCons (tVar 3) tNil)))) (tRet (tLst (tCons (tC (.int (-1))) tNil))) tNext) (tSeq (tAsg (tLc (iList D.K (tVar 3)) (gTup D.K 2 (gCons (gName 5) (gCons (gName 6) gNil))) tYes (tCall (sp_place_of_row D) [] C8.E0 (tCons (tVar 2) (tCons (tVar 5) (tCons (tVar 6) tNil)))) [5, 6]) (gName 4)) (tSeq (tAsg (tCall (sp_brought_along D) [] C8.E0 (tCons (tFld D.K (tVar 0) "category") (tCons (tVar 2) (tCons (tVar 4) tNil)))) (gName 7)) (tSeq (tAsg (tLst (tCons (tCB (Evl.rLenS D.K) (tCons (tVar 7) tNil)) tNil)) (gName 8)) (tSeq (tFor (iList D.K (tVar 7)) (gTup D.K 2 (gCons (gName 5) (gCons (gName 6) gNil))) (tDrop (tBM D.K "list" rExtend (tVar 8) (tCons (tLst (tCons (tVar 5) (tCons (tVar 6) tNil))) tNil)))) (tRet (tVar 8)))))))))
abbrev n_answer_pieces : List Str := ["line", "numbers", "firsts"]
def t_answer_pieces (D : Ad) : TS :=
  (tSeq (tAsg (tCall (sp_first_places D) [] C8.E0 (tCons (tFld D.K (tVar 0) "category") (tCons (tOp (rIxL D.K) (tFld D.K (tVar 0) "instances") (tOp (rIxL D.K) (tVar 1) (tC (.int 0)))) tNil))) (gName 2)) (tRet (tOp rCat (tLst (tCons (tLenSetD D.K (tVar 2)) tNil)) (tCall (sp_piece_numbers D) [] C8.E0 (tCons (tVar 2) tNil)))))
abbrev n_answer_arrows : List Str := ["line", "numbers", "x", "instance"]
def t_answer_arrows (D : Ad) : TS :=
  (tSeq (tAsg (tOp (rIxL D.K) (tVar 1) (tC (.int 1))) (gName 2)) (tSeq (tIfS (tNot (tB (tMeth D.cC "has_thing" (sp_has_thing D) [] C8.E0 (tFld D.K (tVar 0) "category") (tCons (tVar 2) tNil)))) (tRet (tLst (tCons (tC (.int (-1))) tNil))) tNext) (tSeq (tAsg (tCall (sp_arrows_as_rows D) [] C8.E0 (tCons (tFld D.K (tVar 0) "category") (tCons (tVar 2) tNil))) (gName 3)) (tSeq (tIfS (tTest (tOp rGtI (tMeth D.cI "row_count" (sp_row_count D) [] C8.E0 (tVar 3) tNil) (tC (.int (6))))) (tRet (tLst (tCons (tC (.int (-5))) tNil))) tNext) (tSeq (tAsg (tVar 3) (gSub (tFld D.K (tVar 0) "instances") (tOp (rIxL D.K) (tVar 1) (tC (.int 0))) rSetL)) (tRet (tLst (tCons (tMeth D.cI "row_count" (sp_row_count D) [] C8.E0 (tVar 3) tNil) tNil))))))))
abbrev n_answer_map_of : List Str := ["line", "numbers", "instance", "x", "r"]
def t_answer_map_of (D : Ad) : TS :=
  (tSeq (tAsg (tOp (rIxL D.K) (tFld D.K (tVar 0) "instances") (tOp (rIxL D.K) (tVar 1) (tC (.int 0)))) (gName 2)) (tSeq (tAsg (tOp (rIxL D.K) (tVar 1) (tC (.int 1))) (gName 3)) (tSeq (tAsg (tOp (rIxL D.K) (tVar 1) (tC (.int 2))) (gName 4)) (tSeq (tIfS (tNot (tB (tMeth D.cI "has_row" (sp_has_row D) [] C8.E0 (tVar 2) (tCons (tVar 3) (tCons (tVar 4) tNil))))) (tRet (tLst (tCons (tC (.int (-1))) tNil))) tNext) (tRet (tCall (sp_map_to_row D) [] C8.E0 (tCons (tFld D.K (tVar 0) "category") (tCons (tVar 2) (tCons (tVar 3) (tCons (tVar 4) tNil))))))))))
abbrev n_answer_shows : List Str := ["line", "numbers", "instance", "answer", "f"]
def t_answer_shows (D : Ad) : TS :=
  (tSeq (tAsg (tOp (rIxL D.K) (tFld D.K (tVar 0) "instances") (tOp (rIxL D.K) (tVar 1) (tC (.int 0)))) (gName 2)) (tSeq (tAsg (tCB (Evl.rListS D.K) (tCons (tFld D.K (tVar 2) "counts") tNil)) (gName 3)) (tSeq (tFor (iList D.K (tMeth D.cC "others" (sp_others D) [] C8.E0 (tFld D.K (tVar 0) "category") tNil)) (gName 4) (tDrop (tBM D.K "list" rExtend (tVar 3) (tCons (tOp (rIxL D.K) (tFld D.K (tVar 2) "leads") (tVar 4)) tNil)))) (tRet (tVar 3)))))
end AR
set_option Elab.async false
set_option linter.all false
set_option maxRecDepth 100000
set_option maxHeartbeats 4000000
/-! Promise gives reading: what the calls answer (start, arrow, make, rows, set). -/
namespace AR
open PySem PySem.Spec PyProof.Rows L2 Evl
section
variable {σ : L2.St} {H : Hp} {ta tb : TE} {t : TA} {tz : TS} {Z : Ends} {C a dx : Addr} {fs : List (Str × V)} {m : Str} {vs : List V} {sp : Sp} {E : XK}
/-- o.m(..) and f(..) as statements that change things -/
theorem q_meth (ho : Ev ta σ H (.ref a)) (hi : H a = some (.ins C dx fs)) (hl : fs.lookup m = none) (h : EvA t σ H vs) (k : ∀ H1, Ex H H1 → sp (.ref a :: (vs ++ [])) H1 (fun _ H2 => tz Z σ H2) E) : tSeq (tDrop (tMeth C m sp [] E ta t)) tz Z σ H :=
  ho H (Ex.refl _) _ fun H1 e1 => ⟨a, dx, fs, rfl, e1 _ _ hi, hl, h H1 e1 _ fun H2 e2 => k H2 (e1.trans e2)⟩
theorem q_call (h : EvA t σ H vs) (k : ∀ H1, Ex H H1 → sp (vs ++ []) H1 (fun _ H2 => tz Z σ H2) E) : tSeq (tDrop (tCall sp [] E t)) tz Z σ H := h H (Ex.refl _) _ k
theorem ev_sub {i j : Nat} (ha : Ev ta σ H (kN i)) (hb : Ev tb σ H (kN j)) (h : j ≤ i) : Ev (tOp rSubI ta tb) σ H (kN (i - j)) := by
  have e : kN (i - j) = V.int ((i : Int) - (j : Int)) := by show V.int _ = V.int _; congr 1; omega
  rw [e]
  exact ev_op ha hb rv_I0
theorem e_num {K : PySem.W.Frag} {q : Addr} {ns : List Nat} {k n : Nat} {i : Int} (ho : Ev ta σ H (.ref q)) (hq : H q = some (.lst (ns.map kN))) (hn : ns[k]? = some n) (hi : (k : Int) = i) : Ev (tOp (rIxL K) ta (tC (.int i))) σ H (kN n) := by
  subst hi
  exact ev_ixL (i := k) ho ev_c hq (map_get hn)
end
theorem off_cat {D : Ad} {H : Hp} {L : SL} {s : Fc02.St} (hs : StX D H L s) : L.ca ≠ L.a := fun z => by
  have w := hs.cat.ob
  rw [z, hs.ob] at w
  injection w with w
  injection w with _ _ w
  have q : (lineF L.ca L.il).lookup ("things" : Str) = none := lineF_no (by decide +kernel) (by decide +kernel)
  rw [w, catF_things] at q
  cases q
/-- one instance is changed -/
theorem StX.change {D : Ad} {H H' : Hp} {L : SL} {s : Fc02.St} (hs : StX D H L s) {i : Nat} {l l' : IL} {t' : Fc02.Inst} (hl : L.ls[i]? = some l) (fr : Fr (· ∈ fp l) H H') (lb : l'.b = l.b) (hI : InstX D H' l' s.cat t') (w : WI s.cat t') (nd : (fp l').Nodup) (new : ∀ y, y ∈ fp l' → y ∈ fp l ∨ H y = none) :
    StX D H' { L with ls := L.ls.set i l' } (Fc02.withInst s i t') := by
  have i3 : i < 3 := by rw [← hs.n3]; exact (List.getElem?_eq_some_iff.mp hl).1
  obtain ⟨l0, t, hl0, ht, hI0, wi0, nd0⟩ := hs.get i3
  rw [hl] at hl0
  cases hl0
  have lm := List.mem_of_getElem? hl
  obtain ⟨na, nr, ndd⟩ := hs.cat.offLists (F := fp l) fun y hy => hI0.lst hy
  have la : L.a ∉ fp l := fun z => by obtain ⟨xs, q⟩ := hI0.lst z; rw [hs.ob] at q; cases q
  have at_ : ∀ (j : Nat) (k : IL), (L.ls.set i l')[j]? = some k → (j = i ∧ k = l') ∨ (j ≠ i ∧ L.ls[j]? = some k) := fun j k h => by
    rw [List.getElem?_set] at h
    by_cases e : i = j
    · rw [if_pos e, if_pos (by rw [hs.n3]; exact i3)] at h
      exact Or.inl ⟨e.symm, (Option.some.inj h).symm⟩
    · rw [if_neg e] at h
      exact Or.inr ⟨fun z => e z.symm, h⟩
  have mem_ : ∀ k, k ∈ L.ls.set i l' → k = l' ∨ k ∈ L.ls := fun k h => (List.mem_or_eq_of_mem_set h).symm
  have somek : ∀ (j : Nat) (k : IL), L.ls[j]? = some k → ∃ u, InstX D H k s.cat u := fun j k h => by
    have j3 : j < 3 := by rw [← hs.n3]; exact (List.getElem?_eq_some_iff.mp h).1
    obtain ⟨k', u, h1, _, q, _⟩ := hs.get j3
    rw [h] at h1; cases h1
    exact ⟨u, q⟩
  refine ⟨fr.keep _ _ hs.ob la, hs.cat.frame fr na (hs.off l lm).1 nr ndd, hs.wc, ?_, by rw [List.length_set]; exact hs.n3, by show (s.insts.set i t').length = 3; rw [List.length_set]; exact hs.i3, fun j k u hk hu => ?_, fun j1 j2 k1 k2 hj h1 h2 y hy hz => ?_, fun k hk => ?_⟩
  · show H' L.il = some (.lst ((L.ls.set i l').map fun l => V.ref l.b))
    have e : (L.ls.set i l').map (fun l => V.ref l.b) = L.ls.map fun l => V.ref l.b := by
      rw [List.map_set, lb]
      refine List.ext_getElem? fun j => ?_
      rw [List.getElem?_set]
      by_cases z : i = j
      · subst z
        rw [if_pos rfl, if_pos (by rw [List.length_map, hs.n3]; exact i3), List.getElem?_map, hl]
        rfl
      · rw [if_neg z]
    rw [e]
    exact fr.keep _ _ hs.li (hs.off l lm).2
  · have hu : (s.insts.set i t')[j]? = some u := hu
    rcases at_ j k hk with ⟨rfl, rfl⟩ | ⟨ne, hk⟩
    · rw [List.getElem?_set, if_pos rfl, if_pos (by rw [hs.i3]; exact i3)] at hu
      cases hu
      exact ⟨hI, w, nd⟩
    · rw [List.getElem?_set, if_neg (Ne.symm ne)] at hu
      obtain ⟨q1, q2, q3⟩ := hs.inst j k u hk hu
      refine ⟨q1.frame fr (fun z => ?_) fun y hy => hs.sep j i k l ne hk hl y hy, q2, q3⟩
      obtain ⟨xs, v⟩ := hI0.lst z
      rw [q1.ob] at v; cases v
  · rcases at_ j1 k1 h1 with ⟨rfl, rfl⟩ | ⟨n1, h1'⟩
    · rcases at_ j2 k2 h2 with ⟨rfl, rfl⟩ | ⟨n2, h2⟩
      · exact hj rfl
      · rcases new y hy with q | q
        · exact hs.sep j1 j2 l k2 hj hl h2 y q hz
        · obtain ⟨u, v⟩ := somek j2 k2 h2
          obtain ⟨xs, v⟩ := v.lst hz
          rw [q] at v; cases v
    · rcases at_ j2 k2 h2 with ⟨rfl, rfl⟩ | ⟨n2, h2'⟩
      · rcases new y hz with q | q
        · exact hs.sep j1 j2 k1 l hj h1' hl y hy q
        · obtain ⟨u, v⟩ := somek j1 k1 h1'
          obtain ⟨xs, v⟩ := v.lst hy
          rw [q] at v; cases v
      · exact hs.sep j1 j2 k1 k2 hj h1' h2' y hy hz
  · rcases mem_ k hk with rfl | hk
    · refine ⟨fun z => ?_, fun z => ?_⟩
      · rcases new _ z with q | q
        · exact (hs.off l lm).1 q
        · have q : H L.e = none := q
          rw [hs.cat.le] at q; cases q
      · rcases new _ z with q | q
        · exact (hs.off l lm).2 q
        · have q : H L.il = none := q
          rw [hs.li] at q; cases q
    · exact hs.off k hk
/-- what follows a call that changes one instance -/
theorem AnsQ.change {D : Ad} {H H' : Hp} {L : SL} {s : Fc02.St} {m : Nat} {out : List Int} {Q : VK} {i : Nat} {l l' : IL} {t' : Fc02.Inst} (k : AnsQ D H L (Fc02.withInst s i t') (m + 1) out Q) (hs : StX D H L s) (hm : L.kvs.length ≤ m) (hl : L.ls[i]? = some l) (fr : Fr (· ∈ fp l) H H') (lb : l'.b = l.b) (hI : InstX D H' l' s.cat t') (w : WI s.cat t') (nd : (fp l').Nodup) (new : ∀ y, y ∈ fp l' → y ∈ fp l ∨ H y = none) {r : Addr} (hr : H r = none) (h : H' r = some (.lst (out.map V.int))) : Q (.ref r) H' := by
  have lm := List.mem_of_getElem? hl
  refine k H' { L with ls := L.ls.set i l' } r (hs.change hl fr lb hI w nd new) rfl (Nat.le_succ_of_le hm) (fun y hy => ?_) (fr.mono fun b hb => Or.inr (Or.inr (Or.inr (Or.inr ⟨l, lm, hb⟩)))) hr h
  rcases hy with q | q | q | q | ⟨k, hk, q⟩
  · exact Or.inl (Or.inl q)
  · exact Or.inl (Or.inr (Or.inl q))
  · exact Or.inl (Or.inr (Or.inr (Or.inl q)))
  · exact Or.inl (Or.inr (Or.inr (Or.inr (Or.inl q))))
  · rcases List.mem_or_eq_of_mem_set hk with z | z
    · exact Or.inl (Or.inr (Or.inr (Or.inr (Or.inr ⟨k, z, q⟩))))
    · rw [z] at q
      rcases new y q with q | q
      · exact Or.inl (Or.inr (Or.inr (Or.inr (Or.inr ⟨l, lm, q⟩))))
      · exact Or.inr q
theorem sum_set_nat : ∀ {l : List Nat} {x k : Nat}, x < l.length → (l.set x k).sum + l.getD x 0 = l.sum + k
  | [], x, k, h => by simp at h
  | a :: l, 0, k, h => by
    show (k :: l).sum + a = (a :: l).sum + k
    rw [List.sum_cons, List.sum_cons]; omega
  | a :: l, x + 1, k, h => by
    have := sum_set_nat (l := l) (x := x) (k := k) (by simpa using h)
    show (a :: l.set x k).sum + l.getD x 0 = (a :: l).sum + k
    rw [List.sum_cons, List.sum_cons]; omega
theorem total_resized {c : Fc02.Cat} {t : Fc02.Inst} {x k : Nat} (hx : x < t.size.length) : Fc02.total (Fc02.resized c t x k) = Fc02.total t - Fc02.rows t x + k := by
  rw [total_sum, total_sum]
  have := sum_set_nat (l := t.size) (x := x) (k := k) hx
  have r := rows_le t x
  rw [total_sum] at r
  show (t.size.set x k).sum = _
  unfold Fc02.rows at r ⊢
  omega
theorem wi_resized {c : Fc02.Cat} {t : Fc02.Inst} (W : WC c) (w : WI c t) {x k : Nat} (hx : x < c.n) (hk : Fc02.total t - Fc02.rows t x + k ≤ 6) : WI c (Fc02.resized c t x k) := by
  have hx' : x < t.size.length := by rw [w.sz]; exact hx
  have tl : (Fc02.resized c t x k).tab.length = t.tab.length := by
    show (List.map _ t.tab.zipIdx).length = _
    rw [List.length_map, List.length_zipIdx]
  refine ⟨?_, by rw [total_resized hx']; exact hk, by rw [tl]; exact w.tabl, fun f h1 h2 => ?_, fun f h1 h2 v hv => ?_⟩
  · show (t.size.set x k).length = _
    rw [List.length_set]; exact w.sz
  · rw [resized_tab (by rw [w.tabl]; exact h2)]
    by_cases z : Fc02.from_ c f = x ∨ Fc02.to_ c f = x
    · rw [if_pos z, List.length_replicate]; rfl
    · rw [if_neg z, w.rowl f h1 h2]
      unfold Fc02.rows
      show _ = (t.size.set x k).getD _ 0
      rw [List.getD_eq_getElem?_getD, List.getD_eq_getElem?_getD, List.getElem?_set, if_neg fun q => z (Or.inl q.symm)]
  · rw [resized_tab (by rw [w.tabl]; exact h2)] at hv
    by_cases z : Fc02.from_ c f = x ∨ Fc02.to_ c f = x
    · rw [if_pos z] at hv
      rw [(List.mem_replicate.mp hv).2]
      decide
    · rw [if_neg z] at hv
      exact w.le99 f h1 h2 v hv
def setInst (t : Fc02.Inst) (f r v : Nat) : Fc02.Inst := ⟨t.size, t.tab.set f ((t.tab.getD f []).set r v)⟩
theorem set_tab {t : Fc02.Inst} {f r v g : Nat} (h : f < t.tab.length) : (setInst t f r v).tab.getD g [] = if g = f then (t.tab.getD f []).set r v else t.tab.getD g [] := by
  show (t.tab.set f _).getD g [] = _
  rw [List.getD_eq_getElem?_getD, List.getElem?_set]
  by_cases e : f = g
  · subst e
    rw [if_pos rfl, if_pos h, if_pos rfl]
    rfl
  · rw [if_neg e, if_neg fun z => e z.symm, List.getD_eq_getElem?_getD]
theorem wi_set {c : Fc02.Cat} {t : Fc02.Inst} (w : WI c t) {f r v : Nat} (hf : f < c.arrows.length) (hv : v ≤ 99) : WI c (setInst t f r v) := by
  have hl : f < t.tab.length := by rw [w.tabl]; exact hf
  refine ⟨w.sz, w.tot, ?_, fun g h1 h2 => ?_, fun g h1 h2 u hu => ?_⟩
  · show (t.tab.set f _).length = _
    rw [List.length_set]; exact w.tabl
  · rw [set_tab hl]
    by_cases e : g = f
    · subst e
      rw [if_pos rfl, List.length_set]
      exact w.rowl g h1 h2
    · rw [if_neg e]
      exact w.rowl g h1 h2
  · rw [set_tab hl] at hu
    by_cases e : g = f
    · subst e
      rw [if_pos rfl] at hu
      rcases List.mem_or_eq_of_mem_set hu with q | q
      · exact w.le99 g h1 h2 u q
      · rw [q]; exact hv
    · rw [if_neg e] at hu
      exact w.le99 g h1 h2 u hu
section
variable {D : Ad} {mg : Str → Option Value} {vs : List V} {H : Hp} {Q : VK} {E : XK}
theorem len_ans {p : Nat} {cl : List Nat → Option Fc02.Call} (h : spAns D p cl vs H Q E) : vs.length = 2 := by obtain ⟨_, _, _, _, _, _, rfl, _⟩ := h; rfl
theorem len_answer_start (h : sp_answer_start D vs H Q E) : vs.length = 2 := len_ans h
theorem len_answer_arrow (h : sp_answer_arrow D vs H Q E) : vs.length = 2 := len_ans h
theorem len_answer_make (h : sp_answer_make D vs H Q E) : vs.length = 2 := len_ans h
theorem len_answer_rows (h : sp_answer_rows D vs H Q E) : vs.length = 2 := len_ans h
theorem len_answer_set (h : sp_answer_set D vs H Q E) : vs.length = 2 := len_ans h
theorem len_answer_check (h : sp_answer_check D vs H Q E) : vs.length = 2 := len_ans h
theorem len_answer_maps (h : sp_answer_maps D vs H Q E) : vs.length = 2 := len_ans h
theorem len_answer_nth (h : sp_answer_nth D vs H Q E) : vs.length = 2 := len_ans h
theorem len_answer_fixed (h : sp_answer_fixed D vs H Q E) : vs.length = 2 := len_ans h
theorem len_answer_alike (h : sp_answer_alike D vs H Q E) : vs.length = 2 := len_ans h
theorem len_answer_part (h : sp_answer_part D vs H Q E) : vs.length = 2 := len_ans h
theorem len_answer_pieces (h : sp_answer_pieces D vs H Q E) : vs.length = 2 := len_ans h
theorem len_answer_arrows (h : sp_answer_arrows D vs H Q E) : vs.length = 2 := len_ans h
theorem len_answer_map_of (h : sp_answer_map_of D vs H Q E) : vs.length = 2 := len_ans h
theorem len_answer_shows (h : sp_answer_shows D vs H Q E) : vs.length = 2 := len_ans h
theorem len_in_groups (h : sp_in_groups D vs H Q E) : vs.length = 2 := by obtain ⟨_, _, _, _, rfl, _⟩ := h; rfl
theorem len_lacks_a_row (h : sp_lacks_a_row D vs H Q E) : vs.length = 2 := by obtain ⟨_, _, _, _, _, _, rfl, _⟩ := h; rfl
theorem len_maps_between (h : sp_maps_between D vs H Q E) : vs.length = 3 := by obtain ⟨_, _, _, _, _, _, rfl, _⟩ := h; rfl
theorem cl_start_inv {ns : List Nat} {k : Fc02.Call} (h : cl_start ns = some k) : ∃ n, ns = [n] ∧ k = .start n := by
  unfold cl_start at h
  split at h
  · cases h; exact ⟨_, rfl, rfl⟩
  · cases h
theorem cl_arrow_inv {ns : List Nat} {k : Fc02.Call} (h : cl_arrow ns = some k) : ∃ x y, ns = [x, y] ∧ k = .arrow x y := by
  unfold cl_arrow at h
  split at h
  · cases h; exact ⟨_, _, rfl, rfl⟩
  · cases h
theorem cl_make_inv {ns : List Nat} {k : Fc02.Call} (h : cl_make ns = some k) : ∃ f g j, ns = [f, g, j] ∧ k = .make f g j := by
  unfold cl_make at h
  split at h
  · cases h; exact ⟨_, _, _, rfl, rfl⟩
  · cases h
theorem cl_rows_inv {ns : List Nat} {k : Fc02.Call} (h : cl_rows ns = some k) : ∃ i x n, ns = [i, x, n] ∧ i < 3 ∧ k = .rows i x n := by
  unfold cl_rows at h
  split at h
  · split at h
    · cases h; exact ⟨_, _, _, rfl, by assumption, rfl⟩
    · cases h
  · cases h
theorem cl_set_inv {ns : List Nat} {k : Fc02.Call} (h : cl_set ns = some k) : ∃ i f r v, ns = [i, f, r, v] ∧ i < 3 ∧ k = .set i f r v := by
  unfold cl_set at h
  split at h
  · split at h
    · cases h; exact ⟨_, _, _, _, rfl, by assumption, rfl⟩
    · cases h
  · cases h
/-- a refusal, or any other answer that changes nothing: return [n] -/
theorem ret_one {L : SL} {s : Fc02.St} {m : Nat} {out : List Int} {H1 : Hp} {σ : L2.St} {te : TE} {z : Int} (k : AnsQ D H L s (m + 1) out Q) (hs : StX D H L s) (hm : L.kvs.length ≤ m) (e : Ex H H1) (he : Ev te σ H1 (.int z)) (ho : out = [z]) : tRet (tLst (tCons te tNil)) (En Q) σ H1 := by
  subst ho
  exact s_retL (el_lst (ea_cons he ea_nil) (by show 1 ≤ 100000; decide)) fun r H2 hr e2 h2 => k.same hs hm (e.trans e2) (fresh_back e hr) h2
theorem pure_answer_start (T : Txt D mg) (h : sp_answer_start D vs H Q E) : t_answer_start D (En Q) (start n_answer_start vs) H := by
  obtain ⟨L, s, m, q, ns, k, rfl, hs, hm, m1, hq, hcl, _, kont⟩ := h
  obtain ⟨n, rfl, rfl⟩ := cl_start_inv hcl
  refine q_asg (e_num (k := 0) (ev_var rfl) hq rfl rfl) fun H1 e1 => ?_
  refine q_when (et_or (et_test (ev_lt (j := 1) (ev_var rfl) ev_c)) fun _ => et_test (ev_gt (j := 3) (ev_var rfl) ev_c)) (fun hb H2 e2 => ?_) (fun hb H2 e2 => ?_)
  · have c : n = 0 ∨ 3 < n := by
      have : n < 1 ∨ 3 < n := by simpa using hb
      omega
    have st : Fc02.step s (.start n) = (s, [-1]) := if_pos c
    rw [st] at kont
    exact ret_one kont hs hm (e1.trans e2) ev_c rfl
  · have c : ¬ (n = 0 ∨ 3 < n) := by
      have : ¬ (n < 1 ∨ 3 < n) := by simpa using hb
      omega
    have st : Fc02.step s (.start n) = (emptySt (Fc02.begin_ n), [(n : Int)]) := if_neg c
    rw [st] at kont
    have e12 := e1.trans e2
    refine q_meth (ev_var rfl) (e12 _ _ hs.ob) (lineF_no (by decide +kernel) (by decide +kernel)) (ea_cons (ev_var rfl) ea_nil) fun H3 e3 => ?_
    have e13 := e12.trans e3
    refine ⟨L, s, n, rfl, hs.mono e13, by omega, by omega, fun H4 L' la S kv ft fr => ?_⟩
    refine s_retL (el_lst (ea_cons (x := kN n) (ev_var rfl) ea_nil) (by show 1 ≤ 100000; decide)) fun r H5 hr e5 h5 => ?_
    have fr4 : Fr (foot L) H H4 := (Fr.of_ex e13).trans (fr.mono fun b hb => Or.inl hb)
    refine kont H5 L' r (S.mono e5) la (by rw [kv]; exact Nat.zero_le _) (fun y hy => ?_) (fr4.ex e5) (fr4.back r hr) h5
    rcases ft y hy with z | z
    · exact Or.inl (Or.inl z)
    · exact Or.inr (fresh_back e13 z)
theorem pure_answer_arrow (T : Txt D mg) (h : sp_answer_arrow D vs H Q E) : t_answer_arrow D (En Q) (start n_answer_arrow vs) H := by
  obtain ⟨L, s, m, q, ns, k, rfl, hs, hm, m1, hq, hcl, _, kont⟩ := h
  obtain ⟨x, y, rfl, rfl⟩ := cl_arrow_inv hcl
  refine q_asg (e_num (k := 0) (ev_var rfl) hq rfl rfl) fun H1 e1 => ?_
  refine q_asg (e_num (k := 1) (ev_var rfl) (e1 _ _ hq) rfl rfl) fun H2 e2 => ?_
  have e02 := e1.trans e2
  refine q_asg (e_category T (hs.mono e02) (ev_var rfl)) fun H3 e3 => ?_
  have e03 := e02.trans e3
  have hc := (hs.mono e03).catAt
  refine q_when (et_or (et_not (et_B (e_has_thing hc (ev_var rfl) (ev_var rfl)))) fun _ => et_not (et_B (e_has_thing hc (ev_var rfl) (ev_var rfl)))) (fun hb H4 e4 => ?_) (fun hb H4 e4 => ?_)
  · have c : s.cat.n ≤ x ∨ s.cat.n ≤ y := by simpa using hb
    have st : Fc02.step s (.arrow x y) = (s, [-1]) := if_pos c
    rw [st] at kont
    exact ret_one kont hs hm (e03.trans e4) ev_c rfl
  · have c : ¬ (s.cat.n ≤ x ∨ s.cat.n ≤ y) := by
      have : x < s.cat.n ∧ y < s.cat.n := by simpa using hb
      omega
    have e04 := e03.trans e4
    have hs4 := hs.mono e04
    have z := ev_len (K := D.K) (ev_fld (f := "ends") (ev_var (H := H4) (σ := [some (.ref L.a), some (.ref q), some (kN x), some (kN y), some (.ref L.ca), none]) (i := 4) rfl) hs4.cat.ob T.cl_Category T.na_ends catF_ends) (sq_of hs4.cat.le)
    rw [List.length_map, hs4.cat.rl] at z
    refine q_asg z fun H5 e5 => ?_
    have e05 := e04.trans e5
    refine q_when (et_test (ev_ge (j := 9) (ev_var rfl) ev_c)) (fun hb H6 e6 => ?_) (fun hb H6 e6 => ?_)
    · have c9 : 9 ≤ s.cat.arrows.length := of_decide_eq_true hb
      have st : Fc02.step s (.arrow x y) = (s, [-5]) := (if_neg c).trans (if_pos c9)
      rw [st] at kont
      exact ret_one kont hs hm (e05.trans e6) ev_c rfl
    · have c9 : ¬ 9 ≤ s.cat.arrows.length := of_decide_eq_false hb
      have st : Fc02.step s (.arrow x y) = (emptySt (moreArrow s.cat x y), [(s.cat.arrows.length : Int)]) := (if_neg c).trans (if_neg c9)
      rw [st] at kont
      have e06 := e05.trans e6
      refine q_meth (ev_var rfl) (e06 _ _ hs.ob) (lineF_no (by decide +kernel) (by decide +kernel)) (ea_cons (ev_var rfl) (ea_cons (ev_var rfl) ea_nil)) fun H7 e7 => ?_
      have e07 := e06.trans e7
      refine ⟨L, s, x, y, rfl, hs.mono e07, by omega, by omega, by omega, fun H8 L' la S kv ft fr => ?_⟩
      refine s_retL (el_lst (ea_cons (x := kN s.cat.arrows.length) (ev_var rfl) ea_nil) (by show 1 ≤ 100000; decide)) fun r H9 hr e9 h9 => ?_
      have fr8 : Fr (foot L) H H8 := (Fr.of_ex e07).trans fr
      refine kont H9 L' r (S.mono e9) la (by rw [kv]; omega) (fun y hy => ?_) (fr8.ex e9) (fr8.back r hr) h9
      rcases ft y hy with z | z
      · exact Or.inl z
      · exact Or.inr (fresh_back e07 z)
def makeCat (c : Fc02.Cat) (f g h : Nat) : Fc02.Cat := ⟨c.n, c.arrows, ((f, g), h) :: c.makes.filter fun x => x.1 != (f, g)⟩
theorem told_make (c : Fc02.Cat) (f g h u v : Nat) : told (makeCat c f g h) u v = if u = f ∧ v = g then some h else told c u v := by
  unfold told makeCat
  show Option.map _ (List.find? _ (((f, g), h) :: _)) = _
  rw [List.find?_cons]
  by_cases e : u = f ∧ v = g
  · rw [if_pos e, e.1, e.2]
    simp
  · rw [if_neg e]
    have ne : ((f, g) == (u, v)) = false := by
      rw [beq_eq_false_iff_ne]
      intro z
      cases z
      exact e ⟨rfl, rfl⟩
    simp only [ne]
    congr 1
    rw [List.find?_filter]
    congr 1
    funext x
    by_cases z : x.1 = (u, v)
    · have : x.1 ≠ (f, g) := by
        rw [z]; intro w; cases w; exact e ⟨rfl, rfl⟩
      simp [z]
      exact Decidable.not_and_iff_or_not.mp e
    · simp [z]
theorem wc_make {c : Fc02.Cat} (W : WC c) {f g h : Nat} (hh : h < c.arrows.length) : WC (makeCat c f g h) :=
  ⟨W.n1, W.n3, W.len, W.len9, W.own, W.ends, fun x hx => by
    rcases List.mem_cons.mp hx with q | q
    · rw [q]; exact hh
    · exact W.mks x (List.mem_filter.mp q).1⟩
theorem putK_len {κ : Type} [DecidableEq κ] (kvs : List (κ × V)) (k : κ) (v : V) : (putK kvs k v).length ≤ kvs.length + 1 := by
  unfold putK
  split
  · rw [List.length_map]; omega
  · rw [List.length_append]; exact Nat.le_refl _
theorem WI.sameCat {c c' : Fc02.Cat} {t : Fc02.Inst} (w : WI c t) (hn : c'.n = c.n) (ha : c'.arrows = c.arrows) : WI c' t := by
  have hf : ∀ f, Fc02.from_ c' f = Fc02.from_ c f := fun f => by unfold Fc02.from_; rw [ha]
  exact ⟨by rw [hn]; exact w.sz, w.tot, by rw [ha]; exact w.tabl, fun f h1 h2 => by rw [hf]; exact w.rowl f (hn ▸ h1) (ha ▸ h2), fun f h1 h2 => w.le99 f (hn ▸ h1) (ha ▸ h2)⟩
theorem pure_answer_make (T : Txt D mg) (h : sp_answer_make D vs H Q E) : t_answer_make D (En Q) (start n_answer_make vs) H := by
  obtain ⟨L, s, m, q, ns, k, rfl, hs, hm, m1, hq, hcl, _, kont⟩ := h
  obtain ⟨f, g, j, rfl, rfl⟩ := cl_make_inv hcl
  refine q_asg (e_num (k := 0) (ev_var rfl) hq rfl rfl) fun H1 e1 => ?_
  refine q_asg (e_num (k := 1) (ev_var rfl) (e1 _ _ hq) rfl rfl) fun H2 e2 => ?_
  have e02 := e1.trans e2
  refine q_asg (e_num (k := 2) (ev_var rfl) (e02 _ _ hq) rfl rfl) fun H3 e3 => ?_
  have e03 := e02.trans e3
  refine q_asg (e_category T (hs.mono e03) (ev_var rfl)) fun H4 e4 => ?_
  have e04 := e03.trans e4
  have hc := (hs.mono e04).catAt
  refine q_when (et_or (et_not (et_B (e_has_arrow hc (ev_var rfl) (ev_var rfl)))) fun _ => et_or (et_not (et_B (e_has_arrow hc (ev_var rfl) (ev_var rfl)))) fun _ => et_not (et_B (e_has_arrow hc (ev_var rfl) (ev_var rfl)))) (fun hb H5 e5 => ?_) (fun hb H5 e5 => ?_)
  · have c : s.cat.arrows.length ≤ f ∨ s.cat.arrows.length ≤ g ∨ s.cat.arrows.length ≤ j := by simpa using hb
    have st : Fc02.step s (.make f g j) = (s, [-3]) := if_pos c
    rw [st] at kont
    exact ret_one kont hs hm (e04.trans e5) ev_c rfl
  · have c : f < s.cat.arrows.length ∧ g < s.cat.arrows.length ∧ j < s.cat.arrows.length := by simpa using hb
    have c' : ¬ (s.cat.arrows.length ≤ f ∨ s.cat.arrows.length ≤ g ∨ s.cat.arrows.length ≤ j) := by omega
    have e05 := e04.trans e5
    have hc5 := (hs.mono e05).catAt
    refine q_when (et_or (et_B (e_is_own hc5 (ev_var rfl) (ev_var rfl))) fun _ => et_or (et_B (e_is_own hc5 (ev_var rfl) (ev_var rfl))) fun _ => et_not (et_B (e_meet hc5 (ev_var rfl) (ev_var rfl) (ev_var rfl) c.1 c.2.1))) (fun hb H6 e6 => ?_) (fun hb H6 e6 => ?_)
    · have d : f < s.cat.n ∨ g < s.cat.n ∨ Fc02.to_ s.cat f ≠ Fc02.from_ s.cat g := by simpa [meet] using hb
      have st : Fc02.step s (.make f g j) = (s, [-1]) := (if_neg c').trans (if_pos d)
      rw [st] at kont
      exact ret_one kont hs hm (e05.trans e6) ev_c rfl
    · have d : ¬ (f < s.cat.n ∨ g < s.cat.n ∨ Fc02.to_ s.cat f ≠ Fc02.from_ s.cat g) := by
        have : (s.cat.n ≤ f ∧ s.cat.n ≤ g ∧ Fc02.to_ s.cat f = Fc02.from_ s.cat g) := by simpa [meet] using hb
        rintro (z | z | z)
        · omega
        · omega
        · exact z this.2.2
      have st : Fc02.step s (.make f g j) = (⟨makeCat s.cat f g j, s.insts⟩, [(j : Int)]) := (if_neg c').trans (if_neg d)
      rw [st] at kont
      have e06 := e05.trans e6
      have hs6 := hs.mono e06
      -- category.told[(f, g)] = h
      refine ⟨_, rfl, ?_⟩
      refine ev_fld (f := "told") (ev_var (i := 5) rfl) hs6.cat.ob T.cl_Category T.na_told catF_told H6 (Ex.refl _) _ fun H7 e7 => ?_
      refine eu_tup (ea_cons (ev_var (i := 2) rfl) (ea_cons (ev_var (i := 3) rfl) ea_nil)) (by show 2 ≤ 100000; decide) H7 (Ex.refl _) _ fun b H8 hb8 e8 h8 => ?_
      have e08 := (e06.trans e7).trans e8
      have hs8 := hs.mono e08
      refine ⟨L.d, _, rfl, DPut.t (k := [Sum.inl (f : Int), Sum.inl (g : Int)]) hs8.cat.di h8 (sz_lt (by omega)), ?_⟩
      have fr : Fr (fun b => b = L.d) H8 (upd H8 L.d (.dT (putK L.kvs [Sum.inl (f : Int), Sum.inl (g : Int)] (kN j)))) := Fr.upd (F := fun b => b = L.d) (Fr.of_ex (Ex.refl _)) (Or.inl rfl)
      have hdi := hs8.cat.di
      have S : StX D (upd H8 L.d (.dT (putK L.kvs [Sum.inl (f : Int), Sum.inl (g : Int)] (kN j)))) { L with kvs := putK L.kvs [Sum.inl (f : Int), Sum.inl (g : Int)] (kN j) } ⟨makeCat s.cat f g j, s.insts⟩ := by
        refine ⟨fr.keep _ _ hs8.ob fun z => ?_, ⟨fr.keep _ _ hs8.cat.ob fun z => ?_, fr.keep _ _ hs8.cat.le fun z => ?_, hs8.cat.rl, fun i r p h1 h2 => ?_, upd_same, fun u v => ?_⟩, wc_make hs.wc c.2.2, fr.keep _ _ hs8.li fun z => ?_, hs.n3, hs.i3, fun i l t hl ht => ?_, hs.sep, hs.off⟩
        · have := hs8.ob; rw [z, hdi] at this; cases this
        · have := hs8.cat.ob; rw [z, hdi] at this; cases this
        · have := hs8.cat.le; rw [z, hdi] at this; cases this
        · have q := hs8.cat.rt i r p h1 h2
          exact fr.keep _ _ q fun z => by rw [z, hdi] at q; cases q
        · show valV (putK L.kvs _ _) _ = Option.map kN (told (makeCat s.cat f g j) u v)
          rw [valV_put, told_make]
          by_cases z : u = f ∧ v = g
          · rw [if_pos z, if_pos (by rw [z.1, z.2])]; rfl
          · rw [if_neg z, if_neg]
            · exact hs8.cat.dv u v
            · intro w
              injection w with w1 w2
              injection w2 with w2 _
              injection w1 with w1
              injection w2 with w2
              exact z ⟨by omega, by omega⟩
        · have := hs8.li; rw [z, hdi] at this; cases this
        · obtain ⟨q1, q2, q3⟩ := hs8.inst i l t hl ht
          have q1' := q1.frame fr (fun z => by have := q1.ob; rw [z, hdi] at this; cases this) fun y hy z => by obtain ⟨xs, v⟩ := q1.lst hy; rw [z, hdi] at v; cases v
          exact ⟨⟨q1'.ob, q1'.lc, q1'.ll, q1'.rl, q1'.rw, q1'.ra⟩, q2.sameCat rfl rfl, q3⟩
      show tRet (tLst (tCons (tVar 4) tNil)) (En Q) [some (.ref L.a), some (.ref q), some (kN f), some (kN g), some (kN j), some (.ref L.ca)] _
      refine s_retL (el_lst (ea_cons (x := kN j) (ev_var rfl) ea_nil) (by show 1 ≤ 100000; decide)) fun r H9 hr e9 h9 => ?_
      have fr9 := (Fr.of_ex (F := foot L) e08).trans (fr.mono fun b hb => Or.inr (Or.inr (Or.inl hb)))
      refine kont H9 _ r (S.mono e9) rfl (Nat.le_trans (putK_len _ _ _) (Nat.succ_le_succ hm)) (fun y hy => Or.inl hy) (fr9.ex e9) (fr9.back r hr) h9
theorem pure_answer_rows (T : Txt D mg) (h : sp_answer_rows D vs H Q E) : t_answer_rows D (En Q) (start n_answer_rows vs) H := by
  obtain ⟨L, s, m, q, ns, kk, rfl, hs, hm, m1, hq, hcl, _, kont⟩ := h
  obtain ⟨i, x, k, rfl, i3, rfl⟩ := cl_rows_inv hcl
  obtain ⟨l, t, hl, ht, hI, wi, nd⟩ := hs.get i3
  refine q_asg (e_instance T hs (ev_var rfl) (e_num (k := 0) (ev_var rfl) hq rfl rfl) hl) fun H1 e1 => ?_
  refine q_asg (e_num (k := 1) (ev_var rfl) (e1 _ _ hq) rfl rfl) fun H2 e2 => ?_
  have e02 := e1.trans e2
  refine q_asg (e_num (k := 2) (ev_var rfl) (e02 _ _ hq) rfl rfl) fun H3 e3 => ?_
  have e03 := e02.trans e3
  have hs3 := hs.mono e03
  have st0 : Fc02.step s (.rows i x k) = if s.cat.n ≤ x then (s, [-1]) else if Fc02.MOST < Fc02.total t - Fc02.rows t x + k then (s, [-5]) else (Fc02.withInst s i (Fc02.resized s.cat t x k), [((Fc02.total t - Fc02.rows t x + k : Nat) : Int)]) := by
    show (match s.insts[i]? with | none => _ | some t => _) = _
    rw [ht]
  refine q_when (et_not (et_B (e_has_thing hs3.catAt (e_category T hs3 (ev_var rfl)) (ev_var rfl)))) (fun hb H4 e4 => ?_) (fun hb H4 e4 => ?_)
  · have c : s.cat.n ≤ x := by simpa using hb
    rw [st0, if_pos c] at kont
    exact ret_one kont hs hm (e03.trans e4) ev_c rfl
  · have c : x < s.cat.n := by simpa using hb
    rw [st0, if_neg (by omega)] at kont
    have e04 := e03.trans e4
    have hi4 : InstAt D H4 l.b s.cat t := ⟨⟨l, rfl, hI.mono e04⟩, wi⟩
    refine q_when (et_test (ev_gt (j := 6) (ev_add (ev_sub (e_row_count hi4 (ev_var rfl)) (e_counts T hi4 (ev_var rfl) (ev_var rfl) c) (rows_le t x)) (ev_var rfl)) ev_c)) (fun hb H5 e5 => ?_) (fun hb H5 e5 => ?_)
    · have d : Fc02.MOST < Fc02.total t - Fc02.rows t x + k := of_decide_eq_true hb
      rw [if_pos d] at kont
      exact ret_one kont hs hm (e04.trans e5) ev_c rfl
    · have d : ¬ Fc02.MOST < Fc02.total t - Fc02.rows t x + k := of_decide_eq_false hb
      have d6 : Fc02.total t - Fc02.rows t x + k ≤ 6 := Nat.le_of_not_lt d
      rw [if_neg d] at kont
      have e05 := e04.trans e5
      have hs5 := hs.mono e05
      refine q_call (ea_cons (e_category T hs5 (ev_var rfl)) (ea_cons (ev_var rfl) (ea_cons (ev_var rfl) (ea_cons (ev_var rfl) ea_nil)))) fun H6 e6 => ?_
      have e06 := e05.trans e6
      have hs6 := hs.mono e06
      refine ⟨L.ca, L.e, L.d, L.cdx, L.refs, L.kvs, s.cat, l, t, x, k, rfl, hs6.cat, hs.wc, hI.mono e06, wi, nd, (hs.off l (List.mem_of_getElem? hl)).1, c, by omega, fun H7 l' lb hI' nd' new fr => ?_⟩
      have wi' := wi_resized hs.wc wi c d6
      have hi7 : InstAt D H7 l.b s.cat (Fc02.resized s.cat t x k) := ⟨⟨l', lb, hI'⟩, wi'⟩
      have fr07 : Fr (· ∈ fp l) H H7 := (Fr.of_ex e06).trans fr
      have z := e_row_count hi7 (ev_var (σ := [some (.ref L.a), some (.ref q), some (.ref l.b), some (kN x), some (kN k)]) (i := 2) rfl)
      rw [total_resized (by rw [wi.sz]; exact c)] at z
      refine s_retL (el_lst (ea_cons z ea_nil) (by show 1 ≤ 100000; decide)) fun r H8 hr e8 h8 => ?_
      exact kont.change hs hm hl (fr07.ex e8) lb (hI'.mono e8) wi' nd' (fun y hy => (new y hy).imp id fun w => fresh_back e06 w) (fr07.back r hr) h8
theorem pure_answer_set (T : Txt D mg) (h : sp_answer_set D vs H Q E) : t_answer_set D (En Q) (start n_answer_set vs) H := by
  obtain ⟨L, s, m, q, ns, kk, rfl, hs, hm, m1, hq, hcl, _, kont⟩ := h
  obtain ⟨i, f, r, v, rfl, i3, rfl⟩ := cl_set_inv hcl
  obtain ⟨l, t, hl, ht, hI, wi, nd⟩ := hs.get i3
  refine q_asg (e_instance T hs (ev_var rfl) (e_num (k := 0) (ev_var rfl) hq rfl rfl) hl) fun H1 e1 => ?_
  refine q_asg (e_num (k := 1) (ev_var rfl) (e1 _ _ hq) rfl rfl) fun H2 e2 => ?_
  have e02 := e1.trans e2
  refine q_asg (e_num (k := 2) (ev_var rfl) (e02 _ _ hq) rfl rfl) fun H3 e3 => ?_
  have e03 := e02.trans e3
  refine q_asg (e_num (k := 3) (ev_var rfl) (e03 _ _ hq) rfl rfl) fun H4 e4 => ?_
  have e04 := e03.trans e4
  refine q_asg (e_category T (hs.mono e04) (ev_var rfl)) fun H5 e5 => ?_
  have e05 := e04.trans e5
  have hs5 := hs.mono e05
  have st0 : Fc02.step s (.set i f r v) = if s.cat.arrows.length ≤ f then (s, [-3]) else if f < s.cat.n ∨ Fc02.rows t (Fc02.from_ s.cat f) ≤ r ∨ 99 < v then (s, [-1]) else (Fc02.withInst s i (setInst t f r v), [(Fc02.go s.cat t f r : Int)]) := by
    show (match s.insts[i]? with | none => _ | some t => _) = _
    rw [ht]
    rfl
  refine q_when (et_not (et_B (e_has_arrow hs5.catAt (ev_var rfl) (ev_var rfl)))) (fun hb H6 e6 => ?_) (fun hb H6 e6 => ?_)
  · have c : s.cat.arrows.length ≤ f := by simpa using hb
    rw [st0, if_pos c] at kont
    exact ret_one kont hs hm (e05.trans e6) ev_c rfl
  · have c : f < s.cat.arrows.length := by simpa using hb
    rw [st0, if_neg (by omega)] at kont
    have e06 := e05.trans e6
    have hs6 := hs.mono e06
    have hi6 : InstAt D H6 l.b s.cat t := ⟨⟨l, rfl, hI.mono e06⟩, wi⟩
    refine q_when (et_or (et_B (e_is_own hs6.catAt (ev_var rfl) (ev_var rfl))) fun _ => et_or (et_not (et_B (e_has_row hi6 (ev_var rfl) (e_source hs6.catAt (ev_var rfl) (ev_var rfl) c) (ev_var rfl) (from_lt hs.wc c)))) fun _ => et_test (ev_gt (j := 99) (ev_var rfl) ev_c)) (fun hb H7 e7 => ?_) (fun hb H7 e7 => ?_)
    · have d : f < s.cat.n ∨ Fc02.rows t (Fc02.from_ s.cat f) ≤ r ∨ 99 < v := by simpa using hb
      rw [if_pos d] at kont
      exact ret_one kont hs hm (e06.trans e7) ev_c rfl
    · have d : s.cat.n ≤ f ∧ r < Fc02.rows t (Fc02.from_ s.cat f) ∧ v ≤ 99 := by simpa using hb
      obtain ⟨fn, rl, v99⟩ := d
      rw [if_neg (by omega)] at kont
      have e07 := e06.trans e7
      have hI7 := hI.mono e07
      have hr : l.rr[f]? = some (l.rr[f]'(by rw [hI.rl]; exact c)) := List.getElem?_eq_getElem _
      generalize hrf : l.rr[f]'(by rw [hI.rl]; exact c) = rf at hr
      have rfm : rf ∈ l.rr := List.mem_of_getElem? hr
      have rff : rf ∈ fp l := List.mem_cons_of_mem _ (List.mem_cons_of_mem _ rfm)
      have ld : ∀ {H' : Hp} {σ : L2.St}, Ex H7 H' → σ[2]? = some (some (V.ref l.b)) → σ[3]? = some (some (kN f)) → Ev (tOp (rIxL D.K) (tFld D.K (tVar 2) "leads") (tVar 3)) σ H' (.ref rf) := fun e s2 s3 =>
        ev_ixL (ev_fld (ev_var s2) (e _ _ hI7.ob) T.cl_Instance T.na_leads instF_leads) (ev_var s3) (e _ _ hI7.ll) (map_get hr)
      have hrow := hI7.rw f rf fn hr
      refine q_asg (ev_ixL (ld (Ex.refl _) rfl rfl) (ev_var rfl) hrow (map_get (go_get wi fn c rl))) fun H8 e8 => ?_
      have rlen : r < ((t.tab.getD f []).map kN).length := by rw [List.length_map, wi.rowl f fn c]; exact rl
      refine q_setL (j := r) (v := kN v) (e8 _ _ hrow) (ev_var rfl) (ld e8 rfl rfl) (ev_var rfl) rlen fun H9 e9 => ?_
      rw [map_set]
      have e09 := (e07.trans e8).trans e9
      have hI9 := hI.mono e09
      have fr : Fr (· ∈ fp l) H (upd H9 rf (.lst (((t.tab.getD f []).set r v).map kN))) := (Fr.of_ex e09).upd (Or.inl rff)
      have n1 := List.nodup_cons.mp nd
      have n2 := List.nodup_cons.mp n1.2
      have tl : f < t.tab.length := by rw [wi.tabl]; exact c
      have hI' : InstX D (upd H9 rf (.lst (((t.tab.getD f []).set r v).map kN))) l s.cat (setInst t f r v) := by
        refine ⟨?_, ?_, ?_, hI.rl, fun g u gn hu => ?_, fun u hu => ?_⟩
        · rw [upd_ne fun z => ?_]
          · exact hI9.ob
          · obtain ⟨xs, w⟩ := hI9.lst rff
            rw [← z, hI9.ob] at w; cases w
        · rw [upd_ne fun z => n1.1 (by rw [z]; exact List.mem_cons_of_mem _ rfm)]
          exact hI9.lc
        · rw [upd_ne fun z => n2.1 (by rw [z]; exact rfm)]
          exact hI9.ll
        · rw [set_tab tl]
          by_cases e : g = f
          · subst e
            rw [hr] at hu
            cases hu
            rw [if_pos rfl, upd_same]
          · rw [if_neg e, upd_ne (fun z : u = rf => e (nodup_inj n2.2 (by rw [← z]; exact hu) hr))]
            exact hI9.rw g u gn hu
        · by_cases z : u = rf
          · rw [z, upd_same]; exact ⟨_, rfl⟩
          · rw [upd_ne z]; exact hI9.ra u hu
      refine s_retL (el_lst (ea_cons (x := kN (Fc02.go s.cat t f r)) (ev_var rfl) ea_nil) (by show 1 ≤ 100000; decide)) fun p H10 hp e10 h10 => ?_
      exact kont.change hs hm hl (fr.ex e10) rfl (hI'.mono e10) (wi_set wi c v99) nd (fun y hy => Or.inl hy) (fr.back p hp) h10
end
end AR
set_option Elab.async false
set_option linter.all false
set_option maxRecDepth 100000
set_option maxHeartbeats 4000000
/-! Promise gives reading: what the calls answer (check, maps, nth). -/
namespace AR
open PySem PySem.Spec PyProof.Rows L2 Evl
def dataL (m : List Nat) : PyData := .list ((m.map fun n : Nat => (n : Int)).map PyData.int)
theorem Pts.tail {H : Hp} {o : List V → HO} {r : Addr} {refs : List Addr} {x : List V} {xs : List (List V)} (h : Pts H o (r :: refs) (x :: xs)) : Pts H o refs xs :=
  ⟨by have := h.1; simpa using this, fun i r y h1 h2 => h.2 (i + 1) r y (by simpa using h1) (by simpa using h2)⟩
theorem dpa_lists {K : PySem.W.Frag} {H : Hp} : ∀ {refs : List Addr} {ms : List (List Nat)}, Pts H .lst refs (listsV ms) → DpAll K H (refs.map V.ref) (ms.map dataL)
  | [], [], _ => .nil
  | [], _ :: _, h => by have := h.1; simp [listsV] at this
  | _ :: _, [], h => by have := h.1; simp [listsV] at this
  | r :: refs, m :: ms, h => by
    have h0 := h.2 0 r (m.map kN) rfl rfl
    rw [map_kN] at h0
    exact .cons (.lst (sq_of h0) (dpa_ints _)) (dpa_lists h.tail)
theorem depth_lists (ms : List (List Nat)) : PyData.depthAll (ms.map dataL) ≤ 3 := by
  induction ms with
  | nil => simp [PyData.depthAll]
  | cons m ms ih =>
    have := depth_ints (m.map fun n : Nat => (n : Int))
    rw [List.map_cons]
    simp only [PyData.depthAll, dataL, PyData.depth]
    omega
theorem lay_lists (ms : List (List Nat)) : PyData.canLayAll0 (ms.map dataL) = true := by
  induction ms with
  | nil => rfl
  | cons m ms ih =>
    rw [List.map_cons]
    simp only [PyData.canLayAll0, dataL, PyData.canLay0, Bool.and_eq_true]
    exact ⟨lay_ints _, ih⟩
theorem shaped_lists (ms : List (List Nat)) : SeqAt.shaped (.list (ms.map dataL)) = true := by
  unfold SeqAt.shaped
  rw [Bool.and_eq_true]
  refine ⟨?_, decide_eq_true ?_⟩
  · simp only [PyData.canLay0]; exact lay_lists ms
  · have := depth_lists ms
    simp only [PyData.depth]
    omega
theorem rv_eqNilL {K : PySem.W.Frag} {H : Hp} {p q : Addr} {refs : List Addr} {ms : List (List Nat)} (hp : H p = some (.lst (refs.map V.ref))) (hP : Pts H .lst refs (listsV ms)) (hq : H q = some (.lst [])) : RV (rEqD K) (.ref p) (.ref q) H (.bl ms.isEmpty) := fun H1 e Q k => by
  refine ⟨.list (ms.map dataL), .list [], .lst (sq_of (e _ _ hp)) (dpa_lists (hP.mono e)), .lst (sq_of (e _ _ hq)) .nil, shaped_lists ms, shaped_ints [], ?_⟩
  rw [eqv_nil]
  have e2 : (ms.map dataL).isEmpty = ms.isEmpty := by cases ms <;> rfl
  rw [e2]
  exact k H1 (Ex.refl _)
theorem el_cat1 {σ : L2.St} {H : Hp} {ta tb : TE} {b : Addr} {xs ys : List V} (ha : EvL ta σ H xs) (hb : Ev tb σ H (.ref b)) (hbl : H b = some (.lst ys)) (hz : xs.length + ys.length ≤ 100000) : EvL (tOp rCat ta tb) σ H (xs ++ ys) := fun H1 e Q q =>
  ha H1 e _ fun l H2 _ e2 hl => hb H2 (e.trans e2) _ fun H3 e3 => ⟨l, b, xs, ys, rfl, rfl, e3 _ _ hl, ((e.trans e2).trans e3) _ _ hbl, sz_of hz, fun p hp => q p _ (fresh_back (e2.trans e3) hp) ((e2.trans e3).trans (Ex.new hp)) upd_same⟩
theorem ints_kN (l : List Nat) : (Fc02.ints l).map V.int = l.map kN := by rw [map_kN]; rfl
section
variable {D : Ad} {mg : Str → Option Value} {vs : List V} {H : Hp} {Q : VK} {E : XK}
theorem cl_check_inv {ns : List Nat} {k : Fc02.Call} (h : cl_check ns = some k) : ∃ i, ns = [i] ∧ i < 3 ∧ k = .check i := by
  unfold cl_check at h
  split at h
  · split at h
    · cases h; exact ⟨_, rfl, by assumption, rfl⟩
    · cases h
  · cases h
theorem cl_maps_inv {ns : List Nat} {k : Fc02.Call} (h : cl_maps ns = some k) : ∃ i j, ns = [i, j] ∧ i < 3 ∧ j < 3 ∧ k = .maps i j := by
  unfold cl_maps at h
  split at h
  · split at h
    · rename_i q; cases h; exact ⟨_, _, rfl, q.1, q.2, rfl⟩
    · cases h
  · cases h
theorem cl_nth_inv {ns : List Nat} {k : Fc02.Call} (h : cl_nth ns = some k) : ∃ i j n, ns = [i, j, n] ∧ i < 3 ∧ j < 3 ∧ k = .nth i j n := by
  unfold cl_nth at h
  split at h
  · split at h
    · rename_i q; cases h; exact ⟨_, _, _, rfl, q.1, q.2, rfl⟩
    · cases h
  · cases h
theorem need_cat {s : Fc02.St} {is : List Nat} (h : okNeed s 1 is = true) : Fc02.isCat s.cat = true := by
  unfold okNeed at h
  simpa using h
theorem need_right {s : Fc02.St} {is : List Nat} (h : okNeed s 2 is = true) : (Fc02.isCat s.cat && is.all (rightAt s)) = true := by
  unfold okNeed at h
  simpa using h
theorem pure_answer_check (T : Txt D mg) (h : sp_answer_check D vs H Q E) : t_answer_check D (En Q) (start n_answer_check vs) H := by
  obtain ⟨L, s, m, q, ns, kk, rfl, hs, hm, m1, hq, hcl, ⟨_, nd0⟩, kont⟩ := h
  obtain ⟨i, rfl, i3, rfl⟩ := cl_check_inv hcl
  obtain ⟨l, t, hl, ht, hI, wi, nd⟩ := hs.get i3
  have z : Fc02.isCat s.cat = true := need_cat nd0
  have st0 : Fc02.step s (.check i) = (s, if Fc02.isCat s.cat = false then [-6] else match Fc02.faultI s.cat t with
      | none => [0]
      | some l => Fc02.ints l) := by
    show (s, match s.insts[i]? with | none => _ | some t => _) = _
    rw [ht]
    rfl
  rw [st0] at kont
  have kont : AnsQ D H L s (m + 1) (match Fc02.faultI s.cat t with | none => [0] | some l => Fc02.ints l) Q := by
    have e : (if Fc02.isCat s.cat = false then [-6] else match Fc02.faultI s.cat t with | none => [0] | some l => Fc02.ints l) = (match Fc02.faultI s.cat t with | none => [0] | some l => Fc02.ints l) := if_neg (by rw [z]; decide)
    rw [e] at kont
    exact kont
  refine q_asgL (e_first_fault (b := l.b) hs.catAt ⟨⟨l, rfl, hI⟩, wi⟩ (e_category T hs (ev_var rfl)) (e_instance T hs (ev_var rfl) (e_num (k := 0) (ev_var rfl) hq rfl rfl) hl) (fit_of_cat z)) fun p H2 hp e2 h2 => ?_
  rw [map_kN] at h2
  refine q_when (et_test (ev_opL (ev_var rfl) (el_lst ea_nil (Nat.zero_le _)) fun q H3 h3 e3 => rv_eqNil (e3 _ _ h2) h3)) (fun hb H3 e3 => ?_) (fun hb H3 e3 => ?_)
  · rw [empty_kN, fault_empty] at hb
    cases f : Fc02.faultI s.cat t with
    | none =>
      rw [f] at kont
      exact ret_one kont hs hm (e2.trans e3) ev_c rfl
    | some x => rw [f] at hb; cases hb
  · rw [empty_kN, fault_empty] at hb
    cases f : Fc02.faultI s.cat t with
    | none => rw [f] at hb; cases hb
    | some x =>
      rw [f] at kont h2
      refine s_ret (ev_var rfl) fun H4 e4 => kont.same hs hm ((e2.trans e3).trans e4) hp ?_
      rw [ints_kN, map_kN]
      exact (e3.trans e4) _ _ h2
theorem pure_maps_between (T : Txt D mg) (h : sp_maps_between D vs H Q E) : t_maps_between D (En Q) (start n_maps_between vs) H := by
  obtain ⟨L, s, i, j, t, u, rfl, hs, ht, hu, R, k⟩ := h
  have i3 : i < 3 := by rw [← hs.i3]; exact (List.getElem?_eq_some_iff.mp ht).1
  have j3 : j < 3 := by rw [← hs.i3]; exact (List.getElem?_eq_some_iff.mp hu).1
  obtain ⟨l, t', hl, ht', hI, wi, nd⟩ := hs.get i3
  rw [ht] at ht'; cases ht'
  obtain ⟨l2, u', hl2, hu', hI2, wi2, nd2⟩ := hs.get j3
  rw [hu] at hu'; cases hu'
  refine t_call (ea_cons (e_category T hs (ev_var rfl)) (ea_cons (e_instance T hs (ev_var rfl) (ev_var rfl) hl) (ea_cons (e_instance T hs (ev_var rfl) (ev_var rfl) hl2) ea_nil))) fun H1 e1 => ?_
  exact ⟨L.ca, l.b, l2.b, s.cat, t, u, rfl, hs.catAt.mono e1, ⟨⟨l, rfl, hI.mono e1⟩, wi⟩, ⟨⟨l2, rfl, hI2.mono e1⟩, wi2⟩, R, fun p H2 refs N => k p H2 refs (N.base e1)⟩
/-- all that maps, nth and their like ask first -/
theorem two_eq {s : Fc02.St} {i j : Nat} {t u : Fc02.Inst} {f : Fc02.Cat → Fc02.Inst → Fc02.Inst → List Int} (ht : s.insts[i]? = some t) (hu : s.insts[j]? = some u) : Fc02.two s i j f = (s, if (Fc02.isCat s.cat && [i, j].all (rightAt s)) = true then f s.cat t u else [-6]) := by
  unfold Fc02.two
  rw [ht, hu]
  have r1 : rightAt s i = (Fc02.faultI s.cat t).isNone := by unfold rightAt; rw [ht]
  have r2 : rightAt s j = (Fc02.faultI s.cat u).isNone := by unfold rightAt; rw [hu]
  have e : [i, j].all (rightAt s) = ((Fc02.faultI s.cat t).isNone && (Fc02.faultI s.cat u).isNone) := by
    show (rightAt s i && (rightAt s j && true)) = _
    rw [r1, r2, Bool.and_true]
  rw [e]
  by_cases h : (Fc02.isCat s.cat && ((Fc02.faultI s.cat t).isNone && (Fc02.faultI s.cat u).isNone)) = true
  · have h' : Fc02.isCat s.cat = true ∧ Fc02.faultI s.cat t = none ∧ Fc02.faultI s.cat u = none := by simpa using h
    rw [if_pos h]
    show (s, if _ then _ else _) = _
    rw [if_neg]
    rw [h'.1, h'.2.1, h'.2.2]
    simp
  · rw [if_neg h]
    show (s, if _ then _ else _) = _
    rw [if_pos]
    by_cases a : Fc02.isCat s.cat = true
    · refine Or.inr ?_
      by_cases b : (Fc02.faultI s.cat t).isSome = true
      · exact Or.inl b
      · refine Or.inr ?_
        by_cases d : (Fc02.faultI s.cat u).isSome = true
        · exact d
        · exact absurd (by simp [a, Option.not_isSome_iff_eq_none.mp b, Option.not_isSome_iff_eq_none.mp d]) h
    · exact Or.inl (by simpa using a)
theorem right_two {s : Fc02.St} {i j : Nat} {t u : Fc02.Inst} (ht : s.insts[i]? = some t) (hu : s.insts[j]? = some u) (h : (Fc02.isCat s.cat && [i, j].all (rightAt s)) = true) : Fc02.isCat s.cat = true ∧ Right s.cat t ∧ Right s.cat u := by
  rw [Bool.and_eq_true] at h
  have h2 := List.all_eq_true.mp h.2
  have a := h2 i (by simp)
  have b := h2 j (by simp)
  unfold rightAt at a b
  rw [ht] at a
  rw [hu] at b
  refine ⟨h.1, right_of ?_, right_of ?_⟩
  · simpa using a
  · simpa using b
theorem maps_len {c : Fc02.Cat} (W : WC c) {s t : Fc02.Inst} (ws : WI c s) (wt : WI c t) (R : Right c s) : (Fc02.maps c s t).length ≤ 46656 := by
  rw [← stage_all W ws.sz R]
  have := stage_len (c := c) (s := s) wt.tot (Fc02.total s)
  have p : 6 ^ Fc02.total s ≤ 6 ^ 6 := Nat.pow_le_pow_right (by decide) ws.tot
  have e : 6 ^ 6 = 46656 := by decide
  omega
theorem map_beg {c : Fc02.Cat} (W : WC c) {s t : Fc02.Inst} (ws : WI c s) (R : Right c s) {m : List Nat} (h : m ∈ Fc02.maps c s t) : Beg c s t (Fc02.total s) m := by
  rw [← stage_all W ws.sz R] at h
  exact beg_stage (by rw [places_length ws.sz]; exact Nat.le_refl _) m h
theorem mem_two {i j : Nat} (hi : i < 3) (hj : j < 3) : ∀ x, x ∈ [i, j] → x < 3 := by
  intro x hx
  rcases List.mem_cons.mp hx with z | z
  · omega
  · rw [List.mem_singleton.mp z]; exact hj
theorem not_true {b : Bool} (h : (!b) = true) : b = false := by cases b with
  | false => rfl
  | true => cases h
/-- the maps from the one to the other, asked by the numbers -/
theorem c_maps_between {L : SL} {s : Fc02.St} {q : Addr} {ns : List Nat} {i j : Nat} {t u : Fc02.Inst} {σ : L2.St} {R : VK} (hs : StX D H L s) (h0 : σ[0]? = some (some (.ref L.a))) (h1 : σ[1]? = some (some (.ref q))) (hq : H q = some (.lst (ns.map kN))) (hi : ns[0]? = some i) (hj : ns[1]? = some j) (ht : s.insts[i]? = some t) (hu : s.insts[j]? = some u) (Rt : Right s.cat t)
    (k : RetN .lst (listsV (Fc02.maps s.cat t u)) H R) : tCall (sp_maps_between D) [] C8.E0 (tCons (tVar 0) (tCons (tOp (rIxL D.K) (tVar 1) (tC (.int 0))) (tCons (tOp (rIxL D.K) (tVar 1) (tC (.int 1))) tNil))) σ H R :=
  t_call (ea_cons (ev_var h0) (ea_cons (e_num (k := 0) (ev_var h1) hq hi rfl) (ea_cons (e_num (k := 1) (ev_var h1) hq hj rfl) ea_nil))) fun H1 e1 => ⟨L, s, i, j, t, u, rfl, hs.mono e1, ht, hu, Rt, fun p H2 refs N => k p H2 refs (N.base e1)⟩
theorem pure_answer_maps (T : Txt D mg) (h : sp_answer_maps D vs H Q E) : t_answer_maps D (En Q) (start n_answer_maps vs) H := by
  obtain ⟨L, s, m, q, ns, kk, rfl, hs, hm, m1, hq, hcl, ⟨_, nd0⟩, kont⟩ := h
  obtain ⟨i, j, rfl, i3, j3, rfl⟩ := cl_maps_inv hcl
  obtain ⟨l, t, hl, ht, hI, wi, nd⟩ := hs.get i3
  obtain ⟨l2, u, hl2, hu, hI2, wi2, nd2⟩ := hs.get j3
  have c : (Fc02.isCat s.cat && [i, j].all (rightAt s)) = true := need_right nd0
  have st0 : Fc02.step s (.maps i j) = (s, if (Fc02.isCat s.cat && [i, j].all (rightAt s)) = true then ((Fc02.maps s.cat t u).length : Int) :: Fc02.ints ((Fc02.maps s.cat t u).headD []) else [-6]) := two_eq (f := fun c t u => ((Fc02.maps c t u).length : Int) :: Fc02.ints ((Fc02.maps c t u).headD [])) ht hu
  rw [st0, if_pos c] at kont
  obtain ⟨ic, R, R2⟩ := right_two ht hu c
  have ml := maps_len hs.wc wi wi2 R
  refine q_as (c_maps_between hs rfl rfl hq rfl rfl ht hu R fun p H5 refs N => ?_)
  have e05 := N.ex
  have h5 := N.at_
  have hP := N.pts
  show tSeq _ _ _ [some (.ref L.a), some (.ref q), some (.ref p)] H5
  have rl : (refs.map V.ref).length = (Fc02.maps s.cat t u).length := by rw [List.length_map, hP.1, listsV, List.length_map]
  refine q_when (et_test (ev_opL (ev_var rfl) (el_lst ea_nil (Nat.zero_le _)) fun q H6 h6 e6 => rv_eqNilL (e6 _ _ h5) (hP.mono e6) h6)) (fun hb H6 e6 => ?_) (fun hb H6 e6 => ?_)
  · have z : Fc02.maps s.cat t u = [] := by simpa using hb
    exact ret_one kont hs hm (e05.trans e6) ev_c (by rw [z]; rfl)
  · cases mm : Fc02.maps s.cat t u with
    | nil => rw [mm] at hb; cases hb
    | cons x xs =>
      rw [mm] at hP rl kont ml
      obtain ⟨r0, hr0, hx0⟩ := hP.get (i := 0) (x := x.map kN) rfl
      have bx := map_beg hs.wc wi R (t := u) (m := x) (by rw [mm]; exact List.mem_cons_self)
      have z := ev_len (K := D.K) (ev_var (H := H6) (σ := [some (.ref L.a), some (.ref q), some (.ref p)]) (i := 2) rfl) (sq_of (e6 _ _ h5))
      rw [rl] at z
      refine s_retL (el_cat1 (el_lst (ea_cons z ea_nil) (by show 1 ≤ 100000; decide)) (ev_ixL (i := 0) (ev_var rfl) ev_c (e6 _ _ h5) (map_get hr0)) (e6 _ _ hx0) (by rw [List.length_map, bx.len]; have := wi.tot; show 1 + _ ≤ _; omega)) fun r H7 hr e7 h7 => ?_
      refine kont.same hs hm ((e05.trans e6).trans e7) (fresh_back (e05.trans e6) hr) ?_
      show H7 r = some (.lst (List.map V.int (((x :: xs).length : Int) :: Fc02.ints x)))
      rw [List.map_cons, ints_kN]
      exact h7
theorem pure_answer_nth (T : Txt D mg) (h : sp_answer_nth D vs H Q E) : t_answer_nth D (En Q) (start n_answer_nth vs) H := by
  obtain ⟨L, s, m, q, ns, kk, rfl, hs, hm, m1, hq, hcl, ⟨_, nd0⟩, kont⟩ := h
  obtain ⟨i, j, k, rfl, i3, j3, rfl⟩ := cl_nth_inv hcl
  obtain ⟨l, t, hl, ht, hI, wi, nd⟩ := hs.get i3
  obtain ⟨l2, u, hl2, hu, hI2, wi2, nd2⟩ := hs.get j3
  have c : (Fc02.isCat s.cat && [i, j].all (rightAt s)) = true := need_right nd0
  have st0 : Fc02.step s (.nth i j k) = (s, if (Fc02.isCat s.cat && [i, j].all (rightAt s)) = true then (match (Fc02.maps s.cat t u)[k]? with | none => [-3] | some m => Fc02.ints m) else [-6]) := two_eq (f := fun c t u => match (Fc02.maps c t u)[k]? with | none => [-3] | some m => Fc02.ints m) ht hu
  rw [st0, if_pos c] at kont
  obtain ⟨ic, R, R2⟩ := right_two ht hu c
  refine q_as (c_maps_between hs rfl rfl hq rfl rfl ht hu R fun p H5 refs N => ?_)
  have e05 := N.ex
  have h5 := N.at_
  have hP := N.pts
  show tSeq _ _ _ [some (.ref L.a), some (.ref q), some (.ref p), none] H5
  have rl : (refs.map V.ref).length = (Fc02.maps s.cat t u).length := by rw [List.length_map, hP.1, listsV, List.length_map]
  refine q_asg (e_num (k := 2) (ev_var rfl) (e05 _ _ hq) rfl rfl) fun H6 e6 => ?_
  have e06 := e05.trans e6
  have z := ev_len (K := D.K) (ev_var (H := H6) (σ := [some (.ref L.a), some (.ref q), some (.ref p), some (kN k)]) (i := 2) rfl) (sq_of (e6 _ _ h5))
  rw [rl] at z
  refine q_when (et_test (ev_ge (ev_var rfl) z)) (fun hb H7 e7 => ?_) (fun hb H7 e7 => ?_)
  · have ge := of_decide_eq_true hb
    have g : (Fc02.maps s.cat t u)[k]? = none := List.getElem?_eq_none ge
    rw [g] at kont
    exact ret_one kont hs hm (e06.trans e7) ev_c rfl
  · have lt : k < (Fc02.maps s.cat t u).length := Nat.lt_of_not_le (of_decide_eq_false hb)
    have g : (Fc02.maps s.cat t u)[k]? = some (Fc02.maps s.cat t u)[k] := List.getElem?_eq_getElem lt
    rw [g] at kont
    generalize (Fc02.maps s.cat t u)[k] = w at g kont
    obtain ⟨r0, hr0, hx0⟩ := hP.get (i := k) (x := w.map kN) (by rw [listsV, List.getElem?_map, g]; rfl)
    refine s_ret (ev_ixL (ev_var rfl) (ev_var rfl) ((e6.trans e7) _ _ h5) (map_get hr0)) fun H8 e8 => kont.same hs hm ((e06.trans e7).trans e8) (N.new r0 (List.mem_cons_of_mem _ (List.mem_of_getElem? hr0))) ?_
    rw [ints_kN]
    exact ((e6.trans e7).trans e8) _ _ hx0
end
end AR
set_option Elab.async false
set_option linter.all false
set_option maxRecDepth 100000
set_option maxHeartbeats 4000000
/-! Promise gives reading: groups of numbers; whether a row is lacking; fixed, alike. -/
namespace AR
open PySem PySem.Spec PyProof.Rows L2 Evl
section
variable {K : PySem.W.Frag} {σ : L2.St} {H : Hp} {te : TE} {g : TG} {J : It} {n : Nat} {G : Hp → Prop} {Y : Nat → Hp → V → Hp → Prop} {vs : List Nat} {Q : VK} {o : List V → HO}
/-- a comprehension whose every turn gives a new object -/
theorem lcW_new (w : Walk J n G Y) (σi : Nat → L2.St) (xs : Nat → List V) (hG : ∀ H1, Ex H H1 → G H1) (hz : n ≤ 40000)
    (hg : ∀ (i : Nat) (x : V) (H1 H2 : Hp) (R : L2.St → Hp → Prop), Ex H H1 → i < n → Y i H1 x H2 → (∀ H3, Ex H1 H3 → R (σi i) H3) → g x (wipe σ vs) H2 R) (hw : ∀ i, i < n → wipe (σi i) vs = wipe σ vs)
    (he : ∀ (i : Nat) (H1 : Hp), Ex H H1 → i < n → EvN te (σi i) H1 (o (xs i)))
    (hQ : ∀ p H2 refs, NewL H H2 o ((List.range n).map xs) p refs → Q (.ref p) H2) : lcB J g tYes te vs σ H Q := fun Dl hD =>
  lc_it w (fun i H1 => ∃ refs, NewL H H1 o ((List.range i).map xs) Dl refs) ⟨[], NewL.start hD⟩ (fun i H1 _ ⟨refs, N⟩ => hG H1 N.ex) (fun i x H1 H2 hi ⟨refs, N⟩ y => hg i x H1 H2 _ N.ex hi y fun H3 e3 => ⟨hw i hi, by
    show te (σi i) H3 _
    refine he i H3 (N.ex.trans e3) hi H3 (Ex.refl _) _ fun r H4 hr e4 h4 => ⟨refs.map V.ref, e4 _ _ (e3 _ _ N.at_), ?_, refs ++ [r], ?_⟩
    · rw [List.length_map, N.pts.1, List.length_map, List.length_range]
      exact sz_lt (by omega)
    · have M := (N.more e3).grow hr e4 h4
      rw [List.range_succ, List.map_append]
      rw [List.map_append] at M
      exact M⟩) (fun H1 ⟨refs, N⟩ => hQ Dl H1 refs N)
/-- [e for x, y, z in a list of threes], e a new object -/
theorem lcT_new {a : Addr} {refs : List Addr} {zs : List (List V)} {j1 j2 j3 : Nat} {xs : Nat → List V} (hx : SqL K H a (refs.map V.ref)) (hP : Pts H .tup refs zs) (h3 : ∀ z, z ∈ zs → z.length = 3) (hz : zs.length ≤ 40000) (hw : ∀ x y z, wipe ((((wipe σ vs).set j1 (some x)).set j2 (some y)).set j3 (some z)) vs = wipe σ vs)
    (he : ∀ (i : Nat) (x y z : V) (H1 : Hp), Ex H H1 → zs[i]? = some [x, y, z] → EvN te ((((wipe σ vs).set j1 (some x)).set j2 (some y)).set j3 (some z)) H1 (o (xs i)))
    (hQ : ∀ p H2 rs, NewL H H2 o ((List.range zs.length).map xs) p rs → Q (.ref p) H2) : lcB (Itl K a) (gTup K 3 (gCons (gName j1) (gCons (gName j2) (gCons (gName j3) gNil)))) tYes te vs σ H Q := by
  have len : (refs.map V.ref).length = zs.length := by rw [List.length_map, hP.1]
  rw [← len] at hQ hz
  have gz : ∀ i, i < (refs.map V.ref).length → zs[i]? = some [(zs.getD i []).getD 0 .non, (zs.getD i []).getD 1 .non, (zs.getD i []).getD 2 .non] := fun i hi => by
    rw [len] at hi
    have m := h3 zs[i] (List.getElem_mem hi)
    have ez : zs.getD i [] = zs[i] := by rw [List.getD_eq_getElem?_getD, List.getElem?_eq_getElem hi]; rfl
    rw [ez, List.getElem?_eq_getElem hi]
    match hq : zs[i], m with
    | [p, q, r], _ => rfl
  refine lcW_new walk_list (fun i => (((wipe σ vs).set j1 (some ((zs.getD i []).getD 0 .non))).set j2 (some ((zs.getD i []).getD 1 .non))).set j3 (some ((zs.getD i []).getD 2 .non))) xs (fun H1 e => ex_l e hx) hz (fun i x H1 H2 R e hi y k => ?_) (fun i _ => hw _ _ _) (fun i H1 e hi => he i _ _ _ H1 e (gz i hi)) hQ
  obtain ⟨rfl, hy⟩ := yat y
  obtain ⟨r, hr, rfl⟩ := map_get_inv hy
  exact ⟨r, _, rfl, st_of (e _ _ (hP.2 i r _ hr (gz i hi))), rfl, _, _, rfl, _, _, rfl, _, _, rfl, rfl, k _ (Ex.refl _)⟩
end
theorem rgc_of {k z : Nat} (h1 : 1 ≤ z) (h3 : z ≤ 3) (hk : k ≤ 100) : RgC 0 ((k * z : Nat) : Int) (z : Int) k := by
  have c3 : z = 1 ∨ z = 2 ∨ z = 3 := by omega
  refine ⟨by omega, by omega, ?_, ?_⟩
  · have t1 : ∀ i : Fin 101, Builtin.Range.small 0 ((i.1 * 1 : Nat) : Int) ((1 : Nat) : Int) = true := by decide +kernel
    have t2 : ∀ i : Fin 101, Builtin.Range.small 0 ((i.1 * 2 : Nat) : Int) ((2 : Nat) : Int) = true := by decide +kernel
    have t3 : ∀ i : Fin 101, Builtin.Range.small 0 ((i.1 * 3 : Nat) : Int) ((3 : Nat) : Int) = true := by decide +kernel
    rcases c3 with rfl | rfl | rfl
    · exact t1 ⟨k, by omega⟩
    · exact t2 ⟨k, by omega⟩
    · exact t3 ⟨k, by omega⟩
  · unfold Builtin.Range.rangeSize
    rw [if_pos (by omega)]
    by_cases q : k = 0
    · subst q
      rw [if_neg (by omega)]
      rfl
    · rcases c3 with rfl | rfl | rfl
      · rw [if_pos (by omega)]; omega
      · rw [if_pos (by omega)]; omega
      · rw [if_pos (by omega)]; omega
section
variable {D : Ad} {mg : Str → Option Value} {vs : List V} {H : Hp} {Q : VK} {E : XK}
theorem pure_in_groups (T : Txt D mg) (h : sp_in_groups D vs H Q E) : t_in_groups D (En Q) (start n_in_groups vs) H := by
  obtain ⟨q, ns, z, k, rfl, hq, z1, z3, hl, hk, kont⟩ := h
  have zl := ev_len (K := D.K) (ev_var (H := H) (σ := start n_in_groups [V.ref q, kN z]) (i := 0) rfl) (sq_of hq)
  rw [List.length_map, hl] at zl
  refine t_lc (wi := iRng3 (tCons (tC (.int 0)) (tCons (tCB (Evl.rLenS D.K) (tCons (tVar 0) tNil)) (tCons (tVar 1) tNil)))) ?_
  refine ea_cons (ev_c (v := kN 0)) (ea_cons zl (ea_cons (ev_var (v := kN z) (i := 1) rfl) ea_nil)) H (Ex.refl _) _ fun H1 e1 => ⟨0, ((k * z : Nat) : Int), (z : Int), k, rfl, rgc_of z1 z3 hk, ?_⟩
  refine lcW_new (o := HO.tup) walk_rangeC (fun i => [some (.ref q), some (kN z), some (kN (i * z))]) (fun i => (grp z ns i).map kN) (fun _ _ => trivial) (by omega) (fun i x Ha Hb R e hi y kk => ?_) (fun i _ => rfl) (fun i Ha ea hi Hb eb R kk => ?_) (fun p H2 refs N => kont p H2 refs (fresh_back e1 (N.new p List.mem_cons_self)) (e1.trans N.ex) N.at_ N.pts)
  · obtain ⟨rfl, rfl⟩ := y
    have en : (0 : Int) + (i : Nat) * (z : Int) = ((i * z : Nat) : Int) := by rw [Int.zero_add, Int.natCast_mul]
    show R [some (.ref q), some (kN z), some (.int ((0 : Int) + (i : Nat) * (z : Int)))] Hb
    rw [en]
    exact kk _ (Ex.refl _)
  · have sl := el_sl (K := D.K) (H := Hb) (σ := [some (.ref q), some (kN z), some (kN (i * z))]) (ev_var (i := 0) rfl) (eo_some (i := ((i * z : Nat) : Int)) (ev_var (i := 2) rfl)) (eo_some (i := ((i * z + z : Nat) : Int)) (ev_add (ta := tVar 2) (tb := tVar 1) (i := i * z) (j := z) (ev_var rfl) (ev_var rfl))) (sq_of ((e1.trans (ea.trans eb)) _ _ hq))
    rw [cut_two, Nat.add_sub_cancel_left, ← List.map_drop, ← List.map_take] at sl
    refine sl Hb (Ex.refl _) _ fun p H2 hp e2 h2 => Or.inl ⟨p, _, rfl, sq_of h2, fun r hr => ?_⟩
    exact kk r _ (fresh_back e2 hr) (e2.trans (Ex.new hr)) upd_same
theorem pure_lacks_a_row (T : Txt D mg) (h : sp_lacks_a_row D vs H Q E) : t_lacks_a_row D (En Q) (start n_lacks_a_row vs) H := by
  obtain ⟨b, q, refs, c, t, ls, rfl, hi, hq, hP, h2, k⟩ := h
  refine q_forL (K := D.K) (ev_var rfl) (sq_of hq) (fun i σ' H' => ∃ v2, σ' = [some (.ref b), some (.ref q), v2] ∧ Ex H H' ∧ ∀ j l, j < i → ls[j]? = some l → Fc02.isRow c t (l.getD 0 0) (l.getD 1 0) = true) ?_ ?_ ?_ ?_
  · intro H1 e1
    exact ⟨none, rfl, e1, fun j l hj => by omega⟩
  · rintro i σ' H' _ ⟨v2, rfl, e1, _⟩
    exact sq_of (e1 _ _ hq)
  · rintro i x σ' H1 hx ⟨v2, rfl, e1, hj⟩
    obtain ⟨r, hr, rfl⟩ := map_get_inv hx
    have il := (List.getElem?_eq_some_iff.mp hr).1
    rw [hP.1, listsV, List.length_map] at il
    obtain ⟨l, hl⟩ : ∃ l, ls[i]? = some l := ⟨_, List.getElem?_eq_getElem il⟩
    have l2 := h2 l (mem_take_of hl)
    have ht : H1 r = some (.tup (l.map kN)) := e1 _ _ (hP.2 i r _ hr (by rw [listsV, List.getElem?_map, hl]; rfl))
    show tIfS _ _ _ _ [some (.ref b), some (.ref q), some (.ref r)] H1
    have g0 : (l.map kN)[0]? = some (kN (l.getD 0 0)) := map_get (getD_some (by omega))
    have g1 : (l.map kN)[1]? = some (kN (l.getD 1 0)) := map_get (getD_some (by omega))
    refine s_when (et_not (et_B (e_is_row (x := l.getD 0 0) (r := l.getD 1 0) (hi.mono e1) (ev_var rfl) (ev_ixT (i := 0) (ev_var rfl) ev_c ht g0) (ev_ixT (i := 1) (ev_var rfl) ev_c ht g1)))) (fun hb H2 e2 => ?_) (fun hb H2 e2 => ?_)
    · have tr : (ls.any fun l => !Fc02.isRow c t (l.getD 0 0) (l.getD 1 0)) = true := List.any_eq_true.mpr ⟨l, mem_take_of hl, hb⟩
      rw [tr] at k
      exact s_ret ev_c fun H3 e3 => k H3 ((e1.trans e2).trans e3)
    · refine ⟨some (.ref r), rfl, e1.trans e2, fun j y hjl hjy => ?_⟩
      by_cases e : j = i
      · subst e
        rw [hl] at hjy
        cases hjy
        simpa using hb
      · exact hj j y (by omega) hjy
  · rintro σ' H1 ⟨v2, rfl, e1, hj⟩
    rw [List.length_map, hP.1, listsV, List.length_map] at hj
    have fa : (ls.any fun l => !Fc02.isRow c t (l.getD 0 0) (l.getD 1 0)) = false := by
      rw [List.any_eq_false]
      intro l hl
      obtain ⟨j, hjl, e⟩ := List.getElem_of_mem hl
      have := hj j l hjl (by rw [List.getElem?_eq_getElem hjl, e])
      rw [this]
      decide
    rw [fa] at k
    exact s_ret ev_c fun H3 e3 => k H3 (e1.trans e3)
/-- what is asked of one instance that is right -/
theorem one_eq {s : Fc02.St} {i : Nat} {t : Fc02.Inst} {f : Fc02.Cat → Fc02.Inst → List Int} (ht : s.insts[i]? = some t) (h : (Fc02.isCat s.cat && [i].all (rightAt s)) = true) : Fc02.one s i f = (s, f s.cat t) := by
  rw [Bool.and_eq_true] at h
  have r := List.all_eq_true.mp h.2 i (by simp)
  unfold rightAt at r
  rw [ht] at r
  have r : Fc02.faultI s.cat t = none := by simpa using r
  unfold Fc02.one
  rw [ht]
  show (s, if _ then _ else _) = _
  rw [if_neg]
  rw [h.1, r]
  simp
theorem right_one {s : Fc02.St} {i : Nat} {t : Fc02.Inst} (ht : s.insts[i]? = some t) (h : (Fc02.isCat s.cat && [i].all (rightAt s)) = true) : Fc02.isCat s.cat = true ∧ Right s.cat t := by
  rw [Bool.and_eq_true] at h
  have r := List.all_eq_true.mp h.2 i (by simp)
  unfold rightAt at r
  rw [ht] at r
  exact ⟨h.1, right_of (by simpa using r)⟩
theorem given_count {α : Type} (l : List α) (P : α → Bool) (f : Nat → Bool) (v : Nat → V) (d : α) (h : ∀ i x, l[i]? = some x → f i = P x) : (given l.length f v).length = (l.filter P).length := by
  unfold given
  rw [List.length_map, ← filter_range l P f h d, List.length_map]
theorem cl_fixed_inv {ns : List Nat} {k : Fc02.Call} (h : cl_fixed ns = some k) : ∃ i j n l w, ns = i :: j :: n :: l ∧ i < 3 ∧ j < 3 ∧ Fc02Neutral.threesIn l = some w ∧ k = .fixed i j w := by
  unfold cl_fixed at h
  split at h
  · split at h
    · rename_i i j n l q
      cases e : Fc02Neutral.threesIn l with
      | none => rw [e] at h; cases h
      | some w => rw [e] at h; cases h; exact ⟨i, j, n, l, w, rfl, q.1, q.2, e, rfl⟩
    · cases h
  · cases h
theorem cl_alike_inv {ns : List Nat} {k : Fc02.Call} (h : cl_alike ns = some k) : ∃ i j, ns = [i, j] ∧ i < 3 ∧ j < 3 ∧ k = .alike i j := by
  unfold cl_alike at h
  split at h
  · split at h
    · rename_i q; cases h; exact ⟨_, _, rfl, q.1, q.2, rfl⟩
    · cases h
  · cases h
def threeL (p : Nat × Nat × Nat) : List Nat := [p.1, p.2.1, p.2.2]
def pairL (p : Nat × Nat) : List Nat := [p.1, p.2]
theorem named_eq {z k : Nat} {ns : List Nat} {ls : List (List Nat)} (hl : ls.length = k) (h : ∀ i l, ls[i]? = some l → grp z ns i = l) : (List.range k).map (fun i => (grp z ns i).map kN) = listsV ls := by
  rw [← hl]
  exact map_range ls (fun m => m.map kN) (fun i => (grp z ns i).map kN) fun i x hx => by rw [h i x hx]
theorem named3 {l : List Nat} {w : List (Nat × Nat × Nat)} (h : Fc02Neutral.threesIn l = some w) : l.length = w.length * 3 ∧ (List.range w.length).map (fun i => (grp 3 l i).map kN) = listsV (w.map threeL) := by
  obtain ⟨a, b⟩ := threes_grp h
  refine ⟨a, named_eq (by rw [List.length_map]) fun i x hx => ?_⟩
  rw [List.getElem?_map] at hx
  cases e : w[i]? with
  | none => rw [e] at hx; cases hx
  | some p => rw [e] at hx; cases hx; exact b i p e
theorem named2 {l : List Nat} {w : List (Nat × Nat)} (h : Fc02Neutral.pairsIn l = some w) : l.length = w.length * 2 ∧ (List.range w.length).map (fun i => (grp 2 l i).map kN) = listsV (w.map pairL) := by
  obtain ⟨a, b⟩ := pairs_grp h
  refine ⟨a, named_eq (by rw [List.length_map]) fun i x hx => ?_⟩
  rw [List.getElem?_map] at hx
  cases e : w[i]? with
  | none => rw [e] at hx; cases hx
  | some p => rw [e] at hx; cases hx; exact b i p e
/-- groups of what stands behind a place, asked by the reading -/
theorem c_in_groups {q : Addr} {ns l : List Nat} {z k m : Nat} {σ : L2.St} {R : VK} {tz tm : TE} (hq : H q = some (.lst (ns.map kN))) (h1 : σ[1]? = some (some (.ref q))) (hm : Ev tm σ H (kN m)) (hz : ∀ H1, Ex H H1 → Ev tz σ H1 (kN z)) (hd : ns.drop m = l) (z1 : 1 ≤ z) (z3 : z ≤ 3) (hl : l.length = k * z) (hk : k ≤ 100)
    (kk : RetP .tup ((List.range k).map fun i => (grp z l i).map kN) H R) : tCall (sp_in_groups D) [] C8.E0 (tCons (tSl (rSlL D.K) (tVar 1) (tPart tm) tNoPart) (tCons tz tNil)) σ H R := by
  have sl := el_sl (K := D.K) (H := H) (σ := σ) (ev_var (i := 1) h1) (eo_some (i := (m : Int)) hm) eo_none (sq_of hq)
  rw [cut_from, ← List.map_drop, hd] at sl
  refine sl H (Ex.refl _) _ fun p H1 hp e1 h1 => hz H1 e1 H1 (Ex.refl _) _ fun H2 e2 => ⟨p, l, z, k, rfl, e2 _ _ h1, z1, z3, hl, hk, fun r H3 refs hr e3 h3 hP => kk.go (e1.trans e2) hr e3 h3 hP⟩
theorem e_lacks_a_row {b q : Addr} {refs : List Addr} {c : Fc02.Cat} {t : Fc02.Inst} {ls : List (List Nat)} {σ : L2.St} {ta tb : TE} (hi : InstAt D H b c t) (hq : H q = some (.lst (refs.map V.ref))) (hP : Pts H .tup refs (listsV ls)) (h2 : ∀ l, l ∈ ls → 2 ≤ l.length) (h0 : Ev ta σ H (.ref b)) (h1 : Ev tb σ H (.ref q)) : Ev (tCall (sp_lacks_a_row D) [] C8.E0 (tCons ta (tCons tb tNil))) σ H (.bl (ls.any fun l => !Fc02.isRow c t (l.getD 0 0) (l.getD 1 0))) :=
  ev_call (ea_cons h0 (ea_cons h1 ea_nil)) fun H1 e Q k E => ⟨b, q, refs, c, t, ls, rfl, hi.mono e, e _ _ hq, hP.mono e, h2, k⟩
theorem any_not {α : Type} (l : List α) (P : α → Bool) : (l.any fun x => !P x) = !l.all P := by
  induction l with
  | nil => rfl
  | cons a l ih => rw [List.any_cons, List.all_cons, ih, Bool.not_and]
/-- how many maps suit, counted by a comprehension -/
theorem len_lc {u : Addr} {refs : List Addr} {ms : List (List Nat)} {j : Nat} {t : TT} {σ : L2.St} (f : List Nat → Bool) (hu : H u = some (.lst (refs.map V.ref))) (hP : Pts H .lst refs (listsV ms)) (hz : ms.length ≤ 46656) {ju : Nat} (h0 : σ[ju]? = some (some (.ref u))) (hw : ∀ x, wipe ((wipe σ [j]).set j (some x)) [j] = wipe σ [j]) (hj : ∀ x, ((wipe σ [j]).set j (some x))[j]? = some (some x))
    (ht : ∀ (r : Addr) (m : List Nat) (H1 : Hp), Ex H H1 → m ∈ ms → H1 r = some (.lst (m.map kN)) → EvT t ((wipe σ [j]).set j (some (.ref r))) H1 (f m)) : Ev (tCB (Evl.rLenS D.K) (tCons (tLc (iList D.K (tVar ju)) (gName j) t (tVar j) [j]) tNil)) σ H (.int (((ms.filter f).length : Nat) : Int)) := fun H1 e1 R k => by
  have rl : refs.length = ms.length := by rw [hP.1, listsV, List.length_map]
  show tLc (iList D.K (tVar ju)) (gName j) t (tVar j) [j] σ H1 (fun v Ha => Evl.rLenS D.K [v] Ha R)
  refine t_lc (wi := iList D.K (tVar ju)) ⟨_, h0, u, rfl, ⟨_, sq_of (e1 _ _ hu)⟩, ?_⟩
  have gm : ∀ i x, (refs.map V.ref)[i]? = some x → ∃ r, x = .ref r ∧ refs.getD i 0 = r ∧ ms.getD i [] ∈ ms ∧ H r = some (.lst ((ms.getD i []).map kN)) := fun i x hx => by
    obtain ⟨r, hr, rfl⟩ := map_get_inv hx
    have il := (List.getElem?_eq_some_iff.mp hr).1
    rw [rl] at il
    have hm : ms[i]? = some (ms.getD i []) := by rw [List.getD_eq_getElem?_getD, List.getElem?_eq_getElem il]; rfl
    exact ⟨r, rfl, by rw [List.getD_eq_getElem?_getD, hr]; rfl, List.mem_of_getElem? hm, hP.2 i r _ hr (by rw [listsV, List.getElem?_map, hm]; rfl)⟩
  refine lcL_given (fun i => f (ms.getD i [])) (fun i => .ref (refs.getD i 0)) (sq_of (e1 _ _ hu)) (by rw [List.length_map, rl]; omega) hw (fun i x H2 e2 hx => ?_) (fun i x H2 e2 hx _ => ?_) ?_
  · obtain ⟨r, rfl, _, mm, hr⟩ := gm i x hx
    exact ht r _ H2 (e1.trans e2) mm ((e1.trans e2) _ _ hr)
  · obtain ⟨r, rfl, er, _⟩ := gm i x hx
    rw [er]
    exact ev_var (hj _)
  · intro p H2 hp e2 h2
    refine ⟨p, _, rfl, Or.inl (sq_of h2), ?_⟩
    rw [List.length_map, rl, given_count ms f _ _ [] fun i x hx => by rw [List.getD_eq_getElem?_getD, hx]; rfl]
    exact k H2 e2
end
end AR
set_option Elab.async false
set_option linter.all false
set_option maxRecDepth 100000
set_option maxHeartbeats 4000000
/-! Promise gives reading: fixed, alike, part, pieces. -/
namespace AR
open PySem PySem.Spec PyProof.Rows L2 Evl
section
variable {D : Ad} {mg : Str → Option Value} {vs : List V} {H : Hp} {Q : VK} {E : XK}
theorem place_of_isRow {c : Fc02.Cat} {t : Fc02.Inst} {x r : Nat} (h : Fc02.isRow c t x r = true) : x < c.n ∧ r < Fc02.rows t x := by
  unfold Fc02.isRow at h
  simpa using h
theorem pure_answer_fixed (T : Txt D mg) (h : sp_answer_fixed D vs H Q E) : t_answer_fixed D (En Q) (start n_answer_fixed vs) H := by
  obtain ⟨L, s, m, q, ns, kk, rfl, hs, hm, m1, hq, hcl, ⟨n40, nd0⟩, kont⟩ := h
  obtain ⟨i, j, n, l0, w, rfl, i3, j3, hw, rfl⟩ := cl_fixed_inv hcl
  obtain ⟨l, t, hl, ht, hI, wi, nd⟩ := hs.get i3
  obtain ⟨l2, u, hl2, hu, hI2, wi2, nd2⟩ := hs.get j3
  have c : (Fc02.isCat s.cat && [i, j].all (rightAt s)) = true := need_right nd0
  have st0 : Fc02.step s (.fixed i j w) = (s, if (Fc02.isCat s.cat && [i, j].all (rightAt s)) = true then (if w.all (fun x => Fc02.isRow s.cat t x.1 x.2.1) = false then [-1] else [(((Fc02.maps s.cat t u).filter fun m => w.all fun x => Fc02.valueAt t m x.1 x.2.1 == x.2.2).length : Int)]) else [-6]) :=
    two_eq (f := fun c t u => if w.all (fun x => Fc02.isRow c t x.1 x.2.1) = false then [-1] else [(((Fc02.maps c t u).filter fun m => w.all fun x => Fc02.valueAt t m x.1 x.2.1 == x.2.2).length : Int)]) ht hu
  rw [st0, if_pos c] at kont
  obtain ⟨ic, R, R2⟩ := right_two ht hu c
  have ml := maps_len hs.wc wi wi2 R
  obtain ⟨l0l, nam⟩ := named3 hw
  have wl : w.length ≤ 100 := by simp only [List.length_cons] at n40; omega
  refine q_asg (e_instance T hs (ev_var rfl) (e_num (k := 0) (ev_var rfl) hq rfl rfl) hl) fun H1 e1 => ?_
  refine q_as (c_in_groups (m := 3) (z := 3) (l := l0) (k := w.length) (e1 _ _ hq) rfl (ev_c (v := kN 3)) (fun _ _ => ev_c (v := kN 3)) rfl (by decide) (by decide) l0l wl fun p H2 refs hp e2 h2 hP => ?_)
  rw [nam] at hP
  have e02 := e1.trans e2
  have hi2 : InstAt D H2 l.b s.cat t := ⟨⟨l, rfl, hI.mono e02⟩, wi⟩
  show tSeq _ _ _ [some (.ref L.a), some (.ref q), some (.ref l.b), some (.ref p), none, none, none, none, none, none] H2
  have anyv : ((w.map threeL).any fun l => !Fc02.isRow s.cat t (l.getD 0 0) (l.getD 1 0)) = !w.all fun x => Fc02.isRow s.cat t x.1 x.2.1 := by
    rw [List.any_map, ← any_not]
    rfl
  have lk := e_lacks_a_row (D := D) (ls := w.map threeL) (σ := [some (.ref L.a), some (.ref q), some (.ref l.b), some (.ref p), none, none, none, none, none, none]) (ta := tVar 2) (tb := tVar 3) hi2 h2 hP (fun x hx => by obtain ⟨y, _, rfl⟩ := List.mem_map.mp hx; show 2 ≤ 3; decide) (ev_var rfl) (ev_var rfl)
  rw [anyv] at lk
  refine q_when (et_B lk) (fun hb H3 e3 => ?_) (fun hb H3 e3 => ?_)
  · have z : w.all (fun x => Fc02.isRow s.cat t x.1 x.2.1) = false := not_true hb
    exact ret_one kont hs hm (e02.trans e3) ev_c (if_pos z)
  · have z : w.all (fun x => Fc02.isRow s.cat t x.1 x.2.1) = true := by simpa using hb
    rw [if_neg (by rw [z]; decide)] at kont
    have e03 := e02.trans e3
    have hi3 := hi2.mono e3
    refine q_as (t_lc (wi := iList D.K (tVar 3)) ⟨_, rfl, p, rfl, ⟨_, sq_of (e3 _ _ h2)⟩, ?_⟩)
    have zl : (listsV (w.map threeL)).length = w.length := by rw [listsV, List.length_map, List.length_map]
    refine lcT_new (K := D.K) (o := HO.tup) (xs := fun y => pairV (Fc02.offset t (w.getD y (0, 0, 0)).1 + (w.getD y (0, 0, 0)).2.1, (w.getD y (0, 0, 0)).2.2)) (sq_of (e3 _ _ h2)) (hP.mono e3) (fun x hx => ?_) (by rw [zl]; omega) (fun _ _ _ => rfl) (fun y a b d H4 e4 hy => ?_) fun o H4 ws N => ?_
    · obtain ⟨y, hy, rfl⟩ := List.mem_map.mp hx
      obtain ⟨v, _, rfl⟩ := List.mem_map.mp hy
      rfl
    · have yl : y < w.length := by rw [← zl]; exact (List.getElem?_eq_some_iff.mp hy).1
      have wy : w[y]? = some (w.getD y (0, 0, 0)) := by rw [List.getD_eq_getElem?_getD, List.getElem?_eq_getElem yl]; rfl
      rw [listsV, List.getElem?_map, List.getElem?_map, wy] at hy
      have hy : [kN (w.getD y (0, 0, 0)).1, kN (w.getD y (0, 0, 0)).2.1, kN (w.getD y (0, 0, 0)).2.2] = [a, b, d] := Option.some.inj hy
      generalize w.getD y (0, 0, 0) = v at hy
      injection hy with h1 h2
      injection h2 with h2 h3
      injection h3 with h3 _
      subst h1 h2 h3
      exact eu_tup (ea_cons (e_place_of_row (hi3.mono e4) (ev_var rfl) (ev_var rfl) (ev_var rfl)) (ea_cons (ev_var rfl) ea_nil)) (by show 2 ≤ 100000; decide)
    · have wsv : (List.range (listsV (w.map threeL)).length).map (fun y => pairV (Fc02.offset t (w.getD y (0, 0, 0)).1 + (w.getD y (0, 0, 0)).2.1, (w.getD y (0, 0, 0)).2.2)) = (w.map fun x => (Fc02.offset t x.1 + x.2.1, x.2.2)).map pairV := by
        rw [zl, List.map_map]
        exact map_range w _ _ fun y x hx => by rw [List.getD_eq_getElem?_getD, hx]; rfl
      have hW := N.pts
      rw [wsv] at hW
      have e04 := e03.trans N.ex
      show tSeq _ _ _ [some (.ref L.a), some (.ref q), some (.ref l.b), some (.ref p), some (.ref o), none, none, none, none, none] H4
      refine q_as (c_maps_between (hs.mono e04) rfl rfl (e04 _ _ hq) rfl rfl ht hu R fun f H5 fs M => ?_)
      have e05 := e04.trans M.ex
      show tRet _ _ [some (.ref L.a), some (.ref q), some (.ref l.b), some (.ref p), some (.ref o), none, none, none, some (.ref f), none] H5
      refine ret_one kont hs hm e05 (len_lc (D := D) (fun m => (w.map fun x => (Fc02.offset t x.1 + x.2.1, x.2.2)).all fun z => m.getD z.1 0 == z.2) M.at_ M.pts ml rfl (fun _ => rfl) (fun _ => rfl) fun r mm H6 e6 hmm hr => ?_) ?_
      · refine et_B (e_takes_there hr ((M.ex.trans e6) _ _ N.at_) (hW.mono (M.ex.trans e6)) (fun x hx => ?_) (ev_var rfl) (ev_var rfl))
        obtain ⟨y, hy, rfl⟩ := List.mem_map.mp hx
        obtain ⟨_, yr⟩ := place_of_isRow (List.all_eq_true.mp z y hy)
        rw [(map_beg hs.wc wi R hmm).len]
        exact place_lt yr
      · have fe : (fun m : List Nat => (w.map fun x => (Fc02.offset t x.1 + x.2.1, x.2.2)).all fun z => m.getD z.1 0 == z.2) = fun m => w.all fun x => Fc02.valueAt t m x.1 x.2.1 == x.2.2 := by
          funext m
          rw [List.all_map]
          rfl
        rw [fe]
theorem pure_answer_alike (T : Txt D mg) (h : sp_answer_alike D vs H Q E) : t_answer_alike D (En Q) (start n_answer_alike vs) H := by
  obtain ⟨L, s, m, q, ns, kk, rfl, hs, hm, m1, hq, hcl, ⟨n40, nd0⟩, kont⟩ := h
  obtain ⟨i, j, rfl, i3, j3, rfl⟩ := cl_alike_inv hcl
  obtain ⟨l, t, hl, ht, hI, wi, nd⟩ := hs.get i3
  obtain ⟨l2, u, hl2, hu, hI2, wi2, nd2⟩ := hs.get j3
  have c : (Fc02.isCat s.cat && [i, j].all (rightAt s)) = true := need_right nd0
  have st0 : Fc02.step s (.alike i j) = (s, if (Fc02.isCat s.cat && [i, j].all (rightAt s)) = true then [(((Fc02.maps s.cat t u).filter (Fc02.isTurn s.cat t u)).length : Int)] else [-6]) :=
    two_eq (f := fun c t u => [(((Fc02.maps c t u).filter (Fc02.isTurn c t u)).length : Int)]) ht hu
  rw [st0, if_pos c] at kont
  obtain ⟨ic, R, R2⟩ := right_two ht hu c
  have ml := maps_len hs.wc wi wi2 R
  refine q_asg (e_instance T hs (ev_var rfl) (e_num (k := 0) (ev_var rfl) hq rfl rfl) hl) fun H1 e1 => ?_
  refine q_asg (e_instance T (hs.mono e1) (ev_var rfl) (e_num (k := 1) (ev_var rfl) (e1 _ _ hq) rfl rfl) hl2) fun H2 e2 => ?_
  have e02 := e1.trans e2
  refine q_as (c_maps_between (hs.mono e02) rfl rfl (e02 _ _ hq) rfl rfl ht hu R fun f H5 fs M => ?_)
  have e05 := e02.trans M.ex
  show tRet _ _ [some (.ref L.a), some (.ref q), some (.ref l.b), some (.ref l2.b), some (.ref f), none] H5
  refine ret_one kont hs hm e05 (len_lc (D := D) (Fc02.isTurn s.cat t u) M.at_ M.pts ml rfl (fun _ => rfl) (fun _ => rfl) fun r mm H6 e6 hmm hr => ?_) rfl
  exact et_B (e_takes_once (b := l.b) (b2 := l2.b) ⟨⟨l, rfl, hI.mono (e05.trans e6)⟩, wi⟩ ⟨⟨l2, rfl, hI2.mono (e05.trans e6)⟩, wi2⟩ hr (map_beg hs.wc wi R hmm).len (ev_var rfl) (ev_var rfl) (ev_var rfl))
theorem cl_part_inv {ns : List Nat} {k : Fc02.Call} (h : cl_part ns = some k) : ∃ i n l w, ns = i :: n :: l ∧ i < 3 ∧ Fc02Neutral.pairsIn l = some w ∧ k = .part i w := by
  unfold cl_part at h
  split at h
  · split at h
    · rename_i i n l q
      cases e : Fc02Neutral.pairsIn l with
      | none => rw [e] at h; cases h
      | some w => rw [e] at h; cases h; exact ⟨i, n, l, w, rfl, q, e, rfl⟩
    · cases h
  · cases h
theorem cl_pieces_inv {ns : List Nat} {k : Fc02.Call} (h : cl_pieces ns = some k) : ∃ i, ns = [i] ∧ i < 3 ∧ k = .pieces i := by
  unfold cl_pieces at h
  split at h
  · split at h
    · rename_i q; cases h; exact ⟨_, rfl, q, rfl⟩
    · cases h
  · cases h
theorem flat_pairs (l : List (Nat × Nat)) : (l.flatMap fun x => [x.1, x.2]).length = l.length * 2 := by
  induction l with
  | nil => rfl
  | cons a l ih =>
    simp only [List.flatMap_cons, List.length_append, ih, List.length_cons, List.length_nil]
    omega
theorem pure_answer_part (T : Txt D mg) (h : sp_answer_part D vs H Q E) : t_answer_part D (En Q) (start n_answer_part vs) H := by
  obtain ⟨L, s, m, q, ns, kk, rfl, hs, hm, m1, hq, hcl, ⟨n40, nd0⟩, kont⟩ := h
  obtain ⟨i, n, l0, w, rfl, i3, hw, rfl⟩ := cl_part_inv hcl
  obtain ⟨l, t, hl, ht, hI, wi, nd⟩ := hs.get i3
  have c : (Fc02.isCat s.cat && [i].all (rightAt s)) = true := need_right nd0
  have st0 : Fc02.step s (.part i w) = (s, if w.all (fun x => Fc02.isRow s.cat t x.1 x.2) = false then [-1] else ((Fc02.reached s.cat t w).length : Int) :: Fc02.ints ((Fc02.reached s.cat t w).flatMap fun x => [x.1, x.2])) :=
    one_eq (f := fun c t => if w.all (fun x : Nat × Nat => Fc02.isRow c t x.1 x.2) = false then [-1] else ((Fc02.reached c t w).length : Int) :: Fc02.ints ((Fc02.reached c t w).flatMap fun x : Nat × Nat => [x.1, x.2])) ht c
  rw [st0] at kont
  obtain ⟨ic, R⟩ := right_one ht c
  obtain ⟨l0l, nam⟩ := named2 hw
  have wl : w.length ≤ 100 := by simp only [List.length_cons] at n40; omega
  refine q_asg (e_instance T hs (ev_var rfl) (e_num (k := 0) (ev_var rfl) hq rfl rfl) hl) fun H1 e1 => ?_
  refine q_as (c_in_groups (m := 2) (z := 2) (l := l0) (k := w.length) (e1 _ _ hq) rfl (ev_c (v := kN 2)) (fun _ _ => ev_c (v := kN 2)) rfl (by decide) (by decide) l0l wl fun p H2 refs hp e2 h2 hP => ?_)
  rw [nam] at hP
  have e02 := e1.trans e2
  have hi2 : InstAt D H2 l.b s.cat t := ⟨⟨l, rfl, hI.mono e02⟩, wi⟩
  show tSeq _ _ _ [some (.ref L.a), some (.ref q), some (.ref l.b), some (.ref p), none, none, none, none, none] H2
  have anyv : ((w.map pairL).any fun l => !Fc02.isRow s.cat t (l.getD 0 0) (l.getD 1 0)) = !w.all fun x => Fc02.isRow s.cat t x.1 x.2 := by
    rw [List.any_map, ← any_not]
    rfl
  have lk := e_lacks_a_row (D := D) (ls := w.map pairL) (σ := [some (.ref L.a), some (.ref q), some (.ref l.b), some (.ref p), none, none, none, none, none]) (ta := tVar 2) (tb := tVar 3) hi2 h2 hP (fun x hx => by obtain ⟨y, _, rfl⟩ := List.mem_map.mp hx; show 2 ≤ 2; decide) (ev_var rfl) (ev_var rfl)
  rw [anyv] at lk
  refine q_when (et_B lk) (fun hb H3 e3 => ?_) (fun hb H3 e3 => ?_)
  · have z : w.all (fun x => Fc02.isRow s.cat t x.1 x.2) = false := not_true hb
    rw [if_pos z] at kont
    exact ret_one kont hs hm (e02.trans e3) ev_c rfl
  · have z : w.all (fun x => Fc02.isRow s.cat t x.1 x.2) = true := by simpa using hb
    rw [if_neg (by rw [z]; decide)] at kont
    have e03 := e02.trans e3
    have hi3 := hi2.mono e3
    refine q_as (t_lc (wi := iList D.K (tVar 3)) ⟨_, rfl, p, rfl, ⟨_, sq_of (e3 _ _ h2)⟩, ?_⟩)
    have zl : (listsV (w.map pairL)).length = w.length := by rw [listsV, List.length_map, List.length_map]
    refine lcP_given (K := D.K) (fun _ => true) (fun y => kN (at_ t (w.getD y (0, 0)))) (sq_of (e3 _ _ h2)) (hP.mono e3) (fun x hx => ?_) (by rw [zl]; omega) (fun _ _ => rfl) (fun _ _ _ _ _ _ => et_yes) (fun y a b H4 e4 hy _ => ?_) ?_
    · obtain ⟨y, hy, rfl⟩ := List.mem_map.mp hx
      obtain ⟨v, _, rfl⟩ := List.mem_map.mp hy
      rfl
    · have yl : y < w.length := by rw [← zl]; exact (List.getElem?_eq_some_iff.mp hy).1
      have wy : w[y]? = some (w.getD y (0, 0)) := by rw [List.getD_eq_getElem?_getD, List.getElem?_eq_getElem yl]; rfl
      rw [listsV, List.getElem?_map, List.getElem?_map, wy] at hy
      have hy : [kN (w.getD y (0, 0)).1, kN (w.getD y (0, 0)).2] = [a, b] := Option.some.inj hy
      generalize w.getD y (0, 0) = v at hy
      injection hy with h1 h2
      injection h2 with h2 _
      subst h1 h2
      exact e_place_of_row (hi3.mono e4) (ev_var rfl) (ev_var rfl) (ev_var rfl)
    · rw [zl, given_all w _ _ (fun x => kN (at_ t x)) (fun _ _ _ => rfl) fun y x hx => by rw [List.getD_eq_getElem?_getD, hx]; rfl]
      intro o H4 ho e4 h4
      have h4 : H4 o = some (.lst ((w.map (at_ t)).map kN)) := by rw [List.map_map]; exact h4
      have e04 := e03.trans e4
      have hs4 := hs.mono e04
      show tSeq _ _ _ [some (.ref L.a), some (.ref q), some (.ref l.b), some (.ref p), some (.ref o), none, none, none, none] H4
      refine q_as (t_call (ea_cons (e_category T hs4 (ev_var rfl)) (ea_cons (ev_var rfl) (ea_cons (ev_var rfl) ea_nil))) fun H5 e5 => ⟨L.ca, l.b, o, s.cat, t, w.map (at_ t), rfl, hs4.catAt.mono e5, ⟨⟨l, rfl, hI.mono (e04.trans e5)⟩, wi⟩, e5 _ _ h4, by rw [List.length_map]; omega, fun b H6 rs hb e6 h6 hR => ?_⟩)
      have e06 := (e04.trans e5).trans e6
      rw [← reached_eq hs.wc R fun x hx => place_of_isRow (List.all_eq_true.mp z x hx)] at hR
      have rl : (rs.map V.ref).length = (Fc02.reached s.cat t w).length := by rw [List.length_map, hR.1, List.length_map]
      have p6 : (Fc02.reached s.cat t w).length ≤ 6 := by
        have a := List.length_filter_le (fun p => w.any fun q => (Fc02.all s.cat).any fun f => Fc02.from_ s.cat f == q.1 && (Fc02.to_ s.cat f == p.1 && Fc02.go s.cat t f q.2 == p.2)) (Fc02.places s.cat t)
        have b := places_length (c := s.cat) (t := t) wi.sz
        have d := wi.tot
        show (List.filter _ _).length ≤ 6
        omega
      generalize Fc02.reached s.cat t w = rc at kont hR rl p6
      show tSeq _ _ _ [some (.ref L.a), some (.ref q), some (.ref l.b), some (.ref p), some (.ref o), none, none, some (.ref b), none] H6
      have zz := ev_len (K := D.K) (ev_var (H := H6) (σ := [some (.ref L.a), some (.ref q), some (.ref l.b), some (.ref p), some (.ref o), none, none, some (.ref b), none]) (i := 7) rfl) (sq_of h6)
      rw [rl] at zz
      refine q_asgL (el_lst (ea_cons zz ea_nil) (by show 1 ≤ 100000; decide)) fun r H7 hr e7 h7 => ?_
      have rb : b ≠ r := fun v => by rw [← v, h6] at hr; cases hr
      refine q_forL (K := D.K) (xs := rs.map V.ref) (ev_var rfl) (sq_of (e7 _ _ h6)) (fun y σ' H' => ∃ v5 v6, σ' = [some (.ref L.a), some (.ref q), some (.ref l.b), some (.ref p), some (.ref o), v5, v6, some (.ref b), some (.ref r)] ∧ Ex H H' ∧ H' b = some (.lst (rs.map V.ref)) ∧ Pts H' .tup rs (rc.map pairV) ∧ H' r = some (.lst (kN rc.length :: ((rc.take y).flatMap fun x => [x.1, x.2]).map kN))) ?_ ?_ ?_ ?_
      · intro H8 e8
        exact ⟨none, none, rfl, (e06.trans e7).trans e8, (e7.trans e8) _ _ h6, hR.mono (e7.trans e8), e8 _ _ h7⟩
      · rintro y σ' H' _ ⟨v5, v6, rfl, _, hb, _⟩
        exact sq_of hb
      · rintro y x σ' H8 hx ⟨v5, v6, rfl, e8, hb8, hR8, hr8⟩
        obtain ⟨a, ha, rfl⟩ := map_get_inv hx
        have yl := (List.getElem?_eq_some_iff.mp ha).1
        rw [hR8.1, List.length_map] at yl
        obtain ⟨v, hv⟩ : ∃ v, rc[y]? = some v := ⟨_, List.getElem?_eq_getElem yl⟩
        have hat : H8 a = some (.tup [kN v.1, kN v.2]) := hR8.2 y a _ ha (by rw [List.getElem?_map, hv]; rfl)
        refine g_pair hat ?_
        have fl := flat_pairs (rc.take y)
        rw [List.length_take] at fl
        refine s_extL (K := D.K) (ys := [kN v.1, kN v.2]) hr8 (ev_var rfl) (el_lst (ea_cons (ev_var rfl) (ea_cons (ev_var rfl) ea_nil)) (by show 2 ≤ 100000; decide)) (by rw [List.length_cons, List.length_map, fl]; show _ + 2 ≤ _; omega) fun H9 e9 => ?_
        refine ⟨some (kN v.1), some (kN v.2), rfl, Ex.mut (e8.trans e9) (fresh_back e06 hr), by rw [upd_ne rb]; exact e9 _ _ hb8, (hR8.mono e9).tup_upd (e9 _ _ hr8), ?_⟩
        rw [upd_same, take_succ_of hv, List.flatMap_append, List.map_append]
        rfl
      · rintro σ' H8 ⟨v5, v6, rfl, e8, hb8, hR8, hr8⟩
        rw [rl, List.take_length] at hr8
        refine s_ret (ev_var rfl) fun H9 e9 => kont.same hs hm (e8.trans e9) (fresh_back e06 hr) ?_
        rw [List.map_cons, ints_kN]
        exact e9 _ _ hr8
theorem el_catLL {σ : L2.St} {ta tb : TE} {xs ys : List V} (ha : EvL ta σ H xs) (hb : EvL tb σ H ys) (hz : xs.length + ys.length ≤ 100000) : EvL (tOp rCat ta tb) σ H (xs ++ ys) := fun H1 e Q q =>
  ha H1 e _ fun l H2 _ e2 hl => hb H2 (e.trans e2) _ fun b H3 _ e3 hb => ⟨l, b, xs, ys, rfl, rfl, e3 _ _ hl, hb, sz_of hz, fun p hp => q p _ (fresh_back (e2.trans e3) hp) ((e2.trans e3).trans (Ex.new hp)) upd_same⟩
theorem ev_lenSet {σ : L2.St} {ta : TE} {p : Addr} {l : List Nat} (ha : Ev ta σ H (.ref p)) (hp : H p = some (.lst (l.map kN))) (hz : l.length ≤ 1000) : Ev (tLenSetD D.K ta) σ H (.int ((distinct (l.map fun n : Nat => (n : Int))).length : Nat)) := fun H1 e Q q =>
  ha H1 e _ fun H2 e2 => ⟨p, l.map fun n : Nat => (n : Int), rfl, by rw [← map_kN]; exact sq_of ((e.trans e2) _ _ hp), by rw [List.length_map]; exact hz, q H2 e2⟩
theorem heads_eq (c : Fc02.Cat) (t : Fc02.Inst) : headsOf (firstsF c t) = heads c t := by
  unfold headsOf heads firstOf
  rw [firstsF_len]
theorem mem_firstsF {c : Fc02.Cat} {t : Fc02.Inst} {v : Nat} : v ∈ firstsF c t ↔ ∃ i, i < Fc02.total t ∧ firstOf c t i = v := by
  constructor
  · intro h
    obtain ⟨i, hi, e⟩ := List.getElem_of_mem h
    refine ⟨i, by rw [← firstsF_len c t]; exact hi, ?_⟩
    unfold firstOf
    rw [List.getD_eq_getElem?_getD, List.getElem?_eq_getElem hi, e]
    rfl
  · rintro ⟨i, hi, e⟩
    have hi : i < (firstsF c t).length := by rw [firstsF_len]; exact hi
    have q := getD_some hi
    unfold firstOf at e
    rw [e] at q
    exact List.mem_of_getElem? q
theorem count_heads {c : Fc02.Cat} {t : Fc02.Inst} (W : WC c) (hs : t.size.length = c.n) (R : Right c t) : (distinct ((firstsF c t).map fun n : Nat => (n : Int))).length = (heads c t).length := by
  have a := distinct_nodup ((firstsF c t).map fun n : Nat => (n : Int))
  have b : ((heads c t).map fun n : Nat => (n : Int)).Nodup := by
    have : (heads c t).Nodup := List.Nodup.sublist List.filter_sublist List.nodup_range
    exact List.Pairwise.map _ (fun x y h e => h (by omega)) this
  have p : (distinct ((firstsF c t).map fun n : Nat => (n : Int))).Perm ((heads c t).map fun n : Nat => (n : Int)) := (List.perm_ext_iff_of_nodup a b).mpr fun k => by
    rw [mem_distinct, List.mem_map, List.mem_map]
    constructor
    · rintro ⟨v, hv, e⟩
      obtain ⟨i, hi, rfl⟩ := mem_firstsF.mp hv
      exact ⟨_, first_mem W hs R hi, e⟩
    · rintro ⟨v, hv, e⟩
      obtain ⟨h1, h2⟩ := mem_heads.mp hv
      exact ⟨v, mem_firstsF.mpr ⟨v, h1, h2.symm⟩, e⟩
  rw [p.length_eq, List.length_map]
theorem pure_answer_pieces (T : Txt D mg) (h : sp_answer_pieces D vs H Q E) : t_answer_pieces D (En Q) (start n_answer_pieces vs) H := by
  obtain ⟨L, s, m, q, ns, kk, rfl, hs, hm, m1, hq, hcl, ⟨n40, nd0⟩, kont⟩ := h
  obtain ⟨i, rfl, i3, rfl⟩ := cl_pieces_inv hcl
  obtain ⟨l, t, hl, ht, hI, wi, nd⟩ := hs.get i3
  have c : (Fc02.isCat s.cat && [i].all (rightAt s)) = true := need_right nd0
  have st0 : Fc02.step s (.pieces i) = (s, ((Fc02.firsts s.cat t).length : Int) :: Fc02.ints ((Fc02.places s.cat t).map fun p => ((Fc02.firsts s.cat t).findIdx? fun q => (Fc02.piece s.cat t q).contains p).getD 0)) :=
    one_eq (f := fun c t => ((Fc02.firsts c t).length : Int) :: Fc02.ints ((Fc02.places c t).map fun p => ((Fc02.firsts c t).findIdx? fun q => (Fc02.piece c t q).contains p).getD 0)) ht c
  rw [st0] at kont
  obtain ⟨ic, R⟩ := right_one ht c
  have W := hs.wc
  have t6 := wi.tot
  have fl := firstsF_len s.cat t
  refine q_as (t_call (ea_cons (e_category T hs (ev_var rfl)) (ea_cons (e_instance T hs (ev_var rfl) (e_num (k := 0) (ev_var rfl) hq rfl rfl) hl) ea_nil)) fun H1 e1 => ⟨L.ca, l.b, s.cat, t, rfl, hs.catAt.mono e1, ⟨⟨l, rfl, hI.mono e1⟩, wi⟩, R, fun p H2 hp e2 h2 => ?_⟩)
  have e02 := e1.trans e2
  show tRet _ _ [some (.ref L.a), some (.ref q), some (.ref p)] H2
  have hm2 : ∀ v, v ∈ firstsF s.cat t → v ∈ headsOf (firstsF s.cat t) := fun v hv => by
    obtain ⟨j, hj, rfl⟩ := mem_firstsF.mp hv
    rw [heads_eq]
    exact first_mem W wi.sz R hj
  have pn : EvL (tCall (sp_piece_numbers D) [] C8.E0 (tCons (tVar 2) tNil)) [some (.ref L.a), some (.ref q), some (.ref p)] H2 (((firstsF s.cat t).map (ixOf (headsOf (firstsF s.cat t)))).map kN) :=
    el_call (ea_cons (ev_var rfl) ea_nil) fun H3 e3 Q k E => ⟨p, firstsF s.cat t, rfl, e3 _ _ h2, by omega, hm2, k⟩
  refine s_retL (el_catLL (el_lst (ea_cons (ev_lenSet (D := D) (ev_var rfl) h2 (by omega)) ea_nil) (by show 1 ≤ 100000; decide)) pn (by rw [List.length_map, List.length_map, fl]; show 1 + _ ≤ _; omega)) fun r H3 hr e3 h3 => ?_
  refine kont.same hs hm (e02.trans e3) (fresh_back e02 hr) ?_
  rw [h3, count_heads W wi.sz R, heads_eq, List.map_cons, ints_kN, firsts_eq W wi.sz R, List.length_map]
  have eq : (firstsF s.cat t).map (ixOf (heads s.cat t)) = (Fc02.places s.cat t).map fun p => (((heads s.cat t).map (pl s.cat t)).findIdx? fun q => (Fc02.piece s.cat t q).contains p).getD 0 := by
    rw [← map_range (Fc02.places s.cat t) _ (fun j => ixOf (heads s.cat t) (firstOf s.cat t j)) fun j x hx => ?_, places_length (c := s.cat) wi.sz, ← fl]
    · exact (map_range (firstsF s.cat t) _ _ fun j x hx => by unfold firstOf; rw [List.getD_eq_getElem?_getD, hx]; rfl).symm
    · have hj : j < Fc02.total t := by rw [← places_length (c := s.cat) wi.sz]; exact (List.getElem?_eq_some_iff.mp hx).1
      rw [pl_get wi.sz hj] at hx
      cases hx
      rw [← firsts_eq W wi.sz R, piece_no W wi.sz R hj]
      obtain ⟨a, ha, hb, _⟩ := ixOf_mem (first_mem W wi.sz R hj)
      rw [ha, hb]
      rfl
  rw [eq]
  rfl
end
end AR
set_option Elab.async false
set_option linter.all false
set_option maxRecDepth 100000
set_option maxHeartbeats 4000000
/-! Promise gives reading: arrows, mapOf, shows. -/
namespace AR
open PySem PySem.Spec PyProof.Rows L2 Evl
theorem StX.e_il {D : Ad} {H : Hp} {L : SL} {s : Fc02.St} (hs : StX D H L s) : L.e ≠ L.il := fun z => by
  have a := hs.cat.le
  rw [z, hs.li] at a
  injection a with a
  injection a with a
  have n1 := hs.wc.n1
  have ln := hs.wc.len
  obtain ⟨r, r0⟩ : ∃ r, L.refs[0]? = some r := ⟨_, List.getElem?_eq_getElem (by rw [hs.cat.rl]; omega)⟩
  obtain ⟨xs, w⟩ := hs.cat.tup (List.mem_of_getElem? r0)
  obtain ⟨l, t, hl, _, hI, _⟩ := hs.get (i := 0) (by decide)
  have e : (L.ls.map fun l => V.ref l.b)[0]? = (L.refs.map V.ref)[0]? := by rw [a]
  rw [List.getElem?_map, List.getElem?_map, hl, r0] at e
  have e : V.ref l.b = V.ref r := Option.some.inj e
  injection e with e
  rw [← e, hI.ob] at w
  cases w
/-- another instance in the place of one -/
theorem StX.swap {D : Ad} {H H' : Hp} {L : SL} {s : Fc02.St} {i : Nat} {l' : IL} {t' : Fc02.Inst} (hs : StX D H L s) (i3 : i < 3) (ex : Ex H H') (hI : InstX D H' l' s.cat t') (w : WI s.cat t') (nd : (fp l').Nodup) (new : ∀ y, y ∈ fp l' → H y = none) (nb : H l'.b = none) :
    StX D (upd H' L.il (.lst ((L.ls.set i l').map fun l => V.ref l.b))) { L with ls := L.ls.set i l' } (Fc02.withInst s i t') := by
  have hs' := hs.mono ex
  have fr : Fr (fun b => b = L.il) H' (upd H' L.il (.lst ((L.ls.set i l').map fun l => V.ref l.b))) := Fr.upd (F := fun b => b = L.il) (Fr.of_ex (Ex.refl _)) (Or.inl rfl)
  have hil := hs'.li
  have ne : ∀ {y : Addr} {u : HO}, H' y = some u → (∀ xs, u ≠ .lst xs) → ¬ y = L.il := fun h n v => by
    rw [v, hil] at h
    exact n _ (Option.some.inj h).symm
  have at_ : ∀ j k, (L.ls.set i l')[j]? = some k → (j = i ∧ k = l') ∨ (j ≠ i ∧ L.ls[j]? = some k) := fun j k h => by
    rw [List.getElem?_set] at h
    by_cases z : i = j
    · rw [if_pos z, if_pos (by rw [hs.n3]; exact i3)] at h
      exact Or.inl ⟨z.symm, (Option.some.inj h).symm⟩
    · rw [if_neg z] at h
      exact Or.inr ⟨Ne.symm z, h⟩
  have lists : ∀ j k, L.ls[j]? = some k → ∀ y, y ∈ fp k → ∃ xs, H y = some (.lst xs) := fun j k hk y hy => by
    have j3 : j < 3 := by rw [← hs.n3]; exact (List.getElem?_eq_some_iff.mp hk).1
    obtain ⟨k', t, h1, h2, q, _⟩ := hs.get j3
    rw [hk] at h1; cases h1
    exact q.lst hy
  refine ⟨fr.keep _ _ hs'.ob (ne hs'.ob fun xs v => by cases v), hs'.cat.frame fr (ne hs'.cat.ob fun xs v => by cases v) hs.e_il (fun r hr => ?_) (ne hs'.cat.di fun xs v => by cases v), hs.wc, upd_same, by rw [List.length_set]; exact hs.n3, by show (s.insts.set i t').length = 3; rw [List.length_set]; exact hs.i3, fun j k u hk hu => ?_, ?_, fun k hk => ?_⟩
  · obtain ⟨xs, v⟩ := hs'.cat.tup hr
    exact ne v fun xs v => by cases v
  · have hu : (s.insts.set i t')[j]? = some u := hu
    rcases at_ j k hk with ⟨rfl, rfl⟩ | ⟨n, hk⟩
    · rw [List.getElem?_set, if_pos rfl, if_pos (by rw [hs.i3]; exact i3)] at hu
      cases hu
      refine ⟨hI.frame fr (fun z => ?_) fun y hy z => ?_, w, nd⟩
      · rw [z, hs.li] at nb; cases nb
      · have := new y hy
        rw [z, hs.li] at this; cases this
    · rw [List.getElem?_set, if_neg (Ne.symm n)] at hu
      obtain ⟨q1, q2, q3⟩ := hs'.inst j k u hk hu
      exact ⟨q1.frame fr (ne q1.ob fun xs v => by cases v) fun y hy z => (hs.off k (List.mem_of_getElem? hk)).2 (by rw [← z]; exact hy), q2, q3⟩
  · intro j1 j2 k1 k2 hj h1 h2 y hy hz
    rcases at_ j1 k1 h1 with ⟨rfl, rfl⟩ | ⟨n1, g1⟩
    · rcases at_ j2 k2 h2 with ⟨rfl, rfl⟩ | ⟨n2, g2⟩
      · exact hj rfl
      · obtain ⟨xs, v⟩ := lists j2 k2 g2 y hz
        rw [new y hy] at v; cases v
    · rcases at_ j2 k2 h2 with ⟨rfl, rfl⟩ | ⟨n2, g2⟩
      · obtain ⟨xs, v⟩ := lists j1 k1 g1 y hy
        rw [new y hz] at v; cases v
      · exact hs.sep j1 j2 k1 k2 hj g1 g2 y hy hz
  · rcases List.mem_or_eq_of_mem_set hk with z | z
    · exact hs.off k z
    · rw [z]
      refine ⟨fun v => ?_, fun v => ?_⟩
      · have q : H L.e = none := new _ v
        rw [hs.cat.le] at q; cases q
      · have q : H L.il = none := new _ v
        rw [hs.li] at q; cases q
section
variable {D : Ad} {mg : Str → Option Value} {vs : List V} {H : Hp} {Q : VK} {E : XK}
theorem cl_arrows_inv {ns : List Nat} {k : Fc02.Call} (h : cl_arrows ns = some k) : ∃ i x, ns = [i, x] ∧ i < 3 ∧ k = .arrows i x := by
  unfold cl_arrows at h
  split at h
  · split at h
    · rename_i q; cases h; exact ⟨_, _, rfl, q, rfl⟩
    · cases h
  · cases h
theorem cl_mapOf_inv {ns : List Nat} {k : Fc02.Call} (h : cl_mapOf ns = some k) : ∃ i x r, ns = [i, x, r] ∧ i < 3 ∧ k = .mapOf i x r := by
  unfold cl_mapOf at h
  split at h
  · split at h
    · rename_i q; cases h; exact ⟨_, _, _, rfl, q, rfl⟩
    · cases h
  · cases h
theorem cl_shows_inv {ns : List Nat} {k : Fc02.Call} (h : cl_shows ns = some k) : ∃ i, ns = [i] ∧ i < 3 ∧ k = .shows i := by
  unfold cl_shows at h
  split at h
  · split at h
    · rename_i q; cases h; exact ⟨_, rfl, q, rfl⟩
    · cases h
  · cases h
theorem pure_answer_arrows (T : Txt D mg) (h : sp_answer_arrows D vs H Q E) : t_answer_arrows D (En Q) (start n_answer_arrows vs) H := by
  obtain ⟨L, s, m, q, ns, kk, rfl, hs, hm, m1, hq, hcl, ⟨n40, nd0⟩, kont⟩ := h
  obtain ⟨i, x, rfl, i3, rfl⟩ := cl_arrows_inv hcl
  obtain ⟨l, t, hl, ht, hI, wi, nd⟩ := hs.get i3
  have z : Fc02.isCat s.cat = true := need_cat nd0
  have st0 : Fc02.step s (.arrows i x) = if s.cat.n ≤ x then (s, [-1]) else if Fc02.MOST < Fc02.total (Fc02.arrowsOf s.cat x) then (s, [-5]) else (Fc02.withInst s i (Fc02.arrowsOf s.cat x), [(Fc02.total (Fc02.arrowsOf s.cat x) : Int)]) := by
    show (match s.insts[i]? with | none => _ | some _ => _) = _
    rw [ht]
    show (if Fc02.isCat s.cat = false then _ else _) = _
    rw [if_neg (by rw [z]; decide)]
  rw [st0] at kont
  refine q_asg (e_num (k := 1) (ev_var rfl) hq rfl rfl) fun H1 e1 => ?_
  have hs1 := hs.mono e1
  refine q_when (et_not (et_B (e_has_thing hs1.catAt (e_category T hs1 (ev_var rfl)) (ev_var rfl)))) (fun hb H2 e2 => ?_) (fun hb H2 e2 => ?_)
  · have c : s.cat.n ≤ x := by simpa using hb
    rw [if_pos c] at kont
    exact ret_one kont hs hm (e1.trans e2) ev_c rfl
  · have c : x < s.cat.n := by simpa using hb
    rw [if_neg (by omega)] at kont
    have e02 := e1.trans e2
    have hs2 := hs.mono e02
    refine q_as (t_call (ea_cons (e_category T hs2 (ev_var rfl)) (ea_cons (ev_var rfl) ea_nil)) fun H3 e3 => ⟨L.ca, s.cat, x, rfl, hs2.catAt.mono e3, fit_of_cat z, fun H4 l' hI' nd' new' nb' e4 => ?_⟩)
    have e03 := e02.trans e3
    have e04 := e03.trans e4
    show tSeq _ _ _ [some (.ref L.a), some (.ref q), some (kN x), some (.ref l'.b)] H4
    refine q_when (et_test (ev_gt (j := 6) (e_row_countX hI' (ev_var rfl)) ev_c)) (fun hb H5 e5 => ?_) (fun hb H5 e5 => ?_)
    · have d : Fc02.MOST < Fc02.total (Fc02.arrowsOf s.cat x) := of_decide_eq_true hb
      rw [if_pos d] at kont
      exact ret_one kont hs hm (e04.trans e5) ev_c rfl
    · have d : ¬ Fc02.MOST < Fc02.total (Fc02.arrowsOf s.cat x) := of_decide_eq_false hb
      rw [if_neg d] at kont
      have w' := wi_arrowsOf hs.wc (x := x) (Nat.le_of_not_lt d)
      have e05 := e04.trans e5
      have hs5 := hs.mono e05
      have hI5 := hI'.mono e5
      have new : ∀ y, y ∈ fp l' → H y = none := fun y hy => fresh_back e03 (new' y hy)
      have nb : H l'.b = none := fresh_back e03 nb'
      refine q_setL (j := i) (v := .ref l'.b) hs5.li (ev_var rfl) (ev_fld (ev_var rfl) hs5.ob T.cl_Line T.na_instances lineF_instances) (e_num (k := 0) (ev_var rfl) (e05 _ _ hq) rfl rfl) (by rw [List.length_map, hs.n3]; exact i3) fun H6 e6 => ?_
      have setm : (L.ls.map fun l => V.ref l.b).set i (.ref l'.b) = (L.ls.set i l').map fun l => V.ref l.b := by rw [List.map_set]
      rw [setm]
      have e06 := e05.trans e6
      have S := hs.swap i3 e06 (hI5.mono e6) w' nd' new nb
      have hI7 : InstX D (upd H6 L.il (.lst ((L.ls.set i l').map fun l => V.ref l.b))) l' s.cat (Fc02.arrowsOf s.cat x) := (S.inst i l' _ (by show (L.ls.set i l')[i]? = _; rw [List.getElem?_set, if_pos rfl, if_pos (by rw [hs.n3]; exact i3)]) (by show (s.insts.set i _)[i]? = _; rw [List.getElem?_set, if_pos rfl, if_pos (by rw [hs.i3]; exact i3)])).1
      refine s_retL (el_lst (ea_cons (e_row_countX hI7 (ev_var rfl)) ea_nil) (by show 1 ≤ 100000; decide)) fun r H7 hr e7 h7 => ?_
      have fr : Fr (foot L) H (upd H6 L.il (.lst ((L.ls.set i l').map fun l => V.ref l.b))) := (Fr.of_ex e06).upd (Or.inl (Or.inr (Or.inr (Or.inr (Or.inl rfl)))))
      refine kont H7 { L with ls := L.ls.set i l' } r (S.mono e7) rfl (Nat.le_succ_of_le hm) (fun y hy => ?_) (fr.ex e7) (fr.back r hr) h7
      rcases hy with v | v | v | v | ⟨k, hk, v⟩
      · exact Or.inl (Or.inl v)
      · exact Or.inl (Or.inr (Or.inl v))
      · exact Or.inl (Or.inr (Or.inr (Or.inl v)))
      · exact Or.inl (Or.inr (Or.inr (Or.inr (Or.inl v))))
      · rcases List.mem_or_eq_of_mem_set hk with u | u
        · exact Or.inl (Or.inr (Or.inr (Or.inr (Or.inr ⟨k, u, v⟩))))
        · rw [u] at v
          exact Or.inr (new y v)
theorem pure_answer_map_of (T : Txt D mg) (h : sp_answer_map_of D vs H Q E) : t_answer_map_of D (En Q) (start n_answer_map_of vs) H := by
  obtain ⟨L, s, m, q, ns, kk, rfl, hs, hm, m1, hq, hcl, ⟨n40, nd0⟩, kont⟩ := h
  obtain ⟨i, x, r, rfl, i3, rfl⟩ := cl_mapOf_inv hcl
  obtain ⟨l, t, hl, ht, hI, wi, nd⟩ := hs.get i3
  have c : (Fc02.isCat s.cat && [i].all (rightAt s)) = true := need_right nd0
  have st0 : Fc02.step s (.mapOf i x r) = (s, if Fc02.isRow s.cat t x r = false then [-1] else Fc02.ints (Fc02.mapOf s.cat t x r)) :=
    one_eq (f := fun c t => if Fc02.isRow c t x r = false then [-1] else Fc02.ints (Fc02.mapOf c t x r)) ht c
  rw [st0] at kont
  refine q_asg (e_instance T hs (ev_var rfl) (e_num (k := 0) (ev_var rfl) hq rfl rfl) hl) fun H1 e1 => ?_
  refine q_asg (e_num (k := 1) (ev_var rfl) (e1 _ _ hq) rfl rfl) fun H2 e2 => ?_
  have e02 := e1.trans e2
  refine q_asg (e_num (k := 2) (ev_var rfl) (e02 _ _ hq) rfl rfl) fun H3 e3 => ?_
  have e03 := e02.trans e3
  have hi3 : InstAt D H3 l.b s.cat t := ⟨⟨l, rfl, hI.mono e03⟩, wi⟩
  refine q_when (et_not (et_B (e_is_row hi3 (ev_var rfl) (ev_var rfl) (ev_var rfl)))) (fun hb H4 e4 => ?_) (fun hb H4 e4 => ?_)
  · rw [if_pos (not_true hb)] at kont
    exact ret_one kont hs hm (e03.trans e4) ev_c rfl
  · have z : Fc02.isRow s.cat t x r = true := by simpa using hb
    rw [if_neg (by rw [z]; decide)] at kont
    have e04 := e03.trans e4
    have hs4 := hs.mono e04
    refine s_retL (xs := (Fc02.mapOf s.cat t x r).map kN) (el_call (ea_cons (e_category T hs4 (ev_var rfl)) (ea_cons (ev_var rfl) (ea_cons (ev_var rfl) (ea_cons (ev_var rfl) ea_nil)))) fun H5 e5 Q k E => ⟨L.ca, l.b, s.cat, t, x, r, rfl, hs4.catAt.mono e5, (hi3.mono e4).mono e5, (place_of_isRow z).2, k⟩) fun p H5 hp e5 h5 => ?_
    refine kont.same hs hm (e04.trans e5) (fresh_back e04 hp) ?_
    rw [ints_kN]
    exact h5
theorem shows_len {c : Fc02.Cat} {t : Fc02.Inst} (w : WI c t) (l : List Nat) (hl : ∀ f, f ∈ l → f ∈ others c) : (l.flatMap fun f => t.tab.getD f []).length ≤ l.length * 6 := by
  induction l with
  | nil => simp
  | cons f l ih =>
    have a := ih fun g hg => hl g (List.mem_cons_of_mem _ hg)
    obtain ⟨h1, h2⟩ := mem_others.mp (hl f List.mem_cons_self)
    have b := w.rowl f h1 h2
    have d := rows_small w (Fc02.from_ c f)
    rw [List.flatMap_cons, List.length_append, List.length_cons, Nat.add_mul]
    omega
theorem pure_answer_shows (T : Txt D mg) (h : sp_answer_shows D vs H Q E) : t_answer_shows D (En Q) (start n_answer_shows vs) H := by
  obtain ⟨L, s, m, q, ns, kk, rfl, hs, hm, m1, hq, hcl, ⟨n40, nd0⟩, kont⟩ := h
  obtain ⟨i, rfl, i3, rfl⟩ := cl_shows_inv hcl
  obtain ⟨l, t, hl, ht, hI, wi, nd⟩ := hs.get i3
  have W := hs.wc
  have ol := others_len W
  have st0 : Fc02.step s (.shows i) = (s, Fc02.ints (t.size ++ (others s.cat).flatMap fun f => t.tab.getD f [])) := by
    show (s, match s.insts[i]? with | none => _ | some t => _) = _
    rw [ht]
    show (s, Fc02.ints (t.size ++ (others s.cat).flatMap fun f => (List.range (Fc02.rows t (Fc02.from_ s.cat f))).map (Fc02.go s.cat t f))) = _
    rw [flatMap_ext fun f hf => shows_row wi hf]
  rw [st0] at kont
  refine q_asg (e_instance T hs (ev_var rfl) (e_num (k := 0) (ev_var rfl) hq rfl rfl) hl) fun H1 e1 => ?_
  have hI1 := hI.mono e1
  refine q_asgL (el_list (K := D.K) (ev_fld (ev_var rfl) hI1.ob T.cl_Instance T.na_counts instF_counts) (sq_of hI1.lc)) fun r H2 hr e2 h2 => ?_
  have e02 := e1.trans e2
  have hs2 := hs.mono e02
  refine q_forNL (K := D.K) (e_others hs2.catAt (e_category T hs2 (ev_var rfl))) (fun z j σ' H' => ∃ v4, σ' = [some (.ref L.a), some (.ref q), some (.ref l.b), some (.ref r), v4] ∧ Ex H H' ∧ z ≠ r ∧ H' z = some (.lst ((others s.cat).map kN)) ∧ H' r = some (.lst ((t.size ++ ((others s.cat).take j).flatMap fun f => t.tab.getD f []).map kN))) ?_ ?_ ?_ ?_
  · intro z H3 hz e3 h3
    refine ⟨none, rfl, e02.trans e3, fun v => ?_, h3, ?_⟩
    · rw [v, h2] at hz; cases hz
    · rw [List.take_zero, List.flatMap_nil, List.append_nil]
      exact e3 _ _ h2
  · rintro z j σ' H' _ ⟨v4, rfl, _, _, hz, _⟩
    exact sq_of hz
  · rintro z j x σ' H3 hx ⟨v4, rfl, e3, zr, hz3, hr3⟩
    obtain ⟨f, hf, rfl⟩ := map_get_inv hx
    have fo := mem_take_of hf
    obtain ⟨fn, fl⟩ := mem_others.mp fo
    have hI3 := hI.mono e3
    have hrf : l.rr[f]? = some (l.rr[f]'(by rw [hI.rl]; exact fl)) := List.getElem?_eq_getElem _
    have sl := shows_len wi ((others s.cat).take j) fun g hg => List.mem_of_mem_take hg
    rw [List.length_take] at sl
    have rw1 := wi.rowl f fn fl
    have rw2 := rows_small wi (Fc02.from_ s.cat f)
    have sz := wi.sz
    have n3 := W.n3
    refine s_ext (K := D.K) (ys := (t.tab.getD f []).map kN) hr3 (ev_var rfl) (ev_ixL (ev_fld (ev_var rfl) hI3.ob T.cl_Instance T.na_leads instF_leads) (ev_var rfl) hI3.ll (map_get hrf)) (hI3.rw f _ fn hrf) (by rw [List.length_map, List.length_append, List.length_map]; omega) fun H4 e4 => ?_
    refine ⟨some (kN f), rfl, Ex.mut (e3.trans e4) (fresh_back e1 hr), zr, by rw [upd_ne zr]; exact e4 _ _ hz3, ?_⟩
    rw [upd_same, take_succ_of hf, List.flatMap_append, ← List.append_assoc, List.map_append (l₂ := List.flatMap _ [f])]
    have e : ([f] : List Nat).flatMap (fun f => t.tab.getD f []) = t.tab.getD f [] := by simp
    rw [e]
  · rintro z σ' H3 ⟨v4, rfl, e3, zr, hz3, hr3⟩
    rw [List.length_map, List.take_length] at hr3
    refine s_ret (ev_var rfl) fun H4 e4 => kont.same hs hm (e3.trans e4) (fresh_back e1 hr) ?_
    rw [ints_kN]
    exact e4 _ _ hr3
end
end AR
set_option Elab.async false
set_option linter.all false
set_option maxRecDepth 100000
set_option maxHeartbeats 4000000
/-! The promises: the calls read, one behind another (stage 1's table). -/
namespace AR
open PySem PySem.Spec PyProof.Rows L2 Evl
def clOf : Nat → List Nat → Option Fc02.Call
  | 0 => cl_start | 1 => cl_arrow | 2 => cl_make | 3 => cl_rows | 4 => cl_set | 5 => cl_check | 6 => cl_maps | 7 => cl_nth | 8 => cl_fixed | 9 => cl_alike | 10 => cl_part | 11 => cl_pieces | 12 => cl_arrows | 13 => cl_mapOf | 14 => cl_shows | _ => fun _ => none
def An (D : Ad) : Addr → Sp → Prop := fun f sp => ∃ i, i < 15 ∧ f = D.fn i ∧ sp = spAns D i (clOf i)
def sp_call_length (D : Ad) : Sp := fun vs H Q _ => ∃ (a : Addr) (ns : List Nat) (place p n : Nat), vs = [.ref a, kN place] ∧ SqL D.K H a (ns.map kN) ∧ ns[place]? = some p ∧ p < 15 ∧ (hasRow p = true → ns[place + (1 + numsOf p)]? = some n) ∧ RetV (kN (if hasRow p = true then 1 + numsOf p + 1 + n else 1 + numsOf p)) H Q
def sp_lacks_an_instance (D : Ad) : Sp := fun vs H Q _ => ∃ (q : Addr) (is : List Nat), vs = [.ref q] ∧ H q = some (.lst (is.map kN)) ∧ RetV (.bl (is.any fun i => decide (3 ≤ i))) H Q
/-- a call's numbers behind its own -/
def restOf (p : Nat) (xs rs : List Nat) : List Nat := xs ++ if hasRow p = true then rs.length :: rs else []
def sp_answer_call (D : Ad) : Sp := fun vs H Q _ => ∃ (L : SL) (s : Fc02.St) (m : Nat) (q : Addr) (p : Nat) (xs rs : List Nat) (k : Fc02.Call), vs = [.ref L.a, .ref q] ∧ StX D H L s ∧ L.kvs.length ≤ m ∧ m ≤ 1000 ∧ H q = some (.lst ((p :: restOf p xs rs).map kN)) ∧ p < 15 ∧ xs.length = numsOf p ∧ rs.length ≤ 30 ∧ natCall p xs rs = some k ∧ AnsQ D H L (Fc02.step s k).1 (m + 1) (Fc02.step s k).2 Q
def spTop (K : PySem.W.Frag) : Sp := fun vs H Q _ => ∃ (a : Addr) (ns : List Nat) (raw : List (List (List Int))), vs = [.ref a] ∧ SqL K H a (ns.map kN) ∧ ns.length ≤ 1360 ∧ (∀ n, n ∈ ns → n < 4294967296) ∧ Asked (cst ns) raw ∧
  ∀ (H' : Hp) (r : Addr), H' r = some (.lst ((PyFc02.answers (cst ns)).map V.int)) → Q (.ref r) H'
def sp_answers (D : Ad) : Sp := spTop D.K
end AR
set_option Elab.async false
set_option linter.all false
set_option maxRecDepth 100000
set_option maxHeartbeats 4000000
/-! The readings of the defs (printed by gen.py). -/
namespace AR
open PySem PySem.Spec PyProof.Rows L2
abbrev n_call_length : List Str := ["calls", "place", "number", "length"]
def t_call_length (D : Ad) : TS :=
  (tSeq (tAsg (tOp (rIxL D.K) (tVar 0) (tVar 1)) (gName 2)) (tSeq (tAsg (tOp rAddI (tC (.int 1)) (tOp (rIxT D.K) (tOp (rIxT D.K) (tC (.ref D.calls)) (tVar 2)) (tC (.int 0)))) (gName 3)) (tSeq (tIfS (tB (tOp (rIxT D.K) (tOp (rIxT D.K) (tC (.ref D.calls)) (tVar 2)) (tC (.int 2)))) (tAsg (tOp rAddI (tOp rAddI (tVar 3) (tC (.int 1))) (tOp (rIxL D.K) (tVar 0) (tOp rAddI (tVar 1) (tVar 3)))) (gName 3)) tNext) (tRet (tVar 3)))))
abbrev n_lacks_an_instance : List Str := ["chosen", "i"]
def t_lacks_an_instance (D : Ad) : TS :=
  (tSeq (tFor (iList D.K (tVar 0)) (gName 1) (tIfS (tTest (tOp rGeI (tVar 1) (tC (.int (3))))) (tRet (tC (.bl true))) tNext)) (tRet (tC (.bl false))))
abbrev n_answer_call : List Str := ["line", "call", "number", "chosen", "answer"]
def t_answer_call (D : Ad) : TS :=
  (tSeq (tAsg (tOp (rIxL D.K) (tVar 1) (tC (.int 0))) (gName 2)) (tSeq (tAsg (tSl (rSlL D.K) (tVar 1) (tPart (tC (.int 1))) (tPart (tOp rAddI (tC (.int 1)) (tOp (rIxT D.K) (tOp (rIxT D.K) (tC (.ref D.calls)) (tVar 2)) (tC (.int 1)))))) (gName 3)) (tSeq (tIfS (tB (tCall (sp_lacks_an_instance D) [] C8.E0 (tCons (tVar 3) tNil))) (tRet (tLst (tCons (tC (.int (-2))) tNil))) tNext) (tSeq (tIfS (tNot (tB (tMeth D.cL "fulfils" (sp_fulfils D) [] C8.E0 (tVar 0) (tCons (tOp (rIxT D.K) (tOp (rIxT D.K) (tC (.ref D.calls)) (tVar 2)) (tC (.int 3))) (tCons (tVar 3) tNil))))) (tRet (tLst (tCons (tC (.int (-6))) tNil))) tNext) (tSeq (tAsg (tOp (rIxT D.K) (tOp (rIxT D.K) (tC (.ref D.calls)) (tVar 2)) (tC (.int 4))) (gName 4)) (tRet (tCallR 4 (An D) (tCons (tVar 0) (tCons (tSl (rSlL D.K) (tVar 1) (tPart (tC (.int 1))) tNoPart) tNil)))))))))
abbrev n_answers : List Str := ["calls", "line", "answered", "place", "behind", "answer"]
def t_answers (D : Ad) : TS :=
  (tSeq (tAsg (tMake D.cL (sp_init_Line D) [] C8.E0 tNil) (gName 1)) (tSeq (tAsg (tLst tNil) (gName 2)) (tSeq (tAsg (tC (.int 0)) (gName 3)) (tSeq (tWhile (tTest (tOp rLtI (tVar 3) (tCB (Evl.rLenS D.K) (tCons (tVar 0) tNil)))) (tSeq (tAsg (tOp rAddI (tVar 3) (tCall (sp_call_length D) [] C8.E0 (tCons (tVar 0) (tCons (tVar 3) tNil)))) (gName 4)) (tSeq (tAsg (tCall (sp_answer_call D) [] C8.E0 (tCons (tVar 1) (tCons (tSl (rSlL D.K) (tVar 0) (tPart (tVar 3)) (tPart (tVar 4))) tNil))) (gName 5)) (tSeq (tDrop (tBM D.K "list" rAppend (tVar 2) (tCons (tCB (Evl.rLenS D.K) (tCons (tVar 5) tNil)) tNil))) (tSeq (tDrop (tBM D.K "list" rExtend (tVar 2) (tCons (tVar 5) tNil))) (tAsg (tVar 4) (gName 3))))))) (tRet (tVar 2))))))
end AR
set_option Elab.async false
set_option linter.all false
set_option maxRecDepth 100000
set_option maxHeartbeats 4000000
/-! Promise gives reading: the calls read and answered. -/
namespace AR
open PySem PySem.Spec PyProof.Rows L2 Evl
theorem SqL.frame {K : PySem.W.Frag} {F : Addr → Prop} {H H' : Hp} {a : Addr} {xs : List V} (fr : Fr F H H') (h : SqL K H a xs) (n : ∀ o, H a = some o → ¬ F a) : SqL K H' a xs := by
  rcases h with (h | ⟨o, h⟩) | h
  · exact Or.inl (Or.inl (fr.keep _ _ h (n _ h)))
  · exact Or.inl (Or.inr ⟨o, fr.keep _ _ h (n _ h)⟩)
  · exact Or.inr h
section
variable {D : Ad} {mg : Str → Option Value} {H : Hp} {σ : L2.St} {ta tp : TE}
theorem e_tab (T : TableAt D) {p c : Nat} {v : V} {z : Int} (hp : Ev tp σ H (kN p)) (p15 : p < 15) (hv : [kN (numsOf p), kN (instsOf p), .bl (hasRow p), .str (needS (needOf p)), V.ref (D.fn p)][c]? = some v) (hz : (c : Int) = z) : Ev (tOp (rIxT D.K) (tOp (rIxT D.K) (tC (.ref D.calls)) tp) (tC (.int z))) σ H v := by
  subst hz
  obtain ⟨rows, rl, h1, h2⟩ := T.ex
  have hr : rows[p]? = some (rows[p]'(by rw [rl]; exact p15)) := List.getElem?_eq_getElem _
  exact ev_op (ev_op ev_c hp (rv_ixT (h1.sq H) (at_nat (map_get hr)))) ev_c (rv_ixT ((h2 p _ hr).sq H) (at_nat hv))
theorem e_ixS {K : PySem.W.Frag} {tb : TE} {a : Addr} {xs : List V} {i : Nat} {v : V} (ha : Ev ta σ H (.ref a)) (hb : Ev tb σ H (kN i)) (h : SqL K H a xs) (hx : xs[i]? = some v) : Ev (tOp (rIxL K) ta tb) σ H v := ev_op ha hb (rv_ixL h (at_nat hx))
end
section
variable {D : Ad} {mg : Str → Option Value} {vs : List V} {H : Hp} {Q : VK} {E : XK}
theorem len_call_length (h : sp_call_length D vs H Q E) : vs.length = 2 := by obtain ⟨_, _, _, _, _, rfl, _⟩ := h; rfl
theorem len_lacks_an_instance (h : sp_lacks_an_instance D vs H Q E) : vs.length = 1 := by obtain ⟨_, _, rfl, _⟩ := h; rfl
theorem len_answer_call (h : sp_answer_call D vs H Q E) : vs.length = 2 := by obtain ⟨_, _, _, _, _, _, _, _, rfl, _⟩ := h; rfl
theorem len_answers (h : sp_answers D vs H Q E) : vs.length = 1 := by obtain ⟨_, _, _, rfl, _⟩ := h; rfl
theorem pure_call_length (T : Txt D mg) (h : sp_call_length D vs H Q E) : t_call_length D (En Q) (start n_call_length vs) H := by
  obtain ⟨a, ns, place, p, n, rfl, ha, hp, p15, hn, k⟩ := h
  refine q_asg (e_ixS (ev_var rfl) (ev_var rfl) ha (map_get hp)) fun H1 e1 => ?_
  refine q_asg (v := kN (1 + numsOf p)) (ev_add (i := 1) ev_c (e_tab (c := 0) T.t_CALLS (ev_var rfl) p15 rfl rfl)) fun H2 e2 => ?_
  have e02 := e1.trans e2
  refine q_when (et_B (e_tab (c := 2) T.t_CALLS (ev_var rfl) p15 rfl rfl)) (fun hb H3 e3 => ?_) (fun hb H3 e3 => ?_)
  · rw [if_pos hb] at k
    have e03 := e02.trans e3
    refine s_asg (v := kN (1 + numsOf p + 1 + n)) (ev_add (ev_add (j := 1) (ev_var rfl) ev_c) (e_ixS (i := place + (1 + numsOf p)) (ev_var rfl) (ev_add (ev_var rfl) (ev_var rfl)) (ex_l e03 ha) (map_get (hn hb)))) fun H4 e4 => ?_
    exact s_ret (ev_var rfl) fun H5 e5 => k H5 ((e03.trans e4).trans e5)
  · rw [if_neg (by rw [hb]; decide)] at k
    exact s_ret (ev_var rfl) fun H4 e4 => k H4 ((e02.trans e3).trans e4)
theorem pure_lacks_an_instance (T : Txt D mg) (h : sp_lacks_an_instance D vs H Q E) : t_lacks_an_instance D (En Q) (start n_lacks_an_instance vs) H := by
  obtain ⟨q, is, rfl, hq, k⟩ := h
  refine q_forL (K := D.K) (ev_var rfl) (sq_of hq) (fun i σ' H' => ∃ v1, σ' = [some (.ref q), v1] ∧ Ex H H' ∧ ∀ m x, m < i → is[m]? = some x → ¬ 3 ≤ x) ?_ ?_ ?_ ?_
  · intro H1 e1
    exact ⟨none, rfl, e1, fun m x hm => by omega⟩
  · rintro i σ' H' _ ⟨v1, rfl, e1, _⟩
    exact sq_of (e1 _ _ hq)
  · rintro i x σ' H1 hx ⟨v1, rfl, e1, hm⟩
    obtain ⟨n, hn, rfl⟩ := map_get_inv hx
    show tIfS _ _ _ _ [some (.ref q), some (kN n)] H1
    refine s_when (et_test (ev_ge (j := 3) (ev_var rfl) ev_c)) (fun hb H2 e2 => ?_) (fun hb H2 e2 => ?_)
    · have t : (is.any fun i => decide (3 ≤ i)) = true := List.any_eq_true.mpr ⟨n, List.mem_of_getElem? hn, hb⟩
      rw [t] at k
      exact s_ret ev_c fun H3 e3 => k H3 ((e1.trans e2).trans e3)
    · refine ⟨some (kN n), rfl, e1.trans e2, fun m x hml hmx => ?_⟩
      by_cases e : m = i
      · subst e
        rw [hn] at hmx
        cases hmx
        exact of_decide_eq_false hb
      · exact hm m x (by omega) hmx
  · rintro σ' H1 ⟨v1, rfl, e1, hm⟩
    rw [List.length_map] at hm
    have f : (is.any fun i => decide (3 ≤ i)) = false := by
      rw [List.any_eq_false]
      intro x hx
      obtain ⟨m, hml, e⟩ := List.getElem_of_mem hx
      have := hm m x hml (by rw [List.getElem?_eq_getElem hml, e])
      simpa using this
    rw [f] at k
    exact s_ret ev_c fun H3 e3 => k H3 (e1.trans e3)
theorem insts_none {D : Ad} {H : Hp} {L : SL} {s : Fc02.St} (hs : StX D H L s) {i : Nat} (h : ¬ i < 3) : s.insts[i]? = none := List.getElem?_eq_none (by rw [hs.i3]; omega)
theorem two_lacks {D : Ad} {H : Hp} {L : SL} {s : Fc02.St} (hs : StX D H L s) {i j : Nat} {f : Fc02.Cat → Fc02.Inst → Fc02.Inst → List Int} (hi : ¬ (i < 3 ∧ j < 3)) : Fc02.two s i j f = (s, [-2]) := by
  unfold Fc02.two
  by_cases a : i < 3
  · rw [insts_none hs (i := j) (by omega)]
    cases s.insts[i]? <;> rfl
  · rw [insts_none hs a]
/-- the list that was handed in: apart from the line's own things, and from the list of answers -/
def Given (D : Ad) (H : Hp) (L : SL) (z a : Addr) (xs : List V) : Prop := (Rd H a (.lst xs) ∧ ¬ foot L a ∧ a ≠ z) ∨ ∃ (o : Obj) (its : Array Value) (n : Nat), D.K.lookup a = some o ∧ o.cls = .type "list" ∧ o.dict = none ∧ o.data = .seq its n ∧ its.size ≤ sizeLine ∧ Vals xs its.toList
theorem Rd.has {H : Hp} {a : Addr} {u : HO} (h : Rd H a u) : ∃ o, H a = some o := by
  rcases h with h | ⟨o, h⟩
  · exact ⟨_, h⟩
  · exact ⟨_, h⟩
theorem Rd.frame {F : Addr → Prop} {H H' : Hp} {a : Addr} {u : HO} (fr : Fr F H H') (h : Rd H a u) (n : ¬ F a) : Rd H' a u := by
  rcases h with h | ⟨o, h⟩
  · exact Or.inl (fr.keep _ _ h n)
  · exact Or.inr ⟨o, fr.keep _ _ h n⟩
theorem Given.sq {D : Ad} {H : Hp} {L : SL} {z a : Addr} {xs : List V} (h : Given D H L z a xs) : SqL D.K H a xs := h.imp And.left id
theorem Given.ex {D : Ad} {H H' : Hp} {L : SL} {z a : Addr} {xs : List V} (e : Ex H H') (h : Given D H L z a xs) : Given D H' L z a xs := h.imp (fun w => ⟨ex_rd e w.1, w.2⟩) id
theorem Given.step {D : Ad} {H H' : Hp} {L L' : SL} {z a : Addr} {xs : List V} (h : Given D H L z a xs) (fr : Fr (foot L) H H') (ft : ∀ y, foot L' y → foot L y ∨ H y = none) : Given D H' L' z a xs := by
  rcases h with ⟨h, n, nz⟩ | h
  · refine Or.inl ⟨Rd.frame fr h n, fun w => ?_, nz⟩
    rcases ft a w with q | q
    · exact n q
    · obtain ⟨o, v⟩ := Rd.has h
      rw [q] at v; cases v
  · exact Or.inr h
theorem Given.out {D : Ad} {H : Hp} {L : SL} {z a : Addr} {xs : List V} {o : HO} (h : Given D H L z a xs) : Given D (upd H z o) L z a xs := by
  rcases h with ⟨h, n, nz⟩ | h
  · exact Or.inl ⟨Rd.frame (F := fun b => b = z) (Fr.upd (Fr.of_ex (Ex.refl _)) (Or.inl rfl)) h nz, n, nz⟩
  · exact Or.inr h
/-- a write to what is none of its own leaves the line -/
theorem StX.out {D : Ad} {H : Hp} {L : SL} {s : Fc02.St} {z : Addr} {ys : List V} {o : HO} (hs : StX D H L s) (hz : H z = some (.lst ys)) (nz : ¬ foot L z) : StX D (upd H z o) L s := by
  have fr : Fr (fun b => b = z) H (upd H z o) := Fr.upd (F := fun b => b = z) (Fr.of_ex (Ex.refl _)) (Or.inl rfl)
  have ne : ∀ {y : Addr} {u : HO}, H y = some u → (∀ xs, u ≠ .lst xs) → ¬ y = z := fun h n w => by
    rw [w, hz] at h
    exact n _ (Option.some.inj h).symm
  refine ⟨fr.keep _ _ hs.ob (ne hs.ob fun xs w => by cases w), hs.cat.frame fr (ne hs.cat.ob fun xs w => by cases w) (fun w => nz (Or.inr (Or.inl w.symm))) (fun r hr => ?_) (ne hs.cat.di fun xs w => by cases w), hs.wc, fr.keep _ _ hs.li (fun w => nz (Or.inr (Or.inr (Or.inr (Or.inl w.symm))))), hs.n3, hs.i3, fun i l t hl ht => ?_, hs.sep, hs.off⟩
  · obtain ⟨xs, w⟩ := hs.cat.tup hr
    exact ne w fun xs w => by cases w
  · obtain ⟨q1, q2, q3⟩ := hs.inst i l t hl ht
    exact ⟨q1.frame fr (ne q1.ob fun xs w => by cases w) fun y hy w => nz (Or.inr (Or.inr (Or.inr (Or.inr ⟨l, List.mem_of_getElem? hl, w ▸ hy⟩)))), q2, q3⟩
theorem one_lacks {D : Ad} {H : Hp} {L : SL} {s : Fc02.St} (hs : StX D H L s) {i : Nat} {f : Fc02.Cat → Fc02.Inst → List Int} (hi : ¬ i < 3) : Fc02.one s i f = (s, [-2]) := by
  unfold Fc02.one
  rw [insts_none hs hi]
theorem one_no {D : Ad} {H : Hp} {L : SL} {s : Fc02.St} (hs : StX D H L s) {i : Nat} {f : Fc02.Cat → Fc02.Inst → List Int} (i3 : i < 3) (h : (Fc02.isCat s.cat && [i].all (rightAt s)) = false) : Fc02.one s i f = (s, [-6]) := by
  obtain ⟨l, t, _, ht, _⟩ := hs.get i3
  unfold Fc02.one
  rw [ht]
  show (s, if _ then _ else _) = _
  rw [if_pos]
  by_cases a : Fc02.isCat s.cat = true
  · rw [a, Bool.true_and] at h
    have h : rightAt s i = false := by simpa using h
    unfold rightAt at h
    rw [ht] at h
    have h : (Fc02.faultI s.cat t).isNone = false := h
    refine Or.inr ?_
    cases e : Fc02.faultI s.cat t with
    | none => rw [e] at h; cases h
    | some x => rfl
  · exact Or.inl (by simpa using a)
theorem two_no {D : Ad} {H : Hp} {L : SL} {s : Fc02.St} (hs : StX D H L s) {i j : Nat} {f : Fc02.Cat → Fc02.Inst → Fc02.Inst → List Int} (i3 : i < 3) (j3 : j < 3) (h : (Fc02.isCat s.cat && [i, j].all (rightAt s)) = false) : Fc02.two s i j f = (s, [-6]) := by
  obtain ⟨l, t, _, ht, _⟩ := hs.get i3
  obtain ⟨l2, u, _, hu, _⟩ := hs.get j3
  rw [two_eq ht hu, if_neg (by rw [h]; decide)]
theorem need_no2 {s : Fc02.St} {is : List Nat} (h : okNeed s 2 is = false) : (Fc02.isCat s.cat && is.all (rightAt s)) = false := by
  unfold okNeed at h
  simpa using h
theorem need_no1 {s : Fc02.St} {is : List Nat} (h : okNeed s 1 is = false) : Fc02.isCat s.cat = false := by
  unfold okNeed at h
  simpa using h
theorem need_0 (s : Fc02.St) (is : List Nat) : okNeed s 0 is = true := by unfold okNeed; rfl
theorem opt_map {α β : Type} {o : Option α} {f : α → β} {y : β} (h : o.map f = some y) : ∃ x, o = some x ∧ y = f x := by
  cases o with
  | none => cases h
  | some x => cases h; exact ⟨x, rfl, rfl⟩
/-- which call it is, by its number -/
theorem call_cases {p : Nat} {xs rs : List Nat} {k : Fc02.Call} (hk : natCall p xs rs = some k) :
    (∃ n, p = 0 ∧ xs = [n] ∧ k = .start n) ∨ (∃ x y, p = 1 ∧ xs = [x, y] ∧ k = .arrow x y) ∨ (∃ f g h, p = 2 ∧ xs = [f, g, h] ∧ k = .make f g h) ∨ (∃ i x n, p = 3 ∧ xs = [i, x, n] ∧ k = .rows i x n) ∨ (∃ i f r v, p = 4 ∧ xs = [i, f, r, v] ∧ k = .set i f r v) ∨ (∃ i, p = 5 ∧ xs = [i] ∧ k = .check i) ∨
    (∃ i j, p = 6 ∧ xs = [i, j] ∧ k = .maps i j) ∨ (∃ i j n, p = 7 ∧ xs = [i, j, n] ∧ k = .nth i j n) ∨ (∃ i j w, p = 8 ∧ xs = [i, j] ∧ Fc02Neutral.threesIn rs = some w ∧ k = .fixed i j w) ∨ (∃ i j, p = 9 ∧ xs = [i, j] ∧ k = .alike i j) ∨ (∃ i w, p = 10 ∧ xs = [i] ∧ Fc02Neutral.pairsIn rs = some w ∧ k = .part i w) ∨
    (∃ i, p = 11 ∧ xs = [i] ∧ k = .pieces i) ∨ (∃ i x, p = 12 ∧ xs = [i, x] ∧ k = .arrows i x) ∨ (∃ i x r, p = 13 ∧ xs = [i, x, r] ∧ k = .mapOf i x r) ∨ (∃ i, p = 14 ∧ xs = [i] ∧ k = .shows i) := by
  unfold natCall at hk
  split at hk
  · cases hk; exact Or.inl ⟨_, rfl, rfl, rfl⟩
  · cases hk; exact Or.inr (Or.inl ⟨_, _, rfl, rfl, rfl⟩)
  · cases hk; exact Or.inr (Or.inr (Or.inl ⟨_, _, _, rfl, rfl, rfl⟩))
  · cases hk; exact Or.inr (Or.inr (Or.inr (Or.inl ⟨_, _, _, rfl, rfl, rfl⟩)))
  · cases hk; exact Or.inr (Or.inr (Or.inr (Or.inr (Or.inl ⟨_, _, _, _, rfl, rfl, rfl⟩))))
  · cases hk; exact Or.inr (Or.inr (Or.inr (Or.inr (Or.inr (Or.inl ⟨_, rfl, rfl, rfl⟩)))))
  · cases hk; exact Or.inr (Or.inr (Or.inr (Or.inr (Or.inr (Or.inr (Or.inl ⟨_, _, rfl, rfl, rfl⟩))))))
  · cases hk; exact Or.inr (Or.inr (Or.inr (Or.inr (Or.inr (Or.inr (Or.inr (Or.inl ⟨_, _, _, rfl, rfl, rfl⟩)))))))
  · obtain ⟨w, e, rfl⟩ := opt_map hk; exact Or.inr (Or.inr (Or.inr (Or.inr (Or.inr (Or.inr (Or.inr (Or.inr (Or.inl ⟨_, _, w, rfl, rfl, e, rfl⟩))))))))
  · cases hk; exact Or.inr (Or.inr (Or.inr (Or.inr (Or.inr (Or.inr (Or.inr (Or.inr (Or.inr (Or.inl ⟨_, _, rfl, rfl, rfl⟩)))))))))
  · obtain ⟨w, e, rfl⟩ := opt_map hk; exact Or.inr (Or.inr (Or.inr (Or.inr (Or.inr (Or.inr (Or.inr (Or.inr (Or.inr (Or.inr (Or.inl ⟨_, w, rfl, rfl, e, rfl⟩))))))))))
  · cases hk; exact Or.inr (Or.inr (Or.inr (Or.inr (Or.inr (Or.inr (Or.inr (Or.inr (Or.inr (Or.inr (Or.inr (Or.inl ⟨_, rfl, rfl, rfl⟩)))))))))))
  · cases hk; exact Or.inr (Or.inr (Or.inr (Or.inr (Or.inr (Or.inr (Or.inr (Or.inr (Or.inr (Or.inr (Or.inr (Or.inr (Or.inl ⟨_, _, rfl, rfl, rfl⟩))))))))))))
  · cases hk; exact Or.inr (Or.inr (Or.inr (Or.inr (Or.inr (Or.inr (Or.inr (Or.inr (Or.inr (Or.inr (Or.inr (Or.inr (Or.inr (Or.inl ⟨_, _, _, rfl, rfl, rfl⟩)))))))))))))
  · cases hk; exact Or.inr (Or.inr (Or.inr (Or.inr (Or.inr (Or.inr (Or.inr (Or.inr (Or.inr (Or.inr (Or.inr (Or.inr (Or.inr (Or.inr ⟨_, rfl, rfl, rfl⟩)))))))))))))
  · cases hk
/-- an instance is not there -/
theorem step_lacks {D : Ad} {H : Hp} {L : SL} {s : Fc02.St} (hs : StX D H L s) {p : Nat} {xs rs : List Nat} {k : Fc02.Call} (hk : natCall p xs rs = some k) (h : ((xs.take (instsOf p)).any fun i => decide (3 ≤ i)) = true) : Fc02.step s k = (s, [-2]) := by
  have i1 : ∀ {i : Nat} {ys : List Nat}, (((i :: ys).take 1).any fun i => decide (3 ≤ i)) = true → ¬ i < 3 := fun h => by simpa using h
  have i2 : ∀ {i j : Nat} {ys : List Nat}, (((i :: j :: ys).take 2).any fun i => decide (3 ≤ i)) = true → ¬ (i < 3 ∧ j < 3) := fun {i j ys} h => by
    have : 3 ≤ i ∨ 3 ≤ j := by simpa using h
    omega
  rcases call_cases hk with ⟨n, rfl, rfl, rfl⟩ | ⟨x, y, rfl, rfl, rfl⟩ | ⟨f, g, j, rfl, rfl, rfl⟩ | ⟨i, x, n, rfl, rfl, rfl⟩ | ⟨i, f, r, v, rfl, rfl, rfl⟩ | ⟨i, rfl, rfl, rfl⟩ | ⟨i, j, rfl, rfl, rfl⟩ | ⟨i, j, n, rfl, rfl, rfl⟩ | ⟨i, j, w, rfl, rfl, _, rfl⟩ | ⟨i, j, rfl, rfl, rfl⟩ | ⟨i, w, rfl, rfl, _, rfl⟩ | ⟨i, rfl, rfl, rfl⟩ | ⟨i, x, rfl, rfl, rfl⟩ | ⟨i, x, r, rfl, rfl, rfl⟩ | ⟨i, rfl, rfl, rfl⟩
  · simp [instsOf] at h
  · simp [instsOf] at h
  · simp [instsOf] at h
  · show (match s.insts[i]? with | none => _ | some t => _) = _
    rw [insts_none hs (i1 h)]
  · show (match s.insts[i]? with | none => _ | some t => _) = _
    rw [insts_none hs (i1 h)]
  · show (s, match s.insts[i]? with | none => _ | some t => _) = _
    rw [insts_none hs (i1 h)]
  · rw [Fc02.step]; exact two_lacks hs (i2 h)
  · rw [Fc02.step]; exact two_lacks hs (i2 h)
  · rw [Fc02.step]; exact two_lacks hs (i2 h)
  · rw [Fc02.step]; exact two_lacks hs (i2 h)
  · rw [Fc02.step]; exact one_lacks hs (i1 h)
  · rw [Fc02.step]; exact one_lacks hs (i1 h)
  · show (match s.insts[i]? with | none => _ | some _ => _) = _
    rw [insts_none hs (i1 h)]
  · rw [Fc02.step]; exact one_lacks hs (i1 h)
  · show (s, match s.insts[i]? with | none => _ | some t => _) = _
    rw [insts_none hs (i1 h)]
/-- what it needs does not hold -/
theorem step_need {D : Ad} {H : Hp} {L : SL} {s : Fc02.St} (hs : StX D H L s) {p : Nat} {xs rs : List Nat} {k : Fc02.Call} (hk : natCall p xs rs = some k) (h : ((xs.take (instsOf p)).any fun i => decide (3 ≤ i)) = false) (hn : okNeed s (needOf p) (xs.take (instsOf p)) = false) : Fc02.step s k = (s, [-6]) := by
  have i1 : ∀ {i : Nat} {ys : List Nat}, (((i :: ys).take 1).any fun i => decide (3 ≤ i)) = false → i < 3 := fun h => by simpa using h
  have i2 : ∀ {i j : Nat} {ys : List Nat}, (((i :: j :: ys).take 2).any fun i => decide (3 ≤ i)) = false → i < 3 ∧ j < 3 := fun h => by simpa using h
  have no : ∀ {is : List Nat}, okNeed s 0 is = false → Fc02.step s k = (s, [-6]) := fun h => by rw [need_0] at h; cases h
  rcases call_cases hk with ⟨n, rfl, rfl, rfl⟩ | ⟨x, y, rfl, rfl, rfl⟩ | ⟨f, g, j, rfl, rfl, rfl⟩ | ⟨i, x, n, rfl, rfl, rfl⟩ | ⟨i, f, r, v, rfl, rfl, rfl⟩ | ⟨i, rfl, rfl, rfl⟩ | ⟨i, j, rfl, rfl, rfl⟩ | ⟨i, j, n, rfl, rfl, rfl⟩ | ⟨i, j, w, rfl, rfl, _, rfl⟩ | ⟨i, j, rfl, rfl, rfl⟩ | ⟨i, w, rfl, rfl, _, rfl⟩ | ⟨i, rfl, rfl, rfl⟩ | ⟨i, x, rfl, rfl, rfl⟩ | ⟨i, x, r, rfl, rfl, rfl⟩ | ⟨i, rfl, rfl, rfl⟩
  · exact no hn
  · exact no hn
  · exact no hn
  · exact no hn
  · exact no hn
  · obtain ⟨l, t, _, ht, _⟩ := hs.get (i1 h)
    show (s, match s.insts[i]? with | none => _ | some t => _) = _
    rw [ht]
    show (s, if _ then _ else _) = _
    rw [if_pos (need_no1 hn)]
  · rw [Fc02.step]; exact two_no hs (i2 h).1 (i2 h).2 (need_no2 hn)
  · rw [Fc02.step]; exact two_no hs (i2 h).1 (i2 h).2 (need_no2 hn)
  · rw [Fc02.step]; exact two_no hs (i2 h).1 (i2 h).2 (need_no2 hn)
  · rw [Fc02.step]; exact two_no hs (i2 h).1 (i2 h).2 (need_no2 hn)
  · rw [Fc02.step]; exact one_no hs (i1 h) (need_no2 hn)
  · rw [Fc02.step]; exact one_no hs (i1 h) (need_no2 hn)
  · obtain ⟨l, t, _, ht, _⟩ := hs.get (i1 h)
    show (match s.insts[i]? with | none => _ | some _ => _) = _
    rw [ht]
    show (if _ then _ else _) = _
    rw [if_pos (need_no1 hn)]
  · rw [Fc02.step]; exact one_no hs (i1 h) (need_no2 hn)
  · exact no hn
theorem cl_of {p : Nat} {xs rs : List Nat} {k : Fc02.Call} (hk : natCall p xs rs = some k) (h : ((xs.take (instsOf p)).any fun i => decide (3 ≤ i)) = false) : clOf p (restOf p xs rs) = some k := by
  have i1 : ∀ {i : Nat} {ys : List Nat}, (((i :: ys).take 1).any fun i => decide (3 ≤ i)) = false → i < 3 := fun h => by simpa using h
  have i2 : ∀ {i j : Nat} {ys : List Nat}, (((i :: j :: ys).take 2).any fun i => decide (3 ≤ i)) = false → i < 3 ∧ j < 3 := fun h => by simpa using h
  rcases call_cases hk with ⟨n, rfl, rfl, rfl⟩ | ⟨x, y, rfl, rfl, rfl⟩ | ⟨f, g, j, rfl, rfl, rfl⟩ | ⟨i, x, n, rfl, rfl, rfl⟩ | ⟨i, f, r, v, rfl, rfl, rfl⟩ | ⟨i, rfl, rfl, rfl⟩ | ⟨i, j, rfl, rfl, rfl⟩ | ⟨i, j, n, rfl, rfl, rfl⟩ | ⟨i, j, w, rfl, rfl, e, rfl⟩ | ⟨i, j, rfl, rfl, rfl⟩ | ⟨i, w, rfl, rfl, e, rfl⟩ | ⟨i, rfl, rfl, rfl⟩ | ⟨i, x, rfl, rfl, rfl⟩ | ⟨i, x, r, rfl, rfl, rfl⟩ | ⟨i, rfl, rfl, rfl⟩
  · rfl
  · rfl
  · rfl
  · exact if_pos (i1 h)
  · exact if_pos (i1 h)
  · exact if_pos (i1 h)
  · exact if_pos (i2 h)
  · exact if_pos (i2 h)
  · show (if i < 3 ∧ j < 3 then (Fc02Neutral.threesIn rs).map (Fc02.Call.fixed i j) else none) = _
    rw [if_pos (i2 h), e]; rfl
  · exact if_pos (i2 h)
  · show (if i < 3 then (Fc02Neutral.pairsIn rs).map (Fc02.Call.part i) else none) = _
    rw [if_pos (i1 h), e]; rfl
  · exact if_pos (i1 h)
  · exact if_pos (i1 h)
  · exact if_pos (i1 h)
  · exact if_pos (i1 h)
theorem insts_le {p : Nat} (h : p < 15) : instsOf p ≤ numsOf p ∧ numsOf p ≤ 4 ∧ needOf p < 3 := by
  have t : ∀ q : Fin 15, instsOf q.1 ≤ numsOf q.1 ∧ numsOf q.1 ≤ 4 ∧ needOf q.1 < 3 := by decide
  exact t ⟨p, h⟩
theorem rest_take {p : Nat} {xs rs : List Nat} (h : p < 15) (hx : xs.length = numsOf p) : (restOf p xs rs).take (instsOf p) = xs.take (instsOf p) := by
  unfold restOf
  exact List.take_append_of_le_length (by rw [hx]; exact (insts_le h).1)
theorem rest_len (p : Nat) (xs rs : List Nat) : (restOf p xs rs).length = xs.length + if hasRow p = true then 1 + rs.length else 0 := by
  unfold restOf
  rw [List.length_append]
  by_cases h : hasRow p = true
  · rw [if_pos h, if_pos h, List.length_cons]; omega
  · rw [if_neg h, if_neg h]; rfl
theorem pure_answer_call (T : Txt D mg) (h : sp_answer_call D vs H Q E) : t_answer_call D (En Q) (start n_answer_call vs) H := by
  obtain ⟨L, s, m, q, p, xs, rs, k, rfl, hs, hm, m1, hq, p15, hx, r30, hk, kont⟩ := h
  have il := insts_le p15
  have rlen := rest_len p xs rs
  have rl40 : (restOf p xs rs).length ≤ 40 := by
    by_cases hr : hasRow p = true
    · rw [if_pos hr] at rlen; omega
    · rw [if_neg hr] at rlen; omega
  refine q_asg (e_num (k := 0) (ev_var rfl) hq rfl rfl) fun H1 e1 => ?_
  have z := el_sl (K := D.K) (H := H1) (σ := [some (.ref L.a), some (.ref q), some (kN p), none, none]) (ev_var (i := 1) rfl) (eo_some (i := ((1 : Nat) : Int)) (ev_c (v := kN 1))) (eo_some (i := ((1 + instsOf p : Nat) : Int)) (ev_add (i := 1) (ev_c (v := kN 1)) (e_tab (c := 1) T.t_CALLS (ev_var (i := 2) rfl) p15 rfl rfl))) (sq_of (e1 _ _ hq))
  rw [cut_two, Nat.add_sub_cancel_left] at z
  have e : List.take (instsOf p) (List.drop 1 (List.map kN (p :: restOf p xs rs))) = (xs.take (instsOf p)).map kN := by
    rw [List.map_cons, List.drop_one, List.tail_cons, ← List.map_take, rest_take p15 hx]
  rw [e] at z
  refine q_asgL z fun y H2 hy e2 h2 => ?_
  have e02 := e1.trans e2
  refine q_when (et_B (ev_call (z := .bl ((xs.take (instsOf p)).any fun i => decide (3 ≤ i))) (ea_cons (ev_var rfl) ea_nil) fun H3 e Q kk E => ⟨y, xs.take (instsOf p), rfl, e _ _ h2, kk⟩)) (fun hb H3 e3 => ?_) (fun hb H3 e3 => ?_)
  · rw [step_lacks hs hk hb] at kont
    exact ret_one kont hs hm (e02.trans e3) ev_c rfl
  · have e03 := e02.trans e3
    have i3 : ∀ i, i ∈ xs.take (instsOf p) → i < 3 := fun i hi => by
      have := List.any_eq_false.mp hb i hi
      simpa using this
    refine q_when (et_not (et_B (e_fulfils (k := needOf p) (hs.mono e03) (ev_var rfl) (e3 _ _ h2) (e_tab (c := 3) T.t_CALLS (ev_var rfl) p15 rfl rfl) (ev_var rfl) i3 il.2.2))) (fun hc H4 e4 => ?_) (fun hc H4 e4 => ?_)
    · rw [step_need hs hk hb (not_true hc)] at kont
      exact ret_one kont hs hm (e03.trans e4) ev_c rfl
    · have ok : okNeed s (needOf p) (xs.take (instsOf p)) = true := by
        cases v : okNeed s (needOf p) (xs.take (instsOf p)) with
        | true => rfl
        | false => rw [v] at hc; cases hc
      have e04 := e03.trans e4
      refine q_asg (e_tab (c := 4) T.t_CALLS (ev_var rfl) p15 rfl rfl) fun H5 e5 => ?_
      have e05 := e04.trans e5
      refine ⟨D.fn p, spAns D p (clOf p), rfl, ⟨p, p15, rfl, rfl⟩, ?_⟩
      refine ⟨_, rfl, ?_⟩
      have z := el_sl (K := D.K) (H := H5) (σ := [some (.ref L.a), some (.ref q), some (kN p), some (.ref y), some (.ref (D.fn p))]) (ev_var (i := 1) rfl) (eo_some (i := ((1 : Nat) : Int)) (ev_c (v := kN 1))) eo_none (sq_of (e05 _ _ hq))
      rw [cut_from] at z
      have e : List.drop 1 (List.map kN (p :: restOf p xs rs)) = (restOf p xs rs).map kN := by rw [List.map_cons, List.drop_one, List.tail_cons]
      rw [e] at z
      refine z H5 (Ex.refl _) _ fun r H6 hr e6 h6 => ?_
      have e06 := e05.trans e6
      refine ⟨L, s, m, r, restOf p xs rs, k, rfl, hs.mono e06, hm, m1, h6, cl_of hk hb, ⟨rl40, by rw [rest_take p15 hx]; exact ok⟩, fun H7 L' w S la kv ft fr hw h7 => ?_⟩
      exact kont H7 L' w S la kv (fun v hv => (ft v hv).imp id fun u => fresh_back e06 u) ((Fr.of_ex e06).trans fr) (fresh_back e06 hw) h7
theorem drop_succ_of {α : Type} {l t : List α} {p : Nat} {x : α} {xs : List α} (h : l.drop p = x :: (xs ++ t)) : l[p]? = some x ∧ (l.drop p).take (1 + xs.length) = x :: xs ∧ l.drop (p + (1 + xs.length)) = t := by
  refine ⟨?_, ?_, ?_⟩
  · have : (l.drop p)[0]? = some x := by rw [h]; rfl
    rw [List.getElem?_drop] at this
    exact this
  · rw [h, Nat.add_comm, List.take_succ_cons, List.take_append_of_le_length (Nat.le_refl _), List.take_length]
  · rw [← List.drop_drop, h, Nat.add_comm, List.drop_succ_cons, List.drop_append_of_le_length (Nat.le_refl _), List.drop_length]
    rfl
theorem pure_answers (T : Txt D mg) (h : sp_answers D vs H Q E) : t_answers D (En Q) (start n_answers vs) H := by
  obtain ⟨a, ns, raw, rfl, ha, nl, nb, A, kont⟩ := h
  refine q_as ?_
  intro x dx nx ndx ne
  have e1 : Ex H (upd (upd H dx (.own x)) x (.ins D.cL dx [])) := (Ex.new ndx).trans (Ex.new (by rw [upd_ne (Ne.symm ne)]; exact nx))
  refine ⟨x, dx, rfl, upd_same, fun H1 L la S kv ft fr => ⟨rfl, ?_⟩⟩
  have e01 : Ex H H1 := fun b o hb => fr.keep b o (e1 b o hb) (ne_of_none hb nx)
  have ftn : ∀ y, foot L y → H y = none := fun y hy => by
    rcases ft y hy with z | z
    · rw [z]; exact nx
    · exact fresh_back e1 z
  subst la
  show tSeq (tAsg (tLst tNil) (gName 2)) _ _ [some (.ref a), some (.ref L.a), none, none, none, none] H1
  refine q_asgL (el_lst ea_nil (Nat.zero_le _)) fun z H2 hz e2 h2 => ?_
  refine q_asg (v := kN 0) ev_c fun H3 e3 => ?_
  have e13 := e2.trans e3
  refine q_while (fun m σ' H' => ∃ (place : Nat) (L' : SL) (s : Fc02.St) (out : List Int) (raw' : List (List (List Int))) (f j : Nat) (v4 v5 : Option V), σ' = [some (.ref a), some (.ref L'.a), some (.ref z), some (kN place), v4, v5] ∧ m = ns.length - place ∧ place ≤ ns.length ∧ StX D H' L' s ∧ L'.kvs.length ≤ j ∧ j + raw'.length ≤ 40 ∧ Given D H' L' z a (ns.map kN) ∧ H' z = some (.lst (out.map V.int)) ∧ ¬ foot L' z ∧
    PyFlat.calls PyFc02.shape f (cst (ns.drop place)) = some raw' ∧ PyInside.calls PyFc02.bound raw' = true ∧ (∀ c, c ∈ raw' → Fc02Neutral.asked1 (flatOf c) = true) ∧ out ++ dueOf s raw' = PyFc02.answers (cst ns)) ns.length ?_ ?_
  · have gv : Given D H3 L z a (ns.map kN) := by
      rcases ha with w | w
      · refine Or.inl ⟨ex_rd e13 (ex_rd e01 w), fun q => ?_, fun q => ?_⟩
        · obtain ⟨o, v⟩ := Rd.has w
          rw [ftn a q] at v; cases v
        · obtain ⟨o, v⟩ := Rd.has w
          rw [q] at v
          rw [e01 _ _ v] at hz; cases hz
      · exact Or.inr w
    refine ⟨0, L, Fc02.init, [], raw, _, 0, none, none, rfl, rfl, Nat.zero_le _, S.mono e13, by rw [kv]; exact Nat.zero_le _, by have := A.n40; omega, gv, e3 _ _ h2, fun q => ?_, A.calls, A.ins, A.ask, A.due.symm⟩
    · obtain ⟨o, w⟩ := S.has q
      rw [w] at hz; cases hz
  · rintro m σ' H4 ⟨place, L4, s, out, raw', f, j, v4, v5, rfl, rfl, pl, S4, kv4, j40, gv4, hz4, nz4, hc, hin, hask, hdue⟩
    have ha4 := gv4.sq
    have zl := ev_len (K := D.K) (ev_var (H := H4) (σ := [some (.ref a), some (.ref L4.a), some (.ref z), some (kN place), v4, v5]) (i := 0) rfl) ha4
    rw [List.length_map] at zl
    refine ⟨_, et_test (ev_lt (ev_var rfl) zl), fun hb H5 e5 => ?_, fun hb H5 e5 => ?_⟩
    · have lt : place < ns.length := of_decide_eq_true hb
      have nd : ns.drop place ≠ [] := fun w => by
        have := congrArg List.length w
        rw [List.length_drop] at this
        simp at this
        omega
      obtain ⟨f', c, cs', t, p, xs, rs, k, rfl, hc', one, hco, _⟩ := decode (fun n hn => nb n (List.mem_of_mem_drop hn)) nd hc hin hask
      have p15 := one.p15
      have nx := one.nx
      have hk := one.call
      have eq : ns.drop place = p :: (restOf p xs rs ++ t) := by rw [one.eq]; unfold restOf; rw [List.append_assoc]
      obtain ⟨g1, g2, g3⟩ := drop_succ_of eq
      have rlen := rest_len p xs rs
      have hn : hasRow p = true → ns[place + (1 + numsOf p)]? = some rs.length := fun hr => by
        have : (ns.drop place)[1 + numsOf p]? = some rs.length := by
          rw [one.eq, if_pos hr, ← nx, Nat.add_comm, List.getElem?_cons_succ, List.getElem?_append_right (Nat.le_refl _), Nat.sub_self]
          rfl
        rw [List.getElem?_drop] at this
        exact this
      have clen : (if hasRow p = true then 1 + numsOf p + 1 + rs.length else 1 + numsOf p) = 1 + (restOf p xs rs).length := by
        rw [rlen, nx]
        by_cases hr : hasRow p = true
        · rw [if_pos hr, if_pos hr]; omega
        · rw [if_neg hr, if_neg hr]; omega
      generalize hrest : restOf p xs rs = rest at *
      refine ⟨fun σ2 H2 => ∃ m', m' < ns.length - place ∧ ∃ (place : Nat) (L' : SL) (s : Fc02.St) (out : List Int) (raw' : List (List (List Int))) (f j : Nat) (v4 v5 : Option V), σ2 = [some (.ref a), some (.ref L'.a), some (.ref z), some (kN place), v4, v5] ∧ m' = ns.length - place ∧ place ≤ ns.length ∧ StX D H2 L' s ∧ L'.kvs.length ≤ j ∧ j + raw'.length ≤ 40 ∧ Given D H2 L' z a (ns.map kN) ∧ H2 z = some (.lst (out.map V.int)) ∧ ¬ foot L' z ∧
    PyFlat.calls PyFc02.shape f (cst (ns.drop place)) = some raw' ∧ PyInside.calls PyFc02.bound raw' = true ∧ (∀ c, c ∈ raw' → Fc02Neutral.asked1 (flatOf c) = true) ∧ out ++ dueOf s raw' = PyFc02.answers (cst ns), fun σ2 H2 w => w, ?_⟩
      have ha5 := ex_l e5 ha4
      refine q_asg (v := kN (place + (1 + rest.length))) (ev_add (ev_var rfl) (ev_call (z := kN (1 + rest.length)) (ea_cons (ev_var rfl) (ea_cons (ev_var rfl) ea_nil)) fun H6 e6 Q kk E => ⟨a, ns, place, p, rs.length, rfl, ex_l e6 ha5, g1, p15, hn, by rw [clen]; exact kk⟩)) fun H6 e6 => ?_
      have e46 := e5.trans e6
      have cut := el_sl (K := D.K) (H := H6) (σ := [some (.ref a), some (.ref L4.a), some (.ref z), some (kN place), some (kN (place + (1 + rest.length))), v5]) (ev_var (i := 0) rfl) (eo_some (i := (place : Int)) (ev_var (i := 3) rfl)) (eo_some (i := ((place + (1 + rest.length) : Nat) : Int)) (ev_var (i := 4) rfl)) (ex_l e46 ha4)
      have ecut : cutV (ns.map kN) (some (place : Int)) (some ((place + (1 + rest.length) : Nat) : Int)) = (p :: rest).map kN := by
        rw [cut_two, Nat.add_sub_cancel_left, ← List.map_drop, ← List.map_take, g2]
      rw [ecut] at cut
      refine q_as ?_
      refine ⟨_, rfl, cut H6 (Ex.refl _) _ fun q H7 hq e7 h7 => ?_⟩
      have e47 := e46.trans e7
      refine ⟨L4, s, j, q, p, xs, rs, k, rfl, S4.mono e47, kv4, by omega, by rw [hrest]; exact h7, p15, nx, one.rs30, hk, fun H8 L8 r S8 la8 kv8 ft8 fr8 hr8 h8 => ?_⟩
      have fr48 : Fr (foot L4) H4 H8 := (Fr.of_ex e47).trans fr8
      have hz8 := fr48.keep _ _ hz4 nz4
      have hr4 := fresh_back e47 hr8
      have rz : r ≠ z := fun w => by rw [w, hz4] at hr4; cases hr4
      have dd := due_cons (s := s) (cs := cs') hco
      rw [dd] at hdue
      have sh := A.short
      rw [← hdue] at sh
      rw [List.length_append, List.length_cons, List.length_append] at sh
      have szl : sizeLine = 16777216 := sizeLine_eq
      show tSeq (tDrop (tBM D.K "list" rAppend (tVar 2) (tCons (tCB (Evl.rLenS D.K) (tCons (tVar 5) tNil)) tNil))) _ _ [some (.ref a), some (.ref L4.a), some (.ref z), some (kN place), some (kN (place + (1 + rest.length))), some (.ref r)] H8
      refine ⟨_, rfl, Or.inl ⟨rfl, _, sq_of hz8⟩, _, rfl, r, _, rfl, Or.inl (sq_of h8), z, _, _, rfl, rfl, hz8, by rw [List.length_map, szl]; omega, ?_⟩
      refine ⟨_, rfl, Or.inl ⟨rfl, _, sq_of upd_same⟩, _, rfl, z, r, _, _, rfl, rfl, upd_same, by rw [upd_ne rz]; exact h8, by rw [List.length_append, List.length_map, List.length_map, szl]; show _ + 1 + _ ≤ _; omega, ?_⟩
      have nz8 : ¬ foot L8 z := fun w => by
        rcases ft8 z w with q | q
        · exact nz4 q
        · have := fresh_back e47 q
          rw [hz4] at this; cases this
      have ft48 : ∀ y, foot L8 y → foot L4 y ∨ H4 y = none := fun y hy => (ft8 y hy).imp id fun w => fresh_back e47 w
      have pl2 : place + (1 + rest.length) ≤ ns.length := by
        have := congrArg List.length eq
        rw [List.length_drop, List.length_cons, List.length_append] at this
        omega
      have din : ∀ c, c ∈ cs' → Fc02Neutral.asked1 (flatOf c) = true := fun c hc => hask c (List.mem_cons_of_mem _ hc)
      have ouv : out.map V.int ++ [.int (((Fc02.step s k).2.map V.int).length : Int)] ++ (Fc02.step s k).2.map V.int = (out ++ ((Fc02.step s k).2.length : Int) :: (Fc02.step s k).2).map V.int := by
        rw [List.length_map, List.map_append, List.map_cons, List.append_assoc]
        rfl
      refine ⟨_, rfl, ns.length - (place + (1 + rest.length)), by omega, place + (1 + rest.length), L8, (Fc02.step s k).1, out ++ ((Fc02.step s k).2.length : Int) :: (Fc02.step s k).2, cs', f', j + 1, some (kN (place + (1 + rest.length))), some (.ref r), by rw [la8]; rfl, rfl, pl2, (S8.out hz8 nz8).out upd_same nz8, kv8, by rw [List.length_cons] at j40; omega, (gv4.step fr48 ft48).out.out, by rw [upd_same, ouv], nz8, ?_, ?_, din, ?_⟩
      · rw [g3]; exact hc'
      · exact (Bool.and_eq_true_iff.mp (show (PyInside.call PyFc02.bound c && cs'.all (PyInside.call PyFc02.bound)) = true from hin)).2
      · rw [List.append_assoc, List.cons_append]; exact hdue
    · have ge : ¬ place < ns.length := of_decide_eq_false hb
      have e0 : ns.drop place = [] := List.drop_of_length_le (by omega)
      rw [e0] at hc
      have r0 : raw' = [] := by
        have hc : PyFlat.calls PyFc02.shape f [] = some raw' := hc
        cases f <;> (unfold PyFlat.calls at hc; exact (Option.some.inj hc).symm)
      subst r0
      rw [due_nil, List.append_nil] at hdue
      refine ⟨_, rfl, kont _ z ?_⟩
      rw [← hdue]
      exact e5 _ _ hz4
end
end AR
set_option Elab.async false
set_option linter.all false
set_option maxRecDepth 100000
set_option maxHeartbeats 4000000
/-! Each def keeps its promise: its text has the reading, the promise gives the reading (printed by gen.py). -/
namespace AR
open PySem PySem.Spec PyProof.Rows L2
/-- the i-th statement of the program -/
def top (i : Nat) : Stmt := PySem.Challenge.pw_arrowrows_s01_answers.main.body.getD i (.Pass ⟨0, 0, 0, 0⟩)
abbrev s_init_Category : Stmt := inClass (top 1) 0
abbrev s_has_thing : Stmt := inClass (top 1) 1
abbrev s_has_arrow : Stmt := inClass (top 1) 2
abbrev s_is_own : Stmt := inClass (top 1) 3
abbrev s_source : Stmt := inClass (top 1) 4
abbrev s_target : Stmt := inClass (top 1) 5
abbrev s_touches : Stmt := inClass (top 1) 6
abbrev s_meet : Stmt := inClass (top 1) 7
abbrev s_others : Stmt := inClass (top 1) 8
abbrev s_made : Stmt := inClass (top 1) 9
abbrev s_arrows_between : Stmt := top 2
abbrev s_meeting_pairs : Stmt := top 3
abbrev s_pair_fits : Stmt := top 4
abbrev s_triple_agrees : Stmt := top 5
abbrev s_is_category : Stmt := top 6
abbrev s_init_Instance : Stmt := inClass (top 9) 0
abbrev s_row_count : Stmt := inClass (top 9) 1
abbrev s_has_row : Stmt := inClass (top 9) 2
abbrev s_put_rows : Stmt := top 10
abbrev s_leads_to : Stmt := top 11
abbrev s_fault_of_row : Stmt := top 12
abbrev s_first_missing : Stmt := top 13
abbrev s_leads_elsewhere : Stmt := top 14
abbrev s_first_elsewhere : Stmt := top 15
abbrev s_first_fault : Stmt := top 16
abbrev s_is_right : Stmt := top 17
abbrev s_empty_instances : Stmt := top 28
abbrev s_init_Line : Stmt := inClass (top 29) 0
abbrev s_begin_anew : Stmt := inClass (top 29) 1
abbrev s_put_arrow : Stmt := inClass (top 29) 2
abbrev s_fulfils : Stmt := inClass (top 29) 3
abbrev s_all_right : Stmt := inClass (top 29) 4
abbrev s_rows_in_order : Stmt := top 31
abbrev s_place_of_row : Stmt := top 32
abbrev s_links : Stmt := top 33
abbrev s_brought_along : Stmt := top 34
abbrev s_first_places : Stmt := top 35
abbrev s_piece_numbers : Stmt := top 36
abbrev s_conditions_by_place : Stmt := top 38
abbrev s_holds : Stmt := top 39
abbrev s_grown : Stmt := top 40
abbrev s_all_maps : Stmt := top 41
abbrev s_takes_there : Stmt := top 42
abbrev s_takes_to_each_once : Stmt := top 43
abbrev s_arrows_by_end : Stmt := top 45
abbrev s_arrows_as_rows : Stmt := top 46
abbrev s_map_to_row : Stmt := top 47
abbrev s_answer_start : Stmt := top 49
abbrev s_answer_arrow : Stmt := top 50
abbrev s_answer_make : Stmt := top 51
abbrev s_answer_rows : Stmt := top 52
abbrev s_answer_set : Stmt := top 53
abbrev s_answer_check : Stmt := top 54
abbrev s_maps_between : Stmt := top 55
abbrev s_answer_maps : Stmt := top 56
abbrev s_answer_nth : Stmt := top 57
abbrev s_in_groups : Stmt := top 58
abbrev s_lacks_a_row : Stmt := top 59
abbrev s_answer_fixed : Stmt := top 60
abbrev s_answer_alike : Stmt := top 61
abbrev s_answer_part : Stmt := top 62
abbrev s_answer_pieces : Stmt := top 63
abbrev s_answer_arrows : Stmt := top 64
abbrev s_answer_map_of : Stmt := top 65
abbrev s_answer_shows : Stmt := top 66
abbrev s_call_length : Stmt := top 68
abbrev s_lacks_an_instance : Stmt := top 69
abbrev s_answer_call : Stmt := top 70
abbrev s_answers : Stmt := top 71
theorem sc_init_Category : FnScope n_init_Category ["self", "things"] (C8.fnScope s_init_Category) := C8.fnScope_by (by decide +kernel)
theorem sc_has_thing : FnScope n_has_thing ["self", "x"] (C8.fnScope s_has_thing) := C8.fnScope_by (by decide +kernel)
theorem sc_has_arrow : FnScope n_has_arrow ["self", "f"] (C8.fnScope s_has_arrow) := C8.fnScope_by (by decide +kernel)
theorem sc_is_own : FnScope n_is_own ["self", "f"] (C8.fnScope s_is_own) := C8.fnScope_by (by decide +kernel)
theorem sc_source : FnScope n_source ["self", "f"] (C8.fnScope s_source) := C8.fnScope_by (by decide +kernel)
theorem sc_target : FnScope n_target ["self", "f"] (C8.fnScope s_target) := C8.fnScope_by (by decide +kernel)
theorem sc_touches : FnScope n_touches ["self", "f", "x"] (C8.fnScope s_touches) := C8.fnScope_by (by decide +kernel)
theorem sc_meet : FnScope n_meet ["self", "f", "g"] (C8.fnScope s_meet) := C8.fnScope_by (by decide +kernel)
theorem sc_others : FnScope n_others ["self"] (C8.fnScope s_others) := C8.fnScope_by (by decide +kernel)
theorem sc_made : FnScope n_made ["self", "f", "g"] (C8.fnScope s_made) := C8.fnScope_by (by decide +kernel)
theorem sc_arrows_between : FnScope n_arrows_between ["category", "x", "y"] (C8.fnScope s_arrows_between) := C8.fnScope_by (by decide +kernel)
theorem sc_meeting_pairs : FnScope n_meeting_pairs ["category"] (C8.fnScope s_meeting_pairs) := C8.fnScope_by (by decide +kernel)
theorem sc_pair_fits : FnScope n_pair_fits ["category", "f", "g"] (C8.fnScope s_pair_fits) := C8.fnScope_by (by decide +kernel)
theorem sc_triple_agrees : FnScope n_triple_agrees ["category", "f", "g", "h"] (C8.fnScope s_triple_agrees) := C8.fnScope_by (by decide +kernel)
theorem sc_is_category : FnScope n_is_category ["category"] (C8.fnScope s_is_category) := C8.fnScope_by (by decide +kernel)
theorem sc_init_Instance : FnScope n_init_Instance ["self", "category"] (C8.fnScope s_init_Instance) := C8.fnScope_by (by decide +kernel)
theorem sc_row_count : FnScope n_row_count ["self"] (C8.fnScope s_row_count) := C8.fnScope_by (by decide +kernel)
theorem sc_has_row : FnScope n_has_row ["self", "x", "r"] (C8.fnScope s_has_row) := C8.fnScope_by (by decide +kernel)
theorem sc_put_rows : FnScope n_put_rows ["category", "instance", "x", "k"] (C8.fnScope s_put_rows) := C8.fnScope_by (by decide +kernel)
theorem sc_leads_to : FnScope n_leads_to ["category", "instance", "f", "r"] (C8.fnScope s_leads_to) := C8.fnScope_by (by decide +kernel)
theorem sc_fault_of_row : FnScope n_fault_of_row ["category", "instance", "f", "r"] (C8.fnScope s_fault_of_row) := C8.fnScope_by (by decide +kernel)
theorem sc_first_missing : FnScope n_first_missing ["category", "instance"] (C8.fnScope s_first_missing) := C8.fnScope_by (by decide +kernel)
theorem sc_leads_elsewhere : FnScope n_leads_elsewhere ["category", "instance", "f", "g", "r"] (C8.fnScope s_leads_elsewhere) := C8.fnScope_by (by decide +kernel)
theorem sc_first_elsewhere : FnScope n_first_elsewhere ["category", "instance"] (C8.fnScope s_first_elsewhere) := C8.fnScope_by (by decide +kernel)
theorem sc_first_fault : FnScope n_first_fault ["category", "instance"] (C8.fnScope s_first_fault) := C8.fnScope_by (by decide +kernel)
theorem sc_is_right : FnScope n_is_right ["category", "instance"] (C8.fnScope s_is_right) := C8.fnScope_by (by decide +kernel)
theorem sc_empty_instances : FnScope n_empty_instances ["category"] (C8.fnScope s_empty_instances) := C8.fnScope_by (by decide +kernel)
theorem sc_init_Line : FnScope n_init_Line ["self"] (C8.fnScope s_init_Line) := C8.fnScope_by (by decide +kernel)
theorem sc_begin_anew : FnScope n_begin_anew ["self", "things"] (C8.fnScope s_begin_anew) := C8.fnScope_by (by decide +kernel)
theorem sc_put_arrow : FnScope n_put_arrow ["self", "x", "y"] (C8.fnScope s_put_arrow) := C8.fnScope_by (by decide +kernel)
theorem sc_fulfils : FnScope n_fulfils ["self", "need", "chosen"] (C8.fnScope s_fulfils) := C8.fnScope_by (by decide +kernel)
theorem sc_all_right : FnScope n_all_right ["self", "chosen"] (C8.fnScope s_all_right) := C8.fnScope_by (by decide +kernel)
theorem sc_rows_in_order : FnScope n_rows_in_order ["instance"] (C8.fnScope s_rows_in_order) := C8.fnScope_by (by decide +kernel)
theorem sc_place_of_row : FnScope n_place_of_row ["instance", "x", "r"] (C8.fnScope s_place_of_row) := C8.fnScope_by (by decide +kernel)
theorem sc_links : FnScope n_links ["category", "instance"] (C8.fnScope s_links) := C8.fnScope_by (by decide +kernel)
theorem sc_brought_along : FnScope n_brought_along ["category", "instance", "places"] (C8.fnScope s_brought_along) := C8.fnScope_by (by decide +kernel)
theorem sc_first_places : FnScope n_first_places ["category", "instance"] (C8.fnScope s_first_places) := C8.fnScope_by (by decide +kernel)
theorem sc_piece_numbers : FnScope n_piece_numbers ["firsts"] (C8.fnScope s_piece_numbers) := C8.fnScope_by (by decide +kernel)
theorem sc_conditions_by_place : FnScope n_conditions_by_place ["category", "first", "second"] (C8.fnScope s_conditions_by_place) := C8.fnScope_by (by decide +kernel)
theorem sc_holds : FnScope n_holds ["conditions", "taken"] (C8.fnScope s_holds) := C8.fnScope_by (by decide +kernel)
theorem sc_grown : FnScope n_grown ["beginnings", "choices", "conditions"] (C8.fnScope s_grown) := C8.fnScope_by (by decide +kernel)
theorem sc_all_maps : FnScope n_all_maps ["category", "first", "second"] (C8.fnScope s_all_maps) := C8.fnScope_by (by decide +kernel)
theorem sc_takes_there : FnScope n_takes_there ["taken", "wanted"] (C8.fnScope s_takes_there) := C8.fnScope_by (by decide +kernel)
theorem sc_takes_to_each_once : FnScope n_takes_to_each_once ["first", "second", "taken"] (C8.fnScope s_takes_to_each_once) := C8.fnScope_by (by decide +kernel)
theorem sc_arrows_by_end : FnScope n_arrows_by_end ["category", "x"] (C8.fnScope s_arrows_by_end) := C8.fnScope_by (by decide +kernel)
theorem sc_arrows_as_rows : FnScope n_arrows_as_rows ["category", "x"] (C8.fnScope s_arrows_as_rows) := C8.fnScope_by (by decide +kernel)
theorem sc_map_to_row : FnScope n_map_to_row ["category", "instance", "x", "r"] (C8.fnScope s_map_to_row) := C8.fnScope_by (by decide +kernel)
theorem sc_answer_start : FnScope n_answer_start ["line", "numbers"] (C8.fnScope s_answer_start) := C8.fnScope_by (by decide +kernel)
theorem sc_answer_arrow : FnScope n_answer_arrow ["line", "numbers"] (C8.fnScope s_answer_arrow) := C8.fnScope_by (by decide +kernel)
theorem sc_answer_make : FnScope n_answer_make ["line", "numbers"] (C8.fnScope s_answer_make) := C8.fnScope_by (by decide +kernel)
theorem sc_answer_rows : FnScope n_answer_rows ["line", "numbers"] (C8.fnScope s_answer_rows) := C8.fnScope_by (by decide +kernel)
theorem sc_answer_set : FnScope n_answer_set ["line", "numbers"] (C8.fnScope s_answer_set) := C8.fnScope_by (by decide +kernel)
theorem sc_answer_check : FnScope n_answer_check ["line", "numbers"] (C8.fnScope s_answer_check) := C8.fnScope_by (by decide +kernel)
theorem sc_maps_between : FnScope n_maps_between ["line", "i", "j"] (C8.fnScope s_maps_between) := C8.fnScope_by (by decide +kernel)
theorem sc_answer_maps : FnScope n_answer_maps ["line", "numbers"] (C8.fnScope s_answer_maps) := C8.fnScope_by (by decide +kernel)
theorem sc_answer_nth : FnScope n_answer_nth ["line", "numbers"] (C8.fnScope s_answer_nth) := C8.fnScope_by (by decide +kernel)
theorem sc_in_groups : FnScope n_in_groups ["numbers", "size"] (C8.fnScope s_in_groups) := C8.fnScope_by (by decide +kernel)
theorem sc_lacks_a_row : FnScope n_lacks_a_row ["instance", "named"] (C8.fnScope s_lacks_a_row) := C8.fnScope_by (by decide +kernel)
theorem sc_answer_fixed : FnScope n_answer_fixed ["line", "numbers"] (C8.fnScope s_answer_fixed) := C8.fnScope_by (by decide +kernel)
theorem sc_answer_alike : FnScope n_answer_alike ["line", "numbers"] (C8.fnScope s_answer_alike) := C8.fnScope_by (by decide +kernel)
theorem sc_answer_part : FnScope n_answer_part ["line", "numbers"] (C8.fnScope s_answer_part) := C8.fnScope_by (by decide +kernel)
theorem sc_answer_pieces : FnScope n_answer_pieces ["line", "numbers"] (C8.fnScope s_answer_pieces) := C8.fnScope_by (by decide +kernel)
theorem sc_answer_arrows : FnScope n_answer_arrows ["line", "numbers"] (C8.fnScope s_answer_arrows) := C8.fnScope_by (by decide +kernel)
theorem sc_answer_map_of : FnScope n_answer_map_of ["line", "numbers"] (C8.fnScope s_answer_map_of) := C8.fnScope_by (by decide +kernel)
theorem sc_answer_shows : FnScope n_answer_shows ["line", "numbers"] (C8.fnScope s_answer_shows) := C8.fnScope_by (by decide +kernel)
theorem sc_call_length : FnScope n_call_length ["calls", "place"] (C8.fnScope s_call_length) := C8.fnScope_by (by decide +kernel)
theorem sc_lacks_an_instance : FnScope n_lacks_an_instance ["chosen"] (C8.fnScope s_lacks_an_instance) := C8.fnScope_by (by decide +kernel)
theorem sc_answer_call : FnScope n_answer_call ["line", "call"] (C8.fnScope s_answer_call) := C8.fnScope_by (by decide +kernel)
theorem sc_answers : FnScope n_answers ["calls"] (C8.fnScope s_answers) := C8.fnScope_by (by decide +kernel)
section
variable {P : Program} {w : World} {mg : Str → Option Value} {base : Heap} {D : Ad}
theorem ok_init_Category (T : Txt D mg) (F : MakAt D.K mg "Category" "Category.__init__" D.cC s_init_Category ["self", "things"])  : C8.Mak P w D.K mg base 1 "Category" D.cC (sp_init_Category D) [] := by
  obtain ⟨f, fd, M, hm, F, b⟩ := F.ex
  refine C8.mak0 M hm F b .nil sc_init_Category (fun vs H Q E h => len_init_Category h) (fun cdv A outer s H vs Q E hr h => ⟨t_init_Category D, ?_, pure_init_Category T h⟩)
  exact (pss_cons (ps_fld (pv 0) (pv 1) rfl) (pss_cons (ps_fld (pv 0) (pe_lc (own := [("x", 2)]) (g := gName 2) (tt := tYes) rfl sc_init_Category.nd (pi_range1 rfl T.b_range (pa_cons (pv 1) pa_nil)) (blkOk_by (own := [("x", 2)]) (N := n_init_Category) (sc := C8.fnScope s_init_Category) (by decide +kernel)) (fun _ _ _ _ _ => (pg_name (i := 2) sc_init_Category.nd rfl (Or.inl rfl))) (fun _ _ _ _ _ => pts_nil) (fun _ _ _ _ _ => (pe_tup (pa_cons (pv 2) (pa_cons (pv 2) pa_nil))))) rfl) (pss_one (ps_fld (pv 0) pe_dnewT rfl))))
theorem ok_has_thing (T : Txt D mg) (F : MetAt D.K "has_thing" "Category.has_thing" D.cC s_has_thing ["self", "x"])  : C8.Met P w D.K mg base 1 D.cC "has_thing" (sp_has_thing D) [] := by
  obtain ⟨f, fd, c, me, F, b⟩ := F.ex
  refine C8.met0 c me F b sc_has_thing (fun vs H Q E h => len_has_thing h) (fun cdv A outer s H vs Q E hr h => ⟨t_has_thing D, ?_, pure_has_thing T h⟩)
  exact (pss_one (ps_ret (pe_cmpR op_lt (pv 1) (pe_fld (pv 0) rfl) (nomark _))))
theorem ok_has_arrow (T : Txt D mg) (F : MetAt D.K "has_arrow" "Category.has_arrow" D.cC s_has_arrow ["self", "f"])  : C8.Met P w D.K mg base 1 D.cC "has_arrow" (sp_has_arrow D) [] := by
  obtain ⟨f, fd, c, me, F, b⟩ := F.ex
  refine C8.met0 c me F b sc_has_arrow (fun vs H Q E h => len_has_arrow h) (fun cdv A outer s H vs Q E hr h => ⟨t_has_arrow D, ?_, pure_has_arrow T h⟩)
  exact (pss_one (ps_ret (pe_cmpR op_lt (pv 1) (pe_callB call_len_seq (by rfl) T.b_len PySem.boot_len (pa_cons (pe_fld (pv 0) rfl) pa_nil)) (nomark _))))
theorem ok_is_own (T : Txt D mg) (F : MetAt D.K "is_own" "Category.is_own" D.cC s_is_own ["self", "f"])  : C8.Met P w D.K mg base 1 D.cC "is_own" (sp_is_own D) [] := by
  obtain ⟨f, fd, c, me, F, b⟩ := F.ex
  refine C8.met0 c me F b sc_is_own (fun vs H Q E h => len_is_own h) (fun cdv A outer s H vs Q E hr h => ⟨t_is_own D, ?_, pure_is_own T h⟩)
  exact (pss_one (ps_ret (pe_cmpR op_lt (pv 1) (pe_fld (pv 0) rfl) (nomark _))))
theorem ok_source (T : Txt D mg) (F : MetAt D.K "source" "Category.source" D.cC s_source ["self", "f"])  : C8.Met P w D.K mg base 1 D.cC "source" (sp_source D) [] := by
  obtain ⟨f, fd, c, me, F, b⟩ := F.ex
  refine C8.met0 c me F b sc_source (fun vs H Q E h => len_source h) (fun cdv A outer s H vs Q E hr h => ⟨t_source D, ?_, pure_source T h⟩)
  exact (pss_one (ps_ret (pe_ix ix_tup (pe_ix ix_list (pe_fld (pv 0) rfl) (pv 1) (fun _ _ => rfl)) pe_int (fun _ _ => rfl))))
theorem ok_target (T : Txt D mg) (F : MetAt D.K "target" "Category.target" D.cC s_target ["self", "f"])  : C8.Met P w D.K mg base 1 D.cC "target" (sp_target D) [] := by
  obtain ⟨f, fd, c, me, F, b⟩ := F.ex
  refine C8.met0 c me F b sc_target (fun vs H Q E h => len_target h) (fun cdv A outer s H vs Q E hr h => ⟨t_target D, ?_, pure_target T h⟩)
  exact (pss_one (ps_ret (pe_ix ix_tup (pe_ix ix_list (pe_fld (pv 0) rfl) (pv 1) (fun _ _ => rfl)) pe_int (fun _ _ => rfl))))
theorem ok_touches (T : Txt D mg) (F : MetAt D.K "touches" "Category.touches" D.cC s_touches ["self", "f", "x"]) (h_source : C8.Met P w D.K mg base 1 D.cC "source" (sp_source D) []) (h_target : C8.Met P w D.K mg base 1 D.cC "target" (sp_target D) []) : C8.Met P w D.K mg base 2 D.cC "touches" (sp_touches D) [] := by
  obtain ⟨f, fd, c, me, F, b⟩ := F.ex
  refine C8.met0 c me F b sc_touches (fun vs H Q E h => len_touches h) (fun cdv A outer s H vs Q E hr h => ⟨t_touches D, ?_, pure_touches T h⟩)
  exact (pss_one (ps_ret (pe_or (pe_cmpR op_eq (C8.pe_mt h_source hr (by decide) (pv 0) (pa_cons (pv 1) pa_nil)) (pv 2) (nomark _)) (pe_one (pe_cmpR op_eq (C8.pe_mt h_target hr (by decide) (pv 0) (pa_cons (pv 1) pa_nil)) (pv 2) (nomark _))))))
theorem ok_meet (T : Txt D mg) (F : MetAt D.K "meet" "Category.meet" D.cC s_meet ["self", "f", "g"]) (h_target : C8.Met P w D.K mg base 1 D.cC "target" (sp_target D) []) (h_source : C8.Met P w D.K mg base 1 D.cC "source" (sp_source D) []) : C8.Met P w D.K mg base 2 D.cC "meet" (sp_meet D) [] := by
  obtain ⟨f, fd, c, me, F, b⟩ := F.ex
  refine C8.met0 c me F b sc_meet (fun vs H Q E h => len_meet h) (fun cdv A outer s H vs Q E hr h => ⟨t_meet D, ?_, pure_meet T h⟩)
  exact (pss_one (ps_ret (pe_cmpR op_eq (C8.pe_mt h_target hr (by decide) (pv 0) (pa_cons (pv 1) pa_nil)) (C8.pe_mt h_source hr (by decide) (pv 0) (pa_cons (pv 2) pa_nil)) (nomark _))))
theorem ok_others (T : Txt D mg) (F : MetAt D.K "others" "Category.others" D.cC s_others ["self"])  : C8.Met P w D.K mg base 1 D.cC "others" (sp_others D) [] := by
  obtain ⟨f, fd, c, me, F, b⟩ := F.ex
  refine C8.met0 c me F b sc_others (fun vs H Q E h => len_others h) (fun cdv A outer s H vs Q E hr h => ⟨t_others D, ?_, pure_others T h⟩)
  exact (pss_one (ps_ret (pe_listRg rfl rfl T.b_list (prg_2 rfl T.b_range (pe_fld (pv 0) rfl) (pe_callB call_len_seq (by rfl) T.b_len PySem.boot_len (pa_cons (pe_fld (pv 0) rfl) pa_nil))))))
theorem ok_made (T : Txt D mg) (F : MetAt D.K "made" "Category.made" D.cC s_made ["self", "f", "g"]) (h_is_own : C8.Met P w D.K mg base 1 D.cC "is_own" (sp_is_own D) []) : C8.Met P w D.K mg base 2 D.cC "made" (sp_made D) [] := by
  obtain ⟨f, fd, c, me, F, b⟩ := F.ex
  refine C8.met0 c me F b sc_made (fun vs H Q E h => len_made h) (fun cdv A outer s H vs Q E hr h => ⟨t_made D, ?_, pure_made T h⟩)
  exact (pss_cons (ps_if (pt_val (C8.pe_mt h_is_own hr (by decide) (pv 0) (pa_cons (pv 1) pa_nil))) (pss_one (ps_ret (pv 2))) pss_nil) (pss_cons (ps_if (pt_val (C8.pe_mt h_is_own hr (by decide) (pv 0) (pa_cons (pv 2) pa_nil))) (pss_one (ps_ret (pv 1))) pss_nil) (pss_one (ps_ret (pe_dget1 (hu_of hr) (pe_fld (pv 0) rfl) (pe_tup (pa_cons (pv 1) (pa_cons (pv 2) pa_nil))) ⟨rfl, rfl, rfl, rfl⟩)))))
theorem ok_arrows_between (T : Txt D mg) (F : DefAt D.K mg "arrows_between" s_arrows_between ["category", "x", "y"])  : C8.Cal P w D.K mg base 1 "arrows_between" (sp_arrows_between D) [] := by
  obtain ⟨f, fd, F, b⟩ := F.ex
  refine C8.cal0 F b .nil sc_arrows_between (fun vs H Q E h => len_arrows_between h) (fun cdv A outer s H vs Q E hr h => ⟨t_arrows_between D, ?_, pure_arrows_between T h⟩)
  exact (pss_one (ps_ret (pe_lc (own := [("f", 3), ("ends", 4)]) (g := gTup D.K 2 (gCons (gName 3) (gCons (gName 4) gNil))) (tt := (tTest (tOp (rEqD D.K) (tVar 4) (tTup (tCons (tVar 1) (tCons (tVar 2) tNil)))))) rfl sc_arrows_between.nd (pi_enum rfl T.b_enumerate (pa_cons (pe_fld (pv 0) rfl) pa_nil)) (blkOk_by (own := [("f", 3), ("ends", 4)]) (N := n_arrows_between) (sc := C8.fnScope s_arrows_between) (by decide +kernel)) (fun _ _ _ _ _ => (pg_tup rfl (pgs_cons (pg_name (i := 3) sc_arrows_between.nd rfl (Or.inl rfl)) (pgs_cons (pg_name (i := 4) sc_arrows_between.nd rfl (Or.inl rfl)) pgs_nil)))) (fun _ _ _ _ _ => (pts_one (pt_cmpR (op_eqD hr.units) (pv 4) (pe_tup (pa_cons (pv 1) (pa_cons (pv 2) pa_nil))) (nomark _)))) (fun _ _ _ _ _ => (pv 3)))))
theorem ok_meeting_pairs (T : Txt D mg) (F : DefAt D.K mg "meeting_pairs" s_meeting_pairs ["category"]) (h_others : C8.Met P w D.K mg base 1 D.cC "others" (sp_others D) []) (h_meet : C8.Met P w D.K mg base 2 D.cC "meet" (sp_meet D) []) : C8.Cal P w D.K mg base 3 "meeting_pairs" (sp_meeting_pairs D) [] := by
  obtain ⟨f, fd, F, b⟩ := F.ex
  refine C8.cal0 F b .nil sc_meeting_pairs (fun vs H Q E h => len_meeting_pairs h) (fun cdv A outer s H vs Q E hr h => ⟨t_meeting_pairs D, ?_, pure_meeting_pairs T h⟩)
  exact (pss_cons (ps_set (i := 1) sc_meeting_pairs.nd rfl (Or.inl rfl) (pe_lst pa_nil)) (pss_cons (ps_for PassesOwn.never rfl (pi_list (C8.pe_mt0 h_others hr (by decide) (pv 0))) (pg_name (i := 2) sc_meeting_pairs.nd rfl (Or.inl rfl)) (pss_one (ps_for PassesOwn.never rfl (pi_list (C8.pe_mt0 h_others hr (by decide) (pv 0))) (pg_name (i := 3) sc_meeting_pairs.nd rfl (Or.inl rfl)) (pss_one (ps_if (pt_val (C8.pe_mt h_meet hr (by decide) (pv 0) (pa_cons (pv 2) (pa_cons (pv 3) pa_nil)))) (pss_one (ps_expr (pe_bm PySem.F.plainAttrs_list PySem.F.slot_list_append PySem.F.type_list_append mt_append (pv 1) (pa_cons (pe_tup (pa_cons (pv 2) (pa_cons (pv 3) pa_nil))) pa_nil)))) pss_nil))))) (pss_one (ps_ret (pv 1)))))
theorem ok_pair_fits (T : Txt D mg) (F : DefAt D.K mg "pair_fits" s_pair_fits ["category", "f", "g"]) (h_made : C8.Met P w D.K mg base 2 D.cC "made" (sp_made D) []) (h_source : C8.Met P w D.K mg base 1 D.cC "source" (sp_source D) []) (h_target : C8.Met P w D.K mg base 1 D.cC "target" (sp_target D) []) : C8.Cal P w D.K mg base 3 "pair_fits" (sp_pair_fits D) [] := by
  obtain ⟨f, fd, F, b⟩ := F.ex
  refine C8.cal0 F b .nil sc_pair_fits (fun vs H Q E h => len_pair_fits h) (fun cdv A outer s H vs Q E hr h => ⟨t_pair_fits D, ?_, pure_pair_fits T h⟩)
  exact (pss_cons (ps_set (i := 3) sc_pair_fits.nd rfl (Or.inl rfl) (C8.pe_mt h_made hr (by decide) (pv 0) (pa_cons (pv 1) (pa_cons (pv 2) pa_nil)))) (pss_cons (ps_if (pt_cmpR op_isN1 (pv 3) pe_non (nomark _)) (pss_one (ps_ret pe_bl)) pss_nil) (pss_one (ps_ret (pe_and (pe_cmpR op_eq (C8.pe_mt h_source hr (by decide) (pv 0) (pa_cons (pv 3) pa_nil)) (C8.pe_mt h_source hr (by decide) (pv 0) (pa_cons (pv 1) pa_nil)) (nomark _)) (pe_one (pe_cmpR op_eq (C8.pe_mt h_target hr (by decide) (pv 0) (pa_cons (pv 3) pa_nil)) (C8.pe_mt h_target hr (by decide) (pv 0) (pa_cons (pv 2) pa_nil)) (nomark _))))))))
theorem ok_triple_agrees (T : Txt D mg) (F : DefAt D.K mg "triple_agrees" s_triple_agrees ["category", "f", "g", "h"]) (h_made : C8.Met P w D.K mg base 2 D.cC "made" (sp_made D) []) : C8.Cal P w D.K mg base 3 "triple_agrees" (sp_triple_agrees D) [] := by
  obtain ⟨f, fd, F, b⟩ := F.ex
  refine C8.cal0 F b .nil sc_triple_agrees (fun vs H Q E h => len_triple_agrees h) (fun cdv A outer s H vs Q E hr h => ⟨t_triple_agrees D, ?_, pure_triple_agrees T h⟩)
  exact (pss_cons (ps_set (i := 4) sc_triple_agrees.nd rfl (Or.inl rfl) (C8.pe_mt h_made hr (by decide) (pv 0) (pa_cons (C8.pe_mt h_made hr (by decide) (pv 0) (pa_cons (pv 1) (pa_cons (pv 2) pa_nil))) (pa_cons (pv 3) pa_nil)))) (pss_cons (ps_set (i := 5) sc_triple_agrees.nd rfl (Or.inl rfl) (C8.pe_mt h_made hr (by decide) (pv 0) (pa_cons (pv 1) (pa_cons (C8.pe_mt h_made hr (by decide) (pv 0) (pa_cons (pv 2) (pa_cons (pv 3) pa_nil))) pa_nil)))) (pss_one (ps_ret (pe_cmpR op_eq (pv 4) (pv 5) (nomark _))))))
theorem ok_is_category (T : Txt D mg) (F : DefAt D.K mg "is_category" s_is_category ["category"]) (h_meeting_pairs : C8.Cal P w D.K mg base 3 "meeting_pairs" (sp_meeting_pairs D) []) (h_others : C8.Met P w D.K mg base 1 D.cC "others" (sp_others D) []) (h_pair_fits : C8.Cal P w D.K mg base 3 "pair_fits" (sp_pair_fits D) []) (h_meet : C8.Met P w D.K mg base 2 D.cC "meet" (sp_meet D) []) (h_triple_agrees : C8.Cal P w D.K mg base 3 "triple_agrees" (sp_triple_agrees D) []) : C8.Cal P w D.K mg base 4 "is_category" (sp_is_category D) [] := by
  obtain ⟨f, fd, F, b⟩ := F.ex
  refine C8.cal0 F b .nil sc_is_category (fun vs H Q E h => len_is_category h) (fun cdv A outer s H vs Q E hr h => ⟨t_is_category D, ?_, pure_is_category T h⟩)
  exact (pss_cons (ps_set (i := 1) sc_is_category.nd rfl (Or.inl rfl) (C8.pe_c h_meeting_pairs hr (by decide) (by rfl) (pa_cons (pv 0) pa_nil))) (pss_cons (ps_for PassesOwn.never rfl (pi_list (pv 1)) (pg_tup rfl (pgs_cons (pg_name (i := 2) sc_is_category.nd rfl (Or.inl rfl)) (pgs_cons (pg_name (i := 3) sc_is_category.nd rfl (Or.inl rfl)) pgs_nil))) (pss_one (ps_if (pt_not (pt_val (C8.pe_c h_pair_fits hr (by decide) (by rfl) (pa_cons (pv 0) (pa_cons (pv 2) (pa_cons (pv 3) pa_nil)))))) (pss_one (ps_ret pe_bl)) pss_nil))) (pss_cons (ps_for PassesOwn.never rfl (pi_list (pv 1)) (pg_tup rfl (pgs_cons (pg_name (i := 2) sc_is_category.nd rfl (Or.inl rfl)) (pgs_cons (pg_name (i := 3) sc_is_category.nd rfl (Or.inl rfl)) pgs_nil))) (pss_one (ps_for PassesOwn.never rfl (pi_list (C8.pe_mt0 h_others hr (by decide) (pv 0))) (pg_name (i := 4) sc_is_category.nd rfl (Or.inl rfl)) (pss_one (ps_if (PW.pt (pw_and (pt_val (C8.pe_mt h_meet hr (by decide) (pv 0) (pa_cons (pv 3) (pa_cons (pv 4) pa_nil)))) (pw_and1 (pt_not (pt_val (C8.pe_c h_triple_agrees hr (by decide) (by rfl) (pa_cons (pv 0) (pa_cons (pv 2) (pa_cons (pv 3) (pa_cons (pv 4) pa_nil)))))))))) (pss_one (ps_ret pe_bl)) pss_nil))))) (pss_one (ps_ret pe_bl)))))
theorem ok_init_Instance (T : Txt D mg) (F : MakAt D.K mg "Instance" "Instance.__init__" D.cI s_init_Instance ["self", "category"])  : C8.Mak P w D.K mg base 1 "Instance" D.cI (sp_init_Instance D) [] := by
  obtain ⟨f, fd, M, hm, F, b⟩ := F.ex
  refine C8.mak0 M hm F b .nil sc_init_Instance (fun vs H Q E h => len_init_Instance h) (fun cdv A outer s H vs Q E hr h => ⟨t_init_Instance D, ?_, pure_init_Instance T h⟩)
  exact (pss_cons (ps_fld (pv 0) (pe_op op_rep (pe_lst (pa_cons pe_int pa_nil)) (pe_fld (pv 1) rfl)) rfl) (pss_one (ps_fld (pv 0) (pe_lc (own := [("ends", 2)]) (g := gName 2) (tt := tYes) rfl sc_init_Instance.nd (pi_list (pe_fld (pv 1) rfl)) (blkOk_by (own := [("ends", 2)]) (N := n_init_Instance) (sc := C8.fnScope s_init_Instance) (by decide +kernel)) (fun _ _ _ _ _ => (pg_name (i := 2) sc_init_Instance.nd rfl (Or.inl rfl))) (fun _ _ _ _ _ => pts_nil) (fun _ _ _ _ _ => (pe_lst pa_nil))) rfl)))
theorem ok_row_count (T : Txt D mg) (F : MetAt D.K "row_count" "Instance.row_count" D.cI s_row_count ["self"])  : C8.Met P w D.K mg base 1 D.cI "row_count" (sp_row_count D) [] := by
  obtain ⟨f, fd, c, me, F, b⟩ := F.ex
  refine C8.met0 c me F b sc_row_count (fun vs H Q E h => len_row_count h) (fun cdv A outer s H vs Q E hr h => ⟨t_row_count D, ?_, pure_row_count T h⟩)
  exact (pss_one (ps_ret (pe_callB (cr_sum rfl) (by rfl) T.b_sum (by decide +kernel) (pa_cons (pe_fld (pv 0) rfl) pa_nil))))
theorem ok_has_row (T : Txt D mg) (F : MetAt D.K "has_row" "Instance.has_row" D.cI s_has_row ["self", "x", "r"])  : C8.Met P w D.K mg base 1 D.cI "has_row" (sp_has_row D) [] := by
  obtain ⟨f, fd, c, me, F, b⟩ := F.ex
  refine C8.met0 c me F b sc_has_row (fun vs H Q E h => len_has_row h) (fun cdv A outer s H vs Q E hr h => ⟨t_has_row D, ?_, pure_has_row T h⟩)
  exact (pss_one (ps_ret (pe_and (pe_cmpR op_lt (pv 1) (pe_callB call_len_seq (by rfl) T.b_len PySem.boot_len (pa_cons (pe_fld (pv 0) rfl) pa_nil)) (nomark _)) (pe_one (pe_cmpR op_lt (pv 2) (pe_ix ix_list (pe_fld (pv 0) rfl) (pv 1) (fun _ _ => rfl)) (nomark _))))))
theorem ok_put_rows (T : Txt D mg) (F : DefAt D.K mg "put_rows" s_put_rows ["category", "instance", "x", "k"]) (h_others : C8.Met P w D.K mg base 1 D.cC "others" (sp_others D) []) (h_touches : C8.Met P w D.K mg base 2 D.cC "touches" (sp_touches D) []) (h_source : C8.Met P w D.K mg base 1 D.cC "source" (sp_source D) []) : C8.Cal P w D.K mg base 3 "put_rows" (sp_put_rows D) [] := by
  obtain ⟨f, fd, F, b⟩ := F.ex
  refine C8.cal0 F b .nil sc_put_rows (fun vs H Q E h => len_put_rows h) (fun cdv A outer s H vs Q E hr h => ⟨t_put_rows D, ?_, pure_put_rows T h⟩)
  exact (pss_cons (ps_asg (pv 3) (pg_sub (pe_fld (pv 1) rfl) (pv 2) set_list)) (pss_one (ps_for PassesOwn.never rfl (pi_list (C8.pe_mt0 h_others hr (by decide) (pv 0))) (pg_name (i := 4) sc_put_rows.nd rfl (Or.inl rfl)) (pss_one (ps_if (pt_val (C8.pe_mt h_touches hr (by decide) (pv 0) (pa_cons (pv 4) (pa_cons (pv 2) pa_nil)))) (pss_one (ps_asg (pe_op op_rep (pe_lst (pa_cons (C8.pe_gc rfl T.g_UNTOLD) pa_nil)) (pe_ix ix_list (pe_fld (pv 1) rfl) (C8.pe_mt h_source hr (by decide) (pv 0) (pa_cons (pv 4) pa_nil)) (fun _ _ => rfl))) (pg_sub (pe_fld (pv 1) rfl) (pv 4) set_list))) pss_nil)))))
theorem ok_leads_to (T : Txt D mg) (F : DefAt D.K mg "leads_to" s_leads_to ["category", "instance", "f", "r"]) (h_is_own : C8.Met P w D.K mg base 1 D.cC "is_own" (sp_is_own D) []) : C8.Cal P w D.K mg base 2 "leads_to" (sp_leads_to D) [] := by
  obtain ⟨f, fd, F, b⟩ := F.ex
  refine C8.cal0 F b .nil sc_leads_to (fun vs H Q E h => len_leads_to h) (fun cdv A outer s H vs Q E hr h => ⟨t_leads_to D, ?_, pure_leads_to T h⟩)
  exact (pss_cons (ps_if (pt_val (C8.pe_mt h_is_own hr (by decide) (pv 0) (pa_cons (pv 2) pa_nil))) (pss_one (ps_ret (pv 3))) pss_nil) (pss_one (ps_ret (pe_ix ix_list (pe_ix ix_list (pe_fld (pv 1) rfl) (pv 2) (fun _ _ => rfl)) (pv 3) (fun _ _ => rfl)))))
theorem ok_fault_of_row (T : Txt D mg) (F : DefAt D.K mg "fault_of_row" s_fault_of_row ["category", "instance", "f", "r"]) (h_leads_to : C8.Cal P w D.K mg base 2 "leads_to" (sp_leads_to D) []) (h_has_row : C8.Met P w D.K mg base 1 D.cI "has_row" (sp_has_row D) []) (h_target : C8.Met P w D.K mg base 1 D.cC "target" (sp_target D) []) : C8.Cal P w D.K mg base 3 "fault_of_row" (sp_fault_of_row D) [] := by
  obtain ⟨f, fd, F, b⟩ := F.ex
  refine C8.cal0 F b .nil sc_fault_of_row (fun vs H Q E h => len_fault_of_row h) (fun cdv A outer s H vs Q E hr h => ⟨t_fault_of_row D, ?_, pure_fault_of_row T h⟩)
  exact (pss_cons (ps_set (i := 4) sc_fault_of_row.nd rfl (Or.inl rfl) (C8.pe_c h_leads_to hr (by decide) (by rfl) (pa_cons (pv 0) (pa_cons (pv 1) (pa_cons (pv 2) (pa_cons (pv 3) pa_nil)))))) (pss_cons (ps_if (pt_cmpR op_eq (pv 4) (C8.pe_gc rfl T.g_UNTOLD) (nomark _)) (pss_one (ps_ret pe_int)) pss_nil) (pss_cons (ps_if (pt_not (pt_val (C8.pe_mt h_has_row hr (by decide) (pv 1) (pa_cons (C8.pe_mt h_target hr (by decide) (pv 0) (pa_cons (pv 2) pa_nil)) (pa_cons (pv 4) pa_nil))))) (pss_one (ps_ret pe_int)) pss_nil) (pss_one (ps_ret pe_int)))))
theorem ok_first_missing (T : Txt D mg) (F : DefAt D.K mg "first_missing" s_first_missing ["category", "instance"]) (h_others : C8.Met P w D.K mg base 1 D.cC "others" (sp_others D) []) (h_fault_of_row : C8.Cal P w D.K mg base 3 "fault_of_row" (sp_fault_of_row D) []) (h_source : C8.Met P w D.K mg base 1 D.cC "source" (sp_source D) []) : C8.Cal P w D.K mg base 4 "first_missing" (sp_first_missing D) [] := by
  obtain ⟨f, fd, F, b⟩ := F.ex
  refine C8.cal0 F b .nil sc_first_missing (fun vs H Q E h => len_first_missing h) (fun cdv A outer s H vs Q E hr h => ⟨t_first_missing D, ?_, pure_first_missing T h⟩)
  exact (pss_cons (ps_for PassesOwn.never rfl (pi_list (C8.pe_mt0 h_others hr (by decide) (pv 0))) (pg_name (i := 2) sc_first_missing.nd rfl (Or.inl rfl)) (pss_one (ps_for PassesOwn.never rfl (pi_range1 rfl T.b_range (pa_cons (pe_ix ix_list (pe_fld (pv 1) rfl) (C8.pe_mt h_source hr (by decide) (pv 0) (pa_cons (pv 2) pa_nil)) (fun _ _ => rfl)) pa_nil)) (pg_name (i := 3) sc_first_missing.nd rfl (Or.inl rfl)) (pss_cons (ps_set (i := 4) sc_first_missing.nd rfl (Or.inl rfl) (C8.pe_c h_fault_of_row hr (by decide) (by rfl) (pa_cons (pv 0) (pa_cons (pv 1) (pa_cons (pv 2) (pa_cons (pv 3) pa_nil)))))) (pss_one (ps_if (pt_cmpR op_ne (pv 4) pe_int (nomark _)) (pss_one (ps_ret (pe_lst (pa_cons (pv 4) (pa_cons (pv 2) (pa_cons (pv 3) pa_nil)))))) pss_nil)))))) (pss_one (ps_ret (pe_lst pa_nil))))
theorem ok_leads_elsewhere (T : Txt D mg) (F : DefAt D.K mg "leads_elsewhere" s_leads_elsewhere ["category", "instance", "f", "g", "r"]) (h_leads_to : C8.Cal P w D.K mg base 2 "leads_to" (sp_leads_to D) []) (h_made : C8.Met P w D.K mg base 2 D.cC "made" (sp_made D) []) : C8.Cal P w D.K mg base 3 "leads_elsewhere" (sp_leads_elsewhere D) [] := by
  obtain ⟨f, fd, F, b⟩ := F.ex
  refine C8.cal0 F b .nil sc_leads_elsewhere (fun vs H Q E h => len_leads_elsewhere h) (fun cdv A outer s H vs Q E hr h => ⟨t_leads_elsewhere D, ?_, pure_leads_elsewhere T h⟩)
  exact (pss_cons (ps_set (i := 5) sc_leads_elsewhere.nd rfl (Or.inl rfl) (C8.pe_c h_leads_to hr (by decide) (by rfl) (pa_cons (pv 0) (pa_cons (pv 1) (pa_cons (pv 3) (pa_cons (C8.pe_c h_leads_to hr (by decide) (by rfl) (pa_cons (pv 0) (pa_cons (pv 1) (pa_cons (pv 2) (pa_cons (pv 4) pa_nil))))) pa_nil)))))) (pss_one (ps_ret (pe_cmpR op_ne (pv 5) (C8.pe_c h_leads_to hr (by decide) (by rfl) (pa_cons (pv 0) (pa_cons (pv 1) (pa_cons (C8.pe_mt h_made hr (by decide) (pv 0) (pa_cons (pv 2) (pa_cons (pv 3) pa_nil))) (pa_cons (pv 4) pa_nil))))) (nomark _)))))
theorem ok_first_elsewhere (T : Txt D mg) (F : DefAt D.K mg "first_elsewhere" s_first_elsewhere ["category", "instance"]) (h_meeting_pairs : C8.Cal P w D.K mg base 3 "meeting_pairs" (sp_meeting_pairs D) []) (h_leads_elsewhere : C8.Cal P w D.K mg base 3 "leads_elsewhere" (sp_leads_elsewhere D) []) (h_source : C8.Met P w D.K mg base 1 D.cC "source" (sp_source D) []) : C8.Cal P w D.K mg base 4 "first_elsewhere" (sp_first_elsewhere D) [] := by
  obtain ⟨f, fd, F, b⟩ := F.ex
  refine C8.cal0 F b .nil sc_first_elsewhere (fun vs H Q E h => len_first_elsewhere h) (fun cdv A outer s H vs Q E hr h => ⟨t_first_elsewhere D, ?_, pure_first_elsewhere T h⟩)
  exact (pss_cons (ps_for PassesOwn.never rfl (pi_list (C8.pe_c h_meeting_pairs hr (by decide) (by rfl) (pa_cons (pv 0) pa_nil))) (pg_tup rfl (pgs_cons (pg_name (i := 2) sc_first_elsewhere.nd rfl (Or.inl rfl)) (pgs_cons (pg_name (i := 3) sc_first_elsewhere.nd rfl (Or.inl rfl)) pgs_nil))) (pss_one (ps_for PassesOwn.never rfl (pi_range1 rfl T.b_range (pa_cons (pe_ix ix_list (pe_fld (pv 1) rfl) (C8.pe_mt h_source hr (by decide) (pv 0) (pa_cons (pv 2) pa_nil)) (fun _ _ => rfl)) pa_nil)) (pg_name (i := 4) sc_first_elsewhere.nd rfl (Or.inl rfl)) (pss_one (ps_if (pt_val (C8.pe_c h_leads_elsewhere hr (by decide) (by rfl) (pa_cons (pv 0) (pa_cons (pv 1) (pa_cons (pv 2) (pa_cons (pv 3) (pa_cons (pv 4) pa_nil))))))) (pss_one (ps_ret (pe_lst (pa_cons pe_int (pa_cons (pv 2) (pa_cons (pv 3) (pa_cons (pv 4) pa_nil))))))) pss_nil))))) (pss_one (ps_ret (pe_lst pa_nil))))
theorem ok_first_fault (T : Txt D mg) (F : DefAt D.K mg "first_fault" s_first_fault ["category", "instance"]) (h_first_missing : C8.Cal P w D.K mg base 4 "first_missing" (sp_first_missing D) []) (h_first_elsewhere : C8.Cal P w D.K mg base 4 "first_elsewhere" (sp_first_elsewhere D) []) : C8.Cal P w D.K mg base 5 "first_fault" (sp_first_fault D) [] := by
  obtain ⟨f, fd, F, b⟩ := F.ex
  refine C8.cal0 F b .nil sc_first_fault (fun vs H Q E h => len_first_fault h) (fun cdv A outer s H vs Q E hr h => ⟨t_first_fault D, ?_, pure_first_fault T h⟩)
  exact (pss_cons (ps_set (i := 2) sc_first_fault.nd rfl (Or.inl rfl) (C8.pe_c h_first_missing hr (by decide) (by rfl) (pa_cons (pv 0) (pa_cons (pv 1) pa_nil)))) (pss_cons (ps_if (pt_cmpR (op_neD hr.units) (pv 2) (pe_lst pa_nil) (nomark _)) (pss_one (ps_ret (pv 2))) pss_nil) (pss_one (ps_ret (C8.pe_c h_first_elsewhere hr (by decide) (by rfl) (pa_cons (pv 0) (pa_cons (pv 1) pa_nil)))))))
theorem ok_is_right (T : Txt D mg) (F : DefAt D.K mg "is_right" s_is_right ["category", "instance"]) (h_first_fault : C8.Cal P w D.K mg base 5 "first_fault" (sp_first_fault D) []) : C8.Cal P w D.K mg base 6 "is_right" (sp_is_right D) [] := by
  obtain ⟨f, fd, F, b⟩ := F.ex
  refine C8.cal0 F b .nil sc_is_right (fun vs H Q E h => len_is_right h) (fun cdv A outer s H vs Q E hr h => ⟨t_is_right D, ?_, pure_is_right T h⟩)
  exact (pss_one (ps_ret (pe_cmpR (op_eqD hr.units) (C8.pe_c h_first_fault hr (by decide) (by rfl) (pa_cons (pv 0) (pa_cons (pv 1) pa_nil))) (pe_lst pa_nil) (nomark _))))
theorem ok_empty_instances (T : Txt D mg) (F : DefAt D.K mg "empty_instances" s_empty_instances ["category"]) (h_init_Instance : C8.Mak P w D.K mg base 1 "Instance" D.cI (sp_init_Instance D) []) : C8.Cal P w D.K mg base 3 "empty_instances" (sp_empty_instances D) [] := by
  obtain ⟨f, fd, F, b⟩ := F.ex
  refine C8.cal0 F b .nil sc_empty_instances (fun vs H Q E h => len_empty_instances h) (fun cdv A outer s H vs Q E hr h => ⟨t_empty_instances D, ?_, pure_empty_instances T h⟩)
  exact (pss_one (ps_ret (pe_lc (own := [("i", 1)]) (g := gName 1) (tt := tYes) rfl sc_empty_instances.nd (pi_range1 rfl T.b_range (pa_cons (C8.pe_gc rfl T.g_HOW_MANY_INSTANCES) pa_nil)) (blkOk_by (own := [("i", 1)]) (N := n_empty_instances) (sc := C8.fnScope s_empty_instances) (by decide +kernel)) (fun _ _ _ _ _ => (pg_name (i := 1) sc_empty_instances.nd rfl (Or.inl rfl))) (fun _ _ _ _ _ => pts_nil) (fun _ _ _ _ _ => (C8.pe_mk h_init_Instance hr (by decide) (by rfl) (pa_cons (pv 0) pa_nil))))))
theorem ok_init_Line (T : Txt D mg) (F : MakAt D.K mg "Line" "Line.__init__" D.cL s_init_Line ["self"]) (h_init_Category : C8.Mak P w D.K mg base 1 "Category" D.cC (sp_init_Category D) []) (h_empty_instances : C8.Cal P w D.K mg base 3 "empty_instances" (sp_empty_instances D) []) : C8.Mak P w D.K mg base 4 "Line" D.cL (sp_init_Line D) [] := by
  obtain ⟨f, fd, M, hm, F, b⟩ := F.ex
  refine C8.mak0 M hm F b .nil sc_init_Line (fun vs H Q E h => len_init_Line h) (fun cdv A outer s H vs Q E hr h => ⟨t_init_Line D, ?_, pure_init_Line T h⟩)
  exact (pss_cons (ps_fld (pv 0) (C8.pe_mk h_init_Category hr (by decide) (by rfl) (pa_cons pe_int pa_nil)) rfl) (pss_one (ps_fld (pv 0) (C8.pe_c h_empty_instances hr (by decide) (by rfl) (pa_cons (pe_fld (pv 0) rfl) pa_nil)) rfl)))
theorem ok_begin_anew (T : Txt D mg) (F : MetAt D.K "begin_anew" "Line.begin_anew" D.cL s_begin_anew ["self", "things"]) (h_init_Category : C8.Mak P w D.K mg base 1 "Category" D.cC (sp_init_Category D) []) (h_empty_instances : C8.Cal P w D.K mg base 3 "empty_instances" (sp_empty_instances D) []) : C8.Met P w D.K mg base 4 D.cL "begin_anew" (sp_begin_anew D) [] := by
  obtain ⟨f, fd, c, me, F, b⟩ := F.ex
  refine C8.met0 c me F b sc_begin_anew (fun vs H Q E h => len_begin_anew h) (fun cdv A outer s H vs Q E hr h => ⟨t_begin_anew D, ?_, pure_begin_anew T h⟩)
  exact (pss_cons (ps_fld (pv 0) (C8.pe_mk h_init_Category hr (by decide) (by rfl) (pa_cons (pv 1) pa_nil)) rfl) (pss_one (ps_fld (pv 0) (C8.pe_c h_empty_instances hr (by decide) (by rfl) (pa_cons (pe_fld (pv 0) rfl) pa_nil)) rfl)))
theorem ok_put_arrow (T : Txt D mg) (F : MetAt D.K "put_arrow" "Line.put_arrow" D.cL s_put_arrow ["self", "x", "y"]) (h_empty_instances : C8.Cal P w D.K mg base 3 "empty_instances" (sp_empty_instances D) []) : C8.Met P w D.K mg base 4 D.cL "put_arrow" (sp_put_arrow D) [] := by
  obtain ⟨f, fd, c, me, F, b⟩ := F.ex
  refine C8.met0 c me F b sc_put_arrow (fun vs H Q E h => len_put_arrow h) (fun cdv A outer s H vs Q E hr h => ⟨t_put_arrow D, ?_, pure_put_arrow T h⟩)
  exact (pss_cons (ps_expr (pe_bm PySem.F.plainAttrs_list PySem.F.slot_list_append PySem.F.type_list_append mt_append (pe_fld (pe_fld (pv 0) rfl) rfl) (pa_cons (pe_tup (pa_cons (pv 1) (pa_cons (pv 2) pa_nil))) pa_nil))) (pss_one (ps_fld (pv 0) (C8.pe_c h_empty_instances hr (by decide) (by rfl) (pa_cons (pe_fld (pv 0) rfl) pa_nil)) rfl)))
theorem ok_fulfils (T : Txt D mg) (F : MetAt D.K "fulfils" "Line.fulfils" D.cL s_fulfils ["self", "need", "chosen"]) (h_is_category : C8.Cal P w D.K mg base 4 "is_category" (sp_is_category D) []) (h_all_right : C8.Met P w D.K mg base 7 D.cL "all_right" (sp_all_right D) []) : C8.Met P w D.K mg base 8 D.cL "fulfils" (sp_fulfils D) [] := by
  obtain ⟨f, fd, c, me, F, b⟩ := F.ex
  refine C8.met0 c me F b sc_fulfils (fun vs H Q E h => len_fulfils h) (fun cdv A outer s H vs Q E hr h => ⟨t_fulfils D, ?_, pure_fulfils T h⟩)
  exact (pss_cons (ps_if (pt_cmpR op_eq (pv 1) pe_str (nomark _)) (pss_one (ps_ret pe_bl)) pss_nil) (pss_cons (ps_if (pt_not (pt_val (C8.pe_c h_is_category hr (by decide) (by rfl) (pa_cons (pe_fld (pv 0) rfl) pa_nil)))) (pss_one (ps_ret pe_bl)) pss_nil) (pss_one (ps_ret (pe_or (pe_cmpR op_eq (pv 1) pe_str (nomark _)) (pe_one (C8.pe_mt h_all_right hr (by decide) (pv 0) (pa_cons (pv 2) pa_nil))))))))
theorem ok_all_right (T : Txt D mg) (F : MetAt D.K "all_right" "Line.all_right" D.cL s_all_right ["self", "chosen"]) (h_is_right : C8.Cal P w D.K mg base 6 "is_right" (sp_is_right D) []) : C8.Met P w D.K mg base 7 D.cL "all_right" (sp_all_right D) [] := by
  obtain ⟨f, fd, c, me, F, b⟩ := F.ex
  refine C8.met0 c me F b sc_all_right (fun vs H Q E h => len_all_right h) (fun cdv A outer s H vs Q E hr h => ⟨t_all_right D, ?_, pure_all_right T h⟩)
  exact (pss_cons (ps_for PassesOwn.never rfl (pi_list (pv 1)) (pg_name (i := 2) sc_all_right.nd rfl (Or.inl rfl)) (pss_one (ps_if (pt_not (pt_val (C8.pe_c h_is_right hr (by decide) (by rfl) (pa_cons (pe_fld (pv 0) rfl) (pa_cons (pe_ix ix_list (pe_fld (pv 0) rfl) (pv 2) (fun _ _ => rfl)) pa_nil))))) (pss_one (ps_ret pe_bl)) pss_nil))) (pss_one (ps_ret pe_bl)))
theorem ok_rows_in_order (T : Txt D mg) (F : DefAt D.K mg "rows_in_order" s_rows_in_order ["instance"])  : C8.Cal P w D.K mg base 1 "rows_in_order" (sp_rows_in_order D) [] := by
  obtain ⟨f, fd, F, b⟩ := F.ex
  refine C8.cal0 F b .nil sc_rows_in_order (fun vs H Q E h => len_rows_in_order h) (fun cdv A outer s H vs Q E hr h => ⟨t_rows_in_order D, ?_, pure_rows_in_order T h⟩)
  exact (pss_cons (ps_set (i := 1) sc_rows_in_order.nd rfl (Or.inl rfl) (pe_lst pa_nil)) (pss_cons (ps_for PassesOwn.never rfl (pi_enum rfl T.b_enumerate (pa_cons (pe_fld (pv 0) rfl) pa_nil)) (pg_tup rfl (pgs_cons (pg_name (i := 2) sc_rows_in_order.nd rfl (Or.inr rfl)) (pgs_cons (pg_name (i := 3) sc_rows_in_order.nd rfl (Or.inl rfl)) pgs_nil))) (pss_one (ps_expr (pe_bm PySem.F.plainAttrs_list PySem.F.slot_list_extend PySem.F.type_list_extend mt_extend (pv 1) (pa_cons (pe_lc (own := [("r", 4)]) (g := gName 4) (tt := tYes) rfl sc_rows_in_order.nd (pi_range1 rfl T.b_range (pa_cons (pv 3) pa_nil)) (blkOk_by (own := [("r", 4)]) (N := n_rows_in_order) (sc := C8.fnScope s_rows_in_order) (by decide +kernel)) (fun _ _ _ _ _ => (pg_name (i := 4) sc_rows_in_order.nd rfl (Or.inl rfl))) (fun _ _ _ _ _ => pts_nil) (fun _ _ _ _ _ => (pe_tup (pa_cons (pv 2) (pa_cons (pv 4) pa_nil))))) pa_nil))))) (pss_one (ps_ret (pv 1)))))
theorem ok_place_of_row (T : Txt D mg) (F : DefAt D.K mg "place_of_row" s_place_of_row ["instance", "x", "r"])  : C8.Cal P w D.K mg base 1 "place_of_row" (sp_place_of_row D) [] := by
  obtain ⟨f, fd, F, b⟩ := F.ex
  refine C8.cal0 F b .nil sc_place_of_row (fun vs H Q E h => len_place_of_row h) (fun cdv A outer s H vs Q E hr h => ⟨t_place_of_row D, ?_, pure_place_of_row T h⟩)
  exact (pss_one (ps_ret (pe_op op_add (pe_callB (cr_sum rfl) (by rfl) T.b_sum (by decide +kernel) (pa_cons (pe_slice sl_list (pe_fld (pv 0) rfl) po_none (po_some (pv 1))) pa_nil)) (pv 2))))
theorem ok_links (T : Txt D mg) (F : DefAt D.K mg "links" s_links ["category", "instance"]) (h_others : C8.Met P w D.K mg base 1 D.cC "others" (sp_others D) []) (h_source : C8.Met P w D.K mg base 1 D.cC "source" (sp_source D) []) (h_place_of_row : C8.Cal P w D.K mg base 1 "place_of_row" (sp_place_of_row D) []) (h_target : C8.Met P w D.K mg base 1 D.cC "target" (sp_target D) []) (h_leads_to : C8.Cal P w D.K mg base 2 "leads_to" (sp_leads_to D) []) : C8.Cal P w D.K mg base 3 "links" (sp_links D) [] := by
  obtain ⟨f, fd, F, b⟩ := F.ex
  refine C8.cal0 F b .nil sc_links (fun vs H Q E h => len_links h) (fun cdv A outer s H vs Q E hr h => ⟨t_links D, ?_, pure_links T h⟩)
  exact (pss_cons (ps_set (i := 2) sc_links.nd rfl (Or.inl rfl) (pe_lst pa_nil)) (pss_cons (ps_for PassesOwn.never rfl (pi_list (C8.pe_mt0 h_others hr (by decide) (pv 0))) (pg_name (i := 3) sc_links.nd rfl (Or.inl rfl)) (pss_cons (ps_set (i := 4) sc_links.nd rfl (Or.inl rfl) (C8.pe_mt h_source hr (by decide) (pv 0) (pa_cons (pv 3) pa_nil))) (pss_one (ps_for PassesOwn.never rfl (pi_range1 rfl T.b_range (pa_cons (pe_ix ix_list (pe_fld (pv 1) rfl) (pv 4) (fun _ _ => rfl)) pa_nil)) (pg_name (i := 5) sc_links.nd rfl (Or.inl rfl)) (pss_cons (ps_set (i := 6) sc_links.nd rfl (Or.inl rfl) (C8.pe_c h_place_of_row hr (by decide) (by rfl) (pa_cons (pv 1) (pa_cons (pv 4) (pa_cons (pv 5) pa_nil))))) (pss_cons (ps_set (i := 7) sc_links.nd rfl (Or.inl rfl) (C8.pe_c h_place_of_row hr (by decide) (by rfl) (pa_cons (pv 1) (pa_cons (C8.pe_mt h_target hr (by decide) (pv 0) (pa_cons (pv 3) pa_nil)) (pa_cons (C8.pe_c h_leads_to hr (by decide) (by rfl) (pa_cons (pv 0) (pa_cons (pv 1) (pa_cons (pv 3) (pa_cons (pv 5) pa_nil))))) pa_nil))))) (pss_one (ps_expr (pe_bm PySem.F.plainAttrs_list PySem.F.slot_list_append PySem.F.type_list_append mt_append (pv 2) (pa_cons (pe_tup (pa_cons (pv 3) (pa_cons (pv 6) (pa_cons (pv 7) pa_nil)))) pa_nil)))))))))) (pss_one (ps_ret (pv 2)))))
theorem ok_brought_along (T : Txt D mg) (F : DefAt D.K mg "brought_along" s_brought_along ["category", "instance", "places"]) (h_links : C8.Cal P w D.K mg base 3 "links" (sp_links D) []) (h_rows_in_order : C8.Cal P w D.K mg base 1 "rows_in_order" (sp_rows_in_order D) []) : C8.Cal P w D.K mg base 4 "brought_along" (sp_brought_along D) [] := by
  obtain ⟨f, fd, F, b⟩ := F.ex
  refine C8.cal0 F b .nil sc_brought_along (fun vs H Q E h => len_brought_along h) (fun cdv A outer s H vs Q E hr h => ⟨t_brought_along D, ?_, pure_brought_along T h⟩)
  exact (pss_cons (ps_set (i := 3) sc_brought_along.nd rfl (Or.inr rfl) (pe_callTy call_list_of (by rfl) T.b_list (by decide +kernel) (pa_cons (pv 2) pa_nil))) (pss_cons (ps_for PassesOwn.never rfl (pi_list (C8.pe_c h_links hr (by decide) (by rfl) (pa_cons (pv 0) (pa_cons (pv 1) pa_nil)))) (pg_tup rfl (pgs_cons (pg_name (i := 4) sc_brought_along.nd rfl (Or.inl rfl)) (pgs_cons (pg_name (i := 5) sc_brought_along.nd rfl (Or.inl rfl)) (pgs_cons (pg_name (i := 6) sc_brought_along.nd rfl (Or.inl rfl)) pgs_nil)))) (pss_one (ps_if (pt_cmpR op_in_seq (pv 5) (pv 2) (by rfl)) (pss_one (ps_expr (pe_bm PySem.F.plainAttrs_list PySem.F.slot_list_append PySem.F.type_list_append mt_append (pv 3) (pa_cons (pv 6) pa_nil)))) pss_nil))) (pss_one (ps_ret (pe_lc (own := [("place", 7), ("row", 8)]) (g := gTup D.K 2 (gCons (gName 7) (gCons (gName 8) gNil))) (tt := (tTest (tOp (rIn D.K false) (tVar 7) (tVar 3)))) rfl sc_brought_along.nd (pi_enum rfl T.b_enumerate (pa_cons (C8.pe_c h_rows_in_order hr (by decide) (by rfl) (pa_cons (pv 1) pa_nil)) pa_nil)) (blkOk_by (own := [("place", 7), ("row", 8)]) (N := n_brought_along) (sc := C8.fnScope s_brought_along) (by decide +kernel)) (fun _ _ _ _ _ => (pg_tup rfl (pgs_cons (pg_name (i := 7) sc_brought_along.nd rfl (Or.inl rfl)) (pgs_cons (pg_name (i := 8) sc_brought_along.nd rfl (Or.inl rfl)) pgs_nil)))) (fun _ _ _ _ _ => (pts_one (pt_cmpR op_in_seq (pv 7) (pv 3) (by rfl)))) (fun _ _ _ _ _ => (pv 8)))))))
theorem ok_first_places (T : Txt D mg) (F : DefAt D.K mg "first_places" s_first_places ["category", "instance"]) (h_row_count : C8.Met P w D.K mg base 1 D.cI "row_count" (sp_row_count D) []) (h_links : C8.Cal P w D.K mg base 3 "links" (sp_links D) []) : C8.Cal P w D.K mg base 4 "first_places" (sp_first_places D) [] := by
  obtain ⟨f, fd, F, b⟩ := F.ex
  refine C8.cal0 F b .nil sc_first_places (fun vs H Q E h => len_first_places h) (fun cdv A outer s H vs Q E hr h => ⟨t_first_places D, ?_, pure_first_places T h⟩)
  exact (pss_cons (ps_set (i := 2) sc_first_places.nd rfl (Or.inl rfl) (C8.pe_mt0 h_row_count hr (by decide) (pv 1))) (pss_cons (ps_set (i := 3) sc_first_places.nd rfl (Or.inl rfl) (C8.pe_c h_links hr (by decide) (by rfl) (pa_cons (pv 0) (pa_cons (pv 1) pa_nil)))) (pss_cons (ps_set (i := 4) sc_first_places.nd rfl (Or.inl rfl) (pe_listRg rfl rfl T.b_list (prg_1 rfl T.b_range (pv 2)))) (pss_cons (ps_for PassesOwn.never rfl (pi_range1 rfl T.b_range (pa_cons (pv 2) pa_nil)) (pg_name (i := 5) sc_first_places.nd rfl (Or.inl rfl)) (pss_one (ps_for PassesOwn.never rfl (pi_list (pv 3)) (pg_tup rfl (pgs_cons (pg_name (i := 6) sc_first_places.nd rfl (Or.inl rfl)) (pgs_cons (pg_name (i := 7) sc_first_places.nd rfl (Or.inl rfl)) (pgs_cons (pg_name (i := 8) sc_first_places.nd rfl (Or.inl rfl)) pgs_nil)))) (pss_cons (ps_set (i := 9) sc_first_places.nd rfl (Or.inl rfl) (pe_callB (call_min2 rfl) (by rfl) T.b_min (by decide +kernel) (pa_cons (pe_ix ix_list (pv 4) (pv 7) (fun _ _ => rfl)) (pa_cons (pe_ix ix_list (pv 4) (pv 8) (fun _ _ => rfl)) pa_nil)))) (pss_cons (ps_asg (pv 9) (pg_sub (pv 4) (pv 7) set_list)) (pss_one (ps_asg (pv 9) (pg_sub (pv 4) (pv 8) set_list)))))))) (pss_one (ps_ret (pv 4)))))))
theorem ok_piece_numbers (T : Txt D mg) (F : DefAt D.K mg "piece_numbers" s_piece_numbers ["firsts"])  : C8.Cal P w D.K mg base 1 "piece_numbers" (sp_piece_numbers D) [] := by
  obtain ⟨f, fd, F, b⟩ := F.ex
  refine C8.cal0 F b .nil sc_piece_numbers (fun vs H Q E h => len_piece_numbers h) (fun cdv A outer s H vs Q E hr h => ⟨t_piece_numbers D, ?_, pure_piece_numbers T h⟩)
  exact (pss_cons (ps_set (i := 1) sc_piece_numbers.nd rfl (Or.inr rfl) (pe_lc (own := [("place", 2), ("first", 3)]) (g := gTup D.K 2 (gCons (gName 2) (gCons (gName 3) gNil))) (tt := (tTest (tOp rEq (tVar 2) (tVar 3)))) rfl sc_piece_numbers.nd (pi_enum rfl T.b_enumerate (pa_cons (pv 0) pa_nil)) (blkOk_by (own := [("place", 2), ("first", 3)]) (N := n_piece_numbers) (sc := C8.fnScope s_piece_numbers) (by decide +kernel)) (fun _ _ _ _ _ => (pg_tup rfl (pgs_cons (pg_name (i := 2) sc_piece_numbers.nd rfl (Or.inl rfl)) (pgs_cons (pg_name (i := 3) sc_piece_numbers.nd rfl (Or.inl rfl)) pgs_nil)))) (fun _ _ _ _ _ => (pts_one (pt_cmpR op_eq (pv 2) (pv 3) (nomark _)))) (fun _ _ _ _ _ => (pv 2)))) (pss_one (ps_ret (pe_lc (own := [("first", 3)]) (g := gName 3) (tt := tYes) rfl sc_piece_numbers.nd (pi_list (pv 0)) (blkOk_by (own := [("first", 3)]) (N := n_piece_numbers) (sc := C8.fnScope s_piece_numbers) (by decide +kernel)) (fun _ _ _ _ _ => (pg_name (i := 3) sc_piece_numbers.nd rfl (Or.inl rfl))) (fun _ _ _ _ _ => pts_nil) (fun _ _ _ _ _ => (pe_bm PySem.F.plainAttrs_list PySem.F.slot_list_index PySem.F.type_list_index mt_index (pv 1) (pa_cons (pv 3) pa_nil)))))))
theorem ok_conditions_by_place (T : Txt D mg) (F : DefAt D.K mg "conditions_by_place" s_conditions_by_place ["category", "first", "second"]) (h_links : C8.Cal P w D.K mg base 3 "links" (sp_links D) []) (h_rows_in_order : C8.Cal P w D.K mg base 1 "rows_in_order" (sp_rows_in_order D) []) : C8.Cal P w D.K mg base 4 "conditions_by_place" (sp_conditions_by_place D) [] := by
  obtain ⟨f, fd, F, b⟩ := F.ex
  refine C8.cal0 F b .nil sc_conditions_by_place (fun vs H Q E h => len_conditions_by_place h) (fun cdv A outer s H vs Q E hr h => ⟨t_conditions_by_place D, ?_, pure_conditions_by_place T h⟩)
  exact (pss_cons (ps_setLc (i := 3) (own := [("row", 4)]) (g := gName 4) (tt := tYes) rfl sc_conditions_by_place.nd rfl rfl (sw_true rfl rfl rfl (by decide +kernel)) (pi_list (C8.pe_c h_rows_in_order hr (by decide) (by rfl) (pa_cons (pv 1) pa_nil))) (blkOk_by (own := [("row", 4)]) (N := n_conditions_by_place) (sc := C8.fnScope s_conditions_by_place) (by decide +kernel)) (fun _ _ _ _ _ => (pg_name (i := 4) sc_conditions_by_place.nd rfl (Or.inl rfl))) (fun _ _ _ _ _ => pts_nil) (fun _ _ _ _ _ => (pe_lst pa_nil))) (pss_cons (ps_for PassesOwn.never rfl (pi_list (C8.pe_c h_links hr (by decide) (by rfl) (pa_cons (pv 0) (pa_cons (pv 1) pa_nil)))) (pg_tup rfl (pgs_cons (pg_name (i := 5) sc_conditions_by_place.nd rfl (Or.inl rfl)) (pgs_cons (pg_name (i := 6) sc_conditions_by_place.nd rfl (Or.inl rfl)) (pgs_cons (pg_name (i := 7) sc_conditions_by_place.nd rfl (Or.inl rfl)) pgs_nil)))) (pss_one (ps_expr (pe_bm PySem.F.plainAttrs_list PySem.F.slot_list_append PySem.F.type_list_append mt_append (pe_ix ix_list (pv 3) (pe_callB (call_max2 rfl) (by rfl) T.b_max (by decide +kernel) (pa_cons (pv 6) (pa_cons (pv 7) pa_nil))) (fun _ _ => rfl)) (pa_cons (pe_tup (pa_cons (pv 6) (pa_cons (pv 7) (pa_cons (pe_ix ix_list (pe_fld (pv 2) rfl) (pv 5) (fun _ _ => rfl)) pa_nil)))) pa_nil))))) (pss_one (ps_ret (pv 3)))))
theorem ok_holds (T : Txt D mg) (F : DefAt D.K mg "holds" s_holds ["conditions", "taken"])  : C8.Cal P w D.K mg base 1 "holds" (sp_holds D) [] := by
  obtain ⟨f, fd, F, b⟩ := F.ex
  refine C8.cal0 F b .nil sc_holds (fun vs H Q E h => len_holds h) (fun cdv A outer s H vs Q E hr h => ⟨t_holds D, ?_, pure_holds T h⟩)
  exact (pss_cons (ps_for PassesOwn.never rfl (pi_list (pv 0)) (pg_tup rfl (pgs_cons (pg_name (i := 2) sc_holds.nd rfl (Or.inl rfl)) (pgs_cons (pg_name (i := 3) sc_holds.nd rfl (Or.inl rfl)) (pgs_cons (pg_name (i := 4) sc_holds.nd rfl (Or.inl rfl)) pgs_nil)))) (pss_one (ps_if (pt_cmpR op_ne (pe_ix ix_list (pv 4) (pe_ix ix_list (pv 1) (pv 2) (fun _ _ => rfl)) (fun _ _ => rfl)) (pe_ix ix_list (pv 1) (pv 3) (fun _ _ => rfl)) (nomark _)) (pss_one (ps_ret pe_bl)) pss_nil))) (pss_one (ps_ret pe_bl)))
theorem ok_grown (T : Txt D mg) (F : DefAt D.K mg "grown" s_grown ["beginnings", "choices", "conditions"]) (h_holds : C8.Cal P w D.K mg base 1 "holds" (sp_holds D) []) : C8.Cal P w D.K mg base 2 "grown" (sp_grown D) [] := by
  obtain ⟨f, fd, F, b⟩ := F.ex
  refine C8.cal0 F b .nil sc_grown (fun vs H Q E h => len_grown h) (fun cdv A outer s H vs Q E hr h => ⟨t_grown D, ?_, pure_grown T h⟩)
  exact (pss_cons (ps_set (i := 3) sc_grown.nd rfl (Or.inl rfl) (pe_lst pa_nil)) (pss_cons (ps_for PassesOwn.never rfl (pi_list (pv 0)) (pg_name (i := 4) sc_grown.nd rfl (Or.inl rfl)) (pss_one (ps_for PassesOwn.never rfl (pi_range1 rfl T.b_range (pa_cons (pv 1) pa_nil)) (pg_name (i := 5) sc_grown.nd rfl (Or.inl rfl)) (pss_cons (ps_set (i := 6) sc_grown.nd rfl (Or.inl rfl) (pe_op op_cat (pv 4) (pe_lst (pa_cons (pv 5) pa_nil)))) (pss_one (ps_if (pt_val (C8.pe_c h_holds hr (by decide) (by rfl) (pa_cons (pv 2) (pa_cons (pv 6) pa_nil)))) (pss_one (ps_expr (pe_bm PySem.F.plainAttrs_list PySem.F.slot_list_append PySem.F.type_list_append mt_append (pv 3) (pa_cons (pv 6) pa_nil)))) pss_nil)))))) (pss_one (ps_ret (pv 3)))))
theorem ok_all_maps (T : Txt D mg) (F : DefAt D.K mg "all_maps" s_all_maps ["category", "first", "second"]) (h_conditions_by_place : C8.Cal P w D.K mg base 4 "conditions_by_place" (sp_conditions_by_place D) []) (h_rows_in_order : C8.Cal P w D.K mg base 1 "rows_in_order" (sp_rows_in_order D) []) (h_grown : C8.Cal P w D.K mg base 2 "grown" (sp_grown D) []) : C8.Cal P w D.K mg base 5 "all_maps" (sp_all_maps D) [] := by
  obtain ⟨f, fd, F, b⟩ := F.ex
  refine C8.cal0 F b .nil sc_all_maps (fun vs H Q E h => len_all_maps h) (fun cdv A outer s H vs Q E hr h => ⟨t_all_maps D, ?_, pure_all_maps T h⟩)
  exact (pss_cons (ps_set (i := 3) sc_all_maps.nd rfl (Or.inl rfl) (C8.pe_c h_conditions_by_place hr (by decide) (by rfl) (pa_cons (pv 0) (pa_cons (pv 1) (pa_cons (pv 2) pa_nil))))) (pss_cons (ps_set (i := 4) sc_all_maps.nd rfl (Or.inl rfl) (pe_lst (pa_cons (pe_lst pa_nil) pa_nil))) (pss_cons (ps_for PassesOwn.never rfl (pi_enum rfl T.b_enumerate (pa_cons (C8.pe_c h_rows_in_order hr (by decide) (by rfl) (pa_cons (pv 1) pa_nil)) pa_nil)) (pg_tup rfl (pgs_cons (pg_name (i := 5) sc_all_maps.nd rfl (Or.inl rfl)) (pgs_cons (pg_name (i := 6) sc_all_maps.nd rfl (Or.inl rfl)) pgs_nil))) (pss_one (ps_set (i := 4) sc_all_maps.nd rfl (Or.inl rfl) (C8.pe_c h_grown hr (by decide) (by rfl) (pa_cons (pv 4) (pa_cons (pe_ix ix_list (pe_fld (pv 2) rfl) (pe_ix ix_tup (pv 6) pe_int (fun _ _ => rfl)) (fun _ _ => rfl)) (pa_cons (pe_ix ix_list (pv 3) (pv 5) (fun _ _ => rfl)) pa_nil))))))) (pss_one (ps_ret (pv 4))))))
theorem ok_takes_there (T : Txt D mg) (F : DefAt D.K mg "takes_there" s_takes_there ["taken", "wanted"])  : C8.Cal P w D.K mg base 1 "takes_there" (sp_takes_there D) [] := by
  obtain ⟨f, fd, F, b⟩ := F.ex
  refine C8.cal0 F b .nil sc_takes_there (fun vs H Q E h => len_takes_there h) (fun cdv A outer s H vs Q E hr h => ⟨t_takes_there D, ?_, pure_takes_there T h⟩)
  exact (pss_cons (ps_for PassesOwn.never rfl (pi_list (pv 1)) (pg_tup rfl (pgs_cons (pg_name (i := 2) sc_takes_there.nd rfl (Or.inl rfl)) (pgs_cons (pg_name (i := 3) sc_takes_there.nd rfl (Or.inl rfl)) pgs_nil))) (pss_one (ps_if (pt_cmpR op_ne (pe_ix ix_list (pv 0) (pv 2) (fun _ _ => rfl)) (pv 3) (nomark _)) (pss_one (ps_ret pe_bl)) pss_nil))) (pss_one (ps_ret pe_bl)))
theorem ok_takes_to_each_once (T : Txt D mg) (F : DefAt D.K mg "takes_to_each_once" s_takes_to_each_once ["first", "second", "taken"])  : C8.Cal P w D.K mg base 1 "takes_to_each_once" (sp_takes_to_each_once D) [] := by
  obtain ⟨f, fd, F, b⟩ := F.ex
  refine C8.cal0 F b .nil sc_takes_to_each_once (fun vs H Q E h => len_takes_to_each_once h) (fun cdv A outer s H vs Q E hr h => ⟨t_takes_to_each_once D, ?_, pure_takes_to_each_once T h⟩)
  exact (pss_cons (ps_set (i := 3) sc_takes_to_each_once.nd rfl (Or.inl rfl) pe_int) (pss_cons (ps_for PassesOwn.never rfl (pi_enum rfl T.b_enumerate (pa_cons (pe_fld (pv 0) rfl) pa_nil)) (pg_tup rfl (pgs_cons (pg_name (i := 4) sc_takes_to_each_once.nd rfl (Or.inl rfl)) (pgs_cons (pg_name (i := 5) sc_takes_to_each_once.nd rfl (Or.inl rfl)) pgs_nil))) (pss_cons (ps_set (i := 6) sc_takes_to_each_once.nd rfl (Or.inl rfl) (pe_op op_add (pv 3) (pv 5))) (pss_cons (ps_if (pt_cmpR (op_neD hr.units) (pe_callB cr_sortedI (by rfl) T.b_sorted (by decide +kernel) (pa_cons (pe_slice sl_list (pv 2) (po_some (pv 3)) (po_some (pv 6))) pa_nil)) (pe_listRg rfl rfl T.b_list (prg_1 rfl T.b_range (pe_ix ix_list (pe_fld (pv 1) rfl) (pv 4) (fun _ _ => rfl)))) (nomark _)) (pss_one (ps_ret pe_bl)) pss_nil) (pss_one (ps_set (i := 3) sc_takes_to_each_once.nd rfl (Or.inl rfl) (pv 6)))))) (pss_one (ps_ret pe_bl))))
theorem ok_arrows_by_end (T : Txt D mg) (F : DefAt D.K mg "arrows_by_end" s_arrows_by_end ["category", "x"]) (h_arrows_between : C8.Cal P w D.K mg base 1 "arrows_between" (sp_arrows_between D) []) : C8.Cal P w D.K mg base 2 "arrows_by_end" (sp_arrows_by_end D) [] := by
  obtain ⟨f, fd, F, b⟩ := F.ex
  refine C8.cal0 F b .nil sc_arrows_by_end (fun vs H Q E h => len_arrows_by_end h) (fun cdv A outer s H vs Q E hr h => ⟨t_arrows_by_end D, ?_, pure_arrows_by_end T h⟩)
  exact (pss_one (ps_ret (pe_lc (own := [("y", 2)]) (g := gName 2) (tt := tYes) rfl sc_arrows_by_end.nd (pi_range1 rfl T.b_range (pa_cons (pe_fld (pv 0) rfl) pa_nil)) (blkOk_by (own := [("y", 2)]) (N := n_arrows_by_end) (sc := C8.fnScope s_arrows_by_end) (by decide +kernel)) (fun _ _ _ _ _ => (pg_name (i := 2) sc_arrows_by_end.nd rfl (Or.inl rfl))) (fun _ _ _ _ _ => pts_nil) (fun _ _ _ _ _ => (C8.pe_c h_arrows_between hr (by decide) (by rfl) (pa_cons (pv 0) (pa_cons (pv 1) (pa_cons (pv 2) pa_nil))))))))
theorem ok_arrows_as_rows (T : Txt D mg) (F : DefAt D.K mg "arrows_as_rows" s_arrows_as_rows ["category", "x"]) (h_init_Instance : C8.Mak P w D.K mg base 1 "Instance" D.cI (sp_init_Instance D) []) (h_arrows_by_end : C8.Cal P w D.K mg base 2 "arrows_by_end" (sp_arrows_by_end D) []) (h_others : C8.Met P w D.K mg base 1 D.cC "others" (sp_others D) []) (h_target : C8.Met P w D.K mg base 1 D.cC "target" (sp_target D) []) (h_made : C8.Met P w D.K mg base 2 D.cC "made" (sp_made D) []) (h_source : C8.Met P w D.K mg base 1 D.cC "source" (sp_source D) []) : C8.Cal P w D.K mg base 3 "arrows_as_rows" (sp_arrows_as_rows D) [] := by
  obtain ⟨f, fd, F, b⟩ := F.ex
  refine C8.cal0 F b .nil sc_arrows_as_rows (fun vs H Q E h => len_arrows_as_rows h) (fun cdv A outer s H vs Q E hr h => ⟨t_arrows_as_rows D, ?_, pure_arrows_as_rows T h⟩)
  exact (pss_cons (ps_set (i := 2) sc_arrows_as_rows.nd rfl (Or.inl rfl) (C8.pe_mk h_init_Instance hr (by decide) (by rfl) (pa_cons (pv 0) pa_nil))) (pss_cons (ps_set (i := 3) sc_arrows_as_rows.nd rfl (Or.inl rfl) (C8.pe_c h_arrows_by_end hr (by decide) (by rfl) (pa_cons (pv 0) (pa_cons (pv 1) pa_nil)))) (pss_cons (ps_fld (pv 2) (pe_lc (own := [("arrows", 4)]) (g := gName 4) (tt := tYes) rfl sc_arrows_as_rows.nd (pi_list (pv 3)) (blkOk_by (own := [("arrows", 4)]) (N := n_arrows_as_rows) (sc := C8.fnScope s_arrows_as_rows) (by decide +kernel)) (fun _ _ _ _ _ => (pg_name (i := 4) sc_arrows_as_rows.nd rfl (Or.inl rfl))) (fun _ _ _ _ _ => pts_nil) (fun _ _ _ _ _ => (pe_callB call_len_seq (by rfl) T.b_len PySem.boot_len (pa_cons (pv 4) pa_nil)))) rfl) (pss_cons (ps_for PassesOwn.never rfl (pi_list (C8.pe_mt0 h_others hr (by decide) (pv 0))) (pg_name (i := 5) sc_arrows_as_rows.nd rfl (Or.inr rfl)) (pss_cons (ps_set (i := 6) sc_arrows_as_rows.nd rfl (Or.inr rfl) (pe_ix ix_list (pv 3) (C8.pe_mt h_target hr (by decide) (pv 0) (pa_cons (pv 5) pa_nil)) (fun _ _ => rfl))) (pss_one (ps_asg (pe_lc (own := [("h", 7)]) (g := gName 7) (tt := tYes) rfl sc_arrows_as_rows.nd (pi_list (pe_ix ix_list (pv 3) (C8.pe_mt h_source hr (by decide) (pv 0) (pa_cons (pv 5) pa_nil)) (fun _ _ => rfl))) (blkOk_by (own := [("h", 7)]) (N := n_arrows_as_rows) (sc := C8.fnScope s_arrows_as_rows) (by decide +kernel)) (fun _ _ _ _ _ => (pg_name (i := 7) sc_arrows_as_rows.nd rfl (Or.inl rfl))) (fun _ _ _ _ _ => pts_nil) (fun _ _ _ _ _ => (pe_bm PySem.F.plainAttrs_list PySem.F.slot_list_index PySem.F.type_list_index mt_index (pv 6) (pa_cons (C8.pe_mt h_made hr (by decide) (pv 0) (pa_cons (pv 7) (pa_cons (pv 5) pa_nil))) pa_nil)))) (pg_sub (pe_fld (pv 2) rfl) (pv 5) set_list))))) (pss_one (ps_ret (pv 2)))))))
theorem ok_map_to_row (T : Txt D mg) (F : DefAt D.K mg "map_to_row" s_map_to_row ["category", "instance", "x", "r"]) (h_arrows_by_end : C8.Cal P w D.K mg base 2 "arrows_by_end" (sp_arrows_by_end D) []) (h_leads_to : C8.Cal P w D.K mg base 2 "leads_to" (sp_leads_to D) []) : C8.Cal P w D.K mg base 3 "map_to_row" (sp_map_to_row D) [] := by
  obtain ⟨f, fd, F, b⟩ := F.ex
  refine C8.cal0 F b .nil sc_map_to_row (fun vs H Q E h => len_map_to_row h) (fun cdv A outer s H vs Q E hr h => ⟨t_map_to_row D, ?_, pure_map_to_row T h⟩)
  exact (pss_cons (ps_set (i := 4) sc_map_to_row.nd rfl (Or.inl rfl) (pe_lst pa_nil)) (pss_cons (ps_for PassesOwn.never rfl (pi_list (C8.pe_c h_arrows_by_end hr (by decide) (by rfl) (pa_cons (pv 0) (pa_cons (pv 2) pa_nil)))) (pg_name (i := 5) sc_map_to_row.nd rfl (Or.inl rfl)) (pss_one (ps_expr (pe_bm PySem.F.plainAttrs_list PySem.F.slot_list_extend PySem.F.type_list_extend mt_extend (pv 4) (pa_cons (pe_lc (own := [("h", 6)]) (g := gName 6) (tt := tYes) rfl sc_map_to_row.nd (pi_list (pv 5)) (blkOk_by (own := [("h", 6)]) (N := n_map_to_row) (sc := C8.fnScope s_map_to_row) (by decide +kernel)) (fun _ _ _ _ _ => (pg_name (i := 6) sc_map_to_row.nd rfl (Or.inl rfl))) (fun _ _ _ _ _ => pts_nil) (fun _ _ _ _ _ => (C8.pe_c h_leads_to hr (by decide) (by rfl) (pa_cons (pv 0) (pa_cons (pv 1) (pa_cons (pv 6) (pa_cons (pv 3) pa_nil))))))) pa_nil))))) (pss_one (ps_ret (pv 4)))))
theorem okh_answer_start {f : Addr} (T : Txt D mg) (F : DefF D.K mg "answer_start" s_answer_start ["line", "numbers"] f) (h_begin_anew : C8.Met P w D.K mg base 4 D.cL "begin_anew" (sp_begin_anew D) []) : Held P w D.K mg base 5 f (sp_answer_start D) := by
  obtain ⟨fd, F, b⟩ := F.ex
  refine ⟨fd, ["line", "numbers"], C8.fn0 F.fn sc_answer_start (fun vs H Q E h => len_answer_start h) (fun cdv A outer s H vs Q E hr h => ⟨t_answer_start D, ?_, pure_answer_start T h⟩), F.kp, b⟩
  exact (pss_cons (ps_set (i := 2) sc_answer_start.nd rfl (Or.inl rfl) (pe_ix ix_list (pv 1) pe_int (fun _ _ => rfl))) (pss_cons (ps_if (PW.pt (pw_or (pt_cmpR op_lt (pv 2) pe_int (nomark _)) (pw_or1 (pt_cmpR op_gt (pv 2) (C8.pe_gc rfl T.g_MOST_THINGS) (nomark _))))) (pss_one (ps_ret (pe_lst (pa_cons (C8.pe_gc rfl T.g_NOT_LET) pa_nil)))) pss_nil) (pss_cons (ps_expr (C8.pe_mt h_begin_anew hr (by decide) (pv 0) (pa_cons (pv 2) pa_nil))) (pss_one (ps_ret (pe_lst (pa_cons (pv 2) pa_nil)))))))
theorem okh_answer_arrow {f : Addr} (T : Txt D mg) (F : DefF D.K mg "answer_arrow" s_answer_arrow ["line", "numbers"] f) (h_put_arrow : C8.Met P w D.K mg base 4 D.cL "put_arrow" (sp_put_arrow D) []) (h_has_thing : C8.Met P w D.K mg base 1 D.cC "has_thing" (sp_has_thing D) []) : Held P w D.K mg base 5 f (sp_answer_arrow D) := by
  obtain ⟨fd, F, b⟩ := F.ex
  refine ⟨fd, ["line", "numbers"], C8.fn0 F.fn sc_answer_arrow (fun vs H Q E h => len_answer_arrow h) (fun cdv A outer s H vs Q E hr h => ⟨t_answer_arrow D, ?_, pure_answer_arrow T h⟩), F.kp, b⟩
  exact (pss_cons (ps_set (i := 2) sc_answer_arrow.nd rfl (Or.inl rfl) (pe_ix ix_list (pv 1) pe_int (fun _ _ => rfl))) (pss_cons (ps_set (i := 3) sc_answer_arrow.nd rfl (Or.inl rfl) (pe_ix ix_list (pv 1) pe_int (fun _ _ => rfl))) (pss_cons (ps_set (i := 4) sc_answer_arrow.nd rfl (Or.inl rfl) (pe_fld (pv 0) rfl)) (pss_cons (ps_if (PW.pt (pw_or (pt_not (pt_val (C8.pe_mt h_has_thing hr (by decide) (pv 4) (pa_cons (pv 2) pa_nil)))) (pw_or1 (pt_not (pt_val (C8.pe_mt h_has_thing hr (by decide) (pv 4) (pa_cons (pv 3) pa_nil))))))) (pss_one (ps_ret (pe_lst (pa_cons (C8.pe_gc rfl T.g_NOT_LET) pa_nil)))) pss_nil) (pss_cons (ps_set (i := 5) sc_answer_arrow.nd rfl (Or.inl rfl) (pe_callB call_len_seq (by rfl) T.b_len PySem.boot_len (pa_cons (pe_fld (pv 4) rfl) pa_nil))) (pss_cons (ps_if (pt_cmpR op_ge (pv 5) (C8.pe_gc rfl T.g_MOST_ARROWS) (nomark _)) (pss_one (ps_ret (pe_lst (pa_cons (C8.pe_gc rfl T.g_TOO_MANY) pa_nil)))) pss_nil) (pss_cons (ps_expr (C8.pe_mt h_put_arrow hr (by decide) (pv 0) (pa_cons (pv 2) (pa_cons (pv 3) pa_nil)))) (pss_one (ps_ret (pe_lst (pa_cons (pv 5) pa_nil)))))))))))
theorem okh_answer_make {f : Addr} (T : Txt D mg) (F : DefF D.K mg "answer_make" s_answer_make ["line", "numbers"] f) (h_is_own : C8.Met P w D.K mg base 1 D.cC "is_own" (sp_is_own D) []) (h_has_arrow : C8.Met P w D.K mg base 1 D.cC "has_arrow" (sp_has_arrow D) []) (h_meet : C8.Met P w D.K mg base 2 D.cC "meet" (sp_meet D) []) : Held P w D.K mg base 3 f (sp_answer_make D) := by
  obtain ⟨fd, F, b⟩ := F.ex
  refine ⟨fd, ["line", "numbers"], C8.fn0 F.fn sc_answer_make (fun vs H Q E h => len_answer_make h) (fun cdv A outer s H vs Q E hr h => ⟨t_answer_make D, ?_, pure_answer_make T h⟩), F.kp, b⟩
  exact (pss_cons (ps_set (i := 2) sc_answer_make.nd rfl (Or.inl rfl) (pe_ix ix_list (pv 1) pe_int (fun _ _ => rfl))) (pss_cons (ps_set (i := 3) sc_answer_make.nd rfl (Or.inl rfl) (pe_ix ix_list (pv 1) pe_int (fun _ _ => rfl))) (pss_cons (ps_set (i := 4) sc_answer_make.nd rfl (Or.inl rfl) (pe_ix ix_list (pv 1) pe_int (fun _ _ => rfl))) (pss_cons (ps_set (i := 5) sc_answer_make.nd rfl (Or.inl rfl) (pe_fld (pv 0) rfl)) (pss_cons (ps_if (PW.pt (pw_or (pt_not (pt_val (C8.pe_mt h_has_arrow hr (by decide) (pv 5) (pa_cons (pv 2) pa_nil)))) (pw_or (pt_not (pt_val (C8.pe_mt h_has_arrow hr (by decide) (pv 5) (pa_cons (pv 3) pa_nil)))) (pw_or1 (pt_not (pt_val (C8.pe_mt h_has_arrow hr (by decide) (pv 5) (pa_cons (pv 4) pa_nil)))))))) (pss_one (ps_ret (pe_lst (pa_cons (C8.pe_gc rfl T.g_NOT_THERE) pa_nil)))) pss_nil) (pss_cons (ps_if (PW.pt (pw_or (pt_val (C8.pe_mt h_is_own hr (by decide) (pv 5) (pa_cons (pv 2) pa_nil))) (pw_or (pt_val (C8.pe_mt h_is_own hr (by decide) (pv 5) (pa_cons (pv 3) pa_nil))) (pw_or1 (pt_not (pt_val (C8.pe_mt h_meet hr (by decide) (pv 5) (pa_cons (pv 2) (pa_cons (pv 3) pa_nil))))))))) (pss_one (ps_ret (pe_lst (pa_cons (C8.pe_gc rfl T.g_NOT_LET) pa_nil)))) pss_nil) (pss_cons (ps_dput (hu_of hr) (pe_fld (pv 5) rfl) (pe_tup (pa_cons (pv 2) (pa_cons (pv 3) pa_nil))) (pv 4) rfl) (pss_one (ps_ret (pe_lst (pa_cons (pv 4) pa_nil)))))))))))
theorem okh_answer_rows {f : Addr} (T : Txt D mg) (F : DefF D.K mg "answer_rows" s_answer_rows ["line", "numbers"] f) (h_put_rows : C8.Cal P w D.K mg base 3 "put_rows" (sp_put_rows D) []) (h_has_thing : C8.Met P w D.K mg base 1 D.cC "has_thing" (sp_has_thing D) []) (h_row_count : C8.Met P w D.K mg base 1 D.cI "row_count" (sp_row_count D) []) : Held P w D.K mg base 4 f (sp_answer_rows D) := by
  obtain ⟨fd, F, b⟩ := F.ex
  refine ⟨fd, ["line", "numbers"], C8.fn0 F.fn sc_answer_rows (fun vs H Q E h => len_answer_rows h) (fun cdv A outer s H vs Q E hr h => ⟨t_answer_rows D, ?_, pure_answer_rows T h⟩), F.kp, b⟩
  exact (pss_cons (ps_set (i := 2) sc_answer_rows.nd rfl (Or.inl rfl) (pe_ix ix_list (pe_fld (pv 0) rfl) (pe_ix ix_list (pv 1) pe_int (fun _ _ => rfl)) (fun _ _ => rfl))) (pss_cons (ps_set (i := 3) sc_answer_rows.nd rfl (Or.inl rfl) (pe_ix ix_list (pv 1) pe_int (fun _ _ => rfl))) (pss_cons (ps_set (i := 4) sc_answer_rows.nd rfl (Or.inl rfl) (pe_ix ix_list (pv 1) pe_int (fun _ _ => rfl))) (pss_cons (ps_if (pt_not (pt_val (C8.pe_mt h_has_thing hr (by decide) (pe_fld (pv 0) rfl) (pa_cons (pv 3) pa_nil)))) (pss_one (ps_ret (pe_lst (pa_cons (C8.pe_gc rfl T.g_NOT_LET) pa_nil)))) pss_nil) (pss_cons (ps_if (pt_cmpR op_gt (pe_op op_add (pe_op op_sub (C8.pe_mt0 h_row_count hr (by decide) (pv 2)) (pe_ix ix_list (pe_fld (pv 2) rfl) (pv 3) (fun _ _ => rfl))) (pv 4)) (C8.pe_gc rfl T.g_MOST_ROWS) (nomark _)) (pss_one (ps_ret (pe_lst (pa_cons (C8.pe_gc rfl T.g_TOO_MANY) pa_nil)))) pss_nil) (pss_cons (ps_expr (C8.pe_c h_put_rows hr (by decide) (by rfl) (pa_cons (pe_fld (pv 0) rfl) (pa_cons (pv 2) (pa_cons (pv 3) (pa_cons (pv 4) pa_nil)))))) (pss_one (ps_ret (pe_lst (pa_cons (C8.pe_mt0 h_row_count hr (by decide) (pv 2)) pa_nil))))))))))
theorem okh_answer_set {f : Addr} (T : Txt D mg) (F : DefF D.K mg "answer_set" s_answer_set ["line", "numbers"] f) (h_has_arrow : C8.Met P w D.K mg base 1 D.cC "has_arrow" (sp_has_arrow D) []) (h_is_own : C8.Met P w D.K mg base 1 D.cC "is_own" (sp_is_own D) []) (h_has_row : C8.Met P w D.K mg base 1 D.cI "has_row" (sp_has_row D) []) (h_source : C8.Met P w D.K mg base 1 D.cC "source" (sp_source D) []) : Held P w D.K mg base 2 f (sp_answer_set D) := by
  obtain ⟨fd, F, b⟩ := F.ex
  refine ⟨fd, ["line", "numbers"], C8.fn0 F.fn sc_answer_set (fun vs H Q E h => len_answer_set h) (fun cdv A outer s H vs Q E hr h => ⟨t_answer_set D, ?_, pure_answer_set T h⟩), F.kp, b⟩
  exact (pss_cons (ps_set (i := 2) sc_answer_set.nd rfl (Or.inl rfl) (pe_ix ix_list (pe_fld (pv 0) rfl) (pe_ix ix_list (pv 1) pe_int (fun _ _ => rfl)) (fun _ _ => rfl))) (pss_cons (ps_set (i := 3) sc_answer_set.nd rfl (Or.inl rfl) (pe_ix ix_list (pv 1) pe_int (fun _ _ => rfl))) (pss_cons (ps_set (i := 4) sc_answer_set.nd rfl (Or.inl rfl) (pe_ix ix_list (pv 1) pe_int (fun _ _ => rfl))) (pss_cons (ps_set (i := 5) sc_answer_set.nd rfl (Or.inl rfl) (pe_ix ix_list (pv 1) pe_int (fun _ _ => rfl))) (pss_cons (ps_set (i := 6) sc_answer_set.nd rfl (Or.inl rfl) (pe_fld (pv 0) rfl)) (pss_cons (ps_if (pt_not (pt_val (C8.pe_mt h_has_arrow hr (by decide) (pv 6) (pa_cons (pv 3) pa_nil)))) (pss_one (ps_ret (pe_lst (pa_cons (C8.pe_gc rfl T.g_NOT_THERE) pa_nil)))) pss_nil) (pss_cons (ps_if (PW.pt (pw_or (pt_val (C8.pe_mt h_is_own hr (by decide) (pv 6) (pa_cons (pv 3) pa_nil))) (pw_or (pt_not (pt_val (C8.pe_mt h_has_row hr (by decide) (pv 2) (pa_cons (C8.pe_mt h_source hr (by decide) (pv 6) (pa_cons (pv 3) pa_nil)) (pa_cons (pv 4) pa_nil))))) (pw_or1 (pt_cmpR op_gt (pv 5) (C8.pe_gc rfl T.g_UNTOLD) (nomark _)))))) (pss_one (ps_ret (pe_lst (pa_cons (C8.pe_gc rfl T.g_NOT_LET) pa_nil)))) pss_nil) (pss_cons (ps_set (i := 7) sc_answer_set.nd rfl (Or.inl rfl) (pe_ix ix_list (pe_ix ix_list (pe_fld (pv 2) rfl) (pv 3) (fun _ _ => rfl)) (pv 4) (fun _ _ => rfl))) (pss_cons (ps_asg (pv 5) (pg_sub (pe_ix ix_list (pe_fld (pv 2) rfl) (pv 3) (fun _ _ => rfl)) (pv 4) set_list)) (pss_one (ps_ret (pe_lst (pa_cons (pv 7) pa_nil)))))))))))))
theorem okh_answer_check {f : Addr} (T : Txt D mg) (F : DefF D.K mg "answer_check" s_answer_check ["line", "numbers"] f) (h_first_fault : C8.Cal P w D.K mg base 5 "first_fault" (sp_first_fault D) []) : Held P w D.K mg base 6 f (sp_answer_check D) := by
  obtain ⟨fd, F, b⟩ := F.ex
  refine ⟨fd, ["line", "numbers"], C8.fn0 F.fn sc_answer_check (fun vs H Q E h => len_answer_check h) (fun cdv A outer s H vs Q E hr h => ⟨t_answer_check D, ?_, pure_answer_check T h⟩), F.kp, b⟩
  exact (pss_cons (ps_set (i := 2) sc_answer_check.nd rfl (Or.inl rfl) (C8.pe_c h_first_fault hr (by decide) (by rfl) (pa_cons (pe_fld (pv 0) rfl) (pa_cons (pe_ix ix_list (pe_fld (pv 0) rfl) (pe_ix ix_list (pv 1) pe_int (fun _ _ => rfl)) (fun _ _ => rfl)) pa_nil)))) (pss_cons (ps_if (pt_cmpR (op_eqD hr.units) (pv 2) (pe_lst pa_nil) (nomark _)) (pss_one (ps_ret (pe_lst (pa_cons pe_int pa_nil)))) pss_nil) (pss_one (ps_ret (pv 2)))))
theorem ok_maps_between (T : Txt D mg) (F : DefAt D.K mg "maps_between" s_maps_between ["line", "i", "j"]) (h_all_maps : C8.Cal P w D.K mg base 5 "all_maps" (sp_all_maps D) []) : C8.Cal P w D.K mg base 6 "maps_between" (sp_maps_between D) [] := by
  obtain ⟨f, fd, F, b⟩ := F.ex
  refine C8.cal0 F b .nil sc_maps_between (fun vs H Q E h => len_maps_between h) (fun cdv A outer s H vs Q E hr h => ⟨t_maps_between D, ?_, pure_maps_between T h⟩)
  exact (pss_one (ps_ret (C8.pe_c h_all_maps hr (by decide) (by rfl) (pa_cons (pe_fld (pv 0) rfl) (pa_cons (pe_ix ix_list (pe_fld (pv 0) rfl) (pv 1) (fun _ _ => rfl)) (pa_cons (pe_ix ix_list (pe_fld (pv 0) rfl) (pv 2) (fun _ _ => rfl)) pa_nil))))))
theorem okh_answer_maps {f : Addr} (T : Txt D mg) (F : DefF D.K mg "answer_maps" s_answer_maps ["line", "numbers"] f) (h_maps_between : C8.Cal P w D.K mg base 6 "maps_between" (sp_maps_between D) []) : Held P w D.K mg base 7 f (sp_answer_maps D) := by
  obtain ⟨fd, F, b⟩ := F.ex
  refine ⟨fd, ["line", "numbers"], C8.fn0 F.fn sc_answer_maps (fun vs H Q E h => len_answer_maps h) (fun cdv A outer s H vs Q E hr h => ⟨t_answer_maps D, ?_, pure_answer_maps T h⟩), F.kp, b⟩
  exact (pss_cons (ps_set (i := 2) sc_answer_maps.nd rfl (Or.inl rfl) (C8.pe_c h_maps_between hr (by decide) (by rfl) (pa_cons (pv 0) (pa_cons (pe_ix ix_list (pv 1) pe_int (fun _ _ => rfl)) (pa_cons (pe_ix ix_list (pv 1) pe_int (fun _ _ => rfl)) pa_nil))))) (pss_cons (ps_if (pt_cmpR (op_eqD hr.units) (pv 2) (pe_lst pa_nil) (nomark _)) (pss_one (ps_ret (pe_lst (pa_cons pe_int pa_nil)))) pss_nil) (pss_one (ps_ret (pe_op op_cat (pe_lst (pa_cons (pe_callB call_len_seq (by rfl) T.b_len PySem.boot_len (pa_cons (pv 2) pa_nil)) pa_nil)) (pe_ix ix_list (pv 2) pe_int (fun _ _ => rfl)))))))
theorem okh_answer_nth {f : Addr} (T : Txt D mg) (F : DefF D.K mg "answer_nth" s_answer_nth ["line", "numbers"] f) (h_maps_between : C8.Cal P w D.K mg base 6 "maps_between" (sp_maps_between D) []) : Held P w D.K mg base 7 f (sp_answer_nth D) := by
  obtain ⟨fd, F, b⟩ := F.ex
  refine ⟨fd, ["line", "numbers"], C8.fn0 F.fn sc_answer_nth (fun vs H Q E h => len_answer_nth h) (fun cdv A outer s H vs Q E hr h => ⟨t_answer_nth D, ?_, pure_answer_nth T h⟩), F.kp, b⟩
  exact (pss_cons (ps_set (i := 2) sc_answer_nth.nd rfl (Or.inl rfl) (C8.pe_c h_maps_between hr (by decide) (by rfl) (pa_cons (pv 0) (pa_cons (pe_ix ix_list (pv 1) pe_int (fun _ _ => rfl)) (pa_cons (pe_ix ix_list (pv 1) pe_int (fun _ _ => rfl)) pa_nil))))) (pss_cons (ps_set (i := 3) sc_answer_nth.nd rfl (Or.inl rfl) (pe_ix ix_list (pv 1) pe_int (fun _ _ => rfl))) (pss_cons (ps_if (pt_cmpR op_ge (pv 3) (pe_callB call_len_seq (by rfl) T.b_len PySem.boot_len (pa_cons (pv 2) pa_nil)) (nomark _)) (pss_one (ps_ret (pe_lst (pa_cons (C8.pe_gc rfl T.g_NOT_THERE) pa_nil)))) pss_nil) (pss_one (ps_ret (pe_ix ix_list (pv 2) (pv 3) (fun _ _ => rfl)))))))
theorem ok_in_groups (T : Txt D mg) (F : DefAt D.K mg "in_groups" s_in_groups ["numbers", "size"])  : C8.Cal P w D.K mg base 1 "in_groups" (sp_in_groups D) [] := by
  obtain ⟨f, fd, F, b⟩ := F.ex
  refine C8.cal0 F b .nil sc_in_groups (fun vs H Q E h => len_in_groups h) (fun cdv A outer s H vs Q E hr h => ⟨t_in_groups D, ?_, pure_in_groups T h⟩)
  exact (pss_one (ps_ret (pe_lc (own := [("begin", 2)]) (g := gName 2) (tt := tYes) rfl sc_in_groups.nd (pi_range3 rfl T.b_range (pa_cons pe_int (pa_cons (pe_callB call_len_seq (by rfl) T.b_len PySem.boot_len (pa_cons (pv 0) pa_nil)) (pa_cons (pv 1) pa_nil)))) (blkOk_by (own := [("begin", 2)]) (N := n_in_groups) (sc := C8.fnScope s_in_groups) (by decide +kernel)) (fun _ _ _ _ _ => (pg_name (i := 2) sc_in_groups.nd rfl (Or.inl rfl))) (fun _ _ _ _ _ => pts_nil) (fun _ _ _ _ _ => (pe_tupleOf rfl T.b_tuple (pe_slice sl_list (pv 0) (po_some (pv 2)) (po_some (pe_op op_add (pv 2) (pv 1)))))))))
theorem ok_lacks_a_row (T : Txt D mg) (F : DefAt D.K mg "lacks_a_row" s_lacks_a_row ["instance", "named"]) (h_has_row : C8.Met P w D.K mg base 1 D.cI "has_row" (sp_has_row D) []) : C8.Cal P w D.K mg base 2 "lacks_a_row" (sp_lacks_a_row D) [] := by
  obtain ⟨f, fd, F, b⟩ := F.ex
  refine C8.cal0 F b .nil sc_lacks_a_row (fun vs H Q E h => len_lacks_a_row h) (fun cdv A outer s H vs Q E hr h => ⟨t_lacks_a_row D, ?_, pure_lacks_a_row T h⟩)
  exact (pss_cons (ps_for PassesOwn.never rfl (pi_list (pv 1)) (pg_name (i := 2) sc_lacks_a_row.nd rfl (Or.inl rfl)) (pss_one (ps_if (pt_not (pt_val (C8.pe_mt h_has_row hr (by decide) (pv 0) (pa_cons (pe_ix ix_tup (pv 2) pe_int (fun _ _ => rfl)) (pa_cons (pe_ix ix_tup (pv 2) pe_int (fun _ _ => rfl)) pa_nil))))) (pss_one (ps_ret pe_bl)) pss_nil))) (pss_one (ps_ret pe_bl)))
theorem okh_answer_fixed {f : Addr} (T : Txt D mg) (F : DefF D.K mg "answer_fixed" s_answer_fixed ["line", "numbers"] f) (h_in_groups : C8.Cal P w D.K mg base 1 "in_groups" (sp_in_groups D) []) (h_lacks_a_row : C8.Cal P w D.K mg base 2 "lacks_a_row" (sp_lacks_a_row D) []) (h_maps_between : C8.Cal P w D.K mg base 6 "maps_between" (sp_maps_between D) []) (h_place_of_row : C8.Cal P w D.K mg base 1 "place_of_row" (sp_place_of_row D) []) (h_takes_there : C8.Cal P w D.K mg base 1 "takes_there" (sp_takes_there D) []) : Held P w D.K mg base 7 f (sp_answer_fixed D) := by
  obtain ⟨fd, F, b⟩ := F.ex
  refine ⟨fd, ["line", "numbers"], C8.fn0 F.fn sc_answer_fixed (fun vs H Q E h => len_answer_fixed h) (fun cdv A outer s H vs Q E hr h => ⟨t_answer_fixed D, ?_, pure_answer_fixed T h⟩), F.kp, b⟩
  exact (pss_cons (ps_set (i := 2) sc_answer_fixed.nd rfl (Or.inr rfl) (pe_ix ix_list (pe_fld (pv 0) rfl) (pe_ix ix_list (pv 1) pe_int (fun _ _ => rfl)) (fun _ _ => rfl))) (pss_cons (ps_set (i := 3) sc_answer_fixed.nd rfl (Or.inl rfl) (C8.pe_c h_in_groups hr (by decide) (by rfl) (pa_cons (pe_slice sl_list (pv 1) (po_some pe_int) po_none) (pa_cons pe_int pa_nil)))) (pss_cons (ps_if (pt_val (C8.pe_c h_lacks_a_row hr (by decide) (by rfl) (pa_cons (pv 2) (pa_cons (pv 3) pa_nil)))) (pss_one (ps_ret (pe_lst (pa_cons (C8.pe_gc rfl T.g_NOT_LET) pa_nil)))) pss_nil) (pss_cons (ps_set (i := 4) sc_answer_fixed.nd rfl (Or.inr rfl) (pe_lc (own := [("x", 5), ("r", 6), ("v", 7)]) (g := gTup D.K 3 (gCons (gName 5) (gCons (gName 6) (gCons (gName 7) gNil)))) (tt := tYes) rfl sc_answer_fixed.nd (pi_list (pv 3)) (blkOk_by (own := [("x", 5), ("r", 6), ("v", 7)]) (N := n_answer_fixed) (sc := C8.fnScope s_answer_fixed) (by decide +kernel)) (fun _ _ _ _ _ => (pg_tup rfl (pgs_cons (pg_name (i := 5) sc_answer_fixed.nd rfl (Or.inl rfl)) (pgs_cons (pg_name (i := 6) sc_answer_fixed.nd rfl (Or.inl rfl)) (pgs_cons (pg_name (i := 7) sc_answer_fixed.nd rfl (Or.inl rfl)) pgs_nil))))) (fun _ _ _ _ _ => pts_nil) (fun _ _ _ _ _ => (pe_tup (pa_cons (C8.pe_c h_place_of_row hr (by decide) (by rfl) (pa_cons (pv 2) (pa_cons (pv 5) (pa_cons (pv 6) pa_nil)))) (pa_cons (pv 7) pa_nil)))))) (pss_cons (ps_set (i := 8) sc_answer_fixed.nd rfl (Or.inl rfl) (C8.pe_c h_maps_between hr (by decide) (by rfl) (pa_cons (pv 0) (pa_cons (pe_ix ix_list (pv 1) pe_int (fun _ _ => rfl)) (pa_cons (pe_ix ix_list (pv 1) pe_int (fun _ _ => rfl)) pa_nil))))) (pss_one (ps_ret (pe_lst (pa_cons (pe_callB call_len_seq (by rfl) T.b_len PySem.boot_len (pa_cons (pe_lc (own := [("taken", 9)]) (g := gName 9) (tt := (tB (tCall (sp_takes_there D) [] C8.E0 (tCons (tVar 9) (tCons (tVar 4) tNil))))) rfl sc_answer_fixed.nd (pi_list (pv 8)) (blkOk_by (own := [("taken", 9)]) (N := n_answer_fixed) (sc := C8.fnScope s_answer_fixed) (by decide +kernel)) (fun _ _ _ _ _ => (pg_name (i := 9) sc_answer_fixed.nd rfl (Or.inl rfl))) (fun _ _ _ _ _ => (pts_one (pt_val (C8.pe_c h_takes_there hr (by decide) (by rfl) (pa_cons (pv 9) (pa_cons (pv 4) pa_nil)))))) (fun _ _ _ _ _ => (pv 9))) pa_nil)) pa_nil)))))))))
theorem okh_answer_alike {f : Addr} (T : Txt D mg) (F : DefF D.K mg "answer_alike" s_answer_alike ["line", "numbers"] f) (h_maps_between : C8.Cal P w D.K mg base 6 "maps_between" (sp_maps_between D) []) (h_takes_to_each_once : C8.Cal P w D.K mg base 1 "takes_to_each_once" (sp_takes_to_each_once D) []) : Held P w D.K mg base 7 f (sp_answer_alike D) := by
  obtain ⟨fd, F, b⟩ := F.ex
  refine ⟨fd, ["line", "numbers"], C8.fn0 F.fn sc_answer_alike (fun vs H Q E h => len_answer_alike h) (fun cdv A outer s H vs Q E hr h => ⟨t_answer_alike D, ?_, pure_answer_alike T h⟩), F.kp, b⟩
  exact (pss_cons (ps_set (i := 2) sc_answer_alike.nd rfl (Or.inr rfl) (pe_ix ix_list (pe_fld (pv 0) rfl) (pe_ix ix_list (pv 1) pe_int (fun _ _ => rfl)) (fun _ _ => rfl))) (pss_cons (ps_set (i := 3) sc_answer_alike.nd rfl (Or.inr rfl) (pe_ix ix_list (pe_fld (pv 0) rfl) (pe_ix ix_list (pv 1) pe_int (fun _ _ => rfl)) (fun _ _ => rfl))) (pss_cons (ps_set (i := 4) sc_answer_alike.nd rfl (Or.inl rfl) (C8.pe_c h_maps_between hr (by decide) (by rfl) (pa_cons (pv 0) (pa_cons (pe_ix ix_list (pv 1) pe_int (fun _ _ => rfl)) (pa_cons (pe_ix ix_list (pv 1) pe_int (fun _ _ => rfl)) pa_nil))))) (pss_one (ps_ret (pe_lst (pa_cons (pe_callB call_len_seq (by rfl) T.b_len PySem.boot_len (pa_cons (pe_lc (own := [("taken", 5)]) (g := gName 5) (tt := (tB (tCall (sp_takes_to_each_once D) [] C8.E0 (tCons (tVar 2) (tCons (tVar 3) (tCons (tVar 5) tNil)))))) rfl sc_answer_alike.nd (pi_list (pv 4)) (blkOk_by (own := [("taken", 5)]) (N := n_answer_alike) (sc := C8.fnScope s_answer_alike) (by decide +kernel)) (fun _ _ _ _ _ => (pg_name (i := 5) sc_answer_alike.nd rfl (Or.inl rfl))) (fun _ _ _ _ _ => (pts_one (pt_val (C8.pe_c h_takes_to_each_once hr (by decide) (by rfl) (pa_cons (pv 2) (pa_cons (pv 3) (pa_cons (pv 5) pa_nil))))))) (fun _ _ _ _ _ => (pv 5))) pa_nil)) pa_nil)))))))
theorem okh_answer_part {f : Addr} (T : Txt D mg) (F : DefF D.K mg "answer_part" s_answer_part ["line", "numbers"] f) (h_in_groups : C8.Cal P w D.K mg base 1 "in_groups" (sp_in_groups D) []) (h_lacks_a_row : C8.Cal P w D.K mg base 2 "lacks_a_row" (sp_lacks_a_row D) []) (h_brought_along : C8.Cal P w D.K mg base 4 "brought_along" (sp_brought_along D) []) (h_place_of_row : C8.Cal P w D.K mg base 1 "place_of_row" (sp_place_of_row D) []) : Held P w D.K mg base 5 f (sp_answer_part D) := by
  obtain ⟨fd, F, b⟩ := F.ex
  refine ⟨fd, ["line", "numbers"], C8.fn0 F.fn sc_answer_part (fun vs H Q E h => len_answer_part h) (fun cdv A outer s H vs Q E hr h => ⟨t_answer_part D, ?_, pure_answer_part T h⟩), F.kp, b⟩
  exact (pss_cons (ps_set (i := 2) sc_answer_part.nd rfl (Or.inr rfl) (pe_ix ix_list (pe_fld (pv 0) rfl) (pe_ix ix_list (pv 1) pe_int (fun _ _ => rfl)) (fun _ _ => rfl))) (pss_cons (ps_set (i := 3) sc_answer_part.nd rfl (Or.inl rfl) (C8.pe_c h_in_groups hr (by decide) (by rfl) (pa_cons (pe_slice sl_list (pv 1) (po_some pe_int) po_none) (pa_cons pe_int pa_nil)))) (pss_cons (ps_if (pt_val (C8.pe_c h_lacks_a_row hr (by decide) (by rfl) (pa_cons (pv 2) (pa_cons (pv 3) pa_nil)))) (pss_one (ps_ret (pe_lst (pa_cons (C8.pe_gc rfl T.g_NOT_LET) pa_nil)))) pss_nil) (pss_cons (ps_setLc (i := 4) (own := [("x", 5), ("r", 6)]) (g := gTup D.K 2 (gCons (gName 5) (gCons (gName 6) gNil))) (tt := tYes) rfl sc_answer_part.nd rfl rfl (sw_true rfl rfl rfl (by decide +kernel)) (pi_list (pv 3)) (blkOk_by (own := [("x", 5), ("r", 6)]) (N := n_answer_part) (sc := C8.fnScope s_answer_part) (by decide +kernel)) (fun _ _ _ _ _ => (pg_tup rfl (pgs_cons (pg_name (i := 5) sc_answer_part.nd rfl (Or.inl rfl)) (pgs_cons (pg_name (i := 6) sc_answer_part.nd rfl (Or.inl rfl)) pgs_nil)))) (fun _ _ _ _ _ => pts_nil) (fun _ _ _ _ _ => (C8.pe_c h_place_of_row hr (by decide) (by rfl) (pa_cons (pv 2) (pa_cons (pv 5) (pa_cons (pv 6) pa_nil)))))) (pss_cons (ps_set (i := 7) sc_answer_part.nd rfl (Or.inl rfl) (C8.pe_c h_brought_along hr (by decide) (by rfl) (pa_cons (pe_fld (pv 0) rfl) (pa_cons (pv 2) (pa_cons (pv 4) pa_nil))))) (pss_cons (ps_set (i := 8) sc_answer_part.nd rfl (Or.inl rfl) (pe_lst (pa_cons (pe_callB call_len_seq (by rfl) T.b_len PySem.boot_len (pa_cons (pv 7) pa_nil)) pa_nil))) (pss_cons (ps_for PassesOwn.never rfl (pi_list (pv 7)) (pg_tup rfl (pgs_cons (pg_name (i := 5) sc_answer_part.nd rfl (Or.inl rfl)) (pgs_cons (pg_name (i := 6) sc_answer_part.nd rfl (Or.inl rfl)) pgs_nil))) (pss_one (ps_expr (pe_bm PySem.F.plainAttrs_list PySem.F.slot_list_extend PySem.F.type_list_extend mt_extend (pv 8) (pa_cons (pe_lst (pa_cons (pv 5) (pa_cons (pv 6) pa_nil))) pa_nil))))) (pss_one (ps_ret (pv 8))))))))))
theorem okh_answer_pieces {f : Addr} (T : Txt D mg) (F : DefF D.K mg "answer_pieces" s_answer_pieces ["line", "numbers"] f) (h_first_places : C8.Cal P w D.K mg base 4 "first_places" (sp_first_places D) []) (h_piece_numbers : C8.Cal P w D.K mg base 1 "piece_numbers" (sp_piece_numbers D) []) : Held P w D.K mg base 5 f (sp_answer_pieces D) := by
  obtain ⟨fd, F, b⟩ := F.ex
  refine ⟨fd, ["line", "numbers"], C8.fn0 F.fn sc_answer_pieces (fun vs H Q E h => len_answer_pieces h) (fun cdv A outer s H vs Q E hr h => ⟨t_answer_pieces D, ?_, pure_answer_pieces T h⟩), F.kp, b⟩
  exact (pss_cons (ps_set (i := 2) sc_answer_pieces.nd rfl (Or.inl rfl) (C8.pe_c h_first_places hr (by decide) (by rfl) (pa_cons (pe_fld (pv 0) rfl) (pa_cons (pe_ix ix_list (pe_fld (pv 0) rfl) (pe_ix ix_list (pv 1) pe_int (fun _ _ => rfl)) (fun _ _ => rfl)) pa_nil)))) (pss_one (ps_ret (pe_op op_cat (pe_lst (pa_cons (pe_lenSetD rfl T.b_len rfl T.b_set (pv 2)) pa_nil)) (C8.pe_c h_piece_numbers hr (by decide) (by rfl) (pa_cons (pv 2) pa_nil))))))
theorem okh_answer_arrows {f : Addr} (T : Txt D mg) (F : DefF D.K mg "answer_arrows" s_answer_arrows ["line", "numbers"] f) (h_arrows_as_rows : C8.Cal P w D.K mg base 3 "arrows_as_rows" (sp_arrows_as_rows D) []) (h_has_thing : C8.Met P w D.K mg base 1 D.cC "has_thing" (sp_has_thing D) []) (h_row_count : C8.Met P w D.K mg base 1 D.cI "row_count" (sp_row_count D) []) : Held P w D.K mg base 4 f (sp_answer_arrows D) := by
  obtain ⟨fd, F, b⟩ := F.ex
  refine ⟨fd, ["line", "numbers"], C8.fn0 F.fn sc_answer_arrows (fun vs H Q E h => len_answer_arrows h) (fun cdv A outer s H vs Q E hr h => ⟨t_answer_arrows D, ?_, pure_answer_arrows T h⟩), F.kp, b⟩
  exact (pss_cons (ps_set (i := 2) sc_answer_arrows.nd rfl (Or.inl rfl) (pe_ix ix_list (pv 1) pe_int (fun _ _ => rfl))) (pss_cons (ps_if (pt_not (pt_val (C8.pe_mt h_has_thing hr (by decide) (pe_fld (pv 0) rfl) (pa_cons (pv 2) pa_nil)))) (pss_one (ps_ret (pe_lst (pa_cons (C8.pe_gc rfl T.g_NOT_LET) pa_nil)))) pss_nil) (pss_cons (ps_set (i := 3) sc_answer_arrows.nd rfl (Or.inl rfl) (C8.pe_c h_arrows_as_rows hr (by decide) (by rfl) (pa_cons (pe_fld (pv 0) rfl) (pa_cons (pv 2) pa_nil)))) (pss_cons (ps_if (pt_cmpR op_gt (C8.pe_mt0 h_row_count hr (by decide) (pv 3)) (C8.pe_gc rfl T.g_MOST_ROWS) (nomark _)) (pss_one (ps_ret (pe_lst (pa_cons (C8.pe_gc rfl T.g_TOO_MANY) pa_nil)))) pss_nil) (pss_cons (ps_asg (pv 3) (pg_sub (pe_fld (pv 0) rfl) (pe_ix ix_list (pv 1) pe_int (fun _ _ => rfl)) set_list)) (pss_one (ps_ret (pe_lst (pa_cons (C8.pe_mt0 h_row_count hr (by decide) (pv 3)) pa_nil)))))))))
theorem okh_answer_map_of {f : Addr} (T : Txt D mg) (F : DefF D.K mg "answer_map_of" s_answer_map_of ["line", "numbers"] f) (h_map_to_row : C8.Cal P w D.K mg base 3 "map_to_row" (sp_map_to_row D) []) (h_has_row : C8.Met P w D.K mg base 1 D.cI "has_row" (sp_has_row D) []) : Held P w D.K mg base 4 f (sp_answer_map_of D) := by
  obtain ⟨fd, F, b⟩ := F.ex
  refine ⟨fd, ["line", "numbers"], C8.fn0 F.fn sc_answer_map_of (fun vs H Q E h => len_answer_map_of h) (fun cdv A outer s H vs Q E hr h => ⟨t_answer_map_of D, ?_, pure_answer_map_of T h⟩), F.kp, b⟩
  exact (pss_cons (ps_set (i := 2) sc_answer_map_of.nd rfl (Or.inl rfl) (pe_ix ix_list (pe_fld (pv 0) rfl) (pe_ix ix_list (pv 1) pe_int (fun _ _ => rfl)) (fun _ _ => rfl))) (pss_cons (ps_set (i := 3) sc_answer_map_of.nd rfl (Or.inl rfl) (pe_ix ix_list (pv 1) pe_int (fun _ _ => rfl))) (pss_cons (ps_set (i := 4) sc_answer_map_of.nd rfl (Or.inl rfl) (pe_ix ix_list (pv 1) pe_int (fun _ _ => rfl))) (pss_cons (ps_if (pt_not (pt_val (C8.pe_mt h_has_row hr (by decide) (pv 2) (pa_cons (pv 3) (pa_cons (pv 4) pa_nil))))) (pss_one (ps_ret (pe_lst (pa_cons (C8.pe_gc rfl T.g_NOT_LET) pa_nil)))) pss_nil) (pss_one (ps_ret (C8.pe_c h_map_to_row hr (by decide) (by rfl) (pa_cons (pe_fld (pv 0) rfl) (pa_cons (pv 2) (pa_cons (pv 3) (pa_cons (pv 4) pa_nil)))))))))))
theorem okh_answer_shows {f : Addr} (T : Txt D mg) (F : DefF D.K mg "answer_shows" s_answer_shows ["line", "numbers"] f) (h_others : C8.Met P w D.K mg base 1 D.cC "others" (sp_others D) []) : Held P w D.K mg base 2 f (sp_answer_shows D) := by
  obtain ⟨fd, F, b⟩ := F.ex
  refine ⟨fd, ["line", "numbers"], C8.fn0 F.fn sc_answer_shows (fun vs H Q E h => len_answer_shows h) (fun cdv A outer s H vs Q E hr h => ⟨t_answer_shows D, ?_, pure_answer_shows T h⟩), F.kp, b⟩
  exact (pss_cons (ps_set (i := 2) sc_answer_shows.nd rfl (Or.inl rfl) (pe_ix ix_list (pe_fld (pv 0) rfl) (pe_ix ix_list (pv 1) pe_int (fun _ _ => rfl)) (fun _ _ => rfl))) (pss_cons (ps_set (i := 3) sc_answer_shows.nd rfl (Or.inl rfl) (pe_callTy call_list_of (by rfl) T.b_list (by decide +kernel) (pa_cons (pe_fld (pv 2) rfl) pa_nil))) (pss_cons (ps_for PassesOwn.never rfl (pi_list (C8.pe_mt0 h_others hr (by decide) (pe_fld (pv 0) rfl))) (pg_name (i := 4) sc_answer_shows.nd rfl (Or.inl rfl)) (pss_one (ps_expr (pe_bm PySem.F.plainAttrs_list PySem.F.slot_list_extend PySem.F.type_list_extend mt_extend (pv 3) (pa_cons (pe_ix ix_list (pe_fld (pv 2) rfl) (pv 4) (fun _ _ => rfl)) pa_nil))))) (pss_one (ps_ret (pv 3))))))
theorem ok_call_length (T : Txt D mg) (F : DefAt D.K mg "call_length" s_call_length ["calls", "place"])  : C8.Cal P w D.K mg base 1 "call_length" (sp_call_length D) [] := by
  obtain ⟨f, fd, F, b⟩ := F.ex
  refine C8.cal0 F b .nil sc_call_length (fun vs H Q E h => len_call_length h) (fun cdv A outer s H vs Q E hr h => ⟨t_call_length D, ?_, pure_call_length T h⟩)
  exact (pss_cons (ps_set (i := 2) sc_call_length.nd rfl (Or.inl rfl) (pe_ix ix_list (pv 0) (pv 1) (fun _ _ => rfl))) (pss_cons (ps_set (i := 3) sc_call_length.nd rfl (Or.inl rfl) (pe_op op_add pe_int (pe_ix ix_tup (pe_ix ix_tup (C8.pe_gc rfl ⟨_, T.g_CALLS, rfl⟩) (pv 2) (fun _ _ => rfl)) pe_int (fun _ _ => rfl)))) (pss_cons (ps_if (pt_val (pe_ix ix_tup (pe_ix ix_tup (C8.pe_gc rfl ⟨_, T.g_CALLS, rfl⟩) (pv 2) (fun _ _ => rfl)) pe_int (fun _ _ => rfl))) (pss_one (ps_set (i := 3) sc_call_length.nd rfl (Or.inl rfl) (pe_op op_add (pe_op op_add (pv 3) pe_int) (pe_ix ix_list (pv 0) (pe_op op_add (pv 1) (pv 3)) (fun _ _ => rfl))))) pss_nil) (pss_one (ps_ret (pv 3))))))
theorem ok_lacks_an_instance (T : Txt D mg) (F : DefAt D.K mg "lacks_an_instance" s_lacks_an_instance ["chosen"])  : C8.Cal P w D.K mg base 1 "lacks_an_instance" (sp_lacks_an_instance D) [] := by
  obtain ⟨f, fd, F, b⟩ := F.ex
  refine C8.cal0 F b .nil sc_lacks_an_instance (fun vs H Q E h => len_lacks_an_instance h) (fun cdv A outer s H vs Q E hr h => ⟨t_lacks_an_instance D, ?_, pure_lacks_an_instance T h⟩)
  exact (pss_cons (ps_for PassesOwn.never rfl (pi_list (pv 0)) (pg_name (i := 1) sc_lacks_an_instance.nd rfl (Or.inl rfl)) (pss_one (ps_if (pt_cmpR op_ge (pv 1) (C8.pe_gc rfl T.g_HOW_MANY_INSTANCES) (nomark _)) (pss_one (ps_ret pe_bl)) pss_nil))) (pss_one (ps_ret pe_bl)))
theorem ok_answer_call (T : Txt D mg) (F : DefAt D.K mg "answer_call" s_answer_call ["line", "call"]) (h_lacks_an_instance : C8.Cal P w D.K mg base 1 "lacks_an_instance" (sp_lacks_an_instance D) []) (h_fulfils : C8.Met P w D.K mg base 8 D.cL "fulfils" (sp_fulfils D) []) (HA : ∀ f sp, An D f sp → Held P w D.K mg base 8 f sp) : C8.Cal P w D.K mg base 9 "answer_call" (sp_answer_call D) [] := by
  obtain ⟨f, fd, F, b⟩ := F.ex
  refine C8.cal0 F b .nil sc_answer_call (fun vs H Q E h => len_answer_call h) (fun cdv A outer s H vs Q E hr h => ⟨t_answer_call D, ?_, pure_answer_call T h⟩)
  exact (pss_cons (ps_set (i := 2) sc_answer_call.nd rfl (Or.inl rfl) (pe_ix ix_list (pv 1) pe_int (fun _ _ => rfl))) (pss_cons (ps_set (i := 3) sc_answer_call.nd rfl (Or.inl rfl) (pe_slice sl_list (pv 1) (po_some pe_int) (po_some (pe_op op_add pe_int (pe_ix ix_tup (pe_ix ix_tup (C8.pe_gc rfl ⟨_, T.g_CALLS, rfl⟩) (pv 2) (fun _ _ => rfl)) pe_int (fun _ _ => rfl)))))) (pss_cons (ps_if (pt_val (C8.pe_c h_lacks_an_instance hr (by decide) (by rfl) (pa_cons (pv 3) pa_nil))) (pss_one (ps_ret (pe_lst (pa_cons (C8.pe_gc rfl T.g_NO_INSTANCE) pa_nil)))) pss_nil) (pss_cons (ps_if (pt_not (pt_val (C8.pe_mt h_fulfils hr (by decide) (pv 0) (pa_cons (pe_ix ix_tup (pe_ix ix_tup (C8.pe_gc rfl ⟨_, T.g_CALLS, rfl⟩) (pv 2) (fun _ _ => rfl)) pe_int (fun _ _ => rfl)) (pa_cons (pv 3) pa_nil))))) (pss_one (ps_ret (pe_lst (pa_cons (C8.pe_gc rfl T.g_NOT_RIGHT) pa_nil)))) pss_nil) (pss_cons (ps_set (i := 4) sc_answer_call.nd rfl (Or.inl rfl) (pe_ix ix_tup (pe_ix ix_tup (C8.pe_gc rfl ⟨_, T.g_CALLS, rfl⟩) (pv 2) (fun _ _ => rfl)) pe_int (fun _ _ => rfl))) (pss_one (ps_ret (pe_callR (k := 8) (i := 4) HA hr rfl (Or.inl rfl) (pa_cons (pv 0) (pa_cons (pe_slice sl_list (pv 1) (po_some pe_int) po_none) pa_nil))))))))))
theorem okf_answers {f : Addr} {fd : FuncData} (T : Txt D mg) (F : C8.Def D.K mg "answers" s_answers f fd) (h_init_Line : C8.Mak P w D.K mg base 4 "Line" D.cL (sp_init_Line D) []) (h_answer_call : C8.Cal P w D.K mg base 9 "answer_call" (sp_answer_call D) []) (h_call_length : C8.Cal P w D.K mg base 1 "call_length" (sp_call_length D) []) : FnOk P w D.K mg base L2.CX0 10 f fd ["calls"] (sp_answers D) := by
  refine C8.fn0 F.fn sc_answers (fun vs H Q E h => len_answers h) (fun cdv A outer s H vs Q E hr h => ⟨t_answers D, ?_, pure_answers T h⟩)
  exact (pss_cons (ps_set (i := 1) sc_answers.nd rfl (Or.inl rfl) (pe_mk0 h_init_Line hr (by decide) (by rfl))) (pss_cons (ps_set (i := 2) sc_answers.nd rfl (Or.inl rfl) (pe_lst pa_nil)) (pss_cons (ps_set (i := 3) sc_answers.nd rfl (Or.inl rfl) pe_int) (pss_cons (ps_while PassesOwn.never (pt_cmpR op_lt (pv 3) (pe_callB call_len_seq (by rfl) T.b_len PySem.boot_len (pa_cons (pv 0) pa_nil)) (nomark _)) (pss_cons (ps_set (i := 4) sc_answers.nd rfl (Or.inl rfl) (pe_op op_add (pv 3) (C8.pe_c h_call_length hr (by decide) (by rfl) (pa_cons (pv 0) (pa_cons (pv 3) pa_nil))))) (pss_cons (ps_set (i := 5) sc_answers.nd rfl (Or.inl rfl) (C8.pe_c h_answer_call hr (by decide) (by rfl) (pa_cons (pv 1) (pa_cons (pe_slice sl_list (pv 0) (po_some (pv 3)) (po_some (pv 4))) pa_nil)))) (pss_cons (ps_expr (pe_bm PySem.F.plainAttrs_list PySem.F.slot_list_append PySem.F.type_list_append mt_append (pv 2) (pa_cons (pe_callB call_len_seq (by rfl) T.b_len PySem.boot_len (pa_cons (pv 5) pa_nil)) pa_nil))) (pss_cons (ps_expr (pe_bm PySem.F.plainAttrs_list PySem.F.slot_list_extend PySem.F.type_list_extend mt_extend (pv 2) (pa_cons (pv 5) pa_nil))) (pss_one (ps_set (i := 3) sc_answers.nd rfl (Or.inl rfl) (pv 4)))))))) (pss_one (ps_ret (pv 2)))))))
end
end AR
set_option Elab.async false
namespace AR
open PySem PySem.Spec PyProof.Rows L2
open PySem.W (Codec)
theorem toNat_lt (z : Int) (h : 0 ≤ z ∧ z ≤ 4294967295) : z.toNat < 4294967296 := by omega
theorem top_S (K : PySem.W.Frag) (H : Hp) (xs : List V) (a : Codec.denoteAll PySem.Challenge.rw_arrowrows_s01_answers.args) (hO : OnlyF H) (hwi : Codec.withinAll PySem.Challenge.rw_arrowrows_s01_answers.args a = true) (hask : Codec.app PySem.Challenge.rw_arrowrows_s01_answers.args PySem.Challenge.rw_arrowrows_s01_answers.asked a = true) (hx : DwAll K H xs (Codec.encAll PySem.Challenge.rw_arrowrows_s01_answers.args a)) :
    spTop K xs H (fun v H' => Dw K H' v (PySem.Challenge.rw_arrowrows_s01_answers.ret.enc (Codec.app PySem.Challenge.rw_arrowrows_s01_answers.args PySem.Challenge.rw_arrowrows_s01_answers.f a))) fun _ _ _ => False := by
  cases hx with
  | cons h1 h2 =>
    cases h2
    cases h1 with
    | lst hs ha =>
      have e := L2.ints_dw a.1 _ ha
      subst e
      have q : ((Codec.inLen 0 1360 a.1 && a.1.all (Codec.inInt 0 4294967295)) && true) = true := hwi
      rw [Bool.and_eq_true, Bool.and_eq_true] at q
      have hb : ∀ z, z ∈ a.1 → 0 ≤ z ∧ z ≤ 4294967295 := fun z hz => by
        have := List.all_eq_true.mp q.1.2 z hz
        simpa [Codec.inInt] using this
      have ec : cst (a.1.map Int.toNat) = a.1 := cst_toNat fun z hz => (hb z hz).1
      have hask' : PyFc02.answers_asked a.1 = true := hask
      obtain ⟨raw, A⟩ := asked_of hask'
      refine ⟨_, a.1.map Int.toNat, raw, rfl, ?_, ?_, fun n hn => ?_, by rw [ec]; exact A, fun H' r hr => ?_⟩
      · have e : (a.1.map Int.toNat).map kN = a.1.map V.int := by rw [map_kN]; show (cst (a.1.map Int.toNat)).map V.int = _; rw [ec]
        rw [e]
        exact hs
      · rw [List.length_map]
        exact (Codec.inNat_iff.mp q.1.1).2
      · obtain ⟨z, hz, rfl⟩ := List.mem_map.mp hn
        exact toNat_lt z (hb z hz)
      · rw [ec] at hr
        exact .lst (L2.SqL.of hr) (L2.dw_ints _)
end AR
set_option Elab.async false
set_option linter.all false
set_option maxRecDepth 100000
set_option maxHeartbeats 8000000
/-! The end: what the top has written (printed by mkend.py). -/
namespace AR
open PySem PySem.Spec PyProof.Rows L2
theorem all_mk {P : Program} {w : World} {K : PySem.W.Frag} {h : Heap} {mg : Str → Option Value} {fa : Addr} {cC : Addr} {cI : Addr} {cL : Addr} {f0 : Addr} {od0 an0 : Option Addr} {sl0 : Array (Option Value)} {oc0 kV0 dc0 pm0 cd0 ct0 : Value} {f1 : Addr} {od1 an1 : Option Addr} {sl1 : Array (Option Value)} {oc1 kV1 dc1 pm1 cd1 ct1 : Value} {f2 : Addr} {od2 an2 : Option Addr} {sl2 : Array (Option Value)} {oc2 kV2 dc2 pm2 cd2 ct2 : Value} {f3 : Addr} {od3 an3 : Option Addr} {sl3 : Array (Option Value)} {oc3 kV3 dc3 pm3 cd3 ct3 : Value} {f4 : Addr} {od4 an4 : Option Addr} {sl4 : Array (Option Value)} {oc4 kV4 dc4 pm4 cd4 ct4 : Value} {f5 : Addr} {od5 an5 : Option Addr} {sl5 : Array (Option Value)} {oc5 kV5 dc5 pm5 cd5 ct5 : Value} {f6 : Addr} {od6 an6 : Option Addr} {sl6 : Array (Option Value)} {oc6 kV6 dc6 pm6 cd6 ct6 : Value} {f7 : Addr} {od7 an7 : Option Addr} {sl7 : Array (Option Value)} {oc7 kV7 dc7 pm7 cd7 ct7 : Value} {f8 : Addr} {od8 an8 : Option Addr} {sl8 : Array (Option Value)} {oc8 kV8 dc8 pm8 cd8 ct8 : Value} {f9 : Addr} {od9 an9 : Option Addr} {sl9 : Array (Option Value)} {oc9 kV9 dc9 pm9 cd9 ct9 : Value} {f10 : Addr} {od10 an10 : Option Addr} {sl10 : Array (Option Value)} {oc10 kV10 dc10 pm10 cd10 ct10 : Value} {f11 : Addr} {od11 an11 : Option Addr} {sl11 : Array (Option Value)} {oc11 kV11 dc11 pm11 cd11 ct11 : Value} {f12 : Addr} {od12 an12 : Option Addr} {sl12 : Array (Option Value)} {oc12 kV12 dc12 pm12 cd12 ct12 : Value} {f13 : Addr} {od13 an13 : Option Addr} {sl13 : Array (Option Value)} {oc13 kV13 dc13 pm13 cd13 ct13 : Value} {f14 : Addr} {od14 an14 : Option Addr} {sl14 : Array (Option Value)} {oc14 kV14 dc14 pm14 cd14 ct14 : Value} {f15 : Addr} {od15 an15 : Option Addr} {sl15 : Array (Option Value)} {oc15 kV15 dc15 pm15 cd15 ct15 : Value} {f16 : Addr} {od16 an16 : Option Addr} {sl16 : Array (Option Value)} {oc16 kV16 dc16 pm16 cd16 ct16 : Value} {f17 : Addr} {od17 an17 : Option Addr} {sl17 : Array (Option Value)} {oc17 kV17 dc17 pm17 cd17 ct17 : Value} {f18 : Addr} {od18 an18 : Option Addr} {sl18 : Array (Option Value)} {oc18 kV18 dc18 pm18 cd18 ct18 : Value} {f19 : Addr} {od19 an19 : Option Addr} {sl19 : Array (Option Value)} {oc19 kV19 dc19 pm19 cd19 ct19 : Value} {f20 : Addr} {od20 an20 : Option Addr} {sl20 : Array (Option Value)} {oc20 kV20 dc20 pm20 cd20 ct20 : Value} {f21 : Addr} {od21 an21 : Option Addr} {sl21 : Array (Option Value)} {oc21 kV21 dc21 pm21 cd21 ct21 : Value} {f22 : Addr} {od22 an22 : Option Addr} {sl22 : Array (Option Value)} {oc22 kV22 dc22 pm22 cd22 ct22 : Value} {f23 : Addr} {od23 an23 : Option Addr} {sl23 : Array (Option Value)} {oc23 kV23 dc23 pm23 cd23 ct23 : Value} {f24 : Addr} {od24 an24 : Option Addr} {sl24 : Array (Option Value)} {oc24 kV24 dc24 pm24 cd24 ct24 : Value} {f25 : Addr} {od25 an25 : Option Addr} {sl25 : Array (Option Value)} {oc25 kV25 dc25 pm25 cd25 ct25 : Value} {f26 : Addr} {od26 an26 : Option Addr} {sl26 : Array (Option Value)} {oc26 kV26 dc26 pm26 cd26 ct26 : Value} {f27 : Addr} {od27 an27 : Option Addr} {sl27 : Array (Option Value)} {oc27 kV27 dc27 pm27 cd27 ct27 : Value} {f28 : Addr} {od28 an28 : Option Addr} {sl28 : Array (Option Value)} {oc28 kV28 dc28 pm28 cd28 ct28 : Value} {f29 : Addr} {od29 an29 : Option Addr} {sl29 : Array (Option Value)} {oc29 kV29 dc29 pm29 cd29 ct29 : Value} {f30 : Addr} {od30 an30 : Option Addr} {sl30 : Array (Option Value)} {oc30 kV30 dc30 pm30 cd30 ct30 : Value} {f31 : Addr} {od31 an31 : Option Addr} {sl31 : Array (Option Value)} {oc31 kV31 dc31 pm31 cd31 ct31 : Value} {f32 : Addr} {od32 an32 : Option Addr} {sl32 : Array (Option Value)} {oc32 kV32 dc32 pm32 cd32 ct32 : Value} {f33 : Addr} {od33 an33 : Option Addr} {sl33 : Array (Option Value)} {oc33 kV33 dc33 pm33 cd33 ct33 : Value} {f34 : Addr} {od34 an34 : Option Addr} {sl34 : Array (Option Value)} {oc34 kV34 dc34 pm34 cd34 ct34 : Value} {f35 : Addr} {od35 an35 : Option Addr} {sl35 : Array (Option Value)} {oc35 kV35 dc35 pm35 cd35 ct35 : Value} {f36 : Addr} {od36 an36 : Option Addr} {sl36 : Array (Option Value)} {oc36 kV36 dc36 pm36 cd36 ct36 : Value} {f37 : Addr} {od37 an37 : Option Addr} {sl37 : Array (Option Value)} {oc37 kV37 dc37 pm37 cd37 ct37 : Value} {f38 : Addr} {od38 an38 : Option Addr} {sl38 : Array (Option Value)} {oc38 kV38 dc38 pm38 cd38 ct38 : Value} {f39 : Addr} {od39 an39 : Option Addr} {sl39 : Array (Option Value)} {oc39 kV39 dc39 pm39 cd39 ct39 : Value} {f40 : Addr} {od40 an40 : Option Addr} {sl40 : Array (Option Value)} {oc40 kV40 dc40 pm40 cd40 ct40 : Value} {f41 : Addr} {od41 an41 : Option Addr} {sl41 : Array (Option Value)} {oc41 kV41 dc41 pm41 cd41 ct41 : Value} {f42 : Addr} {od42 an42 : Option Addr} {sl42 : Array (Option Value)} {oc42 kV42 dc42 pm42 cd42 ct42 : Value} {f43 : Addr} {od43 an43 : Option Addr} {sl43 : Array (Option Value)} {oc43 kV43 dc43 pm43 cd43 ct43 : Value} {f44 : Addr} {od44 an44 : Option Addr} {sl44 : Array (Option Value)} {oc44 kV44 dc44 pm44 cd44 ct44 : Value} {f45 : Addr} {od45 an45 : Option Addr} {sl45 : Array (Option Value)} {oc45 kV45 dc45 pm45 cd45 ct45 : Value} {f46 : Addr} {od46 an46 : Option Addr} {sl46 : Array (Option Value)} {oc46 kV46 dc46 pm46 cd46 ct46 : Value} {f47 : Addr} {od47 an47 : Option Addr} {sl47 : Array (Option Value)} {oc47 kV47 dc47 pm47 cd47 ct47 : Value} {f48 : Addr} {od48 an48 : Option Addr} {sl48 : Array (Option Value)} {oc48 kV48 dc48 pm48 cd48 ct48 : Value} {f49 : Addr} {od49 an49 : Option Addr} {sl49 : Array (Option Value)} {oc49 kV49 dc49 pm49 cd49 ct49 : Value} {f50 : Addr} {od50 an50 : Option Addr} {sl50 : Array (Option Value)} {oc50 kV50 dc50 pm50 cd50 ct50 : Value} {f51 : Addr} {od51 an51 : Option Addr} {sl51 : Array (Option Value)} {oc51 kV51 dc51 pm51 cd51 ct51 : Value} {f52 : Addr} {od52 an52 : Option Addr} {sl52 : Array (Option Value)} {oc52 kV52 dc52 pm52 cd52 ct52 : Value} {f53 : Addr} {od53 an53 : Option Addr} {sl53 : Array (Option Value)} {oc53 kV53 dc53 pm53 cd53 ct53 : Value} {f54 : Addr} {od54 an54 : Option Addr} {sl54 : Array (Option Value)} {oc54 kV54 dc54 pm54 cd54 ct54 : Value} {f55 : Addr} {od55 an55 : Option Addr} {sl55 : Array (Option Value)} {oc55 kV55 dc55 pm55 cd55 ct55 : Value} {f56 : Addr} {od56 an56 : Option Addr} {sl56 : Array (Option Value)} {oc56 kV56 dc56 pm56 cd56 ct56 : Value} {f57 : Addr} {od57 an57 : Option Addr} {sl57 : Array (Option Value)} {oc57 kV57 dc57 pm57 cd57 ct57 : Value} {f58 : Addr} {od58 an58 : Option Addr} {sl58 : Array (Option Value)} {oc58 kV58 dc58 pm58 cd58 ct58 : Value} {f59 : Addr} {od59 an59 : Option Addr} {sl59 : Array (Option Value)} {oc59 kV59 dc59 pm59 cd59 ct59 : Value} {f60 : Addr} {od60 an60 : Option Addr} {sl60 : Array (Option Value)} {oc60 kV60 dc60 pm60 cd60 ct60 : Value} {f61 : Addr} {od61 an61 : Option Addr} {sl61 : Array (Option Value)} {oc61 kV61 dc61 pm61 cd61 ct61 : Value} {f62 : Addr} {od62 an62 : Option Addr} {sl62 : Array (Option Value)} {oc62 kV62 dc62 pm62 cd62 ct62 : Value} {f63 : Addr} {od63 an63 : Option Addr} {sl63 : Array (Option Value)} {oc63 kV63 dc63 pm63 cd63 ct63 : Value} {f64 : Addr} {od64 an64 : Option Addr} {sl64 : Array (Option Value)} {oc64 kV64 dc64 pm64 cd64 ct64 : Value} {f65 : Addr} {od65 an65 : Option Addr} {sl65 : Array (Option Value)} {oc65 kV65 dc65 pm65 cd65 ct65 : Value} {f66 : Addr} {od66 an66 : Option Addr} {sl66 : Array (Option Value)} {oc66 kV66 dc66 pm66 cd66 ct66 : Value} {f67 : Addr} {od67 an67 : Option Addr} {sl67 : Array (Option Value)} {oc67 kV67 dc67 pm67 cd67 ct67 : Value} {f68 : Addr} {od68 an68 : Option Addr} {sl68 : Array (Option Value)} {oc68 kV68 dc68 pm68 cd68 ct68 : Value} {t_UNTOLD : Nat} {t_NOT_LET : Nat} {t_NO_INSTANCE : Nat} {t_NOT_THERE : Nat} {t_TOO_MANY : Nat} {t_NOT_RIGHT : Nat} {t_MOST_THINGS : Nat} {t_MOST_ARROWS : Nat} {t_MOST_ROWS : Nat} {t_HOW_MANY_INSTANCES : Nat} {T : Addr} {odT : Option Addr} {nT : Nat} {slT : Array (Option Value)} {r0 r1 r2 r3 r4 r5 r6 r7 r8 r9 r10 r11 r12 r13 r14 : Addr} {u0_0 u0_1 u0_3 : Nat} {odR0 : Option Addr} {nR0 : Nat} {slR0 : Array (Option Value)} {u1_0 u1_1 u1_3 : Nat} {odR1 : Option Addr} {nR1 : Nat} {slR1 : Array (Option Value)} {u2_0 u2_1 u2_3 : Nat} {odR2 : Option Addr} {nR2 : Nat} {slR2 : Array (Option Value)} {u3_0 u3_1 u3_3 : Nat} {odR3 : Option Addr} {nR3 : Nat} {slR3 : Array (Option Value)} {u4_0 u4_1 u4_3 : Nat} {odR4 : Option Addr} {nR4 : Nat} {slR4 : Array (Option Value)} {u5_0 u5_1 u5_3 : Nat} {odR5 : Option Addr} {nR5 : Nat} {slR5 : Array (Option Value)} {u6_0 u6_1 u6_3 : Nat} {odR6 : Option Addr} {nR6 : Nat} {slR6 : Array (Option Value)} {u7_0 u7_1 u7_3 : Nat} {odR7 : Option Addr} {nR7 : Nat} {slR7 : Array (Option Value)} {u8_0 u8_1 u8_3 : Nat} {odR8 : Option Addr} {nR8 : Nat} {slR8 : Array (Option Value)} {u9_0 u9_1 u9_3 : Nat} {odR9 : Option Addr} {nR9 : Nat} {slR9 : Array (Option Value)} {u10_0 u10_1 u10_3 : Nat} {odR10 : Option Addr} {nR10 : Nat} {slR10 : Array (Option Value)} {u11_0 u11_1 u11_3 : Nat} {odR11 : Option Addr} {nR11 : Nat} {slR11 : Array (Option Value)} {u12_0 u12_1 u12_3 : Nat} {odR12 : Option Addr} {nR12 : Nat} {slR12 : Array (Option Value)} {u13_0 u13_1 u13_3 : Nat} {odR13 : Option Addr} {nR13 : Nat} {slR13 : Array (Option Value)} {u14_0 u14_1 u14_3 : Nat} {odR14 : Option Addr} {nR14 : Nat} {slR14 : Array (Option Value)} (X : K.In h) (G : h.Ns mainGlobals mg) (hfa : mg "answers" = some (.ref fa))
    (acC : PySem.W.nsIn K mainGlobals "Category" = some (some (.ref cC)))
    (acI : PySem.W.nsIn K mainGlobals "Instance" = some (some (.ref cI)))
    (acL : PySem.W.nsIn K mainGlobals "Line" = some (some (.ref cL)))
    (a0 : PySem.W.findIn K (.ref cC) "__init__" = some (some (.ref f0)))
    (i0 : PySem.W.isFn K (.ref f0) = true)
    (l0 : K.lookup f0 = some ⟨oc0, od0, .func (PySem.W.fnOf "__init__" "Category.__init__" (C8.fnArgs s_init_Category) (C8.fnBody s_init_Category) (C8.fnScope s_init_Category) .none kV0 dc0 pm0 an0 cd0 ct0), sl0⟩)
    (c0 : PySem.W.codeIn K cd0 "Category.__init__" = true)
    (k0 : PySem.W.keepIn K (.ref f0) = true)
    (a1 : PySem.W.findIn K (.ref cC) "has_thing" = some (some (.ref f1)))
    (i1 : PySem.W.isFn K (.ref f1) = true)
    (l1 : K.lookup f1 = some ⟨oc1, od1, .func (PySem.W.fnOf "has_thing" "Category.has_thing" (C8.fnArgs s_has_thing) (C8.fnBody s_has_thing) (C8.fnScope s_has_thing) .none kV1 dc1 pm1 an1 cd1 ct1), sl1⟩)
    (c1 : PySem.W.codeIn K cd1 "Category.has_thing" = true)
    (k1 : PySem.W.keepIn K (.ref f1) = true)
    (a2 : PySem.W.findIn K (.ref cC) "has_arrow" = some (some (.ref f2)))
    (i2 : PySem.W.isFn K (.ref f2) = true)
    (l2 : K.lookup f2 = some ⟨oc2, od2, .func (PySem.W.fnOf "has_arrow" "Category.has_arrow" (C8.fnArgs s_has_arrow) (C8.fnBody s_has_arrow) (C8.fnScope s_has_arrow) .none kV2 dc2 pm2 an2 cd2 ct2), sl2⟩)
    (c2 : PySem.W.codeIn K cd2 "Category.has_arrow" = true)
    (k2 : PySem.W.keepIn K (.ref f2) = true)
    (a3 : PySem.W.findIn K (.ref cC) "is_own" = some (some (.ref f3)))
    (i3 : PySem.W.isFn K (.ref f3) = true)
    (l3 : K.lookup f3 = some ⟨oc3, od3, .func (PySem.W.fnOf "is_own" "Category.is_own" (C8.fnArgs s_is_own) (C8.fnBody s_is_own) (C8.fnScope s_is_own) .none kV3 dc3 pm3 an3 cd3 ct3), sl3⟩)
    (c3 : PySem.W.codeIn K cd3 "Category.is_own" = true)
    (k3 : PySem.W.keepIn K (.ref f3) = true)
    (a4 : PySem.W.findIn K (.ref cC) "source" = some (some (.ref f4)))
    (i4 : PySem.W.isFn K (.ref f4) = true)
    (l4 : K.lookup f4 = some ⟨oc4, od4, .func (PySem.W.fnOf "source" "Category.source" (C8.fnArgs s_source) (C8.fnBody s_source) (C8.fnScope s_source) .none kV4 dc4 pm4 an4 cd4 ct4), sl4⟩)
    (c4 : PySem.W.codeIn K cd4 "Category.source" = true)
    (k4 : PySem.W.keepIn K (.ref f4) = true)
    (a5 : PySem.W.findIn K (.ref cC) "target" = some (some (.ref f5)))
    (i5 : PySem.W.isFn K (.ref f5) = true)
    (l5 : K.lookup f5 = some ⟨oc5, od5, .func (PySem.W.fnOf "target" "Category.target" (C8.fnArgs s_target) (C8.fnBody s_target) (C8.fnScope s_target) .none kV5 dc5 pm5 an5 cd5 ct5), sl5⟩)
    (c5 : PySem.W.codeIn K cd5 "Category.target" = true)
    (k5 : PySem.W.keepIn K (.ref f5) = true)
    (a6 : PySem.W.findIn K (.ref cC) "touches" = some (some (.ref f6)))
    (i6 : PySem.W.isFn K (.ref f6) = true)
    (l6 : K.lookup f6 = some ⟨oc6, od6, .func (PySem.W.fnOf "touches" "Category.touches" (C8.fnArgs s_touches) (C8.fnBody s_touches) (C8.fnScope s_touches) .none kV6 dc6 pm6 an6 cd6 ct6), sl6⟩)
    (c6 : PySem.W.codeIn K cd6 "Category.touches" = true)
    (k6 : PySem.W.keepIn K (.ref f6) = true)
    (a7 : PySem.W.findIn K (.ref cC) "meet" = some (some (.ref f7)))
    (i7 : PySem.W.isFn K (.ref f7) = true)
    (l7 : K.lookup f7 = some ⟨oc7, od7, .func (PySem.W.fnOf "meet" "Category.meet" (C8.fnArgs s_meet) (C8.fnBody s_meet) (C8.fnScope s_meet) .none kV7 dc7 pm7 an7 cd7 ct7), sl7⟩)
    (c7 : PySem.W.codeIn K cd7 "Category.meet" = true)
    (k7 : PySem.W.keepIn K (.ref f7) = true)
    (a8 : PySem.W.findIn K (.ref cC) "others" = some (some (.ref f8)))
    (i8 : PySem.W.isFn K (.ref f8) = true)
    (l8 : K.lookup f8 = some ⟨oc8, od8, .func (PySem.W.fnOf "others" "Category.others" (C8.fnArgs s_others) (C8.fnBody s_others) (C8.fnScope s_others) .none kV8 dc8 pm8 an8 cd8 ct8), sl8⟩)
    (c8 : PySem.W.codeIn K cd8 "Category.others" = true)
    (k8 : PySem.W.keepIn K (.ref f8) = true)
    (a9 : PySem.W.findIn K (.ref cC) "made" = some (some (.ref f9)))
    (i9 : PySem.W.isFn K (.ref f9) = true)
    (l9 : K.lookup f9 = some ⟨oc9, od9, .func (PySem.W.fnOf "made" "Category.made" (C8.fnArgs s_made) (C8.fnBody s_made) (C8.fnScope s_made) .none kV9 dc9 pm9 an9 cd9 ct9), sl9⟩)
    (c9 : PySem.W.codeIn K cd9 "Category.made" = true)
    (k9 : PySem.W.keepIn K (.ref f9) = true)
    (a10 : PySem.W.nsIn K mainGlobals "arrows_between" = some (some (.ref f10)))
    (l10 : K.lookup f10 = some ⟨oc10, od10, .func (PySem.W.fnOf "arrows_between" "arrows_between" (C8.fnArgs s_arrows_between) (C8.fnBody s_arrows_between) (C8.fnScope s_arrows_between) .none kV10 dc10 pm10 an10 cd10 ct10), sl10⟩)
    (c10 : PySem.W.codeIn K cd10 "arrows_between" = true)
    (k10 : PySem.W.keepIn K (.ref f10) = true)
    (a11 : PySem.W.nsIn K mainGlobals "meeting_pairs" = some (some (.ref f11)))
    (l11 : K.lookup f11 = some ⟨oc11, od11, .func (PySem.W.fnOf "meeting_pairs" "meeting_pairs" (C8.fnArgs s_meeting_pairs) (C8.fnBody s_meeting_pairs) (C8.fnScope s_meeting_pairs) .none kV11 dc11 pm11 an11 cd11 ct11), sl11⟩)
    (c11 : PySem.W.codeIn K cd11 "meeting_pairs" = true)
    (k11 : PySem.W.keepIn K (.ref f11) = true)
    (a12 : PySem.W.nsIn K mainGlobals "pair_fits" = some (some (.ref f12)))
    (l12 : K.lookup f12 = some ⟨oc12, od12, .func (PySem.W.fnOf "pair_fits" "pair_fits" (C8.fnArgs s_pair_fits) (C8.fnBody s_pair_fits) (C8.fnScope s_pair_fits) .none kV12 dc12 pm12 an12 cd12 ct12), sl12⟩)
    (c12 : PySem.W.codeIn K cd12 "pair_fits" = true)
    (k12 : PySem.W.keepIn K (.ref f12) = true)
    (a13 : PySem.W.nsIn K mainGlobals "triple_agrees" = some (some (.ref f13)))
    (l13 : K.lookup f13 = some ⟨oc13, od13, .func (PySem.W.fnOf "triple_agrees" "triple_agrees" (C8.fnArgs s_triple_agrees) (C8.fnBody s_triple_agrees) (C8.fnScope s_triple_agrees) .none kV13 dc13 pm13 an13 cd13 ct13), sl13⟩)
    (c13 : PySem.W.codeIn K cd13 "triple_agrees" = true)
    (k13 : PySem.W.keepIn K (.ref f13) = true)
    (a14 : PySem.W.nsIn K mainGlobals "is_category" = some (some (.ref f14)))
    (l14 : K.lookup f14 = some ⟨oc14, od14, .func (PySem.W.fnOf "is_category" "is_category" (C8.fnArgs s_is_category) (C8.fnBody s_is_category) (C8.fnScope s_is_category) .none kV14 dc14 pm14 an14 cd14 ct14), sl14⟩)
    (c14 : PySem.W.codeIn K cd14 "is_category" = true)
    (k14 : PySem.W.keepIn K (.ref f14) = true)
    (a15 : PySem.W.findIn K (.ref cI) "__init__" = some (some (.ref f15)))
    (i15 : PySem.W.isFn K (.ref f15) = true)
    (l15 : K.lookup f15 = some ⟨oc15, od15, .func (PySem.W.fnOf "__init__" "Instance.__init__" (C8.fnArgs s_init_Instance) (C8.fnBody s_init_Instance) (C8.fnScope s_init_Instance) .none kV15 dc15 pm15 an15 cd15 ct15), sl15⟩)
    (c15 : PySem.W.codeIn K cd15 "Instance.__init__" = true)
    (k15 : PySem.W.keepIn K (.ref f15) = true)
    (a16 : PySem.W.findIn K (.ref cI) "row_count" = some (some (.ref f16)))
    (i16 : PySem.W.isFn K (.ref f16) = true)
    (l16 : K.lookup f16 = some ⟨oc16, od16, .func (PySem.W.fnOf "row_count" "Instance.row_count" (C8.fnArgs s_row_count) (C8.fnBody s_row_count) (C8.fnScope s_row_count) .none kV16 dc16 pm16 an16 cd16 ct16), sl16⟩)
    (c16 : PySem.W.codeIn K cd16 "Instance.row_count" = true)
    (k16 : PySem.W.keepIn K (.ref f16) = true)
    (a17 : PySem.W.findIn K (.ref cI) "has_row" = some (some (.ref f17)))
    (i17 : PySem.W.isFn K (.ref f17) = true)
    (l17 : K.lookup f17 = some ⟨oc17, od17, .func (PySem.W.fnOf "has_row" "Instance.has_row" (C8.fnArgs s_has_row) (C8.fnBody s_has_row) (C8.fnScope s_has_row) .none kV17 dc17 pm17 an17 cd17 ct17), sl17⟩)
    (c17 : PySem.W.codeIn K cd17 "Instance.has_row" = true)
    (k17 : PySem.W.keepIn K (.ref f17) = true)
    (a18 : PySem.W.nsIn K mainGlobals "put_rows" = some (some (.ref f18)))
    (l18 : K.lookup f18 = some ⟨oc18, od18, .func (PySem.W.fnOf "put_rows" "put_rows" (C8.fnArgs s_put_rows) (C8.fnBody s_put_rows) (C8.fnScope s_put_rows) .none kV18 dc18 pm18 an18 cd18 ct18), sl18⟩)
    (c18 : PySem.W.codeIn K cd18 "put_rows" = true)
    (k18 : PySem.W.keepIn K (.ref f18) = true)
    (a19 : PySem.W.nsIn K mainGlobals "leads_to" = some (some (.ref f19)))
    (l19 : K.lookup f19 = some ⟨oc19, od19, .func (PySem.W.fnOf "leads_to" "leads_to" (C8.fnArgs s_leads_to) (C8.fnBody s_leads_to) (C8.fnScope s_leads_to) .none kV19 dc19 pm19 an19 cd19 ct19), sl19⟩)
    (c19 : PySem.W.codeIn K cd19 "leads_to" = true)
    (k19 : PySem.W.keepIn K (.ref f19) = true)
    (a20 : PySem.W.nsIn K mainGlobals "fault_of_row" = some (some (.ref f20)))
    (l20 : K.lookup f20 = some ⟨oc20, od20, .func (PySem.W.fnOf "fault_of_row" "fault_of_row" (C8.fnArgs s_fault_of_row) (C8.fnBody s_fault_of_row) (C8.fnScope s_fault_of_row) .none kV20 dc20 pm20 an20 cd20 ct20), sl20⟩)
    (c20 : PySem.W.codeIn K cd20 "fault_of_row" = true)
    (k20 : PySem.W.keepIn K (.ref f20) = true)
    (a21 : PySem.W.nsIn K mainGlobals "first_missing" = some (some (.ref f21)))
    (l21 : K.lookup f21 = some ⟨oc21, od21, .func (PySem.W.fnOf "first_missing" "first_missing" (C8.fnArgs s_first_missing) (C8.fnBody s_first_missing) (C8.fnScope s_first_missing) .none kV21 dc21 pm21 an21 cd21 ct21), sl21⟩)
    (c21 : PySem.W.codeIn K cd21 "first_missing" = true)
    (k21 : PySem.W.keepIn K (.ref f21) = true)
    (a22 : PySem.W.nsIn K mainGlobals "leads_elsewhere" = some (some (.ref f22)))
    (l22 : K.lookup f22 = some ⟨oc22, od22, .func (PySem.W.fnOf "leads_elsewhere" "leads_elsewhere" (C8.fnArgs s_leads_elsewhere) (C8.fnBody s_leads_elsewhere) (C8.fnScope s_leads_elsewhere) .none kV22 dc22 pm22 an22 cd22 ct22), sl22⟩)
    (c22 : PySem.W.codeIn K cd22 "leads_elsewhere" = true)
    (k22 : PySem.W.keepIn K (.ref f22) = true)
    (a23 : PySem.W.nsIn K mainGlobals "first_elsewhere" = some (some (.ref f23)))
    (l23 : K.lookup f23 = some ⟨oc23, od23, .func (PySem.W.fnOf "first_elsewhere" "first_elsewhere" (C8.fnArgs s_first_elsewhere) (C8.fnBody s_first_elsewhere) (C8.fnScope s_first_elsewhere) .none kV23 dc23 pm23 an23 cd23 ct23), sl23⟩)
    (c23 : PySem.W.codeIn K cd23 "first_elsewhere" = true)
    (k23 : PySem.W.keepIn K (.ref f23) = true)
    (a24 : PySem.W.nsIn K mainGlobals "first_fault" = some (some (.ref f24)))
    (l24 : K.lookup f24 = some ⟨oc24, od24, .func (PySem.W.fnOf "first_fault" "first_fault" (C8.fnArgs s_first_fault) (C8.fnBody s_first_fault) (C8.fnScope s_first_fault) .none kV24 dc24 pm24 an24 cd24 ct24), sl24⟩)
    (c24 : PySem.W.codeIn K cd24 "first_fault" = true)
    (k24 : PySem.W.keepIn K (.ref f24) = true)
    (a25 : PySem.W.nsIn K mainGlobals "is_right" = some (some (.ref f25)))
    (l25 : K.lookup f25 = some ⟨oc25, od25, .func (PySem.W.fnOf "is_right" "is_right" (C8.fnArgs s_is_right) (C8.fnBody s_is_right) (C8.fnScope s_is_right) .none kV25 dc25 pm25 an25 cd25 ct25), sl25⟩)
    (c25 : PySem.W.codeIn K cd25 "is_right" = true)
    (k25 : PySem.W.keepIn K (.ref f25) = true)
    (a26 : PySem.W.nsIn K mainGlobals "empty_instances" = some (some (.ref f26)))
    (l26 : K.lookup f26 = some ⟨oc26, od26, .func (PySem.W.fnOf "empty_instances" "empty_instances" (C8.fnArgs s_empty_instances) (C8.fnBody s_empty_instances) (C8.fnScope s_empty_instances) .none kV26 dc26 pm26 an26 cd26 ct26), sl26⟩)
    (c26 : PySem.W.codeIn K cd26 "empty_instances" = true)
    (k26 : PySem.W.keepIn K (.ref f26) = true)
    (a27 : PySem.W.findIn K (.ref cL) "__init__" = some (some (.ref f27)))
    (i27 : PySem.W.isFn K (.ref f27) = true)
    (l27 : K.lookup f27 = some ⟨oc27, od27, .func (PySem.W.fnOf "__init__" "Line.__init__" (C8.fnArgs s_init_Line) (C8.fnBody s_init_Line) (C8.fnScope s_init_Line) .none kV27 dc27 pm27 an27 cd27 ct27), sl27⟩)
    (c27 : PySem.W.codeIn K cd27 "Line.__init__" = true)
    (k27 : PySem.W.keepIn K (.ref f27) = true)
    (a28 : PySem.W.findIn K (.ref cL) "begin_anew" = some (some (.ref f28)))
    (i28 : PySem.W.isFn K (.ref f28) = true)
    (l28 : K.lookup f28 = some ⟨oc28, od28, .func (PySem.W.fnOf "begin_anew" "Line.begin_anew" (C8.fnArgs s_begin_anew) (C8.fnBody s_begin_anew) (C8.fnScope s_begin_anew) .none kV28 dc28 pm28 an28 cd28 ct28), sl28⟩)
    (c28 : PySem.W.codeIn K cd28 "Line.begin_anew" = true)
    (k28 : PySem.W.keepIn K (.ref f28) = true)
    (a29 : PySem.W.findIn K (.ref cL) "put_arrow" = some (some (.ref f29)))
    (i29 : PySem.W.isFn K (.ref f29) = true)
    (l29 : K.lookup f29 = some ⟨oc29, od29, .func (PySem.W.fnOf "put_arrow" "Line.put_arrow" (C8.fnArgs s_put_arrow) (C8.fnBody s_put_arrow) (C8.fnScope s_put_arrow) .none kV29 dc29 pm29 an29 cd29 ct29), sl29⟩)
    (c29 : PySem.W.codeIn K cd29 "Line.put_arrow" = true)
    (k29 : PySem.W.keepIn K (.ref f29) = true)
    (a30 : PySem.W.findIn K (.ref cL) "fulfils" = some (some (.ref f30)))
    (i30 : PySem.W.isFn K (.ref f30) = true)
    (l30 : K.lookup f30 = some ⟨oc30, od30, .func (PySem.W.fnOf "fulfils" "Line.fulfils" (C8.fnArgs s_fulfils) (C8.fnBody s_fulfils) (C8.fnScope s_fulfils) .none kV30 dc30 pm30 an30 cd30 ct30), sl30⟩)
    (c30 : PySem.W.codeIn K cd30 "Line.fulfils" = true)
    (k30 : PySem.W.keepIn K (.ref f30) = true)
    (a31 : PySem.W.findIn K (.ref cL) "all_right" = some (some (.ref f31)))
    (i31 : PySem.W.isFn K (.ref f31) = true)
    (l31 : K.lookup f31 = some ⟨oc31, od31, .func (PySem.W.fnOf "all_right" "Line.all_right" (C8.fnArgs s_all_right) (C8.fnBody s_all_right) (C8.fnScope s_all_right) .none kV31 dc31 pm31 an31 cd31 ct31), sl31⟩)
    (c31 : PySem.W.codeIn K cd31 "Line.all_right" = true)
    (k31 : PySem.W.keepIn K (.ref f31) = true)
    (a32 : PySem.W.nsIn K mainGlobals "rows_in_order" = some (some (.ref f32)))
    (l32 : K.lookup f32 = some ⟨oc32, od32, .func (PySem.W.fnOf "rows_in_order" "rows_in_order" (C8.fnArgs s_rows_in_order) (C8.fnBody s_rows_in_order) (C8.fnScope s_rows_in_order) .none kV32 dc32 pm32 an32 cd32 ct32), sl32⟩)
    (c32 : PySem.W.codeIn K cd32 "rows_in_order" = true)
    (k32 : PySem.W.keepIn K (.ref f32) = true)
    (a33 : PySem.W.nsIn K mainGlobals "place_of_row" = some (some (.ref f33)))
    (l33 : K.lookup f33 = some ⟨oc33, od33, .func (PySem.W.fnOf "place_of_row" "place_of_row" (C8.fnArgs s_place_of_row) (C8.fnBody s_place_of_row) (C8.fnScope s_place_of_row) .none kV33 dc33 pm33 an33 cd33 ct33), sl33⟩)
    (c33 : PySem.W.codeIn K cd33 "place_of_row" = true)
    (k33 : PySem.W.keepIn K (.ref f33) = true)
    (a34 : PySem.W.nsIn K mainGlobals "links" = some (some (.ref f34)))
    (l34 : K.lookup f34 = some ⟨oc34, od34, .func (PySem.W.fnOf "links" "links" (C8.fnArgs s_links) (C8.fnBody s_links) (C8.fnScope s_links) .none kV34 dc34 pm34 an34 cd34 ct34), sl34⟩)
    (c34 : PySem.W.codeIn K cd34 "links" = true)
    (k34 : PySem.W.keepIn K (.ref f34) = true)
    (a35 : PySem.W.nsIn K mainGlobals "brought_along" = some (some (.ref f35)))
    (l35 : K.lookup f35 = some ⟨oc35, od35, .func (PySem.W.fnOf "brought_along" "brought_along" (C8.fnArgs s_brought_along) (C8.fnBody s_brought_along) (C8.fnScope s_brought_along) .none kV35 dc35 pm35 an35 cd35 ct35), sl35⟩)
    (c35 : PySem.W.codeIn K cd35 "brought_along" = true)
    (k35 : PySem.W.keepIn K (.ref f35) = true)
    (a36 : PySem.W.nsIn K mainGlobals "first_places" = some (some (.ref f36)))
    (l36 : K.lookup f36 = some ⟨oc36, od36, .func (PySem.W.fnOf "first_places" "first_places" (C8.fnArgs s_first_places) (C8.fnBody s_first_places) (C8.fnScope s_first_places) .none kV36 dc36 pm36 an36 cd36 ct36), sl36⟩)
    (c36 : PySem.W.codeIn K cd36 "first_places" = true)
    (k36 : PySem.W.keepIn K (.ref f36) = true)
    (a37 : PySem.W.nsIn K mainGlobals "piece_numbers" = some (some (.ref f37)))
    (l37 : K.lookup f37 = some ⟨oc37, od37, .func (PySem.W.fnOf "piece_numbers" "piece_numbers" (C8.fnArgs s_piece_numbers) (C8.fnBody s_piece_numbers) (C8.fnScope s_piece_numbers) .none kV37 dc37 pm37 an37 cd37 ct37), sl37⟩)
    (c37 : PySem.W.codeIn K cd37 "piece_numbers" = true)
    (k37 : PySem.W.keepIn K (.ref f37) = true)
    (a38 : PySem.W.nsIn K mainGlobals "conditions_by_place" = some (some (.ref f38)))
    (l38 : K.lookup f38 = some ⟨oc38, od38, .func (PySem.W.fnOf "conditions_by_place" "conditions_by_place" (C8.fnArgs s_conditions_by_place) (C8.fnBody s_conditions_by_place) (C8.fnScope s_conditions_by_place) .none kV38 dc38 pm38 an38 cd38 ct38), sl38⟩)
    (c38 : PySem.W.codeIn K cd38 "conditions_by_place" = true)
    (k38 : PySem.W.keepIn K (.ref f38) = true)
    (a39 : PySem.W.nsIn K mainGlobals "holds" = some (some (.ref f39)))
    (l39 : K.lookup f39 = some ⟨oc39, od39, .func (PySem.W.fnOf "holds" "holds" (C8.fnArgs s_holds) (C8.fnBody s_holds) (C8.fnScope s_holds) .none kV39 dc39 pm39 an39 cd39 ct39), sl39⟩)
    (c39 : PySem.W.codeIn K cd39 "holds" = true)
    (k39 : PySem.W.keepIn K (.ref f39) = true)
    (a40 : PySem.W.nsIn K mainGlobals "grown" = some (some (.ref f40)))
    (l40 : K.lookup f40 = some ⟨oc40, od40, .func (PySem.W.fnOf "grown" "grown" (C8.fnArgs s_grown) (C8.fnBody s_grown) (C8.fnScope s_grown) .none kV40 dc40 pm40 an40 cd40 ct40), sl40⟩)
    (c40 : PySem.W.codeIn K cd40 "grown" = true)
    (k40 : PySem.W.keepIn K (.ref f40) = true)
    (a41 : PySem.W.nsIn K mainGlobals "all_maps" = some (some (.ref f41)))
    (l41 : K.lookup f41 = some ⟨oc41, od41, .func (PySem.W.fnOf "all_maps" "all_maps" (C8.fnArgs s_all_maps) (C8.fnBody s_all_maps) (C8.fnScope s_all_maps) .none kV41 dc41 pm41 an41 cd41 ct41), sl41⟩)
    (c41 : PySem.W.codeIn K cd41 "all_maps" = true)
    (k41 : PySem.W.keepIn K (.ref f41) = true)
    (a42 : PySem.W.nsIn K mainGlobals "takes_there" = some (some (.ref f42)))
    (l42 : K.lookup f42 = some ⟨oc42, od42, .func (PySem.W.fnOf "takes_there" "takes_there" (C8.fnArgs s_takes_there) (C8.fnBody s_takes_there) (C8.fnScope s_takes_there) .none kV42 dc42 pm42 an42 cd42 ct42), sl42⟩)
    (c42 : PySem.W.codeIn K cd42 "takes_there" = true)
    (k42 : PySem.W.keepIn K (.ref f42) = true)
    (a43 : PySem.W.nsIn K mainGlobals "takes_to_each_once" = some (some (.ref f43)))
    (l43 : K.lookup f43 = some ⟨oc43, od43, .func (PySem.W.fnOf "takes_to_each_once" "takes_to_each_once" (C8.fnArgs s_takes_to_each_once) (C8.fnBody s_takes_to_each_once) (C8.fnScope s_takes_to_each_once) .none kV43 dc43 pm43 an43 cd43 ct43), sl43⟩)
    (c43 : PySem.W.codeIn K cd43 "takes_to_each_once" = true)
    (k43 : PySem.W.keepIn K (.ref f43) = true)
    (a44 : PySem.W.nsIn K mainGlobals "arrows_by_end" = some (some (.ref f44)))
    (l44 : K.lookup f44 = some ⟨oc44, od44, .func (PySem.W.fnOf "arrows_by_end" "arrows_by_end" (C8.fnArgs s_arrows_by_end) (C8.fnBody s_arrows_by_end) (C8.fnScope s_arrows_by_end) .none kV44 dc44 pm44 an44 cd44 ct44), sl44⟩)
    (c44 : PySem.W.codeIn K cd44 "arrows_by_end" = true)
    (k44 : PySem.W.keepIn K (.ref f44) = true)
    (a45 : PySem.W.nsIn K mainGlobals "arrows_as_rows" = some (some (.ref f45)))
    (l45 : K.lookup f45 = some ⟨oc45, od45, .func (PySem.W.fnOf "arrows_as_rows" "arrows_as_rows" (C8.fnArgs s_arrows_as_rows) (C8.fnBody s_arrows_as_rows) (C8.fnScope s_arrows_as_rows) .none kV45 dc45 pm45 an45 cd45 ct45), sl45⟩)
    (c45 : PySem.W.codeIn K cd45 "arrows_as_rows" = true)
    (k45 : PySem.W.keepIn K (.ref f45) = true)
    (a46 : PySem.W.nsIn K mainGlobals "map_to_row" = some (some (.ref f46)))
    (l46 : K.lookup f46 = some ⟨oc46, od46, .func (PySem.W.fnOf "map_to_row" "map_to_row" (C8.fnArgs s_map_to_row) (C8.fnBody s_map_to_row) (C8.fnScope s_map_to_row) .none kV46 dc46 pm46 an46 cd46 ct46), sl46⟩)
    (c46 : PySem.W.codeIn K cd46 "map_to_row" = true)
    (k46 : PySem.W.keepIn K (.ref f46) = true)
    (a47 : PySem.W.nsIn K mainGlobals "answer_start" = some (some (.ref f47)))
    (l47 : K.lookup f47 = some ⟨oc47, od47, .func (PySem.W.fnOf "answer_start" "answer_start" (C8.fnArgs s_answer_start) (C8.fnBody s_answer_start) (C8.fnScope s_answer_start) .none kV47 dc47 pm47 an47 cd47 ct47), sl47⟩)
    (c47 : PySem.W.codeIn K cd47 "answer_start" = true)
    (k47 : PySem.W.keepIn K (.ref f47) = true)
    (a48 : PySem.W.nsIn K mainGlobals "answer_arrow" = some (some (.ref f48)))
    (l48 : K.lookup f48 = some ⟨oc48, od48, .func (PySem.W.fnOf "answer_arrow" "answer_arrow" (C8.fnArgs s_answer_arrow) (C8.fnBody s_answer_arrow) (C8.fnScope s_answer_arrow) .none kV48 dc48 pm48 an48 cd48 ct48), sl48⟩)
    (c48 : PySem.W.codeIn K cd48 "answer_arrow" = true)
    (k48 : PySem.W.keepIn K (.ref f48) = true)
    (a49 : PySem.W.nsIn K mainGlobals "answer_make" = some (some (.ref f49)))
    (l49 : K.lookup f49 = some ⟨oc49, od49, .func (PySem.W.fnOf "answer_make" "answer_make" (C8.fnArgs s_answer_make) (C8.fnBody s_answer_make) (C8.fnScope s_answer_make) .none kV49 dc49 pm49 an49 cd49 ct49), sl49⟩)
    (c49 : PySem.W.codeIn K cd49 "answer_make" = true)
    (k49 : PySem.W.keepIn K (.ref f49) = true)
    (a50 : PySem.W.nsIn K mainGlobals "answer_rows" = some (some (.ref f50)))
    (l50 : K.lookup f50 = some ⟨oc50, od50, .func (PySem.W.fnOf "answer_rows" "answer_rows" (C8.fnArgs s_answer_rows) (C8.fnBody s_answer_rows) (C8.fnScope s_answer_rows) .none kV50 dc50 pm50 an50 cd50 ct50), sl50⟩)
    (c50 : PySem.W.codeIn K cd50 "answer_rows" = true)
    (k50 : PySem.W.keepIn K (.ref f50) = true)
    (a51 : PySem.W.nsIn K mainGlobals "answer_set" = some (some (.ref f51)))
    (l51 : K.lookup f51 = some ⟨oc51, od51, .func (PySem.W.fnOf "answer_set" "answer_set" (C8.fnArgs s_answer_set) (C8.fnBody s_answer_set) (C8.fnScope s_answer_set) .none kV51 dc51 pm51 an51 cd51 ct51), sl51⟩)
    (c51 : PySem.W.codeIn K cd51 "answer_set" = true)
    (k51 : PySem.W.keepIn K (.ref f51) = true)
    (a52 : PySem.W.nsIn K mainGlobals "answer_check" = some (some (.ref f52)))
    (l52 : K.lookup f52 = some ⟨oc52, od52, .func (PySem.W.fnOf "answer_check" "answer_check" (C8.fnArgs s_answer_check) (C8.fnBody s_answer_check) (C8.fnScope s_answer_check) .none kV52 dc52 pm52 an52 cd52 ct52), sl52⟩)
    (c52 : PySem.W.codeIn K cd52 "answer_check" = true)
    (k52 : PySem.W.keepIn K (.ref f52) = true)
    (a53 : PySem.W.nsIn K mainGlobals "maps_between" = some (some (.ref f53)))
    (l53 : K.lookup f53 = some ⟨oc53, od53, .func (PySem.W.fnOf "maps_between" "maps_between" (C8.fnArgs s_maps_between) (C8.fnBody s_maps_between) (C8.fnScope s_maps_between) .none kV53 dc53 pm53 an53 cd53 ct53), sl53⟩)
    (c53 : PySem.W.codeIn K cd53 "maps_between" = true)
    (k53 : PySem.W.keepIn K (.ref f53) = true)
    (a54 : PySem.W.nsIn K mainGlobals "answer_maps" = some (some (.ref f54)))
    (l54 : K.lookup f54 = some ⟨oc54, od54, .func (PySem.W.fnOf "answer_maps" "answer_maps" (C8.fnArgs s_answer_maps) (C8.fnBody s_answer_maps) (C8.fnScope s_answer_maps) .none kV54 dc54 pm54 an54 cd54 ct54), sl54⟩)
    (c54 : PySem.W.codeIn K cd54 "answer_maps" = true)
    (k54 : PySem.W.keepIn K (.ref f54) = true)
    (a55 : PySem.W.nsIn K mainGlobals "answer_nth" = some (some (.ref f55)))
    (l55 : K.lookup f55 = some ⟨oc55, od55, .func (PySem.W.fnOf "answer_nth" "answer_nth" (C8.fnArgs s_answer_nth) (C8.fnBody s_answer_nth) (C8.fnScope s_answer_nth) .none kV55 dc55 pm55 an55 cd55 ct55), sl55⟩)
    (c55 : PySem.W.codeIn K cd55 "answer_nth" = true)
    (k55 : PySem.W.keepIn K (.ref f55) = true)
    (a56 : PySem.W.nsIn K mainGlobals "in_groups" = some (some (.ref f56)))
    (l56 : K.lookup f56 = some ⟨oc56, od56, .func (PySem.W.fnOf "in_groups" "in_groups" (C8.fnArgs s_in_groups) (C8.fnBody s_in_groups) (C8.fnScope s_in_groups) .none kV56 dc56 pm56 an56 cd56 ct56), sl56⟩)
    (c56 : PySem.W.codeIn K cd56 "in_groups" = true)
    (k56 : PySem.W.keepIn K (.ref f56) = true)
    (a57 : PySem.W.nsIn K mainGlobals "lacks_a_row" = some (some (.ref f57)))
    (l57 : K.lookup f57 = some ⟨oc57, od57, .func (PySem.W.fnOf "lacks_a_row" "lacks_a_row" (C8.fnArgs s_lacks_a_row) (C8.fnBody s_lacks_a_row) (C8.fnScope s_lacks_a_row) .none kV57 dc57 pm57 an57 cd57 ct57), sl57⟩)
    (c57 : PySem.W.codeIn K cd57 "lacks_a_row" = true)
    (k57 : PySem.W.keepIn K (.ref f57) = true)
    (a58 : PySem.W.nsIn K mainGlobals "answer_fixed" = some (some (.ref f58)))
    (l58 : K.lookup f58 = some ⟨oc58, od58, .func (PySem.W.fnOf "answer_fixed" "answer_fixed" (C8.fnArgs s_answer_fixed) (C8.fnBody s_answer_fixed) (C8.fnScope s_answer_fixed) .none kV58 dc58 pm58 an58 cd58 ct58), sl58⟩)
    (c58 : PySem.W.codeIn K cd58 "answer_fixed" = true)
    (k58 : PySem.W.keepIn K (.ref f58) = true)
    (a59 : PySem.W.nsIn K mainGlobals "answer_alike" = some (some (.ref f59)))
    (l59 : K.lookup f59 = some ⟨oc59, od59, .func (PySem.W.fnOf "answer_alike" "answer_alike" (C8.fnArgs s_answer_alike) (C8.fnBody s_answer_alike) (C8.fnScope s_answer_alike) .none kV59 dc59 pm59 an59 cd59 ct59), sl59⟩)
    (c59 : PySem.W.codeIn K cd59 "answer_alike" = true)
    (k59 : PySem.W.keepIn K (.ref f59) = true)
    (a60 : PySem.W.nsIn K mainGlobals "answer_part" = some (some (.ref f60)))
    (l60 : K.lookup f60 = some ⟨oc60, od60, .func (PySem.W.fnOf "answer_part" "answer_part" (C8.fnArgs s_answer_part) (C8.fnBody s_answer_part) (C8.fnScope s_answer_part) .none kV60 dc60 pm60 an60 cd60 ct60), sl60⟩)
    (c60 : PySem.W.codeIn K cd60 "answer_part" = true)
    (k60 : PySem.W.keepIn K (.ref f60) = true)
    (a61 : PySem.W.nsIn K mainGlobals "answer_pieces" = some (some (.ref f61)))
    (l61 : K.lookup f61 = some ⟨oc61, od61, .func (PySem.W.fnOf "answer_pieces" "answer_pieces" (C8.fnArgs s_answer_pieces) (C8.fnBody s_answer_pieces) (C8.fnScope s_answer_pieces) .none kV61 dc61 pm61 an61 cd61 ct61), sl61⟩)
    (c61 : PySem.W.codeIn K cd61 "answer_pieces" = true)
    (k61 : PySem.W.keepIn K (.ref f61) = true)
    (a62 : PySem.W.nsIn K mainGlobals "answer_arrows" = some (some (.ref f62)))
    (l62 : K.lookup f62 = some ⟨oc62, od62, .func (PySem.W.fnOf "answer_arrows" "answer_arrows" (C8.fnArgs s_answer_arrows) (C8.fnBody s_answer_arrows) (C8.fnScope s_answer_arrows) .none kV62 dc62 pm62 an62 cd62 ct62), sl62⟩)
    (c62 : PySem.W.codeIn K cd62 "answer_arrows" = true)
    (k62 : PySem.W.keepIn K (.ref f62) = true)
    (a63 : PySem.W.nsIn K mainGlobals "answer_map_of" = some (some (.ref f63)))
    (l63 : K.lookup f63 = some ⟨oc63, od63, .func (PySem.W.fnOf "answer_map_of" "answer_map_of" (C8.fnArgs s_answer_map_of) (C8.fnBody s_answer_map_of) (C8.fnScope s_answer_map_of) .none kV63 dc63 pm63 an63 cd63 ct63), sl63⟩)
    (c63 : PySem.W.codeIn K cd63 "answer_map_of" = true)
    (k63 : PySem.W.keepIn K (.ref f63) = true)
    (a64 : PySem.W.nsIn K mainGlobals "answer_shows" = some (some (.ref f64)))
    (l64 : K.lookup f64 = some ⟨oc64, od64, .func (PySem.W.fnOf "answer_shows" "answer_shows" (C8.fnArgs s_answer_shows) (C8.fnBody s_answer_shows) (C8.fnScope s_answer_shows) .none kV64 dc64 pm64 an64 cd64 ct64), sl64⟩)
    (c64 : PySem.W.codeIn K cd64 "answer_shows" = true)
    (k64 : PySem.W.keepIn K (.ref f64) = true)
    (a65 : PySem.W.nsIn K mainGlobals "call_length" = some (some (.ref f65)))
    (l65 : K.lookup f65 = some ⟨oc65, od65, .func (PySem.W.fnOf "call_length" "call_length" (C8.fnArgs s_call_length) (C8.fnBody s_call_length) (C8.fnScope s_call_length) .none kV65 dc65 pm65 an65 cd65 ct65), sl65⟩)
    (c65 : PySem.W.codeIn K cd65 "call_length" = true)
    (k65 : PySem.W.keepIn K (.ref f65) = true)
    (a66 : PySem.W.nsIn K mainGlobals "lacks_an_instance" = some (some (.ref f66)))
    (l66 : K.lookup f66 = some ⟨oc66, od66, .func (PySem.W.fnOf "lacks_an_instance" "lacks_an_instance" (C8.fnArgs s_lacks_an_instance) (C8.fnBody s_lacks_an_instance) (C8.fnScope s_lacks_an_instance) .none kV66 dc66 pm66 an66 cd66 ct66), sl66⟩)
    (c66 : PySem.W.codeIn K cd66 "lacks_an_instance" = true)
    (k66 : PySem.W.keepIn K (.ref f66) = true)
    (a67 : PySem.W.nsIn K mainGlobals "answer_call" = some (some (.ref f67)))
    (l67 : K.lookup f67 = some ⟨oc67, od67, .func (PySem.W.fnOf "answer_call" "answer_call" (C8.fnArgs s_answer_call) (C8.fnBody s_answer_call) (C8.fnScope s_answer_call) .none kV67 dc67 pm67 an67 cd67 ct67), sl67⟩)
    (c67 : PySem.W.codeIn K cd67 "answer_call" = true)
    (k67 : PySem.W.keepIn K (.ref f67) = true)
    (a68 : PySem.W.nsIn K mainGlobals "answers" = some (some (.ref f68)))
    (l68 : K.lookup f68 = some ⟨oc68, od68, .func (PySem.W.fnOf "answers" "answers" (C8.fnArgs s_answers) (C8.fnBody s_answers) (C8.fnScope s_answers) .none kV68 dc68 pm68 an68 cd68 ct68), sl68⟩)
    (c68 : PySem.W.codeIn K cd68 "answers" = true)
    (k68 : PySem.W.keepIn K (.ref f68) = true)
    (pgcC : PySem.W.plainGet K cC Str.empty = true)
    (hdcC : PySem.W.hasDictIn K cC = true)
    (pocC : PySem.W.plainOver K cC = true)
    (sacC : PySem.W.findIn K (.ref cC) "__setattr__" = some (some (.builtin "object.__setattr__")))
    (mkcC : PySem.W.makesIn K cC = true)
    (kccC : PySem.W.keepIn K (.ref cC) = true)
    (n_things : PySem.W.findIn K (.ref cC) "things" = some none)
    (n_ends : PySem.W.findIn K (.ref cC) "ends" = some none)
    (n_told : PySem.W.findIn K (.ref cC) "told" = some none)
    (pgcI : PySem.W.plainGet K cI Str.empty = true)
    (hdcI : PySem.W.hasDictIn K cI = true)
    (pocI : PySem.W.plainOver K cI = true)
    (sacI : PySem.W.findIn K (.ref cI) "__setattr__" = some (some (.builtin "object.__setattr__")))
    (mkcI : PySem.W.makesIn K cI = true)
    (kccI : PySem.W.keepIn K (.ref cI) = true)
    (n_counts : PySem.W.findIn K (.ref cI) "counts" = some none)
    (n_leads : PySem.W.findIn K (.ref cI) "leads" = some none)
    (pgcL : PySem.W.plainGet K cL Str.empty = true)
    (hdcL : PySem.W.hasDictIn K cL = true)
    (pocL : PySem.W.plainOver K cL = true)
    (sacL : PySem.W.findIn K (.ref cL) "__setattr__" = some (some (.builtin "object.__setattr__")))
    (mkcL : PySem.W.makesIn K cL = true)
    (kccL : PySem.W.keepIn K (.ref cL) = true)
    (n_category : PySem.W.findIn K (.ref cL) "category" = some none)
    (n_instances : PySem.W.findIn K (.ref cL) "instances" = some none)
    (z_enumerate : PySem.W.nsIn K mainGlobals "enumerate" = some none)
    (z_len : PySem.W.nsIn K mainGlobals "len" = some none)
    (z_list : PySem.W.nsIn K mainGlobals "list" = some none)
    (z_max : PySem.W.nsIn K mainGlobals "max" = some none)
    (z_min : PySem.W.nsIn K mainGlobals "min" = some none)
    (z_range : PySem.W.nsIn K mainGlobals "range" = some none)
    (z_set : PySem.W.nsIn K mainGlobals "set" = some none)
    (z_sorted : PySem.W.nsIn K mainGlobals "sorted" = some none)
    (z_sum : PySem.W.nsIn K mainGlobals "sum" = some none)
    (z_tuple : PySem.W.nsIn K mainGlobals "tuple" = some none)
    (g_UNTOLD : PySem.W.nsIn K mainGlobals "UNTOLD" = some (some (.int (99) t_UNTOLD)))
    (g_NOT_LET : PySem.W.nsIn K mainGlobals "NOT_LET" = some (some (.int (-1) t_NOT_LET)))
    (g_NO_INSTANCE : PySem.W.nsIn K mainGlobals "NO_INSTANCE" = some (some (.int (-2) t_NO_INSTANCE)))
    (g_NOT_THERE : PySem.W.nsIn K mainGlobals "NOT_THERE" = some (some (.int (-3) t_NOT_THERE)))
    (g_TOO_MANY : PySem.W.nsIn K mainGlobals "TOO_MANY" = some (some (.int (-5) t_TOO_MANY)))
    (g_NOT_RIGHT : PySem.W.nsIn K mainGlobals "NOT_RIGHT" = some (some (.int (-6) t_NOT_RIGHT)))
    (g_MOST_THINGS : PySem.W.nsIn K mainGlobals "MOST_THINGS" = some (some (.int (3) t_MOST_THINGS)))
    (g_MOST_ARROWS : PySem.W.nsIn K mainGlobals "MOST_ARROWS" = some (some (.int (9) t_MOST_ARROWS)))
    (g_MOST_ROWS : PySem.W.nsIn K mainGlobals "MOST_ROWS" = some (some (.int (6) t_MOST_ROWS)))
    (g_HOW_MANY_INSTANCES : PySem.W.nsIn K mainGlobals "HOW_MANY_INSTANCES" = some (some (.int (3) t_HOW_MANY_INSTANCES)))
    (aT : PySem.W.nsIn K mainGlobals "CALLS" = some (some (.ref T)))
    (lT : K.lookup T = some ⟨.type "tuple", odT, .seq #[.ref r0, .ref r1, .ref r2, .ref r3, .ref r4, .ref r5, .ref r6, .ref r7, .ref r8, .ref r9, .ref r10, .ref r11, .ref r12, .ref r13, .ref r14] nT, slT⟩)
    (lR0 : K.lookup r0 = some ⟨.type "tuple", odR0, .seq #[.int 1 u0_0, .int 0 u0_1, .bool false, .str "" u0_3, .ref f47] nR0, slR0⟩)
    (lR1 : K.lookup r1 = some ⟨.type "tuple", odR1, .seq #[.int 2 u1_0, .int 0 u1_1, .bool false, .str "" u1_3, .ref f48] nR1, slR1⟩)
    (lR2 : K.lookup r2 = some ⟨.type "tuple", odR2, .seq #[.int 3 u2_0, .int 0 u2_1, .bool false, .str "" u2_3, .ref f49] nR2, slR2⟩)
    (lR3 : K.lookup r3 = some ⟨.type "tuple", odR3, .seq #[.int 3 u3_0, .int 1 u3_1, .bool false, .str "" u3_3, .ref f50] nR3, slR3⟩)
    (lR4 : K.lookup r4 = some ⟨.type "tuple", odR4, .seq #[.int 4 u4_0, .int 1 u4_1, .bool false, .str "" u4_3, .ref f51] nR4, slR4⟩)
    (lR5 : K.lookup r5 = some ⟨.type "tuple", odR5, .seq #[.int 1 u5_0, .int 1 u5_1, .bool false, .str "category" u5_3, .ref f52] nR5, slR5⟩)
    (lR6 : K.lookup r6 = some ⟨.type "tuple", odR6, .seq #[.int 2 u6_0, .int 2 u6_1, .bool false, .str "right" u6_3, .ref f54] nR6, slR6⟩)
    (lR7 : K.lookup r7 = some ⟨.type "tuple", odR7, .seq #[.int 3 u7_0, .int 2 u7_1, .bool false, .str "right" u7_3, .ref f55] nR7, slR7⟩)
    (lR8 : K.lookup r8 = some ⟨.type "tuple", odR8, .seq #[.int 2 u8_0, .int 2 u8_1, .bool true, .str "right" u8_3, .ref f58] nR8, slR8⟩)
    (lR9 : K.lookup r9 = some ⟨.type "tuple", odR9, .seq #[.int 2 u9_0, .int 2 u9_1, .bool false, .str "right" u9_3, .ref f59] nR9, slR9⟩)
    (lR10 : K.lookup r10 = some ⟨.type "tuple", odR10, .seq #[.int 1 u10_0, .int 1 u10_1, .bool true, .str "right" u10_3, .ref f60] nR10, slR10⟩)
    (lR11 : K.lookup r11 = some ⟨.type "tuple", odR11, .seq #[.int 1 u11_0, .int 1 u11_1, .bool false, .str "right" u11_3, .ref f61] nR11, slR11⟩)
    (lR12 : K.lookup r12 = some ⟨.type "tuple", odR12, .seq #[.int 2 u12_0, .int 1 u12_1, .bool false, .str "category" u12_3, .ref f62] nR12, slR12⟩)
    (lR13 : K.lookup r13 = some ⟨.type "tuple", odR13, .seq #[.int 3 u13_0, .int 1 u13_1, .bool false, .str "right" u13_3, .ref f63] nR13, slR13⟩)
    (lR14 : K.lookup r14 = some ⟨.type "tuple", odR14, .seq #[.int 1 u14_0, .int 1 u14_1, .bool false, .str "" u14_3, .ref f64] nR14, slR14⟩)
    : ∃ fd : FuncData, (∀ (s : Shared) (us : List Value), us.length = (["calls"] : List Str).length → BindsTo s fd ⟨us, []⟩ ((["calls"] : List Str).zip us)) ∧ ∀ base : Heap, K.In base → base.Ns mainGlobals mg → FnOk P w K mg base L2.CX0 10 fa fd ["calls"] (spTop K) := by
  have e := hfa.symm.trans (PySem.W.mg_of X G a68)
  cases e
  let D : Ad := ⟨K, cC, cI, cL, T, fun i => [f47, f48, f49, f50, f51, f52, f54, f55, f58, f59, f60, f61, f62, f63, f64].getD i 0⟩
  have tab : TableAt D := ⟨[r0, r1, r2, r3, r4, r5, r6, r7, r8, r9, r10, r11, r12, r13, r14], rfl, ⟨_, _, _, lT, rfl, rfl, by show 15 ≤ sizeLine; decide, .cons rfl (.cons rfl (.cons rfl (.cons rfl (.cons rfl (.cons rfl (.cons rfl (.cons rfl (.cons rfl (.cons rfl (.cons rfl (.cons rfl (.cons rfl (.cons rfl (.cons rfl (.nil)))))))))))))))⟩, fun i r hi => match i, hi with
    | 0, hi => by cases hi; exact ⟨_, _, _, lR0, rfl, rfl, by show 5 ≤ sizeLine; decide, .cons ⟨_, rfl⟩ (.cons ⟨_, rfl⟩ (.cons rfl (.cons ⟨_, rfl⟩ (.cons rfl (.nil)))))⟩
    | 1, hi => by cases hi; exact ⟨_, _, _, lR1, rfl, rfl, by show 5 ≤ sizeLine; decide, .cons ⟨_, rfl⟩ (.cons ⟨_, rfl⟩ (.cons rfl (.cons ⟨_, rfl⟩ (.cons rfl (.nil)))))⟩
    | 2, hi => by cases hi; exact ⟨_, _, _, lR2, rfl, rfl, by show 5 ≤ sizeLine; decide, .cons ⟨_, rfl⟩ (.cons ⟨_, rfl⟩ (.cons rfl (.cons ⟨_, rfl⟩ (.cons rfl (.nil)))))⟩
    | 3, hi => by cases hi; exact ⟨_, _, _, lR3, rfl, rfl, by show 5 ≤ sizeLine; decide, .cons ⟨_, rfl⟩ (.cons ⟨_, rfl⟩ (.cons rfl (.cons ⟨_, rfl⟩ (.cons rfl (.nil)))))⟩
    | 4, hi => by cases hi; exact ⟨_, _, _, lR4, rfl, rfl, by show 5 ≤ sizeLine; decide, .cons ⟨_, rfl⟩ (.cons ⟨_, rfl⟩ (.cons rfl (.cons ⟨_, rfl⟩ (.cons rfl (.nil)))))⟩
    | 5, hi => by cases hi; exact ⟨_, _, _, lR5, rfl, rfl, by show 5 ≤ sizeLine; decide, .cons ⟨_, rfl⟩ (.cons ⟨_, rfl⟩ (.cons rfl (.cons ⟨_, rfl⟩ (.cons rfl (.nil)))))⟩
    | 6, hi => by cases hi; exact ⟨_, _, _, lR6, rfl, rfl, by show 5 ≤ sizeLine; decide, .cons ⟨_, rfl⟩ (.cons ⟨_, rfl⟩ (.cons rfl (.cons ⟨_, rfl⟩ (.cons rfl (.nil)))))⟩
    | 7, hi => by cases hi; exact ⟨_, _, _, lR7, rfl, rfl, by show 5 ≤ sizeLine; decide, .cons ⟨_, rfl⟩ (.cons ⟨_, rfl⟩ (.cons rfl (.cons ⟨_, rfl⟩ (.cons rfl (.nil)))))⟩
    | 8, hi => by cases hi; exact ⟨_, _, _, lR8, rfl, rfl, by show 5 ≤ sizeLine; decide, .cons ⟨_, rfl⟩ (.cons ⟨_, rfl⟩ (.cons rfl (.cons ⟨_, rfl⟩ (.cons rfl (.nil)))))⟩
    | 9, hi => by cases hi; exact ⟨_, _, _, lR9, rfl, rfl, by show 5 ≤ sizeLine; decide, .cons ⟨_, rfl⟩ (.cons ⟨_, rfl⟩ (.cons rfl (.cons ⟨_, rfl⟩ (.cons rfl (.nil)))))⟩
    | 10, hi => by cases hi; exact ⟨_, _, _, lR10, rfl, rfl, by show 5 ≤ sizeLine; decide, .cons ⟨_, rfl⟩ (.cons ⟨_, rfl⟩ (.cons rfl (.cons ⟨_, rfl⟩ (.cons rfl (.nil)))))⟩
    | 11, hi => by cases hi; exact ⟨_, _, _, lR11, rfl, rfl, by show 5 ≤ sizeLine; decide, .cons ⟨_, rfl⟩ (.cons ⟨_, rfl⟩ (.cons rfl (.cons ⟨_, rfl⟩ (.cons rfl (.nil)))))⟩
    | 12, hi => by cases hi; exact ⟨_, _, _, lR12, rfl, rfl, by show 5 ≤ sizeLine; decide, .cons ⟨_, rfl⟩ (.cons ⟨_, rfl⟩ (.cons rfl (.cons ⟨_, rfl⟩ (.cons rfl (.nil)))))⟩
    | 13, hi => by cases hi; exact ⟨_, _, _, lR13, rfl, rfl, by show 5 ≤ sizeLine; decide, .cons ⟨_, rfl⟩ (.cons ⟨_, rfl⟩ (.cons rfl (.cons ⟨_, rfl⟩ (.cons rfl (.nil)))))⟩
    | 14, hi => by cases hi; exact ⟨_, _, _, lR14, rfl, rfl, by show 5 ≤ sizeLine; decide, .cons ⟨_, rfl⟩ (.cons ⟨_, rfl⟩ (.cons rfl (.cons ⟨_, rfl⟩ (.cons rfl (.nil)))))⟩
    | n + 15, hi => by simp at hi⟩
  have TX : Txt D mg := ⟨⟨pgcC, hdcC, pocC, sacC⟩, PySem.W.mg_of X G acC, n_things, n_ends, n_told, ⟨pgcI, hdcI, pocI, sacI⟩, PySem.W.mg_of X G acI, n_counts, n_leads, ⟨pgcL, hdcL, pocL, sacL⟩, PySem.W.mg_of X G acL, n_category, n_instances, PySem.W.mg_none_of X G z_enumerate, PySem.W.mg_none_of X G z_len, PySem.W.mg_none_of X G z_list, PySem.W.mg_none_of X G z_max, PySem.W.mg_none_of X G z_min, PySem.W.mg_none_of X G z_range, PySem.W.mg_none_of X G z_set, PySem.W.mg_none_of X G z_sorted, PySem.W.mg_none_of X G z_sum, PySem.W.mg_none_of X G z_tuple, ⟨_, PySem.W.mg_of X G g_UNTOLD, ⟨_, rfl⟩⟩, ⟨_, PySem.W.mg_of X G g_NOT_LET, ⟨_, rfl⟩⟩, ⟨_, PySem.W.mg_of X G g_NO_INSTANCE, ⟨_, rfl⟩⟩, ⟨_, PySem.W.mg_of X G g_NOT_THERE, ⟨_, rfl⟩⟩, ⟨_, PySem.W.mg_of X G g_TOO_MANY, ⟨_, rfl⟩⟩, ⟨_, PySem.W.mg_of X G g_NOT_RIGHT, ⟨_, rfl⟩⟩, ⟨_, PySem.W.mg_of X G g_MOST_THINGS, ⟨_, rfl⟩⟩, ⟨_, PySem.W.mg_of X G g_MOST_ARROWS, ⟨_, rfl⟩⟩, ⟨_, PySem.W.mg_of X G g_MOST_ROWS, ⟨_, rfl⟩⟩, ⟨_, PySem.W.mg_of X G g_HOW_MANY_INSTANCES, ⟨_, rfl⟩⟩, PySem.W.mg_of X G aT, tab⟩
  have d_init_Category : MakAt D.K mg "Category" "Category.__init__" D.cC s_init_Category ["self", "things"] := mak_mk X G acC ⟨mkcC, a0, i0, kccC⟩ l0 c0 (fun _ _ _ _ _ _ us hl => match us, hl with | [_, _], _ => rfl)
  have d_has_thing : MetAt D.K "has_thing" "Category.has_thing" D.cC s_has_thing ["self", "x"] := met_mk ⟨pgcC, hdcC, pocC, sacC⟩ ⟨a1, i1, k1⟩ l1 c1 (fun _ _ _ _ _ _ us hl => match us, hl with | [_, _], _ => rfl)
  have d_has_arrow : MetAt D.K "has_arrow" "Category.has_arrow" D.cC s_has_arrow ["self", "f"] := met_mk ⟨pgcC, hdcC, pocC, sacC⟩ ⟨a2, i2, k2⟩ l2 c2 (fun _ _ _ _ _ _ us hl => match us, hl with | [_, _], _ => rfl)
  have d_is_own : MetAt D.K "is_own" "Category.is_own" D.cC s_is_own ["self", "f"] := met_mk ⟨pgcC, hdcC, pocC, sacC⟩ ⟨a3, i3, k3⟩ l3 c3 (fun _ _ _ _ _ _ us hl => match us, hl with | [_, _], _ => rfl)
  have d_source : MetAt D.K "source" "Category.source" D.cC s_source ["self", "f"] := met_mk ⟨pgcC, hdcC, pocC, sacC⟩ ⟨a4, i4, k4⟩ l4 c4 (fun _ _ _ _ _ _ us hl => match us, hl with | [_, _], _ => rfl)
  have d_target : MetAt D.K "target" "Category.target" D.cC s_target ["self", "f"] := met_mk ⟨pgcC, hdcC, pocC, sacC⟩ ⟨a5, i5, k5⟩ l5 c5 (fun _ _ _ _ _ _ us hl => match us, hl with | [_, _], _ => rfl)
  have d_touches : MetAt D.K "touches" "Category.touches" D.cC s_touches ["self", "f", "x"] := met_mk ⟨pgcC, hdcC, pocC, sacC⟩ ⟨a6, i6, k6⟩ l6 c6 (fun _ _ _ _ _ _ us hl => match us, hl with | [_, _, _], _ => rfl)
  have d_meet : MetAt D.K "meet" "Category.meet" D.cC s_meet ["self", "f", "g"] := met_mk ⟨pgcC, hdcC, pocC, sacC⟩ ⟨a7, i7, k7⟩ l7 c7 (fun _ _ _ _ _ _ us hl => match us, hl with | [_, _, _], _ => rfl)
  have d_others : MetAt D.K "others" "Category.others" D.cC s_others ["self"] := met_mk ⟨pgcC, hdcC, pocC, sacC⟩ ⟨a8, i8, k8⟩ l8 c8 (fun _ _ _ _ _ _ us hl => match us, hl with | [_], _ => rfl)
  have d_made : MetAt D.K "made" "Category.made" D.cC s_made ["self", "f", "g"] := met_mk ⟨pgcC, hdcC, pocC, sacC⟩ ⟨a9, i9, k9⟩ l9 c9 (fun _ _ _ _ _ _ us hl => match us, hl with | [_, _, _], _ => rfl)
  have d_arrows_between : DefF D.K mg "arrows_between" s_arrows_between ["category", "x", "y"] f10 := def_mk X G a10 l10 c10 k10 (fun _ _ _ _ _ _ us hl => match us, hl with | [_, _, _], _ => rfl)
  have d_meeting_pairs : DefF D.K mg "meeting_pairs" s_meeting_pairs ["category"] f11 := def_mk X G a11 l11 c11 k11 (fun _ _ _ _ _ _ us hl => match us, hl with | [_], _ => rfl)
  have d_pair_fits : DefF D.K mg "pair_fits" s_pair_fits ["category", "f", "g"] f12 := def_mk X G a12 l12 c12 k12 (fun _ _ _ _ _ _ us hl => match us, hl with | [_, _, _], _ => rfl)
  have d_triple_agrees : DefF D.K mg "triple_agrees" s_triple_agrees ["category", "f", "g", "h"] f13 := def_mk X G a13 l13 c13 k13 (fun _ _ _ _ _ _ us hl => match us, hl with | [_, _, _, _], _ => rfl)
  have d_is_category : DefF D.K mg "is_category" s_is_category ["category"] f14 := def_mk X G a14 l14 c14 k14 (fun _ _ _ _ _ _ us hl => match us, hl with | [_], _ => rfl)
  have d_init_Instance : MakAt D.K mg "Instance" "Instance.__init__" D.cI s_init_Instance ["self", "category"] := mak_mk X G acI ⟨mkcI, a15, i15, kccI⟩ l15 c15 (fun _ _ _ _ _ _ us hl => match us, hl with | [_, _], _ => rfl)
  have d_row_count : MetAt D.K "row_count" "Instance.row_count" D.cI s_row_count ["self"] := met_mk ⟨pgcI, hdcI, pocI, sacI⟩ ⟨a16, i16, k16⟩ l16 c16 (fun _ _ _ _ _ _ us hl => match us, hl with | [_], _ => rfl)
  have d_has_row : MetAt D.K "has_row" "Instance.has_row" D.cI s_has_row ["self", "x", "r"] := met_mk ⟨pgcI, hdcI, pocI, sacI⟩ ⟨a17, i17, k17⟩ l17 c17 (fun _ _ _ _ _ _ us hl => match us, hl with | [_, _, _], _ => rfl)
  have d_put_rows : DefF D.K mg "put_rows" s_put_rows ["category", "instance", "x", "k"] f18 := def_mk X G a18 l18 c18 k18 (fun _ _ _ _ _ _ us hl => match us, hl with | [_, _, _, _], _ => rfl)
  have d_leads_to : DefF D.K mg "leads_to" s_leads_to ["category", "instance", "f", "r"] f19 := def_mk X G a19 l19 c19 k19 (fun _ _ _ _ _ _ us hl => match us, hl with | [_, _, _, _], _ => rfl)
  have d_fault_of_row : DefF D.K mg "fault_of_row" s_fault_of_row ["category", "instance", "f", "r"] f20 := def_mk X G a20 l20 c20 k20 (fun _ _ _ _ _ _ us hl => match us, hl with | [_, _, _, _], _ => rfl)
  have d_first_missing : DefF D.K mg "first_missing" s_first_missing ["category", "instance"] f21 := def_mk X G a21 l21 c21 k21 (fun _ _ _ _ _ _ us hl => match us, hl with | [_, _], _ => rfl)
  have d_leads_elsewhere : DefF D.K mg "leads_elsewhere" s_leads_elsewhere ["category", "instance", "f", "g", "r"] f22 := def_mk X G a22 l22 c22 k22 (fun _ _ _ _ _ _ us hl => match us, hl with | [_, _, _, _, _], _ => rfl)
  have d_first_elsewhere : DefF D.K mg "first_elsewhere" s_first_elsewhere ["category", "instance"] f23 := def_mk X G a23 l23 c23 k23 (fun _ _ _ _ _ _ us hl => match us, hl with | [_, _], _ => rfl)
  have d_first_fault : DefF D.K mg "first_fault" s_first_fault ["category", "instance"] f24 := def_mk X G a24 l24 c24 k24 (fun _ _ _ _ _ _ us hl => match us, hl with | [_, _], _ => rfl)
  have d_is_right : DefF D.K mg "is_right" s_is_right ["category", "instance"] f25 := def_mk X G a25 l25 c25 k25 (fun _ _ _ _ _ _ us hl => match us, hl with | [_, _], _ => rfl)
  have d_empty_instances : DefF D.K mg "empty_instances" s_empty_instances ["category"] f26 := def_mk X G a26 l26 c26 k26 (fun _ _ _ _ _ _ us hl => match us, hl with | [_], _ => rfl)
  have d_init_Line : MakAt D.K mg "Line" "Line.__init__" D.cL s_init_Line ["self"] := mak_mk X G acL ⟨mkcL, a27, i27, kccL⟩ l27 c27 (fun _ _ _ _ _ _ us hl => match us, hl with | [_], _ => rfl)
  have d_begin_anew : MetAt D.K "begin_anew" "Line.begin_anew" D.cL s_begin_anew ["self", "things"] := met_mk ⟨pgcL, hdcL, pocL, sacL⟩ ⟨a28, i28, k28⟩ l28 c28 (fun _ _ _ _ _ _ us hl => match us, hl with | [_, _], _ => rfl)
  have d_put_arrow : MetAt D.K "put_arrow" "Line.put_arrow" D.cL s_put_arrow ["self", "x", "y"] := met_mk ⟨pgcL, hdcL, pocL, sacL⟩ ⟨a29, i29, k29⟩ l29 c29 (fun _ _ _ _ _ _ us hl => match us, hl with | [_, _, _], _ => rfl)
  have d_fulfils : MetAt D.K "fulfils" "Line.fulfils" D.cL s_fulfils ["self", "need", "chosen"] := met_mk ⟨pgcL, hdcL, pocL, sacL⟩ ⟨a30, i30, k30⟩ l30 c30 (fun _ _ _ _ _ _ us hl => match us, hl with | [_, _, _], _ => rfl)
  have d_all_right : MetAt D.K "all_right" "Line.all_right" D.cL s_all_right ["self", "chosen"] := met_mk ⟨pgcL, hdcL, pocL, sacL⟩ ⟨a31, i31, k31⟩ l31 c31 (fun _ _ _ _ _ _ us hl => match us, hl with | [_, _], _ => rfl)
  have d_rows_in_order : DefF D.K mg "rows_in_order" s_rows_in_order ["instance"] f32 := def_mk X G a32 l32 c32 k32 (fun _ _ _ _ _ _ us hl => match us, hl with | [_], _ => rfl)
  have d_place_of_row : DefF D.K mg "place_of_row" s_place_of_row ["instance", "x", "r"] f33 := def_mk X G a33 l33 c33 k33 (fun _ _ _ _ _ _ us hl => match us, hl with | [_, _, _], _ => rfl)
  have d_links : DefF D.K mg "links" s_links ["category", "instance"] f34 := def_mk X G a34 l34 c34 k34 (fun _ _ _ _ _ _ us hl => match us, hl with | [_, _], _ => rfl)
  have d_brought_along : DefF D.K mg "brought_along" s_brought_along ["category", "instance", "places"] f35 := def_mk X G a35 l35 c35 k35 (fun _ _ _ _ _ _ us hl => match us, hl with | [_, _, _], _ => rfl)
  have d_first_places : DefF D.K mg "first_places" s_first_places ["category", "instance"] f36 := def_mk X G a36 l36 c36 k36 (fun _ _ _ _ _ _ us hl => match us, hl with | [_, _], _ => rfl)
  have d_piece_numbers : DefF D.K mg "piece_numbers" s_piece_numbers ["firsts"] f37 := def_mk X G a37 l37 c37 k37 (fun _ _ _ _ _ _ us hl => match us, hl with | [_], _ => rfl)
  have d_conditions_by_place : DefF D.K mg "conditions_by_place" s_conditions_by_place ["category", "first", "second"] f38 := def_mk X G a38 l38 c38 k38 (fun _ _ _ _ _ _ us hl => match us, hl with | [_, _, _], _ => rfl)
  have d_holds : DefF D.K mg "holds" s_holds ["conditions", "taken"] f39 := def_mk X G a39 l39 c39 k39 (fun _ _ _ _ _ _ us hl => match us, hl with | [_, _], _ => rfl)
  have d_grown : DefF D.K mg "grown" s_grown ["beginnings", "choices", "conditions"] f40 := def_mk X G a40 l40 c40 k40 (fun _ _ _ _ _ _ us hl => match us, hl with | [_, _, _], _ => rfl)
  have d_all_maps : DefF D.K mg "all_maps" s_all_maps ["category", "first", "second"] f41 := def_mk X G a41 l41 c41 k41 (fun _ _ _ _ _ _ us hl => match us, hl with | [_, _, _], _ => rfl)
  have d_takes_there : DefF D.K mg "takes_there" s_takes_there ["taken", "wanted"] f42 := def_mk X G a42 l42 c42 k42 (fun _ _ _ _ _ _ us hl => match us, hl with | [_, _], _ => rfl)
  have d_takes_to_each_once : DefF D.K mg "takes_to_each_once" s_takes_to_each_once ["first", "second", "taken"] f43 := def_mk X G a43 l43 c43 k43 (fun _ _ _ _ _ _ us hl => match us, hl with | [_, _, _], _ => rfl)
  have d_arrows_by_end : DefF D.K mg "arrows_by_end" s_arrows_by_end ["category", "x"] f44 := def_mk X G a44 l44 c44 k44 (fun _ _ _ _ _ _ us hl => match us, hl with | [_, _], _ => rfl)
  have d_arrows_as_rows : DefF D.K mg "arrows_as_rows" s_arrows_as_rows ["category", "x"] f45 := def_mk X G a45 l45 c45 k45 (fun _ _ _ _ _ _ us hl => match us, hl with | [_, _], _ => rfl)
  have d_map_to_row : DefF D.K mg "map_to_row" s_map_to_row ["category", "instance", "x", "r"] f46 := def_mk X G a46 l46 c46 k46 (fun _ _ _ _ _ _ us hl => match us, hl with | [_, _, _, _], _ => rfl)
  have d_answer_start : DefF D.K mg "answer_start" s_answer_start ["line", "numbers"] f47 := def_mk X G a47 l47 c47 k47 (fun _ _ _ _ _ _ us hl => match us, hl with | [_, _], _ => rfl)
  have d_answer_arrow : DefF D.K mg "answer_arrow" s_answer_arrow ["line", "numbers"] f48 := def_mk X G a48 l48 c48 k48 (fun _ _ _ _ _ _ us hl => match us, hl with | [_, _], _ => rfl)
  have d_answer_make : DefF D.K mg "answer_make" s_answer_make ["line", "numbers"] f49 := def_mk X G a49 l49 c49 k49 (fun _ _ _ _ _ _ us hl => match us, hl with | [_, _], _ => rfl)
  have d_answer_rows : DefF D.K mg "answer_rows" s_answer_rows ["line", "numbers"] f50 := def_mk X G a50 l50 c50 k50 (fun _ _ _ _ _ _ us hl => match us, hl with | [_, _], _ => rfl)
  have d_answer_set : DefF D.K mg "answer_set" s_answer_set ["line", "numbers"] f51 := def_mk X G a51 l51 c51 k51 (fun _ _ _ _ _ _ us hl => match us, hl with | [_, _], _ => rfl)
  have d_answer_check : DefF D.K mg "answer_check" s_answer_check ["line", "numbers"] f52 := def_mk X G a52 l52 c52 k52 (fun _ _ _ _ _ _ us hl => match us, hl with | [_, _], _ => rfl)
  have d_maps_between : DefF D.K mg "maps_between" s_maps_between ["line", "i", "j"] f53 := def_mk X G a53 l53 c53 k53 (fun _ _ _ _ _ _ us hl => match us, hl with | [_, _, _], _ => rfl)
  have d_answer_maps : DefF D.K mg "answer_maps" s_answer_maps ["line", "numbers"] f54 := def_mk X G a54 l54 c54 k54 (fun _ _ _ _ _ _ us hl => match us, hl with | [_, _], _ => rfl)
  have d_answer_nth : DefF D.K mg "answer_nth" s_answer_nth ["line", "numbers"] f55 := def_mk X G a55 l55 c55 k55 (fun _ _ _ _ _ _ us hl => match us, hl with | [_, _], _ => rfl)
  have d_in_groups : DefF D.K mg "in_groups" s_in_groups ["numbers", "size"] f56 := def_mk X G a56 l56 c56 k56 (fun _ _ _ _ _ _ us hl => match us, hl with | [_, _], _ => rfl)
  have d_lacks_a_row : DefF D.K mg "lacks_a_row" s_lacks_a_row ["instance", "named"] f57 := def_mk X G a57 l57 c57 k57 (fun _ _ _ _ _ _ us hl => match us, hl with | [_, _], _ => rfl)
  have d_answer_fixed : DefF D.K mg "answer_fixed" s_answer_fixed ["line", "numbers"] f58 := def_mk X G a58 l58 c58 k58 (fun _ _ _ _ _ _ us hl => match us, hl with | [_, _], _ => rfl)
  have d_answer_alike : DefF D.K mg "answer_alike" s_answer_alike ["line", "numbers"] f59 := def_mk X G a59 l59 c59 k59 (fun _ _ _ _ _ _ us hl => match us, hl with | [_, _], _ => rfl)
  have d_answer_part : DefF D.K mg "answer_part" s_answer_part ["line", "numbers"] f60 := def_mk X G a60 l60 c60 k60 (fun _ _ _ _ _ _ us hl => match us, hl with | [_, _], _ => rfl)
  have d_answer_pieces : DefF D.K mg "answer_pieces" s_answer_pieces ["line", "numbers"] f61 := def_mk X G a61 l61 c61 k61 (fun _ _ _ _ _ _ us hl => match us, hl with | [_, _], _ => rfl)
  have d_answer_arrows : DefF D.K mg "answer_arrows" s_answer_arrows ["line", "numbers"] f62 := def_mk X G a62 l62 c62 k62 (fun _ _ _ _ _ _ us hl => match us, hl with | [_, _], _ => rfl)
  have d_answer_map_of : DefF D.K mg "answer_map_of" s_answer_map_of ["line", "numbers"] f63 := def_mk X G a63 l63 c63 k63 (fun _ _ _ _ _ _ us hl => match us, hl with | [_, _], _ => rfl)
  have d_answer_shows : DefF D.K mg "answer_shows" s_answer_shows ["line", "numbers"] f64 := def_mk X G a64 l64 c64 k64 (fun _ _ _ _ _ _ us hl => match us, hl with | [_, _], _ => rfl)
  have d_call_length : DefF D.K mg "call_length" s_call_length ["calls", "place"] f65 := def_mk X G a65 l65 c65 k65 (fun _ _ _ _ _ _ us hl => match us, hl with | [_, _], _ => rfl)
  have d_lacks_an_instance : DefF D.K mg "lacks_an_instance" s_lacks_an_instance ["chosen"] f66 := def_mk X G a66 l66 c66 k66 (fun _ _ _ _ _ _ us hl => match us, hl with | [_], _ => rfl)
  have d_answer_call : DefF D.K mg "answer_call" s_answer_call ["line", "call"] f67 := def_mk X G a67 l67 c67 k67 (fun _ _ _ _ _ _ us hl => match us, hl with | [_, _], _ => rfl)
  have Fm : C8.Def D.K mg "answers" s_answers fa (PySem.W.fnOf "answers" "answers" (C8.fnArgs s_answers) (C8.fnBody s_answers) (C8.fnScope s_answers) .none kV68 dc68 pm68 an68 cd68 ct68) := ⟨⟨oc68, od68, .none, kV68, dc68, pm68, an68, cd68, ct68, sl68, rfl, l68, c68⟩, PySem.W.mg_of X G a68, k68⟩
  refine ⟨PySem.W.fnOf "answers" "answers" (C8.fnArgs s_answers) (C8.fnBody s_answers) (C8.fnScope s_answers) .none kV68 dc68 pm68 an68 cd68 ct68, fun s us hu => match us, hu with | [_], _ => .of_eq rfl, fun base _ _ => ?_⟩
  have h_init_Category : C8.Mak P w D.K mg base 1 "Category" D.cC (sp_init_Category D) [] := ok_init_Category TX d_init_Category 
  have h_has_thing : C8.Met P w D.K mg base 1 D.cC "has_thing" (sp_has_thing D) [] := ok_has_thing TX d_has_thing 
  have h_has_arrow : C8.Met P w D.K mg base 1 D.cC "has_arrow" (sp_has_arrow D) [] := ok_has_arrow TX d_has_arrow 
  have h_is_own : C8.Met P w D.K mg base 1 D.cC "is_own" (sp_is_own D) [] := ok_is_own TX d_is_own 
  have h_source : C8.Met P w D.K mg base 1 D.cC "source" (sp_source D) [] := ok_source TX d_source 
  have h_target : C8.Met P w D.K mg base 1 D.cC "target" (sp_target D) [] := ok_target TX d_target 
  have h_others : C8.Met P w D.K mg base 1 D.cC "others" (sp_others D) [] := ok_others TX d_others 
  have h_arrows_between : C8.Cal P w D.K mg base 1 "arrows_between" (sp_arrows_between D) [] := ok_arrows_between TX d_arrows_between.at_ 
  have h_init_Instance : C8.Mak P w D.K mg base 1 "Instance" D.cI (sp_init_Instance D) [] := ok_init_Instance TX d_init_Instance 
  have h_row_count : C8.Met P w D.K mg base 1 D.cI "row_count" (sp_row_count D) [] := ok_row_count TX d_row_count 
  have h_has_row : C8.Met P w D.K mg base 1 D.cI "has_row" (sp_has_row D) [] := ok_has_row TX d_has_row 
  have h_rows_in_order : C8.Cal P w D.K mg base 1 "rows_in_order" (sp_rows_in_order D) [] := ok_rows_in_order TX d_rows_in_order.at_ 
  have h_place_of_row : C8.Cal P w D.K mg base 1 "place_of_row" (sp_place_of_row D) [] := ok_place_of_row TX d_place_of_row.at_ 
  have h_piece_numbers : C8.Cal P w D.K mg base 1 "piece_numbers" (sp_piece_numbers D) [] := ok_piece_numbers TX d_piece_numbers.at_ 
  have h_holds : C8.Cal P w D.K mg base 1 "holds" (sp_holds D) [] := ok_holds TX d_holds.at_ 
  have h_takes_there : C8.Cal P w D.K mg base 1 "takes_there" (sp_takes_there D) [] := ok_takes_there TX d_takes_there.at_ 
  have h_takes_to_each_once : C8.Cal P w D.K mg base 1 "takes_to_each_once" (sp_takes_to_each_once D) [] := ok_takes_to_each_once TX d_takes_to_each_once.at_ 
  have h_in_groups : C8.Cal P w D.K mg base 1 "in_groups" (sp_in_groups D) [] := ok_in_groups TX d_in_groups.at_ 
  have h_call_length : C8.Cal P w D.K mg base 1 "call_length" (sp_call_length D) [] := ok_call_length TX d_call_length.at_ 
  have h_lacks_an_instance : C8.Cal P w D.K mg base 1 "lacks_an_instance" (sp_lacks_an_instance D) [] := ok_lacks_an_instance TX d_lacks_an_instance.at_ 
  have h_touches : C8.Met P w D.K mg base 2 D.cC "touches" (sp_touches D) [] := ok_touches TX d_touches h_source h_target
  have h_meet : C8.Met P w D.K mg base 2 D.cC "meet" (sp_meet D) [] := ok_meet TX d_meet h_target h_source
  have h_made : C8.Met P w D.K mg base 2 D.cC "made" (sp_made D) [] := ok_made TX d_made h_is_own
  have h_leads_to : C8.Cal P w D.K mg base 2 "leads_to" (sp_leads_to D) [] := ok_leads_to TX d_leads_to.at_ h_is_own
  have h_grown : C8.Cal P w D.K mg base 2 "grown" (sp_grown D) [] := ok_grown TX d_grown.at_ h_holds
  have h_arrows_by_end : C8.Cal P w D.K mg base 2 "arrows_by_end" (sp_arrows_by_end D) [] := ok_arrows_by_end TX d_arrows_by_end.at_ h_arrows_between
  have h_lacks_a_row : C8.Cal P w D.K mg base 2 "lacks_a_row" (sp_lacks_a_row D) [] := ok_lacks_a_row TX d_lacks_a_row.at_ h_has_row
  have h_meeting_pairs : C8.Cal P w D.K mg base 3 "meeting_pairs" (sp_meeting_pairs D) [] := ok_meeting_pairs TX d_meeting_pairs.at_ h_others h_meet
  have h_pair_fits : C8.Cal P w D.K mg base 3 "pair_fits" (sp_pair_fits D) [] := ok_pair_fits TX d_pair_fits.at_ h_made h_source h_target
  have h_triple_agrees : C8.Cal P w D.K mg base 3 "triple_agrees" (sp_triple_agrees D) [] := ok_triple_agrees TX d_triple_agrees.at_ h_made
  have h_put_rows : C8.Cal P w D.K mg base 3 "put_rows" (sp_put_rows D) [] := ok_put_rows TX d_put_rows.at_ h_others h_touches h_source
  have h_fault_of_row : C8.Cal P w D.K mg base 3 "fault_of_row" (sp_fault_of_row D) [] := ok_fault_of_row TX d_fault_of_row.at_ h_leads_to h_has_row h_target
  have h_leads_elsewhere : C8.Cal P w D.K mg base 3 "leads_elsewhere" (sp_leads_elsewhere D) [] := ok_leads_elsewhere TX d_leads_elsewhere.at_ h_leads_to h_made
  have h_empty_instances : C8.Cal P w D.K mg base 3 "empty_instances" (sp_empty_instances D) [] := ok_empty_instances TX d_empty_instances.at_ h_init_Instance
  have h_links : C8.Cal P w D.K mg base 3 "links" (sp_links D) [] := ok_links TX d_links.at_ h_others h_source h_place_of_row h_target h_leads_to
  have h_arrows_as_rows : C8.Cal P w D.K mg base 3 "arrows_as_rows" (sp_arrows_as_rows D) [] := ok_arrows_as_rows TX d_arrows_as_rows.at_ h_init_Instance h_arrows_by_end h_others h_target h_made h_source
  have h_map_to_row : C8.Cal P w D.K mg base 3 "map_to_row" (sp_map_to_row D) [] := ok_map_to_row TX d_map_to_row.at_ h_arrows_by_end h_leads_to
  have h_is_category : C8.Cal P w D.K mg base 4 "is_category" (sp_is_category D) [] := ok_is_category TX d_is_category.at_ h_meeting_pairs h_others h_pair_fits h_meet h_triple_agrees
  have h_first_missing : C8.Cal P w D.K mg base 4 "first_missing" (sp_first_missing D) [] := ok_first_missing TX d_first_missing.at_ h_others h_fault_of_row h_source
  have h_first_elsewhere : C8.Cal P w D.K mg base 4 "first_elsewhere" (sp_first_elsewhere D) [] := ok_first_elsewhere TX d_first_elsewhere.at_ h_meeting_pairs h_leads_elsewhere h_source
  have h_init_Line : C8.Mak P w D.K mg base 4 "Line" D.cL (sp_init_Line D) [] := ok_init_Line TX d_init_Line h_init_Category h_empty_instances
  have h_begin_anew : C8.Met P w D.K mg base 4 D.cL "begin_anew" (sp_begin_anew D) [] := ok_begin_anew TX d_begin_anew h_init_Category h_empty_instances
  have h_put_arrow : C8.Met P w D.K mg base 4 D.cL "put_arrow" (sp_put_arrow D) [] := ok_put_arrow TX d_put_arrow h_empty_instances
  have h_brought_along : C8.Cal P w D.K mg base 4 "brought_along" (sp_brought_along D) [] := ok_brought_along TX d_brought_along.at_ h_links h_rows_in_order
  have h_first_places : C8.Cal P w D.K mg base 4 "first_places" (sp_first_places D) [] := ok_first_places TX d_first_places.at_ h_row_count h_links
  have h_conditions_by_place : C8.Cal P w D.K mg base 4 "conditions_by_place" (sp_conditions_by_place D) [] := ok_conditions_by_place TX d_conditions_by_place.at_ h_links h_rows_in_order
  have h_first_fault : C8.Cal P w D.K mg base 5 "first_fault" (sp_first_fault D) [] := ok_first_fault TX d_first_fault.at_ h_first_missing h_first_elsewhere
  have h_all_maps : C8.Cal P w D.K mg base 5 "all_maps" (sp_all_maps D) [] := ok_all_maps TX d_all_maps.at_ h_conditions_by_place h_rows_in_order h_grown
  have h_is_right : C8.Cal P w D.K mg base 6 "is_right" (sp_is_right D) [] := ok_is_right TX d_is_right.at_ h_first_fault
  have h_maps_between : C8.Cal P w D.K mg base 6 "maps_between" (sp_maps_between D) [] := ok_maps_between TX d_maps_between.at_ h_all_maps
  have h_all_right : C8.Met P w D.K mg base 7 D.cL "all_right" (sp_all_right D) [] := ok_all_right TX d_all_right h_is_right
  have h_fulfils : C8.Met P w D.K mg base 8 D.cL "fulfils" (sp_fulfils D) [] := ok_fulfils TX d_fulfils h_is_category h_all_right
  have HA : ∀ f sp, An D f sp → Held P w D.K mg base 8 f sp := by
    rintro f sp ⟨i, hi, rfl, rfl⟩
    match i, hi with
    | 0, _ => exact held_mono (okh_answer_start TX d_answer_start h_begin_anew) (by decide)
    | 1, _ => exact held_mono (okh_answer_arrow TX d_answer_arrow h_put_arrow h_has_thing) (by decide)
    | 2, _ => exact held_mono (okh_answer_make TX d_answer_make h_is_own h_has_arrow h_meet) (by decide)
    | 3, _ => exact held_mono (okh_answer_rows TX d_answer_rows h_put_rows h_has_thing h_row_count) (by decide)
    | 4, _ => exact held_mono (okh_answer_set TX d_answer_set h_has_arrow h_is_own h_has_row h_source) (by decide)
    | 5, _ => exact held_mono (okh_answer_check TX d_answer_check h_first_fault) (by decide)
    | 6, _ => exact held_mono (okh_answer_maps TX d_answer_maps h_maps_between) (by decide)
    | 7, _ => exact held_mono (okh_answer_nth TX d_answer_nth h_maps_between) (by decide)
    | 8, _ => exact held_mono (okh_answer_fixed TX d_answer_fixed h_in_groups h_lacks_a_row h_maps_between h_place_of_row h_takes_there) (by decide)
    | 9, _ => exact held_mono (okh_answer_alike TX d_answer_alike h_maps_between h_takes_to_each_once) (by decide)
    | 10, _ => exact held_mono (okh_answer_part TX d_answer_part h_in_groups h_lacks_a_row h_brought_along h_place_of_row) (by decide)
    | 11, _ => exact held_mono (okh_answer_pieces TX d_answer_pieces h_first_places h_piece_numbers) (by decide)
    | 12, _ => exact held_mono (okh_answer_arrows TX d_answer_arrows h_arrows_as_rows h_has_thing h_row_count) (by decide)
    | 13, _ => exact held_mono (okh_answer_map_of TX d_answer_map_of h_map_to_row h_has_row) (by decide)
    | 14, _ => exact held_mono (okh_answer_shows TX d_answer_shows h_others) (by decide)
  have h_answer_call : C8.Cal P w D.K mg base 9 "answer_call" (sp_answer_call D) [] := ok_answer_call TX d_answer_call.at_ h_lacks_an_instance h_fulfils HA
  exact okf_answers TX Fm h_init_Line h_answer_call h_call_length
end AR
open PySem PySem.W PyProof.Rows
set_option maxRecDepth 100000 in
set_option maxHeartbeats 8000000 in
theorem PySem.Challenge.cw_arrowrows_s01_answers_holds : PySem.Challenge.rw_arrowrows_s01_answers.Holds := by
  w_on; k_headS; (case hw => exact ⟨[.list [.int 5, .int 0]], by decide +kernel, by decide +kernel⟩)
  k_fillS
  refine L2.walk_specK (r := PySem.Challenge.rw_arrowrows_s01_answers) (k := 10) (CX := L2.CX0) (ps := ["calls"]) (sp := AR.spTop) (by decide +kernel) rfl rfl ⟨rfl, by decide, by decide⟩ (fun w h Y => PySem.W.kIn_of Y) ?F ?S (fun _ _ _ _ z => z)
  case F =>
    intro w mg fa h Y KX G hmg
    refine' AR.all_mk KX G hmg ?acC ?acI ?acL ?a0 ?i0 ?l0 ?c0 ?k0 ?a1 ?i1 ?l1 ?c1 ?k1 ?a2 ?i2 ?l2 ?c2 ?k2 ?a3 ?i3 ?l3 ?c3 ?k3 ?a4 ?i4 ?l4 ?c4 ?k4 ?a5 ?i5 ?l5 ?c5 ?k5 ?a6 ?i6 ?l6 ?c6 ?k6 ?a7 ?i7 ?l7 ?c7 ?k7 ?a8 ?i8 ?l8 ?c8 ?k8 ?a9 ?i9 ?l9 ?c9 ?k9 ?a10 ?l10 ?c10 ?k10 ?a11 ?l11 ?c11 ?k11 ?a12 ?l12 ?c12 ?k12 ?a13 ?l13 ?c13 ?k13 ?a14 ?l14 ?c14 ?k14 ?a15 ?i15 ?l15 ?c15 ?k15 ?a16 ?i16 ?l16 ?c16 ?k16 ?a17 ?i17 ?l17 ?c17 ?k17 ?a18 ?l18 ?c18 ?k18 ?a19 ?l19 ?c19 ?k19 ?a20 ?l20 ?c20 ?k20 ?a21 ?l21 ?c21 ?k21 ?a22 ?l22 ?c22 ?k22 ?a23 ?l23 ?c23 ?k23 ?a24 ?l24 ?c24 ?k24 ?a25 ?l25 ?c25 ?k25 ?a26 ?l26 ?c26 ?k26 ?a27 ?i27 ?l27 ?c27 ?k27 ?a28 ?i28 ?l28 ?c28 ?k28 ?a29 ?i29 ?l29 ?c29 ?k29 ?a30 ?i30 ?l30 ?c30 ?k30 ?a31 ?i31 ?l31 ?c31 ?k31 ?a32 ?l32 ?c32 ?k32 ?a33 ?l33 ?c33 ?k33 ?a34 ?l34 ?c34 ?k34 ?a35 ?l35 ?c35 ?k35 ?a36 ?l36 ?c36 ?k36 ?a37 ?l37 ?c37 ?k37 ?a38 ?l38 ?c38 ?k38 ?a39 ?l39 ?c39 ?k39 ?a40 ?l40 ?c40 ?k40 ?a41 ?l41 ?c41 ?k41 ?a42 ?l42 ?c42 ?k42 ?a43 ?l43 ?c43 ?k43 ?a44 ?l44 ?c44 ?k44 ?a45 ?l45 ?c45 ?k45 ?a46 ?l46 ?c46 ?k46 ?a47 ?l47 ?c47 ?k47 ?a48 ?l48 ?c48 ?k48 ?a49 ?l49 ?c49 ?k49 ?a50 ?l50 ?c50 ?k50 ?a51 ?l51 ?c51 ?k51 ?a52 ?l52 ?c52 ?k52 ?a53 ?l53 ?c53 ?k53 ?a54 ?l54 ?c54 ?k54 ?a55 ?l55 ?c55 ?k55 ?a56 ?l56 ?c56 ?k56 ?a57 ?l57 ?c57 ?k57 ?a58 ?l58 ?c58 ?k58 ?a59 ?l59 ?c59 ?k59 ?a60 ?l60 ?c60 ?k60 ?a61 ?l61 ?c61 ?k61 ?a62 ?l62 ?c62 ?k62 ?a63 ?l63 ?c63 ?k63 ?a64 ?l64 ?c64 ?k64 ?a65 ?l65 ?c65 ?k65 ?a66 ?l66 ?c66 ?k66 ?a67 ?l67 ?c67 ?k67 ?a68 ?l68 ?c68 ?k68 ?pgcC ?hdcC ?pocC ?sacC ?mkcC ?kccC ?n_things ?n_ends ?n_told ?pgcI ?hdcI ?pocI ?sacI ?mkcI ?kccI ?n_counts ?n_leads ?pgcL ?hdcL ?pocL ?sacL ?mkcL ?kccL ?n_category ?n_instances ?z_enumerate ?z_len ?z_list ?z_max ?z_min ?z_range ?z_set ?z_sorted ?z_sum ?z_tuple ?g_UNTOLD ?g_NOT_LET ?g_NO_INSTANCE ?g_NOT_THERE ?g_TOO_MANY ?g_NOT_RIGHT ?g_MOST_THINGS ?g_MOST_ARROWS ?g_MOST_ROWS ?g_HOW_MANY_INSTANCES ?aT ?lT ?lR0 ?lR1 ?lR2 ?lR3 ?lR4 ?lR5 ?lR6 ?lR7 ?lR8 ?lR9 ?lR10 ?lR11 ?lR12 ?lR13 ?lR14
    (case acC => k_is)
    (case acI => k_is)
    (case acL => k_is)
    (case a0 => k_is)
    (case i0 => k_is)
    (case l0 => k_is)
    (case c0 => k_is)
    (case k0 => k_is)
    (case a1 => k_is)
    (case i1 => k_is)
    (case l1 => k_is)
    (case c1 => k_is)
    (case k1 => k_is)
    (case a2 => k_is)
    (case i2 => k_is)
    (case l2 => k_is)
    (case c2 => k_is)
    (case k2 => k_is)
    (case a3 => k_is)
    (case i3 => k_is)
    (case l3 => k_is)
    (case c3 => k_is)
    (case k3 => k_is)
    (case a4 => k_is)
    (case i4 => k_is)
    (case l4 => k_is)
    (case c4 => k_is)
    (case k4 => k_is)
    (case a5 => k_is)
    (case i5 => k_is)
    (case l5 => k_is)
    (case c5 => k_is)
    (case k5 => k_is)
    (case a6 => k_is)
    (case i6 => k_is)
    (case l6 => k_is)
    (case c6 => k_is)
    (case k6 => k_is)
    (case a7 => k_is)
    (case i7 => k_is)
    (case l7 => k_is)
    (case c7 => k_is)
    (case k7 => k_is)
    (case a8 => k_is)
    (case i8 => k_is)
    (case l8 => k_is)
    (case c8 => k_is)
    (case k8 => k_is)
    (case a9 => k_is)
    (case i9 => k_is)
    (case l9 => k_is)
    (case c9 => k_is)
    (case k9 => k_is)
    (case a10 => k_is)
    (case l10 => k_is)
    (case c10 => k_is)
    (case k10 => k_is)
    (case a11 => k_is)
    (case l11 => k_is)
    (case c11 => k_is)
    (case k11 => k_is)
    (case a12 => k_is)
    (case l12 => k_is)
    (case c12 => k_is)
    (case k12 => k_is)
    (case a13 => k_is)
    (case l13 => k_is)
    (case c13 => k_is)
    (case k13 => k_is)
    (case a14 => k_is)
    (case l14 => k_is)
    (case c14 => k_is)
    (case k14 => k_is)
    (case a15 => k_is)
    (case i15 => k_is)
    (case l15 => k_is)
    (case c15 => k_is)
    (case k15 => k_is)
    (case a16 => k_is)
    (case i16 => k_is)
    (case l16 => k_is)
    (case c16 => k_is)
    (case k16 => k_is)
    (case a17 => k_is)
    (case i17 => k_is)
    (case l17 => k_is)
    (case c17 => k_is)
    (case k17 => k_is)
    (case a18 => k_is)
    (case l18 => k_is)
    (case c18 => k_is)
    (case k18 => k_is)
    (case a19 => k_is)
    (case l19 => k_is)
    (case c19 => k_is)
    (case k19 => k_is)
    (case a20 => k_is)
    (case l20 => k_is)
    (case c20 => k_is)
    (case k20 => k_is)
    (case a21 => k_is)
    (case l21 => k_is)
    (case c21 => k_is)
    (case k21 => k_is)
    (case a22 => k_is)
    (case l22 => k_is)
    (case c22 => k_is)
    (case k22 => k_is)
    (case a23 => k_is)
    (case l23 => k_is)
    (case c23 => k_is)
    (case k23 => k_is)
    (case a24 => k_is)
    (case l24 => k_is)
    (case c24 => k_is)
    (case k24 => k_is)
    (case a25 => k_is)
    (case l25 => k_is)
    (case c25 => k_is)
    (case k25 => k_is)
    (case a26 => k_is)
    (case l26 => k_is)
    (case c26 => k_is)
    (case k26 => k_is)
    (case a27 => k_is)
    (case i27 => k_is)
    (case l27 => k_is)
    (case c27 => k_is)
    (case k27 => k_is)
    (case a28 => k_is)
    (case i28 => k_is)
    (case l28 => k_is)
    (case c28 => k_is)
    (case k28 => k_is)
    (case a29 => k_is)
    (case i29 => k_is)
    (case l29 => k_is)
    (case c29 => k_is)
    (case k29 => k_is)
    (case a30 => k_is)
    (case i30 => k_is)
    (case l30 => k_is)
    (case c30 => k_is)
    (case k30 => k_is)
    (case a31 => k_is)
    (case i31 => k_is)
    (case l31 => k_is)
    (case c31 => k_is)
    (case k31 => k_is)
    (case a32 => k_is)
    (case l32 => k_is)
    (case c32 => k_is)
    (case k32 => k_is)
    (case a33 => k_is)
    (case l33 => k_is)
    (case c33 => k_is)
    (case k33 => k_is)
    (case a34 => k_is)
    (case l34 => k_is)
    (case c34 => k_is)
    (case k34 => k_is)
    (case a35 => k_is)
    (case l35 => k_is)
    (case c35 => k_is)
    (case k35 => k_is)
    (case a36 => k_is)
    (case l36 => k_is)
    (case c36 => k_is)
    (case k36 => k_is)
    (case a37 => k_is)
    (case l37 => k_is)
    (case c37 => k_is)
    (case k37 => k_is)
    (case a38 => k_is)
    (case l38 => k_is)
    (case c38 => k_is)
    (case k38 => k_is)
    (case a39 => k_is)
    (case l39 => k_is)
    (case c39 => k_is)
    (case k39 => k_is)
    (case a40 => k_is)
    (case l40 => k_is)
    (case c40 => k_is)
    (case k40 => k_is)
    (case a41 => k_is)
    (case l41 => k_is)
    (case c41 => k_is)
    (case k41 => k_is)
    (case a42 => k_is)
    (case l42 => k_is)
    (case c42 => k_is)
    (case k42 => k_is)
    (case a43 => k_is)
    (case l43 => k_is)
    (case c43 => k_is)
    (case k43 => k_is)
    (case a44 => k_is)
    (case l44 => k_is)
    (case c44 => k_is)
    (case k44 => k_is)
    (case a45 => k_is)
    (case l45 => k_is)
    (case c45 => k_is)
    (case k45 => k_is)
    (case a46 => k_is)
    (case l46 => k_is)
    (case c46 => k_is)
    (case k46 => k_is)
    (case a47 => k_is)
    (case l47 => k_is)
    (case c47 => k_is)
    (case k47 => k_is)
    (case a48 => k_is)
    (case l48 => k_is)
    (case c48 => k_is)
    (case k48 => k_is)
    (case a49 => k_is)
    (case l49 => k_is)
    (case c49 => k_is)
    (case k49 => k_is)
    (case a50 => k_is)
    (case l50 => k_is)
    (case c50 => k_is)
    (case k50 => k_is)
    (case a51 => k_is)
    (case l51 => k_is)
    (case c51 => k_is)
    (case k51 => k_is)
    (case a52 => k_is)
    (case l52 => k_is)
    (case c52 => k_is)
    (case k52 => k_is)
    (case a53 => k_is)
    (case l53 => k_is)
    (case c53 => k_is)
    (case k53 => k_is)
    (case a54 => k_is)
    (case l54 => k_is)
    (case c54 => k_is)
    (case k54 => k_is)
    (case a55 => k_is)
    (case l55 => k_is)
    (case c55 => k_is)
    (case k55 => k_is)
    (case a56 => k_is)
    (case l56 => k_is)
    (case c56 => k_is)
    (case k56 => k_is)
    (case a57 => k_is)
    (case l57 => k_is)
    (case c57 => k_is)
    (case k57 => k_is)
    (case a58 => k_is)
    (case l58 => k_is)
    (case c58 => k_is)
    (case k58 => k_is)
    (case a59 => k_is)
    (case l59 => k_is)
    (case c59 => k_is)
    (case k59 => k_is)
    (case a60 => k_is)
    (case l60 => k_is)
    (case c60 => k_is)
    (case k60 => k_is)
    (case a61 => k_is)
    (case l61 => k_is)
    (case c61 => k_is)
    (case k61 => k_is)
    (case a62 => k_is)
    (case l62 => k_is)
    (case c62 => k_is)
    (case k62 => k_is)
    (case a63 => k_is)
    (case l63 => k_is)
    (case c63 => k_is)
    (case k63 => k_is)
    (case a64 => k_is)
    (case l64 => k_is)
    (case c64 => k_is)
    (case k64 => k_is)
    (case a65 => k_is)
    (case l65 => k_is)
    (case c65 => k_is)
    (case k65 => k_is)
    (case a66 => k_is)
    (case l66 => k_is)
    (case c66 => k_is)
    (case k66 => k_is)
    (case a67 => k_is)
    (case l67 => k_is)
    (case c67 => k_is)
    (case k67 => k_is)
    (case a68 => k_is)
    (case l68 => k_is)
    (case c68 => k_is)
    (case k68 => k_is)
    (case pgcC => k_is)
    (case hdcC => k_is)
    (case pocC => k_is)
    (case sacC => k_is)
    (case mkcC => k_is)
    (case kccC => k_is)
    (case n_things => k_is)
    (case n_ends => k_is)
    (case n_told => k_is)
    (case pgcI => k_is)
    (case hdcI => k_is)
    (case pocI => k_is)
    (case sacI => k_is)
    (case mkcI => k_is)
    (case kccI => k_is)
    (case n_counts => k_is)
    (case n_leads => k_is)
    (case pgcL => k_is)
    (case hdcL => k_is)
    (case pocL => k_is)
    (case sacL => k_is)
    (case mkcL => k_is)
    (case kccL => k_is)
    (case n_category => k_is)
    (case n_instances => k_is)
    (case z_enumerate => k_is)
    (case z_len => k_is)
    (case z_list => k_is)
    (case z_max => k_is)
    (case z_min => k_is)
    (case z_range => k_is)
    (case z_set => k_is)
    (case z_sorted => k_is)
    (case z_sum => k_is)
    (case z_tuple => k_is)
    (case g_UNTOLD => k_is)
    (case g_NOT_LET => k_is)
    (case g_NO_INSTANCE => k_is)
    (case g_NOT_THERE => k_is)
    (case g_TOO_MANY => k_is)
    (case g_NOT_RIGHT => k_is)
    (case g_MOST_THINGS => k_is)
    (case g_MOST_ARROWS => k_is)
    (case g_MOST_ROWS => k_is)
    (case g_HOW_MANY_INSTANCES => k_is)
    (case aT => k_is)
    (case lT => k_is)
    (case lR0 => k_is)
    (case lR1 => k_is)
    (case lR2 => k_is)
    (case lR3 => k_is)
    (case lR4 => k_is)
    (case lR5 => k_is)
    (case lR6 => k_is)
    (case lR7 => k_is)
    (case lR8 => k_is)
    (case lR9 => k_is)
    (case lR10 => k_is)
    (case lR11 => k_is)
    (case lR12 => k_is)
    (case lR13 => k_is)
    (case lR14 => k_is)
  case S => exact fun K H xs a hO hwi hask hx => AR.top_S K H xs a hO hwi hask hx
