import PyProof.Rows.All
import Wide.All
import OpenK.AllK
import Wide.FinOn
import PyProof.EqAt
import PyProof.EqKinds
import PyProof.TupleCall
import KE.BitLaws
import Open.SpecLaws
import KE.OsHead
import KE.OsGo
import PyWqandi
import KE.KMinKey
import KE.KRevIter
import PySem.Challenge.RW_flatmessages_s01_answers
set_option Elab.async false
namespace FmM
open Fm
/-- the byte at a place, 0 behind the end -/
def bt (m : Bytes) (i : Nat) : Nat := (m.getD i 0).toNat
theorem bt_lt (m : Bytes) (i : Nat) : bt m i < 256 := (m.getD i 0).toNat_lt
theorem bt_get {m : Bytes} {i : Nat} (h : i < m.length) : m[i]? = some (m.getD i 0) := by
  rw [List.getD_eq_getElem?_getD, List.getElem?_eq_getElem h]; rfl
theorem numAt_zero (m : Bytes) (i : Nat) : numAt m i 0 = 0 := by simp [numAt]
theorem numAt_succ (m : Bytes) (i w : Nat) : numAt m i (w + 1) = bt m i + 256 * numAt m (i + 1) w := by
  unfold numAt bt
  by_cases h : i < m.length
  · rw [List.drop_eq_getElem_cons h, List.take_succ_cons, List.foldr_cons, List.getD_eq_getElem?_getD, List.getElem?_eq_getElem h]
    rfl
  · rw [List.drop_eq_nil_of_le (by omega), List.drop_eq_nil_of_le (by omega), List.getD_eq_getElem?_getD, List.getElem?_eq_none (by omega)]
    simp
theorem num1 (m : Bytes) (i : Nat) : numAt m i 1 = bt m i := by rw [numAt_succ, numAt_zero]; omega
theorem num3 (m : Bytes) (i : Nat) : numAt m i 3 = bt m i + 256 * (bt m (i + 1) + 256 * bt m (i + 2)) := by
  simp only [numAt_succ, numAt_zero, Nat.add_assoc, Nat.reduceAdd]; omega
theorem num4 (m : Bytes) (i : Nat) : numAt m i 4 = bt m i + 256 * (bt m (i + 1) + 256 * (bt m (i + 2) + 256 * bt m (i + 3))) := by
  simp only [numAt_succ, numAt_zero, Nat.add_assoc, Nat.reduceAdd]; omega
theorem num8 (m : Bytes) (i : Nat) : numAt m i 8 = numAt m i 4 + 4294967296 * numAt m (i + 4) 4 := by
  simp only [numAt_succ, numAt_zero, Nat.add_assoc, Nat.reduceAdd]; omega
theorem num4_lt (m : Bytes) (i : Nat) : numAt m i 4 < 4294967296 := by
  rw [num4]; have := bt_lt m i; have := bt_lt m (i + 1); have := bt_lt m (i + 2); have := bt_lt m (i + 3); omega
theorem num3_lt (m : Bytes) (i : Nat) : numAt m i 3 < 16777216 := by
  rw [num3]; have := bt_lt m i; have := bt_lt m (i + 1); have := bt_lt m (i + 2); omega
/-- the count is the word's higher part, the kind its lowest byte -/
theorem count_word (m : Bytes) (i : Nat) : numAt m (i + 1) 3 = numAt m i 4 / 256 := by
  rw [num3, num4]; have := bt_lt m i; simp only [Nat.add_assoc, Nat.reduceAdd]; omega
theorem kind_word (m : Bytes) (i : Nat) : numAt m i 1 = numAt m i 4 % 256 := by
  rw [num1, num4]; have := bt_lt m i; omega
theorem up4_eq (n : Nat) : up4 n = (n + 3) / 4 * 4 := rfl
theorem up4_ge (n : Nat) : n ≤ up4 n := by rw [up4_eq]; omega
theorem up4_lt (n : Nat) : up4 n < n + 4 := by rw [up4_eq]; omega

/-! ### a value that stands right -/
def kindAt (m : Bytes) (o : Nat) : Nat := numAt m o 1
def countAt (m : Bytes) (o : Nat) : Nat := numAt m (o + 1) 3
def ownSize (k c : Nat) : Nat := if k = 1 then 12 else if k = 2 then 4 + up4 c else if k = 3 then 4 + 4 * c else 4 + 8 * c
def mayHold (m : Bytes) (o : Nat) : Bool := decide (8 ≤ o) && (decide (o % 4 = 0) && decide (o + 4 ≤ m.length))
def keysIn (m : Bytes) (o : Nat) : List Nat := (fieldsAt m (o + 4) (countAt m o)).map fun x => x.1
def placesIn (m : Bytes) (o : Nat) : List Nat :=
  if kindAt m o = 1 ∨ kindAt m o = 2 then [] else if kindAt m o = 3 then placesAt m (o + 4) (countAt m o) else (fieldsAt m (o + 4) (countAt m o)).map fun x => x.2
def zerosIn (m : Bytes) (o : Nat) : Bool := ((m.drop (o + 4 + countAt m o)).take (up4 (countAt m o) - countAt m o)).all fun c => c == 0
def insideRight (m : Bytes) (o : Nat) : Bool :=
  if kindAt m o = 1 then decide (countAt m o = 0) else if kindAt m o = 2 then zerosIn m o else
  if kindAt m o = 4 ∧ rising (keysIn m o) = false then false else (placesIn m o).all (mayPoint m o)
def standsRight (m : Bytes) (o : Nat) : Bool :=
  if isMessage m = false ∨ mayHold m o = false then false else
  if kindAt m o < 1 ∨ 4 < kindAt m o then false else
  if m.length < o + ownSize (kindAt m o) (countAt m o) then false else insideRight m o
theorem mayHold_iff {m : Bytes} {o : Nat} : mayHold m o = true ↔ 8 ≤ o ∧ o % 4 = 0 ∧ o + 4 ≤ m.length := by
  simp [mayHold]
theorem view_guard (m : Bytes) (o : Nat) : (isMessage m = false ∨ o < 8 ∨ o % 4 ≠ 0 ∨ m.length < o + 4) ↔ (isMessage m = false ∨ mayHold m o = false) := by
  have e := mayHold_iff (m := m) (o := o)
  cases h : mayHold m o <;> rw [h] at e <;> simp at e ⊢ <;> by_cases a : isMessage m = false <;> simp [a] <;> omega
section
variable {m : Bytes} {o : Nat} (g : ¬ (isMessage m = false ∨ mayHold m o = false))
include g
theorem sr1 (k : kindAt m o = 1) : standsRight m o = (decide (o + 12 ≤ m.length) && decide (countAt m o = 0)) := by
  unfold standsRight insideRight ownSize
  rw [if_neg g, if_neg (by omega), if_pos k, if_pos k]
  by_cases l : o + 12 ≤ m.length
  · rw [if_neg (by omega), decide_eq_true l, Bool.true_and]
  · rw [if_pos (by omega), decide_eq_false l, Bool.false_and]
theorem sr2 (k : kindAt m o = 2) : standsRight m o = (decide (o + 4 + up4 (countAt m o) ≤ m.length) && zerosIn m o) := by
  have e1 : ownSize (kindAt m o) (countAt m o) = 4 + up4 (countAt m o) := by unfold ownSize; rw [k]; rfl
  have e2 : insideRight m o = zerosIn m o := by unfold insideRight; rw [k]; rfl
  unfold standsRight
  rw [if_neg g, if_neg (by omega), e1, e2, ← Nat.add_assoc]
  by_cases l : o + 4 + up4 (countAt m o) ≤ m.length
  · rw [if_neg (by omega), decide_eq_true l, Bool.true_and]
  · rw [if_pos (by omega), decide_eq_false l, Bool.false_and]
theorem sr3 (k : kindAt m o = 3) : standsRight m o = (decide (o + 4 + 4 * countAt m o ≤ m.length) && (placesAt m (o + 4) (countAt m o)).all (mayPoint m o)) := by
  have e1 : ownSize (kindAt m o) (countAt m o) = 4 + 4 * countAt m o := by unfold ownSize; rw [k]; rfl
  have e2 : insideRight m o = (placesAt m (o + 4) (countAt m o)).all (mayPoint m o) := by
    unfold insideRight placesIn
    rw [k, if_neg (by omega), if_neg (by omega), if_neg (by omega), if_neg (by omega), if_pos rfl]
  unfold standsRight
  rw [if_neg g, if_neg (by omega), e1, e2, ← Nat.add_assoc]
  by_cases l : o + 4 + 4 * countAt m o ≤ m.length
  · rw [if_neg (by omega), decide_eq_true l, Bool.true_and]
  · rw [if_pos (by omega), decide_eq_false l, Bool.false_and]
theorem sr4 (k : kindAt m o = 4) : standsRight m o = (decide (o + 4 + 8 * countAt m o ≤ m.length) && (rising (keysIn m o) && (fieldsAt m (o + 4) (countAt m o)).all fun x => mayPoint m o x.2)) := by
  have e1 : ownSize (kindAt m o) (countAt m o) = 4 + 8 * countAt m o := by unfold ownSize; rw [k]; rfl
  have e2 : insideRight m o = (rising (keysIn m o) && (fieldsAt m (o + 4) (countAt m o)).all fun x => mayPoint m o x.2) := by
    unfold insideRight placesIn
    rw [k, if_neg (by omega), if_neg (by omega), if_neg (by omega : ¬ (4 = 1 ∨ 4 = 2)), if_neg (by omega : ¬ 4 = 3), List.all_map]
    cases rising (keysIn m o)
    · rw [if_pos ⟨rfl, rfl⟩, Bool.false_and]
    · rw [if_neg (fun q => Bool.noConfusion q.2), Bool.true_and]
      rfl
  unfold standsRight
  rw [if_neg g, if_neg (by omega), e1, e2, ← Nat.add_assoc]
  by_cases l : o + 4 + 8 * countAt m o ≤ m.length
  · rw [if_neg (by omega), decide_eq_true l, Bool.true_and]
  · rw [if_pos (by omega), decide_eq_false l, Bool.false_and]
theorem sr0 (k1 : ¬ kindAt m o = 1) (k2 : ¬ kindAt m o = 2) (k3 : ¬ kindAt m o = 3) (k4 : ¬ kindAt m o = 4) : standsRight m o = false := by
  unfold standsRight
  rw [if_neg g, if_pos (by omega)]
end
/-- what view says, by the kind -/
theorem view_eq (m : Bytes) (o : Nat) : view m o = if standsRight m o = false then none else
    if kindAt m o = 1 then some (.number (numAt m (o + 4) 8)) else if kindAt m o = 2 then some (.bytes (o + 4) (countAt m o)) else
    if kindAt m o = 3 then some (.list (placesAt m (o + 4) (countAt m o))) else some (.record (fieldsAt m (o + 4) (countAt m o))) := by
  unfold view
  simp only [view_guard]
  show (if _ then none else if kindAt m o = 1 then (if countAt m o = 0 ∧ _ then _ else _) else if kindAt m o = 2 then (if m.length < o + 4 + up4 (countAt m o) then none else if zerosIn m o = true then some (View.bytes (o + 4) (countAt m o)) else none)
    else if kindAt m o = 3 then (if m.length < o + 4 + 4 * countAt m o then none else listAt m o (countAt m o)) else if kindAt m o = 4 then (if m.length < o + 4 + 8 * countAt m o then none else recordAt m o (countAt m o)) else none) = _
  by_cases g : isMessage m = false ∨ mayHold m o = false
  · rw [if_pos g, if_pos (by unfold standsRight; rw [if_pos g])]
  · rw [if_neg g]
    by_cases h1 : kindAt m o = 1
    · rw [if_pos h1, if_pos h1, sr1 g h1]
      by_cases c : countAt m o = 0 <;> by_cases l : o + 12 ≤ m.length <;> simp [c, l]
    rw [if_neg h1]
    by_cases h2 : kindAt m o = 2
    · rw [if_pos h2, if_neg h1, if_pos h2, sr2 g h2]
      by_cases l : o + 4 + up4 (countAt m o) ≤ m.length
      · rw [if_neg (by omega), decide_eq_true l]
        cases zerosIn m o <;> simp
      · rw [if_pos (by omega), decide_eq_false l]; simp
    rw [if_neg h2]
    by_cases h3 : kindAt m o = 3
    · rw [if_pos h3, if_neg h1, if_neg h2, if_pos h3, sr3 g h3]
      unfold listAt
      by_cases l : o + 4 + 4 * countAt m o ≤ m.length
      · rw [if_neg (by omega), decide_eq_true l]
        dsimp only
        cases (placesAt m (o + 4) (countAt m o)).all (mayPoint m o) <;> simp
      · rw [if_pos (by omega), decide_eq_false l]; simp
    rw [if_neg h3]
    by_cases h4 : kindAt m o = 4
    · rw [if_pos h4, if_neg h1, if_neg h2, if_neg h3, sr4 g h4]
      unfold recordAt
      by_cases l : o + 4 + 8 * countAt m o ≤ m.length
      · rw [if_neg (by omega), decide_eq_true l]
        dsimp only
        have e : (fieldsAt m (o + 4) (countAt m o)).map (fun x => x.1) = keysIn m o := rfl
        rw [e]
        cases rising (keysIn m o) <;> cases ((fieldsAt m (o + 4) (countAt m o)).all fun x => mayPoint m o x.2) <;> simp
      · rw [if_pos (by omega), decide_eq_false l]; simp
    rw [if_neg h4, sr0 g h1 h2 h3 h4]; simp
theorem view_none {m : Bytes} {o : Nat} : view m o = none ↔ standsRight m o = false := by
  rw [view_eq]
  cases standsRight m o
  · simp
  · rw [if_neg (by simp)]
    split
    · simp
    · split
      · simp
      · split <;> simp
end FmM
set_option Elab.async false
namespace FmM
open Fm
theorem placesAt_len (m : Bytes) (o c : Nat) : (placesAt m o c).length = c := by simp [placesAt]
theorem fieldsAt_len (m : Bytes) (o c : Nat) : (fieldsAt m o c).length = c := by simp [fieldsAt]
theorem gather_map {α β γ : Type} (f : β → Option γ) (g : α → β) : ∀ l : List α, gather f (l.map g) = gather (fun x => f (g x)) l
  | [] => rfl
  | x :: r => by
    rw [List.map_cons, gather, gather, gather_map f g r]
theorem gather_congr {α β : Type} {f g : α → Option β} : ∀ {l : List α}, (∀ x ∈ l, f x = g x) → gather f l = gather g l
  | [], _ => rfl
  | x :: r, h => by
    rw [gather, gather, h x (List.mem_cons_self ..), gather_congr (l := r) fun y hy => h y (List.mem_cons_of_mem _ hy)]
theorem gather_nil {α β : Type} (f : α → Option β) : gather f [] = some [] := rfl
theorem gather_none {α β : Type} {f : α → Option β} : ∀ {l : List α} {x : α}, x ∈ l → f x = none → gather f l = none
  | y :: r, x, h, e => by
    rw [gather]
    rcases List.mem_cons.mp h with q | q
    · rw [← q, e]
    · rw [gather_none q e]
      cases f y <;> rfl
theorem gather_some {α β : Type} {f : α → Option β} : ∀ {l : List α}, (∀ x ∈ l, (f x).isSome = true) → ∃ k, gather f l = some k
  | [], _ => ⟨[], rfl⟩
  | x :: r, h => by
    obtain ⟨k, e⟩ := gather_some (f := f) (l := r) fun y hy => h y (List.mem_cons_of_mem _ hy)
    have hx := h x (List.mem_cons_self ..)
    cases q : f x with
    | none => rw [q] at hx; cases hx
    | some y => exact ⟨y :: k, by rw [gather, q, e]⟩
theorem gather_mem {α β : Type} {f : α → Option β} : ∀ {l : List α} {k : List β}, gather f l = some k → ∀ x ∈ l, ∃ y ∈ k, f x = some y
  | [], _, _, x, h => by simp at h
  | z :: r, k, e, x, h => by
    rw [gather] at e
    cases q : f z with
    | none => rw [q] at e; cases e
    | some y =>
      cases q2 : gather f r with
      | none => rw [q, q2] at e; cases e
      | some k2 =>
        rw [q, q2] at e; cases e
        rcases List.mem_cons.mp h with rfl | hx
        · exact ⟨y, List.mem_cons_self .., q⟩
        · obtain ⟨w, hw, hf⟩ := gather_mem q2 x hx
          exact ⟨w, List.mem_cons_of_mem _ hw, hf⟩
theorem gather_len {α β : Type} {f : α → Option β} : ∀ {l : List α} {k : List β}, gather f l = some k → k.length = l.length
  | [], _, e => by cases e; rfl
  | z :: r, k, e => by
    rw [gather] at e
    cases q : f z with
    | none => rw [q] at e; cases e
    | some y =>
      cases q2 : gather f r with
      | none => rw [q, q2] at e; cases e
      | some k2 =>
        rw [q, q2] at e; cases e
        rw [List.length_cons, List.length_cons, gather_len q2]
theorem gather_snoc {α β : Type} {f : α → Option β} : ∀ {l : List α} {k : List β} {x : α} {y : β}, gather f l = some k → f x = some y → gather f (l ++ [x]) = some (k ++ [y])
  | [], k, x, y, e, h => by cases e; rw [List.nil_append, gather, h]; rfl
  | z :: r, k, x, y, e, h => by
    rw [gather] at e
    cases q : f z with
    | none => rw [q] at e; cases e
    | some w =>
      cases q2 : gather f r with
      | none => rw [q, q2] at e; cases e
      | some k2 =>
        rw [q, q2] at e; cases e
        rw [List.cons_append, gather, q, gather_snoc q2 h]; rfl
/-- depth and size over those in it, by the places in order -/
theorem depthSize_eq (m : Bytes) (t : Known) (o : Nat) : depthSize m t o = if standsRight m o = false then none else
    (gather (knownAt t) (placesIn m o)).map (above (ownSize (kindAt m o) (countAt m o))) := by
  unfold depthSize
  rw [view_eq]
  by_cases s : standsRight m o = false
  · rw [if_pos s, if_pos s]
  · rw [if_neg s, if_neg s]
    unfold placesIn ownSize
    by_cases h1 : kindAt m o = 1
    · rw [if_pos h1, if_pos (Or.inl h1), if_pos h1, gather_nil]; rfl
    · rw [if_neg h1, if_neg h1]
      by_cases h2 : kindAt m o = 2
      · rw [if_pos h2, if_pos (Or.inr h2), if_pos h2, gather_nil]; rfl
      · rw [if_neg h2, if_neg h2, if_neg (show ¬ (kindAt m o = 1 ∨ kindAt m o = 2) by omega)]
        by_cases h3 : kindAt m o = 3
        · rw [if_pos h3, if_pos h3, if_pos h3]
          show (gather (knownAt t) _).map (above (4 + 4 * (placesAt m (o + 4) (countAt m o)).length)) = _
          rw [placesAt_len]
        · rw [if_neg h3, if_neg h3, if_neg h3, gather_map]
          show (gather (fun (x : Nat × Nat) => knownAt t x.2) _).map (above (4 + 8 * (fieldsAt m (o + 4) (countAt m o)).length)) = _
          rw [fieldsAt_len]
/-- places in a value that stands right lie behind it and in the message -/
theorem placesIn_may {m : Bytes} {o p : Nat} (s : standsRight m o = true) (h : p ∈ placesIn m o) : o < p ∧ p % 4 = 0 ∧ p + 4 ≤ m.length := by
  have g : ¬ (isMessage m = false ∨ mayHold m o = false) := fun q => by unfold standsRight at s; rw [if_pos q] at s; cases s
  have key : mayPoint m o p = true := by
    unfold placesIn at h
    by_cases h1 : kindAt m o = 1 ∨ kindAt m o = 2
    · rw [if_pos h1] at h; simp at h
    · rw [if_neg h1] at h
      by_cases h3 : kindAt m o = 3
      · rw [sr3 g h3, Bool.and_eq_true] at s
        rw [if_pos h3] at h
        exact List.all_eq_true.mp s.2 p h
      · rw [if_neg h3] at h
        by_cases h4 : kindAt m o = 4
        · rw [sr4 g h4, Bool.and_eq_true, Bool.and_eq_true] at s
          obtain ⟨x, hx, e⟩ := List.mem_map.mp h
          have := List.all_eq_true.mp s.2.2 x hx
          rw [← e]; exact this
        · rw [sr0 g (by omega) (by omega) h3 h4] at s; cases s
  unfold mayPoint at key
  simp at key
  omega
theorem depthSize_congr {m : Bytes} {t t' : Known} {o : Nat} (h : ∀ q, o < q → knownAt t q = knownAt t' q) : depthSize m t o = depthSize m t' o := by
  rw [depthSize_eq, depthSize_eq]
  cases s : standsRight m o
  · rfl
  · rw [gather_congr fun p hp => h p (placesIn_may s hp).1]
theorem knownAt_cons (t : Known) (o q : Nat) (x : Nat × Nat) : knownAt ((o, x) :: t) q = if o = q then some x else knownAt t q := by
  unfold knownAt
  rw [List.find?_cons]
  by_cases e : o = q
  · subst e; simp
  · rw [if_neg e, show (o == q) = false from beq_eq_false_iff_ne.mpr e]
theorem right_bounds {m : Bytes} {o : Nat} (s : standsRight m o = true) : isMessage m = true ∧ 8 ≤ o ∧ o % 4 = 0 ∧ o + 4 ≤ m.length := by
  unfold standsRight at s
  by_cases g : isMessage m = false ∨ mayHold m o = false
  · rw [if_pos g] at s; cases s
  · refine ⟨by cases q : isMessage m with | true => rfl | false => exact absurd (Or.inl q) g, mayHold_iff.mp (by cases q : mayHold m o with | true => rfl | false => exact absurd (Or.inr q) g)⟩
theorem depthSize_bounds {m : Bytes} {t : Known} {o : Nat} (h : ¬ (8 ≤ o ∧ o % 4 = 0 ∧ o + 4 ≤ m.length)) : depthSize m t o = none := by
  rw [depthSize_eq]
  cases s : standsRight m o
  · rfl
  · exact absurd (right_bounds s).2 h
/-- one step of the walk from the last place to the first -/
def grow (m : Bytes) (n : Nat) (t : Known) : Known := match depthSize m t (4 * n) with
  | some x => (4 * n, x) :: t
  | none => t
theorem knownFrom_succ (m : Bytes) (n : Nat) (t : Known) : knownFrom m (n + 1) t = knownFrom m n (grow m n t) := rfl
theorem grow_ne (m : Bytes) (n : Nat) (t : Known) (q : Nat) (hq : q ≠ 4 * n) : knownAt (grow m n t) q = knownAt t q := by
  unfold grow
  cases e : depthSize m t (4 * n) with
  | none => rfl
  | some x =>
    show knownAt ((4 * n, x) :: t) q = _
    rw [knownAt_cons, if_neg (fun z => hq z.symm)]
theorem grow_at (m : Bytes) (n : Nat) (t : Known) (h : knownAt t (4 * n) = none) : knownAt (grow m n t) (4 * n) = depthSize m t (4 * n) := by
  unfold grow
  cases e : depthSize m t (4 * n) with
  | none => exact h
  | some x =>
    show knownAt ((4 * n, x) :: t) _ = _
    rw [knownAt_cons, if_pos rfl]
theorem known_good (m : Bytes) : ∀ (n : Nat) (t : Known), (∀ o, 4 * n ≤ o → knownAt t o = depthSize m t o) → (∀ o, o < 4 * n → knownAt t o = none) →
    ∀ o, knownAt (knownFrom m n t) o = depthSize m (knownFrom m n t) o
  | 0, t, h1, _, o => h1 o (by omega)
  | n + 1, t, h1, h2, o => by
    rw [knownFrom_succ]
    have ht' := grow_ne m n t
    have h4 := grow_at m n t (h2 _ (by omega))
    refine known_good m n _ (fun q hq => ?_) (fun q hq => ?_) o
    · by_cases e : q = 4 * n
      · subst e
        rw [h4]
        exact depthSize_congr fun p hp => (ht' p (by omega)).symm
      · rw [ht' q e, ← depthSize_congr (t := t) fun p hp => (ht' p (by omega)).symm]
        by_cases l : 4 * (n + 1) ≤ q
        · exact h1 q l
        · rw [h2 q (by omega)]
          exact (depthSize_bounds (by omega)).symm
    · rw [ht' q (by omega)]
      exact h2 q (by omega)
theorem known_eq (m : Bytes) (o : Nat) : knownAt (known m) o = depthSize m (known m) o := by
  unfold known
  refine known_good m _ [] (fun q hq => ?_) (fun q _ => rfl) o
  rw [depthSize_bounds (by omega)]
  rfl
/-- what the program reckons of one value: depth and size over those behind it -/
def measure (W : Nat → Option (Nat × Nat)) (m : Bytes) (o : Nat) : Option (Nat × Nat) :=
  if standsRight m o = false then none else match gather W (placesIn m o) with
    | none => none
    | some l => if (above (ownSize (kindAt m o) (countAt m o)) l).1 ≤ 8 then some (above (ownSize (kindAt m o) (countAt m o)) l) else none
theorem foldr_max_ge : ∀ (l : List Nat) (x : Nat), x ∈ l → x ≤ l.foldr max 0
  | y :: r, x, h => by
    rw [List.foldr_cons]
    rcases List.mem_cons.mp h with rfl | h
    · exact Nat.le_max_left _ _
    · exact Nat.le_trans (foldr_max_ge r x h) (Nat.le_max_right _ _)
theorem whole_known (m : Bytes) (o : Nat) : whole m o = (knownAt (known m) o).bind fun x => if x.1 ≤ 8 then some x else none := by
  unfold whole
  cases knownAt (known m) o with
  | none => rfl
  | some x => rfl
/-- **a whole value, over the whole values in it** -/
theorem whole_eq (m : Bytes) (o : Nat) : whole m o = measure (whole m) m o := by
  rw [whole_known, known_eq, depthSize_eq]
  unfold measure
  cases s : standsRight m o
  · rfl
  · rw [if_neg (by simp), if_neg (by simp)]
    cases q : gather (knownAt (known m)) (placesIn m o) with
    | none =>
      have e : gather (whole m) (placesIn m o) = none := by
        cases q2 : gather (whole m) (placesIn m o) with
        | none => rfl
        | some l =>
          have : ∃ k, gather (knownAt (known m)) (placesIn m o) = some k := gather_some fun x hx => by
            obtain ⟨y, _, hy⟩ := gather_mem q2 x hx
            rw [whole_known] at hy
            cases z : knownAt (known m) x with
            | none => rw [z] at hy; cases hy
            | some _ => rfl
          rw [q] at this; obtain ⟨_, h⟩ := this; cases h
      rw [e]; rfl
    | some l =>
      show (if (above _ l).1 ≤ 8 then some (above _ l) else none) = _
      by_cases d : (above (ownSize (kindAt m o) (countAt m o)) l).1 ≤ 8
      · rw [if_pos d]
        have e : gather (whole m) (placesIn m o) = some l := by
          rw [← q]
          refine gather_congr fun x hx => ?_
          obtain ⟨y, hy, hk⟩ := gather_mem q x hx
          rw [whole_known, hk]
          have := foldr_max_ge (l.map fun x => x.1) y.1 (List.mem_map.mpr ⟨y, hy, rfl⟩)
          have d2 : 1 + (l.map fun x => x.1).foldr max 0 ≤ 8 := d
          show (if y.1 ≤ 8 then some y else none) = some y
          rw [if_pos (by omega)]
        rw [e]
        show _ = if _ then _ else _
        rw [if_pos d]
      · rw [if_neg d]
        cases q2 : gather (whole m) (placesIn m o) with
        | none => rfl
        | some l2 =>
          have e : l2 = l := by
            have : gather (knownAt (known m)) (placesIn m o) = some l2 := by
              rw [← q2]
              refine gather_congr fun x hx => ?_
              obtain ⟨y, hy, hk⟩ := gather_mem q2 x hx
              rw [hk]
              rw [whole_known] at hk
              cases z : knownAt (known m) x with
              | none => rw [z] at hk; cases hk
              | some v =>
                rw [z] at hk
                have hk' : (if v.1 ≤ 8 then some v else none) = some y := hk
                split at hk' <;> cases hk'
                rfl
            rw [q] at this; cases this; rfl
          rw [e]
          show _ = if _ then _ else _
          rw [if_neg d]
theorem foldr_max_snoc (l : List Nat) (x : Nat) : (l ++ [x]).foldr max 0 = max (l.foldr max 0) x := by
  induction l with
  | nil => simp
  | cons a r ih => rw [List.cons_append, List.foldr_cons, List.foldr_cons, ih]; omega
theorem foldr_add_snoc (l : List Nat) (x : Nat) : (l ++ [x]).foldr (fun a b => a + b) 0 = l.foldr (fun a b => a + b) 0 + x := by
  induction l with
  | nil => simp
  | cons a r ih => rw [List.cons_append, List.foldr_cons, List.foldr_cons, ih]; omega
theorem above_snoc (s : Nat) (l : List (Nat × Nat)) (x : Nat × Nat) : above s (l ++ [x]) = (max (above s l).1 (1 + x.1), (above s l).2 + x.2) := by
  unfold above
  rw [List.map_append, List.map_append, List.map_cons, List.map_cons, List.map_nil, List.map_nil, foldr_max_snoc, foldr_add_snoc]
  simp only [Prod.mk.injEq]
  omega
theorem whole_right {m : Bytes} {o : Nat} {x : Nat × Nat} (h : whole m o = some x) : standsRight m o = true := by
  rw [whole_eq] at h
  unfold measure at h
  cases s : standsRight m o
  · rw [s, if_pos rfl] at h; cases h
  · rfl
theorem whole_le {m : Bytes} {o : Nat} {x : Nat × Nat} (h : whole m o = some x) : x.1 ≤ 8 := by
  rw [whole_known] at h
  cases z : knownAt (known m) o with
  | none => rw [z] at h; cases h
  | some v =>
    rw [z] at h
    have h' : (if v.1 ≤ 8 then some v else none) = some x := h
    split at h' <;> cases h'
    assumption
end FmM
set_option Elab.async false
namespace FmM
open Fm
/-! ### what the calls that ask tell, by kind and count -/
def ansCheck (m : Bytes) : List Int := match rootOf m with
  | some o => [(o : Int)]
  | none => [-1]
def ansDepth (m : Bytes) (p : Nat) : List Int := match whole m p with
  | none => [-1]
  | some x => [(x.1 : Int), (x.2 : Int)]
def ansNumber (m : Bytes) (p : Nat) : List Int := if kindAt m p = 1 then [0, (numAt m (p + 8) 4 : Int), (numAt m (p + 4) 4 : Int)] else [-2]
def ansBytes (m : Bytes) (p : Nat) : List Int := if kindAt m p = 2 then [(countAt m p : Int), (p : Int) + 4] ++ ((m.drop (p + 4)).take (countAt m p)).map (fun c => ((c.toNat : Nat) : Int)) else [-2]
def ansCount (m : Bytes) (p : Nat) : List Int := if kindAt m p = 1 then [-2] else [(countAt m p : Int)]
def ansItem (m : Bytes) (p i : Nat) : List Int := if kindAt m p ≠ 3 ∧ kindAt m p ≠ 4 then [-2] else if countAt m p ≤ i then [-3] else
  if kindAt m p = 3 then [(numAt m (p + 4 + 4 * i) 4 : Int), 0] else [(numAt m (p + 4 + 4 + 8 * i) 4 : Int), (numAt m (p + 4 + 8 * i) 4 : Int)]
def ansField (m : Bytes) (p key : Nat) : List Int := if kindAt m p ≠ 4 then [-2] else match (fieldsAt m (p + 4) (countAt m p)).find? fun (x : Nat × Nat) => x.1 == key with
  | some x => [(x.2 : Int)]
  | none => [-3]
section
variable (s : FmDesk.State) (p i : Nat)
theorem told_check : FlatNeutral.told (FmDesk.step s .check).2 = ansCheck s.message := by
  show FlatNeutral.told (match rootOf s.message with | some o => FmDesk.says_ (FmDesk.nat o) | none => FmDesk.says_ (-1)) = _
  unfold ansCheck
  cases rootOf s.message <;> rfl
theorem told_depth : FlatNeutral.told (FmDesk.step s (.depth p)).2 = ansDepth s.message p := by
  show FlatNeutral.told (match whole s.message p with | none => FmDesk.says_ (-1) | some x => FmDesk.tells x.1 [x.2]) = _
  unfold ansDepth
  cases whole s.message p <;> rfl
theorem kind_right {m : Bytes} {p : Nat} (h : standsRight m p = true) : 1 ≤ kindAt m p ∧ kindAt m p ≤ 4 := by
  unfold standsRight at h
  split at h
  · cases h
  · split at h
    · cases h
    · omega
theorem told_kind : FlatNeutral.told (FmDesk.step s (.kind p)).2 = if standsRight s.message p = false then [-1] else [(kindAt s.message p : Int)] := by
  unfold FmDesk.step FmDesk.ofView
  dsimp only
  rw [view_eq]
  cases h : standsRight s.message p
  · rfl
  · have ⟨k0, k5⟩ := kind_right h
    rw [if_neg (show ¬ (true = false) by simp), if_neg (show ¬ (true = false) by simp)]
    by_cases k1 : kindAt s.message p = 1
    · rw [if_pos k1, k1]; rfl
    · rw [if_neg k1]
      by_cases k2 : kindAt s.message p = 2
      · rw [if_pos k2, k2]; rfl
      · rw [if_neg k2]
        by_cases k3 : kindAt s.message p = 3
        · rw [if_pos k3, k3]; rfl
        · rw [if_neg k3, show kindAt s.message p = 4 by omega]; rfl
theorem told_number : FlatNeutral.told (FmDesk.step s (.number p)).2 = if standsRight s.message p = false then [-1] else ansNumber s.message p := by
  unfold FmDesk.step FmDesk.ofView ansNumber
  dsimp only
  rw [view_eq]
  cases h : standsRight s.message p
  · rfl
  · rw [if_neg (show ¬ (true = false) by simp), if_neg (show ¬ (true = false) by simp)]
    by_cases k1 : kindAt s.message p = 1
    · rw [if_pos k1, if_pos k1]
      have e : numAt s.message (p + 4) 8 = numAt s.message (p + 4) 4 + 4294967296 * numAt s.message (p + 8) 4 := num8 _ _
      have l := num4_lt s.message (p + 4)
      show [(((0 : Nat)) : Int), ((numAt s.message (p + 4) 8 / 4294967296 : Nat) : Int), ((numAt s.message (p + 4) 8 % 4294967296 : Nat) : Int)] = _
      rw [show numAt s.message (p + 4) 8 / 4294967296 = numAt s.message (p + 8) 4 by omega, show numAt s.message (p + 4) 8 % 4294967296 = numAt s.message (p + 4) 4 by omega]
      rfl
    · rw [if_neg k1, if_neg k1]
      by_cases k2 : kindAt s.message p = 2
      · rw [if_pos k2]; rfl
      · rw [if_neg k2]
        by_cases k3 : kindAt s.message p = 3
        · rw [if_pos k3]; rfl
        · rw [if_neg k3]; rfl
theorem told_bytes : FlatNeutral.told (FmDesk.step s (.bytes p)).2 = if standsRight s.message p = false then [-1] else ansBytes s.message p := by
  unfold FmDesk.step FmDesk.ofView ansBytes
  dsimp only
  rw [view_eq]
  cases h : standsRight s.message p
  · rfl
  · rw [if_neg (show ¬ (true = false) by simp), if_neg (show ¬ (true = false) by simp)]
    by_cases k2 : kindAt s.message p = 2
    · rw [if_neg (show ¬ kindAt s.message p = 1 by omega), if_pos k2, if_pos k2]
      rfl
    · rw [if_neg k2, if_neg k2]
      by_cases k1 : kindAt s.message p = 1
      · rw [if_pos k1]; rfl
      · rw [if_neg k1]
        by_cases k3 : kindAt s.message p = 3
        · rw [if_pos k3]; rfl
        · rw [if_neg k3]; rfl
theorem told_count : FlatNeutral.told (FmDesk.step s (.count p)).2 = if standsRight s.message p = false then [-1] else ansCount s.message p := by
  unfold FmDesk.step FmDesk.ofView ansCount
  dsimp only
  rw [view_eq]
  cases h : standsRight s.message p
  · rfl
  · rw [if_neg (show ¬ (true = false) by simp), if_neg (show ¬ (true = false) by simp)]
    by_cases k1 : kindAt s.message p = 1
    · rw [if_pos k1, if_pos k1]; rfl
    · rw [if_neg k1, if_neg k1]
      by_cases k2 : kindAt s.message p = 2
      · rw [if_pos k2]; rfl
      · rw [if_neg k2]
        by_cases k3 : kindAt s.message p = 3
        · rw [if_pos k3]
          show [(((placesAt s.message (p + 4) (countAt s.message p)).length : Nat) : Int)] = _
          rw [placesAt_len]
        · rw [if_neg k3]
          show [(((fieldsAt s.message (p + 4) (countAt s.message p)).length : Nat) : Int)] = _
          rw [fieldsAt_len]
theorem placesAt_get (m : Bytes) (o c i : Nat) : (placesAt m o c)[i]? = if i < c then some (numAt m (o + 4 * i) 4) else none := by
  unfold placesAt
  by_cases h : i < c
  · rw [List.getElem?_map, List.getElem?_range h, if_pos h]; rfl
  · rw [if_neg h, List.getElem?_eq_none (by simp; omega)]
theorem fieldsAt_get (m : Bytes) (o c i : Nat) : (fieldsAt m o c)[i]? = if i < c then some (numAt m (o + 8 * i) 4, numAt m (o + 4 + 8 * i) 4) else none := by
  unfold fieldsAt
  by_cases h : i < c
  · rw [List.getElem?_map, List.getElem?_range h, if_pos h]; rfl
  · rw [if_neg h, List.getElem?_eq_none (by simp; omega)]
theorem told_item : FlatNeutral.told (FmDesk.step s (.item p i)).2 = if standsRight s.message p = false then [-1] else ansItem s.message p i := by
  unfold FmDesk.step FmDesk.ofView ansItem
  dsimp only
  rw [view_eq]
  cases h : standsRight s.message p
  · rfl
  · have ⟨k0, k5⟩ := kind_right h
    rw [if_neg (show ¬ (true = false) by simp), if_neg (show ¬ (true = false) by simp)]
    by_cases k1 : kindAt s.message p = 1
    · rw [if_pos k1, if_pos (by omega)]; rfl
    · rw [if_neg k1]
      by_cases k2 : kindAt s.message p = 2
      · rw [if_pos k2, if_pos (by omega)]; rfl
      · rw [if_neg k2]
        by_cases k3 : kindAt s.message p = 3
        · rw [if_pos k3, if_neg (by omega)]
          dsimp only
          rw [placesAt_get]
          by_cases l : i < countAt s.message p
          · rw [if_pos l, if_neg (by omega), if_pos k3]; rfl
          · rw [if_neg l, if_pos (by omega)]; rfl
        · rw [if_neg k3, if_neg (by omega)]
          dsimp only
          rw [fieldsAt_get]
          by_cases l : i < countAt s.message p
          · rw [if_pos l, if_neg (by omega), if_neg k3]; rfl
          · rw [if_neg l, if_pos (by omega)]; rfl
theorem told_field : FlatNeutral.told (FmDesk.step s (.field p i)).2 = if standsRight s.message p = false then [-1] else ansField s.message p i := by
  unfold FmDesk.step FmDesk.ofView ansField
  dsimp only
  rw [view_eq]
  cases h : standsRight s.message p
  · rfl
  · have ⟨k0, k5⟩ := kind_right h
    rw [if_neg (show ¬ (true = false) by simp), if_neg (show ¬ (true = false) by simp)]
    by_cases k1 : kindAt s.message p = 1
    · rw [if_pos k1, if_pos (by omega)]; rfl
    · rw [if_neg k1]
      by_cases k2 : kindAt s.message p = 2
      · rw [if_pos k2, if_pos (by omega)]; rfl
      · rw [if_neg k2]
        by_cases k3 : kindAt s.message p = 3
        · rw [if_pos k3, if_pos (by omega)]; rfl
        · rw [if_neg k3, if_neg (by omega)]
          dsimp only
          cases (fieldsAt s.message (p + 4) (countAt s.message p)).find? fun (x : Nat × Nat) => x.1 == i <;> rfl
end
end FmM
set_option Elab.async false
namespace FmM
open Fm
/-- a row of values that is just one tree -/
inductive Tr : Tree → Prop
  | num (x : Nat) : Tr [.number x]
  | byt (b : Bytes) : Tr [.bytes b]
  | lst (ts : List Tree) (h : ∀ t, t ∈ ts → Tr t) : Tr (.list ts.length :: ts.flatten)
  | rcd (keys : List Nat) (ts : List Tree) (e : keys.length = ts.length) (h : ∀ t, t ∈ ts → Tr t) : Tr (.record keys :: ts.flatten)
theorem span_zero (r : List Val) : spanOf 0 r = 0 := by cases r <;> rfl
theorem span_cons (p : Nat) (v : Val) (r : List Val) : spanOf (p + 1) (v :: r) = 1 + spanOf (p + v.arity) r := rfl
theorem span_list {ts : List Tree} (h : ∀ t, t ∈ ts → ∀ p r, spanOf (p + 1) (t ++ r) = t.length + spanOf p r) : ∀ p r, spanOf (p + ts.length) (ts.flatten ++ r) = ts.flatten.length + spanOf p r := by
  induction ts with
  | nil => intro p r; simp
  | cons t ts ih =>
    intro p r
    rw [List.flatten_cons, List.append_assoc, List.length_cons, ← Nat.add_assoc, h t (List.mem_cons_self ..), ih (fun u hu => h u (List.mem_cons_of_mem _ hu)), List.length_append]
    omega
theorem Tr.span {t : Tree} (h : Tr t) : ∀ p r, spanOf (p + 1) (t ++ r) = t.length + spanOf p r := by
  induction h with
  | num x => intro p r; rw [List.cons_append, span_cons]; rfl
  | byt b => intro p r; rw [List.cons_append, span_cons]; rfl
  | lst ts h ih =>
    intro p r
    rw [List.cons_append, span_cons]
    show 1 + spanOf (p + ts.length) _ = _
    rw [span_list ih, List.length_cons]
    omega
  | rcd keys ts e h ih =>
    intro p r
    rw [List.cons_append, span_cons]
    show 1 + spanOf (p + keys.length) _ = _
    rw [e, span_list ih, List.length_cons]
    omega
theorem Tr.span1 {t : Tree} (h : Tr t) (r : List Val) : spanOf 1 (t ++ r) = t.length := by
  have := h.span 0 r
  rw [span_zero] at this
  exact this
theorem split_tr : ∀ {ts : List Tree} (r : List Val), (∀ t, t ∈ ts → Tr t) → split ts.length (ts.flatten ++ r) = ts
  | [], r, _ => rfl
  | t :: ts, r, h => by
    have ht := (h t (List.mem_cons_self ..)).span1 (ts.flatten ++ r)
    show List.take (spanOf 1 ((t :: ts).flatten ++ r)) ((t :: ts).flatten ++ r) :: split ts.length (List.drop (spanOf 1 ((t :: ts).flatten ++ r)) ((t :: ts).flatten ++ r)) = t :: ts
    rw [List.flatten_cons, List.append_assoc, ht, List.take_left, List.drop_left, split_tr r fun u hu => h u (List.mem_cons_of_mem _ hu)]
theorem sizeOf_cons (v : Val) (t : List Val) : Fm.sizeOf (v :: t) = v.size + Fm.sizeOf t := rfl
theorem sizeOf_append : ∀ (a b : List Val), Fm.sizeOf (a ++ b) = Fm.sizeOf a + Fm.sizeOf b
  | [], b => by show Fm.sizeOf b = 0 + Fm.sizeOf b; omega
  | v :: a, b => by rw [List.cons_append, sizeOf_cons, sizeOf_cons, sizeOf_append a b]; omega
theorem sizeOf_flatten (ts : List Tree) : Fm.sizeOf ts.flatten = (ts.map Fm.sizeOf).sum := by
  induction ts with
  | nil => rfl
  | cons t ts ih => rw [List.flatten_cons, sizeOf_append, ih, List.map_cons, List.sum_cons]
/-- the bytes of trees one after another -/
def laidAll : Nat → List Tree → Bytes
  | _, [] => []
  | o, t :: r => laid o t ++ laidAll (o + Fm.sizeOf t) r
theorem laid_cons (o : Nat) (v : Val) (r : List Val) : laid o (v :: r) = own o v r ++ laid (o + v.size) r := rfl
theorem laid_list {ts : List Tree} (h : ∀ t, t ∈ ts → ∀ o r, laid o (t ++ r) = laid o t ++ laid (o + Fm.sizeOf t) r) : ∀ o r, laid o (ts.flatten ++ r) = laidAll o ts ++ laid (o + Fm.sizeOf ts.flatten) r := by
  induction ts with
  | nil => intro o r; show laid o r = [] ++ laid (o + 0) r; rfl
  | cons t ts ih =>
    intro o r
    rw [List.flatten_cons, List.append_assoc, h t (List.mem_cons_self ..), ih (fun u hu => h u (List.mem_cons_of_mem _ hu)), sizeOf_append]
    show _ = (laid o t ++ laidAll (o + Fm.sizeOf t) ts) ++ _
    rw [List.append_assoc, Nat.add_assoc]
theorem own_list_eq {ts : List Tree} (h : ∀ t, t ∈ ts → Tr t) (o : Nat) (r : List Val) : own o (.list ts.length) (ts.flatten ++ r) = 3 :: (le 3 ts.length ++ (starts (o + 4 + 4 * ts.length) ts).flatMap (le 4)) := by
  show 3 :: (le 3 ts.length ++ (starts (o + 4 + 4 * ts.length) (split ts.length (ts.flatten ++ r))).flatMap (le 4)) = _
  rw [split_tr r h]
theorem own_rec_eq {keys : List Nat} {ts : List Tree} (e : keys.length = ts.length) (h : ∀ t, t ∈ ts → Tr t) (o : Nat) (r : List Val) : own o (.record keys) (ts.flatten ++ r) =
    4 :: (le 3 keys.length ++ (keys.zip (starts (o + 4 + 8 * keys.length) ts)).flatMap fun x => le 4 x.1 ++ le 4 x.2) := by
  show 4 :: (le 3 keys.length ++ (keys.zip (starts (o + 4 + 8 * keys.length) (split keys.length (ts.flatten ++ r)))).flatMap fun x => le 4 x.1 ++ le 4 x.2) = _
  rw [e, split_tr r h]
theorem Tr.lay {t : Tree} (h : Tr t) : ∀ o r, laid o (t ++ r) = laid o t ++ laid (o + Fm.sizeOf t) r := by
  induction h with
  | num x => intro o r; rw [List.cons_append, laid_cons, laid_cons, sizeOf_cons]; show _ ++ Fm.laid _ r = (_ ++ []) ++ Fm.laid (o + (_ + 0)) r; rw [List.append_nil]; rfl
  | byt x => intro o r; rw [List.cons_append, laid_cons, laid_cons, sizeOf_cons]; show _ ++ Fm.laid _ r = (_ ++ []) ++ Fm.laid (o + (_ + 0)) r; rw [List.append_nil]; rfl
  | lst ts h ih =>
    intro o r
    have e := laid_list ih (o + (Val.list ts.length).size) []
    rw [List.append_nil] at e
    have e2 := own_list_eq h o []
    rw [List.append_nil] at e2
    rw [List.cons_append, laid_cons, laid_cons, sizeOf_cons, own_list_eq h, e2, laid_list ih, e]
    show _ = (_ ++ (_ ++ [])) ++ _
    rw [List.append_nil, List.append_assoc, ← Nat.add_assoc o (Val.list ts.length).size]
  | rcd keys ts e h ih =>
    intro o r
    have e1 := laid_list ih (o + (Val.record keys).size) []
    rw [List.append_nil] at e1
    have e2 := own_rec_eq e h o []
    rw [List.append_nil] at e2
    rw [List.cons_append, laid_cons, laid_cons, sizeOf_cons, own_rec_eq e h, e2, laid_list ih, e1]
    show _ = (_ ++ (_ ++ [])) ++ _
    rw [List.append_nil, List.append_assoc, ← Nat.add_assoc o (Val.record keys).size]
/-- **a list's bytes**: its head, then its elements' -/
theorem laid_lst {ts : List Tree} (h : ∀ t, t ∈ ts → Tr t) (o : Nat) : laid o (.list ts.length :: ts.flatten) =
    (3 :: (le 3 ts.length ++ (starts (o + 4 + 4 * ts.length) ts).flatMap (le 4))) ++ laidAll (o + 4 + 4 * ts.length) ts := by
  have e := laid_list (fun t ht => (h t ht).lay) (o + (Val.list ts.length).size) []
  rw [List.append_nil] at e
  have e2 := own_list_eq h o []
  rw [List.append_nil] at e2
  rw [laid_cons, e2, e]
  show _ ++ (_ ++ []) = _
  rw [List.append_nil]
  show _ ++ laidAll (o + (4 + 4 * ts.length)) ts = _
  rw [Nat.add_assoc]
theorem laid_rcd {keys : List Nat} {ts : List Tree} (e : keys.length = ts.length) (h : ∀ t, t ∈ ts → Tr t) (o : Nat) : laid o (.record keys :: ts.flatten) =
    (4 :: (le 3 keys.length ++ (keys.zip (starts (o + 4 + 8 * keys.length) ts)).flatMap fun x => le 4 x.1 ++ le 4 x.2)) ++ laidAll (o + 4 + 8 * keys.length) ts := by
  have e1 := laid_list (fun t ht => (h t ht).lay) (o + (Val.record keys).size) []
  rw [List.append_nil] at e1
  have e2 := own_rec_eq e h o []
  rw [List.append_nil] at e2
  rw [laid_cons, e2, e1]
  show _ ++ (_ ++ []) = _
  rw [List.append_nil]
  show _ ++ laidAll (o + (4 + 8 * keys.length)) ts = _
  rw [Nat.add_assoc]
theorem le_len (w n : Nat) : (le w n).length = w := by simp [le]
theorem starts_len : ∀ (o : Nat) (ts : List Tree), (starts o ts).length = ts.length
  | _, [] => rfl
  | o, t :: r => by show (starts (o + Fm.sizeOf t) r).length + 1 = _; rw [starts_len]; rfl
theorem flat_len {α : Type} (f : α → Bytes) (w : Nat) : ∀ (l : List α), (∀ x ∈ l, (f x).length = w) → (l.flatMap f).length = w * l.length
  | [], _ => by simp
  | a :: l, h => by
    rw [List.flatMap_cons, List.length_append, h a (List.mem_cons_self ..), flat_len f w l fun x hx => h x (List.mem_cons_of_mem _ hx), List.length_cons, Nat.mul_succ]
    omega
theorem laidAll_len {ts : List Tree} (h : ∀ t, t ∈ ts → ∀ o, (laid o t).length = Fm.sizeOf t) : ∀ o, (laidAll o ts).length = Fm.sizeOf ts.flatten := by
  induction ts with
  | nil => intro o; rfl
  | cons t ts ih =>
    intro o
    show (laid o t ++ laidAll (o + Fm.sizeOf t) ts).length = _
    rw [List.length_append, h t (List.mem_cons_self ..), ih (fun u hu => h u (List.mem_cons_of_mem _ hu)), List.flatten_cons, sizeOf_append]
theorem Tr.len {t : Tree} (h : Tr t) : ∀ o, (Fm.laid o t).length = Fm.sizeOf t := by
  induction h with
  | num x => intro o; show (([1, 0, 0, 0] ++ le 8 x) ++ []).length = _; rw [List.append_nil, List.length_append, le_len]; rfl
  | byt b =>
    intro o
    show ((2 :: (le 3 b.length ++ (b ++ List.replicate (up4 b.length - b.length) 0))) ++ []).length = (4 + up4 b.length) + 0
    rw [List.append_nil, List.length_cons, List.length_append, List.length_append, le_len, List.length_replicate]
    have := up4_ge b.length
    omega
  | lst ts h ih =>
    intro o
    rw [laid_lst h, List.length_append, laidAll_len ih, sizeOf_cons, List.length_cons, List.length_append, le_len, flat_len (le 4) 4 _ (fun x _ => le_len 4 x), starts_len]
    show _ = 4 + 4 * ts.length + _
    omega
  | rcd keys ts e h ih =>
    intro o
    rw [laid_rcd e h, List.length_append, laidAll_len ih, sizeOf_cons, List.length_cons, List.length_append, le_len, flat_len (fun (x : Nat × Nat) => le 4 x.1 ++ le 4 x.2) 8 _ (fun x _ => by rw [List.length_append, le_len, le_len]), List.length_zip, starts_len, e, Nat.min_self]
    show _ = 4 + 8 * keys.length + _
    omega
theorem message_len {t : Tree} (h : Tr t) : (message t).length = 8 + Fm.sizeOf t := by
  unfold message
  rw [List.length_append, List.length_append, le_len, h.len]
  show 4 + (4 + _) = _
  omega
/-! ### what a whole value says -/
theorem gather_map_mem {α β : Type} {f : α → Option β} {P : β → Prop} : ∀ {l : List α} {k : List β}, gather f l = some k → (∀ x ∈ l, ∀ y, f x = some y → P y) → ∀ y ∈ k, P y
  | [], _, e, _, y, h => by cases e; simp at h
  | z :: r, k, e, hp, y, h => by
    rw [gather] at e
    cases q : f z with
    | none => rw [q] at e; cases e
    | some w =>
      cases q2 : gather f r with
      | none => rw [q, q2] at e; cases e
      | some k2 =>
        rw [q, q2] at e; cases e
        rcases List.mem_cons.mp h with rfl | hx
        · exact hp z (List.mem_cons_self ..) _ q
        · exact gather_map_mem q2 (fun x hx y hy => hp x (List.mem_cons_of_mem _ hx) y hy) y hx
theorem flatMap_fst (l : List (Tree × Nat)) : (l.flatMap fun x => x.1) = (l.map fun x => x.1).flatten := by
  rw [List.flatMap_def]
theorem over_list (l : List (Tree × Nat)) : over (.list l.length) l = (.list (l.map fun x => x.1).length :: (l.map fun x => x.1).flatten, 1 + (l.map fun x => x.2).foldr max 0) := by
  unfold over
  rw [flatMap_fst, List.length_map]
theorem over_rec (keys : List Nat) (l : List (Tree × Nat)) : over (.record keys) l = (.record keys :: (l.map fun x => x.1).flatten, 1 + (l.map fun x => x.2).foldr max 0) := by
  unfold over
  rw [flatMap_fst]
theorem says_tr (m : Bytes) : ∀ (d o : Nat) (t : Tree × Nat), says m d o = some t → Tr t.1
  | 0, _, _, h => by cases h
  | d + 1, o, t, h => by
    unfold says at h
    split at h
    · cases h
    · cases h; exact .num _
    · cases h; exact .byt _
    · rename_i places _
      obtain ⟨l, hl, rfl⟩ := Option.map_eq_some_iff.mp h
      have hn := gather_len hl
      rw [← hn, over_list]
      exact .lst _ fun u hu => by
        obtain ⟨y, hy, rfl⟩ := List.mem_map.mp hu
        exact gather_map_mem (P := fun y => Tr y.1) hl (fun x _ y hy => says_tr m d x y hy) y hy
    · rename_i fields _
      obtain ⟨l, hl, rfl⟩ := Option.map_eq_some_iff.mp h
      have hn := gather_len hl
      rw [over_rec]
      exact .rcd _ _ (by rw [List.length_map, List.length_map, hn]) fun u hu => by
        obtain ⟨y, hy, rfl⟩ := List.mem_map.mp hu
        exact gather_map_mem (P := fun y => Tr y.1) hl (fun x _ y hy => says_tr m d x.2 y hy) y hy
/-- what is known of a place is what it says -/
theorem gather_pair {α : Type} {f : α → Option (Nat × Nat)} {g : α → Option (Tree × Nat)} : ∀ {l : List α} {k : List (Nat × Nat)}, gather f l = some k → (∀ x ∈ l, ∀ y, f x = some y → ∃ t, g x = some (t, y.1) ∧ Fm.sizeOf t = y.2) →
    ∃ k', gather g l = some k' ∧ (k'.map fun x => x.2) = (k.map fun x => x.1) ∧ (k'.map fun x => Fm.sizeOf x.1) = (k.map fun x => x.2)
  | [], _, e, _ => by cases e; exact ⟨[], rfl, rfl, rfl⟩
  | z :: r, k, e, hp => by
    rw [gather] at e
    cases q : f z with
    | none => rw [q] at e; cases e
    | some w =>
      cases q2 : gather f r with
      | none => rw [q, q2] at e; cases e
      | some k2 =>
        rw [q, q2] at e; cases e
        obtain ⟨k', h1, h2, h3⟩ := gather_pair q2 fun x hx y hy => hp x (List.mem_cons_of_mem _ hx) y hy
        obtain ⟨t, ht, hs⟩ := hp z (List.mem_cons_self ..) w q
        refine ⟨(t, w.1) :: k', ?_, ?_, ?_⟩
        · rw [gather, ht, h1]
        · rw [List.map_cons, List.map_cons, h2]
        · rw [List.map_cons, List.map_cons, h3, hs]
theorem foldr_sum (l : List Nat) : l.foldr (fun a b => a + b) 0 = l.sum := by
  induction l with
  | nil => rfl
  | cons a l ih => rw [List.foldr_cons, List.sum_cons, ih]
theorem says_known (m : Bytes) : ∀ (D o d s : Nat), knownAt (known m) o = some (d, s) → d ≤ D → ∃ t, says m D o = some (t, d) ∧ Fm.sizeOf t = s
  | 0, o, d, s, h, hd => by
    rw [known_eq, depthSize_eq] at h
    split at h
    · cases h
    · obtain ⟨l, _, e⟩ := Option.map_eq_some_iff.mp h
      have : (above (ownSize (kindAt m o) (countAt m o)) l).1 = d := congrArg Prod.fst e
      unfold above at this
      simp only at this
      omega
  | D + 1, o, d, s, h, hd => by
    rw [known_eq] at h
    unfold depthSize at h
    unfold says
    cases hv : view m o with
    | none => rw [hv] at h; cases h
    | some v =>
      rw [hv] at h
      cases v with
      | number x =>
        have e := Option.some.inj h
        cases e
        exact ⟨_, rfl, rfl⟩
      | bytes st n =>
        have e := Option.some.inj h
        cases e
        refine ⟨_, rfl, ?_⟩
        show 4 + up4 ((m.drop st).take n).length + 0 = 4 + up4 n + 0
        have : ((m.drop st).take n).length = n := by
          rw [view_eq] at hv
          split at hv
          · cases hv
          · rename_i st0
            split at hv
            · cases hv
            · split at hv
              · cases hv
                have s0 : standsRight m o = true := by cases q : standsRight m o <;> simp_all
                have g : ¬ (isMessage m = false ∨ mayHold m o = false) := fun q => by unfold standsRight at s0; rw [if_pos q] at s0; cases s0
                rename_i k2
                rw [sr2 g k2, Bool.and_eq_true] at s0
                have := of_decide_eq_true s0.1
                have := up4_ge (countAt m o)
                rw [List.length_take, List.length_drop]
                omega
              · split at hv <;> cases hv
        rw [this]
      | list l =>
        obtain ⟨k, hk, e⟩ := Option.map_eq_some_iff.mp h
        have e1 : 1 + (k.map fun x => x.1).foldr max 0 = d := congrArg Prod.fst e
        have e2 : 4 + 4 * l.length + (k.map fun x => x.2).foldr (fun a b => a + b) 0 = s := congrArg Prod.snd e
        obtain ⟨k', h1, h2, h3⟩ := gather_pair (g := fun p => says m D p) hk fun p hp y hy => by
          obtain ⟨y', hy', hf⟩ := gather_mem hk p hp
          rw [hy] at hf
          cases hf
          have := foldr_max_ge (k.map fun x => x.1) y.1 (List.mem_map.mpr ⟨y, hy', rfl⟩)
          exact says_known m D p y.1 y.2 hy (by omega)
        refine ⟨(over (.list l.length) k').1, ?_, ?_⟩
        · show (gather (fun k => says m D k) l).map (over (.list l.length)) = _
          rw [h1]
          show some (over (.list l.length) k') = _
          have : (over (.list l.length) k').2 = d := by show 1 + (k'.map fun x => x.2).foldr max 0 = d; rw [h2]; exact e1
          rw [← this]
        · show Fm.sizeOf (.list l.length :: k'.flatMap fun x => x.1) = s
          rw [sizeOf_cons, flatMap_fst, sizeOf_flatten, List.map_map]
          show 4 + 4 * l.length + (k'.map fun x => Fm.sizeOf x.1).sum = s
          rw [h3, ← foldr_sum]
          exact e2
      | record l =>
        obtain ⟨k, hk, e⟩ := Option.map_eq_some_iff.mp h
        have e1 : 1 + (k.map fun x => x.1).foldr max 0 = d := congrArg Prod.fst e
        have e2 : 4 + 8 * l.length + (k.map fun x => x.2).foldr (fun a b => a + b) 0 = s := congrArg Prod.snd e
        obtain ⟨k', h1, h2, h3⟩ := gather_pair (g := fun (x : Nat × Nat) => says m D x.2) hk fun p hp y hy => by
          obtain ⟨y', hy', hf⟩ := gather_mem hk p hp
          rw [hy] at hf
          cases hf
          have := foldr_max_ge (k.map fun x => x.1) y.1 (List.mem_map.mpr ⟨y, hy', rfl⟩)
          exact says_known m D p.2 y.1 y.2 hy (by omega)
        refine ⟨(over (.record (l.map fun x => x.1)) k').1, ?_, ?_⟩
        · show (gather (fun (x : Nat × Nat) => says m D x.2) l).map (over (.record (l.map fun x => x.1))) = _
          rw [h1]
          show some (over (.record (l.map fun x => x.1)) k') = _
          have : (over (.record (l.map fun x => x.1)) k').2 = d := by show 1 + (k'.map fun x => x.2).foldr max 0 = d; rw [h2]; exact e1
          rw [← this]
        · show Fm.sizeOf (.record (l.map fun x => x.1) :: k'.flatMap fun x => x.1) = s
          rw [sizeOf_cons, flatMap_fst, sizeOf_flatten, List.map_map]
          show 4 + 8 * (l.map fun x => x.1).length + (k'.map fun x => Fm.sizeOf x.1).sum = s
          rw [h3, ← foldr_sum, List.length_map]
          exact e2
/-- **a whole value says a tree of its depth and size** -/
theorem says_whole {m : Bytes} {o d s : Nat} (h : whole m o = some (d, s)) : ∃ t, says m DEPTH o = some (t, d) ∧ Fm.sizeOf t = s ∧ d ≤ 8 := by
  have hd := whole_le h
  rw [whole_known] at h
  cases z : knownAt (known m) o with
  | none => rw [z] at h; cases h
  | some v =>
    rw [z] at h
    have h' : (if v.1 ≤ 8 then some v else none) = some (d, s) := h
    split at h' <;> cases h'
    obtain ⟨t, h1, h2⟩ := says_known m 8 o d s z hd
    exact ⟨t, h1, h2, hd⟩
end FmM
set_option Elab.async false
namespace FmM
open Fm
/-- which call stands for a number, whole numbers, a row -/
inductive CallIs : Int → List Int → List Int → FmDesk.Call → Prop
  | load (m : Bytes) (h : m.length ≤ 600) : CallIs 0 [] (m.map fun c => ((c.toNat : Nat) : Int)) (.load m)
  | check : CallIs 1 [] [] .check
  | kind (o : Nat) (h : o < 4294967296) : CallIs 2 [(o : Int)] [] (.kind o)
  | number (o : Nat) (h : o < 4294967296) : CallIs 3 [(o : Int)] [] (.number o)
  | bytes (o : Nat) (h : o < 4294967296) : CallIs 4 [(o : Int)] [] (.bytes o)
  | count (o : Nat) (h : o < 4294967296) : CallIs 5 [(o : Int)] [] (.count o)
  | item (o i : Nat) (h : o < 4294967296) (h2 : i < 4294967296) : CallIs 6 [(o : Int), (i : Int)] [] (.item o i)
  | field (o i : Nat) (h : o < 4294967296) (h2 : i < 4294967296) : CallIs 7 [(o : Int), (i : Int)] [] (.field o i)
  | depth (o : Nat) (h : o < 4294967296) : CallIs 8 [(o : Int)] [] (.depth o)
  | begin_ : CallIs 9 [] [] .begin_
  | putNumber (a b : Nat) (h : a < 4294967296) (h2 : b < 4294967296) : CallIs 10 [(a : Int), (b : Int)] [] (.putNumber a b)
  | putBytes (m : Bytes) (h : m.length ≤ 600) : CallIs 11 [] (m.map fun c => ((c.toNat : Nat) : Int)) (.putBytes m)
  | list (k : Nat) (h : k < 4294967296) : CallIs 12 [(k : Int)] [] (.list k)
  | record (l : List Nat) (h : l.length ≤ 600) (h2 : ∀ k ∈ l, k < 4294967296) : CallIs 13 [] (l.map fun n => ((n : Nat) : Int)) (.record l)
  | copy (o : Nat) (h : o < 4294967296) : CallIs 14 [(o : Int)] [] (.copy o)
  | sizes : CallIs 15 [] [] .sizes
  | finish : CallIs 16 [] [] .finish
  | adopt : CallIs 17 [] [] .adopt
theorem whole_id (c : List (List Int)) : PyWqandi.whole c = c := by
  unfold PyWqandi.whole
  split <;> rfl
theorem text_back {l : List Int} (h : ∀ z ∈ l, 0 ≤ z ∧ z ≤ 255) : l = (FlatNeutral.text l).map fun c => ((c.toNat : Nat) : Int) := by
  unfold FlatNeutral.text
  rw [List.map_map]
  conv => lhs; rw [← List.map_id l]
  refine List.map_congr_left fun z hz => ?_
  have ⟨h1, h2⟩ := h z hz
  show z = (((UInt8.ofNat z.toNat).toNat : Nat) : Int)
  rw [UInt8.toNat_ofNat']
  omega
theorem nats_back {l : List Int} (h : ∀ z ∈ l, 0 ≤ z) : l = (FlatNeutral.nats l).map fun n => ((n : Nat) : Int) := by
  unfold FlatNeutral.nats
  rw [List.map_map]
  conv => lhs; rw [← List.map_id l]
  refine List.map_congr_left fun z hz => ?_
  have h1 := h z hz
  show z = ((z.toNat : Nat) : Int)
  omega
theorem whole32_iff {z : Int} (h : FlatNeutral.whole32 z = true) : z = ((z.toNat : Nat) : Int) ∧ z.toNat < 4294967296 := by
  unfold FlatNeutral.whole32 at h
  simp at h
  omega
theorem long_iff {l : List Int} {n : Nat} {lo hi : Int} (h : FlatNeutral.long l n lo hi = true) : l.length ≤ n ∧ ∀ z ∈ l, lo ≤ z ∧ z ≤ hi := by
  unfold FlatNeutral.long at h
  rw [Bool.and_eq_true] at h
  refine ⟨of_decide_eq_true h.1, fun z hz => ?_⟩
  have := List.all_eq_true.mp h.2 z hz
  simpa using this
/-- a call that may be asked is one of the document's -/
theorem call_is {c : List (List Int)} (h : FlatNeutral.asked1 c = true) : ∃ (p : Int) (xs ys : List Int) (C : FmDesk.Call), CallIs p xs ys C ∧ FlatNeutral.callOf c = some C ∧ ((c = [p :: xs] ∧ ys = []) ∨ c = [p :: xs, ys]) := by
  unfold FlatNeutral.asked1 at h
  split at h
  · rename_i m
    obtain ⟨h1, h2⟩ := long_iff h
    have e := text_back h2
    refine ⟨0, [], m, .load (FlatNeutral.text m), ?_, rfl, .inr rfl⟩
    have q := CallIs.load (FlatNeutral.text m) (by unfold FlatNeutral.text; rw [List.length_map]; exact h1)
    rw [← e] at q
    exact q
  · exact ⟨1, [], [], _, .check, rfl, .inl ⟨rfl, rfl⟩⟩
  · rename_i o
    obtain ⟨e, l⟩ := whole32_iff h
    refine ⟨2, [o], [], .kind o.toNat, ?_, rfl, .inl ⟨rfl, rfl⟩⟩
    have q := CallIs.kind o.toNat l; rw [← e] at q; exact q
  · rename_i o
    obtain ⟨e, l⟩ := whole32_iff h
    refine ⟨3, [o], [], .number o.toNat, ?_, rfl, .inl ⟨rfl, rfl⟩⟩
    have q := CallIs.number o.toNat l; rw [← e] at q; exact q
  · rename_i o
    obtain ⟨e, l⟩ := whole32_iff h
    refine ⟨4, [o], [], .bytes o.toNat, ?_, rfl, .inl ⟨rfl, rfl⟩⟩
    have q := CallIs.bytes o.toNat l; rw [← e] at q; exact q
  · rename_i o
    obtain ⟨e, l⟩ := whole32_iff h
    refine ⟨5, [o], [], .count o.toNat, ?_, rfl, .inl ⟨rfl, rfl⟩⟩
    have q := CallIs.count o.toNat l; rw [← e] at q; exact q
  · rename_i o i
    rw [Bool.and_eq_true] at h
    obtain ⟨e, l⟩ := whole32_iff h.1
    obtain ⟨e2, l2⟩ := whole32_iff h.2
    refine ⟨6, [o, i], [], .item o.toNat i.toNat, ?_, rfl, .inl ⟨rfl, rfl⟩⟩
    have q := CallIs.item o.toNat i.toNat l l2; rw [← e, ← e2] at q; exact q
  · rename_i o i
    rw [Bool.and_eq_true] at h
    obtain ⟨e, l⟩ := whole32_iff h.1
    obtain ⟨e2, l2⟩ := whole32_iff h.2
    refine ⟨7, [o, i], [], .field o.toNat i.toNat, ?_, rfl, .inl ⟨rfl, rfl⟩⟩
    have q := CallIs.field o.toNat i.toNat l l2; rw [← e, ← e2] at q; exact q
  · rename_i o
    obtain ⟨e, l⟩ := whole32_iff h
    refine ⟨8, [o], [], .depth o.toNat, ?_, rfl, .inl ⟨rfl, rfl⟩⟩
    have q := CallIs.depth o.toNat l; rw [← e] at q; exact q
  · exact ⟨9, [], [], _, .begin_, rfl, .inl ⟨rfl, rfl⟩⟩
  · rename_i o i
    rw [Bool.and_eq_true] at h
    obtain ⟨e, l⟩ := whole32_iff h.1
    obtain ⟨e2, l2⟩ := whole32_iff h.2
    refine ⟨10, [o, i], [], .putNumber o.toNat i.toNat, ?_, rfl, .inl ⟨rfl, rfl⟩⟩
    have q := CallIs.putNumber o.toNat i.toNat l l2; rw [← e, ← e2] at q; exact q
  · rename_i m
    obtain ⟨h1, h2⟩ := long_iff h
    have e := text_back h2
    refine ⟨11, [], m, .putBytes (FlatNeutral.text m), ?_, rfl, .inr rfl⟩
    have q := CallIs.putBytes (FlatNeutral.text m) (by unfold FlatNeutral.text; rw [List.length_map]; exact h1)
    rw [← e] at q
    exact q
  · rename_i o
    obtain ⟨e, l⟩ := whole32_iff h
    refine ⟨12, [o], [], .list o.toNat, ?_, rfl, .inl ⟨rfl, rfl⟩⟩
    have q := CallIs.list o.toNat l; rw [← e] at q; exact q
  · rename_i m
    obtain ⟨h1, h2⟩ := long_iff h
    have e := nats_back fun z hz => (h2 z hz).1
    refine ⟨13, [], m, .record (FlatNeutral.nats m), ?_, rfl, .inr rfl⟩
    have q := CallIs.record (FlatNeutral.nats m) (by unfold FlatNeutral.nats; rw [List.length_map]; exact h1) (fun k hk => by
      unfold FlatNeutral.nats at hk
      obtain ⟨z, hz, rfl⟩ := List.mem_map.mp hk
      have := h2 z hz
      omega)
    rw [← e] at q
    exact q
  · rename_i o
    obtain ⟨e, l⟩ := whole32_iff h
    refine ⟨14, [o], [], .copy o.toNat, ?_, rfl, .inl ⟨rfl, rfl⟩⟩
    have q := CallIs.copy o.toNat l; rw [← e] at q; exact q
  · exact ⟨15, [], [], _, .sizes, rfl, .inl ⟨rfl, rfl⟩⟩
  · exact ⟨16, [], [], _, .finish, rfl, .inl ⟨rfl, rfl⟩⟩
  · exact ⟨17, [], [], _, .adopt, rfl, .inl ⟨rfl, rfl⟩⟩
  · cases h
/-- how many whole numbers, and whether there is a row -/
def numsOf : List (Int × Int) := [(0, 0), (1, 0), (2, 1), (3, 1), (4, 1), (5, 1), (6, 2), (7, 2), (8, 1), (9, 0), (10, 2), (11, 0), (12, 1), (13, 0), (14, 1), (15, 0), (16, 0), (17, 0)]
def rowOf (p : Int) : Bool := decide (p = 0) || (decide (p = 11) || decide (p = 13))
theorem CallIs.nums {p : Int} {xs ys : List Int} {C : FmDesk.Call} (h : CallIs p xs ys C) : (numsOf.find? fun kv => decide (kv.1 = p)).map (·.2) = some (xs.length : Int) := by
  cases h <;> rfl
theorem CallIs.row {p : Int} {xs ys : List Int} {C : FmDesk.Call} (h : CallIs p xs ys C) (e : rowOf p = false) : ys = [] := by
  cases h <;> first | rfl | cases e
theorem CallIs.shape {p : Int} {xs ys : List Int} {C : FmDesk.Call} (h : CallIs p xs ys C) : PyWqandi.shape p = some (xs.length, if rowOf p = true then 1 else 0) := by
  cases h <;> rfl
theorem CallIs.len {p : Int} {xs ys : List Int} {C : FmDesk.Call} (h : CallIs p xs ys C) : xs.length ≤ 2 ∧ ys.length ≤ 600 := by
  cases h <;> simp <;> assumption
/-- **one call off the list** -/
theorem calls_step {f : Nat} {l : List Int} {cs : List (List (List Int))} (h : PyFlat.calls PyWqandi.shape f l = some cs) (hl : l ≠ []) (ha : cs.all FlatNeutral.asked1 = true) :
    ∃ (p : Int) (xs ys rest : List Int) (C : FmDesk.Call) (c : List (List Int)) (cs' : List (List (List Int))) (f' : Nat), CallIs p xs ys C ∧ cs = c :: cs' ∧ FlatNeutral.callOf c = some C ∧ PyFlat.calls PyWqandi.shape f' rest = some cs' ∧ cs'.all FlatNeutral.asked1 = true ∧
      l = p :: (xs ++ (if rowOf p = true then (ys.length : Int) :: (ys ++ rest) else rest)) := by
  match f, l, hl with
  | 0, q :: r, _ => cases h
  | f + 1, q :: r, _ =>
    unfold PyFlat.calls at h
    cases hc : PyFlat.call PyWqandi.shape (q :: r) with
    | none => rw [hc] at h; cases h
    | some ct =>
      obtain ⟨c, t⟩ := ct
      rw [hc] at h
      dsimp only at h
      cases hr : PyFlat.calls PyWqandi.shape f t with
      | none => rw [hr] at h; cases h
      | some cs' =>
        rw [hr] at h
        cases h
        rw [List.all_cons, Bool.and_eq_true] at ha
        obtain ⟨p, xs, ys, C, hC, hcall, hcf⟩ := call_is ha.1
        refine ⟨p, xs, ys, t, C, c, cs', f, hC, rfl, hcall, hr, ha.2, ?_⟩
        unfold PyFlat.call at hc
        dsimp only at hc
        cases hs : PyWqandi.shape q with
        | none => rw [hs] at hc; cases hc
        | some nk =>
          obtain ⟨n, k⟩ := nk
          rw [hs] at hc
          dsimp only at hc
          by_cases hn : r.length < n
          · rw [if_pos hn] at hc; cases hc
          · rw [if_neg hn] at hc
            cases hrow : PyFlat.rows k (r.drop n) with
            | none => rw [hrow] at hc; cases hc
            | some xt =>
              obtain ⟨rs, t'⟩ := xt
              rw [hrow] at hc
              cases hc
              have eh : q = p ∧ r.take n = xs := by
                rcases hcf with ⟨e, _⟩ | e
                · have := (List.cons.inj e).1
                  exact List.cons.inj this
                · have := (List.cons.inj e).1
                  exact List.cons.inj this
              obtain ⟨rfl, ex⟩ := eh
              have sh := hC.shape
              rw [hs] at sh
              have sh1 := (Prod.mk.inj (Option.some.inj sh)).1
              have sh2 := (Prod.mk.inj (Option.some.inj sh)).2
              have er : r = xs ++ r.drop n := by rw [← ex, List.take_append_drop]
              by_cases hrp : rowOf q = true
              · rw [if_pos hrp] at sh2 ⊢
                subst sh2
                unfold PyFlat.rows at hrow
                cases hd : PyFlat.row (r.drop n) with
                | none => rw [hd] at hrow; cases hrow
                | some yt =>
                  obtain ⟨y, t2⟩ := yt
                  rw [hd] at hrow
                  have hrow' : some ([y], t2) = some (rs, t) := hrow
                  cases hrow'
                  have ey : ys = y := by
                    rcases hcf with ⟨e, _⟩ | e
                    · have := (List.cons.inj e).2; cases this
                    · have := (List.cons.inj e).2
                      exact (List.cons.inj this).1.symm
                  subst ey
                  cases hdr : r.drop n with
                  | nil => rw [hdr] at hd; cases hd
                  | cons cnt r' =>
                    rw [hdr] at hd
                    unfold PyFlat.row at hd
                    dsimp only at hd
                    by_cases hcnt : 0 ≤ cnt ∧ cnt.toNat ≤ r'.length
                    · rw [if_pos hcnt] at hd
                      have hd' := Prod.mk.inj (Option.some.inj hd)
                      have el : (ys.length : Int) = cnt := by rw [← hd'.1, List.length_take]; omega
                      rw [hdr] at er
                      rw [er, el, ← hd'.1, ← hd'.2, List.take_append_drop]
                    · rw [if_neg hcnt] at hd; cases hd
              · rw [if_neg hrp] at sh2 ⊢
                subst sh2
                have hrow' : some (([] : List (List Int)), r.drop n) = some (rs, t) := hrow
                cases hrow'
                rw [← er]
end FmM
set_option Elab.async false
namespace FmM
open Fm
/-- a value whose numbers fit their bytes -/
def okV : Val → Prop
  | .number x => x < 18446744073709551616
  | .record ks => ∀ k ∈ ks, k < 4294967296
  | _ => True
theorem says_ok (m : Bytes) : ∀ (d o : Nat) (t : Tree × Nat), says m d o = some t → ∀ v ∈ t.1, okV v
  | 0, _, _, h => by cases h
  | d + 1, o, t, h => by
    unfold says at h
    cases hv : view m o with
    | none => rw [hv] at h; cases h
    | some w =>
      rw [hv] at h
      rw [view_eq] at hv
      split at hv
      · cases hv
      · split at hv
        · cases hv
          cases h
          intro v hm
          have hm' : v = .number (numAt m (o + 4) 8) := by simpa [over] using hm
          subst hm'
          show numAt m (o + 4) 8 < _
          rw [num8]
          have := num4_lt m (o + 4)
          have := num4_lt m (o + 4 + 4)
          omega
        · split at hv
          · cases hv
            cases h
            intro v hm
            have hm' : v = .bytes ((m.drop (o + 4)).take (countAt m o)) := by simpa [over] using hm
            subst hm'
            trivial
          · split at hv
            · cases hv
              obtain ⟨l, hl, rfl⟩ := Option.map_eq_some_iff.mp h
              intro v hm
              rcases List.mem_cons.mp hm with rfl | hm
              · trivial
              · obtain ⟨y, hy, hvy⟩ := List.mem_flatMap.mp hm
                exact gather_map_mem (P := fun (y : Tree × Nat) => ∀ v ∈ y.1, okV v) hl (fun x _ y hy => says_ok m d x y hy) y hy v hvy
            · cases hv
              obtain ⟨l, hl, rfl⟩ := Option.map_eq_some_iff.mp h
              intro v hm
              rcases List.mem_cons.mp hm with rfl | hm
              · intro k hk
                obtain ⟨x, hx, rfl⟩ := List.mem_map.mp hk
                unfold fieldsAt at hx
                obtain ⟨i, _, rfl⟩ := List.mem_map.mp hx
                exact num4_lt _ _
              · obtain ⟨y, hy, hvy⟩ := List.mem_flatMap.mp hm
                exact gather_map_mem (P := fun (y : Tree × Nat) => ∀ v ∈ y.1, okV v) hl (fun x _ y hy => says_ok m d x.2 y hy) y hy v hvy
/-- what holds of an object between two calls -/
structure Good (s : FmDesk.State) : Prop where
  msg : s.message.length ≤ 600
  few : s.trees.length ≤ 16
  room : FmDesk.sizesOf s.trees ≤ 504
  tr : ∀ x ∈ s.trees, Tr x.1
  deep : ∀ x ∈ s.trees, x.2 ≤ 8
  vals : ∀ x ∈ s.trees, ∀ v ∈ x.1, okV v
theorem good_start : Good FlatNeutral.start := ⟨Nat.zero_le _, Nat.zero_le _, Nat.zero_le _, fun x h => by simp [FlatNeutral.start, FmDesk.start] at h, fun x h => by simp [FlatNeutral.start, FmDesk.start] at h, fun x h => by simp [FlatNeutral.start, FmDesk.start] at h⟩
theorem good_put {s : FmDesk.State} {k : Nat} {x : Tree × Nat} (g : Good s) (h : Tr x.1) (hv : ∀ v ∈ x.1, okV v) : Good (FmDesk.put s k x).1 := by
  unfold FmDesk.put
  dsimp only
  split
  · exact g
  · rename_i c
    have c' : ¬ (16 < (s.trees.take (s.trees.length - k) ++ [x]).length ∨ 8 < x.2 ∨ 504 < FmDesk.sizesOf (s.trees.take (s.trees.length - k) ++ [x])) := c
    have mem : ∀ y, y ∈ s.trees.take (s.trees.length - k) ++ [x] → y ∈ s.trees ∨ y = x := fun y hy => by
      rcases List.mem_append.mp hy with hy | hy
      · exact .inl (List.mem_of_mem_take hy)
      · exact .inr (by simpa using hy)
    refine ⟨g.msg, by show (s.trees.take (s.trees.length - k) ++ [x]).length ≤ 16; omega, by show FmDesk.sizesOf (s.trees.take (s.trees.length - k) ++ [x]) ≤ 504; omega, fun y hy => ?_, fun y hy => ?_, fun y hy => ?_⟩
    · rcases mem y hy with hy | rfl
      · exact g.tr y hy
      · exact h
    · rcases mem y hy with hy | rfl
      · exact g.deep y hy
      · omega
    · rcases mem y hy with hy | rfl
      · exact g.vals y hy
      · exact hv
theorem sizesOf_mem {l : List (Tree × Nat)} {x : Tree × Nat} (h : x ∈ l) : Fm.sizeOf x.1 ≤ FmDesk.sizesOf l := by
  unfold FmDesk.sizesOf
  induction l with
  | nil => simp at h
  | cons a l ih =>
    rw [List.map_cons, List.foldr_cons]
    rcases List.mem_cons.mp h with rfl | h
    · omega
    · have := ih h; omega
theorem last_mem {s : FmDesk.State} {k : Nat} {y : Tree × Nat} (h : y ∈ FmDesk.lastOf s k) : y ∈ s.trees := List.mem_of_mem_drop h
theorem last_len {s : FmDesk.State} {k : Nat} (h : k ≤ s.trees.length) : (FmDesk.lastOf s k).length = k := by
  unfold FmDesk.lastOf
  rw [List.length_drop]
  omega
theorem tr_list {s : FmDesk.State} {k : Nat} (g : Good s) (h : k ≤ s.trees.length) : Tr (over (.list k) (FmDesk.lastOf s k)).1 := by
  have e := over_list (FmDesk.lastOf s k)
  rw [last_len h] at e
  rw [e]
  have e2 := Tr.lst ((FmDesk.lastOf s k).map fun x => x.1) fun t ht => by
    obtain ⟨y, hy, rfl⟩ := List.mem_map.mp ht
    exact g.tr y (last_mem hy)
  exact e2
theorem tr_rec {s : FmDesk.State} {l : List Nat} (g : Good s) (h : l.length ≤ s.trees.length) : Tr (over (.record l) (FmDesk.lastOf s l.length)).1 := by
  rw [over_rec]
  exact Tr.rcd l _ (by rw [List.length_map, last_len h]) fun t ht => by
    obtain ⟨y, hy, rfl⟩ := List.mem_map.mp ht
    exact g.tr y (last_mem hy)
theorem vals_over {s : FmDesk.State} {k : Nat} {v : Val} (g : Good s) (hv : okV v) : ∀ u ∈ (over v (FmDesk.lastOf s k)).1, okV u := fun u hu => by
  rcases List.mem_cons.mp hu with rfl | hu
  · exact hv
  · obtain ⟨y, hy, hvy⟩ := List.mem_flatMap.mp hu
    exact g.vals y (last_mem hy) u hvy
theorem finished_eq (s : FmDesk.State) : FmDesk.finished s = match s.trees with | [x] => some (message x.1) | _ => none := rfl
theorem good_finished {s : FmDesk.State} {m : Bytes} (g : Good s) (h : FmDesk.finished s = some m) : ∃ x, s.trees = [x] ∧ m = message x.1 ∧ m.length = 8 + Fm.sizeOf x.1 ∧ m.length ≤ 512 := by
  unfold FmDesk.finished at h
  split at h
  · rename_i x hx
    cases h
    have hm : x ∈ s.trees := by rw [hx]; simp
    have e := message_len (g.tr x hm)
    have := sizesOf_mem hm
    have := g.room
    exact ⟨x, hx, rfl, e, by omega⟩
  · cases h
/-- **a call leaves it so** -/
theorem good_step {s : FmDesk.State} {p : Int} {xs ys : List Int} {C : FmDesk.Call} (g : Good s) (h : CallIs p xs ys C) : Good (FmDesk.step s C).1 := by
  cases h with
  | load m h => exact ⟨h, g.few, g.room, g.tr, g.deep, g.vals⟩
  | check => exact g
  | kind o h => exact g
  | number o h => exact g
  | bytes o h => exact g
  | count o h => exact g
  | item o i h h2 => exact g
  | field o i h h2 => exact g
  | depth o h => exact g
  | begin_ => exact ⟨g.msg, Nat.zero_le _, Nat.zero_le _, fun x h => absurd (show x ∈ ([] : List (Tree × Nat)) from h) (by simp), fun x h => absurd (show x ∈ ([] : List (Tree × Nat)) from h) (by simp), fun x h => absurd (show x ∈ ([] : List (Tree × Nat)) from h) (by simp)⟩
  | putNumber a b h h2 =>
    refine good_put g (.num _) fun v hv => ?_
    · have hm : v = .number (a * 4294967296 + b) := by simpa [over] using hv
      subst hm
      show a * 4294967296 + b < 18446744073709551616
      omega
  | putBytes m h =>
    refine good_put g (.byt _) fun v hv => ?_
    · have hm : v = .bytes m := by simpa [over] using hv
      subst hm
      trivial
  | list k h =>
    show Good (if s.trees.length < k then (s, FmDesk.says_ (-1)) else FmDesk.put s k (over (.list k) (FmDesk.lastOf s k))).1
    split
    · exact g
    · exact good_put g (tr_list g (by omega)) (vals_over g trivial)
  | record l h h2 =>
    show Good (if s.trees.length < l.length ∨ rising l = false then (s, FmDesk.says_ (-1)) else FmDesk.put s l.length (over (.record l) (FmDesk.lastOf s l.length))).1
    split
    · exact g
    · exact good_put g (tr_rec g (by omega)) (vals_over g h2)
  | copy o h =>
    unfold FmDesk.step
    dsimp only
    split
    · exact g
    · split
      · exact g
      · split
        · exact g
        · rename_i t ht
          exact good_put g (says_tr _ _ _ _ ht) (says_ok _ _ _ _ ht)
  | sizes => exact g
  | finish => exact g
  | adopt =>
    unfold FmDesk.step
    dsimp only
    split
    · rename_i m hm
      obtain ⟨x, _, _, _, hl⟩ := good_finished g hm
      exact ⟨by show m.length ≤ 600; omega, g.few, g.room, g.tr, g.deep, g.vals⟩
    · exact g
/-- an answer is not long -/
theorem told_len {s : FmDesk.State} {p : Int} {xs ys : List Int} {C : FmDesk.Call} (g : Good s) (h : CallIs p xs ys C) : (FlatNeutral.told (FmDesk.step s C).2).length ≤ 700 := by
  have hput : ∀ k x, (FlatNeutral.told (FmDesk.put s k x).2).length ≤ 700 := fun k x => by
    unfold FmDesk.put
    dsimp only
    split <;> (show 1 ≤ 700; decide)
  cases h with
  | load m h => show 1 ≤ 700; decide
  | check => rw [told_check]; unfold ansCheck; split <;> (show 1 ≤ 700; decide)
  | kind o h => rw [told_kind]; split <;> (show 1 ≤ 700; decide)
  | number o h => rw [told_number]; split; (show 1 ≤ 700; decide); unfold ansNumber; split <;> simp
  | bytes o h =>
    rw [told_bytes]
    split
    · show 1 ≤ 700; decide
    · unfold ansBytes
      split
      · rw [List.length_append, List.length_map, List.length_take, List.length_drop]
        have := g.msg
        show 2 + _ ≤ 700
        omega
      · show 1 ≤ 700; decide
  | count o h => rw [told_count]; split; (show 1 ≤ 700; decide); unfold ansCount; split <;> simp
  | item o i h h2 => rw [told_item]; split; (show 1 ≤ 700; decide); unfold ansItem; split; simp; split; simp; split <;> simp
  | field o i h h2 => rw [told_field]; split; (show 1 ≤ 700; decide); unfold ansField; split; simp; split <;> simp
  | depth o h => rw [told_depth]; unfold ansDepth; split <;> simp
  | begin_ => show 1 ≤ 700; decide
  | putNumber a b h h2 => exact hput _ _
  | putBytes m h => exact hput _ _
  | list k h =>
    show (FlatNeutral.told (if s.trees.length < k then (s, FmDesk.says_ (-1)) else FmDesk.put s k (over (.list k) (FmDesk.lastOf s k))).2).length ≤ 700
    split
    · show 1 ≤ 700; decide
    · exact hput _ _
  | record l h h2 =>
    show (FlatNeutral.told (if s.trees.length < l.length ∨ rising l = false then (s, FmDesk.says_ (-1)) else FmDesk.put s l.length (over (.record l) (FmDesk.lastOf s l.length))).2).length ≤ 700
    split
    · show 1 ≤ 700; decide
    · exact hput _ _
  | copy o h =>
    unfold FmDesk.step
    dsimp only
    split
    · show 1 ≤ 700; decide
    · split
      · show 1 ≤ 700; decide
      · split
        · show 1 ≤ 700; decide
        · exact hput _ _
  | sizes => show 2 ≤ 700; decide
  | finish =>
    show (FlatNeutral.told (match FmDesk.finished s with | some m => ⟨FmDesk.nat m.length, [], m⟩ | none => FmDesk.says_ (-1))).length ≤ 700
    cases hf : FmDesk.finished s with
    | none => show 1 ≤ 700; decide
    | some m =>
      obtain ⟨x, _, _, _, hl⟩ := good_finished g hf
      show (m.map fun (c : UInt8) => (c.toNat : Int)).length + 1 ≤ 700
      rw [List.length_map]
      omega
  | adopt =>
    unfold FmDesk.step
    dsimp only
    split <;> (show 1 ≤ 700; decide)
/-- **how the answers go on**: one call, then the rest -/
theorem played_cons {s : FmDesk.State} {c : List (List Int)} {C : FmDesk.Call} {cs : List (List (List Int))} (h : FlatNeutral.callOf c = some C) :
    PyFlat.told (PyFlat.played FlatNeutral.step s (c :: cs)) = ((FlatNeutral.told (FmDesk.step s C).2).length : Int) :: (FlatNeutral.told (FmDesk.step s C).2 ++ PyFlat.told (PyFlat.played FlatNeutral.step (FmDesk.step s C).1 cs)) := by
  have e : FlatNeutral.step s c = ((FmDesk.step s C).1, FlatNeutral.told (FmDesk.step s C).2) := by
    unfold FlatNeutral.step
    rw [h]
  show PyFlat.told ((FlatNeutral.step s c).2 :: PyFlat.played FlatNeutral.step (FlatNeutral.step s c).1 cs) = _
  rw [e]
  rfl
theorem asked_parts {ns : List Int} (h : PyWqandi.answers_asked ns = true) : ∃ cs, PyFlat.calls PyWqandi.shape ns.length ns = some cs ∧ cs.all FlatNeutral.asked1 = true ∧ cs.length ≤ 200 ∧ PyWqandi.answers ns = PyFlat.told (PyFlat.played FlatNeutral.step FlatNeutral.start cs) := by
  have ew : ∀ cs : List (List (List Int)), cs.map PyWqandi.whole = cs := fun cs => by
    conv => rhs; rw [← List.map_id cs]
    exact List.map_congr_left fun c _ => whole_id c
  unfold PyWqandi.answers_asked PyWqandi.calls at h
  unfold PyWqandi.answers PyWqandi.calls
  cases hc : PyFlat.calls PyWqandi.shape ns.length ns with
  | none => rw [hc] at h; cases h
  | some cs =>
    rw [hc] at h
    dsimp only at h ⊢
    rw [ew] at h ⊢
    rw [Bool.and_eq_true] at h
    unfold FlatNeutral.asked at h
    rw [Bool.and_eq_true, Bool.and_eq_true] at h
    exact ⟨cs, rfl, h.2.2, of_decide_eq_true h.2.1.2, rfl⟩
end FmM
set_option Elab.async false
namespace FmM
open Fm
/-! ### what a whole value says, over what those in it say -/
theorem gather_up {α β : Type} {f g : α → Option β} : ∀ {l : List α} {k : List β}, gather f l = some k → (∀ x ∈ l, ∀ y, f x = some y → g x = some y) → gather g l = some k
  | [], _, e, _ => e
  | z :: r, k, e, h => by
    rw [gather] at e
    cases q : f z with
    | none => rw [q] at e; cases e
    | some w =>
      cases q2 : gather f r with
      | none => rw [q, q2] at e; cases e
      | some k2 =>
        rw [q, q2] at e
        cases e
        rw [gather, h z (List.mem_cons_self ..) w q, gather_up q2 fun x hx y hy => h x (List.mem_cons_of_mem _ hx) y hy]
theorem says_up (m : Bytes) : ∀ (d o : Nat) (t : Tree × Nat), says m d o = some t → says m (d + 1) o = some t
  | 0, _, _, h => by cases h
  | d + 1, o, t, h => by
    unfold says at h
    show (match view m o with
      | none => none
      | some (.number x) => some (over (.number x) [])
      | some (.bytes s n) => some (over (.bytes ((m.drop s).take n)) [])
      | some (.list places) => (gather (fun (k : Nat) => says m (d + 1) k) places).map (over (.list places.length))
      | some (.record fields) => (gather (fun (x : Nat × Nat) => says m (d + 1) x.2) fields).map (over (.record (fields.map fun (x : Nat × Nat) => x.1)))) = some t
    cases hv : view m o with
    | none => rw [hv] at h; cases h
    | some v =>
      rw [hv] at h
      cases v with
      | number x => exact h
      | bytes a n => exact h
      | list l =>
        obtain ⟨k, hk, e⟩ := Option.map_eq_some_iff.mp h
        show (gather (fun (k : Nat) => says m (d + 1) k) l).map (over (.list l.length)) = some t
        rw [gather_up hk fun x _ y hy => says_up m d x y hy, ← e]
        rfl
      | record l =>
        obtain ⟨k, hk, e⟩ := Option.map_eq_some_iff.mp h
        show (gather (fun (x : Nat × Nat) => says m (d + 1) x.2) l).map (over (.record (l.map fun (x : Nat × Nat) => x.1))) = some t
        rw [gather_up hk fun x _ y hy => says_up m d x.2 y hy, ← e]
        rfl
/-- the value itself that stands at a place -/
def valAt (m : Bytes) (o : Nat) : Val :=
  if kindAt m o = 1 then .number (numAt m (o + 4) 8) else if kindAt m o = 2 then .bytes ((m.drop (o + 4)).take (countAt m o)) else if kindAt m o = 3 then .list (countAt m o) else .record (keysIn m o)
theorem says_eq (m : Bytes) (d o : Nat) : says m (d + 1) o = if standsRight m o = false then none else (gather (fun p => says m d p) (placesIn m o)).map (over (valAt m o)) := by
  rw [says, view_eq]
  by_cases s : standsRight m o = false
  · rw [if_pos s, if_pos s]
  · rw [if_neg s, if_neg s]
    unfold placesIn valAt
    by_cases h1 : kindAt m o = 1
    · rw [if_pos h1, if_pos (Or.inl h1), if_pos h1, gather_nil]; rfl
    · rw [if_neg h1, if_neg h1]
      by_cases h2 : kindAt m o = 2
      · rw [if_pos h2, if_pos (Or.inr h2), if_pos h2, gather_nil]; rfl
      · rw [if_neg h2, if_neg h2, if_neg (show ¬ (kindAt m o = 1 ∨ kindAt m o = 2) by omega)]
        by_cases h3 : kindAt m o = 3
        · rw [if_pos h3, if_pos h3, if_pos h3]
          show (gather (fun k => says m d k) _).map (over (.list (placesAt m (o + 4) (countAt m o)).length)) = _
          rw [placesAt_len]
        · rw [if_neg h3, if_neg h3, if_neg h3, gather_map]
          rfl
/-- what the whole value at a place says -/
def tale (m : Bytes) (o : Nat) : Option (Tree × Nat) := match whole m o with
  | none => none
  | some _ => says m 8 o
theorem tale_some {m : Bytes} {o : Nat} {x : Tree × Nat} (h : tale m o = some x) : whole m o = some (x.2, Fm.sizeOf x.1) ∧ says m 8 o = some x := by
  unfold tale at h
  cases w : whole m o with
  | none => rw [w] at h; cases h
  | some y =>
    rw [w] at h
    have h' : says m 8 o = some x := h
    obtain ⟨t, h1, h2, _⟩ := says_whole w
    have h3 : some (t, y.1) = some x := h1.symm.trans h'
    cases h3
    exact ⟨by rw [h2], h'⟩
theorem tale_none {m : Bytes} {o : Nat} (h : tale m o = none) : whole m o = none := by
  unfold tale at h
  cases w : whole m o with
  | none => rfl
  | some y =>
    rw [w] at h
    obtain ⟨t, h1, _⟩ := says_whole w
    have h' : says m 8 o = none := h
    rw [show says m DEPTH o = says m 8 o from rfl, h'] at h1
    cases h1
theorem tale_of {m : Bytes} {o d s : Nat} (h : whole m o = some (d, s)) : ∃ t, tale m o = some (t, d) ∧ Fm.sizeOf t = s := by
  obtain ⟨t, h1, h2, _⟩ := says_whole h
  refine ⟨t, ?_, h2⟩
  unfold tale
  rw [h]
  exact h1
theorem tale_tr {m : Bytes} {o : Nat} {x : Tree × Nat} (h : tale m o = some x) : Tr x.1 := says_tr _ _ _ _ (tale_some h).2
theorem tale_le {m : Bytes} {o : Nat} {x : Tree × Nat} (h : tale m o = some x) : x.2 ≤ 8 := whole_le (tale_some h).1
theorem gather_tale {m : Bytes} : ∀ {l : List Nat} {k : List (Tree × Nat)}, gather (tale m) l = some k → gather (whole m) l = some (k.map fun x => (x.2, Fm.sizeOf x.1))
  | [], _, e => by cases e; rfl
  | z :: r, k, e => by
    rw [gather] at e
    cases q : tale m z with
    | none => rw [q] at e; cases e
    | some w =>
      cases q2 : gather (tale m) r with
      | none => rw [q, q2] at e; cases e
      | some k2 =>
        rw [q, q2] at e
        cases e
        rw [gather, (tale_some q).1, gather_tale q2]
        rfl
theorem gather_whole_none {m : Bytes} {l : List Nat} (h : gather (tale m) l = none) : gather (whole m) l = none := by
  cases q : gather (whole m) l with
  | none => rfl
  | some k =>
    obtain ⟨j, e⟩ := gather_some (f := tale m) (l := l) fun x hx => by
      obtain ⟨y, _, hy⟩ := gather_mem q x hx
      obtain ⟨t, ht, _⟩ := tale_of (d := y.1) (s := y.2) hy
      rw [ht]; rfl
    rw [h] at e
    cases e
theorem tale_depth (s : Nat) (v : Val) (k : List (Tree × Nat)) : (above s (k.map fun x => (x.2, Fm.sizeOf x.1))).1 = (over v k).2 := by
  unfold above over
  rw [List.map_map]
  rfl
/-- **what a whole value says, over what those in it say** -/
theorem tale_eq (m : Bytes) (o : Nat) : tale m o = if standsRight m o = false then none else match gather (tale m) (placesIn m o) with
    | none => none
    | some l => if (over (valAt m o) l).2 ≤ 8 then some (over (valAt m o) l) else none := by
  have hw := whole_eq m o
  unfold measure at hw
  by_cases s : standsRight m o = false
  · rw [if_pos s] at hw ⊢
    unfold tale
    rw [hw]
  · rw [if_neg s] at hw ⊢
    cases g : gather (tale m) (placesIn m o) with
    | none =>
      rw [gather_whole_none g] at hw
      unfold tale
      rw [hw]
    | some l =>
      rw [gather_tale g] at hw
      dsimp only at hw ⊢
      rw [tale_depth _ (valAt m o)] at hw
      by_cases d : (over (valAt m o) l).2 ≤ 8
      · rw [if_pos d] at hw ⊢
        unfold tale
        rw [hw]
        show says m 8 o = _
        rw [says_eq, if_neg s]
        have e : gather (fun p => says m 7 p) (placesIn m o) = some l := by
          rw [← g]
          refine gather_congr fun p hp => ?_
          obtain ⟨y, hy, hty⟩ := gather_mem g p hp
          rw [hty]
          have hd : y.2 ≤ 7 := by
            have := foldr_max_ge (l.map fun x => x.2) y.2 (List.mem_map.mpr ⟨y, hy, rfl⟩)
            have d2 : 1 + (l.map fun x => x.2).foldr max 0 ≤ 8 := d
            omega
          obtain ⟨h1, h2⟩ := tale_some hty
          rw [whole_known] at h1
          cases z : knownAt (known m) p with
          | none => rw [z] at h1; cases h1
          | some v =>
            rw [z] at h1
            have h' : (if v.1 ≤ 8 then some v else none) = some (y.2, Fm.sizeOf y.1) := h1
            split at h' <;> cases h'
            obtain ⟨t, h3, _⟩ := says_known m 7 p _ _ z hd
            have h4 := says_up m 7 p _ h3
            rw [h2] at h4
            exact h3.trans h4.symm
        rw [e]
        rfl
      · rw [if_neg d] at hw ⊢
        unfold tale
        rw [hw]
theorem tale_lack {m : Bytes} {o : Nat} (s : standsRight m o = true) (g : gather (tale m) (placesIn m o) = none) : tale m o = none := by
  rw [tale_eq, if_neg (by rw [s]; simp), g]
theorem tale_at {m : Bytes} {o : Nat} {l : List (Tree × Nat)} (s : standsRight m o = true) (g : gather (tale m) (placesIn m o) = some l) : tale m o = if (over (valAt m o) l).2 ≤ 8 then some (over (valAt m o) l) else none := by
  rw [tale_eq, if_neg (by rw [s]; simp), g]
theorem tale_right {m : Bytes} {o : Nat} {x : Tree × Nat} (h : tale m o = some x) : standsRight m o = true := whole_right (tale_some h).1
theorem tale_ok {m : Bytes} {o : Nat} {x : Tree × Nat} (h : tale m o = some x) : ∀ v ∈ x.1, okV v := says_ok _ _ _ _ (tale_some h).2
/-! ### the words of a value as the program keeps them -/
def kindV : Val → Nat
  | .number _ => 1
  | .bytes _ => 2
  | .list _ => 3
  | .record _ => 4
def countV : Val → Nat
  | .number _ => 0
  | .bytes b => b.length
  | .list k => k
  | .record ks => ks.length
def contV : Val → List Nat
  | .number x => [x / 4294967296, x % 4294967296]
  | .bytes b => b.map fun c => c.toNat
  | .list _ => []
  | .record ks => ks
theorem size_own (v : Val) : ownSize (kindV v) (countV v) = v.size := by
  cases v <;> rfl
theorem over_size (v : Val) (l : List (Tree × Nat)) : Fm.sizeOf (over v l).1 = v.size + (l.map fun x => Fm.sizeOf x.1).sum := by
  show Fm.sizeOf (v :: l.flatMap fun x => x.1) = _
  rw [sizeOf_cons, flatMap_fst, sizeOf_flatten, List.map_map]
  rfl
theorem sizesOf_sum (l : List (Tree × Nat)) : FmDesk.sizesOf l = (l.map fun x => Fm.sizeOf x.1).sum := foldr_sum _
/-! ### bytes of numbers -/
def b4 (n : Nat) : List Nat := [n % 256, n / 256 % 256, n / 65536 % 256, n / 16777216]
theorem u8 (n : Nat) : (UInt8.ofNat (n % 256)).toNat = n % 256 := by
  rw [UInt8.toNat_ofNat']
  omega
theorem le4_nat {n : Nat} (h : n < 4294967296) : (le 4 n).map (fun c => c.toNat) = b4 n := by
  unfold le b4
  rw [List.map_map]
  show [(UInt8.ofNat (n / 256 ^ 0 % 256)).toNat, (UInt8.ofNat (n / 256 ^ 1 % 256)).toNat, (UInt8.ofNat (n / 256 ^ 2 % 256)).toNat, (UInt8.ofNat (n / 256 ^ 3 % 256)).toNat] = _
  rw [u8, u8, u8, u8]
  have e0 : n / 256 ^ 0 % 256 = n % 256 := by rw [Nat.pow_zero, Nat.div_one]
  have e3 : n / 256 ^ 3 % 256 = n / 16777216 := by omega
  rw [e0, e3]
theorem le3_nat (n : Nat) : (le 3 n).map (fun c => c.toNat) = (b4 n).take 3 := by
  unfold le b4
  rw [List.map_map]
  show [(UInt8.ofNat (n / 256 ^ 0 % 256)).toNat, (UInt8.ofNat (n / 256 ^ 1 % 256)).toNat, (UInt8.ofNat (n / 256 ^ 2 % 256)).toNat] = [n % 256, n / 256 % 256, n / 65536 % 256]
  rw [u8, u8, u8]
  have e0 : n / 256 ^ 0 % 256 = n % 256 := by rw [Nat.pow_zero, Nat.div_one]
  rw [e0]
theorem le8_split {x : Nat} : le 8 x = le 4 (x % 4294967296) ++ le 4 (x / 4294967296) := by
  unfold le
  show [UInt8.ofNat (x / 256 ^ 0 % 256), UInt8.ofNat (x / 256 ^ 1 % 256), UInt8.ofNat (x / 256 ^ 2 % 256), UInt8.ofNat (x / 256 ^ 3 % 256), UInt8.ofNat (x / 256 ^ 4 % 256), UInt8.ofNat (x / 256 ^ 5 % 256), UInt8.ofNat (x / 256 ^ 6 % 256), UInt8.ofNat (x / 256 ^ 7 % 256)]
    = [UInt8.ofNat (x % 4294967296 / 256 ^ 0 % 256), UInt8.ofNat (x % 4294967296 / 256 ^ 1 % 256), UInt8.ofNat (x % 4294967296 / 256 ^ 2 % 256), UInt8.ofNat (x % 4294967296 / 256 ^ 3 % 256), UInt8.ofNat (x / 4294967296 / 256 ^ 0 % 256), UInt8.ofNat (x / 4294967296 / 256 ^ 1 % 256), UInt8.ofNat (x / 4294967296 / 256 ^ 2 % 256), UInt8.ofNat (x / 4294967296 / 256 ^ 3 % 256)]
  have e0 : x % 4294967296 / 256 ^ 0 % 256 = x / 256 ^ 0 % 256 := by omega
  have e1 : x % 4294967296 / 256 ^ 1 % 256 = x / 256 ^ 1 % 256 := by omega
  have e2 : x % 4294967296 / 256 ^ 2 % 256 = x / 256 ^ 2 % 256 := by omega
  have e3 : x % 4294967296 / 256 ^ 3 % 256 = x / 256 ^ 3 % 256 := by omega
  have e4 : x / 4294967296 / 256 ^ 0 % 256 = x / 256 ^ 4 % 256 := by omega
  have e5 : x / 4294967296 / 256 ^ 1 % 256 = x / 256 ^ 5 % 256 := by omega
  have e6 : x / 4294967296 / 256 ^ 2 % 256 = x / 256 ^ 6 % 256 := by omega
  have e7 : x / 4294967296 / 256 ^ 3 % 256 = x / 256 ^ 7 % 256 := by omega
  rw [e0, e1, e2, e3, e4, e5, e6, e7]
/-! ### a tree's bytes, value by value -/
def headB (k c : Nat) : Bytes := UInt8.ofNat k :: le 3 c
def insB (v : Val) (places : List Nat) : Bytes := match v with
  | .number x => le 4 (x % 4294967296) ++ le 4 (x / 4294967296)
  | .bytes b => b ++ List.replicate (up4 b.length - b.length) 0
  | .list _ => places.flatMap (le 4)
  | .record ks => (ks.zip places).flatMap fun x => le 4 x.1 ++ le 4 x.2
theorem own_parts {v : Val} {ts : List Tree} (a : ts.length = v.arity) (h : ∀ t ∈ ts, Tr t) (o : Nat) (r : List Val) : own o v (ts.flatten ++ r) = headB (kindV v) (countV v) ++ insB v (starts (o + v.size) ts) := by
  cases v with
  | number x =>
    show [1, 0, 0, 0] ++ le 8 x = _
    rw [le8_split]
    have e : headB 1 0 = [1, 0, 0, 0] := by decide
    show _ = headB 1 0 ++ _
    rw [e]
    rfl
  | bytes b => rfl
  | list k =>
    have a' : ts.length = k := a
    subst a'
    rw [own_list_eq h, Nat.add_assoc]
    rfl
  | record ks =>
    have a' : ts.length = ks.length := a
    rw [own_rec_eq a'.symm h, Nat.add_assoc]
    rfl
theorem laidAll_append : ∀ (o : Nat) (a b : List Tree), laidAll o (a ++ b) = laidAll o a ++ laidAll (o + Fm.sizeOf a.flatten) b
  | o, [], b => rfl
  | o, t :: a, b => by
    show laid o t ++ laidAll (o + Fm.sizeOf t) (a ++ b) = (laid o t ++ laidAll (o + Fm.sizeOf t) a) ++ _
    rw [laidAll_append, List.append_assoc, List.flatten_cons, sizeOf_append, Nat.add_assoc]
/-- **one value off the row of those that wait** -/
theorem laid_step {v : Val} {l : List (Tree × Nat)} (a : l.length = v.arity) (h : ∀ x ∈ l, Tr x.1) (o : Nat) (rest : List Tree) : laidAll o ((over v l).1 :: rest) =
    (headB (kindV v) (countV v) ++ insB v (starts (o + v.size) (l.map fun x => x.1))) ++ laidAll (o + v.size) ((l.map fun x => x.1) ++ rest) := by
  have h' : ∀ t ∈ l.map (fun x => x.1), Tr t := fun t ht => by
    obtain ⟨x, hx, rfl⟩ := List.mem_map.mp ht
    exact h x hx
  have e0 : (over v l).1 = v :: (l.map fun x => x.1).flatten := by
    show v :: (l.flatMap fun x => x.1) = _
    rw [flatMap_fst]
  have e1 := own_parts (v := v) (by rw [List.length_map]; exact a) h' o []
  rw [List.append_nil] at e1
  have e2 := laid_list (fun t ht => (h' t ht).lay) (o + v.size) []
  rw [List.append_nil] at e2
  show laid o (over v l).1 ++ laidAll (o + Fm.sizeOf (over v l).1) rest = _
  rw [e0, laid_cons, e1, e2, laidAll_append, sizeOf_cons, Nat.add_assoc o]
  show (_ ++ (_ ++ [])) ++ _ = _
  rw [List.append_nil, List.append_assoc]
theorem headB_len (k c : Nat) : (headB k c).length = 4 := by
  show (le 3 c).length + 1 = 4
  rw [le_len]
theorem insB_len {v : Val} {places : List Nat} (a : v.arity = places.length) : (insB v places).length + 4 = v.size := by
  cases v with
  | number x => show (le 4 _ ++ le 4 _).length + 4 = 12; rw [List.length_append, le_len, le_len]
  | bytes b =>
    show (b ++ List.replicate (up4 b.length - b.length) 0).length + 4 = 4 + up4 b.length
    rw [List.length_append, List.length_replicate]
    have := up4_ge b.length
    omega
  | list k =>
    have a' : k = places.length := a
    show (places.flatMap (le 4)).length + 4 = 4 + 4 * k
    rw [flat_len (le 4) 4 _ (fun x _ => le_len 4 x)]
    omega
  | record ks =>
    have a' : ks.length = places.length := a
    show ((ks.zip places).flatMap fun x => le 4 x.1 ++ le 4 x.2).length + 4 = 4 + 8 * ks.length
    rw [flat_len (fun (x : Nat × Nat) => le 4 x.1 ++ le 4 x.2) 8 _ (fun x _ => by rw [List.length_append, le_len, le_len]), List.length_zip]
    omega
theorem Tr.pos {t : Tree} (h : Tr t) : 0 < t.length := by
  cases h <;> exact Nat.succ_pos _
theorem starts_le : ∀ (o : Nat) (ts : List Tree), ∀ x ∈ starts o ts, o ≤ x ∧ x ≤ o + Fm.sizeOf ts.flatten
  | _, [], x, h => absurd h (by simp [starts])
  | o, t :: r, x, h => by
    have h' : x ∈ o :: starts (o + Fm.sizeOf t) r := h
    rw [List.flatten_cons, sizeOf_append]
    rcases List.mem_cons.mp h' with rfl | h'
    · omega
    · have := starts_le (o + Fm.sizeOf t) r x h'
      omega
theorem starts_snoc : ∀ (o : Nat) (ts : List Tree) (t : Tree), starts o (ts ++ [t]) = starts o ts ++ [o + Fm.sizeOf ts.flatten]
  | o, [], t => rfl
  | o, u :: r, t => by
    show o :: starts (o + Fm.sizeOf u) (r ++ [t]) = o :: (starts (o + Fm.sizeOf u) r ++ _)
    rw [starts_snoc, List.flatten_cons, sizeOf_append, Nat.add_assoc]
end FmM
set_option Elab.async false
set_option linter.all false
set_option maxRecDepth 100000
/-! THE HAND LAYER, for ints, bools, texts, own classes, lists, tuples, dicts, comprehensions, walks over dicts, enumerate, zip, reversed, texts, calls, loops. Paste it whole ahead of your own text; what your proof does not reach may be deleted. -/
namespace L2
open PySem PySem.Spec PyProof.Rows

/-- a key: an int or a str -/
abbrev Key := Sum Int Str
def keyIs : Key → Value → Bool
  | .inl k, v => Value.isInt k v
  | .inr x, v => Value.isStrOf x v
def keyH (w : World) : Key → Int
  | .inl k => hashInt k
  | .inr x => hashStr w x
theorem keyIs_shape : ∀ {k : Key} {v : Value}, keyIs k v = true → (∃ i t, k = Sum.inl i ∧ v = Value.int i t) ∨ (∃ x t, k = Sum.inr x ∧ v = Value.str x t)
  | .inl i, v, h => by
    obtain ⟨t, e⟩ := Value.isInt_shape (k := i) (v := v) h
    exact .inl ⟨i, t, rfl, e⟩
  | .inr x, v, h => by
    obtain ⟨t, e⟩ := Value.isStrOf_shape (x := x) (v := v) h
    exact .inr ⟨x, t, rfl, e⟩
theorem keyIs_int (i : Int) (t : Tok) : keyIs (.inl i) (.int i t) = true := by simp [keyIs, Value.isInt]
theorem keyIs_str (x : Str) (t : Tok) : keyIs (.inr x) (.str x t) = true := by simp [keyIs, Value.isStrOf]
theorem key_ll (a b : Int) : decide ((Sum.inl a : Key) = Sum.inl b) = (a == b) := by
  by_cases e : a = b
  · subst e; simp
  · have h : ¬ (Sum.inl a : Key) = Sum.inl b := fun q => e (Sum.inl.inj q)
    rw [decide_eq_false h]
    exact (beq_eq_false_iff_ne.mpr e).symm
theorem key_rr (a b : Str) : decide ((Sum.inr a : Key) = Sum.inr b) = decide (a = b) := by
  by_cases e : a = b
  · subst e; simp
  · have h : ¬ (Sum.inr a : Key) = Sum.inr b := fun q => e (Sum.inr.inj q)
    rw [decide_eq_false h, decide_eq_false e]
theorem key_lr (a : Int) (b : Str) : decide ((Sum.inl a : Key) = Sum.inr b) = false := decide_eq_false (fun q => nomatch q)
theorem key_rl (a : Str) (b : Int) : decide ((Sum.inr a : Key) = Sum.inl b) = false := decide_eq_false (fun q => nomatch q)

def mixKind (prog : Program) (w : World) : PySem.KeyKind prog w Key where
  is := keyIs
  hash := keyH w
  inj := fun v a b ha hb => by
    rcases keyIs_shape ha with ⟨i, t, rfl, rfl⟩ | ⟨x, t, rfl, rfl⟩
    · rcases keyIs_shape hb with ⟨j, u, rfl, e⟩ | ⟨y, u, rfl, e⟩
      · injection e with e1 _; rw [e1]
      · exact nomatch e
    · rcases keyIs_shape hb with ⟨j, u, rfl, e⟩ | ⟨y, u, rfl, e⟩
      · exact nomatch e
      · injection e with e1 _; rw [e1]
  byValue := fun k v h => by
    rcases keyIs_shape h with ⟨i, t, rfl, rfl⟩ | ⟨x, t, rfl, rfl⟩ <;> rfl
  pyHash := fun hv h => by
    rcases keyIs_shape hv with ⟨i, t, rfl, rfl⟩ | ⟨x, t, rfl, rfl⟩
    · exact wpAny_pyHash_int h
    · exact wpAny_pyHash_str h
  eqBool := fun hu hv h => by
    rcases keyIs_shape hu with ⟨i, t, rfl, rfl⟩ | ⟨x, t, rfl, rfl⟩
    · rcases keyIs_shape hv with ⟨j, u, rfl, rfl⟩ | ⟨y, u, rfl, rfl⟩
      · rw [key_ll] at h; exact wpAny_eqBool_int h
      · rw [key_lr] at h; exact SeqAt.EqAt.int_str i t y u _ _ _ _ h
    · rcases keyIs_shape hv with ⟨j, u, rfl, rfl⟩ | ⟨y, u, rfl, rfl⟩
      · rw [key_rl] at h; exact SeqAt.EqAt.str_int x t j u _ _ _ _ h
      · rw [key_rr] at h; exact wpAny_eqBool_str h
  «strs» := fun k x t v h => by
    rcases keyIs_shape h with ⟨i, u, rfl, e⟩ | ⟨y, u, rfl, e⟩
    · exact nomatch e
    · injection e with e1 _
      subst e1
      cases v <;> rfl

theorem mixKind_int (prog : Program) (w : World) (i : Int) (t : Tok) : (mixKind prog w).is (.inl i) (.int i t) = true := keyIs_int i t
theorem mixKind_str (prog : Program) (w : World) (x : Str) (t : Tok) : (mixKind prog w).is (.inr x) (.str x t) = true := keyIs_str x t
end L2

namespace L2
open PySem PySem.Spec PyProof.Rows

/-- a value, without the heap -/
inductive V where
  | non | bl (b : Bool) | int (i : Int) | str (x : Str) | byt (b : Array UInt8) | flt (b : UInt64) | ref (a : Addr) | ty (n : String)
  deriving DecidableEq

def RelV : V → Value → Prop
  | .non, u => u = Value.none
  | .bl b, u => u = Value.bool b
  | .int i, u => ∃ t, u = Value.int i t
  | .str x, u => ∃ t, u = Value.str x t
  | .byt b, u => ∃ t, u = Value.bytes b t
  | .flt b, u => ∃ t, u = Value.float b t
  | .ref a, u => u = Value.ref a
  | .ty n, u => u = Value.type n

abbrev Vals : List V → List Value → Prop := Paired RelV
theorem Vals.length {xs : List V} {us : List Value} (r : Vals xs us) : xs.length = us.length := Paired.length r
theorem Vals.get : ∀ {xs : List V} {us : List Value} {i : Nat} {x : V}, Vals xs us → xs[i]? = some x → ∃ u, us[i]? = some u ∧ RelV x u
  | _, _, _, _, .nil, e => by simp at e
  | _, _, 0, _, .cons r _, e => by simp at e; subst e; exact ⟨_, rfl, r⟩
  | _, _, i + 1, x, .cons _ t, e => by
    obtain ⟨u, h1, h2⟩ := Vals.get (i := i) (x := x) t (by simpa using e)
    exact ⟨u, by simpa using h1, h2⟩
theorem Vals.append : ∀ {xs ys : List V} {us ws : List Value}, Vals xs us → Vals ys ws → Vals (xs ++ ys) (us ++ ws)
  | _, _, _, _, .nil, s => s
  | _, _, _, _, .cons r t, s => .cons r (Vals.append t s)
theorem Vals.take : ∀ {xs : List V} {us : List Value} (n : Nat), Vals xs us → Vals (xs.take n) (us.take n)
  | _, _, 0, _ => .nil
  | _, _, _ + 1, .nil => .nil
  | _, _, n + 1, .cons r t => .cons r (Vals.take n t)
theorem Vals.drop : ∀ {xs : List V} {us : List Value} (n : Nat), Vals xs us → Vals (xs.drop n) (us.drop n)
  | _, _, 0, r => r
  | _, _, _ + 1, .nil => .nil
  | _, _, n + 1, .cons _ t => Vals.drop n t

def RelO : Option V → Option Value → Prop
  | some v, some u => RelV v u
  | none, none => True
  | _, _ => False
def KV {κ : Type} : List (κ × V) → List (κ × Value) → Prop := Paired fun (p : κ × V) (q : κ × Value) => p.1 = q.1 ∧ RelV p.2 q.2

/-- a key of a dict (00_mix): an int or a text -/
def kV : Key → V
  | .inl i => .int i
  | .inr x => .str x

/-- what stands at a tracked address -/
inductive HO where
  /-- a list -/
  | lst (xs : List V)
  /-- a tuple (never changes) -/
  | tup (xs : List V)
  /-- a dict whose keys are ints and texts; one whose keys are tuples of ints and texts (the empty one is both) -/
  | dK (kvs : List (Key × V)) | dT (kvs : List (List Key × V))
  /-- a set of ints: its members, its size -/
  | set (S : Int → Bool) (n : Nat)
  /-- an instance of the class at C, its dict at dx, its attributes -/
  | ins (C dx : Addr) (fs : List (Str × V))
  /-- the dict of the instance at x -/
  | own (x : Addr)
  /-- the dict of an exception -/
  | xd (fs : List (Str × V))
  /-- a bound method, f of x -/
  | met (f x : Addr)
  /-- a range object lo, lo + 1, .. below hi -/
  | rng (lo hi : Int)
  /-- a thing that is known to the object (the script; a dict while a loop walks it): read, never written while it is so -/
  | frz (o : Obj) (u : HO)
  /-- a code object's table -/
  | tbl (ps : Array Value)
  /-- any other thing, by what is true of its one object (a def of one's own: SetO a S n := HO.ext fun h => ..) -/
  | ext (φ : Heap → Prop)

abbrev Hp := Addr → Option HO
def upd (H : Hp) (a : Addr) (o : HO) : Hp := fun b => if b = a then some o else H b
theorem upd_same {H : Hp} {a : Addr} {o : HO} : upd H a o a = some o := by unfold upd; rw [if_pos rfl]
theorem upd_ne {H : Hp} {a b : Addr} {o : HO} (h : b ≠ a) : upd H a o b = H b := by unfold upd; rw [if_neg h]
theorem upd_upd {H : Hp} {a : Addr} {o u : HO} : upd (upd H a o) a u = upd H a u := by
  funext b; unfold upd; split <;> rfl
/-- two objects of different content stand apart -/
theorem ne_of {H : Hp} {a b : Addr} {o u : HO} (h : H a = some o) (h' : H b = some u) (d : o ≠ u) : a ≠ b := by
  intro e; subst e; rw [h] at h'; exact d (Option.some.inj h')
theorem ne_of_none {H : Hp} {a b : Addr} {o : HO} (h : H a = some o) (h' : H b = none) : a ≠ b := by
  intro e; subst e; rw [h] at h'; cases h'

section
variable (P : Program) (w : World)
def ObjOk (H : Hp) (h : Heap) (a : Addr) : HO → Prop
  | .lst xs => xs.length ≤ sizeLine ∧ ∃ (its : List Value) (n : Nat), Vals xs its ∧ h.get? a = some { cls := .type "list", data := .seq its.toArray n }
  | .tup xs => xs.length ≤ sizeLine ∧ ∃ its : List Value, Vals xs its ∧ IsTup h a its.toArray
  | .dK kvs => kvs.length ≤ sizeLine ∧ (a == sysModules) = false ∧ ∃ vs, KV kvs vs ∧ h.DictOf (mixKind P w) a vs
  | .dT kvs => kvs.length ≤ sizeLine ∧ (a == sysModules) = false ∧ ∃ xs : List (List Key × Addr × Value),
      Paired (fun (p : List Key × V) (q : List Key × Addr × Value) => p.1 = q.1 ∧ H q.2.1 = some (.tup (p.1.map kV)) ∧ RelV p.2 q.2.2) kvs xs ∧
      ∃ o es ep, h.get? a = some o ∧ o.ExactDict ∧ o.data = .dict es ep ∧ es.toList = xs.map (entryOfKey (tupleKind (mixKind P w))) ∧ (xs.map (·.1)).Nodup
  | .set S n => h.SetOf (intKind P w) a S n
  | .ins C dx fs => H dx = some (.own a) ∧ fs.length ≤ 1000 ∧ dx ≠ a ∧ h.get? a = some (PySem.W.instObj C dx) ∧
      ∃ mA, h.Ns1 dx mA ∧ (∀ f, RelO (fs.lookup f) (mA f)) ∧ PySem.Within mA (fs.map (·.1))
  | .own _ => ∃ o, h.get? a = some o
  | .xd fs => ∃ mA, h.Ns1 a mA ∧ ∀ f, RelO (fs.lookup f) (mA f)
  | .rng lo hi => ∃ t u v, h.get? a = some { cls := .type "range", data := .fields #[.int lo t, .int hi u, .int 1 v] }
  | .frz o u => h.get? a = some o ∧ ObjOk H h a u
  | .tbl ps => h.get? a = some { cls := .none, data := .fields ps }
  | .met f x => h.get? a = some (PySem.W.methodObj (.ref f) (.ref x))
  | .ext φ => φ h ∧ (∃ o, h.get? a = some o) ∧ ∀ h1 h2 : Heap, φ h1 → (∀ o, h1.get? a = some o → h2.get? a = some o) → φ h2
/-- the abstract heap is held -/
def HOk (H : Hp) (h : Heap) : Prop := ∀ a o, H a = some o → ObjOk P w H h a o
end

section
variable {P : Program} {w : World} {H H' : Hp} {h h' : Heap} {a : Addr} {o : HO}
theorem ObjOk.lt (x : ObjOk P w H h a o) : a < h.objs.size := by
  cases o with
  | lst xs => obtain ⟨_, _, _, _, e⟩ := x; exact Heap.lt_size e
  | tup xs => obtain ⟨_, _, _, p⟩ := x; exact p.lt
  | dK kvs => obtain ⟨_, _, _, _, o, _, _, e, _⟩ := x; exact Heap.lt_size e
  | dT kvs => obtain ⟨_, _, _, _, o, _, _, e, _⟩ := x; exact Heap.lt_size e
  | set S n => obtain ⟨o, _, _, _, e, _⟩ := x; exact Heap.lt_size e
  | ins C dx fs => obtain ⟨_, _, _, e, _⟩ := x; exact Heap.lt_size e
  | own y => obtain ⟨_, e⟩ := x; exact Heap.lt_size e
  | xd fs => obtain ⟨_, ⟨_, _, _, e, _⟩, _⟩ := x; exact Heap.lt_size e
  | rng lo hi => obtain ⟨_, _, _, e⟩ := x; exact Heap.lt_size e
  | frz ob u => obtain ⟨e, _⟩ := x; exact Heap.lt_size e
  | tbl ps => exact Heap.lt_size (show h.get? a = some _ from x)
  | met f y => exact Heap.lt_size (show h.get? a = some _ from x)
  | ext φ => obtain ⟨_, ⟨_, e⟩, _⟩ := x; exact Heap.lt_size e
theorem Paired.mapP {α β : Type} {F G : α → β → Prop} : ∀ {l₁ : List α} {l₂ : List β}, Paired F l₁ l₂ → (∀ a b, F a b → G a b) → Paired G l₁ l₂
  | _, _, .nil, _ => .nil
  | _, _, .cons r t, f => .cons (f _ _ r) (Paired.mapP t f)
/-- what an object's description leans on: its own object, its own dict, the tuples -/
theorem ObjOk.stay (x : ObjOk P w H h a o) (k : ∀ b u, (b = a ∨ H b = some (.own a)) → h.get? b = some u → h'.get? b = some u)
    (ho : ∀ b, H b = some (.own a) → H' b = some (.own a)) (ht : ∀ b xs, H b = some (.tup xs) → H' b = some (.tup xs)) : ObjOk P w H' h' a o := by
  induction o with
  | lst xs => obtain ⟨z, its, n, r, e⟩ := x; exact ⟨z, its, n, r, k _ _ (.inl rfl) e⟩
  | tup xs => obtain ⟨z, its, r, ob, e, c⟩ := x; exact ⟨z, its, r, ob, k _ _ (.inl rfl) e, c⟩
  | dK kvs => obtain ⟨z, y, vs, r, ob, es, ep, e, c⟩ := x; exact ⟨z, y, vs, r, ob, es, ep, k _ _ (.inl rfl) e, c⟩
  | dT kvs =>
    obtain ⟨z, y, xs, r, ob, es, ep, e, c⟩ := x
    exact ⟨z, y, xs, Paired.mapP r fun p q z => ⟨z.1, ht _ _ z.2.1, z.2.2⟩, ob, es, ep, k _ _ (.inl rfl) e, c⟩
  | set S n => obtain ⟨ob, es, ep, t, e, c⟩ := x; exact ⟨ob, es, ep, t, k _ _ (.inl rfl) e, c⟩
  | ins C dx fs =>
    obtain ⟨d, z, ne, e, mA, ⟨od, es, ep, e2, c⟩, r⟩ := x
    exact ⟨ho _ d, z, ne, k _ _ (.inl rfl) e, mA, ⟨od, es, ep, k _ _ (.inr d) e2, c⟩, r⟩
  | own y => obtain ⟨ob, e⟩ := x; exact ⟨ob, k _ _ (.inl rfl) e⟩
  | xd fs => obtain ⟨mA, ⟨od, es, ep, e, c⟩, r⟩ := x; exact ⟨mA, ⟨od, es, ep, k _ _ (.inl rfl) e, c⟩, r⟩
  | rng lo hi => obtain ⟨t, u, v, e⟩ := x; exact ⟨t, u, v, k _ _ (.inl rfl) e⟩
  | frz ob u ih => obtain ⟨e, q⟩ := x; exact ⟨k _ _ (.inl rfl) e, ih q⟩
  | tbl ps =>
    have e : h.get? a = some { cls := .none, data := .fields ps } := x
    show h'.get? a = some { cls := .none, data := .fields ps }
    exact k a _ (.inl rfl) e
  | met f y =>
    have e : h.get? a = some (PySem.W.methodObj (.ref f) (.ref y)) := x
    show h'.get? a = some (PySem.W.methodObj (.ref f) (.ref y))
    exact k a _ (.inl rfl) e
  | ext φ => obtain ⟨p, ⟨o, e⟩, st⟩ := x; exact ⟨st _ _ p fun o q => k _ _ (.inl rfl) q, ⟨o, k _ _ (.inl rfl) e⟩, st⟩
theorem HOk.lt (x : HOk P w H h) (e : H a = some o) : a < h.objs.size := (x a o e).lt
theorem HOk.fresh (x : HOk P w H h) (e : h.objs.size ≤ a) : H a = none := by
  cases q : H a with
  | none => rfl
  | some u => exact absurd (Nat.lt_of_lt_of_le (x.lt q) e) (Nat.lt_irrefl _)
/-- every object of the heap is kept -/
theorem HOk.kept (x : HOk P w H h) (k : ∀ b u, h.get? b = some u → h'.get? b = some u) : HOk P w H h' := fun a o e =>
  (x a o e).stay (fun b u _ q => k b u q) (fun _ q => q) fun _ _ q => q
/-- a new object is laid and tracked -/
theorem HOk.laid (x : HOk P w H h) (k : ∀ b u, h.get? b = some u → h'.get? b = some u) (hp : h.objs.size ≤ a) (new : ObjOk P w (upd H a o) h' a o) : HOk P w (upd H a o) h' := fun b u e => by
  have hn := x.fresh hp
  by_cases hb : b = a
  · subst hb; rw [upd_same] at e; cases e; exact new
  · rw [upd_ne hb] at e
    exact (x b u e).stay (fun c v _ q => k c v q) (fun c q => by rw [upd_ne (ne_of_none q hn)]; exact q) fun c xs q => by rw [upd_ne (ne_of_none q hn)]; exact q
end

/-- what may be read as u: it is u, or a known u -/
def Rd (H : Hp) (a : Addr) (u : HO) : Prop := H a = some u ∨ ∃ o, H a = some (.frz o u)
theorem Rd.ok {P : Program} {w : World} {H : Hp} {h : Heap} {a : Addr} {u : HO} (r : Rd H a u) (x : HOk P w H h) : ObjOk P w H h a u := by
  rcases r with r | ⟨o, r⟩
  · exact x a u r
  · obtain ⟨_, q⟩ := x a _ r
    exact q
/-- what may be written -/
def Mut : Option HO → Prop
  | some (.lst _) => True
  | some (.dK _) => True
  | some (.dT _) => True
  | some (.set _ _) => True
  | some (.ins _ _ _) => True
  | some (.ext _) => True
  | _ => False
section
variable {P : Program} {w : World} {H : Hp} {h h' : Heap} {x e : Addr} {o' : HO}
/-- the object at e is changed: x itself, or the dict of the instance x -/
theorem HOk.write (ok : HOk P w H h) (mu : Mut (H x)) (he : e = x ∨ H e = some (.own x)) (k : ∀ b u, b ≠ e → h.get? b = some u → h'.get? b = some u) (heo : ∃ u, h'.get? e = some u)
    (new : ObjOk P w (upd H x o') h' x o') : HOk P w (upd H x o') h' := fun b u q => by
  have nown : ∀ c y, H c = some (.own y) → c ≠ x := fun c y r z => by subst z; rw [r] at mu; exact mu
  have ntup : ∀ c xs, H c = some (.tup xs) → c ≠ x := fun c xs r z => by subst z; rw [r] at mu; exact mu
  by_cases hb : b = x
  · subst hb; rw [upd_same] at q; cases q; exact new
  · rw [upd_ne hb] at q
    by_cases hbe : b = e
    · have q' : H b = some (.own x) := by
        rcases he with z | z
        · exact absurd (hbe.trans z) hb
        · rw [hbe]; exact z
      rw [q] at q'; cases q'
      obtain ⟨v, hv⟩ := heo
      exact ⟨v, by rw [hbe]; exact hv⟩
    · refine (ok b u q).stay (fun c v hc r => k c v ?_ r) (fun c r => by rw [upd_ne (nown c b r)]; exact r) fun c xs r => by rw [upd_ne (ntup c xs r)]; exact r
      rcases hc with rfl | hc
      · exact hbe
      · rintro rfl
        rcases he with z | z
        · exact nown c b hc z
        · rw [hc] at z; cases z; exact hb rfl
end

/-! ### kept unless tracked; of the frames at fs (the callers') the slots may change (an exception that passes writes there); of the records at ex (iterators) nothing is said -/
structure Un (fs ex : List Addr) (H H' : Hp) (h h' : Heap) : Prop where
  keep : ∀ b o, h.get? b = some o → H b = none → b ∉ fs → b ∉ ex → h'.get? b = some o
  slot : ∀ b o, h.get? b = some o → H b = none → b ∈ fs → b ∉ ex → ∃ sl, h'.get? b = some { o with slots := sl }
  free : ∀ b o, h.get? b = some o → H b = none → b ∉ ex → H' b = none
  there : ∀ b o, h.get? b = some o → b ∉ ex → ∃ o', h'.get? b = some o'
  tups : ∀ b xs, H b = some (.tup xs) → H' b = some (.tup xs)
  frzs : ∀ b o u, H b = some (.frz o u) → H' b = some (.frz o u)
  tbls : ∀ b ps, H b = some (.tbl ps) → ∃ more, H' b = some (.tbl (ps ++ more))
section
variable {fs fs' ex ex' : List Addr} {H H1 H2 : Hp} {h h1 h2 h' : Heap} {a x e : Addr} {o : HO}
theorem Un.any (u : Un fs ex H H1 h h1) {b : Addr} {ob : Obj} (q : h.get? b = some ob) (n : H b = none) (hx : b ∉ ex) : ∃ sl, h1.get? b = some { ob with slots := sl } := by
  by_cases hb : b ∈ fs
  · exact u.slot b ob q n hb hx
  · exact ⟨ob.slots, u.keep b ob q n hb hx⟩
theorem Un.kept (k : ∀ b u, h.get? b = some u → h'.get? b = some u) : Un fs ex H H h h' :=
  ⟨fun b ob q _ _ _ => k b ob q, fun b ob q _ _ _ => ⟨ob.slots, k b ob q⟩, fun _ _ _ n _ => n, fun b ob q _ => ⟨ob, k b ob q⟩, fun _ _ q => q, fun _ _ _ q => q, fun _ ps q => ⟨#[], by rw [q]; simp⟩⟩
theorem Un.refl : Un fs ex H H h h := Un.kept fun _ _ q => q
theorem Un.laid (k : ∀ b u, h.get? b = some u → h'.get? b = some u) (hp : h.objs.size ≤ a) (hn : H a = none) : Un fs ex H (upd H a o) h h' where
  keep := fun b u q _ _ _ => k b u q
  slot := fun b u q _ _ _ => ⟨u.slots, k b u q⟩
  free := fun b u q n _ => by rw [upd_ne (Nat.ne_of_lt (Nat.lt_of_lt_of_le (Heap.lt_size q) hp))]; exact n
  there := fun b u q _ => ⟨u, k b u q⟩
  tups := fun b xs q => by rw [upd_ne (ne_of_none q hn)]; exact q
  frzs := fun b u xs q => by rw [upd_ne (ne_of_none q hn)]; exact q
  tbls := fun b ps q => ⟨#[], by rw [upd_ne (ne_of_none q hn), q]; simp⟩
theorem Un.write (mu : Mut (H x)) (he : e = x ∨ H e = some (.own x)) (k : ∀ b u, b ≠ e → h.get? b = some u → h'.get? b = some u) (heo : ∃ u, h'.get? e = some u) : Un fs ex H (upd H x o) h h' := by
  have hx : ∀ b, H b = none → b ≠ x := fun b n z => by subst z; rw [n] at mu; exact mu
  have hb : ∀ b, H b = none → b ≠ e := fun b n z => by
    subst z
    rcases he with r | r
    · exact hx b n r
    · rw [n] at r; cases r
  have hm : ∀ b u, H b = some u → ¬ Mut (some u) → b ≠ x := fun b u q nm z => by subst z; rw [q] at mu; exact nm mu
  refine ⟨fun b u q n _ _ => k b u (hb b n) q, fun b u q n _ _ => ⟨u.slots, k b u (hb b n) q⟩, fun b u q n _ => by rw [upd_ne (hx b n)]; exact n, fun b u q _ => ?_,
    fun b xs q => by rw [upd_ne (hm b _ q fun z => z)]; exact q, fun b u xs q => by rw [upd_ne (hm b _ q fun z => z)]; exact q, fun b ps q => ⟨#[], by rw [upd_ne (hm b _ q fun z => z), q]; simp⟩⟩
  by_cases hbe : b = e
  · subst hbe; exact heo
  · exact ⟨u, k b u hbe q⟩
end

/-! ### the heap without what is tracked -/
def trk (h : Heap) (H : Hp) : List Addr := (List.range h.objs.size).filter fun a => (H a).isSome
def hidT (h : Heap) (H : Hp) : Heap := PySem.W.hideAll h (trk h H)
theorem hidT_size (h : Heap) (H : Hp) : (hidT h H).objs.size = h.objs.size := PySem.W.hideAll_size _ _
theorem hidT_get {h : Heap} {H : Hp} {b : Addr} {o : Obj} (e : h.get? b = some o) (n : H b = none) : (hidT h H).get? b = some o :=
  PySem.W.hideAll_get _ e fun hm => by
    have q : (H b).isSome = true := (List.mem_filter.mp hm).2
    rw [n] at q; simp at q
theorem of_hidT {h : Heap} {H : Hp} {b : Addr} {o : Obj} (e : (hidT h H).get? b = some o) : h.get? b = some o ∧ H b = none := by
  have e' : h.get? b = some o := PySem.W.of_hideAll (trk h H) e
  refine ⟨e', ?_⟩
  cases q : H b with
  | none => rfl
  | some x =>
    have hm : b ∈ trk h H := List.mem_filter.mpr ⟨List.mem_range.mpr (Heap.lt_size e'), by simp [q]⟩
    have z : (hidT h H).get? b = none := PySem.W.hideAll_none (trk h H) hm
    rw [z] at e; cases e

/-! ### OpenK's ledger, filled with every new object but one -/
end L2

namespace L2
open PySem PySem.Spec PyProof.Rows

/-- the module's facts, over the base: the heap at the law's entry without what is tracked there -/
structure Mod (K : PySem.W.Frag) (mg : Str → Option Value) (base : Heap) : Prop where
  kin : K.In base
  glob : base.Ns mainGlobals mg
  blt : ∃ mb, base.Ns builtinsNs mb ∧ ∀ x : Str, x ≠ "__name__" → mb x = bootBuiltins x
  nolimit : base.NoLimit

/-- the context: a def's body (or a comprehension's block) running. base: fixed through the whole law; s₀, H₀: the entry; outer: the frames whose slots others may change (a def's callers); stack: all frames that run;
   ex: iterators that were made ahead of the entry and are walked here (a comprehension's); fn: the names whose cells were made at the entry (a def: all; a comprehension's block: its own); calm: not within an except suite; pn: pins that every state bears; xe: what is wanted of an exception that leaves the code -/
structure Cx where
  prog : Program
  w : World
  K : PySem.W.Frag
  mg : Str → Option Value
  base : Heap
  A : Around
  N : List Str
  s_0 : Shared
  H_0 : Hp
  env : Env
  outer : List Env
  stack : List Env
  ex : List Addr
  fn : Str → Bool
  calm : Bool
  pn : List (Addr × Obj)
  xe : Value → Shared → Prop
/-- the callers' frames -/
def frs (l : List Env) : List Addr := l.filterMap (·.frame)
abbrev Cx.fs (X : Cx) : List Addr := frs X.outer

def Vis (sc : Scope) (x : Str) : Prop := sc.names.lookup x = some .local ∨ sc.names.lookup x = some .cell ∨ sc.names.lookup x = some .free
def Loc (sc : Scope) (x : Str) : Prop := sc.names.lookup x = some .local ∨ sc.names.lookup x = some .cell
def Look (env : Env) (h : Heap) (m : Str → Option Value) (x : Str) (u : Value) : Prop :=
  (env.kindOf x = some .local ∧ m x = some u) ∨ ((env.kindOf x = some .cell ∨ env.kindOf x = some .free) ∧ ∃ c, env.cells.lookup x = some c ∧ h.IsCell c (some u))

structure Cx.Ok (X : Cx) : Prop where
  mod : Mod X.K X.mg X.base
  kind : X.env.scope.kind = .function
  glob : X.env.globals = mainGlobals
  blt : X.env.builtins = builtinsNs
  above : X.s_0.heap.objs.size ≤ X.env.locals
  inj : ∀ x y c, X.env.cells.lookup x = some c → X.env.cells.lookup y = some c → x = y
  has : ∀ x, (X.env.kindOf x = some .cell ∨ X.env.kindOf x = some .free) → ∃ c, X.env.cells.lookup x = some c
  cab : ∀ x c, X.fn x = true → X.env.cells.lookup x = some c → X.s_0.heap.objs.size ≤ c
  hd : X.calm = true → X.A.handled = none
  frames : X.A.frames = some X.stack
  stk : X.stack = X.outer ∨ (X.stack = X.env :: X.outer ∧ X.env.frame = some X.env.locals)
  exf : ∀ b ∈ X.ex, b ≠ X.env.locals ∧ ∀ x c, X.env.cells.lookup x = some c → c ≠ b
  bs : ∀ b o, X.base.get? b = some o → X.s_0.heap.get? b = some o ∧ X.H_0 b = none
  bsz : X.base.objs.size ≤ X.s_0.heap.objs.size
  noex : ∀ b o, X.base.get? b = some o → b ∉ X.ex
  exfs : ∀ b ∈ X.ex, b ∉ X.fs
  funs : X.s_0.heap.FunFrames X.base X.outer
  frf : ∀ b ∈ X.fs, X.H_0 b = none

structure Inv (X : Cx) (pins : List (Addr × Obj)) (σ : List (Option V)) (H : Hp) (s : Shared) : Prop where
  ok : X.Ok
  os : s.os = X.s_0.os
  bare : AllBare s.gens
  base : Un X.fs X.ex X.H_0 H X.s_0.heap s.heap
  loc : ∃ m, s.heap.Ns X.env.locals m ∧ ∀ (i : Nat) (x : Str) (v : V), X.N[i]? = some x → σ[i]? = some (some v) → Vis X.env.scope x → ∃ u, RelV v u ∧ Look X.env s.heap m x u
  cell : ∀ x c, X.env.cells.lookup x = some c → ∃ v, s.heap.IsCell c v
  free : H X.env.locals = none
  freeC : ∀ x c, X.env.cells.lookup x = some c → H c = none
  pin : ∀ p ∈ X.pn ++ pins, s.heap.get? p.1 = some p.2 ∧ H p.1 = none ∧ p.1 ≠ X.env.locals ∧ p.1 ∉ X.fs ∧ ∀ v, p.2.data ≠ .cell v
  hok : HOk X.prog X.w H s.heap
  len : σ.length = X.N.length

section
variable {X : Cx} {pins : List (Addr × Obj)} {σ : List (Option V)} {H H' : Hp} {s : Shared} {h' : Heap}

theorem Cx.Ok.nofr (ok : X.Ok) {b : Addr} {o : Obj} (e : X.base.get? b = some o) : b ∉ X.fs := fun hb => by
  have := (ok.funs.mem hb).1
  rw [e] at this; cases this
theorem Inv.bs (I : Inv X pins σ H s) : ∀ b o, X.base.get? b = some o → s.heap.get? b = some o ∧ H b = none := fun b o e =>
  ⟨I.base.keep b o (I.ok.bs b o e).1 (I.ok.bs b o e).2 (I.ok.nofr e) (I.ok.noex b o e), I.base.free b o (I.ok.bs b o e).1 (I.ok.bs b o e).2 (I.ok.noex b o e)⟩
theorem Inv.bk (I : Inv X pins σ H s) : ∀ b o, X.base.get? b = some o → s.heap.get? b = some o := fun b o e => (I.bs b o e).1
theorem Inv.mod (I : Inv X pins σ H s) : Mod X.K X.mg X.base := I.ok.mod
theorem Inv.kIn (I : Inv X pins σ H s) : X.K.In s.heap := I.ok.mod.kin.keeps I.bk
theorem Inv.lt (I : Inv X pins σ H s) : X.env.locals < s.heap.objs.size := let ⟨_, hn, _⟩ := I.loc; hn.lt
theorem Inv.sz (I : Inv X pins σ H s) : X.s_0.heap.objs.size ≤ s.heap.objs.size := Nat.le_trans I.ok.above (Nat.le_of_lt I.lt)
theorem Inv.nofs (I : Inv X pins σ H s) {a : Addr} (h : s.heap.objs.size ≤ a) : a ∉ X.fs := fun hb => by
  obtain ⟨_, o, ho, _⟩ := I.ok.funs.mem hb
  exact absurd (Nat.lt_of_lt_of_le (Heap.lt_size ho) (Nat.le_trans I.sz h)) (Nat.lt_irrefl _)
theorem Inv.cne (I : Inv X pins σ H s) : ∀ x c, X.env.cells.lookup x = some c → c ≠ X.env.locals := fun x c e z => by
  obtain ⟨v, o, ho, hd⟩ := I.cell x c e
  obtain ⟨m, ⟨o', es, ep, ho', hd', _⟩, _⟩ := I.loc
  rw [z, ho'] at ho; cases ho; rw [hd'] at hd; cases hd
theorem Inv.funs (I : Inv X pins σ H s) : s.heap.FunFrames X.base X.outer := by
  have all : ∀ (l : List Env), (∀ b ∈ frs l, b ∈ X.fs) → X.s_0.heap.FunFrames X.base l → s.heap.FunFrames X.base l := by
    intro l
    induction l with
    | nil => intro _ _; trivial
    | cons env r ih =>
      intro hs hl
      obtain ⟨hk, ⟨L, o, hf, hn, ho, hd⟩, hr⟩ := hl
      have hL : L ∈ X.fs := hs L (by unfold frs; rw [List.filterMap_cons, hf]; exact List.mem_cons_self)
      obtain ⟨sl, e⟩ := I.base.slot L o ho (I.ok.frf L hL) hL fun z => I.ok.exfs L z hL
      exact ⟨hk, ⟨L, _, hf, hn, e, hd⟩, ih (fun b hb => hs b (by unfold frs; rw [List.filterMap_cons, hf]; exact List.mem_cons_of_mem _ hb)) hr⟩
  exact all X.outer (fun _ hb => hb) I.ok.funs

/-- the frames that run, for a call -/
theorem Inv.stack (I : Inv X pins σ H s) : s.heap.FunFrames X.base X.stack := by
  rcases I.ok.stk with e | ⟨e, hf⟩
  · rw [e]; exact I.funs
  · rw [e]
    obtain ⟨m, hn, _⟩ := I.loc
    refine .cons (by rw [I.ok.kind]; decide) hf hn ?_ I.funs
    exact Heap.get?_none_of_le (Nat.le_trans I.ok.bsz I.ok.above)
theorem Inv.stkSub (I : Inv X pins σ H s) : ∀ b ∈ frs X.stack, b ∈ X.env.locals :: X.fs := fun b hb => by
  rcases I.ok.stk with e | ⟨e, hf⟩
  · rw [e] at hb; exact List.mem_cons_of_mem _ hb
  · rw [e] at hb
    unfold frs at hb
    rw [List.filterMap_cons, hf] at hb
    exact hb
theorem Inv.stkFree (I : Inv X pins σ H s) : ∀ b ∈ frs X.stack, H b = none := fun b hb => by
  rcases List.mem_cons.mp (I.stkSub b hb) with e | hb
  · rw [e]; exact I.free
  · obtain ⟨_, o, ho, _⟩ := I.ok.funs.mem hb
    exact I.base.free b o ho (I.ok.frf b hb) fun z => I.ok.exfs b z hb

/-- THE STEP: the untracked objects but the frame and the records at ch are kept (the callers' frames up to slots), the frame's map is kept, the new abstract heap is held -/
theorem Inv.step {g' : Array GenState} {t' : Nat} {d' : Drawn} {ch : List Addr} (I : Inv X pins σ H s)
    (hch : ∀ b ∈ ch, (b ∈ X.ex ∨ X.s_0.heap.objs.size ≤ b) ∧ b ≠ X.env.locals ∧ (∀ x c, X.env.cells.lookup x = some c → c ≠ b) ∧ ∀ p ∈ X.pn ++ pins, p.1 ≠ b)
    (keep : ∀ b o, b ≠ X.env.locals → b ∉ X.fs → b ∉ ch → s.heap.get? b = some o → H b = none → h'.get? b = some o)
    (slot : ∀ b o, b ≠ X.env.locals → b ∈ X.fs → b ∉ ch → s.heap.get? b = some o → H b = none → ∃ sl, h'.get? b = some { o with slots := sl }) (free : ∀ b o, b ∉ ch → s.heap.get? b = some o → H b = none → H' b = none)
    (there : ∀ b o, b ∉ ch → s.heap.get? b = some o → ∃ o', h'.get? b = some o')
    (tups : ∀ b xs, H b = some (.tup xs) → H' b = some (.tup xs)) (frzs : ∀ b o u, H b = some (.frz o u) → H' b = some (.frz o u)) (tbls : ∀ b ps, H b = some (.tbl ps) → ∃ more, H' b = some (.tbl (ps ++ more)))
    (ns : ∀ m, s.heap.Ns X.env.locals m → h'.Ns X.env.locals m) (hok : HOk X.prog X.w H' h') (hg : AllBare g') :
    Inv X pins σ H' { s with heap := h', gens := g', drawn := d', toks := t' } := by
  have neL : ∀ b o, X.s_0.heap.get? b = some o → b ≠ X.env.locals := fun b o e => Nat.ne_of_lt (Nat.lt_of_lt_of_le (Heap.lt_size e) I.ok.above)
  have neC : ∀ b o, X.s_0.heap.get? b = some o → b ∉ X.ex → b ∉ ch := fun b o e hx hb => by
    rcases (hch b hb).1 with z | z
    · exact hx z
    · exact absurd (Nat.lt_of_lt_of_le (Heap.lt_size e) z) (Nat.lt_irrefl _)
  have cellK : ∀ x c, X.env.cells.lookup x = some c → ∀ v, s.heap.IsCell c v → h'.IsCell c v := fun x c e v ⟨o, ho, hd⟩ => by
    have nch : c ∉ ch := fun z => (hch c z).2.2.1 x c e rfl
    by_cases hc : c ∈ X.fs
    · obtain ⟨sl, q⟩ := slot c o (I.cne x c e) hc nch ho (I.freeC x c e)
      exact ⟨_, q, hd⟩
    · exact ⟨o, keep c o (I.cne x c e) hc nch ho (I.freeC x c e), hd⟩
  refine ⟨I.ok, I.os, hg, ⟨fun b o e n hb hx => ?_, fun b o e n hb hx => ?_, fun b o e n hx => ?_, fun b o e hx => ?_, fun b xs e => tups b xs (I.base.tups b xs e), fun b o xs e => frzs b o xs (I.base.frzs b o xs e), fun b ps e => ?_⟩, ?_, fun x c e => ?_, ?_, fun x c e => ?_, fun p hp => ?_, hok, I.len⟩
  · exact keep b o (neL b o e) hb (neC b o e hx) (I.base.keep b o e n hb hx) (I.base.free b o e n hx)
  · obtain ⟨sl, e1⟩ := I.base.slot b o e n hb hx
    obtain ⟨sl', e2⟩ := slot b _ (neL b o e) hb (neC b o e hx) e1 (I.base.free b o e n hx)
    exact ⟨sl', e2⟩
  · obtain ⟨o', e1⟩ := I.base.there b o e hx
    exact free b o' (neC b o e hx) e1 (I.base.free b o e n hx)
  · obtain ⟨o', e1⟩ := I.base.there b o e hx
    exact there b o' (neC b o e hx) e1
  · obtain ⟨m1, e1⟩ := I.base.tbls b ps e
    obtain ⟨m2, e2⟩ := tbls b _ e1
    exact ⟨m1 ++ m2, by rw [e2, Array.append_assoc]⟩
  · obtain ⟨m, hn, hl⟩ := I.loc
    refine ⟨m, ns m hn, fun i x v e1 e2 e3 => ?_⟩
    obtain ⟨u, r, l⟩ := hl i x v e1 e2 e3
    refine ⟨u, r, ?_⟩
    rcases l with l | ⟨k, c, e, z⟩
    · exact .inl l
    · exact .inr ⟨k, c, e, cellK x c e _ z⟩
  · obtain ⟨v, z⟩ := I.cell x c e
    exact ⟨v, cellK x c e v z⟩
  · obtain ⟨m, ⟨o, _, _, ho, _⟩, _⟩ := I.loc
    exact free _ o (fun z => (hch _ z).2.1 rfl) ho I.free
  · obtain ⟨v, o, ho, hd⟩ := I.cell x c e
    exact free c o (fun z => (hch c z).2.2.1 x c e rfl) ho (I.freeC x c e)
  · obtain ⟨e, n, ne, nf, d⟩ := I.pin p hp
    have nch : p.1 ∉ ch := fun z => (hch p.1 z).2.2.2 p hp rfl
    exact ⟨keep p.1 p.2 ne nf nch e n, free p.1 p.2 nch e n, ne, nf, d⟩
/-- .. where the frame's own object is kept too -/
theorem Inv.un {t' : Nat} (I : Inv X pins σ H s) (u : Un X.fs [] H H' s.heap h') (hok : HOk X.prog X.w H' h') : Inv X pins σ H' { s with heap := h', toks := t' } := by
  obtain ⟨m, ⟨o, es, ep, ho, r⟩, _⟩ := id I.loc
  obtain ⟨sl, hL⟩ := u.any ho I.free (by simp)
  exact I.step (g' := s.gens) (d' := s.drawn) (ch := []) (fun _ z => nomatch z) (fun b o _ hb _ e n => u.keep b o e n hb (by simp)) (fun b o _ hb _ e n => u.slot b o e n hb (by simp)) (fun b o _ e n => u.free b o e n (by simp)) (fun b o _ e => u.there b o e (by simp)) u.tups u.frzs u.tbls (fun m' hm => by
    obtain ⟨o', es', ep', ho', r'⟩ := hm
    rw [ho] at ho'; cases ho'
    exact ⟨_, es', ep', hL, r'⟩) hok I.bare
/-- behind a call (or a comprehension's block): the slots of this frame may have changed too, the records at ch may have turned -/
theorem Inv.call {g' : Array GenState} {t' : Nat} {d' : Drawn} {ch : List Addr} (I : Inv X pins σ H s) (u : Un (frs X.stack) ch H H' s.heap h') (hok : HOk X.prog X.w H' h') (hg : AllBare g')
    (hch : ∀ b ∈ ch, (b ∈ X.ex ∨ X.s_0.heap.objs.size ≤ b) ∧ b ≠ X.env.locals ∧ (∀ x c, X.env.cells.lookup x = some c → c ≠ b) ∧ ∀ p ∈ X.pn ++ pins, p.1 ≠ b) :
    Inv X pins σ H' { s with heap := h', gens := g', drawn := d', toks := t' } := by
  obtain ⟨m, ⟨o, es, ep, ho, r⟩, _⟩ := id I.loc
  obtain ⟨sl, hL⟩ := u.any ho I.free fun z => (hch _ z).2.1 rfl
  exact I.step (ch := ch) hch (fun b o hL hb hc e n => u.keep b o e n (fun z => (List.mem_cons.mp (I.stkSub b z)).elim hL hb) hc) (fun b o _ _ hc e n => u.any e n hc) (fun b o hc e n => u.free b o e n hc) (fun b o hc e => u.there b o e hc) u.tups u.frzs u.tbls (fun m' hm => by
    obtain ⟨o', es', ep', ho', r'⟩ := hm
    rw [ho] at ho'; cases ho'
    exact ⟨_, es', ep', hL, r'⟩) hok hg
/-- an untracked record of ours (an iterator) has turned -/
theorem Inv.turned {t' : Nat} {it : Addr} (I : Inv X pins σ H s) (k : ∀ b o, b ≠ it → s.heap.get? b = some o → h'.get? b = some o) (hn : H it = none) (hL : it ≠ X.env.locals)
    (h1 : it ∈ X.ex ∨ X.s_0.heap.objs.size ≤ it) (h2 : ∀ x c, X.env.cells.lookup x = some c → c ≠ it) (h3 : ∀ p ∈ X.pn ++ pins, p.1 ≠ it) : Inv X pins σ H { s with heap := h', toks := t' } := by
  have nit : ∀ b u, H b = some u → b ≠ it := fun b u e z => by rw [z, hn] at e; cases e
  refine I.step (g' := s.gens) (d' := s.drawn) (ch := [it]) (fun b hb => ?_) (fun b o _ _ hc e _ => k b o (fun z => hc (by simp [z])) e) (fun b o _ _ hc e _ => ⟨o.slots, k b o (fun z => hc (by simp [z])) e⟩) (fun _ _ _ _ n => n)
    (fun b o hc e => ⟨o, k b o (fun z => hc (by simp [z])) e⟩) (fun _ _ e => e) (fun _ _ _ e => e) (fun b ps e => ⟨#[], by rw [e]; simp⟩) (fun m hm => ?_) (fun b u e => ?_) I.bare
  · have e : b = it := by simpa using hb
    subst e
    exact ⟨h1, hL, h2, h3⟩
  · obtain ⟨o, es, ep, ho, r⟩ := hm
    exact ⟨o, es, ep, k _ o (Ne.symm hL) ho, r⟩
  · refine (I.hok b u e).stay (fun c v hc q => k c v ?_ q) (fun _ q => q) fun _ _ q => q
    rcases hc with z | z
    · rw [z]; exact nit b u e
    · exact nit c _ z
theorem Inv.tok (I : Inv X pins σ H s) (t : Nat) : Inv X pins σ H { s with toks := t } := I.un (h' := s.heap) (t' := t) Un.refl I.hok
/-- all objects kept -/
theorem Inv.kept {t' : Nat} (I : Inv X pins σ H s) (k : ∀ b u, s.heap.get? b = some u → h'.get? b = some u) : Inv X pins σ H { s with heap := h', toks := t' } := I.un (Un.kept k) (I.hok.kept k)
/-- a new object laid and tracked -/
theorem Inv.laid {a : Addr} {o : HO} {t' : Nat} (I : Inv X pins σ H s) (k : ∀ b u, s.heap.get? b = some u → h'.get? b = some u) (hp : s.heap.objs.size ≤ a) (new : ObjOk X.prog X.w (upd H a o) h' a o) :
    Inv X pins σ (upd H a o) { s with heap := h', toks := t' } := I.un (Un.laid k hp (I.hok.fresh hp)) (I.hok.laid k hp new)
/-- an object written -/
theorem Inv.write {x e : Addr} {o : HO} {t' : Nat} (I : Inv X pins σ H s) (mu : Mut (H x)) (he : e = x ∨ H e = some (.own x)) (k : ∀ b u, b ≠ e → s.heap.get? b = some u → h'.get? b = some u) (heo : ∃ u, h'.get? e = some u)
    (new : ObjOk X.prog X.w (upd H x o) h' x o) : Inv X pins σ (upd H x o) { s with heap := h', toks := t' } := I.un (Un.write mu he k heo) (I.hok.write mu he k heo new)
/-- forgetting slots, pins -/
theorem Inv.weak {σ' : List (Option V)} (I : Inv X pins σ H s) (hl : σ'.length = σ.length) (w : ∀ (i : Nat) v, σ'[i]? = some (some v) → σ[i]? = some (some v)) : Inv X pins σ' H s :=
  ⟨I.ok, I.os, I.bare, I.base, let ⟨m, hn, hl'⟩ := I.loc; ⟨m, hn, fun i x v e1 e2 e3 => hl' i x v e1 (w i v e2) e3⟩, I.cell, I.free, I.freeC, I.pin, I.hok, hl.trans I.len⟩
theorem Inv.pins_of {pins' : List (Addr × Obj)} (I : Inv X pins σ H s) (h : ∀ p ∈ pins', s.heap.get? p.1 = some p.2 ∧ H p.1 = none ∧ p.1 ≠ X.env.locals ∧ p.1 ∉ X.fs ∧ ∀ v, p.2.data ≠ .cell v) : Inv X pins' σ H s :=
  ⟨I.ok, I.os, I.bare, I.base, I.loc, I.cell, I.free, I.freeC, fun p hp => (List.mem_append.mp hp).elim (fun z => I.pin p (List.mem_append_left _ z)) (h p), I.hok, I.len⟩

theorem nodup_ix {N : List Str} (hN : N.Nodup) {i j : Nat} {x : Str} (a : N[i]? = some x) (b : N[j]? = some x) : i = j := by
  obtain ⟨h1, e1⟩ := List.getElem?_eq_some_iff.mp a
  obtain ⟨h2, e2⟩ := List.getElem?_eq_some_iff.mp b
  exact (List.getElem_inj hN).mp (e1.trans e2.symm)

/-- a name is stored; what changed -/
theorem store_ok2 {M : Model} {A : Around} {E : Value → Shared → Prop} {i : Nat} {x : Str} {v : V} {u : Value} {Q : Unit → Shared → Prop} (I : Inv X pins σ H s) (hN : X.N.Nodup) (hi : X.N[i]? = some x) (hx : Loc X.env.scope x) (r : RelV v u)
    (h : ∀ s', Inv X pins (σ.set i (some v)) H s' → (∃ a, Heap.SameBut a s.heap s'.heap ∧ (a = X.env.locals ∨ X.env.cells.lookup x = some a)) → Q () s') (hf : X.fn x = true ∨ X.env.scope.names.lookup x = some .local := by first | exact .inl rfl | exact .inr rfl | assumption) : wpAny M A (storeName X.env x u) Q E s := by
  obtain ⟨m, hn, hl⟩ := id I.loc
  have hcls : (X.env.scope.kind == .class || (X.env.scope.kind == .module && X.env.locals != X.env.globals)) = false := by rw [I.ok.kind]; rfl
  have hiσ : i < σ.length := by rw [I.len]; exact (List.getElem?_eq_some_iff.mp hi).1
  have cne := I.cne
  have tracked : ∀ {a : Addr} {h' : Heap}, (∃ o, s.heap.get? a = some o ∧ H a = none) → Heap.SameBut a s.heap h' → HOk X.prog X.w H h' := fun {a h'} ha hs b ob e => by
    obtain ⟨_, _, hfree⟩ := ha
    refine (I.hok b ob e).stay (fun c w' hc q => (hs.2 c ?_).trans q) (fun _ q => q) fun _ _ q => q
    rintro rfl
    rcases hc with rfl | hc
    · rw [hfree] at e; cases e
    · rw [hfree] at hc; cases hc
  rcases hx with hk | hk
  · refine wpAny_storeName_local hk hn (fun h' hn' hs => ?_) hcls
    obtain ⟨oL, _, _, hoL, _⟩ := id hn
    refine h _ ⟨I.ok, I.os, I.bare, ⟨fun b o e n hb hx => ?_, fun b o e n hb hx => ?_, I.base.free, fun b o e hx => ?_, I.base.tups, I.base.frzs, I.base.tbls⟩, ⟨_, hn', fun j y v' e1 e2 e3 => ?_⟩, fun y c e => ?_, I.free, I.freeC, fun p hp => ?_, tracked ⟨oL, hoL, I.free⟩ hs, by simpa using I.len⟩ ⟨_, hs, .inl rfl⟩
    · exact (hs.2 b (Nat.ne_of_lt (Nat.lt_of_lt_of_le (Heap.lt_size e) I.ok.above))).trans (I.base.keep b o e n hb hx)
    · obtain ⟨sl, e1⟩ := I.base.slot b o e n hb hx
      exact ⟨sl, (hs.2 b (Nat.ne_of_lt (Nat.lt_of_lt_of_le (Heap.lt_size e) I.ok.above))).trans e1⟩
    · obtain ⟨o', e1⟩ := I.base.there b o e hx
      exact ⟨o', (hs.2 b (Nat.ne_of_lt (Nat.lt_of_lt_of_le (Heap.lt_size e) I.ok.above))).trans e1⟩
    · by_cases hj : j = i
      · subst hj
        rw [hi] at e1; cases e1
        rw [List.getElem?_set_self hiσ] at e2
        cases e2
        exact ⟨u, r, .inl ⟨hk, by simp⟩⟩
      · rw [List.getElem?_set_ne (Ne.symm hj)] at e2
        obtain ⟨u', r', q⟩ := hl j y v' e1 e2 e3
        refine ⟨u', r', ?_⟩
        rcases q with ⟨k, e⟩ | ⟨k, c, e, z⟩
        · refine .inl ⟨k, ?_⟩
          have : y ≠ x := fun e => hj (nodup_ix hN e1 (e ▸ hi))
          simp [this, e]
        · exact .inr ⟨k, c, e, z.sameBut hs (cne y c e)⟩
    · obtain ⟨w', z⟩ := I.cell y c e
      exact ⟨w', z.sameBut hs (cne y c e)⟩
    · obtain ⟨e, n, ne, nf, d⟩ := I.pin p hp
      exact ⟨(hs.2 p.1 ne).trans e, n, ne, nf, d⟩
  · have hfn : X.fn x = true := by
      rcases hf with z | z
      · exact z
      · rw [z] at hk; cases hk
    obtain ⟨c, hc⟩ := I.ok.has x (.inl hk)
    obtain ⟨w', z⟩ := I.cell x c hc
    refine wpAny_storeName_cell I.ok.kind hk hc z (fun h' hc' hs => ?_)
    obtain ⟨oc, hoc, hocd⟩ := id z
    refine h { s with heap := h' } ⟨I.ok, I.os, I.bare, ⟨fun b o e n hb hx => ?_, fun b o e n hb hx => ?_, I.base.free, fun b o e hx => ?_, I.base.tups, I.base.frzs, I.base.tbls⟩, ⟨m, hn.sameBut hs (Ne.symm (cne x c hc)), fun j y v' e1 e2 e3 => ?_⟩, fun y c' e => ?_, I.free, I.freeC, fun p hp => ?_, tracked ⟨oc, hoc, I.freeC x c hc⟩ hs, by simpa using I.len⟩ ⟨c, hs, .inr hc⟩
    · exact (hs.2 b (Nat.ne_of_lt (Nat.lt_of_lt_of_le (Heap.lt_size e) (I.ok.cab x c hfn hc)))).trans (I.base.keep b o e n hb hx)
    · obtain ⟨sl, e1⟩ := I.base.slot b o e n hb hx
      exact ⟨sl, (hs.2 b (Nat.ne_of_lt (Nat.lt_of_lt_of_le (Heap.lt_size e) (I.ok.cab x c hfn hc)))).trans e1⟩
    · obtain ⟨o', e1⟩ := I.base.there b o e hx
      exact ⟨o', (hs.2 b (Nat.ne_of_lt (Nat.lt_of_lt_of_le (Heap.lt_size e) (I.ok.cab x c hfn hc)))).trans e1⟩
    · by_cases hj : j = i
      · subst hj
        rw [hi] at e1; cases e1
        rw [List.getElem?_set_self hiσ] at e2
        cases e2
        exact ⟨u, r, .inr ⟨.inl hk, c, hc, hc'⟩⟩
      · rw [List.getElem?_set_ne (Ne.symm hj)] at e2
        obtain ⟨u', r', q⟩ := hl j y v' e1 e2 e3
        refine ⟨u', r', ?_⟩
        rcases q with q | ⟨k, c', e, z'⟩
        · exact .inl q
        · refine .inr ⟨k, c', e, z'.sameBut hs ?_⟩
          rintro rfl
          exact hj (nodup_ix hN e1 (I.ok.inj _ _ _ e hc ▸ hi))
    · by_cases hcc : c' = c
      · subst hcc; exact ⟨_, hc'⟩
      · obtain ⟨w2, z2⟩ := I.cell y c' e
        exact ⟨w2, z2.sameBut hs hcc⟩
    · obtain ⟨e, n, ne, nf, d⟩ := I.pin p hp
      refine ⟨(hs.2 p.1 ?_).trans e, n, ne, nf, d⟩
      intro q
      rw [q, hoc] at e
      have q' : oc = p.2 := Option.some.inj e
      exact d w' (by rw [← q']; exact hocd)
theorem store_ok {M : Model} {A : Around} {E : Value → Shared → Prop} {i : Nat} {x : Str} {v : V} {u : Value} {Q : Unit → Shared → Prop} (I : Inv X pins σ H s) (hN : X.N.Nodup) (hi : X.N[i]? = some x) (hx : Loc X.env.scope x) (r : RelV v u)
    (h : ∀ s', Inv X pins (σ.set i (some v)) H s' → Q () s') (hf : X.fn x = true ∨ X.env.scope.names.lookup x = some .local := by first | exact .inl rfl | exact .inr rfl | assumption) : wpAny M A (storeName X.env x u) Q E s :=
  store_ok2 I hN hi hx r (fun s' I' _ => h s' I') hf
/-- behind a call or a block, the state as it is -/
theorem Inv.call' {s' : Shared} {ch : List Addr} (I : Inv X pins σ H s) (ho : s'.os = s.os) (u : Un (frs X.stack) ch H H' s.heap s'.heap) (hok : HOk X.prog X.w H' s'.heap) (hg : AllBare s'.gens)
    (hch : ∀ b ∈ ch, (b ∈ X.ex ∨ X.s_0.heap.objs.size ≤ b) ∧ b ≠ X.env.locals ∧ (∀ x c, X.env.cells.lookup x = some c → c ≠ b) ∧ ∀ p ∈ X.pn ++ pins, p.1 ≠ b) : Inv X pins σ H' s' := by
  obtain ⟨h', g', d', t', o'⟩ := s'
  have e : o' = s.os := ho
  subst e
  exact I.call (g' := g') (t' := t') (d' := d') u hok hg hch
end

/-! ### the judgements -/
/-- an exception: its class, its own dict's address (where it has one), the abstract heap behind it -/
abbrev XK := Value → Option Addr → Hp → Prop
abbrev St := List (Option V)
abbrev VK := V → Hp → Prop
/-- an expression's reading; a test's; an argument list's -/
abbrev TE := St → Hp → VK → Prop
abbrev TT := St → Hp → (Bool → Hp → Prop) → Prop
abbrev TA := St → Hp → (List V → Hp → Prop) → Prop
/-- what is wanted behind a statement -/
structure Ends where
  nx : St → Hp → Prop
  rt : VK
  bk : St → Hp → Prop := fun _ _ => False
  ct : St → Hp → Prop := fun _ _ => False
abbrev TS := Ends → St → Hp → Prop

def EP (X : Cx) (pins : List (Addr × Obj)) (σ : St) (Q : VK) (u : Value) (s' : Shared) : Prop := ∃ v H', Inv X pins σ H' s' ∧ RelV v u ∧ Q v H'
def TP (X : Cx) (pins : List (Addr × Obj)) (σ : St) (Q : Bool → Hp → Prop) (b : Bool) (s' : Shared) : Prop := ∃ H', Inv X pins σ H' s' ∧ Q b H'
def AP (X : Cx) (pins : List (Addr × Obj)) (σ : St) (Q : List V → Hp → Prop) (us : List Value) (s' : Shared) : Prop := ∃ vs H', Inv X pins σ H' s' ∧ Vals vs us ∧ Q vs H'
def SP (X : Cx) (pins : List (Addr × Obj)) (D : Ends) (f : Flow) (s' : Shared) : Prop :=
  match f with
  | .next => ∃ σ' H', Inv X pins σ' H' s' ∧ D.nx σ' H'
  | .brk => ∃ σ' H', Inv X pins σ' H' s' ∧ D.bk σ' H'
  | .cont => ∃ σ' H', Inv X pins σ' H' s' ∧ D.ct σ' H'
  | .ret u => ∃ v σ' H', Inv X pins σ' H' s' ∧ RelV v u ∧ D.rt v H'

def PE (X : Cx) (e : Expr) (t : TE) : Prop :=
  ∀ (pins : List (Addr × Obj)) (s : Shared) (σ : St) (H : Hp) (Q : VK), Inv X pins σ H s → t σ H Q → wpAny (model X.prog X.w) X.A (eval e X.env) (EP X pins σ Q) X.xe s
def PT (X : Cx) (e : Expr) (t : TT) : Prop :=
  ∀ (pins : List (Addr × Obj)) (s : Shared) (σ : St) (H : Hp) (Q : Bool → Hp → Prop), Inv X pins σ H s → t σ H Q → wpAny (model X.prog X.w) X.A (isTrue e X.env (eval e X.env)) (TP X pins σ Q) X.xe s
/-- a test whatever its 'whole' is (and, or) -/
def PW (X : Cx) (e : Expr) (t : TT) : Prop :=
  ∀ (whole : Sem Value) (pins : List (Addr × Obj)) (s : Shared) (σ : St) (H : Hp) (Q : Bool → Hp → Prop), Inv X pins σ H s → t σ H Q → wpAny (model X.prog X.w) X.A (isTrue e X.env whole) (TP X pins σ Q) X.xe s
theorem PW.pt {X : Cx} {e : Expr} {t : TT} (h : PW X e t) : PT X e t := h _
/-- an argument list (no star), from the left -/
def PA (X : Cx) (es : List Expr) (t : TA) : Prop :=
  ∀ (pos : Pos) (pins : List (Addr × Obj)) (s : Shared) (σ : St) (H : Hp) (Q : List V → Hp → Prop), Inv X pins σ H s → t σ H Q → wpAny (model X.prog X.w) X.A (spliced (backTo pos (starEach es X.env))) (AP X pins σ Q) X.xe s
def PS (X : Cx) (st : Stmt) (t : TS) : Prop :=
  ∀ (pins : List (Addr × Obj)) (s : Shared) (σ : St) (H : Hp) (D : Ends), Inv X pins σ H s → t D σ H → wpAny (model X.prog X.w) X.A (exec st X.env) (SP X pins D) X.xe s
def PSs (X : Cx) (st : List Stmt) (t : TS) : Prop :=
  ∀ (pins : List (Addr × Obj)) (s : Shared) (σ : St) (H : Hp) (D : Ends), Inv X pins σ H s → t D σ H → wpAny (model X.prog X.w) X.A (execs st X.env) (SP X pins D) X.xe s
/-- weaken the end -/
theorem thn {α : Type} {t : Sem α} {Q Q' : α → Shared → Prop} {M : Model} {A : Around} {E : Value → Shared → Prop} {s : Shared} (h : wpAny M A t Q E s) (hQ : ∀ a s, Q a s → Q' a s) : wpAny M A t Q' E s := wpAny_mono h hQ fun _ _ x => x
end L2

namespace L2
open PySem PySem.Spec PyProof.Rows
section
variable {X : Cx}


/-! ### names and constants -/
def tVar (i : Nat) : TE := fun σ H Q => ∃ v, σ[i]? = some (some v) ∧ Q v H
def tC (v : V) : TE := fun _ H Q => Q v H
theorem pe_var {i : Nat} {x : Str} {pos : Pos} (hN : X.N[i]? = some x) (hv : Vis X.env.scope x) (hd : (x == ("__debug__" : Str)) = false := by decide) (hcd : (x == ("__classdict__" : Str)) = false := by decide) : PE X (.Name x pos) (tVar i) := by
  intro pins s σ H Q I h
  obtain ⟨v, e, h⟩ := h
  obtain ⟨m, hn, hl⟩ := I.loc
  obtain ⟨u, r, l⟩ := hl i x v hN e hv
  have fin : EP X pins σ Q u s := ⟨v, H, I, r, h⟩
  rcases l with ⟨hk, hm⟩ | ⟨hk, c, hc, hcell⟩
  · exact wpAny_Name (wpAny_loadName_local I.ok.kind hk hn hm fin) hd
  · rcases hk with hk | hk
    · exact wpAny_Name (wpAny_loadName_cell I.ok.kind hk hc hcell fin) hd
    · exact wpAny_Name (wpAny_loadName_free I.ok.kind hk hc hcell fin hcd) hd
theorem pe_int {i j pos} : PE X (.Constant (.int i) j pos) (tC (.int i)) := fun _ _ _ H _ I h => wpAny_Constant_int ⟨.int i, H, I.tok _, ⟨_, rfl⟩, h⟩
theorem pe_bl {b j pos} : PE X (.Constant (.bool b) j pos) (tC (.bl b)) := fun _ _ _ H _ I h => Constant_bool ⟨.bl b, H, I, rfl, h⟩
theorem pe_non {j pos} : PE X (.Constant .none j pos) (tC .non) := fun _ _ _ H _ I h => Constant_none ⟨.non, H, I, rfl, h⟩

/-- a global name of the def -/
def Gl (X : Cx) (x : Str) : Prop := X.env.kindOf x = some .globalImplicit
theorem ld_glob {E : Value → Shared → Prop} {pins : List (Addr × Obj)} {s : Shared} {σ : St} {H : Hp} {x : Str} {u : Value} {pos : Pos} {Q : Value → Shared → Prop} (I : Inv X pins σ H s) (hg : Gl X x) (hm : X.mg x = some u) (h : Q u s)
    (hd : (x == ("__debug__" : Str)) = false := by decide) : wpAny (model X.prog X.w) X.A (eval (.Name x pos) X.env) Q E s :=
  Calls.Name_function_global I.ok.kind hg (Calls.loadGlobal_global (by rw [I.ok.glob]; exact I.mod.glob.keeps I.bk) hm h) hd
theorem ld_blt {E : Value → Shared → Prop} {pins : List (Addr × Obj)} {s : Shared} {σ : St} {H : Hp} {x : Str} {u : Value} {pos : Pos} {Q : Value → Shared → Prop} (I : Inv X pins σ H s) (hg : Gl X x) (hm : X.mg x = none) (hv : bootBuiltins x = some u) (h : Q u s)
    (hn : x ≠ "__name__" := by decide) (hd : (x == ("__debug__" : Str)) = false := by decide) : wpAny (model X.prog X.w) X.A (eval (.Name x pos) X.env) Q E s := by
  obtain ⟨mb, h1, h2⟩ := I.mod.blt
  exact Calls.Name_function_global I.ok.kind hg (Calls.loadGlobal_builtin (by rw [I.ok.glob]; exact I.mod.glob.keeps I.bk) hm (by rw [I.ok.blt]; exact h1.keeps I.bk) ((h2 x hn).trans hv) h) hd
/-- a module's constant, a class, a function, as a value -/
theorem pe_glob {x : Str} {v : V} {u : Value} {pos : Pos} (hg : Gl X x) (hm : X.mg x = some u) (r : RelV v u) (hd : (x == ("__debug__" : Str)) = false := by decide) : PE X (.Name x pos) (tC v) :=
  fun _ _ _ H _ I h => ld_glob I hg hm ⟨v, H, I, r, h⟩ hd

/-! ### arithmetic -/
variable {a b : Expr} {ta tb : TE} {pos : Pos}

/-! ### comparisons -/
def PC (X : Cx) (op : CmpOp) (a b : Expr) (t : TE) : Prop :=
  ∀ (pins : List (Addr × Obj)) (s : Shared) (σ : St) (H : Hp) (Q : VK), Inv X pins σ H s → t σ H Q →
    wpAny (model X.prog X.w) X.A (eval a X.env) (fun v s₁ => wpAny (model X.prog X.w) X.A (eval b X.env) (fun u s₂ => wpAny (model X.prog X.w) X.A (compareOp op v u) (EP X pins σ Q) X.xe s₂) X.xe s₁) X.xe s
theorem nobehind (b : Expr) {op : CmpOp} (h : op ≠ .In) (h2 : op ≠ .NotIn) : behindInMarks op b = false := by
  have e1 : (op == CmpOp.In) = false := by cases op <;> first | rfl | exact absurd rfl h
  have e2 : (op == CmpOp.NotIn) = false := by cases op <;> first | rfl | exact absurd rfl h2
  cases b <;> simp [behindInMarks, e1, e2]
/-- is None -/
def tIsN (ta : TE) : TE := fun σ H Q => ta σ H fun x H1 => Q (.bl (decide (x = .non))) H1
def tNotN (ta : TE) : TE := fun σ H Q => ta σ H fun x H1 => Q (.bl (!decide (x = .non))) H1
theorem RelV.none_iff {x : V} {v : Value} (r : RelV x v) : (v == Value.none) = decide (x = .non) := by
  cases x with
  | non => cases r; rfl
  | bl _ => cases r; rfl
  | int _ => obtain ⟨t, rfl⟩ := r; rfl
  | str _ => obtain ⟨t, rfl⟩ := r; rfl
  | byt _ => obtain ⟨t, rfl⟩ := r; rfl
  | flt _ => obtain ⟨t, rfl⟩ := r; rfl
  | ref _ => cases r; rfl
  | ty _ => cases r; rfl
theorem pc_isN {j pos'} (ha : PE X a ta) : PC X .Is a (.Constant .none j pos') (tIsN ta) := by
  intro pins s σ H Q I h
  refine thn (ha pins s σ H _ I h) fun v s1 ⟨x, H1, I1, r1, q1⟩ => ?_
  exact Constant_none (is_none_gen ⟨.bl _, H1, I1, by rw [r1.none_iff]; rfl, q1⟩)
theorem pc_notN {j pos'} (ha : PE X a ta) : PC X .IsNot a (.Constant .none j pos') (tNotN ta) := by
  intro pins s σ H Q I h
  refine thn (ha pins s σ H _ I h) fun v s1 ⟨x, H1, I1, r1, q1⟩ => ?_
  exact Constant_none (isnot_none_gen ⟨.bl _, H1, I1, by rw [r1.none_iff]; rfl, q1⟩)
/-- a comparison as a value, as a test -/
def tB (t : TE) : TT := fun σ H Q => t σ H fun x H1 => ∃ c, x = .bl c ∧ Q c H1
theorem pe_cmp {op : CmpOp} {t : TE} (h : PC X op a b t) (h1 : behindInMarks op b = false := by first | exact nobehind _ (by decide) (by decide) | rfl) : PE X (.Compare a [op] [b] pos) t := fun pins s σ H Q I hw => wpAny_Compare1 (h pins s σ H Q I hw) h1
theorem pt_cmp {op : CmpOp} {t : TE} (h : PC X op a b t) (h1 : behindInMarks op b = false := by first | exact nobehind _ (by decide) (by decide) | rfl) : PT X (.Compare a [op] [b] pos) (tB t) := by
  intro pins s σ H Q I hw
  refine wpAny_isTrue_Compare1 (thn (h pins s σ H _ I hw) fun v s1 h1 => thn h1 fun u s2 h2 => thn h2 fun c s3 ⟨x, H1, I1, r1, q1⟩ => ?_) h1
  obtain ⟨d, rfl, q⟩ := q1
  cases r1
  exact wpAny_truthy_bool ⟨H1, I1, q⟩
/-- an expression whose value is a bool, as a test -/
theorem pt_val {e : Expr} {t : TE} (h : PE X e t) (he : ∀ whole, isTrue e X.env whole = (do let v ← whole; standAt e.pos; holding [v] (truthy v)) := by intro _; rfl) : PT X e (tB t) := by
  intro pins s σ H Q I hw
  refine isTrue_plain (thn (h pins s σ H _ I hw) fun v s1 ⟨x, H1, I1, r1, q1⟩ => ?_) (he _)
  obtain ⟨d, rfl, q⟩ := q1
  cases r1
  exact wpAny_truthy_bool ⟨H1, I1, q⟩

/-! ### and, or, not -/
variable {tA tB' : TT} {rest : List Expr}
def tAnd (t u : TT) : TT := fun σ H Q => t σ H fun c H1 => if c = true then u σ H1 Q else Q false H1
def tOr (t u : TT) : TT := fun σ H Q => t σ H fun c H1 => if c = true then Q true H1 else u σ H1 Q
def tNot (t : TT) : TT := fun σ H Q => t σ H fun c H1 => Q (!c) H1
theorem pw_and1 (ha : PT X a tA) : PW X (.BoolOp .And [a] pos) tA := by
  intro wh pins s σ H Q I h
  refine isTrue_and (thn (ha pins s σ H Q I h) fun c s1 e => ?_)
  cases c with
  | true => exact isTrue_and_nil e
  | false => exact e
theorem pw_or1 (ha : PT X a tA) : PW X (.BoolOp .Or [a] pos) tA := by
  intro wh pins s σ H Q I h
  refine isTrue_or (thn (ha pins s σ H Q I h) fun c s1 e => ?_)
  cases c with
  | false => exact isTrue_or_nil e
  | true => exact e
theorem pw_and (ha : PT X a tA) (hb : PW X (.BoolOp .And (b :: rest) pos) tB') : PW X (.BoolOp .And (a :: b :: rest) pos) (tAnd tA tB') := by
  intro wh pins s σ H Q I h
  refine isTrue_and (thn (ha pins s σ H _ I h) fun c s1 ⟨H1, I1, q1⟩ => ?_)
  cases c with
  | true => exact hb wh pins s1 σ H1 Q I1 q1
  | false => exact ⟨H1, I1, q1⟩
theorem pw_or (ha : PT X a tA) (hb : PW X (.BoolOp .Or (b :: rest) pos) tB') : PW X (.BoolOp .Or (a :: b :: rest) pos) (tOr tA tB') := by
  intro wh pins s σ H Q I h
  refine isTrue_or (thn (ha pins s σ H _ I h) fun c s1 ⟨H1, I1, q1⟩ => ?_)
  cases c with
  | true => exact ⟨H1, I1, q1⟩
  | false => exact hb wh pins s1 σ H1 Q I1 q1
theorem pt_not (ha : PT X a tA) : PT X (.UnaryOp .Not a pos) (tNot tA) := by
  intro pins s σ H Q I h
  exact isTrue_not (ha pins s σ H (fun c H1 => Q (!c) H1) I h)
/-- .. as values (bools) -/
def tAndV (ta tb : TE) : TE := fun σ H Q => ta σ H fun x H1 => ∃ c, x = .bl c ∧ if c = true then tb σ H1 Q else Q (.bl false) H1
theorem pe_one {op} {t : TE} (h : PE X a t) : PE X (.BoolOp op [a] pos) t := fun pins s σ H Q I hw => BoolOp_one (h pins s σ H Q I hw)
theorem pe_and (ha : PE X a ta) (hb : PE X (.BoolOp .And (b :: rest) pos) tb) : PE X (.BoolOp .And (a :: b :: rest) pos) (tAndV ta tb) := by
  intro pins s σ H Q I h
  refine BoolOp_and (thn (ha pins s σ H _ I h) fun v s1 ⟨x, H1, I1, r1, q1⟩ => ?_)
  obtain ⟨c, rfl, q1⟩ := q1
  cases r1
  refine wpAny_truthy_bool ?_
  cases c with
  | true => exact hb pins s1 σ H1 Q I1 q1
  | false => exact ⟨.bl false, H1, I1, rfl, q1⟩
end
end L2

namespace L2
open PySem PySem.Spec PyProof.Rows

/-! ### a list, a tuple that is read: tracked, frozen, or an object of the module -/
def SqL (K : PySem.W.Frag) (H : Hp) (a : Addr) (xs : List V) : Prop :=
  Rd H a (.lst xs) ∨
    ∃ (o : Obj) (its : Array Value) (n : Nat), K.lookup a = some o ∧ o.cls = .type "list" ∧ o.dict = none ∧ o.data = .seq its n ∧ its.size ≤ sizeLine ∧ Vals xs its.toList
def SqT (K : PySem.W.Frag) (H : Hp) (a : Addr) (xs : List V) : Prop :=
  Rd H a (.tup xs) ∨
    ∃ (o : Obj) (its : Array Value) (n : Nat), K.lookup a = some o ∧ o.cls = .type "tuple" ∧ o.data = .seq its n ∧ its.size ≤ sizeLine ∧ Vals xs its.toList
def absV : Value → Option V
  | .none => some .non
  | .bool b => some (.bl b)
  | .int i _ => some (.int i)
  | .str x _ => some (.str x)
  | .bytes b _ => some (.byt b)
  | .float b _ => some (.flt b)
  | .ref a => some (.ref a)
  | .type n => some (.ty n)
  | _ => none
theorem RelV.abs {x : V} {u : Value} (r : RelV x u) : absV u = some x := by
  cases x with
  | non => cases r; rfl
  | bl _ => cases r; rfl
  | int _ => obtain ⟨t, rfl⟩ := r; rfl
  | str _ => obtain ⟨t, rfl⟩ := r; rfl
  | byt _ => obtain ⟨t, rfl⟩ := r; rfl
  | flt _ => obtain ⟨t, rfl⟩ := r; rfl
  | ref _ => cases r; rfl
  | ty _ => cases r; rfl
theorem RelV.inj {x y : V} {u : Value} (r : RelV x u) (q : RelV y u) : x = y := Option.some.inj (r.abs.symm.trans q.abs)
theorem Vals.inj : ∀ {xs ys : List V} {us : List Value}, Vals xs us → Vals ys us → xs = ys
  | _, _, _, .nil, .nil => rfl
  | _, _, _, .cons r t, .cons r' t' => by rw [r.inj r', Vals.inj t t']
section
variable {X : Cx} {pins : List (Addr × Obj)} {σ : St} {H : Hp} {s : Shared} {a : Addr} {xs ys : List V}
theorem SqL.of {K : PySem.W.Frag} (h : H a = some (.lst xs)) : SqL K H a xs := .inl (.inl h)
theorem SqT.of {K : PySem.W.Frag} (h : H a = some (.tup xs)) : SqT K H a xs := .inl (.inl h)
theorem Inv.list (I : Inv X pins σ H s) (h : SqL X.K H a xs) : ∃ its : List Value, Vals xs its ∧ PlainL s.heap a its.toArray ∧ xs.length ≤ sizeLine := by
  rcases h with h | ⟨o, its, n, hk, hc, hd, hs, hz, r⟩
  · obtain ⟨z, its, n, r, e⟩ := h.ok I.hok
    exact ⟨its, r, ⟨_, n, e, rfl, rfl, rfl⟩, z⟩
  · refine ⟨its.toList, r, ⟨o, n, I.kIn a o hk, hc, hd, by simpa using hs⟩, ?_⟩
    have e := r.length
    simp only [Array.length_toList] at e
    omega
theorem Inv.tuple (I : Inv X pins σ H s) (h : SqT X.K H a xs) : ∃ its : List Value, Vals xs its ∧ IsTup s.heap a its.toArray ∧ xs.length ≤ sizeLine := by
  rcases h with h | ⟨o, its, n, hk, hc, hs, hz, r⟩
  · obtain ⟨z, its, r, p⟩ := h.ok I.hok
    exact ⟨its, r, p, z⟩
  · refine ⟨its.toList, r, ⟨o, I.kIn a o hk, hc, n, by simpa using hs⟩, ?_⟩
    have e := r.length
    simp only [Array.length_toList] at e
    omega
theorem Inv.list_inj (I : Inv X pins σ H s) (h : SqL X.K H a xs) (h' : SqL X.K H a ys) : xs = ys := by
  obtain ⟨its, r, ⟨o, n, e, _, _, d⟩, _⟩ := I.list h
  obtain ⟨its', r', ⟨o', n', e', _, _, d'⟩, _⟩ := I.list h'
  rw [e] at e'; cases e'
  rw [d] at d'
  injection d' with d1 _
  have : its = its' := by simpa using congrArg Array.toList d1
  subst this
  exact r.inj r'
end

/-! ### another wish about exceptions -/
abbrev Cx.wish (X : Cx) (E : Value → Shared → Prop) : Cx := { X with xe := E }
/-- no exception leaves -/
abbrev Cx.nox (X : Cx) : Cx := X.wish fun _ _ => False
theorem Cx.Ok.wish {X : Cx} (ok : X.Ok) (E : Value → Shared → Prop) : (X.wish E).Ok :=
  ⟨ok.mod, ok.kind, ok.glob, ok.blt, ok.above, ok.inj, ok.has, ok.cab, ok.hd, ok.frames, ok.stk, ok.exf, ok.bs, ok.bsz, ok.noex, ok.exfs, ok.funs, ok.frf⟩
theorem Cx.Ok.unwish {X : Cx} {E : Value → Shared → Prop} (ok : (X.wish E).Ok) : X.Ok :=
  ⟨ok.mod, ok.kind, ok.glob, ok.blt, ok.above, ok.inj, ok.has, ok.cab, ok.hd, ok.frames, ok.stk, ok.exf, ok.bs, ok.bsz, ok.noex, ok.exfs, ok.funs, ok.frf⟩
section
variable {X : Cx} {pins : List (Addr × Obj)} {σ : St} {H : Hp} {s : Shared} {E : Value → Shared → Prop}
theorem Inv.wish (I : Inv X pins σ H s) (E : Value → Shared → Prop) : Inv (X.wish E) pins σ H s := ⟨I.ok.wish E, I.os, I.bare, I.base, I.loc, I.cell, I.free, I.freeC, I.pin, I.hok, I.len⟩
theorem Inv.unwish (I : Inv (X.wish E) pins σ H s) : Inv X pins σ H s := ⟨I.ok.unwish, I.os, I.bare, I.base, I.loc, I.cell, I.free, I.freeC, I.pin, I.hok, I.len⟩
theorem SP.unwish {D : Ends} {f : Flow} {s' : Shared} (h : SP (X.wish E) pins D f s') : SP X pins D f s' := by
  cases f with
  | next => obtain ⟨σ', H', I, q⟩ := h; exact ⟨σ', H', I.unwish, q⟩
  | brk => obtain ⟨σ', H', I, q⟩ := h; exact ⟨σ', H', I.unwish, q⟩
  | cont => obtain ⟨σ', H', I, q⟩ := h; exact ⟨σ', H', I.unwish, q⟩
  | ret u => obtain ⟨v, σ', H', I, r, q⟩ := h; exact ⟨v, σ', H', I.unwish, r, q⟩
theorem PSs.nox {st : List Stmt} {t : TS} (h : PSs X.nox st t) : PSs X st t := fun pins s σ H D I hw =>
  wpAny_mono (h pins s σ H D (I.wish _) hw) (fun _ _ q => q.unwish) fun _ _ z => False.elim z
end

/-! ### blocks and small statements -/
section
variable {X : Cx} {st : Stmt} {rest : List Stmt} {t u : TS} {e : Expr} {te : TE} {pos : Pos}
def tNext : TS := fun D σ H => D.nx σ H
def tSeq (t u : TS) : TS := fun D σ H => t { D with nx := u D } σ H
theorem pss_nil : PSs X [] tNext := fun _ _ σ H _ I h => wpAny_execs_nil ⟨σ, H, I, h⟩
theorem pss_cons (h1 : PS X st t) (h2 : PSs X rest u) : PSs X (st :: rest) (tSeq t u) := by
  intro pins s σ H D I h
  refine wpAny_execs_cons (thn (h1 pins s σ H { D with nx := u D } I h) fun f s1 q => ?_)
  cases f with
  | next =>
    obtain ⟨σ', H', I', q⟩ := q
    exact h2 pins s1 σ' H' D I' q
  | ret v => exact q
  | brk => exact q
  | cont => exact q
theorem pss_one (h1 : PS X st t) : PSs X [st] t := by
  intro pins s σ H D I h
  refine wpAny_execs_cons (thn (h1 pins s σ H D I h) fun f s1 q => ?_)
  cases f with
  | next => exact wpAny_execs_nil q
  | ret v => exact q
  | brk => exact q
  | cont => exact q
/-- in a def's body nothing is shown -/
theorem Inv.quiet {pins : List (Addr × Obj)} {σ : St} {H : Hp} {s : Shared} (I : Inv X pins σ H s) : interactive X.env = false := by simp [interactive, I.ok.kind]
/-- an expression whose value is dropped -/
def tDrop (te : TE) : TS := fun D σ H => te σ H fun _ H1 => D.nx σ H1
theorem ps_expr (he : PE X e te) (hs : swapsWith e none pos.line X.env = pure false := by rfl) : PS X (.Expr e pos) (tDrop te) := by
  intro pins s σ H D I h
  exact wpAny_Expr_any (thn (he pins s σ H _ I h) fun v s1 ⟨x, H1, I1, r1, q1⟩ => ⟨σ, H1, I1, q1⟩) I.quiet hs
def tRet (te : TE) : TS := fun D σ H => te σ H D.rt
theorem ps_ret (he : PE X e te) : PS X (.Return (some e) pos) (tRet te) := by
  intro pins s σ H D I h
  exact wpAny_Return_some (thn (he pins s σ H _ I h) fun v s1 ⟨x, H1, I1, r1, q1⟩ => ⟨x, σ, H1, I1, r1, q1⟩)
def tIfS (c : TT) (t u : TS) : TS := fun D σ H => c σ H fun b H1 => if b = true then t D σ H1 else u D σ H1
theorem ps_if {c : Expr} {a b : List Stmt} {tc : TT} (hc : PT X c tc) (ha : PSs X a t) (hb : PSs X b u) : PS X (.If c a b pos) (tIfS tc t u) := by
  intro pins s σ H D I h
  refine wpAny_If (thn (hc pins s σ H _ I h) fun d s1 ⟨H1, I1, q1⟩ => ?_)
  cases d with
  | true => exact ha pins s1 σ H1 D I1 q1
  | false => exact hb pins s1 σ H1 D I1 q1
end

/-! ### targets -/
abbrev TG := V → St → Hp → (St → Hp → Prop) → Prop
abbrev TGs := List V → St → Hp → (St → Hp → Prop) → Prop
def PG (X : Cx) (target : Expr) (t : TG) : Prop :=
  ∀ (pins : List (Addr × Obj)) (s : Shared) (σ : St) (H : Hp) (v : V) (u : Value) (Q : St → Hp → Prop), Inv X pins σ H s → RelV v u → t v σ H Q →
    wpAny (model X.prog X.w) X.A (assign target X.env u) (fun _ s' => ∃ σ' H', Inv X pins σ' H' s' ∧ Q σ' H') X.xe s
/-- several targets, one after another -/
def PGs (X : Cx) (ts : List Expr) (t : TGs) : Prop :=
  ∀ (pins : List (Addr × Obj)) (s : Shared) (σ : St) (H : Hp) (vs : List V) (us : List Value) (Q : St → Hp → Prop), Inv X pins σ H s → Vals vs us → t vs σ H Q →
    wpAny (model X.prog X.w) X.A (assignInOrder ((assignEach ts X.env).map (·.2)) us) (fun _ s' => ∃ σ' H', Inv X pins σ' H' s' ∧ Q σ' H') X.xe s
section
variable {X : Cx} {pos : Pos}
def gName (i : Nat) : TG := fun v σ H Q => Q (σ.set i (some v)) H
theorem pg_name {i : Nat} {x : Str} (hN : X.N.Nodup) (hi : X.N[i]? = some x) (hx : Loc X.env.scope x) (hf : X.fn x = true ∨ X.env.scope.names.lookup x = some .local := by first | exact .inl rfl | exact .inr rfl | assumption) : PG X (.Name x pos) (gName i) := by
  intro pins s σ H v u Q I r h
  exact wpAny_assign_Name (store_ok I hN hi hx r (fun s' I' => ⟨_, H, I', h⟩) hf)
def gNil : TGs := fun vs σ H Q => vs = [] ∧ Q σ H
def gCons (t : TG) (u : TGs) : TGs := fun vs σ H Q => ∃ v r, vs = v :: r ∧ t v σ H fun σ' H' => u r σ' H' Q
theorem pgs_nil : PGs X [] gNil := by
  intro pins s σ H vs us Q I r h
  obtain ⟨e, h⟩ := h
  subst e
  cases r
  exact assignInOrder_nil ⟨σ, H, I, h⟩
theorem pgs_cons {e : Expr} {es : List Expr} {t : TG} {u : TGs} (h1 : PG X e t) (h2 : PGs X es u)
    (hs : (assignEach (e :: es) X.env).map (·.2) = assign e X.env :: (assignEach es X.env).map (·.2) := by rfl) : PGs X (e :: es) (gCons t u) := by
  intro pins s σ H vs us Q I r h
  obtain ⟨v, vr, e1, h⟩ := h
  subst e1
  cases r with
  | cons r rr =>
    rw [hs]
    refine assignInOrder_cons (thn (h1 pins s σ H _ _ _ I r h) fun _ s1 ⟨σ1, H1, I1, q1⟩ => ?_)
    exact h2 pins s1 σ1 H1 _ _ Q I1 rr q1
/-- (a, b, ..) = a tuple of that length -/
def gTup (K : PySem.W.Frag) (n : Nat) (t : TGs) : TG := fun v σ H Q => ∃ a xs, v = .ref a ∧ SqT K H a xs ∧ xs.length = n ∧ t xs σ H Q
theorem pg_tup {es : List Expr} {k : Nat} {t : TGs} {n : Nat} (hc : X.calm = true) (h : PGs X es t)
    (hn : (assignEach es X.env).length = n := by rfl) (hst : (assignEach es X.env).findIdx? (·.1) = none := by rfl) : PG X (.Tuple es k pos) (gTup X.K n t) := by
  intro pins s σ H v u Q I r hw
  obtain ⟨a, xs, e1, hq, hl, hw⟩ := hw
  subst e1
  cases r
  obtain ⟨its, rv, ht, hz⟩ := I.tuple hq
  refine assign_Tuple_tuple (I.ok.hd hc) ht (by simp [hn, ← hl, rv.length]) hst fun h' hx => ?_
  have I1 : Inv X pins σ H { s with heap := h' } := I.kept (t' := s.toks) fun b o e => hx b o (Nat.ne_of_lt (Heap.lt_size e)) e
  exact h pins _ σ H xs _ Q I1 (by simpa using rv) hw
/-- target = value -/
def tAsg (te : TE) (g : TG) : TS := fun D σ H => te σ H fun x H1 => g x σ H1 D.nx
/-- name = value -/
theorem ps_set {i : Nat} {x : Str} {e : Expr} {te : TE} {pos' : Pos} (hN : X.N.Nodup) (hi : X.N[i]? = some x) (hx : Loc X.env.scope x) (he : PE X e te) (hs : swapsWith e (some (.Name x pos')) pos.line X.env = pure false := by rfl) (hf : X.fn x = true ∨ X.env.scope.names.lookup x = some .local := by first | exact .inl rfl | exact .inr rfl | assumption) :
    PS X (.Assign [.Name x pos'] e pos) (tAsg te (gName i)) := by
  intro pins s σ H D I h
  refine wpAny_Assign_Name (thn (he pins s σ H _ I h) fun v s1 ⟨y, H1, I1, r1, q1⟩ => ?_) hs
  exact store_ok I1 hN hi hx r1 (fun s2 I2 => ⟨_, H1, I2, q1⟩) hf
end

/-! ### while -/
section
variable {X : Cx} {pos : Pos}
/-- the invariant W with its measure -/
def tWhile (c : TT) (tb : TS) : TS := fun D σ H => ∃ W : Nat → St → Hp → Prop, (∃ m, W m σ H) ∧ ∀ m σ H, W m σ H →
  c σ H fun b H1 => if b = true then ∃ N : St → Hp → Prop, (∀ σ' H', N σ' H' → ∃ m', m' < m ∧ W m' σ' H') ∧ tb { D with nx := N, ct := N, bk := D.nx } σ H1 else D.nx σ H1
theorem ps_while {c : Expr} {body : List Stmt} {tc : TT} {tb : TS} (hp : PassesOwn (model X.prog X.w) X.A X.env X.xe) (hc : PT X c tc) (hb : PSs X body tb) : PS X (.While c body [] pos) (tWhile tc tb) := by
  intro pins s σ H D I h
  obtain ⟨W, ⟨m0, w0⟩, turn⟩ := h
  refine wpAny_While (codeAny_whileLoop (fun n s' => ∃ σ' H', Inv X pins σ' H' s' ∧ W n σ' H') ?_ m0 ⟨σ, H, I, w0⟩)
  rintro n s1 ⟨σ1, H1, I1, w1⟩
  refine wpAny_passesOwn hp (thn (hc pins s1 σ1 H1 _ I1 (turn n σ1 H1 w1)) fun b s2 ⟨H2, I2, q2⟩ => ?_)
  cases b with
  | true =>
    obtain ⟨N, hN, q2⟩ := q2
    rw [if_pos rfl]
    refine wpAny_passesOwn hp (thn (hb pins s2 σ1 H2 _ I2 q2) fun f s3 q3 => ?_)
    cases f with
    | next =>
      obtain ⟨σ3, H3, I3, n3⟩ := q3
      obtain ⟨m', hm, w3⟩ := hN σ3 H3 n3
      exact ⟨m', hm, σ3, H3, I3, w3⟩
    | cont =>
      obtain ⟨σ3, H3, I3, n3⟩ := q3
      obtain ⟨m', hm, w3⟩ := hN σ3 H3 n3
      exact ⟨m', hm, σ3, H3, I3, w3⟩
    | brk => exact q3
    | ret v => exact q3
  | false =>
    rw [if_neg Bool.false_ne_true]
    exact wpAny_execs_nil ⟨σ1, H2, I2, q2⟩
end

/-! ### what a loop or a comprehension walks -/
/-- at turn i: it yields x (the heap may grow), or it stops -/
structure It where
  go : Nat → Hp → Prop
  yld : Nat → Hp → V → Hp → Prop
  stop : Nat → Hp → Prop
/-- the iterator's own objects may turn: they are not the frame's, not pinned, younger than the entry (or a comprehension's own) -/
def FpOk (X : Cx) (pins : List (Addr × Obj)) (H : Hp) (b : Addr) : Prop :=
  H b = none ∧ b ≠ X.env.locals ∧ b ∉ X.fs ∧ (b ∈ X.ex ∨ X.s_0.heap.objs.size ≤ b) ∧ (∀ x c, X.env.cells.lookup x = some c → c ≠ b) ∧ ∀ p ∈ X.pn ++ pins, p.1 ≠ b
theorem Inv.fpOk {X : Cx} {pins : List (Addr × Obj)} {σ : St} {H H' : Hp} {s : Shared} {b : Addr} (I : Inv X pins σ H s) (hb : s.heap.objs.size ≤ b) (hn : H' b = none) : FpOk X pins H' b := by
  refine ⟨hn, Nat.ne_of_gt (Nat.lt_of_lt_of_le I.lt hb), I.nofs hb, .inr (Nat.le_trans I.sz hb), fun x c e z => ?_, fun p hp z => ?_⟩
  · obtain ⟨v, q⟩ := I.cell x c e
    exact absurd (Nat.lt_of_lt_of_le q.lt (by rw [z]; exact hb)) (Nat.lt_irrefl _)
  · exact absurd (Nat.lt_of_lt_of_le (Heap.lt_size (I.pin p hp).1) (by rw [z]; exact hb)) (Nat.lt_irrefl _)
structure Turn (P : Program) (w : World) (K : PySem.W.Frag) (tg : Expr) (J : It) (fp : List Addr) (it : Addr) (tn : Nat → Heap → Prop) : Prop where
  mem : it ∈ fp
  obj : ∀ i h, tn i h → ∀ b ∈ fp, ∃ o, h.get? b = some o ∧ ∀ v, o.data ≠ .cell v
  keep : ∀ i h h', tn i h → (∀ b ∈ fp, ∀ o, h.get? b = some o → h'.get? b = some o) → tn i h'
  item : ∀ (X : Cx), X.prog = P → X.w = w → X.K = K → X.calm = true → ∀ (i : Nat) (pins : List (Addr × Obj)) (s : Shared) (σ : St) (H : Hp) (E : Value → Shared → Prop), Inv X pins σ H s → (∀ b ∈ fp, FpOk X pins H b) → tn i s.heap → J.go i H →
    wpAny (model P w) X.A (pyNext (.ref it)) (fun r s1 => ∃ u, r = some u ∧
      wpAny (model P w) X.A (letOwnedTupleGo tg (.ref it) u) (fun _ s2 => ∃ x H', Inv X pins σ H' s2 ∧ RelV x u ∧ J.yld i H x H' ∧ tn (i + 1) s2.heap ∧ ∀ b ∈ fp, H' b = none) E s1) E s
  done : ∀ (X : Cx), X.prog = P → X.w = w → X.K = K → X.calm = true → ∀ (i : Nat) (pins : List (Addr × Obj)) (s : Shared) (σ : St) (H : Hp) (E : Value → Shared → Prop), Inv X pins σ H s → (∀ b ∈ fp, FpOk X pins H b) → tn i s.heap → J.stop i H →
    wpAny (model P w) X.A (pyNext (.ref it)) (fun r s1 => r = none ∧ Inv X pins σ H s1) E s
  self : ∀ (A : Around) (i : Nat) (s : Shared) (Q : Value → Shared → Prop) (E : Value → Shared → Prop), tn i s.heap → Q (.ref it) s → wpAny (model P w) A (pyIter (.ref it)) Q E s
abbrev TI := St → Hp → (It → Hp → Prop) → Prop
/-- an iterator has come -/
def PIE (X : Cx) (pins : List (Addr × Obj)) (σ : St) (tg : Expr) (R : It → Hp → Prop) (itv : Value) (s2 : Shared) : Prop :=
  ∃ (it : Addr) (fp : List Addr) (tn : Nat → Heap → Prop) (J : It) (H' : Hp), itv = .ref it ∧ Inv X pins σ H' s2 ∧ Turn X.prog X.w X.K tg J fp it tn ∧ tn 0 s2.heap ∧ (∀ b ∈ fp, FpOk X pins H' b) ∧ R J H'
def PI (X : Cx) (tg iter : Expr) (wi : TI) : Prop :=
  ∀ (pins : List (Addr × Obj)) (s : Shared) (σ : St) (H : Hp) (R : It → Hp → Prop), Inv X pins σ H s → wi σ H R →
    wpAny (model X.prog X.w) X.A (eval iter X.env) (fun v s1 => wpAny (model X.prog X.w) X.A (pyIter v) (PIE X pins σ tg R) X.xe s1) X.xe s

/-- the step ahead of the store is nothing for an iterator that keeps no tuple -/
theorem go_of {M : Model} {A : Around} {E : Value → Shared → Prop} {s : Shared} {tg : Expr} {it : Addr} {u : Value} {o : Obj} {n : String} {vs : Array Value} {Q : Unit → Shared → Prop} (ho : s.heap.get? it = some o) (hc : o.cls = .type n) (hd : o.data = .fields vs)
    (hn : ["enumerate", "zip", "dict_itemiterator", "dict_reverseitemiterator", "odict_iterator", "itertools.zip_longest", "itertools.pairwise"].contains n = false) (hQ : Q () s) : wpAny M A (letOwnedTupleGo tg (.ref it) u) Q E s := by
  unfold letOwnedTupleGo
  cases tg <;> first
    | exact wpAny_pure hQ
    | (cases u <;> first
        | exact wpAny_pure hQ
        | (refine wpAny_bind (wpAny_load ho ?_)
           rw [hc, hd]
           show wpAny M A (if (["enumerate", "zip", "dict_itemiterator", "dict_reverseitemiterator", "odict_iterator", "itertools.zip_longest", "itertools.pairwise"].contains n && vs[0]? == some (rawInt _)) = true then _ else _) Q E s
           rw [if_neg (by intro h; rw [hn, Bool.false_and] at h; cases h)]
           exact wpAny_pure hQ))

/-- the list at a, as it stands at each turn (a loop may append to it) -/
def Itl (K : PySem.W.Frag) (a : Addr) : It :=
  ⟨fun i H => ∃ xs x, SqL K H a xs ∧ xs[i]? = some x, fun i H x H' => H' = H ∧ ∀ xs, SqL K H a xs → xs[i]? = some x, fun i H => ∃ xs, SqL K H a xs ∧ xs.length ≤ i⟩
/-- lo, lo + 1, .. (n of them) -/
def Itr (lo : Int) (n : Nat) : It := ⟨fun i _ => i < n, fun i H x H' => H' = H ∧ x = .int (lo + i), fun i _ => n ≤ i⟩
theorem turn_list {P : Program} {w : World} {K : PySem.W.Frag} {tg : Expr} (a it : Addr) : Turn P w K tg (Itl K a) [it] it (fun i h => h.IsListIter it a i) where
  mem := by simp
  obj := fun i h st b hb => by
    have e : b = it := by simpa using hb
    subst e
    obtain ⟨o, e, c, d⟩ := st
    exact ⟨o, e, fun v z => by rw [d] at z; cases z⟩
  keep := fun i h h' st k => st.at fun o e => k it (by simp) o e
  item := by
    intro X hP hw hK hc i pins s σ H E I hf st hg
    subst hP hw hK
    obtain ⟨xs, x, hq, hx⟩ := hg
    obtain ⟨its, rv, p, hz⟩ := I.list hq
    obtain ⟨u, hu, ru⟩ := rv.get hx
    obtain ⟨f0, f1, f2, f3, f4, f5⟩ := hf it (by simp)
    refine wpAny_pyNext_list_item st p.isList (x := u) (by simpa using hu) fun h' st' sb => ?_
    have I1 : Inv X pins σ H { s with heap := h' } := I.turned (t' := s.toks) (fun b o hb e => (sb.2 b hb).trans e) f0 f1 f3 f4 f5
    obtain ⟨o, e, c, d⟩ := id st'
    exact ⟨u, rfl, go_of (s := { s with heap := h' }) e c d (by decide) ⟨x, H, I1, ru, ⟨rfl, fun ys hy => by rw [I.list_inj hy hq]; exact hx⟩, st', fun b hb => (hf b hb).1⟩⟩
  done := by
    intro X hP hw hK hc i pins s σ H E I hf st hg
    subst hP hw hK
    obtain ⟨xs, hq, hx⟩ := hg
    obtain ⟨its, rv, p, hz⟩ := I.list hq
    obtain ⟨f0, f1, f2, f3, f4, f5⟩ := hf it (by simp)
    have hl := rv.length
    exact wpAny_pyNext_list_end (I.ok.hd hc) st p.isList (by simp; omega) fun h' eb => ⟨rfl, I.turned (t' := s.toks) (fun b o hb e => eb b o hb e) f0 f1 f3 f4 f5⟩
  self := fun _ _ _ _ _ st h => wpAny_pyIter_listiter st h
theorem turn_range {P : Program} {w : World} {K : PySem.W.Frag} {tg : Expr} (it : Addr) (lo : Int) (n : Nat) : Turn P w K tg (Itr lo n) [it] it (fun i h => IsRangeIter h it (lo + (i : Nat) * 1) ((n : Int) - (i : Nat)) 1) where
  mem := by simp
  obj := fun i h st b hb => by
    have e : b = it := by simpa using hb
    subst e
    exact ⟨_, st, fun v z => by
      have z' : Data.fields _ = Data.cell v := z
      cases z'⟩
  keep := fun i h h' st k => k it (by simp) _ st
  item := by
    intro X hP hw hK hc i pins s σ H E I hf st hg
    subst hP hw hK
    obtain ⟨f0, f1, f2, f3, f4, f5⟩ := hf it (by simp)
    have W := Walks.range (prog := X.prog) (w := X.w) (I.ok.hd hc) it lo 1 n
    refine W.item i s _ _ hg st fun v h' tk hv st' kk => ?_
    obtain ⟨t, rfl⟩ := hv
    have I1 : Inv X pins σ H { s with heap := h', toks := tk } := I.turned (fun b o hb e => kk b o (by simpa using hb) e) f0 f1 f3 f4 f5
    refine ⟨_, rfl, go_of (s := { s with heap := h', toks := tk }) (n := "range_iterator") st' rfl rfl (by decide) ⟨.int (lo + i), H, I1, ⟨t, ?_⟩, ⟨rfl, rfl⟩, st', fun b hb => (hf b hb).1⟩⟩
    rw [Int.mul_one]
  done := by
    intro X hP hw hK hc i pins s σ H E I hf st hg
    subst hP hw hK
    obtain ⟨f0, f1, f2, f3, f4, f5⟩ := hf it (by simp)
    exact wpAny_pyNext_range_end (I.ok.hd hc) st (by have : n ≤ i := hg; omega) fun h' eb => ⟨rfl, I.turned (t' := s.toks) (fun b o hb e => eb b o hb e) f0 f1 f3 f4 f5⟩
  self := fun _ _ _ _ _ st h => wpAny_pyIter_rangeiter st h
end L2

namespace L2
open PySem PySem.Spec PyProof.Rows
section
variable {X : Cx} {tg : Expr}
def iList (K : PySem.W.Frag) (tl : TE) : TI := fun σ H R => tl σ H fun x H1 => ∃ a, x = .ref a ∧ (∃ xs, SqL K H1 a xs) ∧ R (Itl K a) H1
theorem pi_list {l : Expr} {tl : TE} (hl : PE X l tl) : PI X tg l (iList X.K tl) := by
  intro pins s σ H R I h
  refine thn (hl pins s σ H _ I h) fun v s1 ⟨x, H1, I1, r1, q1⟩ => ?_
  obtain ⟨a, e, ⟨xs, hq⟩, q⟩ := q1
  subst e
  cases r1
  obtain ⟨its, rv, p, hz⟩ := I1.list hq
  refine wpAny_pyIter_list p.isList ?_
  refine ⟨s1.heap.objs.size, [s1.heap.objs.size], _, _, H1, rfl, I1.kept (t' := s1.toks) fun b o e => Heap.get?_push_of_some _ e, turn_list a _, ⟨_, Heap.get?_push_size _ rfl, rfl, rfl⟩, fun b hb => ?_, q⟩
  have e : b = s1.heap.objs.size := by simpa using hb
  subst e
  exact I1.fpOk (Nat.le_refl _) (I1.hok.fresh (Nat.le_refl _))
/-- a range object just made, walked -/
theorem range_it {pins : List (Addr × Obj)} {σ : St} {H : Hp} {s : Shared} {R : It → Hp → Prop} {E : Value → Shared → Prop} {lo hi : Int} {t u v : Tok} {tk : Nat} (I : Inv X pins σ H s) (h1 : -(2 ^ 62) ≤ lo) (h2 : lo < 2 ^ 62) (h3 : -(2 ^ 62) ≤ hi) (h4 : hi < 2 ^ 62)
    (q : R (Itr lo (hi - lo).toNat) H) : wpAny (model X.prog X.w) X.A (pyIter (.ref s.heap.objs.size)) (PIE X pins σ tg R) E { s with heap := s.heap.push { cls := .type "range", data := .fields #[.int lo t, .int hi u, .int 1 v] }, toks := tk } := by
  refine wpAny_pyIter_range (IsRange.new ..) (small_one h1 h2 h3 h4) ?_
  have I1 : Inv X pins σ H { s with heap := s.heap.push { cls := .type "range", data := .fields #[.int lo t, .int hi u, .int 1 v] }, toks := tk } := I.kept fun b o e => Heap.get?_push_of_some _ e
  refine ⟨(s.heap.push { cls := .type "range", data := .fields #[.int lo t, .int hi u, .int 1 v] }).objs.size, [(s.heap.push { cls := .type "range", data := .fields #[.int lo t, .int hi u, .int 1 v] }).objs.size], _, _, H, rfl,
    I1.kept (t' := tk) fun b o e => Heap.get?_push_of_some _ e, turn_range _ lo (hi - lo).toNat, ?_, fun b hb => ?_, q⟩
  · have e1 : lo + ((0 : Nat) : Int) * 1 = lo := by simp
    have e2 : (((hi - lo).toNat : Nat) : Int) - ((0 : Nat) : Int) = Builtin.Range.rangeSize lo hi 1 := by rw [rangeSize_one]; split <;> omega
    show IsRangeIter _ _ (lo + ((0 : Nat) : Int) * 1) ((((hi - lo).toNat : Nat) : Int) - ((0 : Nat) : Int)) 1
    rw [e1, e2]
    exact Heap.get?_push_size _ rfl
  · have e : b = (s.heap.push { cls := .type "range", data := .fields #[.int lo t, .int hi u, .int 1 v] }).objs.size := by simpa using hb
    subst e
    exact I1.fpOk (Nat.le_refl _) (I1.hok.fresh (Nat.le_refl _))
def iRng1 (ta : TA) : TI := fun σ H R => ta σ H fun vs H1 => ∃ j : Int, vs = [.int j] ∧ -(2 ^ 62) ≤ j ∧ j < 2 ^ 62 ∧ R (Itr 0 j.toNat) H1
theorem pi_range1 {a : Expr} {ta : TA} {p pos : Pos} (hg : Gl X "range") (hm : X.mg "range" = none) (ha : PA X [a] ta) (hs : starEach [a] X.env = [(false, eval a X.env)] := by rfl) : PI X tg (.Call (.Name "range" p) [a] [] pos) (iRng1 ta) := by
  intro pins s σ H R I h
  refine Call_ (ld_blt I hg hm boot_range (PyProof.Rows.callWith_type1 (thn (ha pos pins s σ H _ I h) fun us s1 ⟨vs, H1, I1, r1, q1⟩ => ?_) hs rfl))
  obtain ⟨j, e, q1, q2, q⟩ := q1
  subst e
  cases r1 with
  | cons r rr =>
    cases rr
    obtain ⟨t, rfl⟩ := r
    exact call_range_1 (range_it I1 (by omega) (by omega) q1 q2 (by simpa using q))

/-! ### for -/
/-- W: the invariant by the turn and a measure; N: what the body is to reach -/
def tFor (wi : TI) (g : TG) (tb : TS) : TS := fun D σ H => wi σ H fun J H1 => ∃ W : Nat → Nat → St → Hp → Prop, (∃ m, W 0 m σ H1) ∧ ∀ i m σ H, W i m σ H →
  (J.stop i H ∧ D.nx σ H) ∨ (J.go i H ∧ ∃ N : St → Hp → Prop, (∀ σ' H', N σ' H' → ∃ m', m' < m ∧ W (i + 1) m' σ' H') ∧ ∀ x H', J.yld i H x H' → g x σ H' fun σ2 H2 => tb { D with nx := N, ct := N, bk := D.nx } σ2 H2)
/-- the records at fp as they stand -/
def pinsAt (fp : List Addr) (h : Heap) : List (Addr × Obj) := fp.filterMap fun b => (h.get? b).map fun o => (b, o)
theorem mem_pinsAt {fp : List Addr} {h : Heap} {b : Addr} {o : Obj} (hb : b ∈ fp) (e : h.get? b = some o) : (b, o) ∈ pinsAt fp h := List.mem_filterMap.mpr ⟨b, hb, by rw [e]; rfl⟩
theorem of_pinsAt {fp : List Addr} {h : Heap} {p : Addr × Obj} (hp : p ∈ pinsAt fp h) : p.1 ∈ fp ∧ h.get? p.1 = some p.2 := by
  obtain ⟨b, hb, e⟩ := List.mem_filterMap.mp hp
  cases q : h.get? b with
  | none => rw [q] at e; cases e
  | some o =>
    rw [q] at e
    have e' : (b, o) = p := Option.some.inj e
    subst e'
    exact ⟨hb, q⟩
theorem Inv.pinned {pins : List (Addr × Obj)} {σ : St} {H : Hp} {s : Shared} {fp : List Addr} (I : Inv X pins σ H s) (hf : ∀ b ∈ fp, FpOk X pins H b) (ho : ∀ b ∈ fp, ∃ o, s.heap.get? b = some o ∧ ∀ v, o.data ≠ .cell v) : Inv X (pins ++ pinsAt fp s.heap) σ H s :=
  I.pins_of fun p hp => (List.mem_append.mp hp).elim (fun z => I.pin p (List.mem_append_right _ z)) fun z => by
    obtain ⟨hb, e⟩ := of_pinsAt z
    obtain ⟨f0, f1, f2, _⟩ := hf p.1 hb
    obtain ⟨o, e', d⟩ := ho p.1 hb
    rw [e] at e'; cases e'
    exact ⟨e, f0, f1, f2, d⟩
theorem Inv.unpinned {pins pl : List (Addr × Obj)} {σ : St} {H : Hp} {s : Shared} (I : Inv X (pins ++ pl) σ H s) : Inv X pins σ H s := I.pins_of fun p hp => I.pin p (List.mem_append_right _ (List.mem_append_left _ hp))
theorem ps_for {iter : Expr} {body : List Stmt} {wi : TI} {g : TG} {tb : TS} {pos : Pos} (hp : PassesOwn (model X.prog X.w) X.A X.env X.xe) (hc : X.calm = true) (hi : PI X tg iter wi) (hg : PG X tg g) (hb : PSs X body tb)
    (hs : ∀ x, foldedSetIterable iter X.env x = pure x := by intro _; rfl) : PS X (.For tg iter body [] pos) (tFor wi g tb) := by
  intro pins s σ H D I h
  refine wpAny_For (thn (hi pins s σ H _ I h) fun v s1 h1 => thn h1 fun itv s2 h2 => ?_) hs
  obtain ⟨it, fp, tn, J, H2, e, I2, T, st2, f2, W, ⟨m0, w0⟩, turn⟩ := h2
  subst e
  -- what stays true of the iterator's objects through the loop
  have stat : ∀ {H' : Hp}, (∀ b ∈ fp, H' b = none) → ∀ b ∈ fp, FpOk X pins H' b := fun hn b hb => ⟨hn b hb, (f2 b hb).2⟩
  refine codeAny_forLoop_any (fun n s' => ∃ i σ' H', Inv X pins σ' H' s' ∧ tn i s'.heap ∧ (∀ b ∈ fp, H' b = none) ∧ W i n σ' H') ?_ m0 ⟨0, σ, H2, I2, st2, fun b hb => (f2 b hb).1, w0⟩
  rintro n s3 ⟨i, σ3, H3, I3, st3, fr3, w3⟩
  rcases turn i n σ3 H3 w3 with ⟨stop, qn⟩ | ⟨go, N, hN, step⟩
  · refine wpAny_passesOwn hp (thn (T.done X rfl rfl rfl hc i pins s3 σ3 H3 X.xe I3 (stat fr3) st3 stop) fun r s4 ⟨hr, I4⟩ => ?_)
    subst hr
    exact wpAny_execs_nil ⟨σ3, H3, I4, qn⟩
  · refine wpAny_passesOwn hp (thn (T.item X rfl rfl rfl hc i pins s3 σ3 H3 X.xe I3 (stat fr3) st3 go) fun r s4 ⟨u, hr, h4⟩ => ?_)
    subst hr
    refine wpAny_passesOwn hp (thn h4 fun _ s5 ⟨x, H5, I5, r5, y5, st5, fr5⟩ => ?_)
    have I5' := I5.pinned (stat fr5) (T.obj _ _ st5)
    refine wpAny_passesOwn hp (thn (hg _ s5 σ3 H5 x u _ I5' r5 (step x H5 y5)) fun _ s6 ⟨σ6, H6, I6, q6⟩ => ?_)
    refine wpAny_passesOwn hp (thn (hb _ s6 σ6 H6 _ I6 q6) fun f s7 q7 => ?_)
    have again : ∀ {σ7 : St} {H7 : Hp}, Inv X (pins ++ pinsAt fp s5.heap) σ7 H7 s7 → N σ7 H7 → ∃ m, m < n ∧ ∃ i σ' H', Inv X pins σ' H' s7 ∧ tn i s7.heap ∧ (∀ b ∈ fp, H' b = none) ∧ W i m σ' H' := fun {σ7 H7} I7 n7 => by
      obtain ⟨m', hm, w7⟩ := hN σ7 H7 n7
      refine ⟨m', hm, i + 1, σ7, H7, I7.unpinned, T.keep _ _ _ st5 fun b hb o e => (I7.pin (b, o) (List.mem_append_right _ (List.mem_append_right _ (mem_pinsAt hb e)))).1, fun b hb => ?_, w7⟩
      obtain ⟨o, e, d⟩ := T.obj _ _ st5 b hb
      exact (I7.pin (b, o) (List.mem_append_right _ (List.mem_append_right _ (mem_pinsAt hb e)))).2.1
    cases f with
    | next => obtain ⟨σ7, H7, I7, n7⟩ := q7; exact again I7 n7
    | cont => obtain ⟨σ7, H7, I7, n7⟩ := q7; exact again I7 n7
    | brk => obtain ⟨σ7, H7, I7, q7⟩ := q7; exact ⟨σ7, H7, I7.unpinned, q7⟩
    | ret v => obtain ⟨x7, σ7, H7, I7, r7, q7⟩ := q7; exact ⟨x7, σ7, H7, I7.unpinned, r7, q7⟩
end

/-! ### the forms one uses -/
/-- over a list that the body leaves as it is -/
theorem for_list {K : PySem.W.Frag} {a : Addr} {xs : List V} {g : TG} {tb : TS} {D : Ends} {σ : St} {H : Hp} (Pv : Nat → St → Hp → Prop) (h0 : Pv 0 σ H) (hl : ∀ i σ H, i ≤ xs.length → Pv i σ H → SqL K H a xs)
    (hs : ∀ i x σ H, xs[i]? = some x → Pv i σ H → g x σ H fun σ2 H2 => tb { D with nx := Pv (i + 1), ct := Pv (i + 1), bk := D.nx } σ2 H2) (hd : ∀ σ H, Pv xs.length σ H → D.nx σ H) :
    ∃ W : Nat → Nat → St → Hp → Prop, (∃ m, W 0 m σ H) ∧ ∀ i m σ H, W i m σ H →
      ((Itl K a).stop i H ∧ D.nx σ H) ∨ ((Itl K a).go i H ∧ ∃ N : St → Hp → Prop, (∀ σ' H', N σ' H' → ∃ m', m' < m ∧ W (i + 1) m' σ' H') ∧ ∀ x H', (Itl K a).yld i H x H' → g x σ H' fun σ2 H2 => tb { D with nx := N, ct := N, bk := D.nx } σ2 H2) := by
  refine ⟨fun i m σ H => m = xs.length - i ∧ i ≤ xs.length ∧ Pv i σ H, ⟨xs.length, by simp, Nat.zero_le _, h0⟩, ?_⟩
  rintro i m σ H ⟨rfl, hi, p⟩
  have q := hl i σ H hi p
  by_cases hlt : i < xs.length
  · refine .inr ⟨⟨xs, xs[i], q, by simp [hlt]⟩, Pv (i + 1), fun σ' H' p' => ⟨xs.length - (i + 1), by omega, rfl, hlt, p'⟩, fun x H' y => ?_⟩
    obtain ⟨e, y⟩ := y
    subst e
    exact hs i x σ _ (y xs q) p
  · have e : i = xs.length := by omega
    subst e
    exact .inl ⟨⟨xs, q, Nat.le_refl _⟩, hd σ H p⟩
/-- while, by a word and a measure of the state -/
theorem while_by {c : TT} {tb : TS} {D : Ends} {σ : St} {H : Hp} (Pv : St → Hp → Prop) (μ : St → Hp → Nat) (h0 : Pv σ H)
    (hs : ∀ σ H, Pv σ H → c σ H fun b H1 => if b = true then tb { D with nx := fun σ' H' => Pv σ' H' ∧ μ σ' H' < μ σ H, ct := fun σ' H' => Pv σ' H' ∧ μ σ' H' < μ σ H, bk := D.nx } σ H1 else D.nx σ H1)
    (mono : ∀ σ H Q Q', (∀ b H1, Q b H1 → Q' b H1) → c σ H Q → c σ H Q') : tWhile c tb D σ H := by
  refine ⟨fun m σ H => m = μ σ H ∧ Pv σ H, ⟨_, rfl, h0⟩, ?_⟩
  rintro m σ H ⟨rfl, p⟩
  refine mono σ H _ _ (fun b H1 q => ?_) (hs σ H p)
  cases b with
  | true => exact ⟨_, fun σ' H' ⟨p', l⟩ => ⟨_, l, rfl, p'⟩, q⟩
  | false => exact q
end L2

namespace L2
open PySem PySem.Spec PyProof.Rows

abbrev R2 := V → V → Hp → VK → Prop
/-- a two-place operation on values: f is binaryOp op, inplaceOp op or compareOp op -/
def OpR (X : Cx) (f : Value → Value → Sem Value) (r : R2) : Prop :=
  ∀ (pins : List (Addr × Obj)) (s : Shared) (σ : St) (H : Hp) (x y : V) (v u : Value) (Q : VK), Inv X pins σ H s → RelV x v → RelV y u → r x y H Q →
    wpAny (model X.prog X.w) X.A (f v u) (EP X pins σ Q) X.xe s
/-- a one-place operation -/
def UnR (X : Cx) (f : Value → Sem Value) (r : V → Hp → VK → Prop) : Prop :=
  ∀ (pins : List (Addr × Obj)) (s : Shared) (σ : St) (H : Hp) (x : V) (v : Value) (Q : VK), Inv X pins σ H s → RelV x v → r x H Q →
    wpAny (model X.prog X.w) X.A (f v) (EP X pins σ Q) X.xe s
/-- a call of a value that is known (a builtin, a type) with values -/
def CallR (X : Cx) (f : Value) (r : List V → Hp → VK → Prop) : Prop :=
  ∀ (pins : List (Addr × Obj)) (s : Shared) (σ : St) (H : Hp) (xs : List V) (us : List Value) (Q : VK), Inv X pins σ H s → Vals xs us → r xs H Q →
    wpAny (model X.prog X.w) X.A (call f us) (EP X pins σ Q) X.xe s
/-- a value's truth -/
def TruR (X : Cx) (r : V → Hp → (Bool → Hp → Prop) → Prop) : Prop :=
  ∀ (pins : List (Addr × Obj)) (s : Shared) (σ : St) (H : Hp) (x : V) (v : Value) (Q : Bool → Hp → Prop), Inv X pins σ H s → RelV x v → r x H Q →
    wpAny (model X.prog X.w) X.A (truthy v) (TP X pins σ Q) X.xe s

def tOp (r : R2) (ta tb : TE) : TE := fun σ H Q => ta σ H fun x H1 => tb σ H1 fun y H2 => r x y H2 Q
def tUn (r : V → Hp → VK → Prop) (ta : TE) : TE := fun σ H Q => ta σ H fun x H1 => r x H1 Q
/-- ints in, under C, and a value out -/
def rI (C : Int → Int → Prop) (g : Int → Int → V) : R2 := fun x y H Q => ∃ i j, x = .int i ∧ y = .int j ∧ C i j ∧ Q (g i j) H
def rI0 (g : Int → Int → V) : R2 := fun x y H Q => ∃ i j, x = .int i ∧ y = .int j ∧ Q (g i j) H
def rU (g : Int → V) : V → Hp → VK → Prop := fun x H Q => ∃ i, x = .int i ∧ Q (g i) H

section
variable {X : Cx} {a b c : Expr} {ta tb tc : TE} {pos : Pos}

theorem binT (ha : PE X a ta) (hb : PE X b tb) {pins : List (Addr × Obj)} {s : Shared} {σ : St} {H : Hp} {R : V → V → Hp → Prop} (I : Inv X pins σ H s)
    (h : ta σ H fun x H1 => tb σ H1 fun y H2 => R x y H2) {Q : Value → Shared → Prop} {f : Value → Value → Sem Value}
    (hf : ∀ v u s2 x y H2, Inv X pins σ H2 s2 → RelV x v → RelV y u → R x y H2 → wpAny (model X.prog X.w) X.A (f v u) Q X.xe s2) :
    wpAny (model X.prog X.w) X.A (eval a X.env) (fun v s₁ => wpAny (model X.prog X.w) X.A (eval b X.env) (fun u s₂ => wpAny (model X.prog X.w) X.A (f v u) Q X.xe s₂) X.xe s₁) X.xe s := by
  refine thn (ha pins s σ H _ I h) fun v s1 ⟨x, H1, I1, r1, q1⟩ => ?_
  refine thn (hb pins s1 σ H1 _ I1 q1) fun u s2 ⟨y, H2, I2, r2, q2⟩ => ?_
  exact hf v u s2 x y H2 I2 r1 r2 q2

theorem pe_op {op : Operator} {r : R2} (ho : OpR X (binaryOp op) r) (ha : PE X a ta) (hb : PE X b tb) : PE X (.BinOp a op b pos) (tOp r ta tb) := by
  intro pins s σ H Q I h
  exact wpAny_BinOp (binT ha hb I h fun v u s2 x y H2 I2 rx ry q => ho pins s2 σ H2 x y v u Q I2 rx ry q)
theorem pe_un {op : UnaryOp} {r : V → Hp → VK → Prop} (ho : UnR X (unaryOp op) r) (ha : PE X a ta) : PE X (.UnaryOp op a pos) (tUn r ta) := by
  intro pins s σ H Q I h
  exact UnaryOp_ (thn (ha pins s σ H _ I h) fun v s1 ⟨x, H1, I1, r1, q1⟩ => ho pins s1 σ H1 x v Q I1 r1 q1)

/-! ### ints -/
theorem opI {f : Value → Value → Sem Value} {C : Int → Int → Prop} {g : Int → Int → Int}
    (rule : ∀ (i j : Int) (t u : Tok) (s : Shared) (Q : Value → Shared → Prop) (E : Value → Shared → Prop), C i j → Q (.int (g i j) s.toks) { s with toks := s.toks + 1 } → wpAny (model X.prog X.w) X.A (f (.int i t) (.int j u)) Q E s) :
    OpR X f (rI C fun i j => .int (g i j)) := by
  intro pins s σ H x y v u Q I rx ry h
  obtain ⟨i, j, rfl, rfl, hc, q⟩ := h
  obtain ⟨t, rfl⟩ := rx
  obtain ⟨t', rfl⟩ := ry
  exact rule i j t t' s _ _ hc ⟨.int (g i j), H, I.tok _, ⟨_, rfl⟩, q⟩
theorem opI0 {f : Value → Value → Sem Value} {g : Int → Int → Int}
    (rule : ∀ (i j : Int) (t u : Tok) (s : Shared) (Q : Value → Shared → Prop) (E : Value → Shared → Prop), Q (.int (g i j) s.toks) { s with toks := s.toks + 1 } → wpAny (model X.prog X.w) X.A (f (.int i t) (.int j u)) Q E s) :
    OpR X f (rI0 fun i j => .int (g i j)) := by
  intro pins s σ H x y v u Q I rx ry h
  obtain ⟨i, j, rfl, rfl, q⟩ := h
  obtain ⟨t, rfl⟩ := rx
  obtain ⟨t', rfl⟩ := ry
  exact rule i j t t' s _ _ ⟨.int (g i j), H, I.tok _, ⟨_, rfl⟩, q⟩
theorem opB0 {f : Value → Value → Sem Value} {g : Int → Int → Bool}
    (rule : ∀ (i j : Int) (t u : Tok) (s : Shared) (Q : Value → Shared → Prop) (E : Value → Shared → Prop), Q (.bool (g i j)) s → wpAny (model X.prog X.w) X.A (f (.int i t) (.int j u)) Q E s) :
    OpR X f (rI0 fun i j => .bl (g i j)) := by
  intro pins s σ H x y v u Q I rx ry h
  obtain ⟨i, j, rfl, rfl, q⟩ := h
  obtain ⟨t, rfl⟩ := rx
  obtain ⟨t', rfl⟩ := ry
  exact rule i j t t' s _ _ ⟨.bl (g i j), H, I, rfl, q⟩

def CDiv (i j : Int) : Prop := 0 < j ∧ j < 1073741824
def CMul (i j : Int) : Prop := (-(2 ^ 64) < i ∧ i < 2 ^ 64) ∨ (-(2 ^ 64) < j ∧ j < 2 ^ 64)
theorem CMul.ok {i j : Int} (h : CMul i j) : IntMulOk i j := by
  rcases h with ⟨h1, h2⟩ | ⟨h1, h2⟩
  · exact .of_left (intBits_le_64 h1 h2)
  · exact .of_right (intBits_le_64 h1 h2)

theorem op_add : OpR X (binaryOp .Add) (rI0 fun i j => .int (i + j)) := opI0 fun _ _ _ _ _ _ _ q => add_int q
theorem op_sub : OpR X (binaryOp .Sub) (rI0 fun i j => .int (i - j)) := opI0 fun _ _ _ _ _ _ _ q => sub_int q
theorem op_mul : OpR X (binaryOp .Mult) (rI CMul fun i j => .int (i * j)) := opI fun _ _ _ _ _ _ _ hc q => mul_int q hc.ok
/-- // by a positive divisor -/
theorem op_fdiv : OpR X (binaryOp .FloorDiv) (rI CDiv fun i j => .int (i / j)) := opI fun i j _ _ _ _ _ hc q => by
  have h1 : (0 : Int) < j := hc.1
  have h2 : j < 1073741824 := hc.2
  exact floordiv_int (by omega) (by rw [Int.fdiv_eq_ediv_of_nonneg i (by omega)]; exact q) (.inl (PyProof.noPylong_small (by omega)))
/-- % by a positive divisor of any size -/
theorem op_mod : OpR X (binaryOp .Mod) (rI (fun _ j => 0 < j) fun i j => .int (i % j)) := opI fun i j _ _ _ _ _ hc q => by
  have h1 : (0 : Int) < j := hc
  exact mod_int' (by omega) (by rw [Int.fmod_eq_emod_of_nonneg i (by omega)]; exact q)


theorem unI {f : Value → Sem Value} {g : Int → Int}
    (rule : ∀ (i : Int) (t : Tok) (s : Shared) (Q : Value → Shared → Prop) (E : Value → Shared → Prop), Q (.int (g i) s.toks) { s with toks := s.toks + 1 } → wpAny (model X.prog X.w) X.A (f (.int i t)) Q E s) :
    UnR X f (rU fun i => .int (g i)) := by
  intro pins s σ H x v Q I rx h
  obtain ⟨i, rfl, q⟩ := h
  obtain ⟨t, rfl⟩ := rx
  exact rule i t s _ _ ⟨.int (g i), H, I.tok _, ⟨_, rfl⟩, q⟩
theorem un_neg : UnR X (unaryOp .USub) (rU fun i => .int (-i)) := unI fun _ _ _ _ _ q => neg_int q

/-! ### bools among ints: n += (a < b) -/
end

/-! ### comparisons -/
/-- the scalars that == tells apart as data does -/
def scal : V → V → Bool
  | .non, .non => true | .non, .int _ => true | .int _, .non => true | .non, .bl _ => true | .bl _, .non => true | .non, .str _ => true | .str _, .non => true
  | .int _, .int _ => true | .bl _, .bl _ => true | .str _, .str _ => true | .byt _, .byt _ => true
  | .int _, .str _ => true | .str _, .int _ => true | .bl _, .str _ => true | .str _, .bl _ => true
  | _, _ => false
def rEq : R2 := fun x y H Q => scal x y = true ∧ Q (.bl (decide (x = y))) H
def rNe : R2 := fun x y H Q => scal x y = true ∧ Q (.bl (!decide (x = y))) H

theorem dec_int {i j : Int} : decide (V.int i = V.int j) = (i == j) := by
  rw [Bool.eq_iff_iff]
  simp
theorem dec_bl {i j : Bool} : decide (V.bl i = V.bl j) = (i == j) := by
  rw [Bool.eq_iff_iff]
  simp
theorem dec_str {i j : Str} : decide (V.str i = V.str j) = (i == j) := by
  rw [Bool.eq_iff_iff]
  simp
theorem dec_byt {i j : Array UInt8} : decide (V.byt i = V.byt j) = (i.toList == j.toList) := by
  rw [Bool.eq_iff_iff]
  cases i
  cases j
  simp

section
variable {X : Cx} {a b c : Expr} {ta tb tc : TE} {pos : Pos}
theorem fin_bl {pins : List (Addr × Obj)} {σ : St} {H : Hp} {s : Shared} {Q : VK} {k k' : Bool} (I : Inv X pins σ H s) (q : Q (.bl k) H) (e : k = k') : EP X pins σ Q (.bool k') s := by
  subst e
  exact ⟨.bl k, H, I, rfl, q⟩
theorem op_eq : OpR X (compareOp .Eq) rEq := by
  intro pins s σ H x y v u Q I rx ry h
  obtain ⟨hs, q⟩ := h
  cases x with
  | non =>
    cases rx
    cases y with
    | non => cases ry; exact PySem.EqNone.eq_none_none (fin_bl I q (by simp))
    | bl j => cases ry; exact PySem.EqNone.eq_none_bool (fin_bl I q (by simp))
    | int j => obtain ⟨t', rfl⟩ := ry; exact PySem.EqNone.eq_none_int (fin_bl I q (by simp))
    | str j => obtain ⟨t', rfl⟩ := ry; exact PySem.EqNone.eq_none_str (fin_bl I q (by simp))
    | _ => exact absurd (show false = true from hs) Bool.false_ne_true
  | bl i =>
    cases rx
    cases y with
    | non => cases ry; exact PySem.EqNone.eq_bool_none (fin_bl I q (by simp))
    | bl j => cases ry; exact eq_bool (fin_bl I q dec_bl)
    | str j => obtain ⟨t', rfl⟩ := ry; exact PySem.EqMixed.eq_bool_str (fin_bl I q (by simp))
    | _ => exact absurd (show false = true from hs) Bool.false_ne_true
  | int i =>
    obtain ⟨t, rfl⟩ := rx
    cases y with
    | non => cases ry; exact PySem.EqNone.eq_int_none (fin_bl I q (by simp))
    | int j => obtain ⟨t', rfl⟩ := ry; exact eq_int (fin_bl I q dec_int)
    | str j => obtain ⟨t', rfl⟩ := ry; exact PySem.EqMixed.eq_int_str (fin_bl I q (by simp))
    | _ => exact absurd (show false = true from hs) Bool.false_ne_true
  | str i =>
    obtain ⟨t, rfl⟩ := rx
    cases y with
    | non => cases ry; exact PySem.EqNone.eq_str_none (fin_bl I q (by simp))
    | bl j => cases ry; exact PySem.EqMixed.eq_str_bool (fin_bl I q (by simp))
    | int j => obtain ⟨t', rfl⟩ := ry; exact PySem.EqMixed.eq_str_int (fin_bl I q (by simp))
    | str j => obtain ⟨t', rfl⟩ := ry; exact eq_str (fin_bl I q dec_str)
    | _ => exact absurd (show false = true from hs) Bool.false_ne_true
  | byt i =>
    obtain ⟨t, rfl⟩ := rx
    cases y with
    | byt j => obtain ⟨t', rfl⟩ := ry; exact PySem.W.eq_bytes (fin_bl I q dec_byt)
    | _ => exact absurd (show false = true from hs) Bool.false_ne_true
  | _ => cases y <;> exact absurd (show false = true from hs) Bool.false_ne_true
theorem op_ne : OpR X (compareOp .NotEq) rNe := by
  intro pins s σ H x y v u Q I rx ry h
  obtain ⟨hs, q⟩ := h
  cases x with
  | non =>
    cases rx
    cases y with
    | non => cases ry; exact PySem.EqNone.ne_none_none (fin_bl I q (by simp))
    | bl j => cases ry; exact PySem.EqNone.ne_none_bool (fin_bl I q (by simp))
    | int j => obtain ⟨t', rfl⟩ := ry; exact PySem.EqNone.ne_none_int (fin_bl I q (by simp))
    | str j => obtain ⟨t', rfl⟩ := ry; exact PySem.EqNone.ne_none_str (fin_bl I q (by simp))
    | _ => exact absurd (show false = true from hs) Bool.false_ne_true
  | bl i =>
    cases rx
    cases y with
    | non => cases ry; exact PySem.EqNone.ne_bool_none (fin_bl I q (by simp))
    | bl j => cases ry; exact ne_bool (fin_bl I q (congrArg not dec_bl))
    | str j => obtain ⟨t', rfl⟩ := ry; exact PySem.EqMixed.ne_bool_str (fin_bl I q (by simp))
    | _ => exact absurd (show false = true from hs) Bool.false_ne_true
  | int i =>
    obtain ⟨t, rfl⟩ := rx
    cases y with
    | non => cases ry; exact PySem.EqNone.ne_int_none (fin_bl I q (by simp))
    | int j => obtain ⟨t', rfl⟩ := ry; exact ne_int (fin_bl I q (congrArg not dec_int))
    | str j => obtain ⟨t', rfl⟩ := ry; exact PySem.EqMixed.ne_int_str (fin_bl I q (by simp))
    | _ => exact absurd (show false = true from hs) Bool.false_ne_true
  | str i =>
    obtain ⟨t, rfl⟩ := rx
    cases y with
    | non => cases ry; exact PySem.EqNone.ne_str_none (fin_bl I q (by simp))
    | bl j => cases ry; exact PySem.EqMixed.ne_str_bool (fin_bl I q (by simp))
    | int j => obtain ⟨t', rfl⟩ := ry; exact PySem.EqMixed.ne_str_int (fin_bl I q (by simp))
    | str j => obtain ⟨t', rfl⟩ := ry; exact ne_str (fin_bl I q (congrArg not dec_str))
    | _ => exact absurd (show false = true from hs) Bool.false_ne_true
  | byt i =>
    obtain ⟨t, rfl⟩ := rx
    cases y with
    | byt j => obtain ⟨t', rfl⟩ := ry; exact PySem.W.ne_bytes (fin_bl I q (congrArg not dec_byt))
    | _ => exact absurd (show false = true from hs) Bool.false_ne_true
  | _ => cases y <;> exact absurd (show false = true from hs) Bool.false_ne_true

theorem op_lt : OpR X (compareOp .Lt) (rI0 fun i j => .bl (decide (i < j))) := opB0 fun _ _ _ _ _ _ _ q => lt_int q
theorem op_le : OpR X (compareOp .LtE) (rI0 fun i j => .bl (decide (i ≤ j))) := opB0 fun _ _ _ _ _ _ _ q => le_int q
theorem op_gt : OpR X (compareOp .Gt) (rI0 fun i j => .bl (decide (j < i))) := opB0 fun _ _ _ _ _ _ _ q => gt_int q
theorem op_ge : OpR X (compareOp .GtE) (rI0 fun i j => .bl (decide (j ≤ i))) := opB0 fun _ _ _ _ _ _ _ q => ge_int q




theorem nomark (b : Expr) {op : CmpOp} (h : op ≠ .In := by decide) (h2 : op ≠ .NotIn := by decide) : behindInMarks op b = false := by
  have e1 : (op == CmpOp.In) = false := by cases op <;> first | rfl | exact absurd rfl h
  have e2 : (op == CmpOp.NotIn) = false := by cases op <;> first | rfl | exact absurd rfl h2
  cases b <;> simp [behindInMarks, e1, e2]
/-- a comparison as a value; hm: nomark b, or (for in, not in) by with_unfolding_all rfl -/
theorem pe_cmpR {op : CmpOp} {r : R2} (ho : OpR X (compareOp op) r) (ha : PE X a ta) (hb : PE X b tb) (hm : behindInMarks op b = false) : PE X (.Compare a [op] [b] pos) (tOp r ta tb) := by
  intro pins s σ H Q I h
  exact wpAny_Compare1 (binT ha hb I h fun v u s2 x y H2 I2 rx ry q => ho pins s2 σ H2 x y v u Q I2 rx ry q) hm
/-- a reading of a value as a test -/
def tTest (t : TE) : TT := fun σ H Q => t σ H fun x H' => ∃ k, x = .bl k ∧ Q k H'
theorem pt_cmpR {op : CmpOp} {r : R2} (ho : OpR X (compareOp op) r) (ha : PE X a ta) (hb : PE X b tb) (hm : behindInMarks op b = false) : PT X (.Compare a [op] [b] pos) (tTest (tOp r ta tb)) := by
  intro pins s σ H Q I h
  refine wpAny_isTrue_Compare1 (thn (ha pins s σ H _ I h) fun v s1 ⟨x, H1, I1, r1, q1⟩ => thn (hb pins s1 σ H1 _ I1 q1) fun u s2 ⟨y, H2, I2, r2, q2⟩ =>
    thn (ho pins s2 σ H2 x y v u _ I2 r1 r2 q2) fun c s3 ⟨z, H3, I3, r3, k, e, q3⟩ => ?_) hm
  subst e
  cases r3
  exact wpAny_truthy_bool ⟨H3, I3, q3⟩
/-- a op1 b op2 c -/
def tChain (r r' : R2) (ta tb tc : TE) : TE := fun σ H Q => ta σ H fun x H1 => tb σ H1 fun y H2 => r x y H2 fun z H3 => ∃ k, z = .bl k ∧
  (if k = true then tc σ H3 fun w' H4 => r' y w' H4 Q else Q (.bl false) H3)
theorem pe_chain {op op' : CmpOp} {r r' : R2} (ho : OpR X (compareOp op) r) (ho' : OpR X (compareOp op') r') (ha : PE X a ta) (hb : PE X b tb) (hc : PE X c tc)
    (hm : lastMarks [op, op'] [b, c] = false := by with_unfolding_all rfl) : PE X (.Compare a [op, op'] [b, c] pos) (tChain r r' ta tb tc) := by
  intro pins s σ H Q I h
  refine Compare_chain (thn (ha pins s σ H _ I h) fun v s1 ⟨x, H1, I1, r1, q1⟩ => chain_link (thn (hb pins s1 σ H1 _ I1 q1) fun u s2 ⟨y, H2, I2, r2, q2⟩ =>
    thn (ho pins s2 σ H2 x y v u _ I2 r1 r2 q2) fun d s3 ⟨z, H3, I3, r3, k, e, q3⟩ => ?_)) hm
  subst e
  cases r3
  refine wpAny_truthy_bool ?_
  cases k with
  | false => exact ite_ff ⟨.bl false, H3, I3, rfl, q3⟩
  | true => exact ite_tt (chain_last (thn (hc pins s3 σ H3 _ I3 q3) fun w' s4 ⟨z', H4, I4, r4, q4⟩ => ho' pins s4 σ H4 y z' u w' Q I4 r2 r4 q4))

/-! ### truth -/
/-- a value's truth by the abstract heap -/
def TruV (K : PySem.W.Frag) (x : V) (H : Hp) (k : Bool) : Prop :=
  match x with
  | .non => k = false
  | .bl b => k = b
  | .int i => k = (i != 0)
  | .str y => y.length ≤ sizeLine ∧ k = ((y.length : Int) != 0)
  | .byt y => y.size ≤ sizeLine ∧ k = ((y.size : Int) != 0)
  | .ref p => (∃ xs, SqL K H p xs ∧ k = !xs.isEmpty) ∨ (∃ xs, SqT K H p xs ∧ k = !xs.isEmpty) ∨ ∃ kvs, H p = some (.dK kvs) ∧ k = !kvs.isEmpty
  | _ => False
theorem isEmpty_kv {κ : Type} {kvs : List (κ × V)} {vs : List (κ × Value)} (r : KV kvs vs) : (!vs.isEmpty) = !kvs.isEmpty := by
  cases r <;> rfl
theorem isEmpty_of {xs : List V} {its : List Value} (r : Vals xs its) : (!its.toArray.isEmpty) = !xs.isEmpty := by
  cases r <;> simp
theorem line63 : (sizeLine : Nat) < 2 ^ 63 := by rw [sizeLine_eq]; decide
theorem tru_ok : TruR X (fun x H Q => ∃ k, TruV X.K x H k ∧ Q k H) := by
  intro pins s σ H x v Q I rx h
  obtain ⟨k, e, q⟩ := h
  have hl := line63
  have hs : sizeLine = 16777216 := sizeLine_eq
  cases x with
  | non =>
    cases rx
    have e' : k = false := e
    subst e'
    exact truthy_none ⟨H, I, q⟩
  | bl b =>
    cases rx
    have e' : k = b := e
    subst e'
    exact wpAny_truthy_bool ⟨H, I, q⟩
  | int i =>
    obtain ⟨t, rfl⟩ := rx
    have e' : k = (i != 0) := e
    subst e'
    exact PySem.P.truthy_int ⟨H, I, q⟩
  | str y =>
    obtain ⟨t, rfl⟩ := rx
    obtain ⟨hy, e'⟩ : y.length ≤ sizeLine ∧ k = ((y.length : Int) != 0) := e
    subst e'
    exact PySem.P.truthy_str (by omega) ⟨H, I.tok _, q⟩
  | byt y =>
    obtain ⟨t, rfl⟩ := rx
    obtain ⟨hy, e'⟩ : y.size ≤ sizeLine ∧ k = ((y.size : Int) != 0) := e
    subst e'
    exact PySem.W.truthy_bytes (by omega) ⟨H, I.tok _, q⟩
  | ref p =>
    cases rx
    have e' : (∃ xs, SqL X.K H p xs ∧ k = !xs.isEmpty) ∨ (∃ xs, SqT X.K H p xs ∧ k = !xs.isEmpty) ∨ ∃ kvs, H p = some (.dK kvs) ∧ k = !kvs.isEmpty := e
    rcases e' with ⟨xs, hx, e'⟩ | ⟨xs, hx, e'⟩ | ⟨kvs, hx, e'⟩
    · subst e'
      obtain ⟨its, r, pl, hz⟩ := I.list hx
      have hlen := r.length
      exact wpAny_truthy_list pl.isList (by simp only [List.size_toArray]; omega) ⟨H, I.tok _, by rw [isEmpty_of r]; exact q⟩
    · subst e'
      obtain ⟨its, r, pl, hz⟩ := I.tuple hx
      have hlen := r.length
      exact truthy_tuple pl (by simp only [List.size_toArray]; omega) ⟨H, I.tok _, by rw [isEmpty_of r]; exact q⟩
    · subst e'
      obtain ⟨hz, hS, vs, r, m⟩ : kvs.length ≤ sizeLine ∧ (p == sysModules) = false ∧ ∃ vs, KV kvs vs ∧ s.heap.DictOf (mixKind X.prog X.w) p vs := I.hok p _ hx
      have hlen : kvs.length = vs.length := Paired.length r
      exact wpAny_truthy_dict hS m (by omega) ⟨H, I.tok _, by rw [isEmpty_kv r]; exact q⟩
  | _ => exact (show False from e).elim
/-- any expression whose test is its value's truth (a name, a call, a subscript, a field ..: he by fun _ => rfl) -/
theorem pt_truth (ha : PE X a ta) (he : ∀ whole, isTrue a X.env whole = (do let v ← whole; standAt a.pos; holding [v] (truthy v))) :
    PT X a (fun σ H Q => ta σ H fun x H' => ∃ k, TruV X.K x H' k ∧ Q k H') := by
  intro pins s σ H Q I h
  exact isTrue_plain (thn (ha pins s σ H _ I h) fun v s1 ⟨x, H1, I1, r1, q1⟩ => tru_ok pins s1 σ H1 x v Q I1 r1 q1) (he _)

/-! ### strs and bytes -/


/-! ### scalar builtins, by CallR -/
theorem vals1 {x : V} {us : List Value} (r : Vals [x] us) : ∃ u, us = [u] ∧ RelV x u := by
  cases r with
  | cons r1 r2 => cases r2; exact ⟨_, rfl, r1⟩
end
end L2

namespace L2
open PySem PySem.Spec PyProof.Rows

/-! ### an instance, its attributes a map -/
structure ObjM (h : Heap) (x dx C : Addr) (mA : Str → Option Value) : Prop where
  obj : h.get? x = some (PySem.W.instObj C dx)
  ns : h.Ns1 dx mA
  ne : dx ≠ x

theorem lookIn_ns {h : Heap} {dx : Addr} {mA : Str → Option Value} (n : h.Ns1 dx mA) : ∃ od, h.get? dx = some od ∧ ∀ name, PySem.W.lookIn name od = some (mA name) := by
  obtain ⟨o, es, ep, ho, hd, hk, _, hm⟩ := n
  refine ⟨o, ho, fun name => ?_⟩
  have e := hm name
  unfold nsFind findBy at e
  rw [← Array.find?_toList] at e
  unfold PySem.W.lookIn
  rw [hd]
  dsimp only
  split
  · rename_i y q
    rw [q] at e
    exact congrArg some e
  · rename_i q
    rw [q] at e
    have a : es.toList.any (·.refKey) = false := by
      rw [List.any_eq_false]
      intro y hy
      obtain ⟨z, t, hkey⟩ := hk y (Array.mem_toList_iff.mp hy)
      simp [DictEntry.refKey, hkey]
    have a' : ¬ es.toList.any (·.refKey) = true := by rw [a]; exact Bool.false_ne_true
    rw [if_neg a']
    exact congrArg some e

theorem ObjM.look {h : Heap} {x dx C : Addr} {mA : Str → Option Value} (I : ObjM h x dx C mA) : ∃ od, PySem.W.InstAt h x (PySem.W.instObj C dx) C (some od) ∧ ∀ name, PySem.W.lookIn name od = some (mA name) :=
  let ⟨od, ho, hl⟩ := lookIn_ns I.ns
  ⟨od, ⟨I.obj, rfl, rfl, ho⟩, hl⟩

section
variable {prog : Program} {w : World} {A : Around} {E : Value → Shared → Prop} {s : Shared} {K : PySem.W.Frag} {x dx C f : Addr} {mA : Str → Option Value} {name : Str} {v : Value}

theorem get_map {expr : Bool} {Q : Value → Shared → Prop} (X : K.In s.heap) (I : ObjM s.heap x dx C mA) (hg : PySem.W.plainGet K C name = true) (hh : PySem.W.hasDictIn K C = true)
    (ha : PySem.W.findIn K (.ref C) name = some none) (hv : mA name = some v) (hv' : PySem.W.handedIn v = true) (h : Q v { s with toks := s.toks + 1 }) :
    wpAny (model prog w) A (getAttr (.ref x) name expr) Q E s := by
  obtain ⟨od, J, hl⟩ := I.look
  exact PySem.W.get_value X J (PySem.W.plainGet_of hg).1 (PySem.W.findObj_own hh ha rfl (by rw [hl, hv])) hv' h



theorem set_map {ns : List Str} {Q : Unit → Shared → Prop} (X : K.In s.heap) (I : ObjM s.heap x dx C mA)
    (hs : PySem.W.findIn K (.ref C) "__setattr__" = some (some (.builtin "object.__setattr__"))) (hp : PySem.W.plainOver K C = true) (ht : PySem.W.takerIn K C name = some none) (hh : PySem.W.hasDictIn K C = true)
    (hw : PySem.Within mA ns) (hsz : ns.length ≤ sizeLine)
    (h : ∀ h', ObjM h' x dx C (fun y => if y = name then some v else mA y) → Heap.SameBut dx s.heap h' → Q () { s with heap := h', toks := s.toks + 2 }) :
    wpAny (model prog w) A (setAttr (.ref x) name v) Q E s := by
  obtain ⟨od, J, hl⟩ := I.look
  refine PySem.W.set_plain X J hs (PySem.W.osa_open (s := { s with toks := s.toks + 1 }) (r := none) X J hp ht fun b => ?_)
  obtain ⟨cd, hc, hd'⟩ := PySem.W.any_some hh
  have hx : s.heap.get? x = some ⟨.ref C, some dx, .plain, #[]⟩ := I.obj
  refine wpAny_bind (wpAny_pure (wpAny_bind (wpAny_bind (wpAny_loadPart hx (wpAny_bind (PySem.W.Looks.here (s := { s with toks := s.toks + 1 }) (PySem.W.looks_clsIn X hc) ?_))))))
  rw [hd']
  refine wpAny_pure (a := some dx) (wpAny_bind (wpAny_pure (wpAny_bind ?_)))
  refine wpAny_nsSet1 (s := { s with toks := s.toks + 1 }) I.ns fun h' hn2 hs2 => ?_
  obtain ⟨oD, esD, epD, hoD, hdD, hcD⟩ := hn2.count (PySem.Within.cons name v hw)
  refine wpAny_bind (wpAny_lookBehind hoD (by rw [hdD]; exact pastItsLine_dict (Nat.le_trans hcD (by rw [List.length_cons]; omega))) ?_)
  exact wpAny_pure (h _ ⟨(hs2.2 _ (Ne.symm I.ne)).trans I.obj, hn2, I.ne⟩ hs2)

/-- C(..): the dict at the heap's end, the instance behind it; then its __init__ -/
theorem make_map {R : Result → Shared → Prop} {vs : List Value} {kw : List (Str × Value)} (X : K.In s.heap) (hm : PySem.W.makesIn K C = true)
    (hi : PySem.W.findIn K (.ref C) "__init__" = some (some (.ref f))) (hf : PySem.W.typeIn K (.ref f) = some (.type "function"))
    (h : codeAny (model prog w) (A.under (.builtin "type.__call__" ⟨.ref C :: vs, kw⟩)) (.call (.ref f) ⟨.ref (s.heap.objs.size + 1) :: vs, kw⟩) (PySem.W.InitBack (s.heap.objs.size + 1) R)
      { s with heap := (s.heap.push PySem.W.emptyDict).push (PySem.W.instObj C s.heap.objs.size) }) :
    codeAny (model prog w) A (.call (.ref C) ⟨vs, kw⟩) R s := by
  obtain ⟨hh, g, d, t, os⟩ := s
  exact PySem.W.make_core (PySem.W.makes_of X hm) (PySem.W.looks_findIn X hi) (fun self => PySem.W.bind_fn X self hf) (.inl rfl) h
end

/-! ### the attributes as a list of pairs -/
def putF (f : Str) (v : V) : List (Str × V) → List (Str × V)
  | [] => [(f, v)]
  | (g, x) :: r => if g = f then (g, v) :: r else (g, x) :: putF f v r
theorem lookup_putF (f g : Str) (v : V) : ∀ fs : List (Str × V), (putF f v fs).lookup g = if g = f then some v else fs.lookup g
  | [] => by
    show List.lookup g [(f, v)] = _
    by_cases h : g = f
    · have hb : (g == f) = true := beq_iff_eq.mpr h
      simp only [List.lookup, hb, if_pos h]
    · have hb : (g == f) = false := beq_eq_false_iff_ne.mpr h
      simp only [List.lookup, hb, if_neg h]
  | (k, x) :: r => by
    have ih := lookup_putF f g v r
    rw [show putF f v ((k, x) :: r) = (if k = f then (k, v) :: r else (k, x) :: putF f v r) from rfl]
    by_cases hk : k = f
    · rw [if_pos hk]
      by_cases h : g = k
      · have hb : (g == k) = true := beq_iff_eq.mpr h
        simp only [List.lookup, hb, if_pos (h.trans hk)]
      · have hb : (g == k) = false := beq_eq_false_iff_ne.mpr h
        simp only [List.lookup, hb, if_neg (fun e : g = f => h (e.trans hk.symm))]
    · rw [if_neg hk]
      by_cases h : g = k
      · have hb : (g == k) = true := beq_iff_eq.mpr h
        simp only [List.lookup, hb, if_neg (fun e : g = f => hk (h.symm.trans e))]
      · have hb : (g == k) = false := beq_eq_false_iff_ne.mpr h
        simp only [List.lookup, hb]
        exact ih
theorem keys_putF (f : Str) (v : V) : ∀ fs : List (Str × V), f ∈ (putF f v fs).map (·.1) ∧ ∀ g, g ∈ fs.map (·.1) → g ∈ (putF f v fs).map (·.1)
  | [] => ⟨by simp [putF], fun g h => by simp at h⟩
  | (k, x) :: r => by
    obtain ⟨i1, i2⟩ := keys_putF f v r
    rw [show putF f v ((k, x) :: r) = (if k = f then (k, v) :: r else (k, x) :: putF f v r) from rfl]
    by_cases hk : k = f
    · rw [if_pos hk]
      subst hk
      exact ⟨by simp, fun g h => by simpa using h⟩
    · rw [if_neg hk]
      refine ⟨?_, fun g h => ?_⟩
      · rw [List.map_cons]
        exact List.mem_cons_of_mem _ i1
      · rw [List.map_cons] at h ⊢
        rcases List.mem_cons.mp h with e | e
        · exact List.mem_cons.mpr (.inl e)
        · exact List.mem_cons_of_mem _ (i2 g e)
theorem length_putF (f : Str) (v : V) : ∀ fs : List (Str × V), (putF f v fs).length ≤ fs.length + 1
  | [] => by simp [putF]
  | (k, x) :: r => by
    have ih := length_putF f v r
    rw [show putF f v ((k, x) :: r) = (if k = f then (k, v) :: r else (k, x) :: putF f v r) from rfl]
    by_cases hk : k = f
    · rw [if_pos hk, List.length_cons, List.length_cons]; omega
    · rw [if_neg hk, List.length_cons, List.length_cons]; omega

theorem RelO.some_of {v : V} {o : Option Value} (r : RelO (some v) o) : ∃ u, o = some u ∧ RelV v u := by
  cases o with
  | none => exact (show False from r).elim
  | some u => exact ⟨u, rfl, r⟩
theorem handed_of {v : V} {u : Value} (r : RelV v u) : PySem.W.handedIn u = true := by
  cases v with
  | non => cases (show u = Value.none from r); rfl
  | bl b => cases (show u = Value.bool b from r); rfl
  | int i => obtain ⟨t, e⟩ := (show ∃ t, u = Value.int i t from r); cases e; rfl
  | str x => obtain ⟨t, e⟩ := (show ∃ t, u = Value.str x t from r); cases e; rfl
  | byt b => obtain ⟨t, e⟩ := (show ∃ t, u = Value.bytes b t from r); cases e; rfl
  | flt b => obtain ⟨t, e⟩ := (show ∃ t, u = Value.float b t from r); cases e; rfl
  | ref a => cases (show u = Value.ref a from r); rfl
  | ty n => cases (show u = Value.type n from r); rfl

section
variable {P : Program} {w : World} {H H' : Hp} {h h' : Heap} {a C dx : Addr} {fs fs' : List (Str × V)}
theorem ins_get (hok : HOk P w H h) (e : H a = some (.ins C dx fs)) : ∃ mA, ObjM h a dx C mA ∧ (∀ f, RelO (fs.lookup f) (mA f)) ∧ PySem.Within mA (fs.map (·.1)) ∧ fs.length ≤ 1000 ∧ H dx = some (.own a) := by
  obtain ⟨d, z, ne, ob, mA, n, r, q⟩ := (show ObjOk P w H h a (.ins C dx fs) from hok a _ e)
  exact ⟨mA, ⟨ob, n, ne⟩, r, q, z, d⟩
end

/-! ### what of the text a class must have -/
structure Cls (K : PySem.W.Frag) (C : Addr) : Prop where
  pg : PySem.W.plainGet K C Str.empty = true
  hd : PySem.W.hasDictIn K C = true
  po : PySem.W.plainOver K C = true
  sa : PySem.W.findIn K (.ref C) "__setattr__" = some (some (.builtin "object.__setattr__"))
theorem Cls.get {K : PySem.W.Frag} {C : Addr} (c : Cls K C) (f : Str) : PySem.W.plainGet K C f = true := c.pg
/-- no class of it has the name -/
def NoAttr (K : PySem.W.Frag) (C : Addr) (f : Str) : Prop := PySem.W.findIn K (.ref C) f = some none
theorem NoAttr.taker {K : PySem.W.Frag} {C : Addr} {f : Str} (n : NoAttr K C f) : PySem.W.takerIn K C f = some none := by
  unfold PySem.W.takerIn
  rw [show PySem.W.findIn K (.ref C) f = some none from n]
  rfl

section
variable {X : Cx} {pins : List (Addr × Obj)} {σ : St} {H : Hp} {s : Shared} {a C dx : Addr} {fs : List (Str × V)} {f : Str} {v : V} {A : Around} {E : Value → Shared → Prop}

theorem getattr_ok {b : Bool} {Q : Value → Shared → Prop} (I : Inv X pins σ H s) (e : H a = some (.ins C dx fs)) (c : Cls X.K C) (n : NoAttr X.K C f) (l : fs.lookup f = some v)
    (h : ∀ u s', Inv X pins σ H s' → RelV v u → Q u s') : wpAny (model X.prog X.w) A (getAttr (.ref a) f b) Q E s := by
  obtain ⟨mA, O, r, _, _, _⟩ := ins_get I.hok e
  obtain ⟨u, hu, ru⟩ := RelO.some_of (v := v) (o := mA f) (by rw [← l]; exact r f)
  exact get_map I.kIn O (c.get f) c.hd n hu (handed_of ru) (h u _ (I.tok _) ru)



theorem setattr_ok {y : V} {u : Value} {Q : Unit → Shared → Prop} (I : Inv X pins σ H s) (e : H a = some (.ins C dx fs)) (c : Cls X.K C) (n : NoAttr X.K C f) (hl : fs.length < 1000) (ry : RelV y u)
    (h : ∀ s', Inv X pins σ (upd H a (.ins C dx (putF f y fs))) s' → Q () s') : wpAny (model X.prog X.w) A (setAttr (.ref a) f u) Q E s := by
  obtain ⟨mA, O, r, wi, _, ho⟩ := ins_get I.hok e
  have hz : (fs.map (·.1)).length ≤ sizeLine := by rw [List.length_map, sizeLine_eq]; omega
  refine set_map I.kIn O c.sa c.po n.taker c.hd wi hz fun h' O' sb => h _ ?_
  have hd : ∃ o, h'.get? dx = some o := let ⟨o, _, _, e', _⟩ := O'.ns; ⟨o, e'⟩
  refine I.write (x := a) (e := dx) (by rw [e]; exact True.intro) (.inr ho) (fun b q hb z => (sb.2 b hb).trans z) hd ?_
  refine ⟨by rw [upd_ne O.ne]; exact ho, ?_, O.ne, O'.obj, _, O'.ns, fun g => ?_, fun g hg => ?_⟩
  · have := length_putF f y fs; omega
  · show RelO ((putF f y fs).lookup g) (if g = f then some u else mA g)
    rw [lookup_putF]
    by_cases q : g = f
    · rw [if_pos q, if_pos q]; exact ry
    · rw [if_neg q, if_neg q]; exact r g
  · by_cases q : g = f
    · rw [q]; exact (keys_putF f y fs).1
    · refine (keys_putF f y fs).2 g (wi g fun z => hg ?_)
      show (if g = f then some u else mA g) = none
      rw [if_neg q]; exact z

/-- a new instance, tracked, without attributes -/
theorem Inv.made (I : Inv X pins σ H s) : Inv X pins σ (upd (upd H s.heap.objs.size (.own (s.heap.objs.size + 1))) (s.heap.objs.size + 1) (.ins C s.heap.objs.size []))
    { s with heap := (s.heap.push PySem.W.emptyDict).push (PySem.W.instObj C s.heap.objs.size) } := by
  have e1 : (s.heap.push PySem.W.emptyDict).get? s.heap.objs.size = some PySem.W.emptyDict := Heap.get?_push_size s.heap rfl
  have e2 : ((s.heap.push PySem.W.emptyDict).push (PySem.W.instObj C s.heap.objs.size)).get? (s.heap.objs.size + 1) = some (PySem.W.instObj C s.heap.objs.size) := by
    have := Heap.get?_push_size (s.heap.push PySem.W.emptyDict) (o := PySem.W.instObj C s.heap.objs.size) rfl
    rwa [Heap.size_push] at this
  have e3 : (s.heap.push PySem.W.emptyDict).Ns s.heap.objs.size (fun _ => none) := ⟨PySem.W.emptyDict, #[], _, e1, rfl, (fun e he => absurd he (by simp)), fun _ => rfl⟩
  have I1 := I.laid (a := s.heap.objs.size) (o := .own (s.heap.objs.size + 1)) (h' := s.heap.push PySem.W.emptyDict) (t' := s.toks) (fun b u q => Heap.get?_push_of_some _ q) (Nat.le_refl _) ⟨_, e1⟩
  refine I1.laid (a := s.heap.objs.size + 1) (o := .ins C s.heap.objs.size []) (t' := s.toks) (fun b u q => Heap.get?_push_of_some _ q) (Nat.le_of_eq (Heap.size_push _ _)) ?_
  have ne : s.heap.objs.size ≠ s.heap.objs.size + 1 := Nat.ne_of_lt (Nat.lt_succ_self _)
  refine ⟨by rw [upd_ne ne, upd_same], Nat.zero_le _, ne, e2, fun _ => none, (Heap.Ns1.of_empty e3).at fun o q => Heap.get?_push_of_some _ q, fun _ => True.intro, fun y hy => absurd rfl hy⟩

/-- e.f where nothing but the object is asked: through attributeBase (super) and the last hold -/
theorem attr_of {prog : Program} {w : World} {env : Env} {e : Expr} {f : Str} {pos : Pos} {s : Shared} {Q : Value → Shared → Prop} (hb : attributeBase e f env (eval e env) = eval e env)
    (h : wpAny (model prog w) A (eval e env) (fun o s₁ => wpAny (model prog w) A (getAttr o f true) Q E s₁) E s) : wpAny (model prog w) A (eval (.Attribute e f pos) env) Q E s :=
  Attribute_any_ h (by rw [arm_eval_Attribute, hb])
end

/-! ### readings and rules -/
/-- e.f, an attribute of the instance -/
def tFld (K : PySem.W.Frag) (ta : TE) (f : Str) : TE := fun σ H Q => ta σ H fun x H1 => ∃ a C dx fs v, x = .ref a ∧ H1 a = some (.ins C dx fs) ∧ Cls K C ∧ NoAttr K C f ∧ fs.lookup f = some v ∧ Q v H1
/-- e.f = value -/
def sFld (K : PySem.W.Frag) (ta tv : TE) (f : Str) : TS := fun D σ H => tv σ H fun y H1 => ta σ H1 fun x H2 => ∃ a C dx fs, x = .ref a ∧ H2 a = some (.ins C dx fs) ∧ Cls K C ∧ NoAttr K C f ∧ fs.length < 1000 ∧
  D.nx σ (upd H2 a (.ins C dx (putF f y fs)))

section
variable {X : Cx} {o e value : Expr} {f : Str} {pos pos' tpos : Pos} {ta tv : TE}
theorem pe_fld (he : PE X e ta) (hb : attributeBase e f X.env (eval e X.env) = eval e X.env) : PE X (.Attribute e f pos) (tFld X.K ta f) := by
  intro pins s σ H Q I h
  refine attr_of hb (thn (he pins s σ H _ I h) fun u s1 ⟨x, H1, I1, rx, a, C, dx, fs, v, ex, ea, c, n, l, q⟩ => ?_)
  subst ex
  obtain rfl : u = Value.ref a := rx
  exact getattr_ok I1 ea c n l fun u' s2 I2 ru => ⟨v, H1, I2, ru, q⟩
theorem ps_fld (ha : PE X o ta) (hv : PE X value tv) (hs : swapsWith value (some (.Attribute o f pos')) pos.line X.env = pure false) : PS X (.Assign [.Attribute o f pos'] value pos) (sFld X.K ta tv f) := by
  intro pins s σ H D I h
  refine plainObj_wpAny_Assign_Attribute (thn (hv pins s σ H _ I h) fun u s1 ⟨y, H1, I1, ry, q⟩ => thn (ha pins s1 σ H1 _ I1 q) fun ov s2 ⟨x, H2, I2, rx, a, C, dx, fs, ex, ea, c, n, l, q2⟩ => ?_) hs
  subst ex
  obtain rfl : ov = Value.ref a := rx
  exact setattr_ok I2 ea c n l ry fun s3 I3 => ⟨σ, _, I3, q2⟩

end

/-! ### isinstance -/
section
variable {X : Cx} {pins : List (Addr × Obj)} {σ : St} {H : Hp} {s : Shared} {A : Around} {E : Value → Shared → Prop} {Q : Value → Shared → Prop} {c : Value} {b : Bool}
end
end L2

namespace L2
open PySem PySem.Spec PyProof.Rows

/-! ### room -/
structure Room (k : Nat) (A : Around) : Prop where
  hd : A.handled = none
  dp : A.depth + 3 * k + 5 < recursionLimit
  un : A.units + 16 * k + 200 < cLine
theorem Room.mono {j k : Nat} {A : Around} (r : Room k A) (h : j ≤ k) : Room j A := ⟨r.hd, by have := r.dp; omega, by have := r.un; omega⟩
theorem Room.deeper {k : Nat} {A : Around} (r : Room (k + 1) A) (env : Env) : Room k (A.deeper env) :=
  ⟨r.hd, by have := r.dp; show A.depth + 1 + 3 * k + 5 < _; omega, by have := r.un; show A.units + 3 + 16 * k + 200 < _; omega⟩
theorem make_depth {A : Around} {C : Addr} {us : List Value} {kw : List (Str × Value)} : (A.under (.builtin "type.__call__" ⟨.ref C :: us, kw⟩)).depth = A.depth + 1 := by
  first | rfl | simp [Around.under, Code.weight, Code.isCreation, Code.isGuard, Code.isCaller, Code.frames, Code.isFrame, guardIds]
theorem make_units {A : Around} {C : Addr} {us : List Value} {kw : List (Str × Value)} : (A.under (.builtin "type.__call__" ⟨.ref C :: us, kw⟩)).units = A.units + 1 := by
  first | rfl | simp [Around.under, Code.cUnits, Code.frames, Code.isFrame]
theorem Room.make {k : Nat} {A : Around} (r : Room (k + 1) A) (C : Addr) (us : List Value) (kw : List (Str × Value)) : Room k (A.under (.builtin "type.__call__" ⟨.ref C :: us, kw⟩)) :=
  ⟨r.hd, by have := r.dp; rw [make_depth]; omega, by have := r.un; rw [make_units]; omega⟩
theorem Room.depth {k : Nat} {A : Around} (r : Room k A) : A.depth < recursionLimit := by have := r.dp; omega
theorem Room.units {k : Nat} {A : Around} (r : Room k A) : A.units + 64 < cLine := by have := r.un; omega

/-! ### argument lists and displays -/
def tNil : TA := fun _ H Q => Q [] H
def tCons (ta : TE) (tr : TA) : TA := fun σ H Q => ta σ H fun x H1 => tr σ H1 fun xs H2 => Q (x :: xs) H2
section
variable {X : Cx} {e : Expr} {es : List Expr} {te : TE} {t : TA} {pos : Pos}
theorem pa_nil : PA X [] tNil := fun _ _ _ _ H Q I h => Calls.spliced_nil ⟨[], H, I, .nil, h⟩
theorem pa_cons (ha : PE X e te) (hr : PA X es t) (hs : starEach (e :: es) X.env = (false, eval e X.env) :: starEach es X.env := by rfl) : PA X (e :: es) (tCons te t) := by
  intro pos pins s σ H Q I h
  rw [hs]
  show wpAny _ _ (spliced ((false, eval e X.env) :: backTo pos (starEach es X.env))) _ _ s
  refine Calls.spliced_cons (thn (ha pins s σ H _ I h) fun u s1 ⟨x, H1, I1, r1, q1⟩ => ?_)
  exact thn (hr pos pins s1 σ H1 _ I1 q1) fun us s2 ⟨xs, H2, I2, r2, q2⟩ => ⟨x :: xs, H2, I2, .cons r1 r2, q2⟩

def tLst (t : TA) : TE := fun σ H Q => t σ H fun xs H1 => xs.length ≤ sizeLine ∧ ∀ p, H1 p = none → Q (.ref p) (upd H1 p (.lst xs))
theorem pe_lst (h : PA X es t) : PE X (.List es pos) (tLst t) := by
  intro pins s σ H Q I hq
  refine wpAny_List_spliced (thn (h pos pins s σ H _ I hq) fun us s1 ⟨xs, H1, I1, r, z, q⟩ => ⟨by rw [← r.length]; exact z, ?_⟩)
  have hf : H1 s1.heap.objs.size = none := I1.hok.fresh (Nat.le_refl _)
  refine ⟨.ref s1.heap.objs.size, upd H1 s1.heap.objs.size (.lst xs), I1.laid (t' := s1.toks) (fun b u e => Heap.get?_push_of_some _ e) (Nat.le_refl _) ?_, rfl, q _ hf⟩
  exact ⟨z, us, 0, r, Heap.get?_push_size _ rfl⟩
end

/-! ### what a def promises -/
/-- a def's promise: the bound arguments in the parameters' order, the heap, the wanted end, the wanted exception -/
abbrev Sp := List V → Hp → VK → XK → Prop
/-- how an exception lies behind a call (file 08 gives it): the callers' frames, abstract heap and state ahead of the call, the wish, the exception, the state -/
abbrev CXT := List Env → Hp → Shared → XK → Value → Shared → Prop

/-- the state at a call -/
structure Env0 (P : Program) (w : World) (K : PySem.W.Frag) (mg : Str → Option Value) (base : Heap) (A : Around) (outer : List Env) (s : Shared) (H : Hp) : Prop where
  frames : A.frames = some outer
  mod : Mod K mg base
  bs : ∀ b o, base.get? b = some o → s.heap.get? b = some o ∧ H b = none
  bsz : base.objs.size ≤ s.heap.objs.size
  funs : s.heap.FunFrames base outer
  frf : ∀ b ∈ frs outer, H b = none
  hok : HOk P w H s.heap
  bare : AllBare s.gens
/-- a call's end -/
def CE (outer : List Env) (P : Program) (w : World) (H : Hp) (s : Shared) (Q : VK) (u : Value) (s' : Shared) : Prop :=
  ∃ v H', s'.os = s.os ∧ AllBare s'.gens ∧ Un (frs outer) [] H H' s.heap s'.heap ∧ HOk P w H' s'.heap ∧ RelV v u ∧ Q v H'
def CR (CX : CXT) (outer : List Env) (P : Program) (w : World) (H : Hp) (s : Shared) (Q : VK) (E : XK) (r : Result) (s' : Shared) : Prop :=
  match r with
  | .ok (.ret u) => CE outer P w H s Q u s'
  | .ok _ => False
  | .error e => CX outer H s E e s'
structure FnOk (P : Program) (w : World) (K : PySem.W.Frag) (mg : Str → Option Value) (base : Heap) (CX : CXT) (k : Nat) (f : Addr) (fd : FuncData) (ps : List Str) (sp : Sp) : Prop where
  len : ∀ vs H Q E, sp vs H Q E → vs.length = ps.length
  run : ∀ (A : Around) (outer : List Env) (s : Shared) (H : Hp) (args : Args) (us : List Value) (vs : List V) (Q : VK) (E : XK), Room k A → Env0 P w K mg base A outer s H → BindsTo s fd args (ps.zip us) → Vals vs us → sp vs H Q E →
    codeAny (model P w) A (.call (.ref f) args) (CR CX outer P w H s Q E) s

theorem Env0.make {P : Program} {w : World} {K : PySem.W.Frag} {mg : Str → Option Value} {base : Heap} {A : Around} {outer : List Env} {s : Shared} {H : Hp} (e : Env0 P w K mg base A outer s H) (C : Addr) (us : List Value) (kw : List (Str × Value)) :
    Env0 P w K mg base (A.under (.builtin "type.__call__" ⟨.ref C :: us, kw⟩)) outer s H := ⟨by first | exact e.frames | (simpa [Around.under, Code.envs, Code.isFrame, pushEnvs] using e.frames), e.mod, e.bs, e.bsz, e.funs, e.frf, e.hok, e.bare⟩

section
variable {X : Cx} {pins : List (Addr × Obj)} {σ : St} {H : Hp} {s s' : Shared}
/-- from a body: what a callee wants -/
theorem Inv.env0 (I : Inv X pins σ H s) : Env0 X.prog X.w X.K X.mg X.base X.A X.stack s H :=
  ⟨I.ok.frames, I.ok.mod, I.bs, Nat.le_trans I.ok.bsz I.sz, I.stack, I.stkFree, I.hok, I.bare⟩
/-- behind a call -/
theorem Inv.after {Q : VK} {u : Value} (I : Inv X pins σ H s) (h : CE X.stack X.prog X.w H s Q u s') : EP X pins σ Q u s' := by
  obtain ⟨v, H', os, bare, un, hok, r, q⟩ := h
  obtain ⟨hh, g, d, t, os'⟩ := s'
  obtain rfl : os' = s.os := os
  exact ⟨v, H', I.call (h' := hh) (g' := g) (d' := d) (t' := t) (ch := []) un hok bare (fun b z => absurd z (by simp)), r, q⟩
end

/-! ### calls -/
/-- f(..): the written arguments, then the defaults dvs; E: what is wanted of an exception -/
def tCall (sp : Sp) (dvs : List V) (E : XK) (t : TA) : TE := fun σ H Q => t σ H fun vs H1 => sp (vs ++ dvs) H1 Q E
/-- C(..): a new instance and its dict, then __init__ -/
def tMake (C : Addr) (sp : Sp) (dvs : List V) (E : XK) (t : TA) : TE := fun σ H Q => t σ H fun vs H1 => ∀ x dx, H1 x = none → H1 dx = none → dx ≠ x →
  sp (.ref x :: (vs ++ dvs)) (upd (upd H1 dx (.own x)) x (.ins C dx [])) (fun v H2 => v = .non ∧ Q (.ref x) H2) E

/-- how the parameters are bound: us the positional arguments, kw the keywords' values by name, ds the defaults that fill up -/
def Binds (K : PySem.W.Frag) (fd : FuncData) (ps : List Str) (ds : List Value) : Prop :=
  ∀ (s : Shared) (us : List Value), K.In s.heap → (us ++ ds).length = ps.length → BindsTo s fd ⟨us, []⟩ (ps.zip (us ++ ds))
/-- every parameter is given -/
theorem Binds.all {K : PySem.W.Frag} {fd : FuncData} {ps : List Str} (h : ∀ us : List Value, us.length = ps.length → bindArgs fd ⟨us, []⟩ = pure (ps.zip us)) : Binds K fd ps [] := fun s us _ hl => by
  rw [List.append_nil] at hl ⊢
  exact .of_eq (h us hl)

/-- an exception of a callee reaches what this body wants of exceptions -/
def Passes (CX : CXT) (X : Cx) (E : XK) : Prop := ∀ (pins : List (Addr × Obj)) (σ : St) (H : Hp) (s : Shared) (e : Value) (s' : Shared), Inv X pins σ H s → CX X.stack H s E e s' → X.xe e s'

section
variable {X : Cx} {CX : CXT} {k : Nat} {f C : Addr} {fd : FuncData} {ps : List Str} {sp : Sp} {dvs : List V} {ds : List Value} {E : XK} {x m : Str} {p pos apos : Pos} {e o : Expr} {es : List Expr} {ta : TE} {t : TA}

/-- the callee runs -/
theorem run_fn {pins : List (Addr × Obj)} {σ : St} {H : Hp} {s : Shared} {Q : VK} {us : List Value} {vs : List V} (F : FnOk X.prog X.w X.K X.mg X.base CX k f fd ps sp) (hr : Room k X.A) (hb : Binds X.K fd ps ds) (hd : Vals dvs ds) (hx : Passes CX X E)
    (I : Inv X pins σ H s) (r : Vals vs us) (h : sp (vs ++ dvs) H Q E) : wpAny (model X.prog X.w) X.A (call (.ref f) us) (EP X pins σ Q) X.xe s := by
  have r2 : Vals (vs ++ dvs) (us ++ ds) := r.append hd
  have hl : (us ++ ds).length = ps.length := by rw [← r2.length]; exact F.len _ _ _ _ h
  refine wpAny_call (codeAny_mono (F.run X.A X.stack s H ⟨us, []⟩ (us ++ ds) (vs ++ dvs) Q E hr I.env0 (hb s us I.kIn hl) r2 h) fun r s' hq => ?_)
  cases r with
  | error e => exact hx pins σ H s e s' I hq
  | ok fl =>
    cases fl with
    | ret u => exact I.after hq
    | next => exact False.elim hq
    | brk => exact False.elim hq
    | cont => exact False.elim hq

theorem pe_call (F : FnOk X.prog X.w X.K X.mg X.base CX k f fd ps sp) (hr : Room k X.A) (hg : Gl X x) (hm : X.mg x = some (.ref f)) (hk : PySem.W.keepIn X.K (.ref f) = true) (hb : Binds X.K fd ps ds) (hd : Vals dvs ds) (hx : Passes CX X E)
    (ha : PA X (e :: es) t) (hdb : (x == ("__debug__" : Str)) = false := by decide) (he : starEach (e :: es) X.env = (false, eval e X.env) :: starEach es X.env := by rfl) (hpl : (backTo pos (starEach es X.env)).any (·.1) = false := by rfl) :
    PE X (.Call (.Name x p) (e :: es) [] pos) (tCall sp dvs E t) := by
  intro pins s σ H Q I h
  refine wpAny_Call_Name_kw (ld_glob I hg hm ?_ hdb)
  refine PySem.W.callWith_K (h₀ := X.base) I.ok.mod.kin hk (thn (ha pos pins s σ H _ I h) fun us s1 ⟨vs, H1, I1, r, q⟩ => ⟨I1.kIn, ?_⟩) he hpl
  exact run_fn F hr hb hd hx I1 r q
theorem pe_call0 (F : FnOk X.prog X.w X.K X.mg X.base CX k f fd ps sp) (hr : Room k X.A) (hg : Gl X x) (hm : X.mg x = some (.ref f)) (hk : PySem.W.keepIn X.K (.ref f) = true) (hb : Binds X.K fd ps ds) (hd : Vals dvs ds) (hx : Passes CX X E)
    (hdb : (x == ("__debug__" : Str)) = false := by decide) : PE X (.Call (.Name x p) [] [] pos) (tCall sp dvs E tNil) := by
  intro pins s σ H Q I h
  refine wpAny_Call_Name_kw (ld_glob I hg hm ?_ hdb)
  exact PySem.W.callWith_K0 I.kIn hk (run_fn (us := []) F hr hb hd hx I .nil h)


/-- what a class must have to be made -/
structure Mk (K : PySem.W.Frag) (C f : Addr) : Prop where
  makes : PySem.W.makesIn K C = true
  init : PySem.W.findIn K (.ref C) "__init__" = some (some (.ref f))
  fn : PySem.W.isFn K (.ref f) = true
  kp : PySem.W.keepIn K (.ref C) = true

theorem run_make {pins : List (Addr × Obj)} {σ : St} {H : Hp} {s : Shared} {Q : VK} {us : List Value} {vs : List V} (M : Mk X.K C f) (F : FnOk X.prog X.w X.K X.mg X.base CX k f fd ps sp) (hr : Room (k + 1) X.A) (hb : Binds X.K fd ps ds) (hd : Vals dvs ds)
    (hx : Passes CX X E) (I : Inv X pins σ H s) (r : Vals vs us)
    (h : ∀ x dx, H x = none → H dx = none → dx ≠ x → sp (.ref x :: (vs ++ dvs)) (upd (upd H dx (.own x)) x (.ins C dx [])) (fun v H2 => v = .non ∧ Q (.ref x) H2) E) :
    wpAny (model X.prog X.w) X.A (call (.ref C) us) (EP X pins σ Q) X.xe s := by
  have hq := h (s.heap.objs.size + 1) s.heap.objs.size (I.hok.fresh (Nat.le_succ _)) (I.hok.fresh (Nat.le_refl _)) (Nat.ne_of_lt (Nat.lt_succ_self _))
  have I2 := Inv.made (C := C) I
  have r2 : Vals (V.ref (s.heap.objs.size + 1) :: (vs ++ dvs)) (Value.ref (s.heap.objs.size + 1) :: (us ++ ds)) := .cons rfl (r.append hd)
  have hl : (Value.ref (s.heap.objs.size + 1) :: us ++ ds).length = ps.length := by
    have e := r2.length
    rw [F.len _ _ _ _ hq] at e
    exact e.symm
  refine wpAny_call (make_map (f := f) I.kIn M.makes M.init (beq_iff_eq.mp M.fn) (codeAny_mono (F.run _ X.stack _ _ ⟨Value.ref (s.heap.objs.size + 1) :: us, []⟩ (Value.ref (s.heap.objs.size + 1) :: (us ++ ds)) _ _ E (hr.make C us [])
    (I2.env0.make C us []) (hb _ (Value.ref (s.heap.objs.size + 1) :: us) I2.kIn hl) r2 hq) fun r s' hq' => ?_))
  cases r with
  | error e => exact hx pins σ _ _ e s' I2 hq'
  | ok fl =>
    cases fl with
    | ret u =>
      obtain ⟨v, H', I3, rv, ev, q3⟩ := I2.after hq'
      subst ev
      exact ⟨rv, ⟨V.ref (s.heap.objs.size + 1), H', I3, rfl, q3⟩⟩
    | next => exact False.elim hq'
    | brk => exact False.elim hq'
    | cont => exact False.elim hq'
theorem pe_make (M : Mk X.K C f) (F : FnOk X.prog X.w X.K X.mg X.base CX k f fd ps sp) (hr : Room (k + 1) X.A) (hg : Gl X x) (hm : X.mg x = some (.ref C)) (hb : Binds X.K fd ps ds) (hd : Vals dvs ds) (hx : Passes CX X E)
    (ha : PA X (e :: es) t) (hdb : (x == ("__debug__" : Str)) = false := by decide) (he : starEach (e :: es) X.env = (false, eval e X.env) :: starEach es X.env := by rfl) (hpl : (backTo pos (starEach es X.env)).any (·.1) = false := by rfl) :
    PE X (.Call (.Name x p) (e :: es) [] pos) (tMake C sp dvs E t) := by
  intro pins s σ H Q I h
  refine wpAny_Call_Name_kw (ld_glob I hg hm ?_ hdb)
  refine PySem.W.callWith_K (h₀ := X.base) I.ok.mod.kin M.kp (thn (ha pos pins s σ H _ I h) fun us s1 ⟨vs, H1, I1, r, q⟩ => ⟨I1.kIn, ?_⟩) he hpl
  exact run_make M F hr hb hd hx I1 r q
theorem pe_make0 (M : Mk X.K C f) (F : FnOk X.prog X.w X.K X.mg X.base CX k f fd ps sp) (hr : Room (k + 1) X.A) (hg : Gl X x) (hm : X.mg x = some (.ref C)) (hb : Binds X.K fd ps ds) (hd : Vals dvs ds) (hx : Passes CX X E)
    (hdb : (x == ("__debug__" : Str)) = false := by decide) : PE X (.Call (.Name x p) [] [] pos) (tMake C sp dvs E tNil) := by
  intro pins s σ H Q I h
  refine wpAny_Call_Name_kw (ld_glob I hg hm ?_ hdb)
  exact PySem.W.callWith_K0 I.kIn M.kp (run_make (us := []) M F hr hb hd hx I .nil h)
end

/-! ### keywords -/
/-- the values of the keywords, from the left -/
def PK (X : Cx) (kws : List Keyword) (t : TA) : Prop :=
  ∀ (pos : Pos) (pins : List (Addr × Obj)) (s : Shared) (σ : St) (H : Hp) (Q : List V → Hp → Prop), Inv X pins σ H s → t σ H Q → wpAny (model X.prog X.w) X.A (evalAll ((backToKw pos (keywordEach kws X.env)).map (·.2))) (AP X pins σ Q) X.xe s
section
variable {X : Cx} {CX : CXT} {k : Nat} {f C : Addr} {fd : FuncData} {ps ks : List Str} {sp : Sp} {E : XK} {x m : Str} {p pos apos kpos : Pos} {e o : Expr} {es : List Expr} {kws : List Keyword} {te ta : TE} {t tk : TA} {nm : Option Str}
theorem pk_nil : PK X [] tNil := fun _ _ _ _ H Q I h => wpAny_evalAll_nil ⟨[], H, I, .nil, h⟩
theorem pk_cons (ha : PE X e te) (hr : PK X kws t) : PK X (⟨nm, e, kpos⟩ :: kws) (tCons te t) := by
  intro pos pins s σ H Q I h
  show wpAny _ _ (evalAll ((do let v ← eval e X.env; standAt pos; pure v) :: (backToKw pos (keywordEach kws X.env)).map (·.2))) _ _ s
  refine wpAny_evalAll_cons (wpAny_bind (thn (ha pins s σ H _ I h) fun u s1 ⟨x, H1, I1, r1, q1⟩ => wpAny_bind (wpAny_standAt (wpAny_pure ?_))))
  exact thn (hr pos pins s1 σ H1 _ I1 q1) fun us s2 ⟨xs, H2, I2, r2, q2⟩ => ⟨x :: xs, H2, I2, .cons r1 r2, q2⟩

variable {g : List Value → List Value → List Value} {gV : List V → List V → List V}
end

/-! ### a def's body keeps its promise -/
/-- names: the parameters first -/
structure FnScope (N P : List Str) (sc : Scope) : Prop where
  kind : sc.kind = .function
  co : sc.isCoroutine = false
  gen : sc.isGenerator = false
  nd : N.Nodup
  pre : N.take P.length = P
  par : ∀ x ∈ P, sc.names.lookup x = some .local ∨ sc.names.lookup x = some .cell
  nofree : ∀ y ∈ sc.names, y.2 ≠ .free

theorem bindL_out {kindOf : Str → Option NameKind} {x : Str} : ∀ {binds : List (Str × Value)} {m : Str → Option Value}, (∀ v, (x, v) ∉ binds) → bindL kindOf binds m x = m x
  | [], _, _ => rfl
  | (n, v) :: r, m, h => by
    unfold bindL
    rw [bindL_out fun w hw => h w (List.mem_cons_of_mem _ hw)]
    split
    · have : x ≠ n := by rintro rfl; exact h v List.mem_cons_self
      simp [this]
    · rfl
theorem bindC_out {kindOf : Str → Option NameKind} {x : Str} : ∀ {binds : List (Str × Value)} {m : Str → Option Value}, (∀ v, (x, v) ∉ binds) → bindC kindOf binds m x = m x
  | [], _, _ => rfl
  | (n, v) :: r, m, h => by
    unfold bindC
    rw [bindC_out fun w hw => h w (List.mem_cons_of_mem _ hw)]
    split
    · rfl
    · have : x ≠ n := by rintro rfl; exact h v List.mem_cons_self
      simp [this]
theorem bindL_get {kindOf : Str → Option NameKind} {x : Str} {v : Value} : ∀ {P : List Str} {vs : List Value} {i : Nat} {m : Str → Option Value}, P.Nodup → P[i]? = some x → vs[i]? = some v → kindOf x = some .local →
    bindL kindOf (P.zip vs) m x = some v
  | [], _, _, _, _, h, _, _ => by simp at h
  | _ :: _, [], _, _, _, _, h, _ => by simp at h
  | p :: P, w :: vs, 0, m, nd, h1, h2, hk => by
    simp at h1 h2; subst h1; subst h2
    show bindL kindOf ((p, w) :: P.zip vs) m p = _
    unfold bindL
    rw [bindL_out fun v hv => (List.nodup_cons.mp nd).1 (List.of_mem_zip hv).1, if_pos hk]
    simp
  | p :: P, w :: vs, i + 1, m, nd, h1, h2, hk => by
    show bindL kindOf ((p, w) :: P.zip vs) m x = _
    unfold bindL
    exact bindL_get (i := i) (List.nodup_cons.mp nd).2 (by simpa using h1) (by simpa using h2) hk
theorem bindC_get {kindOf : Str → Option NameKind} {x : Str} {v : Value} : ∀ {P : List Str} {vs : List Value} {i : Nat} {m : Str → Option Value}, P.Nodup → P[i]? = some x → vs[i]? = some v → kindOf x ≠ some .local →
    bindC kindOf (P.zip vs) m x = some v
  | [], _, _, _, _, h, _, _ => by simp at h
  | _ :: _, [], _, _, _, _, h, _ => by simp at h
  | p :: P, w :: vs, 0, m, nd, h1, h2, hk => by
    simp at h1 h2; subst h1; subst h2
    show bindC kindOf ((p, w) :: P.zip vs) m p = _
    unfold bindC
    rw [bindC_out fun v hv => (List.nodup_cons.mp nd).1 (List.of_mem_zip hv).1, if_neg hk]
    simp
  | p :: P, w :: vs, i + 1, m, nd, h1, h2, hk => by
    show bindC kindOf ((p, w) :: P.zip vs) m x = _
    unfold bindC
    exact bindC_get (i := i) (List.nodup_cons.mp nd).2 (by simpa using h1) (by simpa using h2) hk

/-- the names' values at the entry -/
def start (N : List Str) (vs : List V) : St := vs.map some ++ List.replicate (N.length - vs.length) none

/-- the context of a def's body, at its entry; an exception leaves the frame, then lies as CX says -/
def cxOf (CX : CXT) (P : Program) (w : World) (K : PySem.W.Frag) (mg : Str → Option Value) (base : Heap) (N : List Str) (qual : Str) (scope : Scope) (f : Addr) (cd : Value) (A : Around) (outer : List Env) (s : Shared) (H : Hp) (E : XK) : Cx where
  prog := P
  w := w
  K := K
  mg := mg
  base := base
  A := A.deeper (envOfC qual scope s.heap.objs.size f cd)
  N := N
  s_0 := s
  H_0 := H
  env := envOfC qual scope s.heap.objs.size f cd
  outer := outer
  stack := envOfC qual scope s.heap.objs.size f cd :: outer
  ex := []
  calm := true
  fn := fun _ => true
  pn := []
  xe := fun e s' => wpAny (model P w) (A.deeper (envOfC qual scope s.heap.objs.size f cd)) (leaving (envOfC qual scope s.heap.objs.size f cd) e) (fun _ s'' => CX outer H s E e s'') (fun e' s'' => CX outer H s E e' s'') s'

theorem cell_has {sc : Scope} {n : Nat} {x : Str} (h : sc.names.lookup x = some .cell) : ∃ c, (cellsFrom n sc.names []).lookup x = some c := by
  have q := PySem.W.cellsFrom_some sc.names n [] (.inl h)
  exact Option.isSome_iff_exists.mp q

theorem inv_start {CX : CXT} {P : Program} {w : World} {K : PySem.W.Frag} {mg : Str → Option Value} {base : Heap} {N ps : List Str} {qual : Str} {scope : Scope} {f : Addr} {cd : Value} {A : Around} {outer : List Env} {s s1 : Shared} {H : Hp} {E : XK} {us : List Value} {vs : List V}
    (S : FnScope N ps scope) (hd : A.handled = none) (e0 : Env0 P w K mg base A outer s H) (hl : vs.length = ps.length) (r : Vals vs us)
    (x : InCallC s s.heap.objs.size (bindL (envOfC qual scope s.heap.objs.size f cd).kindOf (ps.zip us) fun _ => none) (cellsFrom (s.heap.objs.size + 1) scope.names []) (bindC (envOfC qual scope s.heap.objs.size f cd).kindOf (ps.zip us) fun _ => none) s1) :
    Inv (cxOf CX P w K mg base N qual scope f cd A outer s H E) [] (start N vs) H s1 := by
  have hpl : ps.length ≤ N.length := by have := congrArg List.length S.pre; rw [List.length_take] at this; omega
  obtain ⟨h1, tk, rfl, hk⟩ := x.done
  have noA : ∀ b : Addr, b ∉ (cxOf CX P w K mg base N qual scope f cd A outer s H E).ex := fun b z => absurd (show b ∈ ([] : List Addr) from z) (by simp)
  refine ⟨⟨e0.mod, S.kind, rfl, rfl, Nat.le_refl _, fun y z c h1 h2 => ?_, fun y hy => ?_, fun y c _ h => ?_, fun _ => hd, Around.frames_deeper e0.frames, .inr ⟨rfl, rfl⟩, fun b z => absurd z (noA b), e0.bs, e0.bsz, fun b _ _ => noA b, fun b z => absurd z (noA b), e0.funs, e0.frf⟩,
    rfl, e0.bare, Un.kept hk, ⟨_, x.toInCall.ns, fun i y v h1 h2 h3 => ?_⟩, fun y c h => ⟨_, x.cell y c h⟩, e0.hok.fresh (Nat.le_refl _), fun y c h => ?_, fun p hp => absurd (show p ∈ ([] : List (Addr × Obj)) from hp) (by simp), e0.hok.kept hk, ?_⟩
  · exact name_of_addr x.apart (PySem.mem_of_lookup h1) (PySem.mem_of_lookup h2)
  · have hy : scope.names.lookup y = some .cell ∨ scope.names.lookup y = some .free := hy
    rcases hy with hy | hy
    · exact cell_has hy
    · exact absurd rfl (S.nofree _ (PySem.mem_of_lookup hy))
  · exact Nat.le_of_lt (x.above y c (PySem.mem_of_lookup h))
  · have hi : i < vs.length := by
      unfold start at h2
      by_cases hi : i < vs.length
      · exact hi
      · rw [List.getElem?_append_right (by simpa using hi)] at h2
        rw [List.getElem?_replicate] at h2
        split at h2 <;> cases h2
    have ha : vs[i]? = some v := by
      unfold start at h2
      rw [List.getElem?_append_left (by simpa using hi), List.getElem?_map] at h2
      cases e : vs[i]? with
      | none => rw [e] at h2; cases h2
      | some a => rw [e] at h2; cases h2; rfl
    obtain ⟨u, hu, rv⟩ := r.get ha
    have hp : ps[i]? = some y := by
      rw [← S.pre, List.getElem?_take_of_lt (by omega)]; exact h1
    have ndP : ps.Nodup := by rw [← S.pre]; exact S.nd.sublist (List.take_sublist _ _)
    refine ⟨u, rv, ?_⟩
    rcases S.par y (List.mem_of_getElem? hp) with k | k
    · exact .inl ⟨k, bindL_get ndP hp hu k⟩
    · obtain ⟨c, e⟩ := cell_has (n := s.heap.objs.size + 1) k
      refine .inr ⟨.inl k, c, e, ?_⟩
      have q := x.cell y c e
      rw [bindC_get ndP hp hu (by show scope.names.lookup y ≠ _; rw [k]; decide)] at q
      exact q
  · exact e0.hok.fresh (Nat.le_of_lt (x.above y c (PySem.mem_of_lookup h)))
  · unfold start
    show _ = N.length
    rw [List.length_append, List.length_map, List.length_replicate]
    omega

/-- THE RULE: a def (or a method) of the text, by its body. The body's reading t is chosen for each entry; it is run at the parameters' values -/
theorem fn_of {CX : CXT} {P : Program} {w : World} {K : PySem.W.Frag} {mg : Str → Option Value} {base : Heap} {k : Nat} {f : Addr} {name qual : Str} {params : Arguments} {body : List Stmt} {scope : Scope} {dV kV doc pm cdv ct oc : Value} {an od : Option Addr}
    {osl : Array (Option Value)} {N ps : List Str} {sp : Sp} (lk : K.lookup f = some ⟨oc, od, .func (PySem.W.fnOf name qual params body scope dV kV doc pm an cdv ct), osl⟩) (hcd : PySem.W.codeIn K cdv qual = true) (S : FnScope N ps scope)
    (len : ∀ vs H Q E, sp vs H Q E → vs.length = ps.length)
    (hbody : ∀ (A : Around) (outer : List Env) (s : Shared) (H : Hp) (vs : List V) (Q : VK) (E : XK), Room k (A.deeper (envOfC qual scope s.heap.objs.size f cdv)) → sp vs H Q E →
      ∃ t, PSs (cxOf CX P w K mg base N qual scope f cdv A outer s H E) body t ∧ t { nx := fun _ H' => Q .non H', rt := Q } (start N vs) H) :
    FnOk P w K mg base CX (k + 1) f (PySem.W.fnOf name qual params body scope dV kV doc pm an cdv ct) ps sp := by
  refine ⟨len, fun A outer s H args us vs Q E hr e0 hb r hsp => ?_⟩
  have hl := len _ _ _ _ hsp
  have KX : K.In s.heap := e0.mod.kin.keeps fun b o e => (e0.bs b o e).1
  have lim : s.heap.NoLimit := e0.mod.nolimit.keeps fun b o e => (e0.bs b o e).1
  have hkind : ∀ y ∈ ps.zip us, scope.names.lookup y.1 = some .local ∨ (scope.names.lookup y.1 = some .cell ∧ ((cellsFrom (s.heap.objs.size + 1) scope.names []).lookup y.1).isSome = true) := fun ⟨n, v⟩ hy => by
    rcases S.par n (List.of_mem_zip hy).1 with q | q
    · exact .inl q
    · exact .inr ⟨q, PySem.W.cellsFrom_some _ _ _ (.inl q)⟩
  refine codeAny_call_function hr.depth (KX _ _ lk) rfl S.co S.gen rfl (PySem.W.codeRec_of KX hcd) (hb _ _ _ _ ?_)
  refine wpAny_newFunctionEnv_cells S.kind hkind fun env he s1 x => ?_
  subst he
  refine ⟨lim.keeps x.toInCall.keep, codeAny_func ?_⟩
  obtain ⟨t, ht, hq⟩ := hbody A outer s H vs Q E (hr.deeper _) hsp
  have I : Inv (cxOf CX P w K mg base N qual scope f cdv A outer s H E) [] (start N vs) H s1 := inv_start S hr.hd e0 hl r x
  refine wpAny_mono (ht [] s1 (start N vs) H _ I hq) (fun fl s' hs => ?_) fun e s' hs => hs
  have fin : ∀ {σ' : St} {H' : Hp} {v : V} {u : Value}, Inv (cxOf CX P w K mg base N qual scope f cdv A outer s H E) [] σ' H' s' → RelV v u → Q v H' → CE outer P w H s Q u s' :=
    fun {σ' H' v u} J rv q => ⟨v, H', J.os, J.bare, J.base, J.hok, rv, q⟩
  cases fl with
  | ret u =>
    obtain ⟨v, σ', H', J, rv, q⟩ := hs
    exact fin J rv q
  | next =>
    obtain ⟨σ', H', J, q⟩ := hs
    exact fin (v := V.non) (u := Value.none) J rfl q
  | brk =>
    obtain ⟨_, _, _, q⟩ := hs
    exact False.elim q
  | cont =>
    obtain ⟨_, _, _, q⟩ := hs
    exact False.elim q
end L2

namespace L2
open PySem PySem.Spec PyProof.Rows
section
variable {X : Cx} {x : Str} {p pos : Pos} {e : Expr} {es : List Expr} {t : TA} {id T : String} {r : List V → Hp → VK → Prop}

def tCB (r : List V → Hp → VK → Prop) (t : TA) : TE := fun σ H Q => t σ H fun vs H1 => r vs H1 Q
/-- f(e, ..), f a built-in function -/
theorem pe_callB (hc : CallR X (.builtin id) r) (hg : Gl X x) (hm : X.mg x = none) (hv : bootBuiltins x = some (.builtin id)) (ha : PA X (e :: es) t) (hn : x ≠ "__name__" := by decide) (hdb : (x == ("__debug__" : Str)) = false := by decide)
    (he : starEach (e :: es) X.env = (false, eval e X.env) :: starEach es X.env := by rfl) (hpl : (backTo pos (starEach es X.env)).any (·.1) = false := by rfl) : PE X (.Call (.Name x p) (e :: es) [] pos) (tCB r t) := by
  intro pins s σ H Q I h
  refine wpAny_Call_Name_kw (ld_blt I hg hm hv ?_ hn hdb)
  exact PyProof.Rows.callWith_builtin1 (thn (ha pos pins s σ H _ I h) fun us s1 ⟨vs, H1, I1, r1, q1⟩ => hc pins s1 σ H1 vs us Q I1 r1 q1) he hpl
/-- T(e, ..), T a built-in type -/
theorem pe_callTy (hc : CallR X (.type T) r) (hg : Gl X x) (hm : X.mg x = none) (hv : bootBuiltins x = some (.type T)) (ha : PA X (e :: es) t) (hn : x ≠ "__name__" := by decide) (hdb : (x == ("__debug__" : Str)) = false := by decide)
    (he : starEach (e :: es) X.env = (false, eval e X.env) :: starEach es X.env := by rfl) (hpl : (backTo pos (starEach es X.env)).any (·.1) = false := by rfl) : PE X (.Call (.Name x p) (e :: es) [] pos) (tCB r t) := by
  intro pins s σ H Q I h
  refine wpAny_Call_Name_kw (ld_blt I hg hm hv ?_ hn hdb)
  exact PyProof.Rows.callWith_type1 (thn (ha pos pins s σ H _ I h) fun us s1 ⟨vs, H1, I1, r1, q1⟩ => hc pins s1 σ H1 vs us Q I1 r1 q1) he hpl
end
end L2

namespace HT
open PySem PyProof.Rows



section
open PySem.SeqAt
open PySem.AutoSeq1 (wpAny_loadPart')
open PySem.MeetsSeq PySem.MeetsSeq2 PySem.MeetsSeq3

end

section
variable {prog : Program} {w : World} {A : Around} {E : Value → Shared → Prop} {s : Shared}



/-! ### t[a:b], not the whole -/
/-- a slice's bound as a place among n (d where it is left out) -/
def sIx (n d : Nat) : Option Int → Nat
  | none => d
  | some v => if v < 0 then (v + (n : Int)).toNat else min v.toNat n
theorem sIx_none (n d : Nat) : sIx n d none = d := rfl
theorem sIx_nat (n d k : Nat) : sIx n d (some (k : Int)) = min k n := by
  show (if (k : Int) < 0 then ((k : Int) + (n : Int)).toNat else min (k : Int).toNat n) = min k n
  rw [if_neg (by omega), Int.toNat_natCast]

end
end HT

namespace L2
open PySem PySem.Spec PyProof.Rows

/-! ### the parts of a slice -/
abbrev TO := St → Hp → (Option Int → Hp → Prop) → Prop
/-- a slice's part (left out, or an int) -/
def PO (X : Cx) (e : Option Expr) (t : TO) : Prop :=
  ∀ (pins : List (Addr × Obj)) (s : Shared) (σ : St) (H : Hp) (Q : Option Int → Hp → Prop), Inv X pins σ H s → t σ H Q →
    wpAny (model X.prog X.w) X.A (evalPart e X.env) (fun u s' => ∃ o H', Inv X pins σ H' s' ∧ IsPart u o ∧ Q o H') X.xe s
def tNoPart : TO := fun _ H Q => Q none H
def tPart (t : TE) : TO := fun σ H Q => t σ H fun x H1 => ∃ i, x = .int i ∧ Q (some i) H1


section
variable {X : Cx} {e : Expr} {te : TE} {lo hi : Option Expr} {tl th : TO} {pos p2 : Pos}

theorem po_none : PO X none tNoPart := by
  intro pins s σ H Q I h
  rw [evalPart_none]
  exact wpAny_pure ⟨none, H, I, .none, h⟩
theorem po_some (h : PE X e te) : PO X (some e) (tPart te) := by
  intro pins s σ H Q I hw
  rw [evalPart_some]
  refine thn (h pins s σ H _ I hw) fun u s1 ⟨x, H1, I1, r1, q1⟩ => ?_
  obtain ⟨i, rfl, q⟩ := q1
  obtain ⟨t, rfl⟩ := r1
  exact ⟨some i, H1, I1, .int i t, q⟩

/-- what a slice of a value is, by values: the slice object stands at sl -/
def SlR (X : Cx) (r : V → Option Int → Option Int → Hp → VK → Prop) : Prop :=
  ∀ (pins : List (Addr × Obj)) (s : Shared) (σ : St) (H : Hp) (x : V) (v vl vu : Value) (lo hi : Option Int) (sl : Addr) (Q : VK), Inv X pins σ H s → RelV x v → s.heap.IsSliceOf sl vl vu .none → IsPart vl lo → IsPart vu hi → r x lo hi H Q →
    ∃ T id, typeLookup (.type T) "__getitem__" = pure (some (.builtin id)) ∧ s.TypeIs v T ∧ wpAny (model X.prog X.w) X.A (getItem v (.ref sl)) (EP X pins σ Q) X.xe s
def tSl (r : V → Option Int → Option Int → Hp → VK → Prop) (te : TE) (tl th : TO) : TE := fun σ H Q => te σ H fun x H1 => tl σ H1 fun l H2 => th σ H2 fun u H3 => r x l u H3 Q
/-- a[lo:hi], any a -/
theorem pe_slice {r : V → Option Int → Option Int → Hp → VK → Prop} (hr : SlR X r) (he : PE X e te) (hl : PO X lo tl) (hu : PO X hi th) : PE X (.Subscript e (.Slice lo hi none p2) pos) (tSl r te tl th) := by
  intro pins s σ H Q I h
  refine Subscript_ (thn (he pins s σ H _ I h) fun v s1 ⟨x, H1, I1, r1, q1⟩ => ?_)
  refine wpAny_Slice (thn (hl pins s1 σ H1 _ I1 q1) fun vl s2 ⟨l, H2, I2, pl, q2⟩ => thn (hu pins s2 σ H2 _ I2 q2) fun vu s3 ⟨u, H3, I3, pu, q3⟩ => ?_)
  rw [evalPart_none]
  refine wpAny_pure ?_
  have I4 : Inv X pins σ H3 { s3 with heap := s3.heap.push { cls := .type "slice", data := .fields #[vl, vu, .none] } } := I3.kept (t' := s3.toks) fun b ob q => Heap.get?_push_of_some _ q
  obtain ⟨T, id, hT, ht, hg⟩ := hr pins { s3 with heap := s3.heap.push { cls := .type "slice", data := .fields #[vl, vu, .none] } } σ H3 x v vl vu l u s3.heap.objs.size Q I4 r1 (Heap.IsSliceOf.new ..) pl pu q3
  show wpAny (model X.prog X.w) X.A (subscriptTail e (.Slice lo hi none p2) v (.ref s3.heap.objs.size)) (EP X pins σ Q) X.xe { s3 with heap := s3.heap.push { cls := .type "slice", data := .fields #[vl, vu, .none] } }
  exact tail_any (ops := [.ref s3.heap.objs.size, v]) ht hT hg (by with_unfolding_all rfl)

/-- the items of xs[lo:hi] -/
def cutV (xs : List V) (lo hi : Option Int) : List V := (xs.drop (HT.sIx xs.length 0 lo)).take (HT.sIx xs.length xs.length hi - HT.sIx xs.length 0 lo)
theorem cutV_length (xs : List V) (lo hi : Option Int) : (cutV xs lo hi).length ≤ xs.length := by
  unfold cutV
  rw [List.length_take, List.length_drop]
  omega

/-! ### t < u, t + u -/
end
end L2

namespace L2
open PySem PySem.Spec PyProof.Rows

/-! ### places -/
/-- the place that an index of any sign means -/
def ixN (n : Nat) (i : Int) : Option Nat := if 0 ≤ i then (if i < n then some i.toNat else none) else if -(n : Int) ≤ i then some (i + n).toNat else none
def atI {α : Type} (xs : List α) (i : Int) : Option α := (ixN xs.length i).bind fun j => xs[j]?
theorem ixN_seq {n : Nat} {i : Int} {j : Nat} (h : ixN n i = some j) : seqIndex? i n = some j ∧ j < n ∧ -(n : Int) ≤ i ∧ i < n := by
  unfold ixN at h
  by_cases h0 : 0 ≤ i
  · rw [if_pos h0] at h
    by_cases h1 : i < n
    · rw [if_pos h1] at h
      have e : i.toNat = j := Option.some.inj h
      exact ⟨by rw [seqIndex_of h0 h1, e], by omega, by omega, h1⟩
    · rw [if_neg h1] at h; cases h
  · rw [if_neg h0] at h
    by_cases h1 : -(n : Int) ≤ i
    · rw [if_pos h1] at h
      have e : (i + n).toNat = j := Option.some.inj h
      exact ⟨by rw [seqIndex_neg (by omega) h1, e], by omega, h1, by omega⟩
    · rw [if_neg h1] at h; cases h
theorem atI_get {α : Type} {xs : List α} {i : Int} {v : α} (h : atI xs i = some v) : ∃ j, seqIndex? i xs.length = some j ∧ xs[j]? = some v ∧ j < xs.length ∧ -(xs.length : Int) ≤ i ∧ i < xs.length := by
  unfold atI at h
  cases e : ixN xs.length i with
  | none => rw [e] at h; cases h
  | some j =>
    rw [e] at h
    obtain ⟨h1, h2, h3, h4⟩ := ixN_seq e
    exact ⟨j, h1, h, h2, h3, h4⟩
theorem atI_nat {α : Type} {xs : List α} {j : Nat} {v : α} (h : xs[j]? = some v) : atI xs (j : Int) = some v := by
  have hj : j < xs.length := (List.getElem?_eq_some_iff.mp h).1
  have e : ixN xs.length (j : Int) = some j := by
    unfold ixN
    rw [if_pos (by omega), if_pos (by omega)]; simp
  unfold atI; rw [e]; exact h

/-! ### what may be subscripted -/
/-- what stands as an index of a plain subscript -/
def PlainIx (b : Expr) : Prop := ∀ o i, subscripted b false o i = operate [o, i] (getItem o i)
/-- a subscript by values -/
def IxR (X : Cx) (r : R2) : Prop :=
  ∀ (value slice : Expr) (pins : List (Addr × Obj)) (s : Shared) (σ : St) (H : Hp) (x y : V) (v u : Value) (Q : VK), Inv X pins σ H s → RelV x v → RelV y u → r x y H Q →
    subscripted slice false v u = operate [v, u] (getItem v u) → wpAny (model X.prog X.w) X.A (subscriptTail value slice v u) (EP X pins σ Q) X.xe s
/-- a call of a builtin's method by values: the receiver, the arguments -/
def MtR (X : Cx) (id : String) (r : V → List V → Hp → VK → Prop) : Prop :=
  ∀ (pins : List (Addr × Obj)) (s : Shared) (σ : St) (H : Hp) (x : V) (xs : List V) (v : Value) (us : List Value) (Q : VK), Inv X pins σ H s → RelV x v → Vals xs us → r x xs H Q →
    wpAny (model X.prog X.w) X.A (call (.builtin id) (v :: us)) (EP X pins σ Q) X.xe s
section
variable {X : Cx} {a b : Expr} {ta tb : TE} {pos : Pos}
/-- a[b] -/
theorem pe_ix {r : R2} (hr : IxR X r) (ha : PE X a ta) (hb : PE X b tb) (hs : PlainIx b) : PE X (.Subscript a b pos) (tOp r ta tb) := by
  intro pins s σ H Q I h
  exact Subscript_ (binT ha hb I h fun v u s2 x y H2 I2 rx ry q => hr a b pins s2 σ H2 x y v u Q I2 rx ry q (hs _ _))

def rIxL (K : PySem.W.Frag) : R2 := fun x y H Q => ∃ p xs i v, x = .ref p ∧ y = .int i ∧ SqL K H p xs ∧ atI xs i = some v ∧ Q v H
theorem ix_list : IxR X (rIxL X.K) := by
  intro value slice pins s σ H x y v u Q I rx ry h hs
  obtain ⟨p, xs, i, z, rfl, rfl, hq, he, q⟩ := h
  cases rx
  obtain ⟨t, rfl⟩ := ry
  obtain ⟨its, r, pl, hz⟩ := I.list hq
  obtain ⟨j, h1, h2, h3, h4, h5⟩ := atI_get he
  obtain ⟨w, ew, rw'⟩ := r.get h2
  have hl := r.length
  have hn := line63
  have fin : EP X pins σ Q w s := ⟨z, H, I, rw', q⟩
  by_cases h0 : 0 ≤ i
  · have hj : i.toNat = j := by
      rw [seqIndex_of h0 h5] at h1
      exact Option.some.inj h1
    exact item_listR pl.isList h0 (by omega) (by rw [hj]; simpa using ew) fin hs
  · have hj : (i + (its.toArray.size : Int)).toNat = j := by
      rw [seqIndex_neg (by omega) h4] at h1
      rw [List.size_toArray, ← hl]
      exact Option.some.inj h1
    exact subscriptTail_builtinR (x := w) pl.isList.typeIs slot_list_getitem.lookup
      (wpAny_getItem_list_neg (Q := fun r s' => r = w ∧ EP X pins σ Q r s') pl.isList (by omega) (by rw [List.size_toArray] <;> omega) (by omega) (by rw [hj]; simpa using ew) ⟨rfl, fin⟩) hs

/-! ### xs[i] = v, any sign -/

/-! ### slices -/
theorem slice_bounds (lo hi : Option Int) (n : Nat) : (sliceBounds lo hi none n).1 = ((HT.sIx n 0 lo : Nat) : Int) ∧ (sliceBounds lo hi none n).2.1 = ((HT.sIx n n hi : Nat) : Int) ∧ (sliceBounds lo hi none n).2.2 = 1 := by
  refine ⟨?_, ?_, rfl⟩
  · cases lo with
    | none => simp [sliceBounds, HT.sIx]
    | some i =>
      simp only [sliceBounds, HT.sIx, Option.getD_none, show (1 : Int) > 0 by decide, if_true]
      by_cases h : i < 0
      · simp only [h, if_true] <;> omega
      · simp only [h, if_false] <;> omega
  · cases hi with
    | none => simp [sliceBounds, HT.sIx]
    | some i =>
      simp only [sliceBounds, HT.sIx, Option.getD_none, show (1 : Int) > 0 by decide, if_true]
      by_cases h : i < 0
      · simp only [h, if_true] <;> omega
      · simp only [h, if_false] <;> omega
theorem slicePick_cut (its : List Value) (lo hi : Option Int) : slicePick its.toArray lo hi none = ((its.drop (HT.sIx its.length 0 lo)).take (HT.sIx its.length its.length hi - HT.sIx its.length 0 lo)).toArray := by
  obtain ⟨h1, h2, h3⟩ := slice_bounds lo hi its.toArray.size
  unfold slicePick
  rw [h1, h2, h3]
  simp only [sliceRange_one, pick_run, List.size_toArray] <;> rfl
/-- xs[lo:hi] of a list: a new list -/
def rSlL (K : PySem.W.Frag) : V → Option Int → Option Int → Hp → VK → Prop := fun x lo hi H Q => ∃ a xs, x = .ref a ∧ SqL K H a xs ∧ ∀ p, H p = none → Q (.ref p) (upd H p (.lst (cutV xs lo hi)))
theorem sl_list : SlR X (rSlL X.K) := by
  intro pins s σ H x v vl vu lo hi sl Q I rx hs pl pu h
  obtain ⟨a, xs, rfl, hx, q⟩ := h
  cases rx
  obtain ⟨its, r, ht, hz⟩ := I.list hx
  have hlen := r.length
  refine ⟨"list", _, slot_list_getitem.lookup, ht.isList.typeIs, ?_⟩
  refine wpAny_getItem_list_slice ht.isList hs pl pu .none (by simp) ?_ (by rw [List.size_toArray] <;> omega)
  rw [slicePick_cut, ← hlen]
  refine ⟨.ref s.heap.objs.size, _, I.laid (t' := s.toks) (o := .lst (cutV xs lo hi)) (fun b ob q => Heap.get?_push_of_some _ q) (Nat.le_refl _) ?_, rfl, q _ (I.hok.fresh (Nat.le_refl _))⟩
  exact ⟨Nat.le_trans (cutV_length xs lo hi) hz, _, 0, (r.drop (HT.sIx xs.length 0 lo)).take (HT.sIx xs.length xs.length hi - HT.sIx xs.length 0 lo), Heap.get?_push_size _ rfl⟩

/-! ### in, not in: flat items -/
def flatV : V → Bool
  | .non => true
  | .bl _ => true
  | .int _ => true
  | .str _ => true
  | _ => false
/-- == of flat values -/
def eqV : V → V → Bool
  | .non, .non => true
  | .bl a, .bl b => a == b
  | .bl a, .int b => (if a then 1 else 0) == b
  | .int a, .bl b => a == (if b then 1 else 0)
  | .int a, .int b => a == b
  | .str a, .str b => a == b
  | _, _ => false
theorem eqAt_V {A : Around} {s : Shared} {y x : V} {u v : Value} (ry : RelV y u) (rx : RelV x v) (fy : flatV y = true) (fx : flatV x = true) : SeqAt.EqAt A s u v (eqV y x) := by
  cases y with
  | non =>
    cases ry
    cases x with
    | non => cases rx; exact SeqAt.EqAt.same _
    | bl b => cases rx; exact SeqAt.EqAt.none_bool b
    | int b => obtain ⟨t, rfl⟩ := rx; exact SeqAt.EqAt.none_int b t
    | str b => obtain ⟨t, rfl⟩ := rx; exact SeqAt.EqAt.none_str b t
    | _ => exact absurd (show false = true from fx) Bool.false_ne_true
  | bl a =>
    cases ry
    cases x with
    | non => cases rx; exact SeqAt.EqAt.bool_none a
    | bl b => cases rx; exact SeqAt.EqAt.bool_bool a b
    | int b => obtain ⟨t, rfl⟩ := rx; exact SeqAt.EqAt.bool_int a b t
    | str b => obtain ⟨t, rfl⟩ := rx; exact SeqAt.EqAt.bool_str a b t
    | _ => exact absurd (show false = true from fx) Bool.false_ne_true
  | int a =>
    obtain ⟨t', rfl⟩ := ry
    cases x with
    | non => cases rx; exact SeqAt.EqAt.int_none a t'
    | bl b => cases rx; exact SeqAt.EqAt.int_bool a t' b
    | int b => obtain ⟨t, rfl⟩ := rx; exact SeqAt.EqAt.int_int a t' b t
    | str b => obtain ⟨t, rfl⟩ := rx; exact SeqAt.EqAt.int_str a t' b t
    | _ => exact absurd (show false = true from fx) Bool.false_ne_true
  | str a =>
    obtain ⟨t', rfl⟩ := ry
    cases x with
    | non => cases rx; exact SeqAt.EqAt.str_none a t'
    | bl b => cases rx; exact SeqAt.EqAt.str_bool a t' b
    | int b => obtain ⟨t, rfl⟩ := rx; exact SeqAt.EqAt.str_int a t' b t
    | str b => obtain ⟨t, rfl⟩ := rx; exact SeqAt.EqAt.str_str a t' b t
    | _ => exact absurd (show false = true from fx) Bool.false_ne_true
  | _ => exact absurd (show false = true from fy) Bool.false_ne_true
/-- the items' answers, read off the values (a value's own answer does not lean on its token) -/
def eqU (x : V) (u : Value) : Bool := match u with
  | .none => eqV .non x
  | .bool b => eqV (.bl b) x
  | .int i _ => eqV (.int i) x
  | .str z _ => eqV (.str z) x
  | _ => false
theorem eqU_of {x y : V} {u : Value} (r : RelV y u) (f : flatV y = true) : eqU x u = eqV y x := by
  cases y with
  | non => cases r; rfl
  | bl b => cases r; rfl
  | int i => obtain ⟨t, rfl⟩ := r; rfl
  | str z => obtain ⟨t, rfl⟩ := r; rfl
  | _ => exact absurd (show false = true from f) Bool.false_ne_true
theorem any_eqU {x : V} : ∀ {xs : List V} {us : List Value}, Vals xs us → xs.all flatV = true → us.any (eqU x) = xs.any fun y => eqV y x
  | _, _, .nil, _ => rfl
  | y :: xs, u :: us, .cons r t, f => by
    rw [List.all_cons, Bool.and_eq_true] at f
    rw [List.any_cons, List.any_cons, eqU_of r f.1, any_eqU t f.2]
theorem mem_eqAt {A : Around} {s : Shared} {x : V} {v : Value} (rx : RelV x v) (fx : flatV x = true) : ∀ {xs : List V} {us : List Value}, Vals xs us → xs.all flatV = true → ∀ u ∈ us, SeqAt.EqAt A s u v (eqU x u)
  | _, _, .nil, _ => fun u hu => by cases hu
  | y :: xs, u :: us, .cons r t, f => fun u' hu => by
    rw [List.all_cons, Bool.and_eq_true] at f
    rcases List.mem_cons.mp hu with rfl | hu
    · rw [eqU_of r f.1]; exact eqAt_V r rx f.1 fx
    · exact mem_eqAt rx fx t f.2 u' hu
def inV (x : V) (xs : List V) : Bool := xs.any fun y => eqV y x
/-- x in a list or tuple of flat items -/
def rIn (K : PySem.W.Frag) (neg : Bool) : R2 := fun x y H Q => ∃ p xs, y = .ref p ∧ (SqL K H p xs ∨ SqT K H p xs) ∧ flatV x = true ∧ xs.all flatV = true ∧ Q (.bl (if neg then !inV x xs else inV x xs)) H
theorem op_in_seq : OpR X (compareOp .In) (rIn X.K false) := by
  intro pins s σ H x y v u Q I rx ry h
  obtain ⟨p, xs, rfl, hq, fx, fs, q⟩ := h
  cases ry
  rcases hq with hq | hq
  · obtain ⟨its, r, pl, hz⟩ := I.list hq
    refine SeqAt.in_listAt (eqU x) pl.isList (fun w hw => mem_eqAt rx fx r fs w (by simpa using hw)) ⟨.bl _, H, I, rfl, ?_⟩
    rw [show its.toArray.any (eqU x) = its.any (eqU x) by simp, any_eqU r fs]
    exact q
  · obtain ⟨its, r, pl, hz⟩ := I.tuple hq
    refine SeqAt.in_tupleAt (eqU x) pl (fun w hw => mem_eqAt rx fx r fs w (by simpa using hw)) ⟨.bl _, H, I, rfl, ?_⟩
    rw [show its.toArray.any (eqU x) = its.any (eqU x) by simp, any_eqU r fs]
    exact q
theorem op_notIn_seq : OpR X (compareOp .NotIn) (rIn X.K true) := by
  intro pins s σ H x y v u Q I rx ry h
  obtain ⟨p, xs, rfl, hq, fx, fs, q⟩ := h
  cases ry
  rcases hq with hq | hq
  · obtain ⟨its, r, pl, hz⟩ := I.list hq
    refine SeqAt.notIn_listAt (eqU x) pl.isList (fun w hw => mem_eqAt rx fx r fs w (by simpa using hw)) ⟨.bl _, H, I, rfl, ?_⟩
    rw [show its.toArray.any (eqU x) = its.any (eqU x) by simp, any_eqU r fs]
    exact q
  · obtain ⟨its, r, pl, hz⟩ := I.tuple hq
    refine SeqAt.notIn_tupleAt (eqU x) pl (fun w hw => mem_eqAt rx fx r fs w (by simpa using hw)) ⟨.bl _, H, I, rfl, ?_⟩
    rw [show its.toArray.any (eqU x) = its.any (eqU x) by simp, any_eqU r fs]
    exact q

/-! ### len, list(x), tuple(x) of any list or tuple that is read -/
theorem call_len_seq : CallR X (.builtin "len") (fun xs H Q => ∃ p ys, xs = [.ref p] ∧ (SqL X.K H p ys ∨ SqT X.K H p ys) ∧ Q (.int ys.length) H) := by
  intro pins s σ H xs us Q I r h
  obtain ⟨p, ys, rfl, hq, q⟩ := h
  obtain ⟨u, rfl, rx⟩ := vals1 r
  cases rx
  have hn := line63
  rcases hq with hq | hq
  · obtain ⟨its, r', pl, hz⟩ := I.list hq
    have hlen := r'.length
    exact Calls.call_len_list pl.isList (by simp only [List.size_toArray] <;> omega) ⟨.int ys.length, H, I.tok _, ⟨s.toks + 1, by rw [List.size_toArray, hlen]⟩, q⟩
  · obtain ⟨its, r', pl, hz⟩ := I.tuple hq
    have hlen := r'.length
    exact len_tuple pl (by simp only [List.size_toArray] <;> omega) ⟨.int ys.length, H, I.tok _, ⟨s.toks + 1, by rw [List.size_toArray, hlen]⟩, q⟩
theorem call_list_of : CallR X (.type "list") (fun xs H Q => ∃ p ys, xs = [.ref p] ∧ (SqL X.K H p ys ∨ SqT X.K H p ys) ∧ ∀ l, H l = none → Q (.ref l) (upd H l (.lst ys))) := by
  intro pins s σ H xs us Q I r h
  obtain ⟨p, ys, rfl, hq, q⟩ := h
  obtain ⟨u, rfl, rx⟩ := vals1 r
  cases rx
  have fin : ∀ (its : List Value), Vals ys its → ys.length ≤ sizeLine → ∀ (h' : Heap) (c' : Nat), (∀ b o', s.heap.get? b = some o' → h'.get? b = some o') →
      h'.get? s.heap.objs.size = some { cls := .type "list", dict := none, data := .seq its.toArray c', slots := #[] } → EP X pins σ Q (.ref s.heap.objs.size) { s with heap := h' } := fun its r' hz h' c' kp e =>
    ⟨.ref s.heap.objs.size, _, I.laid (t' := s.toks) kp (Nat.le_refl _) (show ObjOk X.prog X.w _ h' _ (.lst ys) from ⟨hz, its, c', r', e⟩), rfl, q _ (I.hok.fresh (Nat.le_refl _))⟩
  rcases hq with hq | hq
  · obtain ⟨its, r', pl, hz⟩ := I.list hq
    have hlen := r'.length
    obtain ⟨o, ho, hc, n, hd⟩ := pl.isList
    exact call_list_seq p (.inl rfl) ho hc hd (fun h' c' kp e => fin its r' hz h' c' kp e) (by simp only [List.size_toArray] <;> omega)
  · obtain ⟨its, r', pl, hz⟩ := I.tuple hq
    have hlen := r'.length
    obtain ⟨o, ho, hc, n, hd⟩ := pl
    exact call_list_seq p (.inr rfl) ho hc hd (fun h' c' kp e => fin its r' hz h' c' kp e) (by simp only [List.size_toArray] <;> omega)
theorem call_tuple_of : CallR X (.type "tuple") (fun xs H Q => ∃ p ys, xs = [.ref p] ∧ ((SqL X.K H p ys ∧ ∀ l, H l = none → Q (.ref l) (upd H l (.tup ys))) ∨ (SqT X.K H p ys ∧ Q (.ref p) H))) := by
  intro pins s σ H xs us Q I r h
  obtain ⟨p, ys, rfl, h⟩ := h
  obtain ⟨u, rfl, rx⟩ := vals1 r
  cases rx
  rcases h with ⟨hq, q⟩ | ⟨hq, q⟩
  · obtain ⟨its, r', pl, hz⟩ := I.list hq
    have hlen := r'.length
    refine call_tuple_list pl.isList (fun h' kp => ?_) (by simp only [List.size_toArray] <;> omega)
    have I1 : Inv X pins σ H { s with heap := h' } := I.kept (t' := s.toks) kp
    have I2 : Inv X pins σ (upd H h'.objs.size (.tup ys)) { s with heap := h'.push { cls := .type "tuple", data := .seq its.toArray } } :=
      I1.laid (t' := s.toks) (fun b o e => Heap.get?_push_of_some _ e) (Nat.le_refl _) (show ObjOk X.prog X.w _ _ _ (.tup ys) from ⟨hz, its, r', IsTup.new _ _⟩)
    exact ⟨.ref h'.objs.size, _, I2, rfl, q _ (I1.hok.fresh (Nat.le_refl _))⟩
  · obtain ⟨its, r', pl, hz⟩ := I.tuple hq
    exact call_tuple_same pl ⟨.ref p, H, I, rfl, q⟩

/-! ### the call of a builtin's method: o.m(..) -/
/-- the value is of that builtin type -/
def tyV (K : PySem.W.Frag) (T : String) (x : V) (H : Hp) : Prop := match x with
  | .str _ => T = "str"
  | .int _ => T = "int"
  | .ref p => (T = "list" ∧ ∃ xs, SqL K H p xs) ∨ (T = "tuple" ∧ ∃ o, K.lookup p = some o ∧ o.cls = .type "tuple" ∧ o.dict = none) ∨
      (T = "dict" ∧ ((∃ kvs, H p = some (.dK kvs)) ∨ ∃ kvs, H p = some (.dT kvs))) ∨ (T = "set" ∧ ∃ S n, H p = some (.set S n))
  | _ => False
theorem tyV_is {pins : List (Addr × Obj)} {σ : St} {H : Hp} {s : Shared} {T : String} {x : V} {v : Value} (I : Inv X pins σ H s) (r : RelV x v) (ty : tyV X.K T x H) :
    s.TypeIs v T ∧ ∀ a, v = .ref a → ∃ ob, s.heap.get? a = some ob ∧ ob.dict = none := by
  cases x with
  | str z =>
    obtain ⟨t, rfl⟩ := r
    cases (show T = "str" from ty)
    exact ⟨typeIs_str s z t, fun _ e => nomatch e⟩
  | int i =>
    obtain ⟨t, rfl⟩ := r
    cases (show T = "int" from ty)
    exact ⟨typeIs_int s i t, fun _ e => nomatch e⟩
  | ref p =>
    cases r
    rcases ty with ⟨rfl, xs, hq⟩ | ⟨rfl, o, hk, hc, hd⟩ | ⟨rfl, hk⟩ | ⟨rfl, S, n, hk⟩
    · obtain ⟨its, _, pl, _⟩ := I.list hq
      refine ⟨pl.isList.typeIs, fun a e => ?_⟩
      cases e
      obtain ⟨o, n, e, c, hd, _⟩ := pl
      exact ⟨o, e, hd⟩
    · refine ⟨⟨o, I.kIn p o hk, hc⟩, fun a e => ?_⟩
      cases e
      exact ⟨o, I.kIn _ o hk, hd⟩
    · have z : ∃ o, s.heap.get? p = some o ∧ o.ExactDict := by
        rcases hk with ⟨kvs, hk⟩ | ⟨kvs, hk⟩
        · obtain ⟨_, _, _, _, o, _, _, e, ex, _⟩ := I.hok p _ hk
          exact ⟨o, e, ex⟩
        · obtain ⟨_, _, _, _, o, _, _, e, ex, _⟩ := I.hok p _ hk
          exact ⟨o, e, ex⟩
      obtain ⟨o, e, ex⟩ := z
      refine ⟨⟨o, e, ex.1⟩, fun a e2 => ?_⟩
      cases e2
      exact ⟨o, e, ex.2.1⟩
    · obtain ⟨o, _, _, _, e, ex, _⟩ := I.hok p _ hk
      refine ⟨⟨o, e, ex.1⟩, fun a e2 => ?_⟩
      cases e2
      exact ⟨o, e, ex.2.1⟩
  | _ => exact False.elim ty
def tBM0 (K : PySem.W.Frag) (T : String) (r : V → List V → Hp → VK → Prop) (to : TE) : TE := fun σ H Q => to σ H fun x H1 => tyV K T x H1 ∧ r x [] H1 Q
def tBM (K : PySem.W.Frag) (T : String) (r : V → List V → Hp → VK → Prop) (to : TE) (t : TA) : TE := fun σ H Q => to σ H fun x H1 => tyV K T x H1 ∧ t σ H1 fun xs H2 => r x xs H2 Q
variable {o e : Expr} {es : List Expr} {to : TE} {t : TA} {name : Str} {apos cpos : Pos} {T id : String} {r : V → List V → Hp → VK → Prop}
theorem pe_bm0 (pa : PlainAttrs T) (slot : Slot T name id) (hty : typeOf (.builtin id) = pure (.type "method_descriptor")) (hm : MtR X id r) (ho : PE X o to)
    (hbase : attributeBase o name X.env (eval o X.env) = eval o X.env := by rfl) (hline : (apos.endLine == cpos.line) = true := by rfl) : PE X (.Call (.Attribute o name apos) [] [] cpos) (tBM0 X.K T r to) := by
  intro pins s σ H Q I h
  refine wpAny_Call_method0_late hbase hline (thn (ho pins s σ H _ I h) fun v s1 ⟨x, H1, I1, r1, ty, q1⟩ => ?_)
  obtain ⟨h1, h2⟩ := tyV_is I1 r1 ty
  exact ⟨T, id, pa, slot, hty, h1, h2, Calls.callWith_builtin rfl (PySem.evalArgs_none (hm pins s1 σ H1 x [] v [] Q I1 r1 .nil q1))⟩
theorem pe_bm (pa : PlainAttrs T) (slot : Slot T name id) (hty : typeOf (.builtin id) = pure (.type "method_descriptor")) (hm : MtR X id r) (ho : PE X o to) (ha : PA X (e :: es) t)
    (hbase : attributeBase o name X.env (eval o X.env) = eval o X.env := by rfl)
    (hfew : ((backTo cpos (starEach (e :: es) X.env)).all (fun x => !x.1) && (backToKw cpos (keywordEach [] X.env)).all (fun x => x.1.isSome)
      && decide ((e :: es).length + ([] : List Keyword).length + (if ([] : List Keyword).isEmpty then 0 else 1) < 30)) = true := by rfl)
    (hline : (apos.endLine == cpos.line) = true := by rfl) (hs : starEach (e :: es) X.env = (false, eval e X.env) :: starEach es X.env := by rfl) (hplain : (backTo cpos (starEach es X.env)).any (·.1) = false := by rfl) :
    PE X (.Call (.Attribute o name apos) (e :: es) [] cpos) (tBM X.K T r to t) := by
  intro pins s σ H Q I h
  refine wpAny_Call_method_late hbase hfew hline rfl (thn (ho pins s σ H _ I h) fun v s1 ⟨x, H1, I1, r1, ty, q1⟩ => ?_)
  obtain ⟨h1, h2⟩ := tyV_is I1 r1 ty
  refine ⟨T, id, pa, slot, hty, h1, h2, ?_⟩
  have hA := ha cpos pins s1 σ H1 _ I1 q1
  rw [hs] at hA ⊢
  refine Calls.callWith_builtin (by show (false || (backTo cpos (starEach es X.env)).any (·.1)) = false; rw [hplain] <;> rfl) (Calls.evalArgs_plain ?_)
  exact thn hA fun us s2 ⟨vs, H2, I2, r2, q2⟩ => hm pins s2 σ H2 x vs v us Q I2 r1 r2 q2
/- xs.append(e), list.index on a module's tuple .. are MtR facts of 06m -/
end
end L2

namespace L2
open PySem PySem.Spec PyProof.Rows

def MtM (X : Cx) (id : String) (r : V → List V → Hp → VK → Prop) : Prop :=
  ∀ (pins : List (Addr × Obj)) (s : Shared) (σ : St) (H : Hp) (x : V) (xs : List V) (v : Value) (us : List Value) (Q : VK), Inv X pins σ H s → RelV x v → Vals xs us → r x xs H Q →
    wpAny (model X.prog X.w) X.A (call (.builtin id) (v :: us)) (EP X pins σ Q) X.xe s

/-! ### lists of values -/
theorem Vals.one : ∀ {x : V} {us : List Value}, Vals [x] us → ∃ u, us = [u] ∧ RelV x u
  | _, _, .cons r .nil => ⟨_, rfl, r⟩
theorem Vals.zero : ∀ {us : List Value}, Vals [] us → us = []
  | _, .nil => rfl
theorem Vals.dropLast {xs : List V} {us : List Value} (h : Vals xs us) : Vals xs.dropLast us.dropLast := by
  induction h with
  | nil => exact .nil
  | cons r t ih =>
    cases t with
    | nil => exact .nil
    | cons q t' => exact .cons r ih
theorem Vals.rep {xs : List V} {us : List Value} (h : Vals xs us) : ∀ k : Nat, Vals (List.replicate k xs).flatten (List.replicate k us).flatten
  | 0 => .nil
  | k + 1 => by
    rw [List.replicate_succ, List.replicate_succ, List.flatten_cons, List.flatten_cons]
    exact Vals.append h (Vals.rep h k)
theorem erase_last {α : Type} (l : List α) : l.eraseIdx (l.length - 1) = l.dropLast := by
  induction l with
  | nil => rfl
  | cons a r ih =>
    cases r with
    | nil => rfl
    | cons b r =>
      have e : (a :: b :: r).length - 1 = ((b :: r).length - 1) + 1 := by
        have h1 : (a :: b :: r).length = r.length + 2 := rfl
        have h2 : (b :: r).length = r.length + 1 := rfl
        omega
      rw [e, List.eraseIdx_cons_succ, ih]
      all_goals rfl
theorem foldl_rep (its : List Value) : ∀ (k : Nat) (acc : List Value),
    List.foldl (fun x1 x2 => x1 ++ x2) acc.toArray (List.replicate k its.toArray) = (acc ++ (List.replicate k its).flatten).toArray
  | 0, acc => by simp
  | k + 1, acc => by
    have e : acc.toArray ++ its.toArray = (acc ++ its).toArray := by simp
    have e2 : (acc ++ its) ++ (List.replicate k its).flatten = acc ++ (List.replicate (k + 1) its).flatten := by
      rw [List.replicate_succ, List.flatten_cons, List.append_assoc]
    rw [← e2, ← foldl_rep its k (acc ++ its), ← e, List.replicate_succ, List.foldl_cons]

section
variable {X : Cx} {pins : List (Addr × Obj)} {σ : St} {H : Hp} {s : Shared} {l b : Addr} {xs ys zs : List V}

/-! ### the two steps: a tracked list is rewritten, a new list is laid -/
theorem Inv.lset {its its' : List Value} {n : Nat} {f : Array Value → Array Value} {t' : Nat} (I : Inv X pins σ H s) (hH : H l = some (.lst xs))
    (e : s.heap.get? l = some { cls := .type "list", data := .seq its.toArray n }) (hf : f its.toArray = its'.toArray) (hv : Vals ys its') (hz : ys.length ≤ sizeLine) :
    Inv X pins σ (upd H l (.lst ys)) { s with heap := s.heap.update l (Obj.mapSeq f), toks := t' } := by
  have q := PySem.IsL.update e f
  rw [hf] at q
  refine I.write (x := l) (e := l) (by rw [hH]; exact trivial) (.inl rfl) (fun b' u hb hu => (Heap.get?_update_other s.heap (Obj.mapSeq f) (Ne.symm hb)).trans hu) ⟨_, q⟩ ?_
  exact ⟨hz, its', _, hv, q⟩
theorem Inv.lnew {its : List Value} {t' : Nat} (I : Inv X pins σ H s) (hv : Vals ys its) (hz : ys.length ≤ sizeLine) :
    Inv X pins σ (upd H s.heap.objs.size (.lst ys)) { s with heap := s.heap.push { cls := .type "list", data := .seq its.toArray }, toks := t' } :=
  I.laid (fun _ _ q => Heap.get?_push_of_some _ q) (Nat.le_refl _) ⟨hz, its, 0, hv, Heap.get?_push_size _ rfl⟩
theorem Inv.fresh (I : Inv X pins σ H s) : H s.heap.objs.size = none := I.hok.fresh (Nat.le_refl _)
theorem Inv.lstM (I : Inv X pins σ H s) (hH : H l = some (.lst xs)) : xs.length ≤ sizeLine ∧ ∃ (its : List Value) (n : Nat), Vals xs its ∧ xs.length = its.length ∧ s.heap.get? l = some { cls := .type "list", data := .seq its.toArray n } := by
  obtain ⟨z, its, n, r, e⟩ := I.hok l _ hH
  exact ⟨z, its, n, r, r.length, e⟩

theorem notLongL {n : Nat} (h : n ≤ sizeLine) : Builtin.List.listTooLong n = false := by
  unfold Builtin.List.listTooLong
  exact decide_eq_false (by omega)
end

section
variable {X : Cx}

/-! ### methods -/
def rAppend : V → List V → Hp → VK → Prop := fun x vs H Q => ∃ l xs y, x = .ref l ∧ vs = [y] ∧ H l = some (.lst xs) ∧ xs.length < sizeLine ∧ Q .non (upd H l (.lst (xs ++ [y])))
theorem mt_append : MtM X "list.append" rAppend := by
  intro pins s σ H x vs v us Q I rx rv h
  obtain ⟨l, xs, y, rfl, rfl, hH, hz, q⟩ := h
  cases rx
  obtain ⟨u, rfl, ru⟩ := rv.one
  obtain ⟨z, its, n, r, hl, e⟩ := I.lstM hH
  refine call_meets F.slot_list_append ⟨_, e, rfl⟩ F.entry_list_append (F.args_list_append_2 _ _) (PySem.list_append l its.toArray n u (by rw [List.size_toArray]; omega)) ⟨e, ?_⟩
  refine ⟨.non, _, I.lset (its' := its ++ [u]) hH e (by simp) (r.append (.cons ru .nil)) ?_, rfl, q⟩
  rw [List.length_append, List.length_singleton]
  omega

def rExtend : V → List V → Hp → VK → Prop := fun x vs H Q => ∃ l b xs zs, x = .ref l ∧ vs = [.ref b] ∧ H l = some (.lst xs) ∧ H b = some (.lst zs) ∧ xs.length + zs.length ≤ sizeLine ∧ Q .non (upd H l (.lst (xs ++ zs)))
theorem mt_extend : MtM X "list.extend" rExtend := by
  intro pins s σ H x vs v us Q I rx rv h
  obtain ⟨l, b, xs, zs, rfl, rfl, hH, hB, hz, q⟩ := h
  cases rx
  obtain ⟨u, rfl, ru⟩ := rv.one
  cases ru
  obtain ⟨z, its, n, r, hl, e⟩ := I.lstM hH
  obtain ⟨z2, its2, n2, r2, hl2, e2⟩ := I.lstM hB
  have hsz : its.toArray.size + its2.toArray.size ≤ sizeLine := by rw [List.size_toArray, List.size_toArray]; omega
  have hlong : ¬ (!its.toArray.isEmpty && Builtin.List.listTooLong (its.toArray.size + its2.toArray.size)) = true := by
    rw [notLongL hsz, Bool.and_false]
    exact Bool.false_ne_true
  refine call_meets F.slot_list_extend ⟨_, e, rfl⟩ F.entry_list_extend (F.args_list_extend_2 _ _)
    (AutoSeq1.list_extend_list_list_0 l its.toArray n b its2.toArray n2 hlong (by rw [List.size_toArray]; omega) (by omega)) ⟨e, e2, ?_⟩
  refine ⟨.non, _, I.lset (its' := its ++ its2) hH e (by simp) (r.append r2) ?_, rfl, q⟩
  rw [List.length_append]
  omega

def rPop : V → List V → Hp → VK → Prop := fun x vs H Q => ∃ l xs y, x = .ref l ∧ vs = [] ∧ H l = some (.lst xs) ∧ xs[xs.length - 1]? = some y ∧ Q y (upd H l (.lst xs.dropLast))
theorem mt_pop : MtM X "list.pop" rPop := by
  intro pins s σ H x vs v us Q I rx rv h
  obtain ⟨l, xs, y, rfl, rfl, hH, hy, q⟩ := h
  cases rx
  have hus := rv.zero
  subst hus
  obtain ⟨z, its, n, r, hl, e⟩ := I.lstM hH
  obtain ⟨u, hu, ru⟩ := r.get hy
  have hy' : its.toArray[its.toArray.size - 1]? = some u := by
    show its.toArray[its.length - 1]? = some u
    rw [← Array.getElem?_toList, ← hl]
    exact hu
  refine call_meets F.slot_list_pop ⟨_, e, rfl⟩ F.entry_list_pop (F.args_list_pop_1 _) (MeetsSeq.list_pop_last l its.toArray n u hy' (by rw [List.size_toArray]; omega)) ⟨e, ?_⟩
  refine ⟨y, _, I.lset (its' := its.dropLast) hH e ?_ r.dropLast ?_, ru, q⟩
  · show its.toArray.eraseIdxIfInBounds (its.toArray.size - 1) = its.dropLast.toArray
    rw [List.size_toArray, List.eraseIdxIfInBounds_toArray, erase_last]
  · rw [List.length_dropLast]
    omega




/-! ### list + list, list += list, list * int -/
def rCat : R2 := fun x y H Q => ∃ l b xs zs, x = .ref l ∧ y = .ref b ∧ H l = some (.lst xs) ∧ H b = some (.lst zs) ∧ xs.length + zs.length ≤ sizeLine ∧ ∀ p, H p = none → Q (.ref p) (upd H p (.lst (xs ++ zs)))
theorem op_cat : OpR X (binaryOp .Add) rCat := by
  intro pins s σ H x y v u Q I rx ry h
  obtain ⟨l, b, xs, zs, rfl, rfl, hH, hB, hz, q⟩ := h
  cases rx
  cases ry
  obtain ⟨z, its, n, r, hl, e⟩ := I.lstM hH
  obtain ⟨z2, its2, n2, r2, hl2, e2⟩ := I.lstM hB
  refine PySem.P.add_list e e2 ?_ (by rw [List.size_toArray, List.size_toArray]; omega)
  have ea : its.toArray ++ its2.toArray = (its ++ its2).toArray := by simp
  rw [ea]
  exact ⟨.ref _, _, I.lnew (t' := s.toks) (r.append r2) (by rw [List.length_append]; omega), rfl, q _ I.fresh⟩
/-- a list times an int (a negative one is nothing) -/
def rRep : R2 := fun x y H Q => ∃ l k xs, x = .ref l ∧ y = .int k ∧ H l = some (.lst xs) ∧ -(2 ^ 63) ≤ k ∧ k < 2 ^ 63 ∧ xs.length * k.toNat ≤ sizeLine ∧
  ∀ p, H p = none → Q (.ref p) (upd H p (.lst (List.replicate k.toNat xs).flatten))
theorem len_rep {α : Type} (xs : List α) (k : Nat) : (List.replicate k xs).flatten.length = k * xs.length := by
  induction k with
  | zero => simp
  | succ k ih => rw [List.replicate_succ, List.flatten_cons, List.length_append, ih, Nat.succ_mul, Nat.add_comm]
theorem op_rep : OpR X (binaryOp .Mult) rRep := by
  intro pins s σ H x y v u Q I rx ry h
  obtain ⟨l, k, xs, rfl, rfl, hH, h1, h2, hz, q⟩ := h
  cases rx
  obtain ⟨t, rfl⟩ := ry
  obtain ⟨z, its, n, r, hl, e⟩ := I.lstM hH
  have hlen : its.toArray.size * k.toNat ≤ sizeLine := by rw [List.size_toArray, ← hl]; exact hz
  have hcap : ¬ its.toArray.size * k.toNat > (2 ^ 63 - 1) / 8 := by
    have : (sizeLine : Nat) ≤ (2 ^ 63 - 1) / 8 := by decide
    omega
  have hfit : ¬ (!Builtin.List.listFitsIndex k) = true := by
    rw [fitsIndex_both h1 h2]
    exact Bool.false_ne_true
  have hlong : ¬ Builtin.List.listTooLong (its.toArray.size * k.toNat) = true := by
    rw [notLongL hlen]
    exact Bool.false_ne_true
  have hnew : List.foldl (fun x1 x2 => x1 ++ x2) #[] (List.replicate (if its.toArray.isEmpty = true then 0 else k.toNat) its.toArray) = (List.replicate k.toNat its).flatten.toArray := by
    have f0 : ∀ m : Nat, List.foldl (fun x1 x2 => x1 ++ x2) #[] (List.replicate m its.toArray) = (List.replicate m its).flatten.toArray := fun m => by
      have := foldl_rep its m []
      rw [List.nil_append] at this
      exact this
    rw [f0]
    cases its with
    | nil => simp
    | cons a r' => rw [if_neg (by simp)]
  refine wpAny_binaryOp_repeat_ref (T := "list") (U := "int") (by decide) ⟨_, e, rfl⟩ (fun s' => typeIs_int s' k t) noFill_list_mul F.fills_int_mul F.slot_int_rmul repeat_list F.slot_int_index.lookup
    (call_meets F.slot_int_rmul (typeIs_int s k t) F.entry_int_rmul (F.args_int_rmul_2 _ _) (int___rmul___int_list k t l its.toArray n)
      ⟨e, rfl, ⟨_, e, rfl⟩, call_meets F.slot_list_mul ⟨_, e, rfl⟩ F.entry_list_mul (F.args_list_mul_2 _ _) (AutoListH.list___mul___list_int_3 l its.toArray n k t hfit hcap hlong) ⟨e, ?_⟩⟩)
  rw [hnew]
  exact ⟨.ref _, _, I.lnew (t' := s.toks) (r.rep k.toNat) (by rw [len_rep, Nat.mul_comm]; exact hz), rfl, q _ I.fresh⟩

/-! ### del xs[i] -/
end

/-! ### xs[a:b] = ys -/
section
variable {prog : Program} {w : World} {A : Around} {E : Value → Shared → Prop} {s : Shared}
end

section
variable {X : Cx}
end
end L2

namespace L2
open PySem PySem.Spec PyProof.Rows

theorem Vals.ints : ∀ {ns : List Int} {us : List Value}, Vals (ns.map V.int) us → IntsAre us ns
  | [], us, h => by
    rw [List.map_nil] at h
    cases h
    exact IntsAre.nil
  | n :: ns, us, h => by
    rw [List.map_cons] at h
    cases h with
    | cons r t =>
      obtain ⟨k, rfl⟩ := r
      exact IntsAre.cons n k (Vals.ints t)
theorem Vals.bls : ∀ {bs : List Bool} {us : List Value}, Vals (bs.map V.bl) us → us = bs.map Value.bool
  | [], us, h => by
    rw [List.map_nil] at h
    cases h
    rfl
  | b :: bs, us, h => by
    rw [List.map_cons] at h
    cases h with
    | cons r t =>
      cases r
      rw [Vals.bls t, List.map_cons]
theorem Vals.ref1 {a : Addr} {us : List Value} (r : Vals [V.ref a] us) : us = [Value.ref a] := by
  cases r with
  | cons r t =>
    cases t
    cases r
    rfl

/-! ### the library's walks over a list of ints, kept objects alone -/
section
variable {prog : Program} {w : World} {A : Around} {E : Value → Shared → Prop} {s : Shared} {l : Addr} {its : List Value} {ns : List Int} {Q : Value → Shared → Prop}
theorem sum_raw (hh : A.handled = none) (hl : s.heap.IsList l its.toArray) (hi : IntsAre its ns)
    (h : ∀ h' tk t', (∀ b o, s.heap.get? b = some o → h'.get? b = some o) → Q (.int ns.sum t') { s with heap := h', toks := tk }) : wpAny (model prog w) A (call (.builtin "sum") [.ref l]) Q E s := by
  obtain ⟨xs, e⟩ := hi.allInts.items
  have hn : numsOf (intItems xs).toList = ns := by rw [← e]; exact hi.numsOf
  rw [nums_intItems] at hn
  rw [e] at hl
  refine PySem.sum_intListG hh hl fun h' tk t' hk => ?_
  have := h h' tk t' hk
  rw [preSum_eq, List.take_of_length_le (by simp), hn]; exact this
end

/-! ### the calls, by values (CallR of 03t; MtR of 06l) -/
section
variable {X : Cx}
/-- sum(xs) of a list of ints -/
def rSum (K : PySem.W.Frag) : List V → Hp → VK → Prop := fun vs H Q => ∃ (a : Addr) (ns : List Int), vs = [V.ref a] ∧ SqL K H a (ns.map V.int) ∧ Q (.int ns.sum) H
theorem cr_sum (hc : X.calm = true) : CallR X (.builtin "sum") (rSum X.K) := by
  intro pins s σ H vs us Q I r h
  obtain ⟨a, ns, rfl, hs, q⟩ := h
  obtain ⟨its, rv, hl, _⟩ := I.list hs
  rw [Vals.ref1 r]
  exact sum_raw (I.ok.hd hc) hl.isList rv.ints fun h' tk t' hk => ⟨.int _, H, I.kept hk, ⟨_, rfl⟩, q⟩

/-! sorted, sort (fewer than 64 items: the library's own bound) -/
end

/-! ### list.index, flat items -/
section
variable {X : Cx}
def rIndex (K : PySem.W.Frag) : V → List V → Hp → VK → Prop := fun x xs H Q => ∃ (a : Addr) (ys : List V) (y : V) (j : Nat) (z : V), x = V.ref a ∧ xs = [y] ∧ SqL K H a ys ∧ flatV y = true ∧ ys.all flatV = true ∧ ys[j]? = some z ∧ eqV z y = true ∧
  (∀ (m : Nat) (z' : V), m < j → ys[m]? = some z' → eqV z' y = false) ∧ Q (.int (j : Nat)) H
theorem flat_at {ys : List V} (f : ys.all flatV = true) {j : Nat} {z : V} (h : ys[j]? = some z) : flatV z = true := List.all_eq_true.mp f z (List.mem_of_getElem? h)
theorem mt_index : MtR X "list.index" (rIndex X.K) := by
  intro pins s σ H x xs v us Q I rx rxs h
  obtain ⟨a, ys, y, j, z, rfl, rfl, hs, fy, fys, hz, hzj, hno, q⟩ := h
  cases rx
  cases rxs with
  | cons ry rt =>
    rename_i uy ut
    cases rt
    obtain ⟨its, rv, ⟨⟨cls, dd, data, sl⟩, n, ho, hc, hdn, hd⟩, hlen⟩ := I.list hs
    simp only at hc hd
    subst hc hd
    obtain ⟨u, hu, ru⟩ := rv.get hz
    obtain ⟨hjl, hje⟩ := List.getElem?_eq_some_iff.mp hu
    have hvl := rv.length
    have hj : j < its.toArray.size := by simpa using hjl
    have hsl := sizeLine_eq
    refine call_meets PySem.F.slot_list_index ⟨_, ho, rfl⟩ PySem.F.entry_list_index (PySem.F.args_list_index_2 _ _)
      (SeqAt.list_indexAt a its.toArray n dd sl uy (eqU y) j hj (by omega) ?_ ?_) ⟨ho, fun u' hu' => mem_eqAt ry fy rv fys u' (by simpa using hu'), ?_⟩
    · have e1 : its.toArray[j] = u := by simpa using hje
      rw [e1, eqU_of ru (flat_at fys hz)]
      exact hzj
    · intro m hm hmj
      have hml : m < its.length := by simpa using hm
      have hmy : m < ys.length := by omega
      have hy' : ys[m]? = some ys[m] := List.getElem?_eq_getElem hmy
      obtain ⟨u2, hu2, ru2⟩ := rv.get hy'
      obtain ⟨_, hme⟩ := List.getElem?_eq_some_iff.mp hu2
      have e1 : its.toArray[m] = u2 := by simpa using hme
      rw [e1, eqU_of ru2 (flat_at fys hy')]
      exact hno m _ hmj hy'
    · exact ⟨.int (j : Nat), H, I.tok _, ⟨_, rfl⟩, q⟩
end

/-! ### type(x) of an own instance; is, is not of a module's class -/
section
variable {X : Cx}
end

/-! ### any(xs), all(xs) of a list of bools -/
theorem iter_any {prog : Program} {w : World} {A : Around} {E : Value → Shared → Prop} {s : Shared} {l : Addr} {items : Array Value} {Q : Value → Shared → Prop} (hl : s.heap.IsList l items)
    (h : ∀ s₂ : Shared, s₂ = { s with heap := s.heap.push { cls := .type "list_iterator", data := .fields #[.ref l, .int 0 0] } } →
      (s₂.heap.IsListIter s.heap.objs.size l 0 ∧ s₂.heap.IsList l items) → l ≠ s.heap.objs.size → Q (.ref s.heap.objs.size) s₂) : wpAny (model prog w) A (pyIter (.ref l)) Q E s := by
  have hlt : l < s.heap.objs.size := by obtain ⟨_, e, _⟩ := hl; exact Heap.lt_size e
  exact wpAny_pyIter_list hl (h _ rfl ⟨⟨_, Heap.get?_push_size _ rfl, rfl, rfl⟩, hl.push _⟩ (Nat.ne_of_lt hlt))
theorem truth_bools {prog : Program} {w : World} {A : Around} {bs : List Bool} {its : List Value} (e : its = bs.map Value.bool) :
    TruthOf prog w A (fun i v => its.toArray[i]? = some v) (fun i => bs.getD i false) := fun i v s Q E hv hq => by
  have hv' : its[i]? = some v := by simpa using hv
  rw [e, List.getElem?_map] at hv'
  obtain ⟨b, hb, rfl⟩ := Option.map_eq_some_iff.mp hv'
  have hg : bs.getD i false = b := by rw [List.getD_eq_getElem?_getD, hb] <;> rfl
  have hq' : Q (bs.getD i false) s := hq
  rw [hg] at hq'
  exact wpAny_truthy_bool hq'
theorem all_range : ∀ bs : List Bool, (List.range bs.length).all (fun i => bs.getD i false) = bs.all id
  | [] => rfl
  | b :: bs => by
    rw [List.length_cons, List.range_succ_eq_map, List.all_cons, List.all_map, List.all_cons, ← all_range bs]
    all_goals rfl
section
variable {X : Cx}
def rAll (K : PySem.W.Frag) : List V → Hp → VK → Prop := fun vs H Q => ∃ (a : Addr) (bs : List Bool), vs = [V.ref a] ∧ SqL K H a (bs.map V.bl) ∧ Q (.bl (bs.all id)) H
theorem cr_all (hc : X.calm = true) : CallR X (.builtin "all") (rAll X.K) := by
  intro pins s σ H vs us Q I r h
  obtain ⟨a, bs, rfl, hs, q⟩ := h
  obtain ⟨its, rv, hl, _⟩ := I.list hs
  rw [Vals.ref1 r]
  have hb := rv.bls
  refine call_all_walk (iter_any hl.isList fun s₂ e2 st hne => ?_)
  subst e2
  refine ⟨_, _, _, _, _, _, _, rfl, Walks.list (A := X.A.in1) (I.ok.hd hc) _ a hne its.toArray, st, truth_bools hb, fun h' tk hk => ?_⟩
  refine ⟨.bl _, H, I.kept fun b o eo => hk b o (fun hmem => ?_) (Heap.get?_push_of_some _ eo), ?_, q⟩
  · rcases List.mem_cons.mp hmem with e1 | hmem
    · exact absurd (e1 ▸ Heap.lt_size eo) (Nat.lt_irrefl _)
    · cases hmem
  · show Value.bool _ = Value.bool _
    rw [← all_range, hb, List.size_toArray, List.length_map]
end

/-! ### == and != of data at any depth: none, bools, ints, texts, lists, tuples -/
mutual
inductive Dp (K : PySem.W.Frag) (H : Hp) : V → PyData → Prop
  | non : Dp K H .non .none
  | bl (b : Bool) : Dp K H (.bl b) (.bool b)
  | int (i : Int) : Dp K H (.int i) (.int i)
  | str (x : Str) : Dp K H (.str x) (.str x)
  | lst {a : Addr} {xs : List V} {ds : List PyData} : SqL K H a xs → DpAll K H xs ds → Dp K H (.ref a) (.list ds)
  | tup {a : Addr} {xs : List V} {ds : List PyData} : SqT K H a xs → DpAll K H xs ds → Dp K H (.ref a) (.tuple ds)
inductive DpAll (K : PySem.W.Frag) (H : Hp) : List V → List PyData → Prop
  | nil : DpAll K H [] []
  | cons {v : V} {vs : List V} {d : PyData} {ds : List PyData} : Dp K H v d → DpAll K H vs ds → DpAll K H (v :: vs) (d :: ds)
end
section
variable {X : Cx} {pins : List (Addr × Obj)} {σ : St} {H : Hp} {s : Shared}
mutual
theorem Dp.reads (I : Inv X pins σ H s) : ∀ (d : PyData) (v : V) (u : Value), Dp X.K H v d → RelV v u → ∃ as, Reads s.heap u d as
  | .none, _, _, h, r => by
    cases h
    cases r
    exact ⟨_, Reads.none⟩
  | .bool b, _, _, h, r => by
    cases h
    cases r
    exact ⟨_, Reads.bool b⟩
  | .int i, _, _, h, r => by
    cases h
    obtain ⟨t, rfl⟩ := r
    exact ⟨_, Reads.int i t⟩
  | .str x, _, _, h, r => by
    cases h
    obtain ⟨t, rfl⟩ := r
    exact ⟨_, Reads.str x t⟩
  | .list ds, _, _, h, r => by
    cases h with
    | lst hs ha =>
      cases r
      obtain ⟨its, rv, ⟨o, n, ho, hc, _, hd⟩, _⟩ := I.list hs
      obtain ⟨as, hr⟩ := Dp.readsAll I ds _ its ha rv
      exact ⟨_, Reads.list ho hc hd hr⟩
  | .tuple ds, _, _, h, r => by
    cases h with
    | tup hs ha =>
      cases r
      obtain ⟨its, rv, ⟨o, ho, hc, n, hd⟩, _⟩ := I.tuple hs
      obtain ⟨as, hr⟩ := Dp.readsAll I ds _ its ha rv
      exact ⟨_, Reads.tuple ho hc hd hr⟩
  | .dict _, _, _, h, _ => by cases h
theorem Dp.readsAll (I : Inv X pins σ H s) : ∀ (ds : List PyData) (vs : List V) (us : List Value), DpAll X.K H vs ds → Vals vs us → ∃ as, ReadsAll s.heap us ds as
  | [], _, _, h, r => by
    cases h
    cases r
    exact ⟨_, ReadsAll.nil⟩
  | d :: ds, _, _, h, r => by
    cases h with
    | cons h1 h2 =>
      cases r with
      | cons r1 r2 =>
        obtain ⟨as, q1⟩ := Dp.reads I d _ _ h1 r1
        obtain ⟨bs, q2⟩ := Dp.readsAll I ds _ _ h2 r2
        exact ⟨_, ReadsAll.cons q1 q2⟩
end
end
section
variable {X : Cx}
def rEqD (K : PySem.W.Frag) : R2 := fun x y H Q => ∃ d e, Dp K H x d ∧ Dp K H y e ∧ SeqAt.shaped d = true ∧ SeqAt.shaped e = true ∧ Q (.bl (PyData.eqv d e)) H
theorem op_eqD (hu : X.A.units + 64 < cLine) : OpR X (compareOp .Eq) (rEqD X.K) := by
  intro pins s σ H x y v u Q I rx ry h
  obtain ⟨d, e, hd, he, sd, se, q⟩ := h
  obtain ⟨as, r1⟩ := Dp.reads I d x v hd rx
  obtain ⟨bs, r2⟩ := Dp.reads I e y u he ry
  exact SeqAt.compareEq_shaped r1 r2 sd se hu ⟨.bl _, H, I, rfl, q⟩
end
end L2

namespace L2
open PySem PySem.Spec PyProof.Rows
abbrev CellAt (h : Heap) (c : Addr) (v : Option Value) : Prop := h.IsCell c v
def relS (scope sc : Scope) : Scope :=
  { scope with names := scope.names.map fun (n, k) => if (k == .free && sc.kind == .function && sc.names.lookup n == some .cell) then (n, .cell) else (n, k) }

def cloFrom (cells : List (Str × Addr)) : List (Str × NameKind) → List (Str × Addr) → List (Str × Addr)
  | [], acc => acc
  | (n, k) :: r, acc => if k == .free then cloFrom cells r ((n, (cells.lookup n).getD 0) :: acc) else cloFrom cells r acc

theorem closure_loop (env : Env) (f : Str × NameKind → List (Str × Addr) → Sem (ForInStep (List (Str × Addr))))
    (hf : ∀ n k c, f (n, k) c = if k == .free then (do let a ← cellOf env n; pure (.yield ((n, a) :: c))) else pure (.yield c)) :
    ∀ (names : List (Str × NameKind)) (acc : List (Str × Addr)), (∀ y ∈ names, y.2 = .free → ∃ c, env.cells.lookup y.1 = some c) → forIn names acc f = pure (cloFrom env.cells names acc)
  | [], acc, _ => by rw [List.forIn_nil]; rfl
  | (n, k) :: r, acc, h => by
    rw [List.forIn_cons, hf]
    have ih := fun acc => closure_loop env f hf r acc fun y hy => h y (List.mem_cons_of_mem _ hy)
    unfold cloFrom
    by_cases hk : (k == NameKind.free) = true
    · rw [if_pos hk, if_pos hk]
      obtain ⟨c, hc⟩ := h (n, k) List.mem_cons_self (by simpa using hk)
      have e : cellOf env n = pure c := by unfold cellOf; rw [hc]
      rw [e]
      have e2 : (env.cells.lookup n).getD 0 = c := by rw [hc]; rfl
      rw [e2]
      exact ih _
    · rw [if_neg hk, if_neg hk]
      exact ih _
theorem closure_ok {scope : Scope} {env : Env} (h : ∀ y ∈ scope.names, y.2 = .free → ∃ c, env.cells.lookup y.1 = some c) : closureFor scope env = pure (cloFrom env.cells scope.names []) := by
  simp only [closureFor]
  rw [closure_loop env _ (fun n k c => rfl) scope.names [] h]
  rfl

theorem mem_lookup {α : Type} : ∀ {l : List (Str × α)} {n : Str} {c : α}, (n, c) ∈ l → ∃ c', l.lookup n = some c'
  | (k, v) :: r, n, c, h => by
    rw [List.lookup_cons]
    cases hb : n == k with
    | true => exact ⟨_, rfl⟩
    | false =>
      rcases List.mem_cons.mp h with e | h
      · cases e; simp at hb
      · exact mem_lookup h

theorem cloFrom_mem {cells : List (Str × Addr)} : ∀ {names : List (Str × NameKind)} {acc : List (Str × Addr)} {n : Str} {c : Addr}, (n, c) ∈ cloFrom cells names acc → (n, c) ∈ acc ∨ ((n, .free) ∈ names ∧ c = (cells.lookup n).getD 0)
  | [], _, _, _, h => .inl h
  | (m, k) :: r, acc, n, c, h => by
    unfold cloFrom at h
    split at h
    · rename_i hk
      have hk : k = .free := by simpa using hk
      rcases cloFrom_mem h with h | ⟨h1, h2⟩
      · rcases List.mem_cons.mp h with e | h
        · cases e; exact .inr ⟨hk ▸ List.mem_cons_self, rfl⟩
        · exact .inl h
      · exact .inr ⟨List.mem_cons_of_mem _ h1, h2⟩
    · rcases cloFrom_mem h with h | ⟨h1, h2⟩
      · exact .inl h
      · exact .inr ⟨List.mem_cons_of_mem _ h1, h2⟩
theorem cloFrom_acc {cells : List (Str × Addr)} : ∀ {names : List (Str × NameKind)} {acc : List (Str × Addr)} {p : Str × Addr}, p ∈ acc → p ∈ cloFrom cells names acc
  | [], _, _, h => h
  | (m, k) :: r, acc, p, h => by
    unfold cloFrom
    split
    · exact cloFrom_acc (List.mem_cons_of_mem _ h)
    · exact cloFrom_acc h
theorem cloFrom_has {cells : List (Str × Addr)} : ∀ {names : List (Str × NameKind)} {acc : List (Str × Addr)} {n : Str}, (n, .free) ∈ names → (n, (cells.lookup n).getD 0) ∈ cloFrom cells names acc
  | (m, k) :: r, acc, n, h => by
    unfold cloFrom
    rcases List.mem_cons.mp h with e | h
    · cases e
      exact cloFrom_acc List.mem_cons_self
    · split
      · exact cloFrom_has h
      · exact cloFrom_has h

theorem cells_mem : ∀ {names : List (Str × NameKind)} {h : Heap} {acc : List (Str × Addr)} {x : Str} {c : Addr}, (x, c) ∈ cellsFrom h.objs.size names acc →
    (x, c) ∈ acc ∨ ((x, .cell) ∈ names ∧ h.objs.size ≤ c ∧ CellAt (pushCells h names) c none)
  | [], _, _, _, _, h => .inl h
  | (n, k) :: r, h, acc, x, c, hm => by
    unfold cellsFrom at hm
    unfold pushCells
    split at hm
    · rename_i hk
      rw [if_pos hk]
      have hk : k = .cell := by simpa using hk
      rw [← Heap.size_push h { cls := .type "cell", data := .cell none }] at hm
      rcases cells_mem hm with hm | ⟨h1, h2, h3⟩
      · rcases List.mem_cons.mp hm with e | hm
        · cases e
          exact .inr ⟨hk ▸ List.mem_cons_self, Nat.le_refl _, _, pushCells_keeps r _ _ _ (Heap.get?_push_size _ rfl), rfl⟩
        · exact .inl hm
      · rw [Heap.size_push] at h2
        exact .inr ⟨List.mem_cons_of_mem _ h1, Nat.le_of_succ_le h2, h3⟩
    · rename_i hk
      rw [if_neg hk]
      rcases cells_mem hm with hm | ⟨h1, h2, h3⟩
      · exact .inl hm
      · exact .inr ⟨List.mem_cons_of_mem _ h1, h2, h3⟩
theorem cells_acc : ∀ {names : List (Str × NameKind)} {n : Nat} {acc : List (Str × Addr)} {p : Str × Addr}, p ∈ acc → p ∈ cellsFrom n names acc
  | [], _, _, _, h => h
  | (m, k) :: r, n, acc, p, h => by
    unfold cellsFrom
    split
    · exact cells_acc (List.mem_cons_of_mem _ h)
    · exact cells_acc h
theorem cells_has : ∀ {names : List (Str × NameKind)} {n : Nat} {acc : List (Str × Addr)} {x : Str}, (x, .cell) ∈ names → ∃ c, (x, c) ∈ cellsFrom n names acc
  | (m, k) :: r, n, acc, x, h => by
    unfold cellsFrom
    rcases List.mem_cons.mp h with e | h
    · cases e
      exact ⟨n, cells_acc List.mem_cons_self⟩
    · split
      · exact cells_has h
      · exact cells_has h
theorem cells_inj : ∀ {names : List (Str × NameKind)} {h : Heap} {acc : List (Str × Addr)} {x y : Str} {c : Addr}, (∀ p ∈ acc, p.2 < h.objs.size) → (∀ x y c, (x, c) ∈ acc → (y, c) ∈ acc → x = y) →
    (x, c) ∈ cellsFrom h.objs.size names acc → (y, c) ∈ cellsFrom h.objs.size names acc → x = y
  | [], _, _, _, _, _, _, hi, h1, h2 => hi _ _ _ h1 h2
  | (n, k) :: r, h, acc, x, y, c, hl, hi, h1, h2 => by
    unfold cellsFrom at h1 h2
    split at h1
    · rename_i hk
      rw [if_pos hk] at h2
      rw [← Heap.size_push h { cls := .type "cell", data := .cell none }] at h1 h2
      refine cells_inj (h := h.push _) (fun p hp => ?_) (fun x y c a b => ?_) h1 h2
      · rw [Heap.size_push]
        rcases List.mem_cons.mp hp with rfl | hp
        · exact Nat.lt_succ_self _
        · exact Nat.lt_succ_of_lt (hl p hp)
      · rcases List.mem_cons.mp a with e | a <;> rcases List.mem_cons.mp b with e' | b
        · cases e; cases e'; rfl
        · cases e; exact absurd (hl _ b) (Nat.lt_irrefl _)
        · cases e'; exact absurd (hl _ a) (Nat.lt_irrefl _)
        · exact hi _ _ _ a b
    · rename_i hk
      rw [if_neg hk] at h2
      exact cells_inj hl hi h1 h2

theorem newEnv_comp {M : Model} {A : Around} {E : Value → Shared → Prop} {s : Shared} {scope : Scope} {globals : Addr} {closure : List (Str × Addr)} {qual : Str} {func : Option Addr} {code : Value} {around : Env} {builtins : Addr} {Q : Env → Shared → Prop}
    (h : Q (newEnv scope s.heap.objs.size globals (cellsFrom (s.heap.objs.size + 1) scope.names closure) qual func code (some around) builtins)
      { s with heap := pushCells (s.heap.push { cls := .type "dict", data := .dict #[] }) scope.names }) :
    wpAny M A (newFunctionEnv scope globals closure [] qual func code (some around) builtins) Q E s := by
  simp only [newFunctionEnv, Option.isSome_some, if_true]
  refine wpAny_bind (wpAny_alloc ?_)
  refine wpAny_bind (wpAny_layCells _ (fun n k c => rfl) scope.names closure _ _ ?_)
  rw [show ({ s with heap := s.heap.push { cls := .type "dict", data := .dict #[] } } : Shared).heap.objs.size = s.heap.objs.size + 1 from Heap.size_push ..]
  rw [List.forIn_nil]
  exact wpAny_bind (wpAny_pure (wpAny_pure h))

/-- every name of the written scope, in the scope that runs -/
theorem lookup_relS {sc : Scope} : ∀ {names : List (Str × NameKind)} {x : Str} {k : NameKind},
    (names.map fun (n, k) => if (k == NameKind.free && sc.kind == .function && sc.names.lookup n == some .cell) then (n, NameKind.cell) else (n, k)).lookup x = some k →
    ∃ k', names.lookup x = some k' ∧ (k = k' ∨ (k' = .free ∧ k = .cell))
  | [], _, _, h => by simp at h
  | (n, k₀) :: r, x, k, h => by
    have ih := @lookup_relS sc r x k
    have h' : List.lookup x ((if (k₀ == NameKind.free && sc.kind == .function && sc.names.lookup n == some .cell) = true then (n, NameKind.cell) else (n, k₀)) :: (r.map _)) = some k := h
    cases hx : x == n with
    | true =>
      simp only [List.lookup_cons, hx]
      by_cases hc : (k₀ == NameKind.free && sc.kind == .function && sc.names.lookup n == some .cell) = true
      · rw [if_pos hc] at h'
        simp only [List.lookup_cons, hx] at h'
        cases h'
        simp only [Bool.and_eq_true, beq_iff_eq] at hc
        exact ⟨k₀, rfl, .inr ⟨hc.1.1, rfl⟩⟩
      · rw [if_neg hc] at h'
        simp only [List.lookup_cons, hx] at h'
        cases h'
        exact ⟨_, rfl, .inl rfl⟩
    | false =>
      simp only [List.lookup_cons, hx]
      by_cases hc : (k₀ == NameKind.free && sc.kind == .function && sc.names.lookup n == some .cell) = true
      · rw [if_pos hc] at h'
        simp only [List.lookup_cons, hx] at h'
        exact ih h'
      · rw [if_neg hc] at h'
        simp only [List.lookup_cons, hx] at h'
        exact ih h'



/-- the names of a comprehension's block: its own (with their places in N), or captured -/
structure BlkOk (N : List Str) (sc scope : Scope) (own : List (Str × Nat)) : Prop where
  kind : scope.kind = .function
  uniq : ∀ y ∈ scope.names, scope.names.lookup y.1 = some y.2
  ix : ∀ p ∈ own, N[p.2]? = some p.1
  free : ∀ y ∈ scope.names, y.2 = .free → sc.names.lookup y.1 = some .cell ∨ sc.names.lookup y.1 = some .free
  own : ∀ y ∈ scope.names, y.2 = .local ∨ y.2 = .cell → y.1 ∈ own.map (·.1) ∨ y.1 ∉ N
/-- the slots of the block's own names forgotten -/
def wipe (σ : St) : List Nat → St
  | [] => σ
  | v :: vs => (wipe σ vs).set v none
theorem wipe_length (σ : St) : ∀ vs : List Nat, (wipe σ vs).length = σ.length
  | [] => rfl
  | v :: vs => by unfold wipe; rw [List.length_set, wipe_length σ vs]
theorem wipe_some {σ : St} {i : Nat} {x : V} : ∀ {vs : List Nat}, (wipe σ vs)[i]? = some (some x) → σ[i]? = some (some x) ∧ i ∉ vs
  | [], h => ⟨h, by simp⟩
  | v :: vs, h => by
    unfold wipe at h
    by_cases hi : v = i
    · subst hi
      by_cases hv : v < (wipe σ vs).length
      · rw [List.getElem?_set_self hv] at h; cases h
      · rw [List.getElem?_eq_none (by simpa using hv)] at h; cases h
    · rw [List.getElem?_set_ne hi] at h
      obtain ⟨h1, h2⟩ := wipe_some h
      exact ⟨h1, by simp only [List.mem_cons, not_or]; exact ⟨fun e => hi e.symm, h2⟩⟩

/-- the context of a block that starts at s, its iterator's objects at fp -/
abbrev Cx.blk (X : Cx) (s : Shared) (H : Hp) (scope : Scope) (cenv : Env) (fp : List Addr) : Cx := { X with s_0 := s, H_0 := H, env := cenv, outer := X.stack, ex := fp, fn := fun x => scope.names.lookup x == some .cell, pn := [], xe := fun _ _ => False }
section
variable {X : Cx} {pins : List (Addr × Obj)} {σ : St} {H : Hp} {s : Shared}
theorem block_start {scope : Scope} {own : List (Str × Nat)} {fp : List Addr} (I : Inv X pins σ H s) (ok : BlkOk X.N X.env.scope scope own) (hN : X.N.Nodup) (hfp : ∀ b ∈ fp, FpOk X pins H b ∧ b < s.heap.objs.size) :
    Inv (X.blk s H scope (compEnvC scope (cellsFrom (s.heap.objs.size + 1) scope.names (cloFrom X.env.cells scope.names [])) s.heap.objs.size X.env) fp) [] (wipe σ (own.map (·.2))) H { s with heap := pushCells (s.heap.push { cls := .type "dict", data := .dict #[] }) scope.names } := by
  have hfree : ∀ y ∈ scope.names, y.2 = .free → ∃ c, X.env.cells.lookup y.1 = some c := fun y hy e => by
    rcases ok.free y hy e with k | k
    · exact I.ok.has _ (.inl k)
    · exact I.ok.has _ (.inr k)
  generalize hcenv : compEnvC scope (cellsFrom (s.heap.objs.size + 1) scope.names (cloFrom X.env.cells scope.names [])) s.heap.objs.size X.env = cenv
  have kp : ∀ b o, s.heap.get? b = some o → (pushCells (s.heap.push { cls := .type "dict", data := .dict #[] }) scope.names).get? b = some o := fun b o e => pushCells_keeps _ _ _ _ (Heap.get?_push_of_some _ e)
  have hL : cenv.locals = s.heap.objs.size := by rw [← hcenv]; rfl
  have hcl : cenv.cells = cellsFrom (s.heap.objs.size + 1) scope.names (cloFrom X.env.cells scope.names []) := by rw [← hcenv]; rfl
  have hsc : cenv.scope = relS scope X.env.scope := by rw [← hcenv]; rfl
  rw [← Heap.size_push s.heap { cls := .type "dict", data := .dict #[] }] at hcl
  have cm : ∀ {y c}, (y, c) ∈ cloFrom X.env.cells scope.names [] → X.env.cells.lookup y = some c ∧ c < s.heap.objs.size := fun {y c} hm => by
    rcases cloFrom_mem hm with hm | ⟨h1, rfl⟩
    · cases hm
    · obtain ⟨c, hc⟩ := hfree _ h1 rfl
      rw [hc]
      obtain ⟨w, z⟩ := I.cell _ _ hc
      exact ⟨rfl, z.lt⟩
  have mem : ∀ {y c}, cenv.cells.lookup y = some c → (X.env.cells.lookup y = some c ∧ c < s.heap.objs.size) ∨ (s.heap.objs.size + 1 ≤ c ∧ CellAt (pushCells (s.heap.push { cls := .type "dict", data := .dict #[] }) scope.names) c none) := fun {y c} e => by
    rw [hcl] at e
    rcases cells_mem (PySem.mem_of_lookup e) with hm | ⟨_, h2, h3⟩
    · exact .inl (cm hm)
    · rw [Heap.size_push] at h2; exact .inr ⟨h2, h3⟩
  have look : ∀ {y}, scope.names.lookup y = some .free → ∃ c, cenv.cells.lookup y = some c ∧ X.env.cells.lookup y = some c := fun {y} hl => by
    have hy : (y, NameKind.free) ∈ scope.names := PySem.mem_of_lookup hl
    obtain ⟨c', e'⟩ := mem_lookup (cells_acc (names := scope.names) (n := (s.heap.push { cls := .type "dict", data := .dict #[] }).objs.size) (cloFrom_has (cells := X.env.cells) (acc := []) hy))
    rw [← hcl] at e'
    refine ⟨c', e', ?_⟩
    rw [hcl] at e'
    rcases cells_mem (PySem.mem_of_lookup e') with hm | ⟨h1, _, _⟩
    · exact (cm hm).1
    · have := ok.uniq _ h1
      rw [hl] at this; cases this
  have okB : (X.blk s H scope cenv fp).Ok := by
    refine ⟨I.ok.mod, by show cenv.scope.kind = _; rw [hsc]; exact ok.kind, by show cenv.globals = _; rw [← hcenv]; exact I.ok.glob, by show cenv.builtins = _; rw [← hcenv]; exact I.ok.blt, by show s.heap.objs.size ≤ cenv.locals; rw [hL]; exact Nat.le_refl _,
      fun y z c e1 e2 => ?_, fun y hy => ?_, fun y c z e => ?_, I.ok.hd, I.ok.frames, .inl rfl, fun b hb => ⟨?_, fun y c e z => ?_⟩, I.bs, Nat.le_trans I.ok.bsz I.sz, fun b o e hb => ?_, fun b hb z => ?_, I.stack, I.stkFree⟩
    · have e1 : cenv.cells.lookup y = some c := e1
      have e2 : cenv.cells.lookup z = some c := e2
      rw [hcl] at e1 e2
      refine cells_inj (fun p hp => ?_) (fun y z c a b => I.ok.inj y z c (cm a).1 (cm b).1) (PySem.mem_of_lookup e1) (PySem.mem_of_lookup e2)
      rw [Heap.size_push]
      exact Nat.lt_succ_of_lt (cm (y := p.1) (c := p.2) hp).2
    · show ∃ c, cenv.cells.lookup y = some c
      have key : ∀ k, cenv.kindOf y = some k → (k = .cell ∨ k = .free) → ∃ c, cenv.cells.lookup y = some c := fun k hk hk' => by
        unfold Env.kindOf at hk
        rw [hsc] at hk
        obtain ⟨k', e, r⟩ := lookup_relS hk
        have : k' = .cell ∨ k' = .free := by
          rcases r with rfl | ⟨rfl, _⟩
          · exact hk'
          · exact .inr rfl
        rcases this with rfl | rfl
        · obtain ⟨c, hm⟩ := cells_has (n := (s.heap.push { cls := .type "dict", data := .dict #[] }).objs.size) (acc := cloFrom X.env.cells scope.names []) (PySem.mem_of_lookup e)
          obtain ⟨c', e'⟩ := mem_lookup hm
          exact ⟨c', by rw [hcl]; exact e'⟩
        · obtain ⟨c, h1, _⟩ := look e
          exact ⟨c, h1⟩
      rcases hy with hy | hy
      · exact key _ hy (.inl rfl)
      · exact key _ hy (.inr rfl)
    · have z : (scope.names.lookup y == some NameKind.cell) = true := z
      have z : scope.names.lookup y = some .cell := by simpa using z
      have e : cenv.cells.lookup y = some c := e
      rw [hcl] at e
      rcases cells_mem (PySem.mem_of_lookup e) with hm | ⟨_, h2, _⟩
      · rcases cloFrom_mem hm with hm | ⟨h1, _⟩
        · cases hm
        · have q := ok.uniq _ h1
          rw [z] at q; cases q
      · rw [Heap.size_push] at h2
        exact Nat.le_of_succ_le h2
    · show b ≠ cenv.locals
      rw [hL]; exact Nat.ne_of_lt (hfp b hb).2
    · have e : cenv.cells.lookup y = some c := e
      rcases mem e with ⟨h1, _⟩ | ⟨h1, _⟩
      · exact (hfp b hb).1.2.2.2.2.1 y c h1 z
      · have h2 : s.heap.objs.size + 1 ≤ b := by rw [← z]; exact h1
        exact absurd (Nat.lt_of_lt_of_le (hfp b hb).2 (Nat.le_of_succ_le h2)) (Nat.lt_irrefl _)
    · rcases (hfp b hb).1.2.2.2.1 with z | z
      · exact I.ok.noex b o e z
      · exact absurd (Nat.lt_of_lt_of_le (Heap.lt_size e) (Nat.le_trans I.ok.bsz z)) (Nat.lt_irrefl _)
    · rcases List.mem_cons.mp (I.stkSub b z) with z | z
      · exact (hfp b hb).1.2.1 z
      · exact (hfp b hb).1.2.2.1 z
  refine ⟨okB, rfl, I.bare, Un.kept kp, ⟨fun _ => none, ?_, fun i y av e1 e2 e3 => ?_⟩, fun y c e => ?_, ?_, fun y c e => ?_, fun p hp => ?_, I.hok.kept kp, by rw [wipe_length]; exact I.len⟩
  · show Heap.Ns _ cenv.locals _
    rw [hL]
    exact Heap.Ns.keeps (Heap.Ns.new ..) fun b o e => pushCells_keeps _ _ _ _ e
  · obtain ⟨e2, hne⟩ := wipe_some e2
    have hfr : scope.names.lookup y = some .free ∧ (cenv.kindOf y = some .cell ∨ cenv.kindOf y = some .free) := by
      have key : ∀ k, cenv.scope.names.lookup y = some k → k = .local ∨ k = .cell ∨ k = .free → scope.names.lookup y = some .free ∧ (cenv.kindOf y = some .cell ∨ cenv.kindOf y = some .free) := fun k hk hk' => by
        have hk0 := hk
        rw [hsc] at hk
        obtain ⟨k', e, r⟩ := lookup_relS hk
        have no : ¬ (k' = .local ∨ k' = .cell) := fun hh => by
          rcases ok.own _ (PySem.mem_of_lookup e) hh with e' | e'
          · obtain ⟨p, hp, hpy⟩ := List.mem_map.mp e'
            have e3 := ok.ix p hp
            have : p.1 = y := hpy
            rw [this] at e3
            exact hne (List.mem_map.mpr ⟨p, hp, nodup_ix hN e3 e1⟩)
          · exact e' (List.mem_of_getElem? e1)
        rcases r with rfl | ⟨rfl, rfl⟩
        · rcases hk' with rfl | rfl | rfl
          · exact absurd (.inl rfl) no
          · exact absurd (.inr rfl) no
          · exact ⟨e, .inr hk0⟩
        · exact ⟨e, .inl hk0⟩
      have e3 : Vis cenv.scope y := e3
      rcases e3 with e3 | e3 | e3
      · exact key _ e3 (.inl rfl)
      · exact key _ e3 (.inr (.inl rfl))
      · exact key _ e3 (.inr (.inr rfl))
    obtain ⟨m, hn, hl⟩ := I.loc
    have hvis : Vis X.env.scope y := (ok.free _ (PySem.mem_of_lookup hfr.1) rfl).elim (fun k => .inr (.inl k)) (fun k => .inr (.inr k))
    obtain ⟨w, r, q⟩ := hl i y av e1 e2 hvis
    refine ⟨w, r, .inr ⟨hfr.2, ?_⟩⟩
    obtain ⟨c, h1, h2⟩ := look hfr.1
    rcases q with ⟨k, _⟩ | ⟨_, c', e', z⟩
    · have k : X.env.scope.names.lookup y = some .local := k
      rcases ok.free _ (PySem.mem_of_lookup hfr.1) rfl with k' | k' <;> rw [show X.env.scope.names.lookup y = _ from k'] at k <;> cases k
    · rw [h2] at e'; cases e'
      exact ⟨c, h1, z.keeps kp⟩
  · have e : cenv.cells.lookup y = some c := e
    rcases mem e with ⟨h1, _⟩ | ⟨_, z⟩
    · obtain ⟨w, z⟩ := I.cell y c h1
      exact ⟨w, z.keeps kp⟩
    · exact ⟨_, z⟩
  · show H cenv.locals = none
    rw [hL]; exact I.hok.fresh (Nat.le_refl _)
  · have e : cenv.cells.lookup y = some c := e
    rcases mem e with ⟨h1, _⟩ | ⟨h1, _⟩
    · exact I.freeC y c h1
    · exact I.hok.fresh (Nat.le_of_succ_le h1)
  · exact absurd (show p ∈ ([] : List (Addr × Obj)) ++ [] from hp) (by simp)

/-- an item appended to a tracked list -/
theorem app_ok {E : Value → Shared → Prop} {D : Addr} {xs : List V} {y : V} {v : Value} {Q : Value → Shared → Prop} (I : Inv X pins σ H s) (hD : H D = some (.lst xs)) (hz : xs.length < sizeLine) (r : RelV y v)
    (h : ∀ s', Inv X pins σ (upd H D (.lst (xs ++ [y]))) s' → Q .none s') : wpAny (model X.prog X.w) X.A (call (.builtin "list.append") [.ref D, v]) Q E s := by
  obtain ⟨hz', its, n, ri, e⟩ := I.hok D _ hD
  have hl := ri.length
  refine append_at (hsz := by rw [List.size_toArray]; omega) e fun h' sb ho' => ?_
  refine h { s with heap := h' } (I.write (t' := s.toks) (by rw [hD]; trivial) (.inl rfl) (fun b u hb q => (sb.2 b hb).trans q) ⟨_, ho'⟩ ⟨by rw [List.length_append]; exact hz, its ++ [v], n + 1, ri.append (.cons r .nil), ?_⟩)
  rw [ho']
  simp

/-- a clause's tests -/
def PTs (X : Cx) (ifs : List Expr) (t : TT) : Prop :=
  ∀ (pins : List (Addr × Obj)) (s : Shared) (σ : St) (H : Hp) (Q : Bool → Hp → Prop), Inv X pins σ H s → t σ H Q →
    wpAny (model X.prog X.w) X.A (forIn ifs true fun c r => if r = true then do let ok ← isTrue c X.env (eval c X.env); pure (ForInStep.yield ok) else pure (ForInStep.yield r)) (TP X pins σ Q) X.xe s
def tYes : TT := fun _ H Q => Q true H
theorem pts_nil : PTs X [] tYes := fun _ _ _ H _ I h => wpAny_tests_nil ⟨H, I, h⟩
end

theorem thnF {α : Type} {t : Sem α} {Q Q' : α → Shared → Prop} {M : Model} {A : Around} {E : Value → Shared → Prop} {s : Shared} (h : wpAny M A t Q (fun _ _ => False) s) (hQ : ∀ a s, Q a s → Q' a s) : wpAny M A t Q' E s := wpAny_mono h hQ fun _ _ z => False.elim z

/-- the loop of a list comprehension's block, the target of any form (codeAny_compLoop_tests asks a target that no tuple goes to; statement and proof follow it, PyProof/CompMap.lean:41-61, with the step letOwnedTupleGo kept) -/
theorem compLoop_any {prog : Program} {w : World} {A : Around} {R : Result → Shared → Prop} {s : Shared} {elt target iter : Expr} {ifs : List Expr} {scope : Scope} {pos : Pos} {it acc : Value} {env : Env} (I : Nat → Shared → Prop)
    (turn : ∀ n s, I n s → wpAny (model prog w) A (pyNext it) (fun r s₁ => match r with
      | none => R (.ok .next) s₁
      | some v => wpAny (model prog w) A (letOwnedTupleGo target it v) (fun _ s₁' => wpAny (model prog w) A (assign target env v) (fun _ s₂ =>
          wpAny (model prog w) A (forIn ifs true fun c r => if r = true then do let ok ← isTrue c env (eval c env); pure (ForInStep.yield ok) else pure (ForInStep.yield r)) (fun ok s₃ =>
            if ok = true then wpAny (model prog w) A (eval elt env) (fun x s₄ =>
              wpAny (model prog w) A (call (.builtin "list.append") [acc, x]) (fun _ s₅ => ∃ m, m < n ∧ I m s₅) (notedBy (model prog w) A env fun e s' => R (.error e) s') s₄) (notedBy (model prog w) A env fun e s' => R (.error e) s') s₃
            else ∃ m, m < n ∧ I m s₃) (notedBy (model prog w) A env fun e s' => R (.error e) s') s₂) (notedBy (model prog w) A env fun e s' => R (.error e) s') s₁') (notedBy (model prog w) A env fun e s' => R (.error e) s') s₁) (notedBy (model prog w) A env fun e s' => R (.error e) s') s)
    (n : Nat) (h : I n s) :
    codeAny (model prog w) A (.compLoop (.ListComp elt [⟨target, iter, ifs, 0⟩] scope pos) 0 it acc env) R s := by
  refine codeAny_loop rfl I (fun n s hI => ?_) n h
  show wpAny _ A ((compTurn (.ListComp elt [⟨target, iter, ifs, 0⟩] scope pos) 0 it acc env).onRaise (fun x => do noteFrame x env; theTreesLotGoes x)) _ _ s
  refine wpAny_noted ?_
  rw [compTurn_list]
  refine wpAny_bind (wpAny_standAt (wpAny_bind (wpAny_mono (turn n s hI) (fun r s₁ h₁ => ?_) fun _ _ h' => h')))
  cases r with
  | none => exact wpAny_pure h₁
  | some v =>
    refine wpAny_bind (wpAny_mono h₁ (fun _ s₁' h₁' => ?_) fun _ _ h' => h')
    refine wpAny_bind (wpAny_mono h₁' (fun _ s₂ h₂ => wpAny_bind (wpAny_mono h₂ (fun ok s₃ h₃ => ?_) fun _ _ h' => h')) fun _ _ h' => h')
    cases ok with
    | false => exact wpAny_pure ⟨rfl, h₃⟩
    | true =>
      exact wpAny_bind (wpAny_bind (wpAny_mono h₃ (fun x s₄ h₄ => wpAny_bind (wpAny_mono h₄ (fun _ s₅ h₅ => wpAny_pure (wpAny_pure ⟨rfl, h₅⟩)) fun _ _ h' => h')) fun _ _ h' => h'))

section
variable {X : Cx}
/-- [elt for target in iter if ..]: D the new list; W by the turn and a measure, Nx what a turn is to reach -/
def tLc (wi : TI) (g : TG) (tt : TT) (te : TE) (vs : List Nat) : TE := fun σ H Q => wi σ H fun J H1 => ∀ D, H1 D = none → ∃ W : Nat → Nat → Hp → Prop, (∃ m, W 0 m (upd H1 D (.lst []))) ∧ ∀ i m H, W i m H →
  (J.stop i H ∧ Q (.ref D) H) ∨ (J.go i H ∧ ∃ Nx : Hp → Prop, (∀ H', Nx H' → ∃ m', m' < m ∧ W (i + 1) m' H') ∧ ∀ x H', J.yld i H x H' → g x (wipe σ vs) H' fun σ2 H2 => wipe σ2 vs = wipe σ vs ∧ tt σ2 H2 fun b H3 =>
    if b = true then te σ2 H3 fun y H4 => ∃ acc, H4 D = some (.lst acc) ∧ acc.length < sizeLine ∧ Nx (upd H4 D (.lst (acc ++ [y]))) else Nx H3)
theorem lc_core {pins : List (Addr × Obj)} {s : Shared} {σ : St} {H : Hp} {Q : VK} {elt tg iter : Expr} {ifs : List Expr} {scope : Scope} {own : List (Str × Nat)} {pos pos' : Pos} {wi : TI} {g : TG} {tt : TT} {te : TE} {use : Option (Value → Sem Unit)} {Qf : Value → Shared → Prop}
    (hc : X.calm = true) (hN : X.N.Nodup) (I : Inv X pins σ H s) (hi : PI X tg iter wi) (ok : BlkOk X.N X.env.scope scope own)
    (hg : ∀ (s : Shared) (H : Hp) (C : Addr) (cl : List (Str × Addr)) (fp : List Addr), PG (X.blk s H scope (compEnvC scope cl C X.env) fp) tg g) (ht : ∀ (s : Shared) (H : Hp) (C : Addr) (cl : List (Str × Addr)) (fp : List Addr), PTs (X.blk s H scope (compEnvC scope cl C X.env) fp) ifs tt)
    (he : ∀ (s : Shared) (H : Hp) (C : Addr) (cl : List (Str × Addr)) (fp : List Addr), PE (X.blk s H scope (compEnvC scope cl C X.env) fp) elt te) (hs : ∀ x, foldedSetIterable iter X.env x = pure x)
    (h : tLc wi g tt te (own.map (·.2)) σ H Q)
    (hRR : ∀ D C s' m H', Inv X pins σ H' s' → Q (.ref D) H' → s'.heap.Ns C m → FpOk X pins H' C → compPost (model X.prog X.w) X.A X.xe use Qf (.ref D) C (.ok .next) s') :
    wpAny (model X.prog X.w) X.A (comprehension (.ListComp elt [⟨tg, iter, ifs, 0⟩] scope pos) scope X.env pos' (newList []) false (eval iter X.env) use) Qf X.xe s := by
  have hfree : ∀ y ∈ scope.names, y.2 = .free → ∃ c, X.env.cells.lookup y.1 = some c := fun y hy e => by
    rcases ok.free y hy e with k | k
    · exact I.ok.has _ (.inl k)
    · exact I.ok.has _ (.inr k)
  refine wpAny_comprehension_free (use := use) rfl hs (closure_ok hfree) ok.kind (fun y hy e => by rw [ok.uniq y hy, e])
    (thn (hi pins s σ H _ I h) fun xv s1 hx => thn hx fun itv s2 h2 => ?_)
  obtain ⟨it, fp, tn, J, H2, e, I2, T, st2, f2, q⟩ := h2
  subst e
  refine wpAny_newObj_type (newEnv_comp ?_) (by show 0 ≤ sizeLine; decide)
  generalize hD : s2.heap.objs.size = D
  have hDn : H2 D = none := I2.hok.fresh (Nat.le_of_eq hD)
  obtain ⟨W, ⟨m0, w0⟩, turn⟩ := q D hDn
  -- the new list
  generalize hs3 : ({ s2 with heap := s2.heap.push { cls := .type "list", data := .seq ([] : List Value).toArray } } : Shared) = s3
  have I3 : Inv X pins σ (upd H2 D (.lst [])) s3 := by
    rw [← hs3]
    refine I2.laid (t' := s2.toks) (fun b o e => Heap.get?_push_of_some _ e) (Nat.le_of_eq hD) ⟨Nat.zero_le _, [], 0, .nil, ?_⟩
    rw [← hD]
    exact Heap.get?_push_size _ rfl
  have h3 : s3.heap = s2.heap.push { cls := .type "list", data := .seq ([] : List Value).toArray } := by rw [← hs3]
  have sz : ∀ b ∈ fp, b < s2.heap.objs.size := fun b hb => by
    obtain ⟨o, e, _⟩ := T.obj _ _ st2 b hb
    exact Heap.lt_size e
  have f3 : ∀ b ∈ fp, FpOk X pins (upd H2 D (.lst [])) b ∧ b < s3.heap.objs.size := fun b hb => by
    have hlt := sz b hb
    refine ⟨⟨?_, (f2 b hb).2⟩, by rw [h3, Heap.size_push]; exact Nat.lt_succ_of_lt hlt⟩
    rw [upd_ne (by rw [← hD]; exact Nat.ne_of_lt hlt)]
    exact (f2 b hb).1
  have st3 : tn 0 s3.heap := T.keep _ _ _ st2 fun b _ o e => by rw [h3]; exact Heap.get?_push_of_some _ e
  have I4 := block_start I3 ok hN f3
  have pg := hg s3 (upd H2 D (.lst [])) s3.heap.objs.size (cellsFrom (s3.heap.objs.size + 1) scope.names (cloFrom X.env.cells scope.names [])) fp
  have pt := ht s3 (upd H2 D (.lst [])) s3.heap.objs.size (cellsFrom (s3.heap.objs.size + 1) scope.names (cloFrom X.env.cells scope.names [])) fp
  have pe := he s3 (upd H2 D (.lst [])) s3.heap.objs.size (cellsFrom (s3.heap.objs.size + 1) scope.names (cloFrom X.env.cells scope.names [])) fp
  show codeAny _ _ (.compStart (.ListComp elt [⟨tg, iter, ifs, 0⟩] scope pos) 0 (.ref it) (.ref D) (compEnvC scope (cellsFrom (s3.heap.objs.size + 1) scope.names (cloFrom X.env.cells scope.names [])) s3.heap.objs.size X.env)) (compPost (model X.prog X.w) X.A X.xe use Qf (.ref D) s3.heap.objs.size) { s3 with heap := pushCells (s3.heap.push { cls := .type "dict", data := .dict #[] }) scope.names }
  have nfp : ∀ b ∈ fp, (upd H2 D (.lst [])) b = none := fun b hb => (f3 b hb).1.1
  generalize hce : compEnvC scope (cellsFrom (s3.heap.objs.size + 1) scope.names (cloFrom X.env.cells scope.names [])) s3.heap.objs.size X.env = ce at I4 pg pt pe ⊢
  have cL : ce.locals = s3.heap.objs.size := by subst hce; rfl
  generalize hH3 : upd H2 D (.lst []) = H3 at I3 I4 pg pt pe w0 nfp f3
  generalize hs4 : ({ s3 with heap := pushCells (s3.heap.push { cls := .type "dict", data := .dict #[] }) scope.names } : Shared) = s4 at I4 ⊢
  have st4 : tn 0 s4.heap := T.keep _ _ _ st3 fun b _ o e => by rw [← hs4]; exact pushCells_keeps _ _ _ _ (Heap.get?_push_of_some _ e)
  have stat : ∀ {σ' : St} {H' : Hp} {s' : Shared}, Inv (X.blk s3 H3 scope ce fp) [] σ' H' s' → (∀ b ∈ fp, H' b = none) → ∀ b ∈ fp, FpOk (X.blk s3 H3 scope ce fp) [] H' b := fun {σ' H' s'} I' hn b hb =>
    ⟨hn b hb, (I'.ok.exf b hb).1, I'.ok.exfs b hb, .inl hb, fun x c e => (I'.ok.exf b hb).2 x c e, fun p hp => absurd (show p ∈ ([] : List (Addr × Obj)) ++ [] from hp) (by simp)⟩
  have loop : codeAny (model X.prog X.w) X.A (.compLoop (.ListComp elt [⟨tg, iter, ifs, 0⟩] scope pos) 0 (.ref it) (.ref D) ce) (compPost (model X.prog X.w) X.A X.xe use Qf (.ref D) s3.heap.objs.size) s4 := by
    refine compLoop_any (fun n s' => ∃ i H', Inv (X.blk s3 H3 scope ce fp) [] (wipe σ (own.map (·.2))) H' s' ∧ tn i s'.heap ∧ (∀ b ∈ fp, H' b = none) ∧ W i n H') ?_ m0 ⟨0, H3, I4, st4, nfp, w0⟩
    rintro n s5 ⟨i, H5, I5, st5, n5, w5⟩
    rcases turn i n H5 w5 with ⟨stop, qq⟩ | ⟨go, Nx, hNx, step⟩
    · have td := T.done (X.blk s3 H3 scope ce fp) rfl rfl rfl hc i [] s5 _ H5 (fun _ _ => False) I5 (stat I5 n5) st5 stop
      refine thnF td fun r s6 ⟨hr, I6⟩ => ?_
      subst hr
      -- back in the def's context
      have I7 : Inv X pins σ H5 s6 := I3.call' (ch := fp) I6.os I6.base I6.hok I6.bare fun b hb => ⟨(f3 b hb).1.2.2.2.1, (f3 b hb).1.2.1, (f3 b hb).1.2.2.2.2.1, (f3 b hb).1.2.2.2.2.2⟩
      have nC : H5 s3.heap.objs.size = none := by
        have z : H5 ce.locals = none := I6.free
        rw [cL] at z
        exact z
      obtain ⟨m, hn, _⟩ := I6.loc
      have hn : s6.heap.Ns ce.locals m := hn
      rw [cL] at hn
      exact hRR D s3.heap.objs.size s6 m H5 I7 qq hn (I3.fpOk (Nat.le_refl _) nC)
    · have ti := T.item (X.blk s3 H3 scope ce fp) rfl rfl rfl hc i [] s5 _ H5 (fun _ _ => False) I5 (stat I5 n5) st5 go
      refine thnF ti fun r s6 ⟨u, hr, h6⟩ => ?_
      subst hr
      refine thnF h6 fun _ s7 ⟨x, H7, I7, r7, y7, st7, n7⟩ => ?_
      have I7' := I7.pinned (stat I7 n7) (T.obj _ _ st7)
      refine thnF (pg _ s7 _ H7 x u _ I7' r7 (step x H7 y7)) fun _ s8 ⟨σ8, H8, I8, hw8, q8⟩ => ?_
      refine thnF (pt _ s8 σ8 H8 _ I8 q8) fun b s9 ⟨H9, I9, q9⟩ => ?_
      -- the turn's end
      have fin : ∀ {s' : Shared} {H' : Hp}, Inv (X.blk s3 H3 scope ce fp) ([] ++ pinsAt fp s7.heap) σ8 H' s' → Nx H' → ∃ m, m < n ∧ ∃ i H', Inv (X.blk s3 H3 scope ce fp) [] (wipe σ (own.map (·.2))) H' s' ∧ tn i s'.heap ∧ (∀ b ∈ fp, H' b = none) ∧ W i m H' := fun {s' H'} I' nx => by
        obtain ⟨m', hm, w'⟩ := hNx H' nx
        have pin' : ∀ b ∈ fp, ∀ o, s7.heap.get? b = some o → s'.heap.get? b = some o ∧ H' b = none := fun b hb o e =>
          let z := I'.pin (b, o) (List.mem_append_right _ (List.mem_append_right _ (mem_pinsAt hb e)))
          ⟨z.1, z.2.1⟩
        have hl : (wipe σ (own.map (·.2))).length = σ8.length := by rw [← hw8, wipe_length]
        refine ⟨m', hm, i + 1, H', (I'.unpinned (pins := [])).weak hl (fun j v e => ?_), T.keep _ _ _ st7 fun b hb o e => (pin' b hb o e).1, fun b hb => ?_, w'⟩
        · rw [← hw8] at e
          exact (wipe_some e).1
        · obtain ⟨o, e, _⟩ := T.obj _ _ st7 b hb
          exact (pin' b hb o e).2
      cases b with
      | false =>
        simp only [Bool.false_eq_true, if_false] at q9 ⊢
        exact fin I9 q9
      | true =>
        simp only [if_true] at q9 ⊢
        refine thnF (pe _ s9 σ8 H9 _ I9 q9) fun z s10 ⟨yv, H10, I10, r10, acc, hD10, hz10, nx⟩ => ?_
        exact app_ok (X := X.blk s3 H3 scope ce fp) I10 hD10 hz10 r10 fun s11 I11 => fin I11 nx
  exact codeAny_compStart_list loop (T.self X.A 0 _ _ _ st4 loop)
/-- as a value -/
theorem pe_lc {elt tg iter : Expr} {ifs : List Expr} {scope : Scope} {own : List (Str × Nat)} {pos : Pos} {wi : TI} {g : TG} {tt : TT} {te : TE} (hc : X.calm = true) (hN : X.N.Nodup) (hi : PI X tg iter wi) (ok : BlkOk X.N X.env.scope scope own)
    (hg : ∀ (s : Shared) (H : Hp) (C : Addr) (cl : List (Str × Addr)) (fp : List Addr), PG (X.blk s H scope (compEnvC scope cl C X.env) fp) tg g) (ht : ∀ (s : Shared) (H : Hp) (C : Addr) (cl : List (Str × Addr)) (fp : List Addr), PTs (X.blk s H scope (compEnvC scope cl C X.env) fp) ifs tt)
    (he : ∀ (s : Shared) (H : Hp) (C : Addr) (cl : List (Str × Addr)) (fp : List Addr), PE (X.blk s H scope (compEnvC scope cl C X.env) fp) elt te) (hs : ∀ x, foldedSetIterable iter X.env x = pure x := by intro _; rfl) :
    PE X (.ListComp elt [⟨tg, iter, ifs, 0⟩] scope pos) (tLc wi g tt te (own.map (·.2))) := by
  intro pins s σ H Q I h
  rw [eval_ListComp]
  refine lc_core hc hN I hi ok hg ht he hs h fun D C s' m H' I' q hn f => ⟨m, hn, fun h'' sb => ?_⟩
  obtain ⟨f0, f1, f2, f3, f4, f5⟩ := f
  exact ⟨.ref D, H', I'.turned (t' := s'.toks) (fun b o hb e => (sb.2 b hb).trans e) f0 f1 f3 f4 f5, rfl, q⟩
end

/-! ### the forms one uses -/
/-- over a range: Pv by the turn and the heap (the new list at D within) -/
theorem lc_range {lo : Int} {n : Nat} {g : TG} {tt : TT} {te : TE} {vs : List Nat} {σ : St} {H1 : Hp} {D : Addr} {Qd : Hp → Prop} (Pv : Nat → Hp → Prop) (h0 : Pv 0 (upd H1 D (.lst [])))
    (hs : ∀ i H, i < n → Pv i H → g (.int (lo + i)) (wipe σ vs) H fun σ2 H2 => wipe σ2 vs = wipe σ vs ∧ tt σ2 H2 fun b H3 =>
      if b = true then te σ2 H3 fun y H4 => ∃ acc, H4 D = some (.lst acc) ∧ acc.length < sizeLine ∧ Pv (i + 1) (upd H4 D (.lst (acc ++ [y]))) else Pv (i + 1) H3) (hd : ∀ H, Pv n H → Qd H) :
    ∃ W : Nat → Nat → Hp → Prop, (∃ m, W 0 m (upd H1 D (.lst []))) ∧ ∀ i m H, W i m H →
      ((Itr lo n).stop i H ∧ Qd H) ∨ ((Itr lo n).go i H ∧ ∃ Nx : Hp → Prop, (∀ H', Nx H' → ∃ m', m' < m ∧ W (i + 1) m' H') ∧ ∀ x H', (Itr lo n).yld i H x H' → g x (wipe σ vs) H' fun σ2 H2 => wipe σ2 vs = wipe σ vs ∧ tt σ2 H2 fun b H3 =>
        if b = true then te σ2 H3 fun y H4 => ∃ acc, H4 D = some (.lst acc) ∧ acc.length < sizeLine ∧ Nx (upd H4 D (.lst (acc ++ [y]))) else Nx H3) := by
  refine ⟨fun i m H => m = n - i ∧ i ≤ n ∧ Pv i H, ⟨n, by simp, Nat.zero_le _, h0⟩, ?_⟩
  rintro i m H ⟨rfl, hi, p⟩
  by_cases hlt : i < n
  · refine .inr ⟨hlt, Pv (i + 1), fun H' p' => ⟨n - (i + 1), by omega, rfl, hlt, p'⟩, fun x H' y => ?_⟩
    obtain ⟨e, y⟩ := y
    subst e y
    exact hs i _ hlt p
  · have e : i = n := by omega
    subst e
    exact .inl ⟨Nat.le_refl _, hd H p⟩
/-- over a list that the block leaves as it is -/
theorem lc_list {K : PySem.W.Frag} {a : Addr} {xs : List V} {g : TG} {tt : TT} {te : TE} {vs : List Nat} {σ : St} {H1 : Hp} {D : Addr} {Qd : Hp → Prop} (Pv : Nat → Hp → Prop) (h0 : Pv 0 (upd H1 D (.lst []))) (hl : ∀ i H, i ≤ xs.length → Pv i H → SqL K H a xs)
    (hs : ∀ i x H, xs[i]? = some x → Pv i H → g x (wipe σ vs) H fun σ2 H2 => wipe σ2 vs = wipe σ vs ∧ tt σ2 H2 fun b H3 =>
      if b = true then te σ2 H3 fun y H4 => ∃ acc, H4 D = some (.lst acc) ∧ acc.length < sizeLine ∧ Pv (i + 1) (upd H4 D (.lst (acc ++ [y]))) else Pv (i + 1) H3) (hd : ∀ H, Pv xs.length H → Qd H) :
    ∃ W : Nat → Nat → Hp → Prop, (∃ m, W 0 m (upd H1 D (.lst []))) ∧ ∀ i m H, W i m H →
      ((Itl K a).stop i H ∧ Qd H) ∨ ((Itl K a).go i H ∧ ∃ Nx : Hp → Prop, (∀ H', Nx H' → ∃ m', m' < m ∧ W (i + 1) m' H') ∧ ∀ x H', (Itl K a).yld i H x H' → g x (wipe σ vs) H' fun σ2 H2 => wipe σ2 vs = wipe σ vs ∧ tt σ2 H2 fun b H3 =>
        if b = true then te σ2 H3 fun y H4 => ∃ acc, H4 D = some (.lst acc) ∧ acc.length < sizeLine ∧ Nx (upd H4 D (.lst (acc ++ [y]))) else Nx H3) := by
  refine ⟨fun i m H => m = xs.length - i ∧ i ≤ xs.length ∧ Pv i H, ⟨xs.length, by simp, Nat.zero_le _, h0⟩, ?_⟩
  rintro i m H ⟨rfl, hi, p⟩
  have q := hl i H hi p
  by_cases hlt : i < xs.length
  · refine .inr ⟨⟨xs, xs[i], q, by simp [hlt]⟩, Pv (i + 1), fun H' p' => ⟨xs.length - (i + 1), by omega, rfl, hlt, p'⟩, fun x H' y => ?_⟩
    obtain ⟨e, y⟩ := y
    subst e
    exact hs i x _ (y xs q) p
  · have e : i = xs.length := by omega
    subst e
    exact .inl ⟨⟨xs, q, Nat.le_refl _⟩, hd H p⟩
def blkC (N : List Str) (sc scope : Scope) (own : List (Str × Nat)) : Bool :=
  (match scope.kind with | .function => true | _ => false) && (scope.names.all fun y => decide (scope.names.lookup y.1 = some y.2)) && (own.all fun p => decide (N[p.2]? = some p.1)) &&
    (scope.names.all fun y => match y.2 with
      | .free => (match sc.names.lookup y.1 with | some .cell => true | some .free => true | _ => false)
      | .local => decide (y.1 ∈ own.map (·.1)) || decide (y.1 ∉ N)
      | .cell => decide (y.1 ∈ own.map (·.1)) || decide (y.1 ∉ N)
      | _ => true)
theorem blkOk_by {N : List Str} {sc scope : Scope} {own : List (Str × Nat)} (h : blkC N sc scope own = true) : BlkOk N sc scope own := by
  unfold blkC at h
  simp only [Bool.and_eq_true, List.all_eq_true, decide_eq_true_eq] at h
  obtain ⟨⟨⟨h1, h2⟩, h3⟩, h4⟩ := h
  refine ⟨?_, h2, h3, fun y hy e => ?_, fun y hy e => ?_⟩
  · split at h1
    · assumption
    · cases h1
  · have q := h4 y hy
    simp only [e] at q
    split at q <;> first | exact .inl (by assumption) | exact .inr (by assumption) | cases q
  · have q := h4 y hy
    rcases e with e | e <;> (simp only [e, Bool.or_eq_true, decide_eq_true_eq] at q; exact q)
end L2

namespace L2
open PySem PySem.Spec PyProof.Rows


section
variable {prog : Program} {w : World} {A : Around} {R : Result → Shared → Prop} {s : Shared} {elt t0 i0 t1 i1 : Expr} {ifs0 ifs1 : List Expr} {scope : Scope} {pos : Pos} {it acc : Value} {env : Env}
end

section
variable {X : Cx}
end
end L2

namespace L2
open PySem PySem.Spec PyProof.Rows

/-! ### lists of pairs as tables -/
section
variable {κ : Type} [DecidableEq κ]
def valV (kvs : List (κ × V)) (k : κ) : Option V := (kvs.find? fun kv => decide (kv.1 = k)).map (·.2)
/-- in its place, or at the end -/
def putK (kvs : List (κ × V)) (k : κ) (v : V) : List (κ × V) :=
  if (kvs.any fun kv => decide (kv.1 = k)) = true then kvs.map (fun kv => if kv.1 = k then (kv.1, v) else kv) else kvs ++ [(k, v)]

theorem valV_pos {p : κ × V} {r : List (κ × V)} {k : κ} (e : p.1 = k) : valV (p :: r) k = some p.2 := by simp [valV, List.find?_cons, e]
theorem valV_neg {p : κ × V} {r : List (κ × V)} {k : κ} (e : ¬ p.1 = k) : valV (p :: r) k = valV r k := by simp [valV, List.find?_cons, e]
theorem valV_any (k : κ) : ∀ kvs : List (κ × V), (kvs.any fun kv => decide (kv.1 = k)) = (valV kvs k).isSome
  | [] => rfl
  | p :: r => by
    rw [List.any_cons]
    by_cases e : p.1 = k
    · simp only [valV_pos e, decide_eq_true e, Bool.true_or, Option.isSome_some]
    · rw [valV_neg e, decide_eq_false e, Bool.false_or]; exact valV_any k r
theorem valV_map (k j : κ) (y : V) : ∀ kvs : List (κ × V), valV (kvs.map fun kv => if kv.1 = k then (kv.1, y) else kv) j = (valV kvs j).map fun x => if j = k then y else x
  | [] => rfl
  | p :: r => by
    have ih := valV_map k j y r
    rw [List.map_cons]
    by_cases h : p.1 = k
    · rw [if_pos h]
      by_cases e : p.1 = j
      · rw [valV_pos (p := (p.1, y)) e, valV_pos e, Option.map_some, if_pos (e.symm.trans h)]
      · rw [valV_neg (p := (p.1, y)) e, valV_neg e, ih]
    · rw [if_neg h]
      by_cases e : p.1 = j
      · rw [valV_pos (p := p) e, valV_pos e, Option.map_some, if_neg (fun z => h (e.trans z))]
      · rw [valV_neg (p := p) e, valV_neg e, ih]
theorem valV_snoc (k j : κ) (y : V) : ∀ kvs : List (κ × V), valV kvs k = none → valV (kvs ++ [(k, y)]) j = if j = k then some y else valV kvs j
  | [], _ => by
    by_cases e : k = j
    · rw [if_pos e.symm]; exact valV_pos (p := (k, y)) e
    · rw [if_neg (fun z => e z.symm)]; exact valV_neg (p := (k, y)) e
  | p :: r, hn => by
    rw [List.cons_append]
    have hk : ¬ p.1 = k := fun z => by rw [valV_pos z] at hn; cases hn
    rw [valV_neg hk] at hn
    have ih := valV_snoc k j y r hn
    by_cases e : p.1 = j
    · rw [valV_pos e, valV_pos e, if_neg (fun z => hk (e.trans z))]
    · rw [valV_neg e, valV_neg e, ih]
theorem valV_put (kvs : List (κ × V)) (k j : κ) (y : V) : valV (putK kvs k y) j = if j = k then some y else valV kvs j := by
  unfold putK
  by_cases a : (kvs.any fun kv => decide (kv.1 = k)) = true
  · rw [if_pos a, valV_map]
    rw [valV_any] at a
    by_cases e : j = k
    · obtain ⟨x, hx⟩ := Option.isSome_iff_exists.mp a
      rw [if_pos e, e, hx, Option.map_some, if_pos rfl]
    · rw [if_neg e]
      cases valV kvs j with
      | none => rfl
      | some x => rw [Option.map_some, if_neg e]
  · rw [if_neg a]
    refine valV_snoc k j y kvs ?_
    rw [valV_any] at a
    cases q : valV kvs k with
    | none => rfl
    | some x => rw [q] at a; exact (a rfl).elim
theorem length_putK (kvs : List (κ × V)) (k : κ) (v : V) : (putK kvs k v).length ≤ kvs.length + 1 := by
  unfold putK
  split
  · rw [List.length_map]; omega
  · rw [List.length_append, List.length_cons, List.length_nil]; omega

theorem RelO.isSome_eq {o : Option V} {u : Option Value} (r : RelO o u) : o.isSome = u.isSome := by
  cases o with
  | none => cases u with
    | none => rfl
    | some _ => exact (show False from r).elim
  | some _ => cases u with
    | none => exact (show False from r).elim
    | some _ => rfl
theorem RelO.getD {o : Option V} {u : Option Value} {d : V} {d' : Value} (r : RelO o u) (rd : RelV d d') : RelV (o.getD d) (u.getD d') := by
  cases o with
  | none => cases u with
    | none => exact rd
    | some _ => exact (show False from r).elim
  | some _ => cases u with
    | none => exact (show False from r).elim
    | some _ => exact r

/-- raw tables of the same keys -/
theorem KV.val {kvs : List (κ × V)} {vs : List (κ × Value)} (r : KV kvs vs) (k : κ) : RelO (valV kvs k) (valueAt vs k) := by
  unfold KV at r
  induction r with
  | nil => exact True.intro
  | @cons p q ps qs h t ih =>
    obtain ⟨h1, h2⟩ := h
    by_cases e : p.1 = k
    · have e' : q.1 = k := h1.symm.trans e
      have b : valueAt (q :: qs) k = some q.2 := by simp [valueAt, List.find?_cons, e']
      rw [valV_pos e, b]; exact h2
    · have e' : ¬ q.1 = k := fun z => e (h1.trans z)
      have b : valueAt (q :: qs) k = valueAt qs k := by simp [valueAt, List.find?_cons, e']
      rw [valV_neg e, b]; exact ih
theorem KV.any {kvs : List (κ × V)} {vs : List (κ × Value)} (r : KV kvs vs) (k : κ) : (kvs.any fun kv => decide (kv.1 = k)) = vs.any fun kv => decide (kv.1 = k) := by
  unfold KV at r
  induction r with
  | nil => rfl
  | cons h t ih => rw [List.any_cons, List.any_cons, ih, h.1]
theorem KV.repl {kvs : List (κ × V)} {vs : List (κ × Value)} (r : KV kvs vs) (k : κ) {y : V} {u : Value} (ry : RelV y u) :
    KV (kvs.map fun kv => if kv.1 = k then (kv.1, y) else kv) (vs.map fun kv => if kv.1 = k then (kv.1, u) else kv) := by
  unfold KV at r ⊢
  induction r with
  | nil => exact .nil
  | @cons p q ps qs h t ih =>
    rw [List.map_cons, List.map_cons]
    refine .cons ?_ ih
    obtain ⟨h1, h2⟩ := h
    by_cases e : p.1 = k
    · rw [if_pos e, if_pos (h1.symm.trans e)]; exact ⟨h1, ry⟩
    · rw [if_neg e, if_neg (fun z => e (h1.trans z))]; exact ⟨h1, h2⟩
theorem KV.put {kvs : List (κ × V)} {vs : List (κ × Value)} (r : KV kvs vs) (k : κ) {y : V} {u : Value} (ry : RelV y u) : KV (putK kvs k y) (stored vs k u) := by
  unfold putK stored
  rw [r.any k]
  by_cases e : (vs.any fun kv => decide (kv.1 = k)) = true
  · rw [if_pos e, if_pos e]; exact r.repl k ry
  · rw [if_neg e, if_neg e]; exact Paired.snoc r ⟨rfl, ry⟩
theorem KV.length {kvs : List (κ × V)} {vs : List (κ × Value)} (r : KV kvs vs) : kvs.length = vs.length := Paired.length r
end


/-! ### a tracked dict, its keys ints and texts or tuples of these -/
theorem kV_is {P : Program} {w : World} {k : Key} {u : Value} (r : RelV (kV k) u) : (mixKind P w).is k u = true := by
  cases k with
  | inl i => obtain ⟨t, e⟩ := (show ∃ t, u = Value.int i t from r); subst e; exact mixKind_int P w i t
  | inr x => obtain ⟨t, e⟩ := (show ∃ t, u = Value.str x t from r); subst e; exact mixKind_str P w x t
theorem items_are {P : Program} {w : World} : ∀ {ks : List Key} {us : List Value}, Vals (ks.map kV) us → ItemsAre (mixKind P w) ks us
  | [], _, r => by rw [List.map_nil] at r; cases r; exact .nil
  | k :: ks, _, r => by
    rw [List.map_cons] at r
    cases r with
    | cons h t => exact .cons (kV_is h) (items_are t)

/-- raw entries of a dict with tuple keys -/
abbrev KT (H : Hp) : List (List Key × V) → List (List Key × Addr × Value) → Prop := Paired fun p q => p.1 = q.1 ∧ H q.2.1 = some (.tup (p.1.map kV)) ∧ RelV p.2 q.2.2
theorem KT.val {H : Hp} {kvs : List (List Key × V)} {xs : List (List Key × Addr × Value)} (r : KT H kvs xs) (k : List Key) : RelO (valV kvs k) ((atKey xs k).map (·.2)) := by
  induction r with
  | nil => exact True.intro
  | @cons p q ps qs h t ih =>
    obtain ⟨h1, _, h2⟩ := h
    by_cases e : p.1 = k
    · have e' : q.1 = k := h1.symm.trans e
      have b : atKey (q :: qs) k = some q.2 := by simp [atKey, List.find?_cons, e']
      rw [valV_pos e, b]; exact h2
    · have e' : ¬ q.1 = k := fun z => e (h1.trans z)
      have b : atKey (q :: qs) k = atKey qs k := by simp [atKey, List.find?_cons, e']
      rw [valV_neg e, b]; exact ih
theorem KT.repl {H : Hp} {kvs : List (List Key × V)} {xs : List (List Key × Addr × Value)} (r : KT H kvs xs) (k : List Key) {y : V} {u : Value} (ry : RelV y u) :
    KT H (kvs.map fun kv => if kv.1 = k then (kv.1, y) else kv) (xs.map (putAt k u)) := by
  induction r with
  | nil => exact .nil
  | @cons p q ps qs h t ih =>
    rw [List.map_cons, List.map_cons]
    refine .cons ?_ ih
    obtain ⟨h1, h2, h3⟩ := h
    unfold putAt
    by_cases e : p.1 = k
    · rw [if_pos e, if_pos (h1.symm.trans e)]; exact ⟨h1, h2, ry⟩
    · rw [if_neg e, if_neg (fun z => e (h1.trans z))]; exact ⟨h1, h2, h3⟩
theorem KT.put {H : Hp} {kvs : List (List Key × V)} {xs : List (List Key × Addr × Value)} (r : KT H kvs xs) (k : List Key) {b : Addr} {y : V} {u : Value} (hb : H b = some (.tup (k.map kV))) (ry : RelV y u) :
    KT H (putK kvs k y) (storedH xs k b u) := by
  have e : (kvs.any fun kv => decide (kv.1 = k)) = (atKey xs k).isSome := by
    rw [valV_any, (r.val k).isSome_eq, Option.isSome_map]
  unfold putK storedH
  rw [e]
  by_cases q : (atKey xs k).isSome = true
  · rw [if_pos q, if_pos q]; exact r.repl k ry
  · rw [if_neg q, if_neg q]; exact Paired.snoc r ⟨rfl, hb, ry⟩
theorem KT.keeps {H H' : Hp} {kvs : List (List Key × V)} {xs : List (List Key × Addr × Value)} (r : KT H kvs xs) (ht : ∀ b ys, H b = some (.tup ys) → H' b = some (.tup ys)) : KT H' kvs xs :=
  Paired.mapP r fun _ _ z => ⟨z.1, ht _ _ z.2.1, z.2.2⟩

section
variable {P : Program} {w : World} {H : Hp} {h : Heap} {a : Addr}
theorem rd_of {u : HO} (ok : HOk P w H h) (e : Rd H a u) : ObjOk P w H h a u := e.ok ok
theorem dk_rd {kvs : List (Key × V)} (ok : HOk P w H h) (e : Rd H a (.dK kvs)) : kvs.length ≤ sizeLine ∧ (a == sysModules) = false ∧ ∃ vs, KV kvs vs ∧ h.DictOf (mixKind P w) a vs :=
  show ObjOk P w H h a (.dK kvs) from rd_of ok e
theorem dk_of {kvs : List (Key × V)} (ok : HOk P w H h) (e : H a = some (.dK kvs)) : kvs.length ≤ sizeLine ∧ (a == sysModules) = false ∧ ∃ vs, KV kvs vs ∧ h.DictOf (mixKind P w) a vs := dk_rd ok (.inl e)
/-- a tracked tuple of ints and texts is a key -/
theorem key_of {ks : List Key} (ok : HOk P w H h) (e : H a = some (.tup (ks.map kV))) : (tupleKind (mixKind P w)).is h ks a := by
  obtain ⟨_, its, r, o, h1, h2, n, h3⟩ := (show ObjOk P w H h a (.tup (ks.map kV)) from ok a _ e)
  exact ⟨o, its.toArray, n, h1, h2, h3, by simpa using items_are r⟩
theorem dt_rd {kvs : List (List Key × V)} (ok : HOk P w H h) (e : Rd H a (.dT kvs)) : kvs.length ≤ sizeLine ∧ (a == sysModules) = false ∧
    ∃ xs, KT H kvs xs ∧ h.DictOfH (tupleKind (mixKind P w)) a xs := by
  obtain ⟨z, y, xs, r, o, es, ep, h1, h2, h3, h4, h5⟩ := (show ObjOk P w H h a (.dT kvs) from rd_of ok e)
  refine ⟨z, y, xs, r, o, es, ep, h1, h2, h3, h4, fun x hx => ?_, h5⟩
  have all : ∀ {l : List (List Key × V)} {m : List (List Key × Addr × Value)}, KT H l m → ∀ x ∈ m, (tupleKind (mixKind P w)).is h x.1 x.2.1 := by
    intro l m q
    induction q with
    | nil => intro x hx; exact nomatch hx
    | @cons p q ps qs hq t ih =>
      intro x hx
      rcases List.mem_cons.mp hx with e | hx
      · subst e
        exact key_of ok (by rw [← hq.1]; exact hq.2.1)
      · exact ih x hx
  exact all r x hx
theorem dt_of {kvs : List (List Key × V)} (ok : HOk P w H h) (e : H a = some (.dT kvs)) : kvs.length ≤ sizeLine ∧ (a == sysModules) = false ∧
    ∃ xs, KT H kvs xs ∧ h.DictOfH (tupleKind (mixKind P w)) a xs := dt_rd ok (.inl e)
end

/-- what the dict at a holds at the key y -/
def DGet (H : Hp) (a : Addr) (y : V) (r : Option V) : Prop :=
  (∃ kvs k, Rd H a (.dK kvs) ∧ y = kV k ∧ r = valV kvs k) ∨ ∃ kvs k b, Rd H a (.dT kvs) ∧ y = .ref b ∧ H b = some (.tup (k.map kV)) ∧ r = valV kvs k
/-- the heap behind a[y] = v -/
def DPut (H : Hp) (a : Addr) (y v : V) (H' : Hp) : Prop :=
  (∃ kvs k, H a = some (.dK kvs) ∧ y = kV k ∧ kvs.length < sizeLine ∧ H' = upd H a (.dK (putK kvs k v))) ∨
  ∃ kvs k b, H a = some (.dT kvs) ∧ y = .ref b ∧ H b = some (.tup (k.map kV)) ∧ kvs.length < sizeLine ∧ H' = upd H a (.dT (putK kvs k v))
theorem DGet.k {H : Hp} {a : Addr} {kvs : List (Key × V)} {k : Key} (e : H a = some (.dK kvs)) : DGet H a (kV k) (valV kvs k) := .inl ⟨kvs, k, .inl e, rfl, rfl⟩
theorem DPut.k {H : Hp} {a : Addr} {kvs : List (Key × V)} {k : Key} {v : V} (e : H a = some (.dK kvs)) (hl : kvs.length < sizeLine) : DPut H a (kV k) v (upd H a (.dK (putK kvs k v))) := .inl ⟨kvs, k, e, rfl, hl, rfl⟩


section
variable {X : Cx} {pins : List (Addr × Obj)} {σ : St} {H : Hp} {s : Shared} {a : Addr} {y v : V} {u r : Value} {o : Option V} {A : Around} {E : Value → Shared → Prop}

theorem Inv.big (I : Inv X pins σ H s) : sysModules < s.heap.objs.size := by
  have h : mainGlobals < s.heap.objs.size := (I.mod.glob.keeps I.bk).lt
  exact Nat.lt_trans (by decide) h

/-- d[y], there -/
theorem d_getItem {Q : Value → Shared → Prop} (hu : A.units + 1 < cLine) (I : Inv X pins σ H s) (g : DGet H a y (some v)) (ry : RelV y u) (h : ∀ w' s', Inv X pins σ H s' → RelV v w' → Q w' s') :
    wpAny (model X.prog X.w) A (getItem (.ref a) u) Q E s := by
  rcases g with ⟨kvs, k, e, ey, l⟩ | ⟨kvs, k, b, e, ey, eb, l⟩
  · subst ey
    obtain ⟨z, hd, vs, rel, dd⟩ := dk_rd I.hok e
    obtain ⟨w', hw, rw'⟩ := RelO.some_of (v := v) (o := valueAt vs k) (by rw [l]; exact rel.val k)
    exact wpAny_getItem_of (kV_is ry) dd.mapOf hw (h w' _ (I.tok _) rw')
  · subst ey
    cases (show u = Value.ref b from ry)
    obtain ⟨z, hd, xs, rel, dd⟩ := dt_rd I.hok e
    obtain ⟨w', hw, rw'⟩ := RelO.some_of (v := v) (o := (atKey xs k).map (·.2)) (by rw [l]; exact rel.val k)
    obtain ⟨p, hp, hp2⟩ := Option.map_eq_some_iff.mp hw
    refine wpAny_getItem_heap (tupleKind_room_in1 hu) (key_of I.hok eb) dd hp ?_
    rw [hp2]
    exact h w' _ (I.tok _) rw'
/-- y in d -/
theorem d_in {Q : Value → Shared → Prop} (hu : A.units + 1 < cLine) (I : Inv X pins σ H s) (g : DGet H a y o) (ry : RelV y u) (h : ∀ s', Inv X pins σ H s' → Q (.bool o.isSome) s') :
    wpAny (model X.prog X.w) A (compareOp .In u (.ref a)) Q E s := by
  rcases g with ⟨kvs, k, e, ey, l⟩ | ⟨kvs, k, b, e, ey, eb, l⟩
  · subst ey
    obtain ⟨z, hd, vs, rel, dd⟩ := dk_rd I.hok e
    refine wpAny_in_of (kV_is ry) hd dd.mapOf ?_
    rw [← (rel.val k).isSome_eq, ← l]
    exact h _ (I.tok _)
  · subst ey
    cases (show u = Value.ref b from ry)
    obtain ⟨z, hd, xs, rel, dd⟩ := dt_rd I.hok e
    refine wpAny_in_heap (tupleKind_room_in1 hu) (key_of I.hok eb) hd dd ?_
    have q := (rel.val k).isSome_eq
    rw [Option.isSome_map] at q
    rw [← q, ← l]
    exact h _ (I.tok _)
/-- a dict's object is replaced -/
theorem d_write {h' : Heap} {t' : Nat} {ob : HO} (I : Inv X pins σ H s) (mu : Mut (H a)) (hs : Heap.SameBut a s.heap h') (he : ∃ q, h'.get? a = some q) (new : ObjOk X.prog X.w (upd H a ob) h' a ob) :
    Inv X pins σ (upd H a ob) { s with heap := h', toks := t' } :=
  I.write (x := a) (e := a) mu (.inl rfl) (fun b q hb z => (hs.2 b hb).trans z) he new
theorem dk_new {P : Program} {w : World} {H' : Hp} {h' : Heap} {kvs : List (Key × V)} {vs : List (Key × Value)} (z : kvs.length ≤ sizeLine) (hd : (a == sysModules) = false) (rel : KV kvs vs) (dd : h'.DictOf (mixKind P w) a vs) :
    ObjOk P w H' h' a (.dK kvs) := ⟨z, hd, vs, rel, dd⟩
/-- d[y] = v -/
theorem d_setItem {H' : Hp} {Q : Unit → Shared → Prop} (hu : A.units + 1 < cLine) (I : Inv X pins σ H s) (g : DPut H a y v H') (ry : RelV y u) (rv : RelV v r) (h : ∀ s', Inv X pins σ H' s' → Q () s') :
    wpAny (model X.prog X.w) A (setItem (.ref a) u r) Q E s := by
  rcases g with ⟨kvs, k, e, ey, l, eH⟩ | ⟨kvs, k, b, e, ey, eb, l, eH⟩
  · subst ey eH
    obtain ⟨z, hd, vs, rel, dd⟩ := dk_of I.hok e
    have hz : vs.length ≤ sizeLine := by rw [← rel.length]; exact z
    have hl : (putK kvs k v).length ≤ sizeLine := by have := length_putK kvs k v; omega
    refine wpAny_setItem_pairs (hsz := hz) (kV_is ry) dd fun h' dd' hs => h _ ?_
    have he : ∃ q, h'.get? a = some q := let ⟨q, _, _, hq, _⟩ := dd'; ⟨q, hq⟩
    exact d_write I (by rw [e]; exact True.intro) hs he (dk_new hl hd (rel.put k rv) dd')
  · subst ey eH
    cases (show u = Value.ref b from ry)
    obtain ⟨z, hd, xs, rel, dd⟩ := dt_of I.hok e
    have hz : xs.length ≤ sizeLine := by rw [← Paired.length rel]; exact z
    have hl : (putK kvs k v).length ≤ sizeLine := by have := length_putK kvs k v; omega
    refine wpAny_setItem_heap (hsz := hz) (tupleKind_room_in1 hu) (key_of I.hok eb) dd fun h' dd' hs => h _ ?_
    obtain ⟨q, es, ep, hq, h2, h3, h4, _, h5⟩ := dd'
    refine d_write I (by rw [e]; exact True.intro) hs ⟨q, hq⟩ ⟨hl, hd, _, (rel.put k eb rv).keeps fun c ys ec => ?_, q, es, ep, hq, h2, h3, h4, h5⟩
    rw [upd_ne (ne_of ec e (fun z => nomatch z))]
    exact ec
end

section
variable {X : Cx} {pins : List (Addr × Obj)} {σ : St} {H : Hp} {s : Shared} {a : Addr} {kvs : List (Key × V)} {k : Key} {u : Value} {A : Around} {E : Value → Shared → Prop}
end


/-! ### readings and rules -/
/-- the element of a subscription, not a slice -/
def NoSl (i : Expr) : Prop := ∀ ov iv, subscripted i false ov iv = operate [ov, iv] (getItem ov iv)
theorem subD_of {prog : Program} {w : World} {A : Around} {E : Value → Shared → Prop} {s : Shared} {env : Env} {value slice : Expr} {pos : Pos} {T id : String} {Q : Value → Shared → Prop}
    (hl : typeLookup (.type T) "__getitem__" = pure (some (.builtin id))) (hs : NoSl slice)
    (h : wpAny (model prog w) A (eval value env) (fun o s₁ => wpAny (model prog w) A (eval slice env) (fun i s₂ => s₂.TypeIs o T ∧ wpAny (model prog w) A (getItem o i) Q E s₂) E s₁) E s) :
    wpAny (model prog w) A (eval (.Subscript value slice pos) env) Q E s := by
  refine Subscript_ (wpAny_mono h (fun o s₁ h₁ => wpAny_mono h₁ (fun i s₂ h₂ => ?_) fun _ _ x => x) fun _ _ x => x)
  obtain ⟨hT, h₂⟩ := h₂
  unfold subscriptTail
  refine wpAny_bind ?_
  rw [getitemInPython_of_ne hT.not_modules]
  refine wpAny_bind (wpAny_specialOf hT hl ?_)
  have fin : wpAny (model prog w) A (subscripted slice false o i) (fun r s₃ => wpAny (model prog w) A (letTemporaryGo value o r >>= fun _ => pure r) Q E s₃) E s₂ := by
    rw [hs o i]
    exact wpAny_operating (wpAny_mono h₂ (fun r s₃ h₃ => wpAny_bind (wpAny_letTemporaryGo (wpAny_pure h₃))) fun _ _ x => x)
  first
    | exact wpAny_pure (wpAny_bind fin)
    | exact wpAny_bind (wpAny_pure (wpAny_bind fin))
    | exact wpAny_bind fin

theorem dict_typeIs {X : Cx} {pins : List (Addr × Obj)} {σ : St} {H : Hp} {s : Shared} {a : Addr} {y : V} {o : Option V} (I : Inv X pins σ H s) (g : DGet H a y o) : s.TypeIs (.ref a) "dict" := by
  rcases g with ⟨kvs, k, e, _, _⟩ | ⟨kvs, k, b, e, _, _, _⟩
  · obtain ⟨_, _, vs, _, dd⟩ := dk_rd I.hok e
    exact dd.typeIs
  · obtain ⟨_, _, xs, _, dd⟩ := dt_rd I.hok e
    exact dd.typeIs

/-- d[y] -/
def tDGet (td ty : TE) : TE := fun σ H Q => td σ H fun x H1 => ty σ H1 fun y H2 => ∃ a v, x = .ref a ∧ DGet H2 a y (some v) ∧ Q v H2
/-- y in d, y not in d -/
def tDIn (ty td : TE) : TE := fun σ H Q => ty σ H fun y H1 => td σ H1 fun x H2 => ∃ a o, x = .ref a ∧ DGet H2 a y o ∧ Q (.bl o.isSome) H2
/-- d[y] = v -/
def sDPut (td ty tv : TE) : TS := fun D σ H => tv σ H fun v H1 => td σ H1 fun x H2 => ty σ H2 fun y H3 => ∃ a H4, x = .ref a ∧ DPut H3 a y v H4 ∧ D.nx σ H4

section
variable {X : Cx} {o i e value : Expr} {pos pos' tpos : Pos} {td ty tv : TE}
theorem pe_dget (hu : X.A.units + 1 < cLine) (ho : PE X o td) (hi : PE X i ty) (hs : NoSl i) : PE X (.Subscript o i pos) (tDGet td ty) := by
  intro pins s σ H Q I h
  refine subD_of PySem.F.slot_dict_getitem.lookup hs (thn (ho pins s σ H _ I h) fun u s1 ⟨x, H1, I1, rx, q1⟩ => thn (hi pins s1 σ H1 _ I1 q1) fun iv s2 ⟨y, H2, I2, ry, a, v, ex, g, q2⟩ => ?_)
  subst ex
  obtain rfl : u = Value.ref a := rx
  exact ⟨dict_typeIs I2 g, d_getItem hu I2 g ry fun w' s3 I3 rw' => ⟨v, H2, I3, rw', q2⟩⟩
theorem pc_din (hu : X.A.units + 1 < cLine) (hi : PE X i ty) (ho : PE X o td) : PC X .In i o (tDIn ty td) := by
  intro pins s σ H Q I h
  refine thn (hi pins s σ H _ I h) fun iv s1 ⟨y, H1, I1, ry, q1⟩ => thn (ho pins s1 σ H1 _ I1 q1) fun u s2 ⟨x, H2, I2, rx, a, ov, ex, g, q2⟩ => ?_
  subst ex
  obtain rfl : u = Value.ref a := rx
  exact d_in hu I2 g ry fun s3 I3 => ⟨.bl ov.isSome, H2, I3, rfl, q2⟩
theorem ps_dput (hu : X.A.units + 1 < cLine) (ho : PE X o td) (hi : PE X i ty) (hv : PE X value tv) (hs : swapsWith value (some (.Subscript o i pos')) pos.line X.env = pure false) :
    PS X (.Assign [.Subscript o i pos'] value pos) (sDPut td ty tv) := by
  intro pins s σ H D I h
  refine wpAny_Assign_Subscript (thn (hv pins s σ H _ I h) fun r s1 ⟨v, H1, I1, rv, q1⟩ => thn (ho pins s1 σ H1 _ I1 q1) fun u s2 ⟨x, H2, I2, rx, q2⟩ => thn (hi pins s2 σ H2 _ I2 q2) fun iv s3 ⟨y, H3, I3, ry, a, H4, ex, g, q3⟩ => ?_) hs
  subst ex
  obtain rfl : u = Value.ref a := rx
  exact d_setItem hu I3 g ry rv fun s4 I4 => ⟨σ, H4, I4, q3⟩
end


/-! ### displays -/
theorem dk_empty {P : Program} {w : World} {H : Hp} (h : Heap) (hb : sysModules < h.objs.size) : ObjOk P w H (h.push { cls := .type "dict", data := .dict #[] }) h.objs.size (.dK []) :=
  ⟨Nat.zero_le _, beq_eq_false_iff_ne.mpr (Ne.symm (Nat.ne_of_lt hb)), [], .nil, Heap.DictOf.new h⟩
/-- {}, to be a dict of the kind that is wanted -/
def tDNewK : TE := fun _ H Q => ∀ p, H p = none → Q (.ref p) (upd H p (.dK []))
section
variable {X : Cx} {pos : Pos}
theorem pe_dnewK : PE X (.Dict [] [] pos) tDNewK := fun pins s σ H Q I h =>
  wpAny_Dict_empty ⟨.ref s.heap.objs.size, _, I.laid (a := s.heap.objs.size) (o := .dK []) (t' := s.toks) (fun _ _ q => Heap.get?_push_of_some _ q) (Nat.le_refl _) (dk_empty s.heap I.big), rfl, h _ (I.hok.fresh (Nat.le_refl _))⟩
end




/-! ### methods -/
/-- a method call o.m(e) of a built-in, with one argument: what must be seen of the text -/
structure M1 (X : Cx) (o : Expr) (m : Str) (apos : Pos) (e : Expr) (cpos : Pos) : Prop where
  base : attributeBase o m X.env (eval o X.env) = eval o X.env
  few : ((backTo cpos (starEach [e] X.env)).all (fun x => !x.1) && (backToKw cpos (keywordEach [] X.env)).all (fun x => x.1.isSome)
    && decide (([e] : List Expr).length + ([] : List Keyword).length + (if ([] : List Keyword).isEmpty then 0 else 1) < 30)) = true
  line : (apos.endLine == cpos.line) = true
  trees : backTo cpos (starEach [e] X.env) = [(false, eval e X.env)]

/-- a is a dict, whatever its keys -/
def IsD (H : Hp) (a : Addr) : Prop := (∃ kvs, Rd H a (.dK kvs)) ∨ ∃ kvs, Rd H a (.dT kvs)
theorem isD_at {X : Cx} {pins : List (Addr × Obj)} {σ : St} {H : Hp} {s : Shared} {a : Addr} (I : Inv X pins σ H s) (d : IsD H a) :
    s.TypeIs (.ref a) "dict" ∧ (∀ b, Value.ref a = .ref b → ∃ ob, s.heap.get? b = some ob ∧ ob.dict = none) ∧ (a == sysModules) = false := by
  rcases d with ⟨kvs, e⟩ | ⟨kvs, e⟩
  · obtain ⟨_, hd, vs, _, dd⟩ := dk_rd I.hok e
    refine ⟨dd.typeIs, fun b q => ?_, hd⟩
    cases q
    obtain ⟨ob, _, _, h1, h2, _⟩ := dd
    exact ⟨ob, h1, h2.2.1⟩
  · obtain ⟨_, hd, xs, _, dd⟩ := dt_rd I.hok e
    refine ⟨dd.typeIs, fun b q => ?_, hd⟩
    cases q
    obtain ⟨ob, _, _, h1, h2, _⟩ := dd
    exact ⟨ob, h1, h2.2.1⟩

section
variable {X : Cx} {pins : List (Addr × Obj)} {σ : St} {H : Hp} {s : Shared} {a : Addr} {y d : V} {u r : Value} {o : Option V} {A : Around} {E : Value → Shared → Prop}
/-- d.get(y) -/
theorem d_get1 {Q : Value → Shared → Prop} (hu : A.units + 1 < cLine) (I : Inv X pins σ H s) (g : DGet H a y o) (ry : RelV y u) (h : ∀ w' s', Inv X pins σ H s' → RelV (o.getD .non) w' → Q w' s') :
    wpAny (model X.prog X.w) A (call (.builtin "dict.get") [.ref a, u]) Q E s := by
  rcases g with ⟨kvs, k, e, ey, l⟩ | ⟨kvs, k, b, e, ey, eb, l⟩
  · subst ey
    obtain ⟨z, hd, vs, rel, dd⟩ := dk_rd I.hok e
    refine call_meetsIn PySem.F.slot_dict_get dd.typeIs PySem.F.entry_dict_get (PySem.F.args_dict_get_2 _ _) (meets_dict_get (mixKind X.prog X.w) a (kV_is ry) hd) ⟨_, dd.mapOf, h _ _ (I.tok _) ?_⟩
    rw [l]
    exact (rel.val k).getD rfl
  · subst ey
    cases (show u = Value.ref b from ry)
    obtain ⟨z, hd, xs, rel, dd⟩ := dt_rd I.hok e
    refine call_meetsIn PySem.F.slot_dict_get dd.typeIs PySem.F.entry_dict_get (PySem.F.args_dict_get_2 _ _) (meetsH_dict_get (tupleKind (mixKind X.prog X.w)) a b hd) ⟨tupleKind_room_in1 hu, k, xs, key_of I.hok eb, dd, h _ _ (I.tok _) ?_⟩
    rw [l]
    exact (rel.val k).getD rfl
end

def tDGet1 (td ty : TE) : TE := fun σ H Q => td σ H fun x H1 => ∃ a, x = .ref a ∧ IsD H1 a ∧ ty σ H1 fun y H2 => ∃ o, DGet H2 a y o ∧ Q (o.getD .non) H2
section
variable {X : Cx} {o e f : Expr} {apos cpos : Pos} {td ty tx : TE}
theorem pe_dget1 (hu : X.A.units + 1 < cLine) (ho : PE X o td) (he : PE X e ty) (m : M1 X o "get" apos e cpos) : PE X (.Call (.Attribute o "get" apos) [e] [] cpos) (tDGet1 td ty) := by
  intro pins s σ H Q I h
  refine wpAny_Call_method m.base m.few m.line PySem.F.plainAttrs_dict PySem.F.slot_dict_get PySem.F.type_dict_get (thn (ho pins s σ H _ I h) fun u s1 ⟨x, H1, I1, rx, a, ex, d, q1⟩ => ?_)
  subst ex
  obtain rfl : u = Value.ref a := rx
  obtain ⟨t1, t2, _⟩ := isD_at I1 d
  refine ⟨t1, t2, ?_⟩
  rw [m.trees]
  refine Calls.callWith_builtin rfl (Calls.evalArgs_plain (Calls.spliced_cons (thn (he pins s1 σ H1 _ I1 q1) fun iv s2 ⟨y, H2, I2, ry, ov, g, q2⟩ => Calls.spliced_nil ?_)))
  exact d_get1 hu I2 g ry fun w' s3 I3 rw' => ⟨_, H2, I3, rw', q2⟩
end

/-! ### dict(d): a copy -/
section
variable {X : Cx} {pins : List (Addr × Obj)} {σ : St} {H : Hp} {s : Shared} {a : Addr} {kvs : List (Key × V)} {A : Around} {E : Value → Shared → Prop}
end


section
variable {X : Cx} {pins : List (Addr × Obj)} {σ : St} {H : Hp} {s : Shared} {a : Addr} {y : V} {u : Value} {A : Around} {E : Value → Shared → Prop}
end
end L2

namespace L2
open PySem PySem.Spec PyProof.Rows


section
variable {prog : Program} {w : World} {A : Around} {E : Value → Shared → Prop}


end

section
variable {X : Cx}
end
end L2

namespace L2
open PySem PySem.Spec PyProof.Rows

theorem boot_reversed5 : bootBuiltins "reversed" = some (.type "reversed") := by decide +kernel

section
variable {X : Cx} {pins : List (Addr × Obj)} {σ : St} {H : Hp} {s : Shared} {h' : Heap}
/-- several records of ours have turned -/
theorem Inv.turnedL {t' : Nat} {ch : List Addr} (I : Inv X pins σ H s) (k : ∀ b o, b ∉ ch → s.heap.get? b = some o → h'.get? b = some o) (hf : ∀ b ∈ ch, FpOk X pins H b) : Inv X pins σ H { s with heap := h', toks := t' } := by
  have nit : ∀ b u, H b = some u → b ∉ ch := fun b u e z => by
    have q := (hf b z).1
    rw [q] at e; cases e
  refine I.step (g' := s.gens) (d' := s.drawn) (ch := ch) (fun b hb => ⟨(hf b hb).2.2.2.1, (hf b hb).2.1, (hf b hb).2.2.2.2.1, (hf b hb).2.2.2.2.2⟩) (fun b o _ _ hc e _ => k b o hc e) (fun b o _ _ hc e _ => ⟨o.slots, k b o hc e⟩)
    (fun _ _ _ _ n => n) (fun b o hc e => ⟨o, k b o hc e⟩) (fun _ _ e => e) (fun _ _ _ e => e) (fun b ps e => ⟨#[], by rw [e]; simp⟩) (fun m hm => ?_) (fun b u e => ?_) I.bare
  · obtain ⟨o, es, ep, ho, r⟩ := hm
    exact ⟨o, es, ep, k _ o (fun z => (hf _ z).2.1 rfl) ho, r⟩
  · refine (I.hok b u e).stay (fun c v hc q => k c v ?_ q) (fun _ q => q) fun _ _ q => q
    rcases hc with z | z
    · rw [z]; exact nit b u e
    · exact nit c _ z
/-- .. and one new object is laid -/
theorem Inv.turnedNew {t' : Nat} {ch : List Addr} {T : Addr} {ob : HO} (I : Inv X pins σ H s) (k : ∀ b o, b ∉ ch → s.heap.get? b = some o → h'.get? b = some o) (hf : ∀ b ∈ ch, FpOk X pins H b) (hT : s.heap.objs.size ≤ T)
    (new : ObjOk X.prog X.w (upd H T ob) h' T ob) : Inv X pins σ (upd H T ob) { s with heap := h', toks := t' } := by
  have hn : H T = none := I.hok.fresh hT
  have nit : ∀ b u, H b = some u → b ∉ ch := fun b u e z => by
    have q := (hf b z).1
    rw [q] at e; cases e
  refine I.step (g' := s.gens) (d' := s.drawn) (ch := ch) (fun b hb => ⟨(hf b hb).2.2.2.1, (hf b hb).2.1, (hf b hb).2.2.2.2.1, (hf b hb).2.2.2.2.2⟩) (fun b o _ _ hc e _ => k b o hc e) (fun b o _ _ hc e _ => ⟨o.slots, k b o hc e⟩)
    (fun b o _ e n => ?_) (fun b o hc e => ⟨o, k b o hc e⟩) (fun b xs e => ?_) (fun b o u e => ?_) (fun b ps e => ⟨#[], ?_⟩) (fun m hm => ?_) (fun b u e => ?_) I.bare
  · rw [upd_ne (Nat.ne_of_lt (Nat.lt_of_lt_of_le (Heap.lt_size e) hT))]; exact n
  · rw [upd_ne (ne_of_none e hn)]; exact e
  · rw [upd_ne (ne_of_none e hn)]; exact e
  · rw [upd_ne (ne_of_none e hn), e]; simp
  · obtain ⟨o, es, ep, ho, r⟩ := hm
    exact ⟨o, es, ep, k _ o (fun z => (hf _ z).2.1 rfl) ho, r⟩
  · by_cases hb : b = T
    · subst hb
      rw [upd_same] at e
      cases e
      exact new
    · rw [upd_ne hb] at e
      refine (I.hok b u e).stay (fun c v hc q => k c v ?_ q) (fun c q => by rw [upd_ne (ne_of_none q hn)]; exact q) fun c xs q => by rw [upd_ne (ne_of_none q hn)]; exact q
      rcases hc with z | z
      · rw [z]; exact nit b u e
      · exact nit c _ z

/-! ### locking a thing while a statement runs -/
end
section
variable {X : Cx}

/-! ### one iterator just laid -/
theorem pi_one {tg : Expr} {pins : List (Addr × Obj)} {σ : St} {H : Hp} {s : Shared} {R : It → Hp → Prop} {J : It} {tn : Nat → Heap → Prop} {tk : Nat} (I : Inv X pins σ H s) (o : Obj)
    (T : Turn X.prog X.w X.K tg J [s.heap.objs.size] s.heap.objs.size tn) (st : tn 0 (s.heap.push o)) (q : R J H) : PIE X pins σ tg R (.ref s.heap.objs.size) { s with heap := s.heap.push o, toks := tk } := by
  refine ⟨s.heap.objs.size, [s.heap.objs.size], tn, J, H, rfl, I.kept fun b ob e => Heap.get?_push_of_some _ e, T, st, fun b hb => ?_, q⟩
  have e : b = s.heap.objs.size := by simpa using hb
  subst e
  exact I.fpOk (Nat.le_refl _) (I.hok.fresh (Nat.le_refl _))
end

/-! ### range with a step -/
/-- lo, lo + c, .. (n of them) -/
def Itc (lo c : Int) (n : Nat) : It := ⟨fun i _ => i < n, fun i H x H' => H' = H ∧ x = .int (lo + (i : Nat) * c), fun i _ => n ≤ i⟩
theorem turn_rangeC {P : Program} {w : World} {K : PySem.W.Frag} {tg : Expr} (it : Addr) (lo c : Int) (n : Nat) : Turn P w K tg (Itc lo c n) [it] it (fun i h => IsRangeIter h it (lo + (i : Nat) * c) ((n : Int) - (i : Nat)) c) where
  mem := by simp
  obj := fun i h st b hb => by
    have e : b = it := by simpa using hb
    subst e
    exact ⟨_, st, fun v z => nomatch z⟩
  keep := fun i h h' st k => k it (by simp) _ st
  item := by
    intro X hP hw hK hc i pins s σ H E I hf st hg
    subst hP hw hK
    obtain ⟨f0, f1, f2, f3, f4, f5⟩ := hf it (by simp)
    have W := Walks.range (prog := X.prog) (w := X.w) (I.ok.hd hc) it lo c n
    refine W.item i s _ _ hg st fun v h' tk hv st' kk => ?_
    obtain ⟨t, rfl⟩ := hv
    have I1 : Inv X pins σ H { s with heap := h', toks := tk } := I.turned (fun b o hb e => kk b o (by simpa using hb) e) f0 f1 f3 f4 f5
    exact ⟨_, rfl, go_of (s := { s with heap := h', toks := tk }) (n := "range_iterator") st' rfl rfl (by decide) ⟨.int (lo + (i : Nat) * c), H, I1, ⟨t, rfl⟩, ⟨rfl, rfl⟩, st', fun b hb => (hf b hb).1⟩⟩
  done := by
    intro X hP hw hK hc i pins s σ H E I hf st hg
    subst hP hw hK
    obtain ⟨f0, f1, f2, f3, f4, f5⟩ := hf it (by simp)
    exact wpAny_pyNext_range_end (I.ok.hd hc) st (by have : n ≤ i := hg; omega) fun h' eb => ⟨rfl, I.turned (t' := s.toks) (fun b o hb e => eb b o hb e) f0 f1 f3 f4 f5⟩
  self := fun A i s Q E st h => wpAny_pyIter_rangeiter st h
/-- range(i, j, c): small bounds, n items -/
def RgC (i j c : Int) (n : Nat) : Prop := c ≠ 0 ∧ c.natAbs < 1073741824 ∧ Builtin.Range.small i j c = true ∧ Builtin.Range.rangeSize i j c = n
def iRng3 (ta : TA) : TI := fun σ H R => ta σ H fun vs H1 => ∃ (i j c : Int) (n : Nat), vs = [.int i, .int j, .int c] ∧ RgC i j c n ∧ R (Itc i c n) H1
section
variable {X : Cx} {tg : Expr}
theorem pi_range3 {a b c : Expr} {ta : TA} {p pos : Pos} (hg : Gl X "range") (hm : X.mg "range" = none) (ha : PA X [a, b, c] ta)
    (hs : starEach [a, b, c] X.env = (false, eval a X.env) :: starEach [b, c] X.env := by rfl) (hpl : (backTo pos (starEach [b, c] X.env)).any (·.1) = false := by rfl) :
    PI X tg (.Call (.Name "range" p) [a, b, c] [] pos) (iRng3 ta) := by
  intro pins s σ H R I h
  refine Call_ (ld_blt I hg hm boot_range (PyProof.Rows.callWith_type1 (thn (ha pos pins s σ H _ I h) fun us s1 ⟨vs, H1, I1, r1, q1⟩ => ?_) hs hpl))
  obtain ⟨i, j, k, n, e, ⟨c0, c1, c2, c3⟩, q⟩ := q1
  subst e
  cases r1 with
  | cons r rr =>
    cases rr with
    | cons r' rr =>
      cases rr with
      | cons r'' rr =>
        cases rr
        obtain ⟨t, rfl⟩ := r
        obtain ⟨t', rfl⟩ := r'
        obtain ⟨t'', rfl⟩ := r''
        refine call_range_3 c0 ?_ (.inl (PyProof.noPylong_small c1))
        refine wpAny_pyIter_range (IsRange.new ..) c2 ?_
        have I2 : Inv X pins σ H1 { s1 with heap := s1.heap.push { cls := .type "range", data := .fields #[.int i t, .int j t', .int k t''] } } := I1.kept (t' := s1.toks) fun b o e => Heap.get?_push_of_some _ e
        refine pi_one (tk := s1.toks) I2 _ (turn_rangeC _ i k n) ?_ q
        have e1 : i + ((0 : Nat) : Int) * k = i := by simp
        have e2 : (n : Int) - ((0 : Nat) : Int) = Builtin.Range.rangeSize i j k := by rw [c3]; simp
        show IsRangeIter _ _ (i + ((0 : Nat) : Int) * k) ((n : Int) - ((0 : Nat) : Int)) k
        rw [e1, e2]
        exact Heap.get?_push_size _ rfl
end
/-- the turns of a step range, for the for loop -/
theorem for_rangeC {lo c : Int} {n : Nat} {g : TG} {tb : TS} {D : Ends} {σ : St} {H : Hp} (Pv : Nat → St → Hp → Prop) (h0 : Pv 0 σ H)
    (hs : ∀ i σ H, i < n → Pv i σ H → g (.int (lo + (i : Nat) * c)) σ H fun σ2 H2 => tb { D with nx := Pv (i + 1), ct := Pv (i + 1), bk := D.nx } σ2 H2) (hd : ∀ σ H, Pv n σ H → D.nx σ H) :
    ∃ W : Nat → Nat → St → Hp → Prop, (∃ m, W 0 m σ H) ∧ ∀ i m σ H, W i m σ H →
      ((Itc lo c n).stop i H ∧ D.nx σ H) ∨ ((Itc lo c n).go i H ∧ ∃ N : St → Hp → Prop, (∀ σ' H', N σ' H' → ∃ m', m' < m ∧ W (i + 1) m' σ' H') ∧ ∀ x H', (Itc lo c n).yld i H x H' → g x σ H' fun σ2 H2 => tb { D with nx := N, ct := N, bk := D.nx } σ2 H2) := by
  refine ⟨fun i m σ H => m = n - i ∧ i ≤ n ∧ Pv i σ H, ⟨n, by simp, Nat.zero_le _, h0⟩, ?_⟩
  rintro i m σ H ⟨rfl, hi, p⟩
  by_cases hlt : i < n
  · refine .inr ⟨hlt, Pv (i + 1), fun σ' H' p' => ⟨n - (i + 1), by omega, rfl, hlt, p'⟩, fun x H' y => ?_⟩
    obtain ⟨e, y⟩ := y
    subst e y
    exact hs i σ _ hlt p
  · have e : i = n := by omega
    subst e
    exact .inl ⟨Nat.le_refl _, hd σ H p⟩

/-! ### reversed(list) -/
section
variable {X : Cx} {tg : Expr}
end

/-! ### a str -/

/-! ### a dict's keys: any dict's entries -/
section
variable {prog : Program} {w : World} {A : Around} {E : Value → Shared → Prop} {s : Shared}
end

/-! ### a locked dict -/
section
variable {X : Cx} {pins : List (Addr × Obj)} {σ : St} {H : Hp} {s : Shared} {d : Addr} {o : Obj}
end

section
variable {P : Program} {w : World} {K : PySem.W.Frag} {tg : Expr} {d : Addr} {o : Obj} {es : Array DictEntry} {ep : Nat}
end

/-! ### for k in d, d.keys(), d.values(), d.items() -/
section
variable {X : Cx} {tg e : Expr} {td : TE} {apos cpos : Pos}
end

/-! ### enumerate(list) -/
/-! ### zip(list, list) -/
theorem boot_zip5 : bootBuiltins "zip" = some (.type "zip") := by decide +kernel
/-- the lists at a and b as they stand at each turn, the items in new pairs -/
def Itz (K : PySem.W.Frag) (a b : Addr) : It :=
  ⟨fun i H => ∃ (xs ys : List V) (x y : V), SqL K H a xs ∧ SqL K H b ys ∧ xs[i]? = some x ∧ ys[i]? = some y,
    fun i H v H' => ∃ T x y, v = .ref T ∧ H T = none ∧ H' = upd H T (.tup [x, y]) ∧ (∀ xs, SqL K H a xs → xs[i]? = some x) ∧ ∀ ys, SqL K H b ys → ys[i]? = some y,
    fun i H => ∃ xs ys : List V, SqL K H a xs ∧ SqL K H b ys ∧ (xs.length ≤ i ∨ ys.length ≤ i)⟩
theorem turn_zip {P : Program} {w : World} {K : PySem.W.Frag} {elts : List Expr} {kk : Nat} {tpos : Pos} {a b z TI TO i1 i2 : Addr} (D : ZipApart z TI TO i1 i2 a b) :
    Turn P w K (.Tuple elts kk tpos) (Itz K a b) [z, TI, TO, i1, i2] z (fun i h => IsZip h z TI TO .none ∧ IsPair h TI (.ref i1) (.ref i2) ∧ (∃ x y, IsPair h TO x y) ∧ h.IsListIter i1 a i ∧ h.IsListIter i2 b i) where
  mem := by simp
  obj := fun i h st c hc => by
    obtain ⟨hz, hTI, ⟨x, y, hTO⟩, ⟨o1, e1, _, d1⟩, ⟨o2, e2, _, d2⟩⟩ := st
    have e' : c = z ∨ c = TI ∨ c = TO ∨ c = i1 ∨ c = i2 := by simpa using hc
    rcases e' with q | q | q | q | q
    · rw [q]; exact ⟨_, hz, fun v q => nomatch q⟩
    · rw [q]; exact ⟨_, hTI, fun v q => nomatch q⟩
    · rw [q]; exact ⟨_, hTO, fun v q => nomatch q⟩
    · rw [q]; exact ⟨o1, e1, fun v q => by rw [d1] at q; cases q⟩
    · rw [q]; exact ⟨o2, e2, fun v q => by rw [d2] at q; cases q⟩
  keep := fun i h h' st k => by
    obtain ⟨hz, hTI, ⟨x, y, hTO⟩, h1, h2⟩ := st
    exact ⟨k z (by simp) _ hz, k TI (by simp) _ hTI, ⟨x, y, k TO (by simp) _ hTO⟩, h1.at fun o q => k i1 (by simp) o q, h2.at fun o q => k i2 (by simp) o q⟩
  item := by
    intro X hP hw hK hc i pins s σ H E I hf st hg
    subst hP hw hK
    obtain ⟨hz, hTI, ⟨x0, y0, hTO⟩, h1, h2⟩ := st
    obtain ⟨xs, ys, x, y, hqx, hqy, hx, hy⟩ := hg
    obtain ⟨its, rv, p, _⟩ := I.list hqx
    obtain ⟨its2, rv2, p2, _⟩ := I.list hqy
    obtain ⟨u, hu, ru⟩ := rv.get hx
    obtain ⟨u2, hu2, ru2⟩ := rv2.get hy
    have hzl : z < s.heap.objs.size := Heap.lt_size hz
    refine wpAny_pyNext_zip_item D hz hTI hTO h1 h2 p.isList p2.isList (x := u) (y := u2) (by simpa using hu) (by simpa using hu2) fun h' z' TO' h1' h2' hT hsz hk => ?_
    refine ⟨_, rfl, wpAny_letOwnedTupleGo_zip (s := { s with heap := h' }) z' fun h'' z'' sb => ?_⟩
    have hT2 : h''.get? s.heap.objs.size = some { cls := .type "tuple", data := .seq #[u, u2] } := (sb.2 _ (Nat.ne_of_gt hzl)).trans hT
    have new : ObjOk X.prog X.w (upd H s.heap.objs.size (.tup [x, y])) h'' s.heap.objs.size (.tup [x, y]) :=
      ⟨by show 2 ≤ sizeLine; decide, [u, u2], .cons ru (.cons ru2 .nil), ⟨_, hT2, rfl, _, rfl⟩⟩
    have I1 : Inv X pins σ (upd H s.heap.objs.size (.tup [x, y])) { s with heap := h'' } :=
      I.turnedNew (t' := s.toks) (ch := [z, TI, TO, i1, i2]) (fun c o hb q => (sb.2 c (fun q' => hb (by simp [q']))).trans (hk c o (fun q' => hb (by simp [q'])) (fun q' => hb (by simp [q'])) (fun q' => hb (by simp [q'])) (fun q' => hb (by simp [q'])) q)) hf (Nat.le_refl _) new
    refine ⟨.ref s.heap.objs.size, _, I1, rfl, ⟨_, x, y, rfl, I.hok.fresh (Nat.le_refl _), rfl, fun l hl => by rw [I.list_inj hl hqx]; exact hx, fun l hl => by rw [I.list_inj hl hqy]; exact hy⟩, ⟨z'', ?_, ⟨u, u2, ?_⟩, ?_, ?_⟩, fun c hcm => ?_⟩
    · exact (sb.2 _ D.TIz).trans (hk _ _ D.TIz D.TITO D.TIi1 D.TIi2 hTI)
    · exact (sb.2 _ D.TOz).trans TO'
    · exact h1'.at fun o q => (sb.2 _ D.i1z).trans q
    · exact h2'.at fun o q => (sb.2 _ D.i2z).trans q
    · have hlt : c < s.heap.objs.size := by
        have e' : c = z ∨ c = TI ∨ c = TO ∨ c = i1 ∨ c = i2 := by simpa using hcm
        rcases e' with q | q | q | q | q
        · rw [q]; exact hzl
        · rw [q]; exact Heap.lt_size hTI
        · rw [q]; exact Heap.lt_size hTO
        · rw [q]; obtain ⟨_, e1, _⟩ := h1; exact Heap.lt_size e1
        · rw [q]; obtain ⟨_, e2, _⟩ := h2; exact Heap.lt_size e2
      rw [upd_ne (Nat.ne_of_lt hlt)]
      exact (hf c hcm).1
  done := by
    intro X hP hw hK hc i pins s σ H E I hf st hg
    subst hP hw hK
    obtain ⟨hz, hTI, ⟨x0, y0, hTO⟩, h1, h2⟩ := st
    obtain ⟨xs, ys, hqx, hqy, hend⟩ := hg
    obtain ⟨its, rv, p, _⟩ := I.list hqx
    obtain ⟨its2, rv2, p2, _⟩ := I.list hqy
    have l1 := rv.length
    have l2 := rv2.length
    have he : its.toArray[i]? = none ∨ its2.toArray[i]? = none := by
      rcases hend with q | q
      · exact .inl (by simp; omega)
      · exact .inr (by simp; omega)
    exact wpAny_pyNext_zip_end (I.ok.hd hc) D hz hTI hTO h1 h2 p.isList p2.isList he fun h' hk => ⟨rfl, I.turnedL (t' := s.toks) (ch := [z, TI, TO, i1, i2]) (fun c o hb q =>
      hk c o (fun q' => hb (by simp [q'])) (fun q' => hb (by simp [q'])) (fun q' => hb (by simp [q'])) (fun q' => hb (by simp [q'])) q) hf⟩
  self := fun A i s Q E st h => wpAny_pyIter_zip st.1 h
def iZip (K : PySem.W.Frag) (ta : TA) : TI := fun σ H R => ta σ H fun vs H1 => ∃ a b xs ys, vs = [.ref a, .ref b] ∧ SqL K H1 a xs ∧ SqL K H1 b ys ∧ R (Itz K a b) H1
theorem pi_zip {X : Cx} {e e2 : Expr} {ta : TA} {p pos tpos : Pos} {elts : List Expr} {kk : Nat} (hg : Gl X "zip") (hm : X.mg "zip" = none) (ha : PA X [e, e2] ta)
    (hs : starEach [e, e2] X.env = (false, eval e X.env) :: starEach [e2] X.env := by rfl) (hpl : (backTo pos (starEach [e2] X.env)).any (·.1) = false := by rfl) :
    PI X (.Tuple elts kk tpos) (.Call (.Name "zip" p) [e, e2] [] pos) (iZip X.K ta) := by
  intro pins s σ H R I h
  refine Call_ (ld_blt I hg hm boot_zip5 (PyProof.Rows.callWith_type1 (thn (ha pos pins s σ H _ I h) fun us s1 ⟨vs, H1, I1, r1, q1⟩ => ?_) hs hpl))
  obtain ⟨a, b, xs, ys, ex, hqx, hqy, q⟩ := q1
  subst ex
  cases r1 with
  | cons r rr =>
    cases rr with
    | cons r' rr =>
      cases rr
      cases r
      cases r'
      obtain ⟨its, rv, p1, _⟩ := I1.list hqx
      obtain ⟨its2, rv2, p2, _⟩ := I1.list hqy
      have la : a < s1.heap.objs.size := p1.lt
      have lb : b < s1.heap.objs.size := p2.lt
      refine call_zip_2 p1.isList p2.isList fun h' hz hTI hTO h1 h2 hsz hk => wpAny_pyIter_zip hz ?_
      have I2 : Inv X pins σ H1 { s1 with heap := h' } := I1.kept (t' := s1.toks) hk
      refine ⟨s1.heap.objs.size + 4, [s1.heap.objs.size + 4, s1.heap.objs.size + 2, s1.heap.objs.size + 3, s1.heap.objs.size, s1.heap.objs.size + 1], _, _, H1, rfl, I2, turn_zip (PySem.W.ktu_apart s1.heap.objs.size a b la lb), ⟨hz, hTI, ⟨_, _, hTO⟩, h1, h2⟩, fun c hcm => ?_, q⟩
      have e' : c = s1.heap.objs.size + 4 ∨ c = s1.heap.objs.size + 2 ∨ c = s1.heap.objs.size + 3 ∨ c = s1.heap.objs.size ∨ c = s1.heap.objs.size + 1 := by simpa using hcm
      have hle : s1.heap.objs.size ≤ c := by
        rcases e' with z | z | z | z | z
        · rw [z]; exact Nat.le_add_right _ _
        · rw [z]; exact Nat.le_add_right _ _
        · rw [z]; exact Nat.le_add_right _ _
        · rw [z]; exact Nat.le_refl _
        · rw [z]; exact Nat.le_add_right _ _
      exact I1.fpOk hle (I1.hok.fresh hle)
end L2

section 
namespace Bits
open PySem PyProof.Rows








end Bits
end 

section 
namespace TL
open PySem PySem.Builtin PySem.Builtin.Str PySem.StrLaws


/-! ### the list functions -/




/-! ### the model's split and partition are these -/




/-! ### computing spl and par -/


/-! ### digits -/

/-! ### words: x.split() -/
end TL
end 

namespace L2
open PySem PySem.Spec PyProof.Rows




section
variable {X : Cx} {pins : List (Addr × Obj)} {σ : St} {H : Hp} {s : Shared} {Q : VK}
end

section
variable {X : Cx}





/-! ### of a text alone -/

/-! ### of a text and a text -/

end

section
variable {X : Cx} {o e : Expr} {to te : TE}

end
end L2

namespace L2
open PySem PySem.Spec PyProof.Rows

section
variable {X : Cx}
end

/-! ### slices of a text -/


end L2

namespace Att
open PySem PySem.W PySem.Calls PyProof.Rows

/-! ### the script -/



/-! ### the attachment: holds_open's last premise (the goal 'hc' behind k_head) from a wpAny of the law's body -/



/-! ### rules over ANY heap (no ledger) from facts about the written part K: the library's own take a ledger (News) for what they write -/
section
variable {prog : Program} {w : World} {A : Around} {E : Value → Shared → Prop} {s : Shared} {K : Frag}





/-! the whole heap as the ledger: makes every rule that writes through a ledger a rule over any heap -/

end
end Att

namespace L2
open PySem PySem.Spec PyProof.Rows



end L2

namespace L2
open PySem PySem.Spec PyProof.Rows


end L2

/- THE LAST THEOREM (shape; LID, My.* are yours):
   My.Adr: a structure of the addresses that your layer names (classes, functions); My.Txt K t: a structure (Prop) of the equations over K;
   My.txt_mk : {K} {implicit addresses ..} (e1 : nsIn K mainGlobals "law" = some (some (.ref f))) (e2 : K.lookup f = some ⟨oc, od, .func (fnOf "law" "law" params body scope dV kV doc pm an cdv ct), sl⟩) (e3 : codeIn K cdv "law" = true) .. : ∃ t, My.Txt K t

set_option maxRecDepth 100000 in
set_option maxHeartbeats 0 in
theorem PySem.Challenge.cw_LID_holds : PySem.Challenge.rw_LID.Holds := by
  w_on; o_law; k_head; (case hw => w_witness2)
  k_fill
  refine L2.walk_of (l := PySem.Challenge.rw_LID) (n := 63) (k := 40) (x := "script") (CX := fun w => ..) (sp := fun _ => My.sp_law) rfl (by decide) rfl ⟨rfl, by decide, by decide⟩ (fun w h Y => PySem.W.kIn_of Y) ?F ?S ?C
  case F =>
    intro w mg fa h KX G hmg
    have T : ∃ t, My.Txt (L2.KOf KX) t := by
      dsimp only [L2.KOf]                          -- K must stand as «<heap const> w.params» for k_is
      refine' My.txt_mk ?e1 ?e2 ?e3 ..
      (case e1 => PySem.W.k_is)                    -- in the order: a name -> its address -> its object -> its parts
      (case e2 => PySem.W.k_is)
      ..
    obtain ⟨t, T⟩ := T
    have e0 := hmg.symm.trans (PySem.W.mg_of KX G T.law)
    cases e0                                       -- fa is the law's own address
    exact ⟨_, fun s u => .of_eq rfl, fun base kb nb => My.law_fn T kb nb⟩     -- if «.of_eq rfl» comes too early: refine' ⟨_, ?b, fun base kb nb => My.law_fn T kb nb⟩; exact fun s u => .of_eq rfl
  case S => exact fun w H a ns hl hO hS => ..
  case C => exact ..
(the tactic k_is has no namespace: write k_is) -/

/-! SHORT WORDS over the layer: a def of the text, its body, what a loop and a test want. -/
namespace L2
open PySem PySem.Spec PyProof.Rows

/-! ### the text by places -/
/-- the j-th statement of a class's body -/
def inClass (s : Stmt) (j : Nat) : Stmt := match s with
  | .ClassDef _ _ _ body _ _ _ _ _ _ _ => body.getD j (.Pass ⟨0, 0, 0, 0⟩)
  | _ => .Pass ⟨0, 0, 0, 0⟩
def defArgs (s : Stmt) : Arguments := match s with
  | .FunctionDef _ a _ _ _ _ _ _ _ _ => a
  | _ => { posonlyargs := [], args := [], vararg := none, kwonlyargs := [], kw_defaults := [], kwarg := none, defaults := [] }
def defBody (s : Stmt) : List Stmt := match s with
  | .FunctionDef _ _ b _ _ _ _ _ _ _ => b
  | _ => []
def defScope (s : Stmt) : Scope := match s with
  | .FunctionDef _ _ _ _ _ _ sc _ _ _ => sc
  | _ => { kind := .function, names := [], isGenerator := false, isCoroutine := false }

/-! ### no exception leaves a def -/
abbrev CX0 : CXT := fun _ _ _ _ _ _ => False
abbrev E0 : XK := fun _ _ _ => False
theorem pass0 {X : Cx} : Passes CX0 X E0 := fun _ _ _ _ _ _ _ h => h.elim

/-! ### a def (or method) of the text as it stands behind the top -/
structure Fun (K : PySem.W.Frag) (x qual : Str) (st : Stmt) (f : Addr) (fd : FuncData) : Prop where
  ex : ∃ (oc : Value) (od : Option Addr) (kV doc pm : Value) (an : Option Addr) (cdv ct : Value) (osl : Array (Option Value)),
    fd = PySem.W.fnOf x qual (defArgs st) (defBody st) (defScope st) .none kV doc pm an cdv ct ∧ K.lookup f = some ⟨oc, od, .func fd, osl⟩ ∧ PySem.W.codeIn K cdv qual = true
  kp : PySem.W.keepIn K (.ref f) = true
section
variable {P : Program} {w : World} {K : PySem.W.Frag} {mg : Str → Option Value} {base : Heap}
/-- THE RULE for a def: its body as a term of rules, and the reading of that term -/
theorem Fun.ok {x qual : Str} {st : Stmt} {f : Addr} {fd : FuncData} {N ps : List Str} {k : Nat} {sp : Sp} (F : Fun K x qual st f fd) (S : FnScope N ps (defScope st)) (len : ∀ vs H Q E, sp vs H Q E → vs.length = ps.length)
    (hbody : ∀ (cdv : Value) (A : Around) (outer : List Env) (s : Shared) (H : Hp) (vs : List V) (Q : VK) (E : XK), Room k (A.deeper (envOfC qual (defScope st) s.heap.objs.size f cdv)) → sp vs H Q E →
      ∃ t, PSs (cxOf CX0 P w K mg base N qual (defScope st) f cdv A outer s H E).nox (defBody st) t ∧ t { nx := fun _ H' => Q .non H', rt := Q } (start N vs) H) : FnOk P w K mg base CX0 (k + 1) f fd ps sp := by
  obtain ⟨oc, od, kV, doc, pm, an, cdv, ct, osl, rfl, lk, hcd⟩ := F.ex
  refine fn_of lk hcd S len fun A outer s H vs Q E hr hsp => ?_
  obtain ⟨t, h, q⟩ := hbody cdv A outer s H vs Q E hr hsp
  exact ⟨t, h.nox, q⟩
/-- how its arguments bind (no defaults): h is «fun _ _ _ _ _ _ us hl => match us, hl with | [_, _], _ => rfl», one _ a parameter -/
theorem Fun.binds {x qual : Str} {st : Stmt} {f : Addr} {fd : FuncData} {ps : List Str} (F : Fun K x qual st f fd)
    (h : ∀ (kV doc pm : Value) (an : Option Addr) (cdv ct : Value) (us : List Value), us.length = ps.length → bindArgs (PySem.W.fnOf x qual (defArgs st) (defBody st) (defScope st) .none kV doc pm an cdv ct) ⟨us, []⟩ = pure (ps.zip us)) : Binds K fd ps [] := by
  obtain ⟨oc, od, kV, doc, pm, an, cdv, ct, osl, rfl, lk, hcd⟩ := F.ex
  exact .all (h kV doc pm an cdv ct)
theorem fun_mk {x qual : Str} {st : Stmt} {f : Addr} {oc : Value} {od an : Option Addr} {osl : Array (Option Value)} {kV doc pm cdv ct : Value} (l : K.lookup f = some ⟨oc, od, .func (PySem.W.fnOf x qual (defArgs st) (defBody st) (defScope st) .none kV doc pm an cdv ct), osl⟩)
    (c : PySem.W.codeIn K cdv qual = true) (k : PySem.W.keepIn K (.ref f) = true) : Fun K x qual st f (PySem.W.fnOf x qual (defArgs st) (defBody st) (defScope st) .none kV doc pm an cdv ct) := ⟨⟨oc, od, kV, doc, pm, an, cdv, ct, osl, rfl, l, c⟩, k⟩
end
theorem hu_of {A : Around} {k : Nat} (hr : Room k A) : A.units + 1 < cLine := Nat.lt_of_le_of_lt (Nat.add_le_add_left (by decide : 1 ≤ 64) _) hr.units

/-! ### expressions in short: the name that stands in the i-th slot -/
section
variable {X : Cx}
theorem pv (i : Nat) {x : Str} {pos : Pos} (hN : X.N[i]? = some x := by rfl) (hv : Vis X.env.scope x := by first | exact Or.inl rfl | exact Or.inr (Or.inl rfl) | exact Or.inr (Or.inr rfl)) (hd : (x == ("__debug__" : Str)) = false := by decide)
    (hcd : (x == ("__classdict__" : Str)) = false := by decide) : PE X (.Name x pos) (tVar i) := pe_var hN hv hd hcd
end

/-! ### tests -/
theorem iteF {A B : Prop} (h : B) : if false = true then A else B := by
  rw [if_neg Bool.false_ne_true]
  exact h
theorem iteT {A B : Prop} (h : A) : if true = true then A else B := by
  rw [if_pos rfl]
  exact h
theorem ite2 {c A B : Prop} [Decidable c] (h1 : c → A) (h2 : ¬ c → B) : if c then A else B := by
  by_cases h : c
  · rw [if_pos h]
    exact h1 h
  · rw [if_neg h]
    exact h2 h

/-! ### heaps -/
/-- all that was tracked is as it was -/
def Same (H H' : Hp) : Prop := ∀ b o, H b = some o → H' b = some o
theorem Same.trans {H H1 H2 : Hp} (a : Same H H1) (b : Same H1 H2) : Same H H2 := fun c o h => b c o (a c o h)
theorem Same.free {H H' : Hp} (e : Same H H') {l : Addr} (h : H' l = Option.none) : H l = Option.none := by
  cases q : H l with
  | none => rfl
  | some o =>
    rw [e l o q] at h
    cases h
theorem Same.seq {K : PySem.W.Frag} {H H' : Hp} {a : Addr} {xs : List V} (e : Same H H') (h : SqL K H a xs) : SqL K H' a xs := by
  rcases h with (h | ⟨o, h⟩) | h
  · exact .inl (.inl (e _ _ h))
  · exact .inl (.inr ⟨o, e _ _ h⟩)
  · exact .inr h

/-! ### a dict's pairs: keys that differ -/
section
variable {κ : Type} [DecidableEq κ]
end
/-! ### lists -/
theorem at_of {xs : List V} {z : Int} {j : Nat} {v : V} (e : z = (j : Int)) (h : xs[j]? = some v) : atI xs z = some v := by
  rw [e]
  exact atI_nat h
end L2

section
set_option Elab.async false
set_option linter.all false
set_option maxRecDepth 100000
set_option maxHeartbeats 2000000
namespace L2
open PySem PySem.Spec PyProof.Rows
open PySem.W (WData Codec OpenSpec Well WellAll ReadsW ReadsAllW)
/-! ### an answer as data -/
mutual
/-- x stands for the datum d, lists and tuples all the way -/
inductive Dw (K : PySem.W.Frag) (H : Hp) : V → WData → Prop
  | non : Dw K H .non .none
  | bl (b : Bool) : Dw K H (.bl b) (.bool b)
  | int (i : Int) : Dw K H (.int i) (.int i)
  | str (x : Str) : Dw K H (.str x) (.str x)
  | byt (b : Array UInt8) : Dw K H (.byt b) (.bytes b.toList)
  | lst {a : Addr} {xs : List V} {ds : List WData} : SqL K H a xs → DwAll K H xs ds → Dw K H (.ref a) (.list ds)
  | tup {a : Addr} {xs : List V} {ds : List WData} : SqT K H a xs → DwAll K H xs ds → Dw K H (.ref a) (.tuple ds)
inductive DwAll (K : PySem.W.Frag) (H : Hp) : List V → List WData → Prop
  | nil : DwAll K H [] []
  | cons {v : V} {vs : List V} {d : WData} {ds : List WData} : Dw K H v d → DwAll K H vs ds → DwAll K H (v :: vs) (d :: ds)
end
theorem dw_ints {K : PySem.W.Frag} {H : Hp} : ∀ ns : List Int, DwAll K H (ns.map V.int) (ns.map WData.int)
  | [] => .nil
  | n :: r => .cons (.int n) (dw_ints r)
theorem ints_dw {K : PySem.W.Frag} {H : Hp} : ∀ (ns : List Int) (xs : List V), DwAll K H xs (ns.map WData.int) → xs = ns.map V.int
  | [], xs, h => by
    cases h
    rfl
  | n :: r, xs, h => by
    cases h with
    | cons h1 h2 =>
      cases h1
      rw [ints_dw r _ h2] <;> rfl
section
variable {P : Program} {w : World} {K : PySem.W.Frag} {H : Hp} {h : Heap} {R : PySem.W.WRecords} {cl : Str → Option Addr}
theorem sqL_at {a : Addr} {xs : List V} (hok : HOk P w H h) (KX : K.In h) (q : SqL K H a xs) : ∃ (its : List Value) (o : Obj) (n : Nat), Vals xs its ∧ h.get? a = some o ∧ o.cls = .type "list" ∧ o.data = .seq its.toArray n := by
  rcases q with q | ⟨o, its, n, e, hc, _, hd, _, hv⟩
  · obtain ⟨_, its, n, hv, e⟩ := (show ObjOk P w H h a (.lst xs) from q.ok hok)
    exact ⟨its, _, n, hv, e, rfl, rfl⟩
  · exact ⟨its.toList, o, n, hv, KX _ _ e, hc, by simp [hd]⟩
theorem sqT_at {a : Addr} {xs : List V} (hok : HOk P w H h) (KX : K.In h) (q : SqT K H a xs) : ∃ (its : List Value) (o : Obj) (n : Nat), Vals xs its ∧ h.get? a = some o ∧ o.cls = .type "tuple" ∧ o.data = .seq its.toArray n := by
  rcases q with q | ⟨o, its, n, e, hc, hd, _, hv⟩
  · obtain ⟨_, its, hv, o, e, hc, n, hd⟩ := (show ObjOk P w H h a (.tup xs) from q.ok hok)
    exact ⟨its, o, n, hv, e, hc, hd⟩
  · exact ⟨its.toList, o, n, hv, KX _ _ e, hc, by simp [hd]⟩
mutual
theorem Dw.reads (hok : HOk P w H h) (KX : K.In h) : ∀ (d : WData) (v : V) (u : Value), Dw K H v d → RelV v u → ∃ as, ReadsW R cl h u d as
  | .none, _, _, x, r => by
    cases x
    cases r
    exact ⟨_, ReadsW.none⟩
  | .bool b, _, _, x, r => by
    cases x
    cases r
    exact ⟨_, ReadsW.bool b⟩
  | .int i, _, _, x, r => by
    cases x
    obtain ⟨t, rfl⟩ := r
    exact ⟨_, ReadsW.int i t⟩
  | .str s, _, _, x, r => by
    cases x
    obtain ⟨t, rfl⟩ := r
    exact ⟨_, ReadsW.str s t⟩
  | .bytes b, _, _, x, r => by
    cases x
    obtain ⟨t, rfl⟩ := r
    exact ⟨_, ReadsW.bytes _ t⟩
  | .list ds, _, _, x, r => by
    cases x with
    | lst hs ha =>
      cases r
      obtain ⟨its, o, n, rv, ho, hc, hd⟩ := sqL_at hok KX hs
      obtain ⟨as, hr⟩ := Dw.readsAll hok KX ds _ its ha rv
      exact ⟨_, ReadsW.list ho hc hd hr⟩
  | .tuple ds, _, _, x, r => by
    cases x with
    | tup hs ha =>
      cases r
      obtain ⟨its, o, n, rv, ho, hc, hd⟩ := sqT_at hok KX hs
      obtain ⟨as, hr⟩ := Dw.readsAll hok KX ds _ its ha rv
      exact ⟨_, ReadsW.tuple ho hc hd hr⟩
  | .float _, _, _, x, _ => by cases x
  | .dict _, _, _, x, _ => by cases x
  | .bytearray _, _, _, x, _ => by cases x
  | .set _, _, _, x, _ => by cases x
  | .frozenset _, _, _, x, _ => by cases x
  | .obj _ _, _, _, x, _ => by cases x
theorem Dw.readsAll (hok : HOk P w H h) (KX : K.In h) : ∀ (ds : List WData) (vs : List V) (us : List Value), DwAll K H vs ds → Vals vs us → ∃ as, ReadsAllW R cl h us ds as
  | [], _, _, x, r => by
    cases x
    cases r
    exact ⟨_, ReadsAllW.nil⟩
  | d :: ds, _, _, x, r => by
    cases x with
    | cons h1 h2 =>
      cases r with
      | cons r1 r2 =>
        obtain ⟨as, q1⟩ := Dw.reads hok KX d _ _ h1 r1
        obtain ⟨bs, q2⟩ := Dw.readsAll hok KX ds _ _ h2 r2
        exact ⟨_, ReadsAllW.cons q1 q2⟩
end
end
/-! ### the arguments -/
mutual
/-- data that a codec tells -/
def plW : WData → Bool
  | .none => true
  | .bool _ => true
  | .int _ => true
  | .str _ => true
  | .bytes _ => true
  | .list xs => plWs xs
  | .tuple xs => plWs xs
  | _ => false
def plWs : List WData → Bool
  | [] => true
  | x :: r => plW x && plWs r
end
theorem plWs_map {α : Type} {f : α → WData} (h : ∀ a, plW (f a) = true) : ∀ l : List α, plWs (l.map f) = true
  | [] => rfl
  | x :: r => by
    show (plW (f x) && plWs (r.map f)) = true
    rw [h x, plWs_map h r] <;> rfl
theorem pl_enc : ∀ (c : Codec) (a : c.denote), plW (c.enc a) = true
  | .unit, _ => rfl
  | .bool, _ => rfl
  | .int _ _, _ => rfl
  | .nat _ _, _ => rfl
  | .u8, _ => rfl
  | .bytes _ _, _ => rfl
  | .text _ _ _ _, _ => rfl
  | .list _ _ c, a => plWs_map (fun x => pl_enc c x) a
  | .pair c d, a => by
    show (plW (c.enc a.1) && (plW (d.enc a.2) && true)) = true
    rw [pl_enc c a.1, pl_enc d a.2] <;> rfl
  | .triple c d e, a => by
    show (plW (c.enc a.1) && (plW (d.enc a.2.1) && (plW (e.enc a.2.2) && true))) = true
    rw [pl_enc c a.1, pl_enc d a.2.1, pl_enc e a.2.2] <;> rfl
  | .option c, none => rfl
  | .option c, some x => pl_enc c x
theorem pl_encAll : ∀ (cs : List Codec) (a : Codec.denoteAll cs), plWs (Codec.encAll cs a) = true
  | [], _ => rfl
  | c :: cs, a => by
    show (plW (c.enc a.1) && plWs (Codec.encAll cs a.2)) = true
    rw [pl_enc c a.1, pl_encAll cs a.2] <;> rfl
theorem weight_mem : ∀ {xs : List WData} {d : WData}, d ∈ xs → d.weight ≤ WData.weightAll xs
  | [], d, h => absurd h (by simp)
  | x :: r, d, h => by
    show d.weight ≤ x.weight + 1 + WData.weightAll r
    rcases List.mem_cons.mp h with e | m
    · rw [e]
      omega
    · have z := weight_mem m
      omega
def toV : Value → V
  | .none => .non
  | .bool b => .bl b
  | .int i _ => .int i
  | .str x _ => .str x
  | .bytes b _ => .byt b
  | .ref a => .ref a
  | _ => .non
/-- a value of the arguments, its objects among A -/
def OkU (A : List Addr) : Value → Prop
  | .none => True
  | .bool _ => True
  | .int _ _ => True
  | .str _ _ => True
  | .bytes _ _ => True
  | .ref a => a ∈ A
  | _ => False
theorem OkU.mono {A B : List Addr} (h : ∀ a ∈ A, a ∈ B) : ∀ {u : Value}, OkU A u → OkU B u := fun {u} x => by
  cases u with
  | ref a => exact h a x
  | none => trivial
  | bool b => trivial
  | int i t => trivial
  | str s t => trivial
  | bytes b t => trivial
  | _ => exact False.elim x
theorem relV_toV {A : List Addr} {u : Value} (x : OkU A u) : RelV (toV u) u := by
  cases u with
  | ref a => rfl
  | none => rfl
  | bool b => rfl
  | int i t => exact ⟨t, rfl⟩
  | str s t => exact ⟨t, rfl⟩
  | bytes b t => exact ⟨t, rfl⟩
  | _ => exact False.elim x
theorem vals_toV {A : List Addr} : ∀ {vs : List Value}, (∀ u ∈ vs, OkU A u) → Vals (vs.map toV) vs
  | [], _ => .nil
  | u :: r, h => .cons (relV_toV (h u (List.mem_cons_self ..))) (vals_toV fun x hx => h x (List.mem_cons_of_mem _ hx))
/-- an object of the arguments -/
def ArgOb (h : Heap) (A : List Addr) (a : Addr) : Prop := ∃ vs : List Value, vs.length ≤ sizeLine ∧ (∀ u ∈ vs, OkU A u) ∧
  (h.get? a = some { cls := .type "list", data := .seq vs.toArray } ∨ h.get? a = some { cls := .type "tuple", data := .seq vs.toArray })
theorem ArgOb.mono {h : Heap} {A B : List Addr} {a : Addr} (k : ∀ a ∈ A, a ∈ B) (x : ArgOb h A a) : ArgOb h B a := by
  obtain ⟨vs, h1, h2, h3⟩ := x
  exact ⟨vs, h1, fun u hu => (h2 u hu).mono k, h3⟩
theorem wellAll_len {P : Params} {h : Heap} : ∀ {vs : List Value} {ds : List WData}, WellAll P h vs ds → vs.length = ds.length
  | _, _, .nil => rfl
  | _, _, .cons _ b => by
    show _ + 1 = _ + 1
    rw [wellAll_len b]
theorem well_list {P : Params} {h : Heap} {v : Value} {ds : List WData} (x : Well P h v (.list ds)) : ∃ (a : Addr) (vs : List Value), v = .ref a ∧ h.get? a = some { cls := .type "list", data := .seq vs.toArray } ∧ WellAll P h vs ds := by
  cases x with
  | list ho hall => exact ⟨_, _, rfl, ho, hall⟩
theorem well_tuple {P : Params} {h : Heap} {v : Value} {ds : List WData} (x : Well P h v (.tuple ds)) : ∃ (a : Addr) (vs : List Value), v = .ref a ∧ h.get? a = some { cls := .type "tuple", data := .seq vs.toArray } ∧ WellAll P h vs ds := by
  cases x with
  | tuple ho hall => exact ⟨_, _, rfl, ho, hall⟩
theorem well_cons {P : Params} {h : Heap} {us : List Value} {d : WData} {ds : List WData} (x : WellAll P h us (d :: ds)) : ∃ (v : Value) (vs : List Value), us = v :: vs ∧ Well P h v d ∧ WellAll P h vs ds := by
  cases x with
  | cons a b => exact ⟨_, _, rfl, a, b⟩
theorem line_of {n : Nat} (h : n ≤ 1048576) : n ≤ sizeLine := Nat.le_trans h (by decide)
section
variable {P : Params} {h : Heap}
mutual
theorem area_one : ∀ (d : WData) (v : Value), Well P h v d → plW d = true → d.weight ≤ 1048576 → ∃ A : List Addr, OkU A v ∧ ∀ a ∈ A, ArgOb h A a
  | .none, _, x, _, _ => by
    cases x
    exact ⟨[], trivial, fun a m => absurd m (by simp)⟩
  | .bool b, _, x, _, _ => by
    cases x
    exact ⟨[], trivial, fun a m => absurd m (by simp)⟩
  | .int i, _, x, _, _ => by
    cases x
    exact ⟨[], trivial, fun a m => absurd m (by simp)⟩
  | .str s, _, x, _, _ => by
    cases x
    exact ⟨[], trivial, fun a m => absurd m (by simp)⟩
  | .bytes b, _, x, _, _ => by
    cases x
    exact ⟨[], trivial, fun a m => absurd m (by simp)⟩
  | .list ds, _, x, p, z => by
    obtain ⟨a, vs, rfl, ho, hall⟩ := well_list x
    have z2 : WData.weightAll ds ≤ 1048576 := z
    obtain ⟨A, h1, h2⟩ := area_all ds _ hall p fun d hd => Nat.le_trans (weight_mem hd) z2
    have k : ∀ b ∈ A, b ∈ a :: A := fun b hb => List.mem_cons_of_mem _ hb
    refine ⟨a :: A, List.mem_cons_self .., fun b hb => ?_⟩
    rcases List.mem_cons.mp hb with e | m
    · rw [e]
      exact ⟨vs, line_of (by rw [wellAll_len hall]; exact Nat.le_trans (PySem.W.length_le_weightAllW ds) z2), fun u hu => (h1 u hu).mono k, .inl ho⟩
    · exact (h2 b m).mono k
  | .tuple ds, _, x, p, z => by
    obtain ⟨a, vs, rfl, ho, hall⟩ := well_tuple x
    have z2 : WData.weightAll ds ≤ 1048576 := z
    obtain ⟨A, h1, h2⟩ := area_all ds _ hall p fun d hd => Nat.le_trans (weight_mem hd) z2
    have k : ∀ b ∈ A, b ∈ a :: A := fun b hb => List.mem_cons_of_mem _ hb
    refine ⟨a :: A, List.mem_cons_self .., fun b hb => ?_⟩
    rcases List.mem_cons.mp hb with e | m
    · rw [e]
      exact ⟨vs, line_of (by rw [wellAll_len hall]; exact Nat.le_trans (PySem.W.length_le_weightAllW ds) z2), fun u hu => (h1 u hu).mono k, .inr ho⟩
    · exact (h2 b m).mono k
  | .float _, _, _, p, _ => Bool.noConfusion (show false = true from p)
  | .dict _, _, _, p, _ => Bool.noConfusion (show false = true from p)
  | .bytearray _, _, _, p, _ => Bool.noConfusion (show false = true from p)
  | .set _, _, _, p, _ => Bool.noConfusion (show false = true from p)
  | .frozenset _, _, _, p, _ => Bool.noConfusion (show false = true from p)
  | .obj _ _, _, _, p, _ => Bool.noConfusion (show false = true from p)
theorem area_all : ∀ (ds : List WData) (vs : List Value), WellAll P h vs ds → plWs ds = true → (∀ d ∈ ds, d.weight ≤ 1048576) → ∃ A : List Addr, (∀ u ∈ vs, OkU A u) ∧ ∀ a ∈ A, ArgOb h A a
  | [], _, x, _, _ => by
    cases x
    exact ⟨[], fun u m => absurd m (by simp), fun a m => absurd m (by simp)⟩
  | d :: ds, _, x, p, z => by
    obtain ⟨v, vs, rfl, x1, x2⟩ := well_cons x
    have q : plW d = true ∧ plWs ds = true := Bool.and_eq_true_iff.mp p
    obtain ⟨A, a1, a2⟩ := area_one d v x1 q.1 (z d (List.mem_cons_self ..))
    obtain ⟨B, b1, b2⟩ := area_all ds vs x2 q.2 fun e he => z e (List.mem_cons_of_mem _ he)
    have kA : ∀ b ∈ A, b ∈ A ++ B := fun b hb => List.mem_append.mpr (.inl hb)
    have kB : ∀ b ∈ B, b ∈ A ++ B := fun b hb => List.mem_append.mpr (.inr hb)
    refine ⟨A ++ B, fun u hu => ?_, fun b hb => ?_⟩
    · rcases List.mem_cons.mp hu with e | m
      · rw [e]
        exact a1.mono kA
      · exact (b1 u m).mono kB
    · rcases List.mem_append.mp hb with m | m
      · exact (a2 b m).mono kA
      · exact (b2 b m).mono kB
end
end
/-- what is tracked of an argument's object -/
def hoOf (o : Obj) : Option HO := match o.data with
  | .seq vs _ => if (o.cls == Value.type "list") = true then some (.frz o (.lst (vs.toList.map toV))) else some (.frz o (.tup (vs.toList.map toV)))
  | _ => none
def argH (K : PySem.W.Frag) (h : Heap) (A : List Addr) : Hp := fun b => if b ∈ A then (if (K.lookup b).isNone = true then (h.get? b).bind hoOf else none) else none
/-- nothing is tracked but what is known to the object -/
def OnlyF (H : Hp) : Prop := ∀ b, H b = none ∨ ∃ o u, H b = some (.frz o u)
theorem hoOf_lst (vs : List Value) : hoOf { cls := .type "list", data := .seq vs.toArray } = some (.frz { cls := .type "list", data := .seq vs.toArray } (.lst (vs.map toV))) := by
  show (if (Value.type "list" == Value.type "list") = true then some (HO.frz { cls := .type "list", data := .seq vs.toArray } (.lst (vs.toArray.toList.map toV))) else some (HO.frz { cls := .type "list", data := .seq vs.toArray } (.tup (vs.toArray.toList.map toV)))) = _
  rw [if_pos (beq_self_eq_true _)]
theorem hoOf_tup (vs : List Value) : hoOf { cls := .type "tuple", data := .seq vs.toArray } = some (.frz { cls := .type "tuple", data := .seq vs.toArray } (.tup (vs.map toV))) := by
  show (if (Value.type "tuple" == Value.type "list") = true then some (HO.frz { cls := .type "tuple", data := .seq vs.toArray } (.lst (vs.toArray.toList.map toV))) else some (HO.frz { cls := .type "tuple", data := .seq vs.toArray } (.tup (vs.toArray.toList.map toV)))) = _
  rw [if_neg (by decide)]
section
variable {P : Program} {w : World} {K : PySem.W.Frag} {h : Heap} {A : List Addr}
theorem argH_at {b : Addr} {o : Obj} (hb : b ∈ A) (hk : K.lookup b = none) (e : h.get? b = some o) : argH K h A b = hoOf o := by
  unfold argH
  rw [if_pos hb, hk, if_pos (show (none : Option Obj).isNone = true from rfl), e] <;> rfl
theorem of_argH {b : Addr} {u : HO} (q : argH K h A b = some u) : b ∈ A ∧ K.lookup b = none := by
  unfold argH at q
  by_cases hb : b ∈ A
  · rw [if_pos hb] at q
    cases hk : K.lookup b with
    | none => exact ⟨hb, rfl⟩
    | some o =>
      rw [hk, if_neg (by simp)] at q
      cases q
  · rw [if_neg hb] at q
    cases q
/-- what stands tracked -/
theorem argH_is (ar : ∀ a ∈ A, ArgOb h A a) {b : Addr} {u : HO} (q : argH K h A b = some u) : K.lookup b = none ∧ ∃ vs : List Value, vs.length ≤ sizeLine ∧ (∀ u ∈ vs, OkU A u) ∧
    ((h.get? b = some { cls := .type "list", data := .seq vs.toArray } ∧ u = .frz { cls := .type "list", data := .seq vs.toArray } (.lst (vs.map toV))) ∨
     (h.get? b = some { cls := .type "tuple", data := .seq vs.toArray } ∧ u = .frz { cls := .type "tuple", data := .seq vs.toArray } (.tup (vs.map toV)))) := by
  obtain ⟨hb, hk⟩ := of_argH q
  obtain ⟨vs, h1, h2, h3⟩ := ar b hb
  refine ⟨hk, vs, h1, h2, ?_⟩
  rcases h3 with e | e
  · rw [argH_at hb hk e, hoOf_lst] at q
    exact .inl ⟨e, (Option.some.inj q).symm⟩
  · rw [argH_at hb hk e, hoOf_tup] at q
    exact .inr ⟨e, (Option.some.inj q).symm⟩
theorem argH_only (ar : ∀ a ∈ A, ArgOb h A a) : OnlyF (argH K h A) := fun b => by
  cases q : argH K h A b with
  | none => exact .inl rfl
  | some u =>
    obtain ⟨_, vs, _, _, ⟨_, e⟩ | ⟨_, e⟩⟩ := argH_is ar q
    · exact .inr ⟨_, _, by rw [e]⟩
    · exact .inr ⟨_, _, by rw [e]⟩
theorem argH_ok (ar : ∀ a ∈ A, ArgOb h A a) : HOk P w (argH K h A) h := fun b u q => by
  obtain ⟨_, vs, h1, h2, ⟨e, rfl⟩ | ⟨e, rfl⟩⟩ := argH_is ar q
  · exact ⟨e, by rw [List.length_map]; exact h1, vs, _, vals_toV h2, e⟩
  · exact ⟨e, by rw [List.length_map]; exact h1, vs, vals_toV h2, _, e, rfl, _, rfl⟩
theorem seq_inj {c c' : Value} {vs us : List Value} (e : (some { cls := c, data := .seq vs.toArray } : Option Obj) = some { cls := c', data := .seq us.toArray }) : c = c' ∧ vs = us := by
  have e1 := Option.some.inj e
  have e2 : c = c' := congrArg Obj.cls e1
  have e3 : Data.seq vs.toArray = Data.seq us.toArray := congrArg Obj.data e1
  injection e3 with e4
  refine ⟨e2, ?_⟩
  have e5 := congrArg Array.toList e4
  simpa using e5
/-- a list argument -/
theorem argL (KX : K.In h) (ar : ∀ a ∈ A, ArgOb h A a) {a : Addr} {vs : List Value} (ha : a ∈ A) (e : h.get? a = some { cls := .type "list", data := .seq vs.toArray }) : (∀ u ∈ vs, OkU A u) ∧ SqL K (argH K h A) a (vs.map toV) := by
  obtain ⟨us, h1, h2, h3⟩ := ar a ha
  have hu : us = vs := by
    rcases h3 with q | q
    · rw [e] at q
      exact (seq_inj q).2.symm
    · rw [e] at q
      exact absurd (Value.type.inj (seq_inj q).1) (by decide)
  subst hu
  refine ⟨h2, ?_⟩
  cases hk : K.lookup a with
  | none => exact .inl (.inr ⟨_, by rw [argH_at ha hk e, hoOf_lst]⟩)
  | some o =>
    have e2 := KX a o hk
    rw [e] at e2
    obtain rfl := Option.some.inj e2
    exact .inr ⟨_, us.toArray, _, hk, rfl, rfl, rfl, by rw [List.size_toArray]; exact h1, by simpa using vals_toV h2⟩
theorem argT (KX : K.In h) (ar : ∀ a ∈ A, ArgOb h A a) {a : Addr} {vs : List Value} (ha : a ∈ A) (e : h.get? a = some { cls := .type "tuple", data := .seq vs.toArray }) : (∀ u ∈ vs, OkU A u) ∧ SqT K (argH K h A) a (vs.map toV) := by
  obtain ⟨us, h1, h2, h3⟩ := ar a ha
  have hu : us = vs := by
    rcases h3 with q | q
    · rw [e] at q
      exact absurd (Value.type.inj (seq_inj q).1) (by decide)
    · rw [e] at q
      exact (seq_inj q).2.symm
  subst hu
  refine ⟨h2, ?_⟩
  cases hk : K.lookup a with
  | none => exact .inl (.inr ⟨_, by rw [argH_at ha hk e, hoOf_tup]⟩)
  | some o =>
    have e2 := KX a o hk
    rw [e] at e2
    obtain rfl := Option.some.inj e2
    exact .inr ⟨_, us.toArray, _, hk, rfl, rfl, by rw [List.size_toArray]; exact h1, by simpa using vals_toV h2⟩
mutual
theorem dw_one {Pm : Params} (KX : K.In h) (ar : ∀ a ∈ A, ArgOb h A a) : ∀ (d : WData) (v : Value), Well Pm h v d → plW d = true → OkU A v → Dw K (argH K h A) (toV v) d
  | .none, _, x, _, _ => by
    cases x
    exact .non
  | .bool b, _, x, _, _ => by
    cases x
    exact .bl b
  | .int i, _, x, _, _ => by
    cases x
    exact .int i
  | .str s, _, x, _, _ => by
    cases x
    exact .str s
  | .bytes b, _, x, _, _ => by
    cases x
    have z := Dw.byt (K := K) (H := argH K h A) b.toArray
    exact z
  | .list ds, _, x, p, hu => by
    obtain ⟨a, vs, rfl, ho, hall⟩ := well_list x
    obtain ⟨h2, hs⟩ := argL KX ar hu ho
    exact .lst hs (dw_all KX ar ds _ hall p h2)
  | .tuple ds, _, x, p, hu => by
    obtain ⟨a, vs, rfl, ho, hall⟩ := well_tuple x
    obtain ⟨h2, hs⟩ := argT KX ar hu ho
    exact .tup hs (dw_all KX ar ds _ hall p h2)
  | .float _, _, _, p, _ => Bool.noConfusion (show false = true from p)
  | .dict _, _, _, p, _ => Bool.noConfusion (show false = true from p)
  | .bytearray _, _, _, p, _ => Bool.noConfusion (show false = true from p)
  | .set _, _, _, p, _ => Bool.noConfusion (show false = true from p)
  | .frozenset _, _, _, p, _ => Bool.noConfusion (show false = true from p)
  | .obj _ _, _, _, p, _ => Bool.noConfusion (show false = true from p)
theorem dw_all {Pm : Params} (KX : K.In h) (ar : ∀ a ∈ A, ArgOb h A a) : ∀ (ds : List WData) (vs : List Value), WellAll Pm h vs ds → plWs ds = true → (∀ u ∈ vs, OkU A u) → DwAll K (argH K h A) (vs.map toV) ds
  | [], _, x, _, _ => by
    cases x
    exact .nil
  | d :: ds, _, x, p, hu => by
    obtain ⟨v, vs, rfl, x1, x2⟩ := well_cons x
    have q : plW d = true ∧ plWs ds = true := Bool.and_eq_true_iff.mp p
    exact .cons (dw_one KX ar d v x1 q.1 (hu _ (List.mem_cons_self ..))) (dw_all KX ar ds vs x2 q.2 fun u m => hu u (List.mem_cons_of_mem _ m))
end
end
/-! ### the call -/
theorem spec_call {P : Program} {w : World} {K : PySem.W.Frag} {mg mb : Str → Option Value} {CX : CXT} {k : Nat} {fa : Addr} {fd : FuncData} {ps : List Str} {sp : Sp} {s₁ : Shared} {vals : List Value} {ds : List WData} {R : PySem.W.WRecords} {cl : Str → Option Addr} {d0 : WData}
    (KX : K.In s₁.heap) (hns : s₁.heap.Ns mainGlobals mg) (hb : s₁.heap.Ns builtinsNs mb) (hbb : ∀ x : Str, x ≠ "__name__" → mb x = bootBuiltins x) (hlim : s₁.heap.NoLimit) (hg : s₁.gens = #[])
    (hwl : WellAll w.params s₁.heap vals ds) (hpl : plWs ds = true) (hwt : ∀ d ∈ ds, d.weight ≤ 1048576) (hr : Room k callerA)
    (F : ∀ base : Heap, K.In base → base.Ns mainGlobals mg → FnOk P w K mg base CX k fa fd ps sp) (hbind : ∀ (s : Shared) (us : List Value), us.length = ps.length → BindsTo s fd ⟨us, []⟩ (ps.zip us)) (hlen : ds.length = ps.length)
    (hsp : ∀ (H : Hp) (xs : List V), OnlyF H → DwAll K H xs ds → sp xs H (fun v H' => Dw K H' v d0) fun _ _ _ => False)
    (hCX : ∀ H e s', CX [] H s₁ (fun _ _ _ => False) e s' → False) :
    codeAny (model P w) callerA (.call (.ref fa) ⟨vals, []⟩) (fun r s' => ∃ u as, r = .ok (.ret u) ∧ ReadsW R cl s'.heap u d0 as ∧ OldK s₁.heap s'.heap ∧ s'.os = s₁.os ∧ AllBare s'.gens) s₁ := by
  obtain ⟨A, ho, ar⟩ := area_all ds vals hwl hpl hwt
  have hO : OnlyF (argH K s₁.heap A) := argH_only ar
  have hok : HOk P w (argH K s₁.heap A) s₁.heap := argH_ok ar
  have hS := dw_all KX ar ds vals hwl hpl ho
  have hV := vals_toV ho
  have hK : ∀ b u, argH K s₁.heap A b = some u → K.lookup b = none := fun b u q => (argH_is ar q).1
  have noA : ∀ {b : Addr} {o : Obj} {es : Array DictEntry} {ep : Nat}, s₁.heap.get? b = some o → o.data = .dict es ep → argH K s₁.heap A b = none := fun {b o es ep} e d => by
    cases q : argH K s₁.heap A b with
    | none => rfl
    | some u =>
      obtain ⟨_, vs, _, _, ⟨e2, _⟩ | ⟨e2, _⟩⟩ := argH_is ar q
      · rw [e2] at e
        cases e
        have d' : Data.seq vs.toArray _ = Data.dict es ep := d
        cases d'
      · rw [e2] at e
        cases e
        have d' : Data.seq vs.toArray _ = Data.dict es ep := d
        cases d'
  generalize argH K s₁.heap A = H at hO hok hS hK noA
  have base_of : ∀ {b : Addr} {o : Obj}, s₁.heap.get? b = some o → H b = none → (hidT s₁.heap H).get? b = some o := fun e n => hidT_get e n
  have nsK : ∀ {b : Addr} {m : Str → Option Value}, s₁.heap.Ns b m → (hidT s₁.heap H).Ns b m := fun {b m} ⟨o, es, ep, e, d, r⟩ => ⟨o, es, ep, base_of e (noA e d), d, r⟩
  have nK : ∀ b o, K.lookup b = some o → H b = none := fun b o e => by
    cases q : H b with
    | none => rfl
    | some u =>
      rw [hK b u q] at e
      cases e
  have hKb : K.In (hidT s₁.heap H) := fun b o e => base_of (KX b o e) (nK b o e)
  have hM : Mod K mg (hidT s₁.heap H) := ⟨hKb, nsK hns, ⟨mb, nsK hb, hbb⟩, let ⟨mc, h1, h2⟩ := hlim; ⟨mc, nsK h1, h2⟩⟩
  have e0 : Env0 P w K mg (hidT s₁.heap H) callerA [] s₁ H := ⟨rfl, hM, fun b o e => of_hidT e, Nat.le_of_eq (hidT_size _ _), trivial, fun b hb => absurd (show b ∈ ([] : List Addr) from hb) (by simp), hok, .of_eq hg⟩
  have hl : vals.length = ps.length := by rw [wellAll_len hwl]; exact hlen
  refine codeAny_mono ((F _ hKb (nsK hns)).run callerA [] s₁ H ⟨vals, []⟩ vals (vals.map toV) _ _ hr e0 (hbind s₁ vals hl) hV (hsp H _ hO hS)) fun r s' x => ?_
  cases r with
  | error e => exact (hCX H e s' x).elim
  | ok fl =>
    cases fl with
    | next => exact False.elim x
    | brk => exact False.elim x
    | cont => exact False.elim x
    | ret u =>
      obtain ⟨v, H', os, bare, un, hok', r', q⟩ := x
      have kept : ∀ b o, s₁.heap.get? b = some o → s'.heap.get? b = some o := fun b o e => by
        cases q2 : H b with
        | none => exact un.keep b o e q2 (by intro z; exact absurd (show b ∈ ([] : List Addr) from z) (by simp)) (by simp)
        | some u2 =>
          rcases hO b with z | ⟨ob, u3, z⟩
          · rw [q2] at z
            cases z
          · have z2 := un.frzs b ob _ z
            obtain ⟨e1, _⟩ := hok b _ z
            obtain ⟨e2, _⟩ := hok' b _ z2
            rw [e] at e1
            cases e1
            exact e2
      have KX' : K.In s'.heap := fun b o e => kept b o (KX b o e)
      obtain ⟨as, hrd⟩ := Dw.reads (R := R) (cl := cl) hok' KX' d0 v u q r'
      exact ⟨u, as, rfl, hrd, OldK.of_keep kept, os, bare⟩
/-! ### the row -/
theorem layable_weight {ds : List WData} (h : WData.layableAll ds = true) : ∀ d ∈ ds, d.weight ≤ 1048576 := fun d hd =>
  (PySem.W.layableW_iff.mp (List.all_eq_true.mp h d hd)).2.2
theorem encAll_len : ∀ (cs : List Codec) (a : Codec.denoteAll cs), (Codec.encAll cs a).length = cs.length
  | [], _ => rfl
  | c :: cs, a => by
    show (Codec.encAll cs a.2).length + 1 = cs.length + 1
    rw [encAll_len cs a.2]
/-- the goal that k_headS leaves (case hc), from the promise of the row's def: whatever the arguments that the codecs let and the row asks for, the def gives what stands for enc (f ..) -/
theorem walk_spec {r : OpenSpec} {k : Nat} {q : Program} {loose : List Str} {XP : (Str → Option Value) → Heap → Prop} {YP : World → Heap → Prop} {d : DefRec} {K : Params → PySem.W.Frag} {CX : World → CXT} {ps : List Str} {sp : World → Sp}
    (hwell : r.wellSaid = true) (hdf : d.params.defaults = []) (hlen : r.args.length = ps.length) (hr : Room k callerA)
    (hY : ∀ (w : World) (h : Heap), YP w h → (K w.params).In h)
    (F : ∀ (w : World) (mg : Str → Option Value) (fa : Addr) (h : Heap), YP w h → (K w.params).In h → h.Ns mainGlobals mg → mg d.name = some (.ref fa) →
      ∃ fd : FuncData, (∀ (s : Shared) (us : List Value), us.length = ps.length → BindsTo s fd ⟨us, []⟩ (ps.zip us)) ∧
        ∀ base : Heap, (K w.params).In base → base.Ns mainGlobals mg → FnOk r.prog w (K w.params) mg base (CX w) k fa fd ps (sp w))
    (hsp : ∀ (w : World) (H : Hp) (xs : List V) (a : Codec.denoteAll r.args), OnlyF H → Codec.withinAll r.args a = true → Codec.app r.args r.asked a = true → DwAll (K w.params) H xs (Codec.encAll r.args a) →
      sp w xs H (fun v H' => Dw (K w.params) H' v (r.ret.enc (Codec.app r.args r.f a))) fun _ _ _ => False)
    (hCX : ∀ (w : World) (H : Hp) (s : Shared) (e : Value) (s' : Shared), CX w [] H s (fun _ _ _ => False) e s' → False) :
    PySem.W.WalkOS q loose XP YP r d [] (fun f vs => PySem.call f vs) := by
  intro w s_0 s₁ mg mb G Y fa o pm cd doc dV kV ho hd hcd hD hmg hg args vals as hpre hlay hrd hwl hlo
  obtain ⟨a, e1, e2⟩ := PySem.W.os_pre_some hpre
  obtain ⟨e3, hwi⟩ := Codec.encAll_of_decAll r.args args a e1
  subst e3
  have KX := hY w _ Y
  obtain ⟨fd, hb, hF⟩ := F w mg fa _ Y KX G.T.g hmg
  refine PySem.W.enter_call (codeAny_mono (spec_call (R := []) (cl := classAt s_0.heap) (d0 := r.ret.enc (Codec.app r.args r.f a)) KX G.T.g G.T.b G.T.builtins G.T.nolimit hg hwl (pl_encAll _ _) (layable_weight hlay) hr hF hb (by rw [encAll_len]; exact hlen)
    (fun H xs hO hS => hsp w H xs a hO hwi e2 hS) fun H e s' => hCX w H s₁ e s') fun r' s' hq => ?_)
  obtain ⟨u, as', rfl, h1, h2, h3, h4⟩ := hq
  exact ⟨.inl ⟨u, _, as', rfl, fun _ => rfl, h1, (OpenSpec.post_iff hwell hwi _ _).mpr rfl, fun z => Bool.noConfusion (show false = true from z)⟩, h2, h3, h4⟩
/-- the same where the promise hangs on the written part alone -/
theorem walk_specK {r : OpenSpec} {k : Nat} {q : Program} {loose : List Str} {XP : (Str → Option Value) → Heap → Prop} {YP : World → Heap → Prop} {d : DefRec} {K : Params → PySem.W.Frag} {CX : CXT} {ps : List Str} {sp : PySem.W.Frag → Sp}
    (hwell : r.wellSaid = true) (hdf : d.params.defaults = []) (hlen : r.args.length = ps.length) (hr : Room k callerA)
    (hY : ∀ (w : World) (h : Heap), YP w h → (K w.params).In h)
    (F : ∀ (w : World) (mg : Str → Option Value) (fa : Addr) (h : Heap), YP w h → (K w.params).In h → h.Ns mainGlobals mg → mg d.name = some (.ref fa) →
      ∃ fd : FuncData, (∀ (s : Shared) (us : List Value), us.length = ps.length → BindsTo s fd ⟨us, []⟩ (ps.zip us)) ∧
        ∀ base : Heap, (K w.params).In base → base.Ns mainGlobals mg → FnOk r.prog w (K w.params) mg base CX k fa fd ps (sp (K w.params)))
    (hsp : ∀ (K : PySem.W.Frag) (H : Hp) (xs : List V) (a : Codec.denoteAll r.args), OnlyF H → Codec.withinAll r.args a = true → Codec.app r.args r.asked a = true → DwAll K H xs (Codec.encAll r.args a) →
      sp K xs H (fun v H' => Dw K H' v (r.ret.enc (Codec.app r.args r.f a))) fun _ _ _ => False)
    (hCX : ∀ (H : Hp) (s : Shared) (e : Value) (s' : Shared), CX [] H s (fun _ _ _ => False) e s' → False) :
    PySem.W.WalkOS q loose XP YP r d [] (fun f vs => PySem.call f vs) :=
  walk_spec (K := K) (CX := fun _ => CX) (sp := fun w => sp (K w.params)) hwell hdf hlen hr hY F (fun w H xs a h1 h2 h3 h4 => hsp (K w.params) H xs a h1 h2 h3 h4) fun _ H s e s' => hCX H s e s'
end L2
-- rests on (row put in by the clerk, for the bench that shows a file only what it spells): KE.SpHead KE.OsShapes
end
set_option Elab.async false
set_option linter.all false
set_option maxRecDepth 100000
namespace FmP
open PySem PySem.Spec PyProof.Rows L2
def top (i : Nat) : Stmt := PySem.Challenge.pw_flatmessages_s01_answers.main.body.getD i (.Pass ⟨0, 0, 0, 0⟩)
/-- a def at the top, as it stands behind the top -/
structure Gf (K : PySem.W.Frag) (mg : Str → Option Value) (x : Str) (st : Stmt) : Prop where
  ex : ∃ f fd, mg x = some (.ref f) ∧ Fun K x x st f fd
/-- an int at the top -/
def Gi (mg : Str → Option Value) (x : Str) (i : Int) : Prop := ∃ t, mg x = some (.int i t)
/-- a thing at the top that is another's -/
def Gr (mg : Str → Option Value) (x : Str) (a : Addr) : Prop := mg x = some (.ref a)
/-- a def with its promise, ready to be called -/
structure Cal (P : Program) (w : World) (K : PySem.W.Frag) (mg : Str → Option Value) (base : Heap) (k : Nat) (x : Str) (ps : List Str) (sp : Sp) : Prop where
  ex : ∃ f fd, FnOk P w K mg base CX0 k f fd ps sp ∧ mg x = some (.ref f) ∧ PySem.W.keepIn K (.ref f) = true ∧ Binds K fd ps [] ∧ ∃ (oc : Value) (od : Option Addr) (osl : Array (Option Value)), K.lookup f = some ⟨oc, od, .func fd, osl⟩
theorem cal_of {P : Program} {w : World} {K : PySem.W.Frag} {mg : Str → Option Value} {base : Heap} {k : Nat} {x : Str} {ps : List Str} {sp : Sp} {st : Stmt} {N : List Str} (G : Gf K mg x st)
    (hb : ∀ (kV doc pm : Value) (an : Option Addr) (cdv ct : Value) (us : List Value), us.length = ps.length → bindArgs (PySem.W.fnOf x x (defArgs st) (defBody st) (defScope st) .none kV doc pm an cdv ct) ⟨us, []⟩ = pure (ps.zip us))
    (S : FnScope N ps (defScope st)) (len : ∀ vs H Q E, sp vs H Q E → vs.length = ps.length)
    (hbody : ∀ (f : Addr) (cdv : Value) (A : Around) (outer : List Env) (s : Shared) (H : Hp) (vs : List V) (Q : VK) (E : XK), Room k (A.deeper (envOfC x (defScope st) s.heap.objs.size f cdv)) → sp vs H Q E →
      ∃ t, PSs (cxOf CX0 P w K mg base N x (defScope st) f cdv A outer s H E).nox (defBody st) t ∧ t { nx := fun _ H' => Q .non H', rt := Q } (start N vs) H) : Cal P w K mg base (k + 1) x ps sp := by
  obtain ⟨f, fd, hm, F⟩ := G.ex
  obtain ⟨oc, od, kV, doc, pm, an, cdv, ct, osl, _, lk, _⟩ := F.ex
  exact ⟨f, fd, F.ok S len (hbody f), hm, F.kp, F.binds hb, oc, od, osl, lk⟩
section
variable {X : Cx}
theorem pe_cal {k k' : Nat} {x : Str} {ps : List Str} {sp : Sp} {e : Expr} {es : List Expr} {t : TA} {p pos : Pos} (C : Cal X.prog X.w X.K X.mg X.base k x ps sp) (hr : Room k' X.A) (hg : Gl X x) (ha : PA X (e :: es) t) (hk : k ≤ k' := by decide)
    (h1 : (x == ("__debug__" : Str)) = false := by decide) (h2 : starEach (e :: es) X.env = (false, eval e X.env) :: starEach es X.env := by rfl) (h3 : (backTo pos (starEach es X.env)).any (·.1) = false := by rfl) : PE X (.Call (.Name x p) (e :: es) [] pos) (tCall sp [] E0 t) := by
  obtain ⟨f, fd, F, hm, kp, b, _⟩ := C.ex
  exact pe_call F (hr.mono hk) hg hm kp b .nil pass0 ha h1 h2 h3
theorem pe_cal0 {k k' : Nat} {x : Str} {ps : List Str} {sp : Sp} {p pos : Pos} (C : Cal X.prog X.w X.K X.mg X.base k x ps sp) (hr : Room k' X.A) (hg : Gl X x) (hk : k ≤ k' := by decide)
    (h1 : (x == ("__debug__" : Str)) = false := by decide) : PE X (.Call (.Name x p) [] [] pos) (tCall sp [] E0 tNil) := by
  obtain ⟨f, fd, F, hm, kp, b, _⟩ := C.ex
  exact pe_call0 F (hr.mono hk) hg hm kp b .nil pass0 h1
theorem pe_gi {x : Str} {i : Int} {pos : Pos} (g : Gi X.mg x i) (hg : Gl X x) (h1 : (x == ("__debug__" : Str)) = false := by decide) : PE X (.Name x pos) (tC (.int i)) := by
  obtain ⟨t, e⟩ := g
  exact pe_glob hg e ⟨t, rfl⟩ h1
theorem pe_gr {x : Str} {a : Addr} {pos : Pos} (g : Gr X.mg x a) (hg : Gl X x) (h1 : (x == ("__debug__" : Str)) = false := by decide) : PE X (.Name x pos) (tC (.ref a)) := pe_glob hg g rfl h1
end
/-- a class with its __init__'s promise, ready to be called -/
structure Mkr (P : Program) (w : World) (K : PySem.W.Frag) (mg : Str → Option Value) (base : Heap) (k : Nat) (x : Str) (ps : List Str) (C : Addr) (sp : Sp) : Prop where
  ex : ∃ f fd, Mk K C f ∧ FnOk P w K mg base CX0 k f fd ps sp ∧ mg x = some (.ref C) ∧ Binds K fd ps []
theorem pe_mk0 {X : Cx} {k k' : Nat} {x : Str} {ps : List Str} {C : Addr} {sp : Sp} {p pos : Pos} (M : Mkr X.prog X.w X.K X.mg X.base k x ps C sp) (hr : Room k' X.A) (hg : Gl X x) (hk : k + 1 ≤ k' := by decide)
    (h1 : (x == ("__debug__" : Str)) = false := by decide) : PE X (.Call (.Name x p) [] [] pos) (tMake C sp [] E0 tNil) := by
  obtain ⟨f, fd, mk, F, hm, b⟩ := M.ex
  exact pe_make0 mk F (hr.mono hk) hg hm b .nil pass0 h1
theorem pe_mkA {X : Cx} {k k' : Nat} {x : Str} {ps : List Str} {C : Addr} {sp : Sp} {e : Expr} {es : List Expr} {t : TA} {p pos : Pos} (M : Mkr X.prog X.w X.K X.mg X.base k x ps C sp) (hr : Room k' X.A) (hg : Gl X x) (ha : PA X (e :: es) t) (hk : k + 1 ≤ k' := by decide)
    (h1 : (x == ("__debug__" : Str)) = false := by decide) (h2 : starEach (e :: es) X.env = (false, eval e X.env) :: starEach es X.env := by rfl) (h3 : (backTo pos (starEach es X.env)).any (·.1) = false := by rfl) : PE X (.Call (.Name x p) (e :: es) [] pos) (tMake C sp [] E0 t) := by
  obtain ⟨f, fd, mk, F, hm, b⟩ := M.ex
  exact pe_make mk F (hr.mono hk) hg hm b .nil pass0 ha h1 h2 h3
theorem init_of {P : Program} {w : World} {K : PySem.W.Frag} {mg : Str → Option Value} {base : Heap} {k : Nat} {x qual : Str} {st : Stmt} {f : Addr} {fd : FuncData} {ps : List Str} {sp : Sp} {N : List Str} (G : Fun K x qual st f fd)
    (hb : ∀ (kV doc pm : Value) (an : Option Addr) (cdv ct : Value) (us : List Value), us.length = ps.length → bindArgs (PySem.W.fnOf x qual (defArgs st) (defBody st) (defScope st) .none kV doc pm an cdv ct) ⟨us, []⟩ = pure (ps.zip us))
    (S : FnScope N ps (defScope st)) (len : ∀ vs H Q E, sp vs H Q E → vs.length = ps.length)
    (hbody : ∀ (cdv : Value) (A : Around) (outer : List Env) (s : Shared) (H : Hp) (vs : List V) (Q : VK) (E : XK), Room k (A.deeper (envOfC qual (defScope st) s.heap.objs.size f cdv)) → sp vs H Q E →
      ∃ t, PSs (cxOf CX0 P w K mg base N qual (defScope st) f cdv A outer s H E).nox (defBody st) t ∧ t { nx := fun _ H' => Q .non H', rt := Q } (start N vs) H) : FnOk P w K mg base CX0 (k + 1) f fd ps sp ∧ Binds K fd ps [] :=
  ⟨G.ok S len hbody, G.binds hb⟩
/-- a pair of names as a target -/
theorem pg_pair {X : Cx} {K : PySem.W.Frag} {i j k : Nat} {x y : Str} {px py pos : Pos} (hK : X.K = K) (hc : X.calm = true) (hN : X.N.Nodup) (hi : X.N[i]? = some x) (hj : X.N[j]? = some y) (hx : L2.Loc X.env.scope x) (hy : L2.Loc X.env.scope y)
    (hf : X.fn x = true ∨ X.env.scope.names.lookup x = some .local) (hg : X.fn y = true ∨ X.env.scope.names.lookup y = some .local) : PG X (.Tuple [.Name x px, .Name y py] k pos) (gTup K 2 (gCons (gName i) (gCons (gName j) gNil))) := by
  subst hK
  exact pg_tup hc (pgs_cons (pg_name hN hi hx hf) (pgs_cons (pg_name hN hj hy hg) pgs_nil rfl) rfl) rfl rfl
theorem pe_fldK {X : Cx} {K : PySem.W.Frag} {e : Expr} {f : Str} {pos : Pos} {ta : TE} (hK : X.K = K) (he : PE X e ta) (hb : attributeBase e f X.env (eval e X.env) = eval e X.env) : PE X (.Attribute e f pos) (tFld K ta f) := by
  subst hK
  exact pe_fld he hb
/-- the bytes of a message as a list's items -/
def bv (m : Fm.Bytes) : List V := m.map fun c => V.int (c.toNat : Nat)
theorem bv_len (m : Fm.Bytes) : (bv m).length = m.length := List.length_map _
theorem bv_get {m : Fm.Bytes} {i : Nat} (h : i < m.length) : (bv m)[i]? = some (.int (FmM.bt m i : Nat)) := by
  unfold bv
  rw [List.getElem?_map, FmM.bt_get h]
  rfl
theorem bv_at {m : Fm.Bytes} {z : Int} {i : Nat} (e : z = (i : Int)) (h : i < m.length) : atI (bv m) z = some (.int (FmM.bt m i : Nat)) := at_of e (bv_get h)
def nv (l : List Nat) : List V := l.map fun n => V.int (n : Nat)
theorem nv_len (l : List Nat) : (nv l).length = l.length := List.length_map _
end FmP
set_option Elab.async false
set_option linter.all false
set_option maxRecDepth 100000
namespace FmP
open PySem PySem.Spec PyProof.Rows L2
theorem same_upd {H H' : Hp} {p : Addr} {o : HO} (s : Same H H') (h : H p = none) : Same H (upd H' p o) := fun b u e => by
  rw [upd_ne (ne_of_none e h)]
  exact s b u e
theorem Same.tup {K : PySem.W.Frag} {H H' : Hp} {a : Addr} {xs : List V} (e : Same H H') (h : SqT K H a xs) : SqT K H' a xs := by
  rcases h with (h | ⟨o, h⟩) | h
  · exact .inl (.inl (e _ _ h))
  · exact .inl (.inr ⟨o, e _ _ h⟩)
  · exact .inr h
theorem same_refl {H : Hp} : Same H H := fun _ _ h => h
theorem take_snoc {α : Type} {l : List α} {i : Nat} {x : α} (h : l[i]? = some x) : l.take (i + 1) = l.take i ++ [x] := by
  rw [List.take_succ, h]
  rfl
/-- what a new list leaves behind -/
def newL (xs : List V) (H : Hp) (Q : VK) : Prop := ∀ (H' : Hp) (p : Addr), H p = none → H' p = some (.lst xs) → Same H H' → Q (.ref p) H'
theorem newL.at {xs ys : List V} {H : Hp} {Q : VK} {p : Addr} (k : newL xs H Q) (h : H p = none) (e : ys = xs) : Q (.ref p) (upd H p (.lst ys)) := by
  rw [e]
  exact k _ p h upd_same (same_upd same_refl h)
theorem newL.at' {xs ys : List V} {H H1 : Hp} {Q : VK} {p : Addr} (k : newL xs H Q) (s : Same H H1) (h : H1 p = none) (e : ys = xs) : Q (.ref p) (upd H1 p (.lst ys)) := by
  rw [e]
  exact k _ p (s.free h) upd_same (same_upd s (s.free h))
section
variable {te : TE} {vs : List Nat} {σ : L2.St} {H : Hp} {D : Addr} {Qd : Hp → Prop} {ys : List V} {j : Nat}
/-- a comprehension over a range: each turn gives the list's item at its place, and takes nothing away -/
theorem lcR {lo : Int} {n : Nat} (hD : H D = none) (hl : ys.length = n) (hz : n ≤ sizeLine) (hw : ∀ v, wipe ((wipe σ vs).set j (some v)) vs = wipe σ vs)
    (turn : ∀ (i : Nat) (y : V) (H' : Hp), ys[i]? = some y → Same H H' → ∀ R : VK, (∀ H'', Same H' H'' → R y H'') → te ((wipe σ vs).set j (some (.int (lo + i)))) H' R)
    (k : ∀ H', H' D = some (.lst ys) → Same H H' → Qd H') :
    ∃ W : Nat → Nat → Hp → Prop, (∃ m, W 0 m (upd H D (.lst []))) ∧ ∀ i m H, W i m H →
      ((Itr lo n).stop i H ∧ Qd H) ∨ ((Itr lo n).go i H ∧ ∃ Nx : Hp → Prop, (∀ H', Nx H' → ∃ m', m' < m ∧ W (i + 1) m' H') ∧ ∀ x H', (Itr lo n).yld i H x H' → gName j x (wipe σ vs) H' fun σ2 H2 => wipe σ2 vs = wipe σ vs ∧ tYes σ2 H2 fun b H3 =>
        if b = true then te σ2 H3 fun y H4 => ∃ acc, H4 D = some (.lst acc) ∧ acc.length < sizeLine ∧ Nx (upd H4 D (.lst (acc ++ [y]))) else Nx H3) := by
  subst hl
  refine lc_range (fun i H' => H' D = some (.lst (ys.take i)) ∧ Same H H') ⟨upd_same, same_upd same_refl hD⟩ ?_ ?_
  · rintro i H' hi ⟨h1, s⟩
    have e : ys[i]? = some ys[i] := List.getElem?_eq_getElem hi
    refine ⟨hw _, turn i _ H' e s _ fun H'' s' => ⟨_, s' _ _ h1, ?_, ?_, ?_⟩⟩
    · rw [List.length_take]; omega
    · rw [upd_same, take_snoc e]
    · exact same_upd (s.trans s') hD
  · rintro H' ⟨h1, s⟩
    exact k H' (by rw [List.take_length] at h1; exact h1) s
/-- the same over a list -/
theorem lcL {K : PySem.W.Frag} {a : Addr} {xs : List V} (hD : H D = none) (hS : SqL K H a xs) (hl : ys.length = xs.length) (hz : xs.length ≤ sizeLine) (hw : ∀ v, wipe ((wipe σ vs).set j (some v)) vs = wipe σ vs)
    (turn : ∀ (i : Nat) (x y : V) (H' : Hp), xs[i]? = some x → ys[i]? = some y → Same H H' → ∀ R : VK, (∀ H'', Same H' H'' → R y H'') → te ((wipe σ vs).set j (some x)) H' R)
    (k : ∀ H', H' D = some (.lst ys) → Same H H' → Qd H') :
    ∃ W : Nat → Nat → Hp → Prop, (∃ m, W 0 m (upd H D (.lst []))) ∧ ∀ i m H, W i m H →
      ((Itl K a).stop i H ∧ Qd H) ∨ ((Itl K a).go i H ∧ ∃ Nx : Hp → Prop, (∀ H', Nx H' → ∃ m', m' < m ∧ W (i + 1) m' H') ∧ ∀ x H', (Itl K a).yld i H x H' → gName j x (wipe σ vs) H' fun σ2 H2 => wipe σ2 vs = wipe σ vs ∧ tYes σ2 H2 fun b H3 =>
        if b = true then te σ2 H3 fun y H4 => ∃ acc, H4 D = some (.lst acc) ∧ acc.length < sizeLine ∧ Nx (upd H4 D (.lst (acc ++ [y]))) else Nx H3) := by
  refine lc_list (xs := xs) (fun i H' => H' D = some (.lst (ys.take i)) ∧ Same H H') ⟨upd_same, same_upd same_refl hD⟩ (fun i H' _ h => h.2.seq hS) ?_ ?_
  · rintro i x H' hi ⟨h1, s⟩
    have hlt : i < ys.length := by rw [hl]; exact (List.getElem?_eq_some_iff.mp hi).1
    have e : ys[i]? = some ys[i] := List.getElem?_eq_getElem hlt
    refine ⟨hw _, turn i x _ H' hi e s _ fun H'' s' => ⟨_, s' _ _ h1, ?_, ?_, ?_⟩⟩
    · rw [List.length_take]; omega
    · rw [upd_same, take_snoc e]
    · exact same_upd (s.trans s') hD
  · rintro H' ⟨h1, s⟩
    exact k H' (by rw [← hl, List.take_length] at h1; exact h1) s
/-- the same over two lists side by side -/
theorem lcZ {K : PySem.W.Frag} {a b : Addr} {xs zs : List V} {j2 : Nat} (hD : H D = none) (hS : SqL K H a xs) (hT : SqL K H b zs) (hl : ys.length = min xs.length zs.length) (hz : ys.length ≤ sizeLine)
    (hw : ∀ v u, wipe (((wipe σ vs).set j (some v)).set j2 (some u)) vs = wipe σ vs)
    (turn : ∀ (i : Nat) (x z y : V) (H' : Hp), xs[i]? = some x → zs[i]? = some z → ys[i]? = some y → Same H H' → ∀ R : VK, (∀ H'', Same H' H'' → R y H'') → te (((wipe σ vs).set j (some x)).set j2 (some z)) H' R)
    (k : ∀ H', H' D = some (.lst ys) → Same H H' → Qd H') :
    ∃ W : Nat → Nat → Hp → Prop, (∃ m, W 0 m (upd H D (.lst []))) ∧ ∀ i m H, W i m H →
      ((Itz K a b).stop i H ∧ Qd H) ∨ ((Itz K a b).go i H ∧ ∃ Nx : Hp → Prop, (∀ H', Nx H' → ∃ m', m' < m ∧ W (i + 1) m' H') ∧ ∀ x H', (Itz K a b).yld i H x H' → gTup K 2 (gCons (gName j) (gCons (gName j2) gNil)) x (wipe σ vs) H' fun σ2 H2 => wipe σ2 vs = wipe σ vs ∧ tYes σ2 H2 fun b H3 =>
        if b = true then te σ2 H3 fun y H4 => ∃ acc, H4 D = some (.lst acc) ∧ acc.length < sizeLine ∧ Nx (upd H4 D (.lst (acc ++ [y]))) else Nx H3) := by
  refine ⟨fun i m H' => m = ys.length - i ∧ i ≤ ys.length ∧ H' D = some (.lst (ys.take i)) ∧ Same H H', ⟨ys.length, by simp, Nat.zero_le _, upd_same, same_upd same_refl hD⟩, ?_⟩
  rintro i m H' ⟨rfl, hi, h1, s⟩
  have q1 := s.seq hS
  have q2 := s.seq hT
  by_cases hlt : i < ys.length
  · have l1 : i < xs.length := by omega
    have l2 : i < zs.length := by omega
    have e1 : xs[i]? = some xs[i] := List.getElem?_eq_getElem l1
    have e2 : zs[i]? = some zs[i] := List.getElem?_eq_getElem l2
    have e : ys[i]? = some ys[i] := List.getElem?_eq_getElem hlt
    refine .inr ⟨⟨xs, zs, _, _, q1, q2, e1, e2⟩, fun H'' => H'' D = some (.lst (ys.take (i + 1))) ∧ Same H H'', fun H'' p' => ⟨ys.length - (i + 1), by omega, rfl, hlt, p'.1, p'.2⟩, fun x H'' y => ?_⟩
    obtain ⟨T, x1, y1, rfl, hT0, rfl, g1, g2⟩ := y
    have f1 := (g1 xs q1).symm.trans e1
    have f2 := (g2 zs q2).symm.trans e2
    cases f1
    cases f2
    have nDT : D ≠ T := ne_of_none h1 hT0
    have s2 : Same H' (upd H' T (.tup [xs[i], zs[i]])) := same_upd same_refl hT0
    refine ⟨T, _, rfl, SqT.of upd_same, rfl, _, _, rfl, _, _, rfl, rfl, hw _ _, turn i _ _ _ _ e1 e2 e (s.trans s2) _ fun H3 s' => ⟨ys.take i, ?_, ?_, ?_, ?_⟩⟩
    · exact s' _ _ (by rw [upd_ne nDT]; exact h1)
    · rw [List.length_take]; omega
    · rw [upd_same, take_snoc e]
    · exact same_upd ((s.trans s2).trans s') hD
  · have e : i = ys.length := by omega
    subst e
    refine .inl ⟨⟨xs, zs, q1, q2, by omega⟩, k H' (by rw [List.take_length] at h1; exact h1) s⟩
end
end FmP
set_option Elab.async false
set_option linter.all false
set_option maxRecDepth 100000
namespace FmP
open PySem PySem.Spec PyProof.Rows L2
/-! ### a dict of ints that stands at the top -/
inductive Ents : List DictEntry → List (Int × Int) → Prop
  | nil : Ents [] []
  | cons {h k v : Int} {t u : Tok} {es : List DictEntry} {kvs : List (Int × Int)} : h = hashInt k → Ents es kvs → Ents (⟨h, .int k t, .int v u⟩ :: es) ((k, v) :: kvs)
def KD (K : PySem.W.Frag) (a : Addr) (kvs : List (Int × Int)) : Prop := ∃ (es : Array DictEntry) (n : Nat), K.lookup a = some { cls := .type "dict", data := .dict es n } ∧ Ents es.toList kvs ∧ (kvs.map (·.1)).Nodup
def atD (kvs : List (Int × Int)) (k : Int) : Option Int := (kvs.find? fun kv => decide (kv.1 = k)).map (·.2)
theorem Ents.keys {P : Program} {w : World} : ∀ {es : List DictEntry} {kvs : List (Int × Int)}, Ents es kvs → ∀ e ∈ es, ∃ k, (mixKind P w).is k e.key = true ∧ e.hash = (mixKind P w).hash k
  | _, _, .cons (k := k) (t := t) h r, e, m => by
    rcases List.mem_cons.mp m with rfl | m
    · exact ⟨.inl k, mixKind_int P w k t, h⟩
    · exact r.keys e m
theorem Ents.pairs {P : Program} {w : World} : ∀ {es : List DictEntry} {kvs : List (Int × Int)}, Ents es kvs → ∃ vs : List (Key × Value), Pairs (mixKind P w) es vs ∧ vs.map (·.1) = kvs.map (fun kv => (Sum.inl kv.1 : Key)) ∧
    ∀ k v, atD kvs k = some v → ∃ u, valueAt vs (.inl k) = some (.int v u)
  | _, _, .nil => ⟨[], .nil, rfl, fun k v e => by cases e⟩
  | _, _, .cons (k := k) (v := v) (t := t) (u := u) (es := es) (kvs := kvs) h r => by
    obtain ⟨vs, h1, h2, h3⟩ := r.pairs (P := P) (w := w)
    refine ⟨(.inl k, .int v u) :: vs, .cons (mixKind_int P w k t) rfl h1, by rw [List.map_cons, List.map_cons, h2], fun j y e => ?_⟩
    unfold atD at e
    rw [List.find?_cons] at e
    unfold valueAt
    rw [List.find?_cons]
    by_cases q : k = j
    · subst q
      rw [decide_eq_true rfl] at e
      rw [decide_eq_true rfl]
      cases e
      exact ⟨u, rfl⟩
    · have q2 : ¬ (Sum.inl k : Key) = .inl j := fun z => q (Sum.inl.inj z)
      rw [decide_eq_false q] at e
      rw [decide_eq_false q2]
      exact h3 j y e
theorem nodup_inl {l : List Int} (h : l.Nodup) : (l.map (fun k => (Sum.inl k : Key))).Nodup := by
  induction l with
  | nil => simp
  | cons a l ih =>
    rw [List.nodup_cons] at h
    rw [List.map_cons, List.nodup_cons]
    refine ⟨fun m => ?_, ih h.2⟩
    obtain ⟨b, hb, e⟩ := List.mem_map.mp m
    cases e
    exact h.1 hb
theorem KD.dictOf {P : Program} {w : World} {K : PySem.W.Frag} {h : Heap} {a : Addr} {kvs : List (Int × Int)} (d : KD K a kvs) (X : K.In h) : ∃ vs : List (Key × Value), h.DictOf (mixKind P w) a vs ∧ ∀ k v, atD kvs k = some v → ∃ u, valueAt vs (.inl k) = some (.int v u) := by
  obtain ⟨es, n, hl, he, hn⟩ := d
  obtain ⟨vs, h1, h2, h3⟩ := he.pairs (P := P) (w := w)
  refine ⟨vs, ⟨_, es, n, X _ _ hl, ⟨rfl, rfl, rfl⟩, rfl, fun e m => he.keys e (by simpa using m), h1, ?_⟩, h3⟩
  rw [h2, show (fun kv : Int × Int => (Sum.inl kv.1 : Key)) = (fun k => (Sum.inl k : Key)) ∘ (fun kv : Int × Int => kv.1) from rfl, ← List.map_map]
  exact nodup_inl hn
def tGD (kvs : List (Int × Int)) (ty : TE) : TE := fun σ H Q => ty σ H fun y H2 => ∃ k v, y = .int k ∧ atD kvs k = some v ∧ Q (.int v) H2
theorem pe_gdget {X : Cx} {o i : Expr} {pos : Pos} {a : Addr} {kvs : List (Int × Int)} {ty : TE} (hd : KD X.K a kvs) (ho : PE X o (tC (.ref a))) (hi : PE X i ty) (hs : NoSl i) : PE X (.Subscript o i pos) (tGD kvs ty) := by
  intro pins s σ H Q I h
  refine subD_of PySem.F.slot_dict_getitem.lookup hs (thn (ho pins s σ H (fun x H1 => x = .ref a ∧ H1 = H) I ⟨rfl, rfl⟩) fun u s1 ⟨x, H1, I1, rx, ex, eH⟩ => ?_)
  subst ex
  subst eH
  obtain rfl : u = Value.ref a := rx
  refine thn (hi pins s1 σ H1 _ I1 h) fun iv s2 ⟨y, H2, I2, ry, k, v, ey, hv, q2⟩ => ?_
  subst ey
  obtain ⟨vs, dd, hvs⟩ := hd.dictOf (P := X.prog) (w := X.w) I2.kIn
  obtain ⟨u, hu⟩ := hvs k v hv
  exact ⟨dd.typeIs, wpAny_getItem_of (kV_is (k := .inl k) ry) dd.mapOf hu ⟨.int v, H2, I2.tok _, ⟨u, rfl⟩, q2⟩⟩
end FmP
set_option Elab.async false
set_option linter.all false
set_option maxRecDepth 100000
set_option maxHeartbeats 2000000
namespace FmP
open PySem PySem.Spec PyProof.Rows L2
open Fm FmM
/-- what stands at the top besides defs -/
structure Glo (K : PySem.W.Frag) (mg : Str → Option Value) (aM aW aR : Addr) : Prop where
  c_FIRST_PLACE : Gi mg "FIRST_PLACE" 8
  c_LONGEST : Gi mg "LONGEST" 512
  c_STEP : Gi mg "STEP" 4
  c_NUMBER : Gi mg "NUMBER" 1
  c_BYTES : Gi mg "BYTES" 2
  c_LIST : Gi mg "LIST" 3
  c_RECORD : Gi mg "RECORD" 4
  c_DEEPEST : Gi mg "DEEPEST" 8
  c_MARK : Gr mg "MARK" aM
  mark : ∀ H, SqT K H aM [.int 70, .int 77, .int 48, .int 49]
  c_WHOLE_NUMBERS : Gr mg "WHOLE_NUMBERS" aW
  d_WHOLE_NUMBERS : KD K aW numsOf
  c_WITH_ROW : Gr mg "WITH_ROW" aR
  withrow : ∀ H, SqT K H aR [.int 0, .int 11, .int 13]
  c_CHECK : Gi mg "CHECK" 1
  c_KIND : Gi mg "KIND" 2
  c_NUMBER_CALL : Gi mg "NUMBER_CALL" 3
  c_BYTES_CALL : Gi mg "BYTES_CALL" 4
  c_COUNT : Gi mg "COUNT" 5
  c_ITEM : Gi mg "ITEM" 6
  c_DEPTH : Gi mg "DEPTH" 8
  c_LOAD : Gi mg "LOAD" 0
  c_MOST_TREES : Gi mg "MOST_TREES" 16
  c_MOST_SIZE : Gi mg "MOST_SIZE" 504
  c_BEGIN : Gi mg "BEGIN" 9
  c_PUT_NUMBER : Gi mg "PUT_NUMBER" 10
  c_PUT_BYTES : Gi mg "PUT_BYTES" 11
  c_LIST_CALL : Gi mg "LIST_CALL" 12
  c_RECORD_CALL : Gi mg "RECORD_CALL" 13
  c_COPY : Gi mg "COPY" 14
  c_SIZES : Gi mg "SIZES" 15
  c_FINISH : Gi mg "FINISH" 16
  b_len : mg "len" = none
  b_range : mg "range" = none
  b_all : mg "all" = none
  b_zip : mg "zip" = none
  b_tuple : mg "tuple" = none
  b_list : mg "list" = none
  b_max : mg "max" = none
  b_sum : mg "sum" = none
  b_reversed : mg "reversed" = none
theorem qi {Q : VK} {H : Hp} {x y : Int} (h : Q (.int y) H) (e : x = y) : Q (.int x) H := by rw [e]; exact h
theorem qb {Q : VK} {H : Hp} {x y : Bool} (h : Q (.bl y) H) (e : x = y) : Q (.bl x) H := by rw [e]; exact h
def spWord (K : PySem.W.Frag) : Sp := fun vs H Q _ => ∃ (a : Addr) (m : Bytes) (z : Int) (p : Nat), vs = [.ref a, .int z] ∧ z = p ∧ SqL K H a (bv m) ∧ p + 4 ≤ m.length ∧ Q (.int (numAt m p 4 : Nat)) H
def spRoot (K : PySem.W.Frag) : Sp := fun vs H Q _ => ∃ (a : Addr) (m : Bytes), vs = [.ref a] ∧ SqL K H a (bv m) ∧ 8 ≤ m.length ∧ Q (.int (numAt m 4 4 : Nat)) H
def spKind (K : PySem.W.Frag) : Sp := fun vs H Q _ => ∃ (a : Addr) (m : Bytes) (z : Int) (p : Nat), vs = [.ref a, .int z] ∧ z = p ∧ SqL K H a (bv m) ∧ p < m.length ∧ Q (.int (kindAt m p : Nat)) H
def spCount (K : PySem.W.Frag) : Sp := fun vs H Q _ => ∃ (a : Addr) (m : Bytes) (z : Int) (p : Nat), vs = [.ref a, .int z] ∧ z = p ∧ SqL K H a (bv m) ∧ p + 4 ≤ m.length ∧ Q (.int (countAt m p : Nat)) H
def spUp : Sp := fun vs H Q _ => ∃ (z : Int) (n : Nat), vs = [.int z] ∧ z = n ∧ n < 4294967296 ∧ Q (.int (up4 n : Nat)) H
def spOwn : Sp := fun vs H Q _ => ∃ (y z : Int) (k n : Nat), vs = [.int y, .int z] ∧ y = k ∧ z = n ∧ n < 4294967296 ∧ Q (.int (ownSize k n : Nat)) H
def spPlace (K : PySem.W.Frag) : Sp := fun vs H Q _ => ∃ (a : Addr) (m : Bytes) (y z : Int) (p i : Nat), vs = [.ref a, .int y, .int z] ∧ y = p ∧ z = i ∧ SqL K H a (bv m) ∧ p < m.length ∧ i < 4294967296 ∧
  ((kindAt m p = 3 ∧ p + 4 + 4 * i + 4 ≤ m.length ∧ Q (.int (numAt m (p + 4 + 4 * i) 4 : Nat)) H) ∨ (kindAt m p ≠ 3 ∧ p + 4 + 8 * i + 8 ≤ m.length ∧ Q (.int (numAt m (p + 4 + 4 + 8 * i) 4 : Nat)) H))
def spKey (K : PySem.W.Frag) : Sp := fun vs H Q _ => ∃ (a : Addr) (m : Bytes) (y z : Int) (p i : Nat), vs = [.ref a, .int y, .int z] ∧ y = p ∧ z = i ∧ SqL K H a (bv m) ∧ i < 4294967296 ∧ p + 4 + 8 * i + 4 ≤ m.length ∧ Q (.int (numAt m (p + 4 + 8 * i) 4 : Nat)) H
section
variable {P : Program} {w : World} {K : PySem.W.Frag} {mg : Str → Option Value} {base : Heap} {aM aW aR : Addr}
theorem sc_word_at : FnScope ["data", "place", "low"] ["data", "place"] (defScope (top 9)) := ⟨rfl, rfl, rfl, by decide +kernel, rfl, by decide +kernel, by decide +kernel⟩
theorem ok_word_at (g : Glo K mg aM aW aR) (G : Gf K mg "word_at" (top 9)) : Cal P w K mg base 1 "word_at" ["data", "place"] (spWord K) := by
  have nd := sc_word_at.nd
  refine cal_of G (fun _ _ _ _ _ _ us hl => match us, hl with | [_, _], _ => rfl) sc_word_at (fun vs H Q E h => ?_) (fun f cdv A outer s H vs Q E hr h => ?_)
  · obtain ⟨a, m, z, p, rfl, rfl, hS, hp, k⟩ := h
    rfl
  · obtain ⟨a, m, z, p, rfl, rfl, hS, hp, k⟩ := h
    have hu := hu_of hr
    have hu64 := hr.units
    refine ⟨_, (pss_cons (ps_set (i := 2) nd rfl (Or.inl rfl) (pe_op op_add (pe_ix ix_list (pv 0) (pv 1) (fun _ _ => rfl)) (pe_op op_mul pe_int (pe_ix ix_list (pv 0) (pe_op op_add (pv 1) pe_int) (fun _ _ => rfl)))))
      (pss_one (ps_ret (pe_op op_add (pv 2) (pe_op op_mul pe_int (pe_op op_add (pe_ix ix_list (pv 0) (pe_op op_add (pv 1) pe_int) (fun _ _ => rfl)) (pe_op op_mul pe_int (pe_ix ix_list (pv 0) (pe_op op_add (pv 1) pe_int) (fun _ _ => rfl))))))))), ?_⟩
    refine ⟨_, rfl, _, rfl, _, _, _, _, rfl, rfl, hS, bv_at (i := p) rfl (by omega), _, rfl, _, rfl, _, _, rfl, rfl, _, _, _, _, rfl, rfl, hS, bv_at (i := p + 1) (by omega) (by omega), _, _, rfl, rfl, .inl ⟨by decide, by decide⟩, _, _, rfl, rfl, ?_⟩
    refine ⟨_, rfl, _, rfl, _, rfl, _, _, rfl, rfl, _, _, _, _, rfl, rfl, hS, bv_at (i := p + 2) (by omega) (by omega), _, rfl, _, rfl, _, _, rfl, rfl, _, _, _, _, rfl, rfl, hS, bv_at (i := p + 3) (by omega) (by omega), _, _, rfl, rfl, .inl ⟨by decide, by decide⟩, _, _, rfl, rfl, _, _, rfl, rfl, .inl ⟨by decide, by decide⟩, _, _, rfl, rfl, ?_⟩
    exact qi k (by rw [num4]; omega)
theorem sc_root_of : FnScope ["data"] ["data"] (defScope (top 10)) := ⟨rfl, rfl, rfl, by decide +kernel, rfl, by decide +kernel, by decide +kernel⟩
theorem ok_root_of (g : Glo K mg aM aW aR) (G : Gf K mg "root_of" (top 10)) (c_word_at : Cal P w K mg base 1 "word_at" ["data", "place"] (spWord K)) : Cal P w K mg base 2 "root_of" ["data"] (spRoot K) := by
  have nd := sc_root_of.nd
  refine cal_of G (fun _ _ _ _ _ _ us hl => match us, hl with | [_], _ => rfl) sc_root_of (fun vs H Q E h => ?_) (fun f cdv A outer s H vs Q E hr h => ?_)
  · obtain ⟨a, m, rfl, hS, hp, k⟩ := h
    rfl
  · obtain ⟨a, m, rfl, hS, hp, k⟩ := h
    have hu := hu_of hr
    have hu64 := hr.units
    refine ⟨_, (pss_one (ps_ret (pe_cal c_word_at hr rfl (pa_cons (pv 0) (pa_cons pe_int pa_nil))))), ?_⟩
    exact ⟨_, rfl, a, m, _, 4, rfl, rfl, hS, by omega, k⟩
theorem sc_kind_at : FnScope ["data", "at"] ["data", "at"] (defScope (top 11)) := ⟨rfl, rfl, rfl, by decide +kernel, rfl, by decide +kernel, by decide +kernel⟩
theorem ok_kind_at (g : Glo K mg aM aW aR) (G : Gf K mg "kind_at" (top 11)) : Cal P w K mg base 1 "kind_at" ["data", "at"] (spKind K) := by
  have nd := sc_kind_at.nd
  refine cal_of G (fun _ _ _ _ _ _ us hl => match us, hl with | [_, _], _ => rfl) sc_kind_at (fun vs H Q E h => ?_) (fun f cdv A outer s H vs Q E hr h => ?_)
  · obtain ⟨a, m, z, p, rfl, rfl, hS, hp, k⟩ := h
    rfl
  · obtain ⟨a, m, z, p, rfl, rfl, hS, hp, k⟩ := h
    have hu := hu_of hr
    have hu64 := hr.units
    refine ⟨_, (pss_one (ps_ret (pe_ix ix_list (pv 0) (pv 1) (fun _ _ => rfl)))), ?_⟩
    refine ⟨_, rfl, _, rfl, _, _, _, _, rfl, rfl, hS, bv_at (i := p) rfl (by omega), ?_⟩
    exact qi k (by unfold kindAt; rw [num1])
theorem sc_count_at : FnScope ["data", "at"] ["data", "at"] (defScope (top 12)) := ⟨rfl, rfl, rfl, by decide +kernel, rfl, by decide +kernel, by decide +kernel⟩
theorem ok_count_at (g : Glo K mg aM aW aR) (G : Gf K mg "count_at" (top 12)) (c_word_at : Cal P w K mg base 1 "word_at" ["data", "place"] (spWord K)) : Cal P w K mg base 2 "count_at" ["data", "at"] (spCount K) := by
  have nd := sc_count_at.nd
  refine cal_of G (fun _ _ _ _ _ _ us hl => match us, hl with | [_, _], _ => rfl) sc_count_at (fun vs H Q E h => ?_) (fun f cdv A outer s H vs Q E hr h => ?_)
  · obtain ⟨a, m, z, p, rfl, rfl, hS, hp, k⟩ := h
    rfl
  · obtain ⟨a, m, z, p, rfl, rfl, hS, hp, k⟩ := h
    have hu := hu_of hr
    have hu64 := hr.units
    refine ⟨_, (pss_one (ps_ret (pe_op op_fdiv (pe_cal c_word_at hr rfl (pa_cons (pv 0) (pa_cons (pv 1) pa_nil))) pe_int))), ?_⟩
    refine ⟨_, rfl, _, rfl, a, m, _, p, rfl, rfl, hS, by omega, _, _, rfl, rfl, ⟨by decide, by decide⟩, ?_⟩
    exact qi k (by unfold countAt; rw [count_word]; omega)
theorem sc_rounded_up : FnScope ["length"] ["length"] (defScope (top 13)) := ⟨rfl, rfl, rfl, by decide +kernel, rfl, by decide +kernel, by decide +kernel⟩
theorem ok_rounded_up (g : Glo K mg aM aW aR) (G : Gf K mg "rounded_up" (top 13)) : Cal P w K mg base 1 "rounded_up" ["length"] spUp := by
  have nd := sc_rounded_up.nd
  refine cal_of G (fun _ _ _ _ _ _ us hl => match us, hl with | [_], _ => rfl) sc_rounded_up (fun vs H Q E h => ?_) (fun f cdv A outer s H vs Q E hr h => ?_)
  · obtain ⟨z, n, rfl, rfl, hn, k⟩ := h
    rfl
  · obtain ⟨z, n, rfl, rfl, hn, k⟩ := h
    have hu := hu_of hr
    have hu64 := hr.units
    refine ⟨_, (pss_one (ps_ret (pe_op op_mul (pe_op op_fdiv (pe_op op_sub (pe_op op_add (pv 0) (pe_gi g.c_STEP rfl)) pe_int) (pe_gi g.c_STEP rfl)) (pe_gi g.c_STEP rfl)))), ?_⟩
    refine ⟨_, rfl, _, _, rfl, rfl, _, _, rfl, rfl, _, _, rfl, rfl, ⟨by decide, by decide⟩, _, _, rfl, rfl, .inr ⟨by decide, by decide⟩, ?_⟩
    exact qi k (by rw [up4_eq]; omega)
theorem sc_own_size : FnScope ["kind", "count"] ["kind", "count"] (defScope (top 14)) := ⟨rfl, rfl, rfl, by decide +kernel, rfl, by decide +kernel, by decide +kernel⟩
theorem ok_own_size (g : Glo K mg aM aW aR) (G : Gf K mg "own_size" (top 14)) (c_rounded_up : Cal P w K mg base 1 "rounded_up" ["length"] spUp) : Cal P w K mg base 2 "own_size" ["kind", "count"] spOwn := by
  have nd := sc_own_size.nd
  refine cal_of G (fun _ _ _ _ _ _ us hl => match us, hl with | [_, _], _ => rfl) sc_own_size (fun vs H Q E h => ?_) (fun f cdv A outer s H vs Q E hr h => ?_)
  · obtain ⟨y, z, kk, n, rfl, rfl, rfl, hn, k⟩ := h
    rfl
  · obtain ⟨y, z, kk, n, rfl, rfl, rfl, hn, k⟩ := h
    have hu := hu_of hr
    have hu64 := hr.units
    refine ⟨_, (pss_cons (ps_if (pt_cmpR op_eq (pv 0) (pe_gi g.c_NUMBER rfl) (nomark _)) (pss_one (ps_ret pe_int)) pss_nil)
      (pss_cons (ps_if (pt_cmpR op_eq (pv 0) (pe_gi g.c_BYTES rfl) (nomark _)) (pss_one (ps_ret (pe_op op_add pe_int (pe_cal c_rounded_up hr rfl (pa_cons (pv 1) pa_nil))))) pss_nil)
      (pss_cons (ps_if (pt_cmpR op_eq (pv 0) (pe_gi g.c_LIST rfl) (nomark _)) (pss_one (ps_ret (pe_op op_add pe_int (pe_op op_mul pe_int (pv 1))))) pss_nil)
      (pss_one (ps_ret (pe_op op_add pe_int (pe_op op_mul pe_int (pv 1)))))))), ?_⟩
    refine ⟨_, rfl, rfl, _, rfl, ite2 (fun e1 => ?_) fun e1 => ?_⟩
    · exact qi k (by have e := V.int.inj (of_decide_eq_true e1); unfold ownSize; rw [if_pos (by omega)]; rfl)
    refine ⟨_, rfl, rfl, _, rfl, ite2 (fun e2 => ?_) fun e2 => ?_⟩
    · refine ⟨_, rfl, _, n, rfl, rfl, hn, _, _, rfl, rfl, ?_⟩
      exact qi k (by have e := V.int.inj (of_decide_eq_true e2); unfold ownSize; rw [if_neg (by omega), if_pos (by omega)]; omega)
    have n1 : ¬ kk = 1 := fun q => e1 (by subst q; rfl)
    have n2 : ¬ kk = 2 := fun q => e2 (by subst q; rfl)
    refine ⟨_, rfl, rfl, _, rfl, ite2 (fun e3 => ?_) fun e3 => ?_⟩
    · refine ⟨_, rfl, _, _, rfl, rfl, .inl ⟨by decide, by decide⟩, _, _, rfl, rfl, ?_⟩
      exact qi k (by have e := V.int.inj (of_decide_eq_true e3); unfold ownSize; rw [if_neg n1, if_neg n2, if_pos (by omega)]; omega)
    have n3 : ¬ kk = 3 := fun q => e3 (by subst q; rfl)
    refine ⟨_, rfl, _, _, rfl, rfl, .inl ⟨by decide, by decide⟩, _, _, rfl, rfl, ?_⟩
    exact qi k (by unfold ownSize; rw [if_neg n1, if_neg n2, if_neg n3]; omega)
theorem sc_place_in : FnScope ["data", "at", "i"] ["data", "at", "i"] (defScope (top 15)) := ⟨rfl, rfl, rfl, by decide +kernel, rfl, by decide +kernel, by decide +kernel⟩
theorem ok_place_in (g : Glo K mg aM aW aR) (G : Gf K mg "place_in" (top 15)) (c_kind_at : Cal P w K mg base 1 "kind_at" ["data", "at"] (spKind K)) (c_word_at : Cal P w K mg base 1 "word_at" ["data", "place"] (spWord K)) : Cal P w K mg base 2 "place_in" ["data", "at", "i"] (spPlace K) := by
  have nd := sc_place_in.nd
  refine cal_of G (fun _ _ _ _ _ _ us hl => match us, hl with | [_, _, _], _ => rfl) sc_place_in (fun vs H Q E h => ?_) (fun f cdv A outer s H vs Q E hr h => ?_)
  · obtain ⟨a, m, y, z, p, i, rfl, rfl, rfl, hS, hp, hi, k⟩ := h
    rfl
  · obtain ⟨a, m, y, z, p, i, rfl, rfl, rfl, hS, hp, hi, k⟩ := h
    have hu := hu_of hr
    have hu64 := hr.units
    refine ⟨_, (pss_cons (ps_if (pt_cmpR op_eq (pe_cal c_kind_at hr rfl (pa_cons (pv 0) (pa_cons (pv 1) pa_nil))) (pe_gi g.c_LIST rfl) (nomark _)) (pss_one (ps_ret (pe_cal c_word_at hr rfl (pa_cons (pv 0) (pa_cons (pe_op op_add (pe_op op_add (pv 1) pe_int) (pe_op op_mul pe_int (pv 2))) pa_nil))))) pss_nil)
      (pss_one (ps_ret (pe_cal c_word_at hr rfl (pa_cons (pv 0) (pa_cons (pe_op op_add (pe_op op_add (pv 1) pe_int) (pe_op op_mul pe_int (pv 2))) pa_nil)))))), ?_⟩
    refine ⟨_, rfl, _, rfl, a, m, _, p, rfl, rfl, hS, hp, rfl, _, rfl, ite2 (fun e1 => ?_) fun e1 => ?_⟩
    · have e := V.int.inj (of_decide_eq_true e1)
      rcases k with ⟨k3, hl, k⟩ | ⟨k3, _, _⟩
      · refine ⟨_, rfl, _, rfl, _, _, rfl, rfl, _, rfl, _, _, rfl, rfl, .inl ⟨by decide, by decide⟩, _, _, rfl, rfl, a, m, _, p + 4 + 4 * i, rfl, by omega, hS, hl, k⟩
      · exact absurd (by omega) k3
    · have e : ¬ kindAt m p = 3 := fun q => e1 (by rw [q]; rfl)
      rcases k with ⟨k3, _, _⟩ | ⟨k3, hl, k⟩
      · exact absurd k3 e
      · refine ⟨_, rfl, _, rfl, _, _, rfl, rfl, _, rfl, _, _, rfl, rfl, .inl ⟨by decide, by decide⟩, _, _, rfl, rfl, a, m, _, p + 4 + 4 + 8 * i, rfl, by omega, hS, by omega, k⟩
theorem sc_key_in : FnScope ["data", "at", "i"] ["data", "at", "i"] (defScope (top 16)) := ⟨rfl, rfl, rfl, by decide +kernel, rfl, by decide +kernel, by decide +kernel⟩
theorem ok_key_in (g : Glo K mg aM aW aR) (G : Gf K mg "key_in" (top 16)) (c_word_at : Cal P w K mg base 1 "word_at" ["data", "place"] (spWord K)) : Cal P w K mg base 2 "key_in" ["data", "at", "i"] (spKey K) := by
  have nd := sc_key_in.nd
  refine cal_of G (fun _ _ _ _ _ _ us hl => match us, hl with | [_, _, _], _ => rfl) sc_key_in (fun vs H Q E h => ?_) (fun f cdv A outer s H vs Q E hr h => ?_)
  · obtain ⟨a, m, y, z, p, i, rfl, rfl, rfl, hS, hi, hl, k⟩ := h
    rfl
  · obtain ⟨a, m, y, z, p, i, rfl, rfl, rfl, hS, hi, hl, k⟩ := h
    have hu := hu_of hr
    have hu64 := hr.units
    refine ⟨_, (pss_one (ps_ret (pe_cal c_word_at hr rfl (pa_cons (pv 0) (pa_cons (pe_op op_add (pe_op op_add (pv 1) pe_int) (pe_op op_mul pe_int (pv 2))) pa_nil))))), ?_⟩
    refine ⟨_, rfl, _, rfl, _, _, rfl, rfl, _, rfl, _, _, rfl, rfl, .inl ⟨by decide, by decide⟩, _, _, rfl, rfl, a, m, _, p + 4 + 8 * i, rfl, by omega, hS, hl, k⟩
end
end FmP
set_option Elab.async false
set_option linter.all false
set_option maxRecDepth 100000
set_option maxHeartbeats 2000000
namespace FmP
open PySem PySem.Spec PyProof.Rows L2
open Fm FmM
theorem bo_all : bootBuiltins "all" = some (.builtin "all") := by decide +kernel
theorem bo_tuple : bootBuiltins "tuple" = some (.type "tuple") := by decide +kernel
theorem bo_list : bootBuiltins "list" = some (.type "list") := by decide +kernel
theorem bo_max : bootBuiltins "max" = some (.builtin "max") := by decide +kernel
theorem line600 {n : Nat} (h : n ≤ 600) : n ≤ sizeLine := Nat.le_trans h (by decide)
theorem cut_nat (xs : List V) (i j : Nat) : cutV xs (some (i : Int)) (some (j : Int)) = (xs.drop i).take (j - i) := by
  unfold cutV
  rw [HT.sIx_nat, HT.sIx_nat]
  by_cases h : i ≤ xs.length
  · rw [Nat.min_eq_left h]
    by_cases h2 : j ≤ xs.length
    · rw [Nat.min_eq_left h2]
    · rw [Nat.min_eq_right (by omega), List.take_of_length_le (by rw [List.length_drop]; omega), List.take_of_length_le (by rw [List.length_drop]; omega)]
  · rw [Nat.min_eq_right (show xs.length ≤ i by omega), List.drop_eq_nil_of_le (Nat.le_refl _), List.drop_eq_nil_of_le (show xs.length ≤ i by omega)]
    simp
theorem cut_lo (xs : List V) (i : Nat) : cutV xs (some (i : Int)) none = xs.drop i := by
  unfold cutV
  rw [HT.sIx_nat, HT.sIx_none]
  by_cases h : i ≤ xs.length
  · rw [Nat.min_eq_left h, List.take_of_length_le (by rw [List.length_drop]; omega)]
  · rw [Nat.min_eq_right (show xs.length ≤ i by omega), List.drop_eq_nil_of_le (Nat.le_refl _), List.drop_eq_nil_of_le (show xs.length ≤ i by omega)]
    simp
theorem cut_hi (xs : List V) (j : Nat) : cutV xs none (some (j : Int)) = xs.take j := by
  unfold cutV
  rw [HT.sIx_nat, HT.sIx_none, List.drop_zero, Nat.sub_zero]
  by_cases h2 : j ≤ xs.length
  · rw [Nat.min_eq_left h2]
  · rw [Nat.min_eq_right (by omega), List.take_of_length_le (Nat.le_refl _), List.take_of_length_le (by omega)]
theorem bv_drop (m : Bytes) (i : Nat) : (bv m).drop i = bv (m.drop i) := by unfold bv; rw [List.map_drop]
theorem bv_take (m : Bytes) (i : Nat) : (bv m).take i = bv (m.take i) := by unfold bv; rw [List.map_take]
theorem nv_drop (m : List Nat) (i : Nat) : (nv m).drop i = nv (m.drop i) := by unfold nv; rw [List.map_drop]
theorem nv_get {l : List Nat} {i : Nat} {x : V} (h : (nv l)[i]? = some x) : ∃ n, l[i]? = some n ∧ x = .int (n : Nat) := by
  unfold nv at h
  rw [List.getElem?_map] at h
  cases e : l[i]? with
  | none => rw [e] at h; cases h
  | some n => rw [e] at h; cases h; exact ⟨n, rfl, rfl⟩
theorem nv_at {l : List Nat} {i n : Nat} (h : l[i]? = some n) : (nv l)[i]? = some (.int (n : Nat)) := by
  unfold nv
  rw [List.getElem?_map, h]
  rfl
theorem bls_len (bs : List Bool) : (bs.map V.bl).length = bs.length := List.length_map _
theorem all_of {α : Type} (l : List α) (f : α → Bool) : (l.map f).all id = l.all f := by
  rw [List.all_map]
  rfl
def spPlaces (K : PySem.W.Frag) : Sp := fun vs H Q _ => ∃ (a : Addr) (m : Bytes) (z : Int) (p : Nat), vs = [.ref a, .int z] ∧ z = p ∧ SqL K H a (bv m) ∧ m.length ≤ 600 ∧ p + 4 ≤ m.length ∧ p + ownSize (kindAt m p) (countAt m p) ≤ m.length ∧ newL (nv (placesIn m p)) H Q
def spKeys (K : PySem.W.Frag) : Sp := fun vs H Q _ => ∃ (a : Addr) (m : Bytes) (z : Int) (p : Nat), vs = [.ref a, .int z] ∧ z = p ∧ SqL K H a (bv m) ∧ m.length ≤ 600 ∧ p + 4 + 8 * countAt m p ≤ m.length ∧ newL (nv (keysIn m p)) H Q
def spBytesIn (K : PySem.W.Frag) : Sp := fun vs H Q _ => ∃ (a : Addr) (m : Bytes) (z : Int) (p : Nat), vs = [.ref a, .int z] ∧ z = p ∧ SqL K H a (bv m) ∧ p + 4 ≤ m.length ∧ newL (bv ((m.drop (p + 4)).take (countAt m p))) H Q
def spIsMsg (K : PySem.W.Frag) : Sp := fun vs H Q _ => ∃ (a : Addr) (m : Bytes), vs = [.ref a] ∧ SqL K H a (bv m) ∧ ∀ H', Same H H' → Q (.bl (isMessage m)) H'
def spMay (K : PySem.W.Frag) : Sp := fun vs H Q _ => ∃ (a : Addr) (m : Bytes) (z : Int) (p : Nat), vs = [.ref a, .int z] ∧ z = p ∧ SqL K H a (bv m) ∧ Q (.bl (mayHold m p)) H
def spZeros (K : PySem.W.Frag) : Sp := fun vs H Q _ => ∃ (a : Addr) (m : Bytes) (z : Int) (p : Nat), vs = [.ref a, .int z] ∧ z = p ∧ SqL K H a (bv m) ∧ m.length ≤ 600 ∧ p + 4 + up4 (countAt m p) ≤ m.length ∧ ∀ H', Same H H' → Q (.bl (zerosIn m p)) H'
def spPlacesRight (K : PySem.W.Frag) : Sp := fun vs H Q _ => ∃ (a : Addr) (m : Bytes) (z : Int) (p : Nat), vs = [.ref a, .int z] ∧ z = p ∧ SqL K H a (bv m) ∧ m.length ≤ 600 ∧ 8 ≤ p ∧ p + 4 ≤ m.length ∧ p + ownSize (kindAt m p) (countAt m p) ≤ m.length ∧ ∀ H', Same H H' → Q (.bl ((placesIn m p).all (mayPoint m p))) H'
def spRise (K : PySem.W.Frag) : Sp := fun vs H Q _ => ∃ (a : Addr) (ks : List Nat), vs = [.ref a] ∧ SqL K H a (nv ks) ∧ ks.length ≤ 600 ∧ ∀ H', Same H H' → Q (.bl (rising ks)) H'
def spInside (K : PySem.W.Frag) : Sp := fun vs H Q _ => ∃ (a : Addr) (m : Bytes) (z : Int) (p : Nat), vs = [.ref a, .int z] ∧ z = p ∧ SqL K H a (bv m) ∧ m.length ≤ 600 ∧ 8 ≤ p ∧ p + 4 ≤ m.length ∧ p + ownSize (kindAt m p) (countAt m p) ≤ m.length ∧ ∀ H', Same H H' → Q (.bl (insideRight m p)) H'
def spStands (K : PySem.W.Frag) : Sp := fun vs H Q _ => ∃ (a : Addr) (m : Bytes) (z : Int) (p : Nat), vs = [.ref a, .int z] ∧ z = p ∧ SqL K H a (bv m) ∧ m.length ≤ 600 ∧ ∀ H', Same H H' → Q (.bl (standsRight m p)) H'
theorem placesIn_len {m : Bytes} {p : Nat} (h : ¬ (kindAt m p = 1 ∨ kindAt m p = 2)) : (placesIn m p).length = countAt m p := by
  unfold placesIn
  rw [if_neg h]
  split
  · rw [placesAt_len]
  · rw [List.length_map, fieldsAt_len]
theorem placesIn_get {m : Bytes} {p i : Nat} {x : Nat} (h : ¬ (kindAt m p = 1 ∨ kindAt m p = 2)) (e : (placesIn m p)[i]? = some x) :
    i < countAt m p ∧ ((kindAt m p = 3 ∧ x = numAt m (p + 4 + 4 * i) 4) ∨ (kindAt m p ≠ 3 ∧ x = numAt m (p + 4 + 4 + 8 * i) 4)) := by
  have hi : i < countAt m p := by rw [← placesIn_len h]; exact (List.getElem?_eq_some_iff.mp e).1
  refine ⟨hi, ?_⟩
  unfold placesIn at e
  rw [if_neg h] at e
  by_cases k3 : kindAt m p = 3
  · rw [if_pos k3] at e
    unfold placesAt at e
    rw [List.getElem?_map, List.getElem?_range hi] at e
    exact .inl ⟨k3, (Option.some.inj e).symm⟩
  · rw [if_neg k3] at e
    unfold fieldsAt at e
    rw [List.getElem?_map, List.getElem?_map, List.getElem?_range hi] at e
    exact .inr ⟨k3, (Option.some.inj e).symm⟩
theorem keysIn_len (m : Bytes) (p : Nat) : (keysIn m p).length = countAt m p := by unfold keysIn; rw [List.length_map, fieldsAt_len]
theorem keysIn_get {m : Bytes} {p i : Nat} {x : Nat} (e : (keysIn m p)[i]? = some x) : i < countAt m p ∧ x = numAt m (p + 4 + 8 * i) 4 := by
  have hi : i < countAt m p := by rw [← keysIn_len m p]; exact (List.getElem?_eq_some_iff.mp e).1
  refine ⟨hi, ?_⟩
  unfold keysIn fieldsAt at e
  rw [List.getElem?_map, List.getElem?_map, List.getElem?_range hi] at e
  exact (Option.some.inj e).symm
theorem own_list {m : Bytes} {p : Nat} (k3 : kindAt m p = 3) : ownSize (kindAt m p) (countAt m p) = 4 + 4 * countAt m p := by unfold ownSize; rw [k3]; rfl
theorem own_rec {m : Bytes} {p : Nat} (h : ¬ (kindAt m p = 1 ∨ kindAt m p = 2)) (k3 : ¬ kindAt m p = 3) : ownSize (kindAt m p) (countAt m p) = 4 + 8 * countAt m p := by
  unfold ownSize
  rw [if_neg (fun q => h (.inl q)), if_neg (fun q => h (.inr q)), if_neg k3]
theorem own_ge {m : Bytes} {p : Nat} (h : ¬ (kindAt m p = 1 ∨ kindAt m p = 2)) : 4 + 4 * countAt m p ≤ ownSize (kindAt m p) (countAt m p) := by
  by_cases k3 : kindAt m p = 3
  · rw [own_list k3]; omega
  · rw [own_rec h k3]; omega
/-- a message's first four bytes -/
theorem first4 {m : Bytes} (h : 8 ≤ m.length) : ∃ c0 c1 c2 c3 r, m = c0 :: c1 :: c2 :: c3 :: r := by
  match m, h with
  | c0 :: c1 :: c2 :: c3 :: r, _ => exact ⟨c0, c1, c2, c3, r, rfl⟩
theorem byte_eq (c : UInt8) (n : Nat) (hn : n < 256) : (((c.toNat : Nat) : Int) == (n : Int)) = (c == UInt8.ofNat n) := by
  by_cases e : c = UInt8.ofNat n
  · subst e
    have : (UInt8.ofNat n).toNat = n := by rw [UInt8.toNat_ofNat']; omega
    rw [this]; simp
  · have : ¬ ((c.toNat : Nat) : Int) = (n : Int) := fun q => e (by
      have q2 : c.toNat = n := by omega
      rw [← q2, UInt8.ofNat_toNat])
    rw [beq_eq_false_iff_ne.mpr this, beq_eq_false_iff_ne.mpr e]
theorem isMsg_eq {c0 c1 c2 c3 : UInt8} {r : Bytes} (h : 8 ≤ (c0 :: c1 :: c2 :: c3 :: r).length) (h2 : (c0 :: c1 :: c2 :: c3 :: r).length ≤ 512) :
    PyData.eqv (.tuple [.int (c0.toNat : Nat), .int (c1.toNat : Nat), .int (c2.toNat : Nat), .int (c3.toNat : Nat)]) (.tuple [.int 70, .int 77, .int 48, .int 49]) = isMessage (c0 :: c1 :: c2 :: c3 :: r) := by
  show (((c0.toNat : Nat) : Int) == ((70 : Nat) : Int) && (((c1.toNat : Nat) : Int) == ((77 : Nat) : Int) && (((c2.toNat : Nat) : Int) == ((48 : Nat) : Int) && (((c3.toNat : Nat) : Int) == ((49 : Nat) : Int) && true)))) = _
  rw [byte_eq _ _ (by decide), byte_eq _ _ (by decide), byte_eq _ _ (by decide), byte_eq _ _ (by decide)]
  unfold isMessage MESSAGE
  rw [decide_eq_true h, decide_eq_true h2]
  rfl
theorem mayPoint_eq {m : Bytes} {o p : Nat} (h : 8 ≤ o) : mayPoint m o p = (decide (o < p) && mayHold m p) := by
  unfold mayPoint mayHold
  by_cases e : o < p
  · rw [decide_eq_true e, decide_eq_true (show 8 ≤ p by omega)]; simp
  · rw [decide_eq_false e]; simp
section
variable {P : Program} {w : World} {K : PySem.W.Frag} {mg : Str → Option Value} {base : Heap} {aM aW aR : Addr}
theorem sc_places_in : FnScope ["data", "at", "i"] ["data", "at"] (defScope (top 17)) := ⟨rfl, rfl, rfl, by decide +kernel, rfl, by decide +kernel, by decide +kernel⟩
theorem ok_places_in (g : Glo K mg aM aW aR) (G : Gf K mg "places_in" (top 17)) (c_count_at : Cal P w K mg base 2 "count_at" ["data", "at"] (spCount K)) (c_kind_at : Cal P w K mg base 1 "kind_at" ["data", "at"] (spKind K)) (c_place_in : Cal P w K mg base 2 "place_in" ["data", "at", "i"] (spPlace K)) : Cal P w K mg base 3 "places_in" ["data", "at"] (spPlaces K) := by
  have nd := sc_places_in.nd
  refine cal_of G (fun _ _ _ _ _ _ us hl => match us, hl with | [_, _], _ => rfl) sc_places_in (fun vs H Q E h => ?_) (fun f cdv A outer s H vs Q E hr h => ?_)
  · obtain ⟨a, m, z, p, rfl, rfl, hS, hm, hp, ho, k⟩ := h
    rfl
  · obtain ⟨a, m, z, p, rfl, rfl, hS, hm, hp, ho, k⟩ := h
    have hu := hu_of hr
    have hu64 := hr.units
    refine ⟨_, (pss_cons (ps_if (PW.pt (pw_or (pt_cmpR op_eq (pe_cal c_kind_at hr rfl (pa_cons (pv 0) (pa_cons (pv 1) pa_nil))) (pe_gi g.c_NUMBER rfl) (nomark _)) (pw_or1 (pt_cmpR op_eq (pe_cal c_kind_at hr rfl (pa_cons (pv 0) (pa_cons (pv 1) pa_nil))) (pe_gi g.c_BYTES rfl) (nomark _))))) (pss_one (ps_ret (pe_lst pa_nil))) pss_nil)
      (pss_one (ps_ret (pe_lc rfl nd (own := [("i", 2)]) (pi_range1 rfl g.b_range (pa_cons (pe_cal c_count_at hr rfl (pa_cons (pv 0) (pa_cons (pv 1) pa_nil))) pa_nil)) (blkOk_by (N := ["data", "at", "i"]) (sc := defScope (top 17)) (by decide +kernel)) (fun _ _ _ _ _ => (pg_name (i := 2) nd rfl (Or.inl rfl))) (fun _ _ _ _ _ => pts_nil) (fun _ _ _ _ _ => (pe_cal c_place_in hr rfl (pa_cons (pv 0) (pa_cons (pv 1) (pa_cons (pv 2) pa_nil))))))))), ?_⟩
    refine ⟨_, rfl, _, rfl, a, m, _, p, rfl, rfl, hS, by omega, rfl, _, rfl, ite2 (fun e1 => ?_) fun e1 => ?_⟩
    · refine iteT ⟨(by decide), fun l hl => k.at hl ?_⟩
      have e : kindAt m p = 1 := by have e := V.int.inj (of_decide_eq_true e1); omega
      unfold placesIn
      rw [if_pos (Or.inl e)]
      rfl
    have n1 : ¬ kindAt m p = 1 := fun q => e1 (by rw [q]; rfl)
    refine ⟨_, rfl, _, rfl, a, m, _, p, rfl, rfl, hS, by omega, rfl, _, rfl, ite2 (fun e2 => ?_) fun e2 => ?_⟩
    · refine ⟨(by decide), fun l hl => k.at hl ?_⟩
      have e : kindAt m p = 2 := by have e := V.int.inj (of_decide_eq_true e2); omega
      unfold placesIn
      rw [if_pos (Or.inr e)]
      rfl
    have n2 : ¬ kindAt m p = 2 := fun q => e2 (by rw [q]; rfl)
    have nn : ¬ (kindAt m p = 1 ∨ kindAt m p = 2) := by omega
    have og := own_ge nn
    refine ⟨_, rfl, _, rfl, a, m, _, p, rfl, rfl, hS, by omega, _, rfl, by omega, by omega, fun D hD => lcR (ys := nv (placesIn m p)) (n := countAt m p) hD (by rw [nv_len, placesIn_len nn]) (line600 (by omega)) (fun _ => rfl) (fun i y H' hy sm R hR => ?_) fun H' h1 s => k H' D hD h1 s⟩
    obtain ⟨n, hn, rfl⟩ := nv_get hy
    obtain ⟨hi, hk⟩ := placesIn_get nn hn
    refine ⟨_, rfl, _, rfl, _, rfl, a, m, _, _, p, i, rfl, rfl, by omega, sm.seq hS, by omega, by omega, ?_⟩
    rcases hk with ⟨k3, rfl⟩ | ⟨k3, rfl⟩
    · have := own_list k3
      exact .inl ⟨k3, by omega, hR H' same_refl⟩
    · have := own_rec nn k3
      exact .inr ⟨k3, by omega, hR H' same_refl⟩
theorem sc_keys_in : FnScope ["data", "at", "i"] ["data", "at"] (defScope (top 18)) := ⟨rfl, rfl, rfl, by decide +kernel, rfl, by decide +kernel, by decide +kernel⟩
theorem ok_keys_in (g : Glo K mg aM aW aR) (G : Gf K mg "keys_in" (top 18)) (c_count_at : Cal P w K mg base 2 "count_at" ["data", "at"] (spCount K)) (c_key_in : Cal P w K mg base 2 "key_in" ["data", "at", "i"] (spKey K)) : Cal P w K mg base 3 "keys_in" ["data", "at"] (spKeys K) := by
  have nd := sc_keys_in.nd
  refine cal_of G (fun _ _ _ _ _ _ us hl => match us, hl with | [_, _], _ => rfl) sc_keys_in (fun vs H Q E h => ?_) (fun f cdv A outer s H vs Q E hr h => ?_)
  · obtain ⟨a, m, z, p, rfl, rfl, hS, hm, ho, k⟩ := h
    rfl
  · obtain ⟨a, m, z, p, rfl, rfl, hS, hm, ho, k⟩ := h
    have hu := hu_of hr
    have hu64 := hr.units
    refine ⟨_, (pss_one (ps_ret (pe_lc rfl nd (own := [("i", 2)]) (pi_range1 rfl g.b_range (pa_cons (pe_cal c_count_at hr rfl (pa_cons (pv 0) (pa_cons (pv 1) pa_nil))) pa_nil)) (blkOk_by (N := ["data", "at", "i"]) (sc := defScope (top 18)) (by decide +kernel)) (fun _ _ _ _ _ => (pg_name (i := 2) nd rfl (Or.inl rfl))) (fun _ _ _ _ _ => pts_nil) (fun _ _ _ _ _ => (pe_cal c_key_in hr rfl (pa_cons (pv 0) (pa_cons (pv 1) (pa_cons (pv 2) pa_nil)))))))), ?_⟩
    refine ⟨_, rfl, _, rfl, a, m, _, p, rfl, rfl, hS, by omega, _, rfl, by omega, by omega, fun D hD => lcR (ys := nv (keysIn m p)) (n := countAt m p) hD (by rw [nv_len, keysIn_len]) (line600 (by omega)) (fun _ => rfl) (fun i y H' hy sm R hR => ?_) fun H' h1 s => k H' D hD h1 s⟩
    obtain ⟨n, hn, rfl⟩ := nv_get hy
    obtain ⟨hi, rfl⟩ := keysIn_get hn
    exact ⟨_, rfl, _, rfl, _, rfl, a, m, _, _, p, i, rfl, rfl, by omega, sm.seq hS, by omega, by omega, hR H' same_refl⟩
theorem sc_bytes_in : FnScope ["data", "at"] ["data", "at"] (defScope (top 19)) := ⟨rfl, rfl, rfl, by decide +kernel, rfl, by decide +kernel, by decide +kernel⟩
theorem ok_bytes_in (g : Glo K mg aM aW aR) (G : Gf K mg "bytes_in" (top 19)) (c_count_at : Cal P w K mg base 2 "count_at" ["data", "at"] (spCount K)) : Cal P w K mg base 3 "bytes_in" ["data", "at"] (spBytesIn K) := by
  have nd := sc_bytes_in.nd
  refine cal_of G (fun _ _ _ _ _ _ us hl => match us, hl with | [_, _], _ => rfl) sc_bytes_in (fun vs H Q E h => ?_) (fun f cdv A outer s H vs Q E hr h => ?_)
  · obtain ⟨a, m, z, p, rfl, rfl, hS, hp, k⟩ := h
    rfl
  · obtain ⟨a, m, z, p, rfl, rfl, hS, hp, k⟩ := h
    have hu := hu_of hr
    have hu64 := hr.units
    refine ⟨_, (pss_one (ps_ret (pe_slice sl_list (pv 0) (po_some (pe_op op_add (pv 1) pe_int)) (po_some (pe_op op_add (pe_op op_add (pv 1) pe_int) (pe_cal c_count_at hr rfl (pa_cons (pv 0) (pa_cons (pv 1) pa_nil)))))))), ?_⟩
    refine ⟨_, rfl, _, rfl, _, _, rfl, rfl, _, rfl, _, rfl, _, _, rfl, rfl, _, rfl, _, rfl, a, m, _, p, rfl, rfl, hS, by omega, _, _, rfl, rfl, _, rfl, _, _, rfl, hS, fun l hl => k.at hl ?_⟩
    show cutV (bv m) (some ((p + 4 : Nat) : Int)) (some ((p + 4 + countAt m p : Nat) : Int)) = _
    rw [cut_nat, bv_drop, bv_take, Nat.add_sub_cancel_left]
theorem sc_is_message : FnScope ["data"] ["data"] (defScope (top 20)) := ⟨rfl, rfl, rfl, by decide +kernel, rfl, by decide +kernel, by decide +kernel⟩
theorem ok_is_message (g : Glo K mg aM aW aR) (G : Gf K mg "is_message" (top 20)) : Cal P w K mg base 1 "is_message" ["data"] (spIsMsg K) := by
  have nd := sc_is_message.nd
  refine cal_of G (fun _ _ _ _ _ _ us hl => match us, hl with | [_], _ => rfl) sc_is_message (fun vs H Q E h => ?_) (fun f cdv A outer s H vs Q E hr h => ?_)
  · obtain ⟨a, m, rfl, hS, k⟩ := h
    rfl
  · obtain ⟨a, m, rfl, hS, k⟩ := h
    have hu := hu_of hr
    have hu64 := hr.units
    refine ⟨_, (pss_one (ps_ret (pe_and (pe_chain op_le op_le (pe_gi g.c_FIRST_PLACE rfl) (pe_callB call_len_seq rfl g.b_len PySem.boot_len (pa_cons (pv 0) pa_nil)) (pe_gi g.c_LONGEST rfl)) (pe_one (pe_cmpR (op_eqD hu64) (pe_callTy call_tuple_of rfl g.b_tuple bo_tuple (pa_cons (pe_slice sl_list (pv 0) po_none (po_some pe_int)) pa_nil)) (pe_gr g.c_MARK rfl) (nomark _)))))), ?_⟩
    refine ⟨_, rfl, _, _, rfl, .inl hS, _, _, rfl, rfl, _, rfl, ite2 (fun e1 => ?_) fun e1 => ?_⟩
    · have h8 : 8 ≤ m.length := by have := of_decide_eq_true e1; rw [bv_len] at this; omega
      refine ⟨_, _, rfl, rfl, _, rfl, ite2 (fun e2 => ?_) fun e2 => ?_⟩
      · have h512 : m.length ≤ 512 := by have := of_decide_eq_true e2; rw [bv_len] at this; omega
        obtain ⟨c0, c1, c2, c3, r, rfl⟩ := first4 h8
        refine ⟨_, rfl, _, rfl, _, _, rfl, hS, fun l hl => ⟨_, _, rfl, .inl ⟨SqL.of upd_same, fun t ht => ?_⟩⟩⟩
        have ec : cutV (bv (c0 :: c1 :: c2 :: c3 :: r)) none (some (4 : Int)) = [.int (c0.toNat : Nat), .int (c1.toNat : Nat), .int (c2.toNat : Nat), .int (c3.toNat : Nat)] := cut_hi _ 4
        rw [ec]
        rw [ec] at ht
        have hl' : H l = none := hl
        have ht' : H t = none := (same_upd same_refl hl').free ht
        refine ⟨.tuple [.int (c0.toNat : Nat), .int (c1.toNat : Nat), .int (c2.toNat : Nat), .int (c3.toNat : Nat)], .tuple [.int 70, .int 77, .int 48, .int 49], .tup (SqT.of upd_same) (.cons (.int _) (.cons (.int _) (.cons (.int _) (.cons (.int _) .nil)))), .tup (g.mark _) (.cons (.int _) (.cons (.int _) (.cons (.int _) (.cons (.int _) .nil)))), rfl, rfl, ?_⟩
        exact qb (k _ (same_upd (same_upd same_refl hl') ht')) (isMsg_eq h8 h512)
      · refine qb (k H same_refl) ?_
        have h512 : ¬ m.length ≤ 512 := fun q => e2 (decide_eq_true (by rw [bv_len]; omega))
        unfold isMessage MESSAGE
        rw [decide_eq_false h512]
        simp
    · refine ⟨_, rfl, ?_⟩
      refine qb (k H same_refl) ?_
      have h8 : ¬ 8 ≤ m.length := fun q => e1 (decide_eq_true (by rw [bv_len]; omega))
      unfold isMessage
      rw [decide_eq_false h8]
      simp
theorem sc_may_hold_value : FnScope ["data", "place"] ["data", "place"] (defScope (top 21)) := ⟨rfl, rfl, rfl, by decide +kernel, rfl, by decide +kernel, by decide +kernel⟩
theorem ok_may_hold_value (g : Glo K mg aM aW aR) (G : Gf K mg "may_hold_value" (top 21)) : Cal P w K mg base 1 "may_hold_value" ["data", "place"] (spMay K) := by
  have nd := sc_may_hold_value.nd
  refine cal_of G (fun _ _ _ _ _ _ us hl => match us, hl with | [_, _], _ => rfl) sc_may_hold_value (fun vs H Q E h => ?_) (fun f cdv A outer s H vs Q E hr h => ?_)
  · obtain ⟨a, m, z, p, rfl, rfl, hS, k⟩ := h
    rfl
  · obtain ⟨a, m, z, p, rfl, rfl, hS, k⟩ := h
    have hu := hu_of hr
    have hu64 := hr.units
    refine ⟨_, (pss_one (ps_ret (pe_and (pe_cmpR op_ge (pv 1) (pe_gi g.c_FIRST_PLACE rfl) (nomark _)) (pe_and (pe_cmpR op_eq (pe_op op_mod (pv 1) (pe_gi g.c_STEP rfl)) pe_int (nomark _)) (pe_one (pe_cmpR op_le (pv 1) (pe_op op_sub (pe_callB call_len_seq rfl g.b_len PySem.boot_len (pa_cons (pv 0) pa_nil)) (pe_gi g.c_STEP rfl)) (nomark _))))))), ?_⟩
    have ek : mayHold m p = (decide (8 ≤ (p : Int)) && (decide ((p : Int) % 4 = 0) && decide ((p : Int) ≤ (m.length : Int) - 4))) := by
      unfold mayHold
      congr 1
      · exact decide_eq_decide.mpr (by omega)
      · congr 1
        · exact decide_eq_decide.mpr (by omega)
        · exact decide_eq_decide.mpr (by omega)
    refine ⟨_, rfl, _, _, rfl, rfl, _, rfl, ite2 (fun e1 => ?_) fun e1 => ?_⟩
    · refine ⟨_, rfl, _, _, rfl, rfl, (by show (0 : Int) < 4; decide), rfl, _, rfl, ite2 (fun e2 => ?_) fun e2 => ?_⟩
      · refine ⟨_, rfl, _, rfl, _, _, rfl, .inl hS, _, _, rfl, rfl, _, _, rfl, rfl, ?_⟩
        refine qb k ?_
        rw [bv_len, ek, e1]
        have e2' : decide ((p : Int) % 4 = 0) = true := decide_eq_true (V.int.inj (of_decide_eq_true e2))
        rw [e2']
        rfl
      · refine qb k ?_
        have e2' : decide ((p : Int) % 4 = 0) = false := decide_eq_false fun q => e2 (decide_eq_true (congrArg V.int q))
        rw [ek, e2']
        simp
    · refine qb k ?_
      rw [ek, eq_false_of_ne_true e1]
      rfl
end
end FmP
set_option Elab.async false
set_option linter.all false
set_option maxRecDepth 100000
set_option maxHeartbeats 2000000
namespace FmP
open PySem PySem.Spec PyProof.Rows L2
open Fm FmM
theorem map_get {α β : Type} {f : α → β} {l : List α} {i : Nat} {x : α} {y : β} (h : l[i]? = some x) (e : (l.map f)[i]? = some y) : y = f x := by
  rw [List.getElem?_map, h] at e
  exact (Option.some.inj e).symm
theorem bv_item {m : Bytes} {i : Nat} {x : V} (h : (bv m)[i]? = some x) : ∃ c, m[i]? = some c ∧ x = .int (c.toNat : Nat) := by
  unfold bv at h
  rw [List.getElem?_map] at h
  cases e : m[i]? with
  | none => rw [e] at h; cases h
  | some n => rw [e] at h; cases h; exact ⟨n, rfl, rfl⟩
theorem byte0 (c : UInt8) : decide (V.int ((c.toNat : Nat) : Int) = V.int 0) = (c == 0) := by
  have h := byte_eq c 0 (by decide)
  rw [show (UInt8.ofNat 0) = 0 from rfl] at h
  rw [← h]
  by_cases e : ((c.toNat : Nat) : Int) = 0
  · rw [e]; rfl
  · rw [decide_eq_false fun q => e (V.int.inj q)]
    exact (beq_eq_false_iff_ne.mpr e).symm
/-- the pairs of neighbours -/
theorem rising_zip (ks : List Nat) : rising ks = ((ks.zip (ks.drop 1)).map fun x => decide (x.1 < x.2)).all id := by
  unfold rising
  rw [all_of]
theorem zip_get {ks : List Nat} {i x z : Nat} (h1 : ks[i]? = some x) (h2 : (ks.drop 1)[i]? = some z) : (ks.zip (ks.drop 1))[i]? = some (x, z) := by
  rw [List.getElem?_zip_eq_some]
  exact ⟨h1, h2⟩
theorem map_gets {α β : Type} {f : α → β} {l : List α} {i : Nat} {x : α} (h : l[i]? = some x) : (l.map f)[i]? = some (f x) := by
  rw [List.getElem?_map, h]
  rfl
section
variable {P : Program} {w : World} {K : PySem.W.Frag} {mg : Str → Option Value} {base : Heap} {aM aW aR : Addr}
theorem sc_filling_is_zeros : FnScope ["data", "at", "count", "filling", "one"] ["data", "at"] (defScope (top 22)) := ⟨rfl, rfl, rfl, by decide +kernel, rfl, by decide +kernel, by decide +kernel⟩
theorem ok_filling_is_zeros (g : Glo K mg aM aW aR) (G : Gf K mg "filling_is_zeros" (top 22)) (c_count_at : Cal P w K mg base 2 "count_at" ["data", "at"] (spCount K)) (c_rounded_up : Cal P w K mg base 1 "rounded_up" ["length"] spUp) : Cal P w K mg base 3 "filling_is_zeros" ["data", "at"] (spZeros K) := by
  have nd := sc_filling_is_zeros.nd
  refine cal_of G (fun _ _ _ _ _ _ us hl => match us, hl with | [_, _], _ => rfl) sc_filling_is_zeros (fun vs H Q E h => ?_) (fun f cdv A outer s H vs Q E hr h => ?_)
  · obtain ⟨a, m, z, p, rfl, rfl, hS, hm, ho, k⟩ := h
    rfl
  · obtain ⟨a, m, z, p, rfl, rfl, hS, hm, ho, k⟩ := h
    have hu := hu_of hr
    have hu64 := hr.units
    refine ⟨_, (pss_cons (ps_set (i := 2) nd rfl (Or.inl rfl) (pe_cal c_count_at hr rfl (pa_cons (pv 0) (pa_cons (pv 1) pa_nil))))
      (pss_cons (ps_set (i := 3) nd rfl (Or.inl rfl) (pe_slice sl_list (pv 0) (po_some (pe_op op_add (pe_op op_add (pv 1) pe_int) (pv 2))) (po_some (pe_op op_add (pe_op op_add (pv 1) pe_int) (pe_cal c_rounded_up hr rfl (pa_cons (pv 2) pa_nil))))))
      (pss_one (ps_ret (pe_callB (cr_all rfl) rfl g.b_all bo_all (pa_cons (pe_lc rfl nd (own := [("one", 4)]) (pi_list (pv 3)) (blkOk_by (N := ["data", "at", "count", "filling", "one"]) (sc := defScope (top 22)) (by decide +kernel)) (fun _ _ _ _ _ => (pg_name (i := 4) nd rfl (Or.inl rfl))) (fun _ _ _ _ _ => pts_nil) (fun _ _ _ _ _ => (pe_cmpR op_eq (pv 4) pe_int (nomark _)))) pa_nil)))))), ?_⟩
    have ug := up4_ge (countAt m p)
    refine ⟨_, rfl, _, rfl, a, m, _, p, rfl, rfl, hS, by omega, ?_⟩
    refine ⟨_, rfl, _, rfl, _, _, rfl, rfl, _, rfl, _, _, rfl, rfl, _, rfl, _, rfl, _, _, rfl, rfl, _, rfl, _, countAt m p, rfl, rfl, by omega, _, _, rfl, rfl, _, rfl, _, _, rfl, hS, fun l hl => ?_⟩
    have ec : cutV (bv m) (some ((p : Int) + 4 + (countAt m p : Nat))) (some ((p : Int) + 4 + (up4 (countAt m p) : Nat))) = bv ((m.drop (p + 4 + countAt m p)).take (up4 (countAt m p) - countAt m p)) := by
      show cutV (bv m) (some ((p + 4 + countAt m p : Nat) : Int)) (some ((p + 4 + up4 (countAt m p) : Nat) : Int)) = _
      rw [cut_nat, bv_drop, bv_take]
      congr 2
      omega
    rw [ec]
    generalize hF : (m.drop (p + 4 + countAt m p)).take (up4 (countAt m p) - countAt m p) = F
    have hFl : F.length ≤ 600 := by rw [← hF, List.length_take, List.length_drop]; omega
    have s1 : Same H (upd H l (.lst (bv F))) := same_upd same_refl hl
    refine ⟨_, rfl, _, rfl, ⟨_, SqL.of upd_same⟩, fun D hD => lcL (ys := (F.map fun c => c == 0).map V.bl) hD (SqL.of upd_same) (by rw [bls_len, List.length_map, bv_len]) (line600 (by rw [bv_len]; exact hFl)) (fun _ => rfl) (fun i x y H' hx hy sm R hR => ?_) fun H' h1 s' => ?_⟩
    · obtain ⟨c, hc, rfl⟩ := bv_item hx
      refine ⟨_, rfl, rfl, ?_⟩
      have e : y = V.bl (c == 0) := map_get (f := V.bl) (x := (c == 0)) (map_gets (f := fun (c : UInt8) => c == 0) hc) hy
      subst e
      have q := hR H' same_refl
      rw [← byte0] at q
      exact q
    · refine ⟨_, _, rfl, SqL.of h1, ?_⟩
      refine qb (k H' (s1.trans s')) ?_
      rw [all_of]
      unfold zerosIn
      rw [hF]
theorem sc_places_are_right : FnScope ["data", "at", "place"] ["data", "at"] (defScope (top 23)) := ⟨rfl, rfl, rfl, by decide +kernel, rfl, by decide +kernel, by decide +kernel⟩
theorem ok_places_are_right (g : Glo K mg aM aW aR) (G : Gf K mg "places_are_right" (top 23)) (c_may_hold_value : Cal P w K mg base 1 "may_hold_value" ["data", "place"] (spMay K)) (c_places_in : Cal P w K mg base 3 "places_in" ["data", "at"] (spPlaces K)) : Cal P w K mg base 4 "places_are_right" ["data", "at"] (spPlacesRight K) := by
  have nd := sc_places_are_right.nd
  refine cal_of G (fun _ _ _ _ _ _ us hl => match us, hl with | [_, _], _ => rfl) sc_places_are_right (fun vs H Q E h => ?_) (fun f cdv A outer s H vs Q E hr h => ?_)
  · obtain ⟨a, m, z, p, rfl, rfl, hS, hm, h8, hp, ho, k⟩ := h
    rfl
  · obtain ⟨a, m, z, p, rfl, rfl, hS, hm, h8, hp, ho, k⟩ := h
    have hu := hu_of hr
    have hu64 := hr.units
    refine ⟨_, (pss_one (ps_ret (pe_callB (cr_all rfl) rfl g.b_all bo_all (pa_cons (pe_lc rfl nd (own := [("place", 2)]) (pi_list (pe_cal c_places_in hr rfl (pa_cons (pv 0) (pa_cons (pv 1) pa_nil)))) (blkOk_by (N := ["data", "at", "place"]) (sc := defScope (top 23)) (by decide +kernel)) (fun _ _ _ _ _ => (pg_name (i := 2) nd rfl (Or.inl rfl))) (fun _ _ _ _ _ => pts_nil) (fun _ _ _ _ _ => (pe_and (pe_cmpR op_gt (pv 2) (pv 1) (nomark _)) (pe_one (pe_cal c_may_hold_value hr rfl (pa_cons (pv 0) (pa_cons (pv 2) pa_nil))))))) pa_nil)))), ?_⟩
    refine ⟨_, rfl, _, rfl, a, m, _, p, rfl, rfl, hS, hm, hp, ho, fun H1 q hq h1 s1 => ⟨q, rfl, ⟨_, SqL.of h1⟩, fun D hD => lcL (ys := ((placesIn m p).map (mayPoint m p)).map V.bl) hD (SqL.of h1) (by rw [bls_len, List.length_map, nv_len]) ?_ (fun _ => rfl) (fun i x y H' hx hy sm R hR => ?_) fun H' h2 s' => ?_⟩⟩
    · rw [nv_len]
      by_cases nn : kindAt m p = 1 ∨ kindAt m p = 2
      · unfold placesIn
        rw [if_pos nn]
        exact Nat.zero_le _
      · rw [placesIn_len nn]
        have := own_ge nn
        exact line600 (by omega)
    · obtain ⟨n, hn, rfl⟩ := nv_get hx
      have e : y = V.bl (mayPoint m p n) := map_get (f := V.bl) (x := mayPoint m p n) (map_gets (f := mayPoint m p) hn) hy
      subst e
      have q := hR H' same_refl
      rw [mayPoint_eq h8] at q
      refine ⟨_, rfl, _, rfl, _, _, rfl, rfl, _, rfl, ite2 (fun e1 => ?_) fun e1 => ?_⟩
      · refine ⟨_, rfl, _, rfl, a, m, _, n, rfl, rfl, (s1.trans sm).seq hS, ?_⟩
        have e1' : p < n := by have := of_decide_eq_true e1; omega
        rw [decide_eq_true e1', Bool.true_and] at q
        exact q
      · have e1' : ¬ p < n := fun q => e1 (decide_eq_true (by omega))
        rw [decide_eq_false e1', Bool.false_and] at q
        exact q
    · refine ⟨_, _, rfl, SqL.of h2, ?_⟩
      exact qb (k H' (s1.trans s')) (all_of _ _)
theorem sc_keys_rise : FnScope ["keys", "one", "other"] ["keys"] (defScope (top 24)) := ⟨rfl, rfl, rfl, by decide +kernel, rfl, by decide +kernel, by decide +kernel⟩
theorem ok_keys_rise (g : Glo K mg aM aW aR) (G : Gf K mg "keys_rise" (top 24)) : Cal P w K mg base 1 "keys_rise" ["keys"] (spRise K) := by
  have nd := sc_keys_rise.nd
  refine cal_of G (fun _ _ _ _ _ _ us hl => match us, hl with | [_], _ => rfl) sc_keys_rise (fun vs H Q E h => ?_) (fun f cdv A outer s H vs Q E hr h => ?_)
  · obtain ⟨a, ks, rfl, hS, hl, k⟩ := h
    rfl
  · obtain ⟨a, ks, rfl, hS, hl, k⟩ := h
    have hu := hu_of hr
    have hu64 := hr.units
    refine ⟨_, (pss_one (ps_ret (pe_callB (cr_all rfl) rfl g.b_all bo_all (pa_cons (pe_lc rfl nd (own := [("one", 1), ("other", 2)]) (pi_zip rfl g.b_zip (pa_cons (pv 0) (pa_cons (pe_slice sl_list (pv 0) (po_some pe_int) po_none) pa_nil))) (blkOk_by (N := ["keys", "one", "other"]) (sc := defScope (top 24)) (by decide +kernel)) (fun _ _ _ _ _ => (pg_pair (K := K) (i := 1) (j := 2) rfl rfl nd rfl rfl (Or.inl rfl) (Or.inl rfl) (Or.inr rfl) (Or.inr rfl))) (fun _ _ _ _ _ => pts_nil) (fun _ _ _ _ _ => (pe_cmpR op_lt (pv 1) (pv 2) (nomark _)))) pa_nil)))), ?_⟩
    refine ⟨_, rfl, _, rfl, _, rfl, _, _, rfl, hS, fun l hl0 => ?_⟩
    have ec : cutV (nv ks) (some (1 : Int)) none = nv (ks.drop 1) := (cut_lo (nv ks) 1).trans (nv_drop ks 1)
    rw [ec]
    have s1 : Same H (upd H l (.lst (nv (ks.drop 1)))) := same_upd same_refl hl0
    refine ⟨_, _, _, _, rfl, s1.seq hS, SqL.of upd_same, fun D hD => lcZ (ys := ((ks.zip (ks.drop 1)).map fun x => decide (x.1 < x.2)).map V.bl) hD (s1.seq hS) (SqL.of upd_same) (by rw [bls_len, List.length_map, List.length_zip, nv_len, nv_len]) ?_ (fun _ _ => rfl) (fun i x z y H' hx hz hy sm R hR => ?_) fun H' h2 s' => ?_⟩
    · rw [bls_len, List.length_map, List.length_zip]
      exact line600 (by omega)
    · obtain ⟨n, hn, rfl⟩ := nv_get hx
      obtain ⟨n2, hn2, rfl⟩ := nv_get hz
      have e : y = V.bl (decide (n < n2)) := map_get (f := V.bl) (x := decide (n < n2)) (map_gets (f := fun (x : Nat × Nat) => decide (x.1 < x.2)) (zip_get hn hn2)) hy
      subst e
      refine ⟨_, rfl, _, rfl, _, _, rfl, rfl, ?_⟩
      exact qb (hR H' same_refl) (decide_eq_decide.mpr (by omega))
    · refine ⟨_, _, rfl, SqL.of h2, ?_⟩
      exact qb (k H' (s1.trans s')) (rising_zip ks).symm
theorem sc_inside_is_right : FnScope ["data", "at", "kind"] ["data", "at"] (defScope (top 25)) := ⟨rfl, rfl, rfl, by decide +kernel, rfl, by decide +kernel, by decide +kernel⟩
theorem ok_inside_is_right (g : Glo K mg aM aW aR) (G : Gf K mg "inside_is_right" (top 25)) (c_count_at : Cal P w K mg base 2 "count_at" ["data", "at"] (spCount K)) (c_filling_is_zeros : Cal P w K mg base 3 "filling_is_zeros" ["data", "at"] (spZeros K)) (c_keys_in : Cal P w K mg base 3 "keys_in" ["data", "at"] (spKeys K)) (c_keys_rise : Cal P w K mg base 1 "keys_rise" ["keys"] (spRise K)) (c_kind_at : Cal P w K mg base 1 "kind_at" ["data", "at"] (spKind K)) (c_places_are_right : Cal P w K mg base 4 "places_are_right" ["data", "at"] (spPlacesRight K)) : Cal P w K mg base 5 "inside_is_right" ["data", "at"] (spInside K) := by
  have nd := sc_inside_is_right.nd
  refine cal_of G (fun _ _ _ _ _ _ us hl => match us, hl with | [_, _], _ => rfl) sc_inside_is_right (fun vs H Q E h => ?_) (fun f cdv A outer s H vs Q E hr h => ?_)
  · obtain ⟨a, m, z, p, rfl, rfl, hS, hm, h8, hp, ho, k⟩ := h
    rfl
  · obtain ⟨a, m, z, p, rfl, rfl, hS, hm, h8, hp, ho, k⟩ := h
    have hu := hu_of hr
    have hu64 := hr.units
    refine ⟨_, (pss_cons (ps_set (i := 2) nd rfl (Or.inl rfl) (pe_cal c_kind_at hr rfl (pa_cons (pv 0) (pa_cons (pv 1) pa_nil))))
      (pss_cons (ps_if (pt_cmpR op_eq (pv 2) (pe_gi g.c_NUMBER rfl) (nomark _)) (pss_one (ps_ret (pe_cmpR op_eq (pe_cal c_count_at hr rfl (pa_cons (pv 0) (pa_cons (pv 1) pa_nil))) pe_int (nomark _)))) pss_nil)
      (pss_cons (ps_if (pt_cmpR op_eq (pv 2) (pe_gi g.c_BYTES rfl) (nomark _)) (pss_one (ps_ret (pe_cal c_filling_is_zeros hr rfl (pa_cons (pv 0) (pa_cons (pv 1) pa_nil))))) pss_nil)
      (pss_cons (ps_if (PW.pt (pw_and (pt_cmpR op_eq (pv 2) (pe_gi g.c_RECORD rfl) (nomark _)) (pw_and1 (pt_not (pt_val (pe_cal c_keys_rise hr rfl (pa_cons (pe_cal c_keys_in hr rfl (pa_cons (pv 0) (pa_cons (pv 1) pa_nil))) pa_nil))))))) (pss_one (ps_ret pe_bl)) pss_nil)
      (pss_one (ps_ret (pe_cal c_places_are_right hr rfl (pa_cons (pv 0) (pa_cons (pv 1) pa_nil))))))))), ?_⟩
    refine ⟨_, rfl, _, rfl, a, m, _, p, rfl, rfl, hS, by omega, ?_⟩
    refine ⟨_, rfl, rfl, _, rfl, ite2 (fun e1 => ?_) fun e1 => ?_⟩
    · have e : kindAt m p = 1 := by have e := V.int.inj (of_decide_eq_true e1); omega
      refine ⟨_, rfl, _, rfl, a, m, _, p, rfl, rfl, hS, hp, rfl, ?_⟩
      refine qb (k H same_refl) ?_
      unfold insideRight
      rw [if_pos e]
      exact decide_eq_decide.mpr ⟨fun q => by have := V.int.inj q; omega, fun q => by rw [q]; rfl⟩
    have n1 : ¬ kindAt m p = 1 := fun q => e1 (by rw [q]; rfl)
    refine ⟨_, rfl, rfl, _, rfl, ite2 (fun e2 => ?_) fun e2 => ?_⟩
    · have e : kindAt m p = 2 := by have e := V.int.inj (of_decide_eq_true e2); omega
      have eo : ownSize (kindAt m p) (countAt m p) = 4 + up4 (countAt m p) := by unfold ownSize; rw [e]; rfl
      refine ⟨_, rfl, _, rfl, a, m, _, p, rfl, rfl, hS, hm, by omega, fun H' s' => ?_⟩
      refine qb (k H' s') ?_
      unfold insideRight
      rw [if_neg n1, if_pos e]
    have n2 : ¬ kindAt m p = 2 := fun q => e2 (by rw [q]; rfl)
    have nn : ¬ (kindAt m p = 1 ∨ kindAt m p = 2) := by omega
    refine ⟨_, rfl, rfl, _, rfl, ite2 (fun e4 => ?_) fun e4 => ?_⟩
    · have e : kindAt m p = 4 := by have e := V.int.inj (of_decide_eq_true e4); omega
      have eo := own_rec nn (by omega)
      refine ⟨_, rfl, _, rfl, a, m, _, p, rfl, rfl, hS, hm, by omega, fun H1 q hq h1 s1 => ⟨q, keysIn m p, rfl, SqL.of h1, ?_, fun H2 s2 => ⟨_, rfl, ?_⟩⟩⟩
      · rw [keysIn_len]; omega
      cases hr2 : rising (keysIn m p)
      · refine iteT ?_
        refine qb (k H2 (s1.trans s2)) ?_
        unfold insideRight
        rw [if_neg n1, if_neg n2, if_pos ⟨e, hr2⟩]
      · refine iteF ?_
        refine ⟨_, rfl, _, rfl, a, m, _, p, rfl, rfl, (s1.trans s2).seq hS, hm, h8, hp, ho, fun H' s' => ?_⟩
        refine qb (k H' ((s1.trans s2).trans s')) ?_
        unfold insideRight
        rw [if_neg n1, if_neg n2, if_neg (fun q => by rw [hr2] at q; cases q.2)]
    have n4 : ¬ kindAt m p = 4 := fun q => e4 (by rw [q]; rfl)
    refine iteF ?_
    refine ⟨_, rfl, _, rfl, a, m, _, p, rfl, rfl, hS, hm, h8, hp, ho, fun H' s' => ?_⟩
    refine qb (k H' s') ?_
    unfold insideRight
    rw [if_neg n1, if_neg n2, if_neg (fun q => n4 q.1)]
theorem sc_stands_right : FnScope ["data", "at", "kind"] ["data", "at"] (defScope (top 26)) := ⟨rfl, rfl, rfl, by decide +kernel, rfl, by decide +kernel, by decide +kernel⟩
theorem ok_stands_right (g : Glo K mg aM aW aR) (G : Gf K mg "stands_right" (top 26)) (c_count_at : Cal P w K mg base 2 "count_at" ["data", "at"] (spCount K)) (c_inside_is_right : Cal P w K mg base 5 "inside_is_right" ["data", "at"] (spInside K)) (c_is_message : Cal P w K mg base 1 "is_message" ["data"] (spIsMsg K)) (c_kind_at : Cal P w K mg base 1 "kind_at" ["data", "at"] (spKind K)) (c_may_hold_value : Cal P w K mg base 1 "may_hold_value" ["data", "place"] (spMay K)) (c_own_size : Cal P w K mg base 2 "own_size" ["kind", "count"] spOwn) : Cal P w K mg base 6 "stands_right" ["data", "at"] (spStands K) := by
  have nd := sc_stands_right.nd
  refine cal_of G (fun _ _ _ _ _ _ us hl => match us, hl with | [_, _], _ => rfl) sc_stands_right (fun vs H Q E h => ?_) (fun f cdv A outer s H vs Q E hr h => ?_)
  · obtain ⟨a, m, z, p, rfl, rfl, hS, hm, k⟩ := h
    rfl
  · obtain ⟨a, m, z, p, rfl, rfl, hS, hm, k⟩ := h
    have hu := hu_of hr
    have hu64 := hr.units
    refine ⟨_, (pss_cons (ps_if (PW.pt (pw_or (pt_not (pt_val (pe_cal c_is_message hr rfl (pa_cons (pv 0) pa_nil)))) (pw_or1 (pt_not (pt_val (pe_cal c_may_hold_value hr rfl (pa_cons (pv 0) (pa_cons (pv 1) pa_nil)))))))) (pss_one (ps_ret pe_bl)) pss_nil)
      (pss_cons (ps_set (i := 2) nd rfl (Or.inl rfl) (pe_cal c_kind_at hr rfl (pa_cons (pv 0) (pa_cons (pv 1) pa_nil))))
      (pss_cons (ps_if (PW.pt (pw_or (pt_cmpR op_lt (pv 2) (pe_gi g.c_NUMBER rfl) (nomark _)) (pw_or1 (pt_cmpR op_gt (pv 2) (pe_gi g.c_RECORD rfl) (nomark _))))) (pss_one (ps_ret pe_bl)) pss_nil)
      (pss_cons (ps_if (pt_cmpR op_gt (pe_op op_add (pv 1) (pe_cal c_own_size hr rfl (pa_cons (pv 2) (pa_cons (pe_cal c_count_at hr rfl (pa_cons (pv 0) (pa_cons (pv 1) pa_nil))) pa_nil)))) (pe_callB call_len_seq rfl g.b_len PySem.boot_len (pa_cons (pv 0) pa_nil)) (nomark _)) (pss_one (ps_ret pe_bl)) pss_nil)
      (pss_one (ps_ret (pe_cal c_inside_is_right hr rfl (pa_cons (pv 0) (pa_cons (pv 1) pa_nil))))))))), ?_⟩
    refine ⟨_, rfl, a, m, rfl, hS, fun H1 s1 => ⟨_, rfl, ?_⟩⟩
    cases g1 : isMessage m
    · refine iteT (iteT ?_)
      refine qb (k H1 s1) ?_
      unfold standsRight
      rw [if_pos (Or.inl g1)]
    refine iteF ?_
    refine ⟨_, rfl, _, rfl, a, m, _, p, rfl, rfl, s1.seq hS, _, rfl, ?_⟩
    cases g2 : mayHold m p
    · refine iteT ?_
      refine qb (k H1 s1) ?_
      unfold standsRight
      rw [if_pos (Or.inr g2)]
    refine iteF ?_
    have gg : ¬ (isMessage m = false ∨ mayHold m p = false) := fun q => by rcases q with q | q <;> simp_all
    obtain ⟨h8, h4, hp⟩ := mayHold_iff.mp g2
    refine ⟨_, rfl, _, rfl, a, m, _, p, rfl, rfl, s1.seq hS, by omega, ?_⟩
    refine ⟨_, rfl, _, _, rfl, rfl, _, rfl, ite2 (fun e1 => ?_) fun e1 => ?_⟩
    · have e : kindAt m p < 1 := by have := of_decide_eq_true e1; omega
      refine iteT ?_
      refine qb (k H1 s1) ?_
      unfold standsRight
      rw [if_neg gg, if_pos (Or.inl e)]
    have n1 : ¬ kindAt m p < 1 := fun q => e1 (decide_eq_true (by omega))
    refine ⟨_, rfl, _, _, rfl, rfl, _, rfl, ite2 (fun e2 => ?_) fun e2 => ?_⟩
    · have e : 4 < kindAt m p := by have := of_decide_eq_true e2; omega
      refine qb (k H1 s1) ?_
      unfold standsRight
      rw [if_neg gg, if_pos (Or.inr e)]
    have n2 : ¬ 4 < kindAt m p := fun q => e2 (decide_eq_true (by omega))
    have nk : ¬ (kindAt m p < 1 ∨ 4 < kindAt m p) := by omega
    have cl := num3_lt m (p + 1)
    refine ⟨_, rfl, _, rfl, _, rfl, _, rfl, a, m, _, p, rfl, rfl, s1.seq hS, hp, _, _, kindAt m p, countAt m p, rfl, rfl, rfl, (by unfold countAt; omega), _, _, rfl, rfl, _, rfl, _, _, rfl, .inl (s1.seq hS), _, _, rfl, rfl, _, rfl, ite2 (fun e3 => ?_) fun e3 => ?_⟩
    · have e : m.length < p + ownSize (kindAt m p) (countAt m p) := by have := of_decide_eq_true e3; rw [bv_len] at this; omega
      refine qb (k H1 s1) ?_
      unfold standsRight
      rw [if_neg gg, if_neg nk, if_pos e]
    have n3 : ¬ m.length < p + ownSize (kindAt m p) (countAt m p) := fun q => e3 (decide_eq_true (by rw [bv_len]; omega))
    refine ⟨_, rfl, _, rfl, a, m, _, p, rfl, rfl, s1.seq hS, hm, h8, hp, by omega, fun H' s' => ?_⟩
    refine qb (k H' (s1.trans s')) ?_
    unfold standsRight
    rw [if_neg gg, if_neg nk, if_neg n3]
end
end FmP
set_option Elab.async false
set_option linter.all false
set_option maxRecDepth 100000
namespace FmP
open PySem PySem.Spec PyProof.Rows L2
/-! ### max(xs, default=d) -/
theorem mx_args (a v : Value) : argsOk "max" ⟨[a], [(Str.ofString "default", v)]⟩ := by unfold argsOk; kernel_rfl
section
variable {P : Program} {w : World} {A : Around} {R : Result → Shared → Prop} {I : Addr} {fp wr : List Addr} {n : Nat} {Is : Nat → Value → Prop} {St : Nat → Heap → Prop} {kw : List (Str × Value)}
abbrev boxL (xs : Array Value) (c : Nat) : Obj := { cls := .type "list", dict := none, data := .seq xs c, slots := #[] }
theorem mx_loop (W : Walks P w A.in1 I fp wr n Is St) (bt : Nat → Nat → Bool) (cmp : CmpOf P w A.in1 .Gt Is bt) (B : Addr) (nB : B ∉ fp) :
    ∀ (k j : Nat) (s : Shared) (v0 : Value) (c : Nat), n - (j + 1) = k → j + 1 ≤ n → St (j + 1) s.heap → Is (argBest bt j) v0 → s.heap.get? B = some (boxL #[v0, v0] c) →
    (∀ v h1 tk, Is (argBest bt (n - 1)) v → (∀ b o, b ∉ wr → b ≠ B → s.heap.get? b = some o → h1.get? b = some o) → R (.ok (.ret v)) { s with heap := h1, toks := tk }) →
    codeAny (model P w) A (.builtin "max.loop" ⟨[.ref I, .none, .ref B], kw⟩) R s := by
  have nW : B ∉ wr := fun z => nB (W.sub _ z)
  have nm : (toString "max" ++ toString ".loop" : String) = "max.loop" := by decide
  intro k
  induction k with
  | zero =>
    intro j s v0 c e1 e2 st i0 hB out
    have en : j + 1 = n := by omega
    refine codeAny_builtin F.entry_max_loop ?_
    rw [Around.under_plainId F.plain_max_loop _]
    show wpAny _ A.in1 (seqItems? (.ref B) >>= _) _ _ s
    refine wpAny_bind (wpAny_seqItems hB rfl ?_)
    show wpAny _ A.in1 (tryCatch (pyNext (.ref I)) _ >>= _) _ _ s
    refine wpAny_bind (wpAny_tryCatch (W.done s _ _ (en ▸ st) fun h1 tk kp => ?_))
    have hB1 := kp B _ nW hB
    show wpAny _ A.in1 (updateSeq B (fun _ => #[]) >>= _) _ _ _
    refine wpAny_bind ?_
    refine wpAny_updateSeq hB1 rfl (wpAny_bind (wpAny_letGo (wpAny_pure ?_)))
    exact out v0 _ tk (by rw [← en]; exact i0) fun b o z1 z2 z3 => (Heap.get?_update_other _ _ (Ne.symm z2)).trans (kp b o z1 z3)
  | succ k ih =>
    intro j s v0 c e1 e2 st i0 hB out
    have lt : j + 1 < n := by omega
    refine codeAny_builtin F.entry_max_loop ?_
    rw [Around.under_plainId F.plain_max_loop _]
    show wpAny _ A.in1 (seqItems? (.ref B) >>= _) _ _ s
    refine wpAny_bind (wpAny_seqItems hB rfl ?_)
    show wpAny _ A.in1 (tryCatch (pyNext (.ref I)) _ >>= _) _ _ s
    refine wpAny_bind (wpAny_tryCatch (W.item (j + 1) s _ _ lt st fun v h1 tk iv st1 kp => ?_))
    have hB1 := kp B _ nW hB
    show wpAny _ A.in1 (tryCatch (holding [v, v] (richCompare .Gt v v0 >>= _)) _ >>= _) _ _ _
    refine wpAny_bind (wpAny_tryCatch (wpAny_holding (wpAny_bind (cmp (j + 1) (argBest bt j) v v0 _ _ _ iv i0 ?_))))
    refine wpAny_bind (wpAny_holding (wpAny_truthy_bool ?_))
    refine wpAny_bind (wpAny_letGo (wpAny_pure ?_))
    cases q : bt (j + 1) (argBest bt j) with
    | true =>
      simp only [if_true]
      refine wpAny_bind ?_
      refine wpAny_updateSeq hB1 rfl (wpAny_bind (wpAny_letGo ?_))
      rw [nm]
      refine wpAny_pure ⟨plainId_quiet F.plain_max_loop _, ih (j + 1) _ v _ (by omega) lt (W.frame _ _ _ st1 fun b z1 o z2 => ?_) (by simp only [argBest, q, if_true]; exact iv) (Heap.get?_update_self _ hB1 rfl) fun v1 h2 tk2 i2 kp2 => ?_⟩
      · exact (Heap.get?_update_other _ _ (fun z : B = b => nB (by rw [z]; exact z1))).trans z2
      · exact out v1 h2 tk2 i2 fun b o z1 z2 z3 => kp2 b o z1 z2 ((Heap.get?_update_other _ _ (Ne.symm z2)).trans (kp b o z1 z3))
    | false =>
      simp only [Bool.false_eq_true, if_false]
      refine wpAny_bind (wpAny_letGo ?_)
      rw [nm]
      refine wpAny_pure ⟨plainId_quiet F.plain_max_loop _, ih (j + 1) _ v0 c (by omega) lt st1 (by simp only [argBest, q, Bool.false_eq_true, if_false]; exact i0) hB1 fun v1 h2 tk2 i2 kp2 => ?_⟩
      exact out v1 h2 tk2 i2 fun b o z1 z2 z3 => kp2 b o z1 z2 (kp b o z1 z3)
theorem mx_first (W : Walks P w A.in1 I fp wr n Is St) (bt : Nat → Nat → Bool) (cmp : CmpOf P w A.in1 .Gt Is bt) (B : Addr) (nB : B ∉ fp) (h0 : 0 < n) {s : Shared} {c : Nat} (st : St 0 s.heap) (hB : s.heap.get? B = some (boxL #[] c))
    (out : ∀ v h1 tk, Is (argBest bt (n - 1)) v → (∀ b o, b ∉ wr → b ≠ B → s.heap.get? b = some o → h1.get? b = some o) → R (.ok (.ret v)) { s with heap := h1, toks := tk }) :
    codeAny (model P w) A (.builtin "max.loop" ⟨[.ref I, .none, .ref B], kw⟩) R s := by
  have nW : B ∉ wr := fun z => nB (W.sub _ z)
  have nm : (toString "max" ++ toString ".loop" : String) = "max.loop" := by decide
  refine codeAny_builtin F.entry_max_loop ?_
  rw [Around.under_plainId F.plain_max_loop _]
  show wpAny _ A.in1 (seqItems? (.ref B) >>= _) _ _ s
  refine wpAny_bind (wpAny_seqItems hB rfl ?_)
  show wpAny _ A.in1 (tryCatch (pyNext (.ref I)) _ >>= _) _ _ s
  refine wpAny_bind (wpAny_tryCatch (W.item 0 s _ _ h0 st fun v h1 tk iv st1 kp => ?_))
  have hB1 := kp B _ nW hB
  show wpAny _ A.in1 (updateSeq B (fun _ => #[v, v]) >>= _) _ _ _
  refine wpAny_bind ?_
  refine wpAny_updateSeq hB1 rfl ?_
  rw [nm]
  refine wpAny_pure ⟨plainId_quiet F.plain_max_loop _, mx_loop W bt cmp B nB _ 0 _ v _ rfl h0 (W.frame _ _ _ st1 fun b z1 o z2 => ?_) iv (Heap.get?_update_self _ hB1 rfl) fun v1 h2 tk2 i2 kp2 => ?_⟩
  · exact (Heap.get?_update_other _ _ (fun z : B = b => nB (by rw [z]; exact z1))).trans z2
  · exact out v1 h2 tk2 i2 fun b o z1 z2 z3 => kp2 b o z1 z2 ((Heap.get?_update_other _ _ (Ne.symm z2)).trans (kp b o z1 z3))
theorem mx_none (W : Walks P w A.in1 I fp wr n Is St) (B : Addr) (nB : B ∉ fp) (h0 : n = 0) {s : Shared} {c : Nat} {x : Str} {d : Value} (st : St 0 s.heap) (hB : s.heap.get? B = some (boxL #[] c))
    (out : ∀ h1 tk, (∀ b o, b ∉ wr → s.heap.get? b = some o → h1.get? b = some o) → R (.ok (.ret d)) { s with heap := h1, toks := tk }) :
    codeAny (model P w) A (.builtin "max.loop" ⟨[.ref I, .none, .ref B], [(x, d)]⟩) R s := by
  subst h0
  refine codeAny_builtin F.entry_max_loop ?_
  rw [Around.under_plainId F.plain_max_loop _]
  show wpAny _ A.in1 (seqItems? (.ref B) >>= _) _ _ s
  refine wpAny_bind (wpAny_seqItems hB rfl ?_)
  show wpAny _ A.in1 (tryCatch (pyNext (.ref I)) _ >>= _) _ _ s
  refine wpAny_bind (wpAny_tryCatch (W.done s _ _ st fun h1 tk kp => ?_))
  refine wpAny_bind (wpAny_rule ?_)
  exact wpAny_pure (out h1 tk kp)
end
section
variable {P : Program} {w : World} {A : Around} {E : Value → Shared → Prop} {s : Shared} {l : Addr} {xs : Array (Int × Tok)}
theorem mx_call {Q : Value → Shared → Prop} {d : Value} (hh : A.handled = none) (hl : s.heap.IsList l (intItems xs))
    (o0 : xs.size = 0 → ∀ h1 tk, (∀ b o, s.heap.get? b = some o → h1.get? b = some o) → Q d { s with heap := h1, toks := tk })
    (o1 : 0 < xs.size → ∀ v h1 tk, (intItems xs)[argBest (fun i j => decide (numAt xs i > numAt xs j)) (xs.size - 1)]? = some v → (∀ b o, s.heap.get? b = some o → h1.get? b = some o) → Q v { s with heap := h1, toks := tk }) :
    wpAny (model P w) A (call (.builtin "max") [.ref l] [(Str.ofString "default", d)]) Q E s := by
  have nm : (toString "max" ++ toString ".loop" : String) = "max.loop" := by decide
  refine kmk_tree F.kind_max F.plain_max F.entry_max (mx_args _ _) ?_
  show wpAny _ A.in1 (Builtin.Builtins.bindParams "max" ["key", "default"] 0 ⟨[], [(Str.ofString "default", d)]⟩ >>= _) _ _ s
  refine wpAny_bind (wpAny_of_eq (show Builtin.Builtins.bindParams "max" ["key", "default"] 0 ⟨[], [(Str.ofString "default", d)]⟩ = pure [none, some d] from rfl) ?_)
  refine wpAny_bind (wpAny_pure ?_)
  refine wpAny_bind (iter_intList hl fun s2 e st hf nl => ?_)
  subst e
  refine wpAny_bind (wpAny_newObj_type ?_)
  have W := Walks.list (prog := P) (w := w) (A := A.in1) hh s.heap.objs.size l nl (intItems xs)
  have hsz : (intItems xs).size = xs.size := by simp [intItems]
  generalize eS : (s.heap.push { cls := .type "list_iterator", data := .fields #[.ref l, .int 0 0] }) = h2 at *
  have nB : h2.objs.size ∉ [s.heap.objs.size, l] := fun z => Nat.lt_irrefl _ (hf _ z)
  have old : ∀ b o, s.heap.get? b = some o → h2.get? b = some o := fun b o z => by rw [← eS]; exact Heap.get?_push_of_some _ z
  rw [nm]
  by_cases z0 : xs.size = 0
  · refine wpAny_pure ⟨plainId_quiet F.plain_max_loop _, mx_none W _ nB (by rw [hsz]; exact z0) (W.frame _ _ _ st fun b _ o z => Heap.get?_push_of_some _ z) (Heap.get?_push_size _ rfl) fun h1 tk kp => ?_⟩
    refine o0 z0 h1 tk fun b o z => kp b o (fun q => ?_) (Heap.get?_push_of_some _ (old b o z))
    have : b = s.heap.objs.size := by simpa using q
    exact absurd (this ▸ Heap.lt_size z) (Nat.lt_irrefl _)
  · refine wpAny_pure ⟨plainId_quiet F.plain_max_loop _, mx_first W _ (CmpOf.ints_gt (PySem.numAt xs) (fun _ _ => intItems_at)) _ nB (by rw [hsz]; omega) (W.frame _ _ _ st fun b _ o z => Heap.get?_push_of_some _ z) (Heap.get?_push_size _ rfl) fun v h1 tk iv kp => ?_⟩
    refine o1 (by omega) v h1 tk (by rw [← hsz]; exact iv) fun b o z => kp b o (fun q => ?_) (Nat.ne_of_lt (Heap.lt_size (old b o z))) (Heap.get?_push_of_some _ (old b o z))
    have : b = s.heap.objs.size := by simpa using q
    exact absurd (this ▸ Heap.lt_size z) (Nat.lt_irrefl _)
end
theorem max_is {l : List Nat} {m : Int} (h : m ∈ l.map (fun n => ((n : Nat) : Int))) (hb : ∀ y ∈ l.map (fun n => ((n : Nat) : Int)), y ≤ m) : m = ((l.foldr max 0 : Nat) : Int) := by
  obtain ⟨n, hn, rfl⟩ := List.mem_map.mp h
  have h1 := FmM.foldr_max_ge l n hn
  have h2 : l.foldr max 0 ≤ n := by
    clear h h1 hn
    induction l with
    | nil => exact Nat.zero_le _
    | cons a l ih =>
      rw [List.foldr_cons]
      have := hb (a : Int) (by simp)
      have := ih fun y hy => hb y (by rw [List.map_cons]; exact List.mem_cons_of_mem _ hy)
      omega
  have : n = l.foldr max 0 := Nat.le_antisymm h1 h2
  rw [← this]
def tMaxD (K : PySem.W.Frag) (t td : TA) : TE := fun σ H Q => t σ H fun vs H1 => td σ H1 fun zs H2 => ∃ (a : Addr) (l : List Nat), vs = [V.ref a] ∧ zs = [V.int 0] ∧ SqL K H2 a (nv l) ∧ Q (.int ((l.foldr max 0 : Nat) : Int)) H2
theorem pe_maxD {X : Cx} {e d : Expr} {t td : TA} {p pos kp : Pos} (hc : X.calm = true) (hg : Gl X "max") (hm : X.mg "max" = none) (hv : bootBuiltins "max" = some (.builtin "max")) (ha : PA X [e] t) (hk : PK X [⟨some "default", d, kp⟩] td)
    (he : backTo pos (starEach [e] X.env) = (false, eval e X.env) :: backTo pos (starEach [] X.env) := by rfl) (hpl : (backTo pos (starEach [e] X.env)).any (·.1) = false := by rfl) :
    PE X (.Call (.Name "max" p) [e] [⟨some "default", d, kp⟩] pos) (tMaxD X.K t td) := by
  intro pins s σ H Q I h
  refine wpAny_Call_Name_kw (ld_blt I hg hm hv ?_)
  refine callWith_kw (thn (ha pos pins s σ H _ I h) fun us s1 ⟨vs, H1, I1, r, q⟩ => thn (hk pos pins s1 σ H1 _ I1 q) fun ws s2 ⟨zs, H2, I2, rz, q2⟩ => ?_) he hpl rfl rfl
  obtain ⟨a, l, rfl, rfl, hs, q3⟩ := q2
  obtain ⟨its, rv, hl, _⟩ := I2.list hs
  rw [Vals.ref1 r]
  cases rz with
  | cons r1 r2 =>
    cases r2
    obtain ⟨t1, rfl⟩ := r1
    show wpAny _ _ (call (.builtin "max") [.ref a] [(Str.ofString "default", .int 0 t1)]) _ _ s2
    have hnv : nv l = (l.map (fun n => ((n : Nat) : Int))).map V.int := by unfold nv; rw [List.map_map]; rfl
    rw [hnv] at rv
    have hi := rv.ints
    obtain ⟨xs, e⟩ := hi.allInts.items
    have hn : numsOf (intItems xs).toList = l.map (fun n => ((n : Nat) : Int)) := by rw [← e]; exact hi.numsOf
    rw [nums_intItems] at hn
    have hll : xs.size = l.length := by
      have := congrArg List.length hn
      rw [List.length_map, List.length_map, Array.length_toList] at this
      exact this
    refine mx_call (I2.ok.hd hc) (by rw [← e]; exact hl.isList) (fun z0 h1 tk kp => ?_) (fun z1 v h1 tk hv kp => ?_)
    · have : l = [] := by cases l with | nil => rfl | cons _ _ => rw [hll] at z0; simp at z0
      subst this
      exact ⟨.int _, H2, I2.kept kp, ⟨_, rfl⟩, q3⟩
    · obtain ⟨t, rfl⟩ := intItems_at hv
      obtain ⟨h1', h2'⟩ := argBest_gt (PySem.numAt xs) (xs.size - 1)
      have em : PySem.numAt xs (argBest (fun i j => decide (PySem.numAt xs i > PySem.numAt xs j)) (xs.size - 1)) = ((l.foldr max 0 : Nat) : Int) := by
        refine max_is ?_ fun y hy => ?_
        · rw [← hn, numAt_eq]; exact PySem.getD_mem (by rw [List.length_map, Array.length_toList]; omega)
        · rw [← hn] at hy
          obtain ⟨j, hj, rfl⟩ := mem_getD hy
          rw [List.length_map, Array.length_toList] at hj
          rw [← numAt_eq]; exact h2' j (by omega)
      rw [em]
      exact ⟨.int _, H2, I2.kept kp, ⟨_, rfl⟩, q3⟩
end FmP
set_option Elab.async false
set_option linter.all false
set_option maxRecDepth 100000
namespace FmP
open PySem PySem.Spec PyProof.Rows L2
open Fm FmM
/-- the object of a tree's first value: its class's facts -/
structure Ob (K : PySem.W.Frag) (cT cH : Addr) : Prop where
  clT : Cls K cT
  n_kind : NoAttr K cT "kind"
  n_count : NoAttr K cT "count"
  n_content : NoAttr K cT "content"
  n_inner : NoAttr K cT "inner"
  n_depth : NoAttr K cT "depth"
  n_size : NoAttr K cT "size"
  clH : Cls K cH
  n_data : NoAttr K cH "data"
  n_trees : NoAttr K cH "trees"
abbrev Kid := Addr × (Fm.Tree × Nat)
def rv (ks : List Kid) : List V := ks.map fun k => V.ref k.1
def tv (ks : List Kid) : List (Fm.Tree × Nat) := ks.map fun k => k.2
theorem rv_len (ks : List Kid) : (rv ks).length = ks.length := List.length_map _
theorem tv_len (ks : List Kid) : (tv ks).length = ks.length := List.length_map _
theorem rv_get {ks : List Kid} {i : Nat} {x : V} (h : (rv ks)[i]? = some x) : ∃ k, ks[i]? = some k ∧ x = .ref k.1 := by
  unfold rv at h
  rw [List.getElem?_map] at h
  cases e : ks[i]? with
  | none => rw [e] at h; cases h
  | some k => rw [e] at h; exact ⟨k, rfl, (Option.some.inj h).symm⟩
def ndF (v : Val) (x : Fm.Tree × Nat) (c n : Addr) : List (Str × V) := [("kind", .int (kindV v : Nat)), ("count", .int (countV v : Nat)), ("content", .ref c), ("inner", .ref n), ("depth", .int (x.2 : Nat)), ("size", .int (Fm.sizeOf x.1 : Nat))]
/-- one value with those in it, as it stands; what Ex holds is apart from it -/
inductive Nd (C : Addr) (Ex : Addr → Prop) (H : Hp) : Addr → Fm.Tree × Nat → Prop
  | mk (p dx c n : Addr) (v : Val) (ks : List Kid) (h1 : ¬ Ex p) (h2 : ¬ Ex c) (h3 : ¬ Ex n) (hp : H p = some (.ins C dx (ndF v (over v (tv ks)) c n))) (hc : H c = some (.lst (nv (contV v)))) (hn : H n = some (.lst (rv ks)))
    (ar : ks.length = v.arity) (ok : okV v) (hk : ∀ k : Kid, k ∈ ks → Nd C Ex H k.1 k.2) : Nd C Ex H p (over v (tv ks))
theorem Nd.mono {C : Addr} {Ex Ex' : Addr → Prop} {H H' : Hp} (h : ∀ b o, ¬ Ex b → H b = some o → ¬ Ex' b ∧ H' b = some o) {p : Addr} {x : Fm.Tree × Nat} (n : Nd C Ex H p x) : Nd C Ex' H' p x := by
  induction n with
  | mk p dx c n v ks h1 h2 h3 hp hc hn ar ok hk ih => exact .mk p dx c n v ks (h _ _ h1 hp).1 (h _ _ h2 hc).1 (h _ _ h3 hn).1 (h _ _ h1 hp).2 (h _ _ h2 hc).2 (h _ _ h3 hn).2 ar ok ih
theorem Nd.same {C : Addr} {Ex : Addr → Prop} {H H' : Hp} {p : Addr} {x : Fm.Tree × Nat} (n : Nd C Ex H p x) (s : Same H H') : Nd C Ex H' p x := n.mono fun b o e h => ⟨e, s b o h⟩
theorem Nd.tr {C : Addr} {Ex : Addr → Prop} {H : Hp} {p : Addr} {x : Fm.Tree × Nat} (n : Nd C Ex H p x) : Tr x.1 := by
  induction n with
  | mk p dx c n v ks h1 h2 h3 hp hc hn ar ok hk ih =>
    have ht : ∀ t ∈ (tv ks).map (fun x => x.1), Tr t := fun t ht => by
      obtain ⟨y, hy, rfl⟩ := List.mem_map.mp ht
      obtain ⟨k, hk', rfl⟩ := List.mem_map.mp hy
      exact ih k hk'
    cases v with
    | number x =>
      have e : ks = [] := List.eq_nil_of_length_eq_zero ar
      subst e
      exact .num _
    | bytes b =>
      have e : ks = [] := List.eq_nil_of_length_eq_zero ar
      subst e
      exact .byt _
    | list k =>
      have e : (tv ks).length = k := by rw [tv_len]; exact ar
      rw [← e, over_list]
      exact .lst _ ht
    | record l =>
      have e : ks.length = l.length := ar
      rw [over_rec]
      exact .rcd l _ (by rw [List.length_map, tv_len, e]) ht
abbrev Nds (C : Addr) (Ex : Addr → Prop) (H : Hp) (ks : List Kid) : Prop := ∀ k : Kid, k ∈ ks → Nd C Ex H k.1 k.2
theorem Nds.same {C : Addr} {Ex : Addr → Prop} {H H' : Hp} {ks : List Kid} (n : Nds C Ex H ks) (s : Same H H') : Nds C Ex H' ks := fun k h => (n k h).same s
/-- the fields that a reader asks -/
theorem Nd.has {C : Addr} {Ex : Addr → Prop} {H : Hp} {p : Addr} {x : Fm.Tree × Nat} (n : Nd C Ex H p x) : ¬ Ex p ∧ ∃ (dx c i : Addr) (v : Val), H p = some (.ins C dx (ndF v x c i)) := by
  cases n with
  | mk p dx c n v ks h1 h2 h3 hp hc hn ar ok hk => exact ⟨h1, dx, c, n, v, hp⟩
/-- a new tree -/
def newN (C : Addr) (Ex : Addr → Prop) (x : Fm.Tree × Nat) (H : Hp) (Q : VK) : Prop := ∀ (H' : Hp) (q : Addr), Same H H' → Nd C Ex H' q x → Q (.ref q) H'
theorem newN.from {C : Addr} {Ex : Addr → Prop} {x : Fm.Tree × Nat} {H H1 : Hp} {Q : VK} (k : newN C Ex x H Q) (s : Same H H1) : newN C Ex x H1 Q := fun H' q s' n => k H' q (s.trans s') n
def retN (C : Addr) (Ex : Addr → Prop) (o : Option (Fm.Tree × Nat)) (H : Hp) (Q : VK) : Prop := match o with
  | none => ∀ H', Same H H' → Q .non H'
  | some x => newN C Ex x H Q
abbrev ExIn (Ex : Addr → Prop) (H : Hp) : Prop := ∀ b, Ex b → H b ≠ none
theorem exIn_same {Ex : Addr → Prop} {H H' : Hp} (x : ExIn Ex H) (s : Same H H') : ExIn Ex H' := fun b hb => by
  cases e : H b with
  | none => exact absurd e (x b hb)
  | some o => rw [s b o e]; exact fun q => by cases q
theorem exIn_not {Ex : Addr → Prop} {H : Hp} (x : ExIn Ex H) {b : Addr} (h : H b = none) : ¬ Ex b := fun q => x b q h
def spTree (C : Addr) : Sp := fun vs H Q _ => ∃ (p dx c n : Addr) (v : Val) (ks : List Kid) (zk zc : Int), vs = [.ref p, .int zk, .int zc, .ref c, .ref n] ∧ zk = (kindV v : Nat) ∧ zc = (countV v : Nat) ∧ countV v < 4294967296 ∧ H p = some (.ins C dx []) ∧
  H n = some (.lst (rv ks)) ∧ ks.length ≤ 600 ∧ (∀ k : Kid, k ∈ ks → ∃ (dx c i : Addr) (v : Val), H k.1 = some (.ins C dx (ndF v k.2 c i))) ∧
  ∀ H', H' p = some (.ins C dx (ndF v (over v (tv ks)) c n)) → (∀ b o, b ≠ p → H b = some o → H' b = some o) → Q .non H'
/-- what stands behind the making of a tree -/
theorem make_nd {C : Addr} {Ex : Addr → Prop} {H1 : Hp} {c n : Addr} {v : Val} {ks : List Kid} {zk zc : Int} {Q : VK} {E : XK} (ek : zk = (kindV v : Nat)) (ec : zc = (countV v : Nat)) (few : countV v < 4294967296) (hc : H1 c = some (.lst (nv (contV v)))) (hn : H1 n = some (.lst (rv ks)))
    (ar : ks.length = v.arity) (l600 : ks.length ≤ 600) (ok : okV v) (hk : Nds C Ex H1 ks) (nc : ¬ Ex c) (nn : ¬ Ex n) (ex : ExIn Ex H1) (k : newN C Ex (over v (tv ks)) H1 Q) :
    ∀ x dx, H1 x = none → H1 dx = none → dx ≠ x → spTree C (.ref x :: ([.int zk, .int zc, .ref c, .ref n] ++ [])) (upd (upd H1 dx (.own x)) x (.ins C dx [])) (fun v H2 => v = .non ∧ Q (.ref x) H2) E := by
  intro x dx nx ndx nex
  have old : ∀ b o, H1 b = some o → (upd (upd H1 dx (.own x)) x (.ins C dx [])) b = some o := fun b o e => by rw [upd_ne (ne_of_none e nx), upd_ne (ne_of_none e ndx)]; exact e
  refine ⟨x, dx, c, n, v, ks, zk, zc, rfl, ek, ec, few, upd_same, old _ _ hn, l600, fun j hj => ?_, fun H' h' kp => ⟨rfl, ?_⟩⟩
  · obtain ⟨_, dx', c', i', v', h'⟩ := (hk j hj).has
    exact ⟨dx', c', i', v', old _ _ h'⟩
  · have s : Same H1 H' := fun b o e => kp b o (ne_of_none e nx) (old b o e)
    exact k H' x s (.mk x dx c n v ks (exIn_not ex nx) nc nn h' (s _ _ hc) (s _ _ hn) ar ok (hk.same s))
theorem nv_bytes (b : Bytes) : nv (b.map fun c => c.toNat) = bv b := by
  unfold nv bv
  rw [List.map_map]
  rfl
theorem nv_ints (l : List Nat) : nv l = (l.map fun n => ((n : Nat) : Int)).map V.int := by
  unfold nv
  rw [List.map_map]
  rfl
theorem sum_ints (l : List Nat) : (l.map fun n => ((n : Nat) : Int)).sum = ((l.sum : Nat) : Int) := by
  induction l with
  | nil => rfl
  | cons a l ih => rw [List.map_cons, List.sum_cons, List.sum_cons, ih]; omega
end FmP
set_option Elab.async false
set_option linter.all false
set_option maxRecDepth 100000
set_option maxHeartbeats 2000000
namespace FmP
open PySem PySem.Spec PyProof.Rows L2
open Fm FmM
theorem bo_sum : bootBuiltins "sum" = some (.builtin "sum") := by decide +kernel
/-- what a dict of whole values holds: those from a place on -/
structure WholesIn (C : Addr) (Ex : Addr → Prop) (H : Hp) (kvs : List (Key × V)) (m : Bytes) (fr : Nat) : Prop where
  lo : ∀ q : Nat, q < fr → valV kvs (.inl (q : Int)) = none
  no : ∀ q : Nat, fr ≤ q → tale m q = none → valV kvs (.inl (q : Int)) = none
  yes : ∀ (q : Nat) (x : Fm.Tree × Nat), fr ≤ q → tale m q = some x → ∃ t, valV kvs (.inl (q : Int)) = some (.ref t) ∧ Nd C Ex H t x
theorem WholesIn.frame {C : Addr} {Ex : Addr → Prop} {H H' : Hp} {kvs : List (Key × V)} {m : Bytes} {fr : Nat} (w : WholesIn C Ex H kvs m fr) (s : ∀ b o, ¬ Ex b → H b = some o → H' b = some o) : WholesIn C Ex H' kvs m fr :=
  ⟨w.lo, w.no, fun q x h e => let ⟨t, h1, h2⟩ := w.yes q x h e; ⟨t, h1, h2.mono fun b o z1 z2 => ⟨z1, s b o z1 z2⟩⟩⟩
theorem WholesIn.down {C : Addr} {Ex : Addr → Prop} {H : Hp} {kvs : List (Key × V)} {m : Bytes} {fr to : Nat} (w : WholesIn C Ex H kvs m fr) (h : to ≤ fr) (e : ∀ q, to ≤ q → q < fr → tale m q = none) : WholesIn C Ex H kvs m to :=
  ⟨fun q hq => w.lo q (by omega), fun q hq hn => by
    by_cases l : q < fr
    · exact w.lo q l
    · exact w.no q (by omega) hn, fun q x hq hx => by
    by_cases l : q < fr
    · rw [e q hq l] at hx; cases hx
    · exact w.yes q x (by omega) hx⟩
theorem WholesIn.put {C : Addr} {Ex : Addr → Prop} {H : Hp} {kvs : List (Key × V)} {m : Bytes} {fr : Nat} {x : Fm.Tree × Nat} {t : Addr} (w : WholesIn C Ex H kvs m (fr + 1)) (hx : tale m fr = some x) (ht : Nd C Ex H t x) : WholesIn C Ex H (putK kvs (.inl (fr : Int)) (.ref t)) m fr := by
  have ne : ∀ q : Nat, q ≠ fr → ¬ (Sum.inl (q : Int) : Key) = .inl (fr : Int) := fun q h e => h (by have := Sum.inl.inj e; omega)
  refine ⟨fun q hq => ?_, fun q hq hn => ?_, fun q y hq hy => ?_⟩
  · rw [valV_put, if_neg (ne q (by omega))]
    exact w.lo q (by omega)
  · by_cases e : q = fr
    · subst e; rw [hx] at hn; cases hn
    · rw [valV_put, if_neg (ne q e)]
      exact w.no q (by omega) hn
  · by_cases e : q = fr
    · subst e
      rw [hx] at hy
      cases hy
      exact ⟨t, by rw [valV_put, if_pos rfl], ht⟩
    · rw [valV_put, if_neg (ne q e)]
      exact w.yes q y (by omega) hy
def spNumT (C : Addr) : Sp := fun vs H Q _ => ∃ (y z : Int) (a b : Nat) (Ex : Addr → Prop), vs = [.int y, .int z] ∧ y = a ∧ z = b ∧ a < 4294967296 ∧ b < 4294967296 ∧ ExIn Ex H ∧ newN C Ex (over (.number (a * 4294967296 + b)) []) H Q
def spBytT (C : Addr) : Sp := fun vs H Q _ => ∃ (r : Addr) (b : Bytes) (Ex : Addr → Prop), vs = [.ref r] ∧ H r = some (.lst (bv b)) ∧ b.length ≤ 600 ∧ ¬ Ex r ∧ ExIn Ex H ∧ newN C Ex (over (.bytes b) []) H Q
def spLstT (C : Addr) : Sp := fun vs H Q _ => ∃ (n : Addr) (ks : List Kid) (Ex : Addr → Prop), vs = [.ref n] ∧ H n = some (.lst (rv ks)) ∧ ks.length ≤ 600 ∧ ¬ Ex n ∧ ExIn Ex H ∧ Nds C Ex H ks ∧ newN C Ex (over (.list ks.length) (tv ks)) H Q
def spRcdT (C : Addr) : Sp := fun vs H Q _ => ∃ (r n : Addr) (l : List Nat) (ks : List Kid) (Ex : Addr → Prop), vs = [.ref r, .ref n] ∧ H r = some (.lst (nv l)) ∧ H n = some (.lst (rv ks)) ∧ ks.length = l.length ∧ l.length ≤ 600 ∧ (∀ k ∈ l, k < 4294967296) ∧ ¬ Ex r ∧ ¬ Ex n ∧ ExIn Ex H ∧ Nds C Ex H ks ∧ newN C Ex (over (.record l) (tv ks)) H Q
def spTreeOf (K : PySem.W.Frag) (C : Addr) : Sp := fun vs H Q _ => ∃ (a n : Addr) (m : Bytes) (z : Int) (p : Nat) (ks : List Kid) (Ex : Addr → Prop), vs = [.ref a, .int z, .ref n] ∧ z = p ∧ SqL K H a (bv m) ∧ m.length ≤ 600 ∧ standsRight m p = true ∧ H n = some (.lst (rv ks)) ∧ ks.length = (placesIn m p).length ∧ ¬ Ex n ∧ ExIn Ex H ∧ Nds C Ex H ks ∧
  newN C Ex (over (FmM.valAt m p) (tv ks)) H Q
def spTold (K : PySem.W.Frag) (C : Addr) : Sp := fun vs H Q _ => ∃ (a d : Addr) (m : Bytes) (z : Int) (p : Nat) (kvs : List (Key × V)) (Ex : Addr → Prop), vs = [.ref a, .int z, .ref d] ∧ z = p ∧ SqL K H a (bv m) ∧ m.length ≤ 600 ∧ H d = some (.dK kvs) ∧ WholesIn C Ex H kvs m (p + 1) ∧ ExIn Ex H ∧ retN C Ex (tale m p) H Q
def spWhole (K : PySem.W.Frag) (C : Addr) : Sp := fun vs H Q _ => ∃ (a : Addr) (m : Bytes) (z : Int) (p : Nat) (Ex : Addr → Prop), vs = [.ref a, .int z] ∧ z = p ∧ SqL K H a (bv m) ∧ m.length ≤ 600 ∧ ExIn Ex H ∧ retN C Ex (tale m p) H Q
theorem tale_off {m : Bytes} {q : Nat} (h : ¬ (8 ≤ q ∧ q % 4 = 0 ∧ q + 4 ≤ m.length)) : tale m q = none := by
  cases e : tale m q with
  | none => rfl
  | some x => exact absurd (right_bounds (tale_right e)).2 h
theorem stands_own {m : Bytes} {p : Nat} (s : standsRight m p = true) : p + ownSize (kindAt m p) (countAt m p) ≤ m.length := by
  unfold standsRight at s
  split at s
  · cases s
  · split at s
    · cases s
    · split at s
      · cases s
      · omega
theorem rgc4 {i j : Int} (ha : 0 ≤ i) (ha' : i < 2 ^ 40) (hb : 0 ≤ j) (hij : j < i) : RgC i j (-4) (((i - j - 1) / 4).toNat + 1) := by
  refine ⟨by decide, by decide, ?_, ?_⟩
  · unfold Builtin.Range.small Builtin.Range.rangeSize
    simp only [Builtin.Range.rangeFitsLong, Bool.and_eq_true, Bool.or_eq_true, decide_eq_true_eq, beq_iff_eq, show ¬ ((-4 : Int) > 0) by decide, if_false]
    rw [if_pos hij]
    rw [show (-(-4 : Int)) = 4 from rfl]
    omega
  · unfold Builtin.Range.rangeSize
    rw [if_neg (by decide), if_pos hij, show (-(-4 : Int)) = 4 from rfl]
    omega
theorem kid_get {ks : List Kid} {f : Fm.Tree × Nat → Nat} {i : Nat} {k : Kid} {m : Nat} (hk : ks[i]? = some k) (hm : ((tv ks).map f)[i]? = some m) : m = f k.2 := by
  unfold tv at hm
  rw [List.map_map, List.getElem?_map, hk] at hm
  exact (Option.some.inj hm).symm
theorem all_gather {α : Type} (f : Nat → Option α) : ∀ l : List Nat, (l.map fun n => (f n).isSome).all id = (gather f l).isSome
  | [] => rfl
  | x :: r => by
    rw [List.map_cons, List.all_cons, all_gather f r, gather]
    cases f x with
    | none => rfl
    | some y => cases gather f r <;> rfl
/-- those that a dict holds for the places in a value -/
theorem kids_of {C : Addr} {Ex : Addr → Prop} {H : Hp} {kvs : List (Key × V)} {m : Bytes} : ∀ {l : List Nat} {g : List (Fm.Tree × Nat)}, gather (tale m) l = some g → (∀ q ∈ l, ∀ x, tale m q = some x → ∃ t, valV kvs (.inl (q : Int)) = some (.ref t) ∧ Nd C Ex H t x) →
    ∃ ks : List Kid, tv ks = g ∧ ks.length = l.length ∧ Nds C Ex H ks ∧ ∀ (i q : Nat), l[i]? = some q → ∃ k, ks[i]? = some k ∧ valV kvs (.inl (q : Int)) = some (.ref k.1)
  | [], g, e, _ => by
    cases e
    exact ⟨[], rfl, rfl, fun k h => absurd h (by simp), fun i q h => by simp at h⟩
  | z :: r, g, e, hp => by
    rw [gather] at e
    cases q : tale m z with
    | none => rw [q] at e; cases e
    | some w =>
      cases q2 : gather (tale m) r with
      | none => rw [q, q2] at e; cases e
      | some g2 =>
        rw [q, q2] at e
        cases e
        obtain ⟨ks, h1, h2, h3, h4⟩ := kids_of q2 fun y hy x hx => hp y (List.mem_cons_of_mem _ hy) x hx
        obtain ⟨t, ht, hn⟩ := hp z (List.mem_cons_self ..) w q
        refine ⟨(t, w) :: ks, by show w :: tv ks = _; rw [h1], by rw [List.length_cons, List.length_cons, h2], fun k hk => ?_, fun i y hy => ?_⟩
        · rcases List.mem_cons.mp hk with rfl | hk
          · exact hn
          · exact h3 k hk
        · cases i with
          | zero => cases hy; exact ⟨(t, w), rfl, ht⟩
          | succ i => exact h4 i y hy
theorem places_few {m : Bytes} {p : Nat} (hm : m.length ≤ 600) (ho : p + ownSize (kindAt m p) (countAt m p) ≤ m.length) : (placesIn m p).length ≤ 600 := by
  by_cases nn : kindAt m p = 1 ∨ kindAt m p = 2
  · unfold placesIn
    rw [if_pos nn]
    exact Nat.zero_le _
  · rw [placesIn_len nn]
    have := own_ge nn
    omega
section
variable {P : Program} {w : World} {K : PySem.W.Frag} {mg : Str → Option Value} {base : Heap} {aM aW aR : Addr} {cT cH : Addr}
theorem sc_initT : FnScope ["self", "kind", "count", "content", "inner", "tree"] ["self", "kind", "count", "content", "inner"] (defScope (inClass (top 29) 0)) := ⟨rfl, rfl, rfl, by decide +kernel, rfl, by decide +kernel, by decide +kernel⟩
theorem ok_initT (g : Glo K mg aM aW aR) (o : Ob K cT cH) {fi : Addr} {fd : FuncData} (G : Fun K "__init__" "Tree.__init__" (inClass (top 29) 0) fi fd) (c_own_size : Cal P w K mg base 2 "own_size" ["kind", "count"] spOwn) : FnOk P w K mg base CX0 3 fi fd ["self", "kind", "count", "content", "inner"] (spTree cT) ∧ Binds K fd ["self", "kind", "count", "content", "inner"] [] := by
  have nd := sc_initT.nd
  refine init_of G (fun _ _ _ _ _ _ us hl => match us, hl with | [_, _, _, _, _], _ => rfl) sc_initT (fun vs H Q E h => ?_) (fun cdv A outer s H vs Q E hr h => ?_)
  · obtain ⟨p, dx, c, n, v, ks, zk, zc, rfl, rfl, rfl, few, hp, hn, l6, hks, k⟩ := h
    rfl
  · obtain ⟨p, dx, c, n, v, ks, zk, zc, rfl, rfl, rfl, few, hp, hn, l6, hks, k⟩ := h
    have hu := hu_of hr
    have hu64 := hr.units
    refine ⟨_, (pss_cons (ps_fld (pv 0) (pv 1) rfl)
      (pss_cons (ps_fld (pv 0) (pv 2) rfl)
      (pss_cons (ps_fld (pv 0) (pv 3) rfl)
      (pss_cons (ps_fld (pv 0) (pv 4) rfl)
      (pss_cons (ps_fld (pv 0) (pe_op op_add pe_int (pe_maxD rfl rfl g.b_max bo_max (pa_cons (pe_lc rfl nd (own := [("tree", 5)]) (pi_list (pv 4)) (blkOk_by (N := ["self", "kind", "count", "content", "inner", "tree"]) (sc := defScope (inClass (top 29) 0)) (by decide +kernel)) (fun _ _ _ _ _ => (pg_name (i := 5) nd rfl (Or.inl rfl))) (fun _ _ _ _ _ => pts_nil) (fun _ _ _ _ _ => (pe_fldK (K := K) rfl (pv 5) rfl))) pa_nil) (pk_cons pe_int pk_nil))) rfl)
      (pss_one (ps_fld (pv 0) (pe_op op_add (pe_cal c_own_size hr rfl (pa_cons (pv 1) (pa_cons (pv 2) pa_nil))) (pe_callB (cr_sum rfl) rfl g.b_sum bo_sum (pa_cons (pe_lc rfl nd (own := [("tree", 5)]) (pi_list (pv 4)) (blkOk_by (N := ["self", "kind", "count", "content", "inner", "tree"]) (sc := defScope (inClass (top 29) 0)) (by decide +kernel)) (fun _ _ _ _ _ => (pg_name (i := 5) nd rfl (Or.inl rfl))) (fun _ _ _ _ _ => pts_nil) (fun _ _ _ _ _ => (pe_fldK (K := K) rfl (pv 5) rfl))) pa_nil))) rfl))))))), ?_⟩
    have nnp : n ≠ p := fun z => by rw [z, hp] at hn; cases hn
    have u4 : ∀ {o1 o2 o3 o4 : HO} (b : Addr) (x : HO), b ≠ p → H b = some x → upd (upd (upd (upd H p o1) p o2) p o3) p o4 b = some x := fun b x nb e => by rw [upd_ne nb, upd_ne nb, upd_ne nb, upd_ne nb]; exact e
    have nkp : ∀ j : Kid, j ∈ ks → j.1 ≠ p := fun j hj z => by
      obtain ⟨dx', c', i', v', h'⟩ := hks j hj
      rw [z, hp] at h'
      cases h'
    have e1 : (1 : Int) + ((((tv ks).map fun x => x.2).foldr max 0 : Nat) : Int) = (((over v (tv ks)).2 : Nat) : Int) := by
      show (1 : Int) + _ = ((1 + ((tv ks).map fun x => x.2).foldr max 0 : Nat) : Int)
      omega
    have e2 : ((ownSize (kindV v) (countV v) : Nat) : Int) + (((tv ks).map fun x => Fm.sizeOf x.1).map fun n => ((n : Nat) : Int)).sum = ((Fm.sizeOf (over v (tv ks)).1 : Nat) : Int) := by
      rw [size_own, sum_ints, over_size]
      omega
    refine ⟨_, rfl, _, rfl, p, _, dx, _, rfl, hp, o.clT, o.n_kind, (by show 0 < 1000; decide), ?_⟩
    refine ⟨_, rfl, _, rfl, p, _, dx, _, rfl, upd_same, o.clT, o.n_count, (by show 1 < 1000; decide), ?_⟩
    refine ⟨_, rfl, _, rfl, p, _, dx, _, rfl, upd_same, o.clT, o.n_content, (by show 2 < 1000; decide), ?_⟩
    refine ⟨_, rfl, _, rfl, p, _, dx, _, rfl, upd_same, o.clT, o.n_inner, (by show 3 < 1000; decide), ?_⟩
    refine ⟨_, rfl, n, rfl, ⟨_, SqL.of (u4 n _ nnp hn)⟩, fun D hD => lcL (ys := nv ((tv ks).map fun x => x.2)) hD (SqL.of (u4 n _ nnp hn)) (by rw [nv_len, List.length_map, tv_len, rv_len]) (line600 (by rw [rv_len]; exact l6)) (fun _ => rfl) (fun i x y H' hx hy sm R hR => ?_) fun H5 h5 s5 => ?_⟩
    · obtain ⟨j, hj, rfl⟩ := rv_get hx
      obtain ⟨y', hy', rfl⟩ := nv_get hy
      obtain rfl := kid_get hj hy'
      have hm := List.mem_of_getElem? hj
      obtain ⟨dx', c', i', v', h'⟩ := hks j hm
      exact ⟨_, rfl, j.1, _, dx', _, _, rfl, sm _ _ (u4 _ _ (nkp j hm) h'), o.clT, o.n_depth, rfl, hR H' same_refl⟩
    refine ⟨_, _, rfl, rfl, SqL.of h5, _, _, rfl, rfl, _, rfl, p, _, dx, _, rfl, s5 _ _ upd_same, o.clT, o.n_depth, (by show 4 < 1000; decide), ?_⟩
    have u6 : ∀ {x : HO} (b : Addr) (z : HO), b ≠ p → H b = some z → upd H5 p x b = some z := fun b z nb e => by rw [upd_ne nb]; exact s5 _ _ (u4 b z nb e)
    refine ⟨_, rfl, _, rfl, _, _, kindV v, countV v, rfl, rfl, rfl, few, _, rfl, n, rfl, ⟨_, SqL.of (u6 n _ nnp hn)⟩, fun D2 hD2 => lcL (ys := nv ((tv ks).map fun x => Fm.sizeOf x.1)) hD2 (SqL.of (u6 n _ nnp hn)) (by rw [nv_len, List.length_map, tv_len, rv_len]) (line600 (by rw [rv_len]; exact l6)) (fun _ => rfl) (fun i x y H' hx hy sm R hR => ?_) fun H7 h7 s7 => ?_⟩
    · obtain ⟨j, hj, rfl⟩ := rv_get hx
      obtain ⟨y', hy', rfl⟩ := nv_get hy
      obtain rfl := kid_get hj hy'
      have hm := List.mem_of_getElem? hj
      obtain ⟨dx', c', i', v', h'⟩ := hks j hm
      exact ⟨_, rfl, j.1, _, dx', _, _, rfl, sm _ _ (u6 _ _ (nkp j hm) h'), o.clT, o.n_size, rfl, hR H' same_refl⟩
    refine ⟨_, _, rfl, SqL.of (by rw [← nv_ints]; exact h7), _, _, rfl, rfl, _, rfl, p, _, dx, _, rfl, s7 _ _ upd_same, o.clT, o.n_size, (by show 5 < 1000; decide), ?_⟩
    refine k _ ?_ fun b z nb e => ?_
    · rw [upd_same]
      show some (HO.ins cT dx [("kind", V.int (kindV v : Nat)), ("count", V.int (countV v : Nat)), ("content", V.ref c), ("inner", V.ref n), ("depth", V.int ((1 : Int) + ((((tv ks).map fun x => x.2).foldr max 0 : Nat) : Int))), ("size", V.int (((ownSize (kindV v) (countV v) : Nat) : Int) + (((tv ks).map fun x => Fm.sizeOf x.1).map fun n => ((n : Nat) : Int)).sum))]) = _
      rw [e1, e2]
      rfl
    · rw [upd_ne nb]
      exact s7 _ _ (u6 b z nb e)
theorem sc_number_tree : FnScope ["high", "low"] ["high", "low"] (defScope (top 30)) := ⟨rfl, rfl, rfl, by decide +kernel, rfl, by decide +kernel, by decide +kernel⟩
theorem ok_number_tree (g : Glo K mg aM aW aR) (o : Ob K cT cH) (G : Gf K mg "number_tree" (top 30)) (M_Tree : Mkr P w K mg base 3 "Tree" ["self", "kind", "count", "content", "inner"] cT (spTree cT)) : Cal P w K mg base 5 "number_tree" ["high", "low"] (spNumT cT) := by
  have nd := sc_number_tree.nd
  refine cal_of G (fun _ _ _ _ _ _ us hl => match us, hl with | [_, _], _ => rfl) sc_number_tree (fun vs H Q E h => ?_) (fun f cdv A outer s H vs Q E hr h => ?_)
  · obtain ⟨y, z, a, b, Ex, rfl, rfl, rfl, ha, hb, ex, k⟩ := h
    rfl
  · obtain ⟨y, z, a, b, Ex, rfl, rfl, rfl, ha, hb, ex, k⟩ := h
    have hu := hu_of hr
    have hu64 := hr.units
    refine ⟨_, (pss_one (ps_ret (pe_mkA M_Tree hr rfl (pa_cons (pe_gi g.c_NUMBER rfl) (pa_cons pe_int (pa_cons (pe_lst (pa_cons (pv 0) (pa_cons (pv 1) pa_nil))) (pa_cons (pe_lst pa_nil) pa_nil))))))), ?_⟩
    refine ⟨_, rfl, _, rfl, (by show 2 ≤ sizeLine; decide), fun c hc => ⟨(by decide), fun n hn => ?_⟩⟩
    have s1 : Same H (upd H c (.lst [.int (a : Nat), .int (b : Nat)])) := same_upd same_refl hc
    have s2 : Same (upd H c (.lst [.int (a : Nat), .int (b : Nat)])) (upd (upd H c (.lst [.int (a : Nat), .int (b : Nat)])) n (.lst [])) := same_upd same_refl hn
    have e1 : (a * 4294967296 + b) / 4294967296 = a := by omega
    have e2 : (a * 4294967296 + b) % 4294967296 = b := by omega
    refine make_nd (v := .number (a * 4294967296 + b)) (ks := []) rfl rfl (by show 0 < 4294967296; decide) ?_ upd_same rfl (Nat.zero_le _) ?_ (fun j hj => absurd hj (by simp)) (exIn_not ex hc) (exIn_not ex (s1.free hn)) (exIn_same ex (s1.trans s2)) (k.from (s1.trans s2))
    · refine s2 _ _ ?_
      rw [upd_same]
      show _ = some (HO.lst (nv [(a * 4294967296 + b) / 4294967296, (a * 4294967296 + b) % 4294967296]))
      rw [e1, e2]
      rfl
    · show a * 4294967296 + b < 18446744073709551616
      omega
theorem sc_bytes_tree : FnScope ["row"] ["row"] (defScope (top 31)) := ⟨rfl, rfl, rfl, by decide +kernel, rfl, by decide +kernel, by decide +kernel⟩
theorem ok_bytes_tree (g : Glo K mg aM aW aR) (o : Ob K cT cH) (G : Gf K mg "bytes_tree" (top 31)) (M_Tree : Mkr P w K mg base 3 "Tree" ["self", "kind", "count", "content", "inner"] cT (spTree cT)) : Cal P w K mg base 5 "bytes_tree" ["row"] (spBytT cT) := by
  have nd := sc_bytes_tree.nd
  refine cal_of G (fun _ _ _ _ _ _ us hl => match us, hl with | [_], _ => rfl) sc_bytes_tree (fun vs H Q E h => ?_) (fun f cdv A outer s H vs Q E hr h => ?_)
  · obtain ⟨r, b, Ex, rfl, hr0, hb, nr, ex, k⟩ := h
    rfl
  · obtain ⟨r, b, Ex, rfl, hr0, hb, nr, ex, k⟩ := h
    have hu := hu_of hr
    have hu64 := hr.units
    refine ⟨_, (pss_one (ps_ret (pe_mkA M_Tree hr rfl (pa_cons (pe_gi g.c_BYTES rfl) (pa_cons (pe_callB call_len_seq rfl g.b_len PySem.boot_len (pa_cons (pv 0) pa_nil)) (pa_cons (pv 0) (pa_cons (pe_lst pa_nil) pa_nil))))))), ?_⟩
    refine ⟨_, rfl, r, _, rfl, .inl (SqL.of hr0), _, rfl, (by decide), fun n hn => ?_⟩
    have s1 : Same H (upd H n (.lst [])) := same_upd same_refl hn
    refine make_nd (v := .bytes b) (ks := []) rfl (by rw [bv_len]; rfl) (by show b.length < 4294967296; omega) ?_ upd_same rfl (Nat.zero_le _) trivial (fun j hj => absurd hj (by simp)) nr (exIn_not ex hn) (exIn_same ex s1) (k.from s1)
    refine s1 _ _ ?_
    show _ = some (HO.lst (nv (b.map fun c => c.toNat)))
    rw [nv_bytes]
    exact hr0
theorem sc_list_tree : FnScope ["inner"] ["inner"] (defScope (top 32)) := ⟨rfl, rfl, rfl, by decide +kernel, rfl, by decide +kernel, by decide +kernel⟩
theorem ok_list_tree (g : Glo K mg aM aW aR) (o : Ob K cT cH) (G : Gf K mg "list_tree" (top 32)) (M_Tree : Mkr P w K mg base 3 "Tree" ["self", "kind", "count", "content", "inner"] cT (spTree cT)) : Cal P w K mg base 5 "list_tree" ["inner"] (spLstT cT) := by
  have nd := sc_list_tree.nd
  refine cal_of G (fun _ _ _ _ _ _ us hl => match us, hl with | [_], _ => rfl) sc_list_tree (fun vs H Q E h => ?_) (fun f cdv A outer s H vs Q E hr h => ?_)
  · obtain ⟨n, ks, Ex, rfl, hn, l6, nn, ex, hk, k⟩ := h
    rfl
  · obtain ⟨n, ks, Ex, rfl, hn, l6, nn, ex, hk, k⟩ := h
    have hu := hu_of hr
    have hu64 := hr.units
    refine ⟨_, (pss_one (ps_ret (pe_mkA M_Tree hr rfl (pa_cons (pe_gi g.c_LIST rfl) (pa_cons (pe_callB call_len_seq rfl g.b_len PySem.boot_len (pa_cons (pv 0) pa_nil)) (pa_cons (pe_lst pa_nil) (pa_cons (pv 0) pa_nil))))))), ?_⟩
    refine ⟨_, rfl, n, _, rfl, .inl (SqL.of hn), (by decide), fun c hc => ⟨_, rfl, ?_⟩⟩
    have s1 : Same H (upd H c (.lst [])) := same_upd same_refl hc
    exact make_nd (v := .list ks.length) (ks := ks) rfl (by rw [rv_len]; rfl) (by show ks.length < 4294967296; omega) upd_same (s1 _ _ hn) rfl l6 trivial (hk.same s1) (exIn_not ex hc) nn (exIn_same ex s1) (k.from s1)
theorem sc_record_tree : FnScope ["keys", "inner"] ["keys", "inner"] (defScope (top 33)) := ⟨rfl, rfl, rfl, by decide +kernel, rfl, by decide +kernel, by decide +kernel⟩
theorem ok_record_tree (g : Glo K mg aM aW aR) (o : Ob K cT cH) (G : Gf K mg "record_tree" (top 33)) (M_Tree : Mkr P w K mg base 3 "Tree" ["self", "kind", "count", "content", "inner"] cT (spTree cT)) : Cal P w K mg base 5 "record_tree" ["keys", "inner"] (spRcdT cT) := by
  have nd := sc_record_tree.nd
  refine cal_of G (fun _ _ _ _ _ _ us hl => match us, hl with | [_, _], _ => rfl) sc_record_tree (fun vs H Q E h => ?_) (fun f cdv A outer s H vs Q E hr h => ?_)
  · obtain ⟨r, n, l, ks, Ex, rfl, hr0, hn, hl, l6, kb, nr, nn, ex, hk, k⟩ := h
    rfl
  · obtain ⟨r, n, l, ks, Ex, rfl, hr0, hn, hl, l6, kb, nr, nn, ex, hk, k⟩ := h
    have hu := hu_of hr
    have hu64 := hr.units
    refine ⟨_, (pss_one (ps_ret (pe_mkA M_Tree hr rfl (pa_cons (pe_gi g.c_RECORD rfl) (pa_cons (pe_callB call_len_seq rfl g.b_len PySem.boot_len (pa_cons (pv 0) pa_nil)) (pa_cons (pv 0) (pa_cons (pv 1) pa_nil))))))), ?_⟩
    refine ⟨_, rfl, r, _, rfl, .inl (SqL.of hr0), _, rfl, _, rfl, ?_⟩
    exact make_nd (v := .record l) (ks := ks) rfl (by rw [nv_len]; rfl) (by show l.length < 4294967296; omega) hr0 hn hl (by omega) kb hk nr nn ex k
theorem sc_tree_of : FnScope ["data", "at", "inner", "kind"] ["data", "at", "inner"] (defScope (top 35)) := ⟨rfl, rfl, rfl, by decide +kernel, rfl, by decide +kernel, by decide +kernel⟩
theorem ok_tree_of (g : Glo K mg aM aW aR) (o : Ob K cT cH) (G : Gf K mg "tree_of" (top 35)) (c_bytes_in : Cal P w K mg base 3 "bytes_in" ["data", "at"] (spBytesIn K)) (c_bytes_tree : Cal P w K mg base 5 "bytes_tree" ["row"] (spBytT cT)) (c_keys_in : Cal P w K mg base 3 "keys_in" ["data", "at"] (spKeys K)) (c_kind_at : Cal P w K mg base 1 "kind_at" ["data", "at"] (spKind K)) (c_list_tree : Cal P w K mg base 5 "list_tree" ["inner"] (spLstT cT)) (c_number_tree : Cal P w K mg base 5 "number_tree" ["high", "low"] (spNumT cT)) (c_record_tree : Cal P w K mg base 5 "record_tree" ["keys", "inner"] (spRcdT cT)) (c_word_at : Cal P w K mg base 1 "word_at" ["data", "place"] (spWord K)) : Cal P w K mg base 6 "tree_of" ["data", "at", "inner"] (spTreeOf K cT) := by
  have nd := sc_tree_of.nd
  refine cal_of G (fun _ _ _ _ _ _ us hl => match us, hl with | [_, _, _], _ => rfl) sc_tree_of (fun vs H Q E h => ?_) (fun f cdv A outer s H vs Q E hr h => ?_)
  · obtain ⟨a, n, m, z, p, ks, Ex, rfl, rfl, hS, hm, st, hn, hl, nn, ex, hk, k⟩ := h
    rfl
  · obtain ⟨a, n, m, z, p, ks, Ex, rfl, rfl, hS, hm, st, hn, hl, nn, ex, hk, k⟩ := h
    have hu := hu_of hr
    have hu64 := hr.units
    refine ⟨_, (pss_cons (ps_set (i := 3) nd rfl (Or.inl rfl) (pe_cal c_kind_at hr rfl (pa_cons (pv 0) (pa_cons (pv 1) pa_nil))))
      (pss_cons (ps_if (pt_cmpR op_eq (pv 3) (pe_gi g.c_NUMBER rfl) (nomark _)) (pss_one (ps_ret (pe_cal c_number_tree hr rfl (pa_cons (pe_cal c_word_at hr rfl (pa_cons (pv 0) (pa_cons (pe_op op_add (pv 1) pe_int) pa_nil))) (pa_cons (pe_cal c_word_at hr rfl (pa_cons (pv 0) (pa_cons (pe_op op_add (pv 1) pe_int) pa_nil))) pa_nil))))) pss_nil)
      (pss_cons (ps_if (pt_cmpR op_eq (pv 3) (pe_gi g.c_BYTES rfl) (nomark _)) (pss_one (ps_ret (pe_cal c_bytes_tree hr rfl (pa_cons (pe_cal c_bytes_in hr rfl (pa_cons (pv 0) (pa_cons (pv 1) pa_nil))) pa_nil)))) pss_nil)
      (pss_cons (ps_if (pt_cmpR op_eq (pv 3) (pe_gi g.c_LIST rfl) (nomark _)) (pss_one (ps_ret (pe_cal c_list_tree hr rfl (pa_cons (pv 2) pa_nil)))) pss_nil)
      (pss_one (ps_ret (pe_cal c_record_tree hr rfl (pa_cons (pe_cal c_keys_in hr rfl (pa_cons (pv 0) (pa_cons (pv 1) pa_nil))) (pa_cons (pv 2) pa_nil))))))))), ?_⟩
    obtain ⟨him, h8, h4, hp⟩ := right_bounds st
    have hown := stands_own st
    have hfew := places_few hm hown
    refine ⟨_, rfl, _, rfl, a, m, _, p, rfl, rfl, hS, by omega, ?_⟩
    refine ⟨_, rfl, rfl, _, rfl, ite2 (fun e1 => ?_) fun e1 => ?_⟩
    · have e : kindAt m p = 1 := by have e := V.int.inj (of_decide_eq_true e1); omega
      have e0 : ks = [] := List.eq_nil_of_length_eq_zero (by rw [hl]; unfold placesIn; rw [if_pos (Or.inl e)]; rfl)
      subst e0
      have hv : FmM.valAt m p = .number (Fm.numAt m (p + 8) 4 * 4294967296 + Fm.numAt m (p + 4) 4) := by
        unfold FmM.valAt
        rw [if_pos e, num8, Nat.add_comm, Nat.mul_comm]
      rw [hv] at k
      rw [e] at hown
      have hown' : p + 12 ≤ m.length := hown
      exact ⟨_, rfl, _, rfl, _, _, rfl, rfl, a, m, _, p + 8, rfl, by omega, hS, by omega, _, rfl, _, rfl, _, _, rfl, rfl, a, m, _, p + 4, rfl, by omega, hS, by omega, _, _, Fm.numAt m (p + 8) 4, Fm.numAt m (p + 4) 4, Ex, rfl, rfl, rfl, num4_lt _ _, num4_lt _ _, ex, k⟩
    have n1 : ¬ kindAt m p = 1 := fun q => e1 (by rw [q]; rfl)
    refine ⟨_, rfl, rfl, _, rfl, ite2 (fun e2 => ?_) fun e2 => ?_⟩
    · have e : kindAt m p = 2 := by have e := V.int.inj (of_decide_eq_true e2); omega
      have e0 : ks = [] := List.eq_nil_of_length_eq_zero (by rw [hl]; unfold placesIn; rw [if_pos (Or.inr e)]; rfl)
      subst e0
      have hv : FmM.valAt m p = .bytes ((m.drop (p + 4)).take (countAt m p)) := by
        unfold FmM.valAt
        rw [if_neg n1, if_pos e]
      rw [hv] at k
      refine ⟨_, rfl, _, rfl, a, m, _, p, rfl, rfl, hS, hp, fun H1 r hr0 h1 s1 => ⟨r, _, Ex, rfl, h1, ?_, exIn_not ex hr0, exIn_same ex s1, k.from s1⟩⟩
      rw [List.length_take, List.length_drop]
      omega
    have n2 : ¬ kindAt m p = 2 := fun q => e2 (by rw [q]; rfl)
    have n12 : ¬ (kindAt m p = 1 ∨ kindAt m p = 2) := by omega
    have hc : ks.length = countAt m p := by rw [hl, placesIn_len n12]
    refine ⟨_, rfl, rfl, _, rfl, ite2 (fun e3 => ?_) fun e3 => ?_⟩
    · have e : kindAt m p = 3 := by have e := V.int.inj (of_decide_eq_true e3); omega
      have hv : FmM.valAt m p = .list ks.length := by
        unfold FmM.valAt
        rw [if_neg n1, if_neg n2, if_pos e, hc]
      rw [hv] at k
      exact ⟨_, rfl, n, ks, Ex, rfl, hn, by omega, nn, ex, hk, k⟩
    have n3 : ¬ kindAt m p = 3 := fun q => e3 (by rw [q]; rfl)
    have e4 : kindAt m p = 4 := by have := kind_right st; omega
    have hv : FmM.valAt m p = .record (keysIn m p) := by
      unfold FmM.valAt
      rw [if_neg n1, if_neg n2, if_neg n3]
    rw [hv] at k
    have hown' : p + (4 + 8 * countAt m p) ≤ m.length := by
      have q := hown
      unfold ownSize at q
      rw [if_neg n1, if_neg n2, if_neg n3] at q
      exact q
    have hkl : (keysIn m p).length = countAt m p := by unfold keysIn; rw [List.length_map, fieldsAt_len]
    refine ⟨_, rfl, _, rfl, a, m, _, p, rfl, rfl, hS, hm, by omega, fun H1 r hr0 h1 s1 => ⟨_, rfl, r, n, keysIn m p, ks, Ex, rfl, h1, s1 _ _ hn, by rw [hkl, hc], by omega, fun x hx => ?_, exIn_not ex hr0, nn, exIn_same ex s1, hk.same s1, k.from s1⟩⟩
    unfold keysIn at hx
    obtain ⟨y, hy, rfl⟩ := List.mem_map.mp hx
    unfold fieldsAt at hy
    obtain ⟨i, _, rfl⟩ := List.mem_map.mp hy
    exact num4_lt _ _
theorem sc_told_tree : FnScope ["data", "at", "wholes", "places", "tree", "place"] ["data", "at", "wholes"] (defScope (top 36)) := ⟨rfl, rfl, rfl, by decide +kernel, rfl, by decide +kernel, by decide +kernel⟩
theorem ok_told_tree (g : Glo K mg aM aW aR) (o : Ob K cT cH) (G : Gf K mg "told_tree" (top 36)) (c_places_in : Cal P w K mg base 3 "places_in" ["data", "at"] (spPlaces K)) (c_stands_right : Cal P w K mg base 6 "stands_right" ["data", "at"] (spStands K)) (c_tree_of : Cal P w K mg base 6 "tree_of" ["data", "at", "inner"] (spTreeOf K cT)) : Cal P w K mg base 7 "told_tree" ["data", "at", "wholes"] (spTold K cT) := by
  have nd := sc_told_tree.nd
  refine cal_of G (fun _ _ _ _ _ _ us hl => match us, hl with | [_, _, _], _ => rfl) sc_told_tree (fun vs H Q E h => ?_) (fun f cdv A outer s H vs Q E hr h => ?_)
  · obtain ⟨a, d, m, z, p, kvs, Ex, rfl, rfl, hS, hm, hd, hW, ex, k⟩ := h
    rfl
  · obtain ⟨a, d, m, z, p, kvs, Ex, rfl, rfl, hS, hm, hd, hW, ex, k⟩ := h
    have hu := hu_of hr
    have hu64 := hr.units
    refine ⟨_, (pss_cons (ps_if (pt_not (pt_val (pe_cal c_stands_right hr rfl (pa_cons (pv 0) (pa_cons (pv 1) pa_nil))))) (pss_one (ps_ret pe_non)) pss_nil)
      (pss_cons (ps_set (i := 3) nd rfl (Or.inl rfl) (pe_cal c_places_in hr rfl (pa_cons (pv 0) (pa_cons (pv 1) pa_nil))))
      (pss_cons (ps_if (pt_not (pt_val (pe_callB (cr_all rfl) rfl g.b_all bo_all (pa_cons (pe_lc rfl nd (own := [("place", 5)]) (pi_list (pv 3)) (blkOk_by (N := ["data", "at", "wholes", "places", "tree", "place"]) (sc := defScope (top 36)) (by decide +kernel)) (fun _ _ _ _ _ => (pg_name (i := 5) nd rfl (Or.inl rfl))) (fun _ _ _ _ _ => pts_nil) (fun _ _ _ _ _ => (pe_cmp (pc_din hu (pv 5) (pv 2))))) pa_nil)))) (pss_one (ps_ret pe_non)) pss_nil)
      (pss_cons (ps_set (i := 4) nd rfl (Or.inl rfl) (pe_cal c_tree_of hr rfl (pa_cons (pv 0) (pa_cons (pv 1) (pa_cons (pe_lc rfl nd (own := [("place", 5)]) (pi_list (pv 3)) (blkOk_by (N := ["data", "at", "wholes", "places", "tree", "place"]) (sc := defScope (top 36)) (by decide +kernel)) (fun _ _ _ _ _ => (pg_name (i := 5) nd rfl (Or.inl rfl))) (fun _ _ _ _ _ => pts_nil) (fun _ _ _ _ _ => (pe_dget hu (pv 2) (pv 5) (fun _ _ => rfl)))) pa_nil)))))
      (pss_cons (ps_if (pt_cmpR op_gt (pe_fld (pv 4) rfl) (pe_gi g.c_DEEPEST rfl) (nomark _)) (pss_one (ps_ret pe_non)) pss_nil)
      (pss_one (ps_ret (pv 4)))))))), ?_⟩
    refine ⟨_, rfl, _, rfl, a, m, _, p, rfl, rfl, hS, hm, fun H1 s1 => ⟨_, rfl, ?_⟩⟩
    cases st : standsRight m p
    · refine iteT ?_
      have e : tale m p = none := by rw [tale_eq, if_pos st]
      rw [e] at k
      exact k H1 s1
    refine iteF ?_
    obtain ⟨him, h8, h4, hp⟩ := right_bounds st
    have hown := stands_own st
    refine ⟨_, rfl, _, rfl, a, m, _, p, rfl, rfl, s1.seq hS, hm, hp, hown, fun H2 q hq h2 s2 => ?_⟩
    have s12 := s1.trans s2
    have hd2 := s12 _ _ hd
    have lz : (nv (placesIn m p)).length ≤ sizeLine := by rw [nv_len]; exact line600 (places_few hm hown)
    have dg : ∀ (H' : Hp) (n : Nat), Same H2 H' → n ∈ placesIn m p → DGet H' d (kV (Sum.inl (n : Int))) (valV kvs (Sum.inl (n : Int))) := fun H' n sm hn => DGet.k (k := Sum.inl (n : Int)) (sm _ _ hd2)
    have vs : ∀ n, n ∈ placesIn m p → (valV kvs (Sum.inl (n : Int))).isSome = (tale m n).isSome := fun n hn => by
      have hpn := (placesIn_may st hn).1
      cases e : tale m n with
      | none => rw [hW.no n (by omega) e]; rfl
      | some x => obtain ⟨t, hv, _⟩ := hW.yes n x (by omega) e; rw [hv]; rfl
    refine ⟨_, rfl, q, rfl, ⟨_, SqL.of h2⟩, fun D hD => lcL (ys := ((placesIn m p).map fun n => (tale m n).isSome).map V.bl) hD (SqL.of h2) (by rw [bls_len, List.length_map, nv_len]) lz (fun _ => rfl) (fun i x y H' hx hy sm R hR => ?_) fun H3 h3 s3 => ?_⟩
    · obtain ⟨n, hn, rfl⟩ := nv_get hx
      have e : y = V.bl (tale m n).isSome := map_get (f := V.bl) (x := (tale m n).isSome) (map_gets (f := fun n => (tale m n).isSome) hn) hy
      subst e
      have hmem := List.mem_of_getElem? hn
      refine ⟨_, rfl, _, rfl, d, _, rfl, dg H' n sm hmem, ?_⟩
      rw [vs n hmem]
      exact hR H' same_refl
    refine ⟨_, _, rfl, SqL.of h3, _, rfl, ?_⟩
    rw [all_gather]
    cases eg : gather (tale m) (placesIn m p) with
    | none =>
      rw [tale_lack st eg] at k
      exact iteT (k H3 (s12.trans s3))
    | some l =>
      have et := tale_at st eg
      refine iteF ?_
      obtain ⟨ks, rfl, hkl, hkn, hkv⟩ := kids_of (C := cT) (Ex := Ex) (H := H) (kvs := kvs) eg fun n hn x hx => hW.yes n x (by have := (placesIn_may st hn).1; omega) hx
      refine ⟨_, rfl, _, rfl, _, rfl, q, rfl, ⟨_, SqL.of (s3 _ _ h2)⟩, fun D2 hD2 => lcL (ys := rv ks) hD2 (SqL.of (s3 _ _ h2)) (by rw [rv_len, nv_len, hkl]) lz (fun _ => rfl) (fun i x y H' hx hy sm R hR => ?_) fun H4 h4' s4 => ?_⟩
      · obtain ⟨n, hn, rfl⟩ := nv_get hx
        obtain ⟨j, hj, rfl⟩ := rv_get hy
        have hmem := List.mem_of_getElem? hn
        obtain ⟨j', hj', hv⟩ := hkv i n hn
        rw [hj] at hj'
        cases hj'
        have q1 := dg H' n (s3.trans sm) hmem
        rw [hv] at q1
        exact ⟨_, rfl, _, rfl, d, _, rfl, q1, hR H' same_refl⟩
      have s14 := (s12.trans s3).trans s4
      refine ⟨a, D2, m, _, p, ks, Ex, rfl, rfl, s14.seq hS, hm, st, h4', hkl, exIn_not ex ((s12.trans s3).free hD2), exIn_same ex s14, hkn.same s14, fun H5 t s5 n5 => ?_⟩
      obtain ⟨_, dx, c, i, v, ht⟩ := n5.has
      refine ⟨_, rfl, t, _, dx, _, _, rfl, ht, o.clT, o.n_depth, rfl, _, _, rfl, rfl, _, rfl, ite2 (fun e1 => ?_) fun e1 => ?_⟩
      · have hgt : ¬ (over (FmM.valAt m p) (tv ks)).2 ≤ 8 := by have := of_decide_eq_true e1; omega
        rw [if_neg hgt] at et
        rw [et] at k
        exact k H5 (s14.trans s5)
      · have hle : (over (FmM.valAt m p) (tv ks)).2 ≤ 8 := by
          have : ¬ (8 : Int) < _ := fun q => e1 (decide_eq_true q)
          omega
        rw [if_pos hle] at et
        rw [et] at k
        exact ⟨_, rfl, k H5 t (s14.trans s5) n5⟩
theorem sc_whole_at : FnScope ["data", "at", "wholes", "last", "place", "tree"] ["data", "at"] (defScope (top 37)) := ⟨rfl, rfl, rfl, by decide +kernel, rfl, by decide +kernel, by decide +kernel⟩
theorem ok_whole_at (g : Glo K mg aM aW aR) (o : Ob K cT cH) (G : Gf K mg "whole_at" (top 37)) (c_stands_right : Cal P w K mg base 6 "stands_right" ["data", "at"] (spStands K)) (c_told_tree : Cal P w K mg base 7 "told_tree" ["data", "at", "wholes"] (spTold K cT)) : Cal P w K mg base 8 "whole_at" ["data", "at"] (spWhole K cT) := by
  have nd := sc_whole_at.nd
  refine cal_of G (fun _ _ _ _ _ _ us hl => match us, hl with | [_, _], _ => rfl) sc_whole_at (fun vs H Q E h => ?_) (fun f cdv A outer s H vs Q E hr h => ?_)
  · obtain ⟨a, m, z, p, Ex, rfl, rfl, hS, hm, ex, k⟩ := h
    rfl
  · obtain ⟨a, m, z, p, Ex, rfl, rfl, hS, hm, ex, k⟩ := h
    have hu := hu_of hr
    have hu64 := hr.units
    refine ⟨_, (pss_cons (ps_if (pt_not (pt_val (pe_cal c_stands_right hr rfl (pa_cons (pv 0) (pa_cons (pv 1) pa_nil))))) (pss_one (ps_ret pe_non)) pss_nil)
      (pss_cons (ps_set (i := 2) nd rfl (Or.inl rfl) pe_dnewK)
      (pss_cons (ps_set (i := 3) nd rfl (Or.inl rfl) (pe_op op_sub (pe_op op_mul (pe_op op_fdiv (pe_callB call_len_seq rfl g.b_len PySem.boot_len (pa_cons (pv 0) pa_nil)) pe_int) pe_int) pe_int))
      (pss_cons (ps_for PassesOwn.never rfl (pi_range3 rfl g.b_range (pa_cons (pv 3) (pa_cons (pe_op op_sub (pv 1) pe_int) (pa_cons (pe_un un_neg pe_int) pa_nil)))) (pg_name (i := 4) nd rfl (Or.inl rfl))
      (pss_cons (ps_set (i := 5) nd rfl (Or.inl rfl) (pe_cal c_told_tree hr rfl (pa_cons (pv 0) (pa_cons (pv 4) (pa_cons (pv 2) pa_nil)))))
      (pss_one (ps_if (pt_cmp (pc_notN (pv 5))) (pss_one (ps_dput hu (pv 2) (pv 4) (pv 5) rfl)) pss_nil))))
      (pss_one (ps_ret (pe_dget1 hu (pv 2) (pv 1) ⟨rfl, rfl, rfl, rfl⟩))))))), ?_⟩
    refine ⟨_, rfl, _, rfl, a, m, _, p, rfl, rfl, hS, hm, fun H1 s1 => ⟨_, rfl, ?_⟩⟩
    cases st : standsRight m p
    · refine iteT ?_
      have e : tale m p = none := by rw [tale_eq, if_pos st]
      rw [e] at k
      exact k H1 s1
    refine iteF ?_
    obtain ⟨him, h8, h4, hp⟩ := right_bounds st
    refine fun d hd => ?_
    have s2 : Same H1 (upd H1 d (.dK [])) := same_upd same_refl hd
    have s12 := s1.trans s2
    have hd0 : H d = none := s1.free hd
    refine ⟨_, rfl, _, _, rfl, .inl (s12.seq hS), _, _, rfl, rfl, ⟨by decide, by decide⟩, _, _, rfl, rfl, .inr ⟨by decide, by decide⟩, _, _, rfl, rfl, ?_⟩
    obtain ⟨L, hL, hL4⟩ : ∃ L : Nat, ((((bv m).length : Nat) : Int) / 4 * 4 - 4) = ((L : Nat) : Int) ∧ L = m.length / 4 * 4 - 4 := ⟨m.length / 4 * 4 - 4, by rw [bv_len]; omega, rfl⟩
    have hL2 : (fun i j : Int => V.int (i - j)) ((((bv m).length : Nat) : Int) / 4 * 4) 4 = V.int ((L : Nat) : Int) := congrArg V.int hL
    rw [hL2]
    refine ⟨_, rfl, _, rfl, _, _, rfl, rfl, _, rfl, _, _, _, _, rfl, rgc4 (by omega) (by omega) (by omega) (by omega), ?_⟩
    have hn : (((((L : Nat) : Int) - (((p : Nat) : Int) - 1) - 1) / 4).toNat + 1) = (L - p) / 4 + 1 := by omega
    rw [hn]
    refine for_rangeC (fun i σ H' => i ≤ (L - p) / 4 + 1 ∧ ∃ (kvs : List (Key × V)) (vp vf : Option V), σ = [some (.ref a), some (.int (p : Nat)), some (.ref d), some (.int (L : Nat)), vp, vf] ∧ H' d = some (.dK kvs) ∧ kvs.length ≤ i ∧ WholesIn cT (fun b => Ex b ∨ b = d) H' kvs m (L + 4 - 4 * i) ∧ Same H H') ⟨by omega, [], none, none, rfl, upd_same, Nat.le_refl _, ⟨fun _ _ => rfl, fun _ _ _ => rfl, fun q x hq hx => ?_⟩, s12⟩ ?_ ?_
    · rw [tale_off (by omega)] at hx
      cases hx
    · rintro i σ H' hi ⟨_, kvs, vp, vf, rfl, hd', hk, hW, s⟩
      have eq0 : ((L : Nat) : Int) + ((i : Nat) : Int) * (-4) = ((L - 4 * i : Nat) : Int) := by omega
      have ed : L + 4 - 4 * i = L - 4 * i + 4 := by omega
      rw [ed] at hW
      have ex' : ExIn (fun b => Ex b ∨ b = d) H' := fun b hb => by
        rcases hb with hb | rfl
        · exact exIn_same ex s b hb
        · rw [hd']; exact fun q => by cases q
      refine ⟨_, rfl, _, rfl, _, rfl, a, d, m, _, L - 4 * i, kvs, fun b => Ex b ∨ b = d, rfl, eq0, s.seq hS, hm, hd', hW.down (by omega) (fun q h1 h2 => tale_off (by omega)), ex', ?_⟩
      have ei : L + 4 - 4 * (i + 1) = L - 4 * i := by omega
      cases ew : tale m (L - 4 * i) with
      | none =>
        refine fun H2 s2 => ?_
        refine ⟨_, rfl, _, rfl, ?_⟩
        refine iteF ?_
        refine ⟨by omega, kvs, _, _, rfl, s2 _ _ hd', by omega, ?_, s.trans s2⟩
        rw [ei]
        exact (hW.down (by omega) (fun q h1 h2 => by
          by_cases e : q = L - 4 * i
          · rw [e]; exact ew
          · exact tale_off (by omega))).frame fun b o _ h => s2 _ _ h
      | some x =>
        refine fun H2 t s2 ht => ?_
        refine ⟨_, rfl, _, rfl, ?_⟩
        refine iteT ?_
        have hd2 := s2 _ _ hd'
        have hkey : DPut H2 d (.int (((L : Nat) : Int) + ((i : Nat) : Int) * (-4))) (.ref t) (upd H2 d (.dK (putK kvs (.inl (((L : Nat) : Int) + ((i : Nat) : Int) * (-4))) (.ref t)))) := DPut.k (k := Sum.inl (((L : Nat) : Int) + ((i : Nat) : Int) * (-4))) hd2 (Nat.lt_of_le_of_lt hk (Nat.lt_of_le_of_lt (show i ≤ 600 by omega) (by decide)))
        refine ⟨_, rfl, _, rfl, _, rfl, d, _, rfl, hkey, ?_⟩
        rw [eq0]
        refine ⟨by omega, putK kvs (.inl ((L - 4 * i : Nat) : Int)) (.ref t), _, _, rfl, upd_same, ?_, ?_, same_upd (s.trans s2) hd0⟩
        · have := length_putK kvs (.inl ((L - 4 * i : Nat) : Int)) (.ref t)
          omega
        · rw [ei]
          have hW2 := ((hW.down (to := L - 4 * i + 1) (by omega) (fun q h1 h2 => tale_off (by omega))).frame (H' := H2) fun b o _ h => s2 _ _ h).put ew ht
          refine hW2.frame fun b o nb h => ?_
          rw [upd_ne (fun z => nb (Or.inr z))]
          exact h
    · rintro σ H' ⟨_, kvs, vp, vf, rfl, hd', hk, hW, s⟩
      refine ⟨_, rfl, d, rfl, .inl ⟨kvs, .inl hd'⟩, _, rfl, _, DGet.k (k := Sum.inl (p : Int)) hd', ?_⟩
      have ef : L + 4 - 4 * ((L - p) / 4 + 1) = p := by omega
      rw [ef] at hW
      cases ew : tale m p with
      | none =>
        rw [hW.no p (Nat.le_refl _) ew]
        rw [ew] at k
        exact k H' s
      | some x =>
        obtain ⟨t, hv, ht⟩ := hW.yes p x (Nat.le_refl _) ew
        rw [hv]
        rw [ew] at k
        exact k H' t s (ht.mono fun b o z1 z2 => ⟨fun z => z1 (Or.inl z), z2⟩)
end
end FmP
set_option Elab.async false
set_option linter.all false
set_option maxRecDepth 100000
set_option maxHeartbeats 2000000
namespace FmP
open PySem PySem.Spec PyProof.Rows L2
open Fm FmM
def iv (l : List Int) : List V := l.map V.int
theorem iv_len (l : List Int) : (iv l).length = l.length := List.length_map _
theorem bv_iv (m : Bytes) : bv m = iv (m.map fun c => ((c.toNat : Nat) : Int)) := by
  unfold bv iv
  rw [List.map_map]
  rfl
def spCheck (K : PySem.W.Frag) : Sp := fun vs H Q _ => ∃ (a : Addr) (m : Bytes), vs = [.ref a] ∧ SqL K H a (bv m) ∧ m.length ≤ 600 ∧ newL (iv (ansCheck m)) H Q
def spDepth (K : PySem.W.Frag) : Sp := fun vs H Q _ => ∃ (a : Addr) (m : Bytes) (z : Int) (p : Nat), vs = [.ref a, .int z] ∧ z = p ∧ SqL K H a (bv m) ∧ m.length ≤ 600 ∧ newL (iv (ansDepth m p)) H Q
def spAns1 (A : Bytes → Nat → List Int) (K : PySem.W.Frag) : Sp := fun vs H Q _ => ∃ (a : Addr) (m : Bytes) (z : Int) (p : Nat), vs = [.ref a, .int z] ∧ z = p ∧ SqL K H a (bv m) ∧ m.length ≤ 600 ∧ standsRight m p = true ∧ newL (iv (A m p)) H Q
abbrev spNumber : PySem.W.Frag → Sp := spAns1 ansNumber
abbrev spBytes : PySem.W.Frag → Sp := spAns1 ansBytes
abbrev spCountA : PySem.W.Frag → Sp := spAns1 ansCount
def spAns2 (A : Bytes → Nat → Nat → List Int) (K : PySem.W.Frag) : Sp := fun vs H Q _ => ∃ (a : Addr) (m : Bytes) (z y : Int) (p i : Nat), vs = [.ref a, .int z, .int y] ∧ z = p ∧ y = i ∧ SqL K H a (bv m) ∧ m.length ≤ 600 ∧ standsRight m p = true ∧ newL (iv (A m p i)) H Q
abbrev spItem : PySem.W.Frag → Sp := spAns2 ansItem
abbrev spField : PySem.W.Frag → Sp := spAns2 ansField
theorem not_dec {x y : V} (h : (!decide (x = y)) = true) : ¬ x = y := fun e => by rw [decide_eq_true e] at h; cases h
theorem of_not_dec {x y : V} (h : ¬ (!decide (x = y)) = true) : x = y := by
  by_cases e : x = y
  · exact e
  · rw [decide_eq_false e] at h; exact absurd rfl h
theorem isMsg_len {m : Bytes} (h : isMessage m = true) : 8 ≤ m.length := by
  unfold isMessage at h
  rw [Bool.and_eq_true, Bool.and_eq_true] at h
  exact of_decide_eq_true h.1.1
theorem rootOf_eq (m : Bytes) : rootOf m = if isMessage m = true ∧ (whole m (numAt m 4 4)).isSome = true then some (numAt m 4 4) else none := rfl
theorem own_num {m : Bytes} {p : Nat} (k1 : kindAt m p = 1) : ownSize (kindAt m p) (countAt m p) = 12 := by unfold ownSize; rw [k1]; rfl
theorem own_byt {m : Bytes} {p : Nat} (k1 : kindAt m p = 2) : ownSize (kindAt m p) (countAt m p) = 4 + up4 (countAt m p) := by unfold ownSize; rw [k1]; rfl
theorem keys_flat (l : List Nat) : (nv l).all flatV = true := by
  rw [List.all_eq_true]
  intro x hx
  obtain ⟨n, _, rfl⟩ := List.mem_map.mp hx
  rfl
theorem inV_nv (key : Nat) (l : List Nat) : inV (.int (key : Nat)) (nv l) = l.any fun k => k == key := by
  unfold inV nv
  rw [List.any_map]
  congr 1
  funext k
  show (((k : Nat) : Int) == ((key : Nat) : Int)) = (k == key)
  by_cases e : k = key
  · subst e; simp
  · rw [beq_eq_false_iff_ne.mpr e, beq_eq_false_iff_ne.mpr (by omega)]
theorem keysIn_any (m : Bytes) (p key : Nat) : ((keysIn m p).any fun k => k == key) = ((fieldsAt m (p + 4) (countAt m p)).any fun x => x.1 == key) := by
  unfold keysIn
  rw [List.any_map]
  rfl
/-- the first place of a key -/
theorem first_key {l : List (Nat × Nat)} {key : Nat} : ∀ {x : Nat × Nat}, l.find? (fun x => x.1 == key) = some x → ∃ j, l[j]? = some x ∧ x.1 = key ∧ ∀ (m : Nat) (y : Nat × Nat), m < j → l[m]? = some y → ¬ y.1 = key := by
  intro x h
  obtain ⟨hx, j, hj, e, hf⟩ := List.find?_eq_some_iff_getElem.mp h
  refine ⟨j, by rw [List.getElem?_eq_getElem hj, e], by simpa using hx, fun k y hk hy => ?_⟩
  have := hf k hk
  rw [List.getElem?_eq_getElem (by omega)] at hy
  cases hy
  simpa using this
section
variable {P : Program} {w : World} {K : PySem.W.Frag} {mg : Str → Option Value} {base : Heap} {aM aW aR : Addr} {cT cH : Addr}
theorem sc_check_answer : FnScope ["data"] ["data"] (defScope (top 79)) := ⟨rfl, rfl, rfl, by decide +kernel, rfl, by decide +kernel, by decide +kernel⟩
theorem ok_check_answer (g : Glo K mg aM aW aR) (G : Gf K mg "check_answer" (top 79)) (c_is_message : Cal P w K mg base 1 "is_message" ["data"] (spIsMsg K)) (c_root_of : Cal P w K mg base 2 "root_of" ["data"] (spRoot K)) (c_whole_at : Cal P w K mg base 8 "whole_at" ["data", "at"] (spWhole K cT)) : Cal P w K mg base 9 "check_answer" ["data"] (spCheck K) := by
  have nd := sc_check_answer.nd
  refine cal_of G (fun _ _ _ _ _ _ us hl => match us, hl with | [_], _ => rfl) sc_check_answer (fun vs H Q E h => ?_) (fun f cdv A outer s H vs Q E hr h => ?_)
  · obtain ⟨a, m, rfl, hS, hm, k⟩ := h
    rfl
  · obtain ⟨a, m, rfl, hS, hm, k⟩ := h
    have hu := hu_of hr
    have hu64 := hr.units
    refine ⟨_, (pss_cons (ps_if (PW.pt (pw_or (pt_not (pt_val (pe_cal c_is_message hr rfl (pa_cons (pv 0) pa_nil)))) (pw_or1 (pt_cmp (pc_isN (pe_cal c_whole_at hr rfl (pa_cons (pv 0) (pa_cons (pe_cal c_root_of hr rfl (pa_cons (pv 0) pa_nil)) pa_nil)))))))) (pss_one (ps_ret (pe_lst (pa_cons (pe_un un_neg pe_int) pa_nil)))) pss_nil)
      (pss_one (ps_ret (pe_lst (pa_cons (pe_cal c_root_of hr rfl (pa_cons (pv 0) pa_nil)) pa_nil))))), ?_⟩
    refine ⟨_, rfl, a, m, rfl, hS, fun H1 s1 => ⟨_, rfl, ?_⟩⟩
    cases g1 : isMessage m
    · refine iteT (iteT ?_)
      refine ⟨_, rfl, (by show 1 ≤ sizeLine; decide), fun l hl => k.at' s1 hl ?_⟩
      unfold ansCheck
      rw [rootOf_eq, if_neg (by rw [g1]; simp)]
      rfl
    refine iteF ?_
    have hl8 := isMsg_len g1
    refine ⟨_, rfl, _, rfl, a, m, rfl, s1.seq hS, hl8, a, m, _, numAt m 4 4, fun _ => False, rfl, rfl, s1.seq hS, hm, fun _ z => z.elim, ?_⟩
    cases ew : tale m (numAt m 4 4) with
    | none =>
      refine fun H2 s2 => ⟨_, rfl, iteT ?_⟩
      refine ⟨_, rfl, (by show 1 ≤ sizeLine; decide), fun l hl => k.at' (s1.trans s2) hl ?_⟩
      unfold ansCheck
      rw [rootOf_eq, if_neg (by rw [tale_none ew]; simp)]
      rfl
    | some x =>
      refine fun H2 t s2 ht => ⟨_, rfl, iteF ?_⟩
      refine ⟨_, rfl, a, m, rfl, (s1.trans s2).seq hS, hl8, (by show 1 ≤ sizeLine; decide), fun l hl => k.at' (s1.trans s2) hl ?_⟩
      unfold ansCheck
      rw [rootOf_eq, if_pos ⟨g1, by rw [(tale_some ew).1]; rfl⟩]
      rfl
theorem sc_depth_answer : FnScope ["data", "at", "tree"] ["data", "at"] (defScope (top 80)) := ⟨rfl, rfl, rfl, by decide +kernel, rfl, by decide +kernel, by decide +kernel⟩
theorem ok_depth_answer (g : Glo K mg aM aW aR) (o : Ob K cT cH) (G : Gf K mg "depth_answer" (top 80)) (c_whole_at : Cal P w K mg base 8 "whole_at" ["data", "at"] (spWhole K cT)) : Cal P w K mg base 9 "depth_answer" ["data", "at"] (spDepth K) := by
  have nd := sc_depth_answer.nd
  refine cal_of G (fun _ _ _ _ _ _ us hl => match us, hl with | [_, _], _ => rfl) sc_depth_answer (fun vs H Q E h => ?_) (fun f cdv A outer s H vs Q E hr h => ?_)
  · obtain ⟨a, m, z, p, rfl, rfl, hS, hm, k⟩ := h
    rfl
  · obtain ⟨a, m, z, p, rfl, rfl, hS, hm, k⟩ := h
    have hu := hu_of hr
    have hu64 := hr.units
    refine ⟨_, (pss_cons (ps_set (i := 2) nd rfl (Or.inl rfl) (pe_cal c_whole_at hr rfl (pa_cons (pv 0) (pa_cons (pv 1) pa_nil))))
      (pss_cons (ps_if (pt_cmp (pc_isN (pv 2))) (pss_one (ps_ret (pe_lst (pa_cons (pe_un un_neg pe_int) pa_nil)))) pss_nil)
      (pss_one (ps_ret (pe_lst (pa_cons (pe_fld (pv 2) rfl) (pa_cons (pe_fld (pv 2) rfl) pa_nil))))))), ?_⟩
    refine ⟨_, rfl, _, rfl, a, m, _, p, fun _ => False, rfl, rfl, hS, hm, fun _ z => z.elim, ?_⟩
    cases ew : tale m p with
    | none =>
      refine fun H2 s2 => ⟨_, rfl, _, rfl, iteT ?_⟩
      refine ⟨_, rfl, (by show 1 ≤ sizeLine; decide), fun l hl => k.at' s2 hl ?_⟩
      unfold ansDepth
      rw [tale_none ew]
      rfl
    | some x =>
      refine fun H2 t s2 ht => ⟨_, rfl, _, rfl, iteF ?_⟩
      obtain ⟨_, dx, c, i, v, hh⟩ := ht.has
      refine ⟨_, rfl, t, _, dx, _, _, rfl, hh, o.clT, o.n_depth, rfl, _, rfl, t, _, dx, _, _, rfl, hh, o.clT, o.n_size, rfl, (by show 2 ≤ sizeLine; decide), fun l hl => k.at' s2 hl ?_⟩
      unfold ansDepth
      rw [(tale_some ew).1]
      rfl
theorem sc_number_answer : FnScope ["data", "at"] ["data", "at"] (defScope (top 81)) := ⟨rfl, rfl, rfl, by decide +kernel, rfl, by decide +kernel, by decide +kernel⟩
theorem ok_number_answer (g : Glo K mg aM aW aR) (G : Gf K mg "number_answer" (top 81)) (c_kind_at : Cal P w K mg base 1 "kind_at" ["data", "at"] (spKind K)) (c_word_at : Cal P w K mg base 1 "word_at" ["data", "place"] (spWord K)) : Cal P w K mg base 2 "number_answer" ["data", "at"] (spNumber K) := by
  have nd := sc_number_answer.nd
  refine cal_of G (fun _ _ _ _ _ _ us hl => match us, hl with | [_, _], _ => rfl) sc_number_answer (fun vs H Q E h => ?_) (fun f cdv A outer s H vs Q E hr h => ?_)
  · obtain ⟨a, m, z, p, rfl, rfl, hS, hm, st, k⟩ := h
    rfl
  · obtain ⟨a, m, z, p, rfl, rfl, hS, hm, st, k⟩ := h
    have hu := hu_of hr
    have hu64 := hr.units
    refine ⟨_, (pss_cons (ps_if (pt_cmpR op_ne (pe_cal c_kind_at hr rfl (pa_cons (pv 0) (pa_cons (pv 1) pa_nil))) (pe_gi g.c_NUMBER rfl) (nomark _)) (pss_one (ps_ret (pe_lst (pa_cons (pe_un un_neg pe_int) pa_nil)))) pss_nil)
      (pss_one (ps_ret (pe_lst (pa_cons pe_int (pa_cons (pe_cal c_word_at hr rfl (pa_cons (pv 0) (pa_cons (pe_op op_add (pv 1) pe_int) pa_nil))) (pa_cons (pe_cal c_word_at hr rfl (pa_cons (pv 0) (pa_cons (pe_op op_add (pv 1) pe_int) pa_nil))) pa_nil))))))), ?_⟩
    obtain ⟨him, h8, h4, hp⟩ := right_bounds st
    have hown := stands_own st
    refine ⟨_, rfl, _, rfl, a, m, _, p, rfl, rfl, hS, by omega, rfl, _, rfl, ite2 (fun e1 => ?_) fun e1 => ?_⟩
    · refine ⟨_, rfl, (by show 1 ≤ sizeLine; decide), fun l hl => k.at hl ?_⟩
      have n1 : ¬ kindAt m p = 1 := fun q => not_dec e1 (by rw [q]; rfl)
      unfold ansNumber
      rw [if_neg n1]
      rfl
    · have k1 : kindAt m p = 1 := by have := V.int.inj (of_not_dec e1); omega
      rw [own_num k1] at hown
      refine ⟨_, rfl, _, rfl, _, _, rfl, rfl, a, m, _, p + 8, rfl, by omega, hS, by omega, _, rfl, _, rfl, _, _, rfl, rfl, a, m, _, p + 4, rfl, by omega, hS, by omega, (by show 3 ≤ sizeLine; decide), fun l hl => k.at hl ?_⟩
      unfold ansNumber
      rw [if_pos k1]
      rfl
theorem sc_bytes_answer : FnScope ["data", "at"] ["data", "at"] (defScope (top 82)) := ⟨rfl, rfl, rfl, by decide +kernel, rfl, by decide +kernel, by decide +kernel⟩
theorem ok_bytes_answer (g : Glo K mg aM aW aR) (G : Gf K mg "bytes_answer" (top 82)) (c_bytes_in : Cal P w K mg base 3 "bytes_in" ["data", "at"] (spBytesIn K)) (c_count_at : Cal P w K mg base 2 "count_at" ["data", "at"] (spCount K)) (c_kind_at : Cal P w K mg base 1 "kind_at" ["data", "at"] (spKind K)) : Cal P w K mg base 4 "bytes_answer" ["data", "at"] (spBytes K) := by
  have nd := sc_bytes_answer.nd
  refine cal_of G (fun _ _ _ _ _ _ us hl => match us, hl with | [_, _], _ => rfl) sc_bytes_answer (fun vs H Q E h => ?_) (fun f cdv A outer s H vs Q E hr h => ?_)
  · obtain ⟨a, m, z, p, rfl, rfl, hS, hm, st, k⟩ := h
    rfl
  · obtain ⟨a, m, z, p, rfl, rfl, hS, hm, st, k⟩ := h
    have hu := hu_of hr
    have hu64 := hr.units
    refine ⟨_, (pss_cons (ps_if (pt_cmpR op_ne (pe_cal c_kind_at hr rfl (pa_cons (pv 0) (pa_cons (pv 1) pa_nil))) (pe_gi g.c_BYTES rfl) (nomark _)) (pss_one (ps_ret (pe_lst (pa_cons (pe_un un_neg pe_int) pa_nil)))) pss_nil)
      (pss_one (ps_ret (pe_op op_cat (pe_lst (pa_cons (pe_cal c_count_at hr rfl (pa_cons (pv 0) (pa_cons (pv 1) pa_nil))) (pa_cons (pe_op op_add (pv 1) pe_int) pa_nil))) (pe_cal c_bytes_in hr rfl (pa_cons (pv 0) (pa_cons (pv 1) pa_nil))))))), ?_⟩
    obtain ⟨him, h8, h4, hp⟩ := right_bounds st
    have hown := stands_own st
    refine ⟨_, rfl, _, rfl, a, m, _, p, rfl, rfl, hS, by omega, rfl, _, rfl, ite2 (fun e1 => ?_) fun e1 => ?_⟩
    · refine ⟨_, rfl, (by show 1 ≤ sizeLine; decide), fun l hl => k.at hl ?_⟩
      have n1 : ¬ kindAt m p = 2 := fun q => not_dec e1 (by rw [q]; rfl)
      unfold ansBytes
      rw [if_neg n1]
      rfl
    · have k2 : kindAt m p = 2 := by have := V.int.inj (of_not_dec e1); omega
      refine ⟨_, rfl, _, rfl, a, m, _, p, rfl, rfl, hS, hp, _, rfl, _, _, rfl, rfl, (by show 2 ≤ sizeLine; decide), fun l hl => ?_⟩
      have s1 : Same H (upd H l (.lst [.int (countAt m p : Nat), .int ((p : Nat) + 4)])) := same_upd same_refl hl
      refine ⟨_, rfl, _, rfl, a, m, _, p, rfl, rfl, s1.seq hS, hp, fun H2 q hq h2 s2 => ?_⟩
      refine ⟨l, q, _, _, rfl, rfl, s2 _ _ upd_same, h2, ?_, fun r hr2 => k.at' (s1.trans s2) hr2 ?_⟩
      · rw [bv_len, List.length_take, List.length_drop]
        exact line600 (by show 2 + _ ≤ 600; omega)
      · unfold ansBytes
        rw [if_pos k2, bv_iv]
        unfold iv
        rw [List.map_append]
        rfl
theorem sc_count_answer : FnScope ["data", "at"] ["data", "at"] (defScope (top 83)) := ⟨rfl, rfl, rfl, by decide +kernel, rfl, by decide +kernel, by decide +kernel⟩
theorem ok_count_answer (g : Glo K mg aM aW aR) (G : Gf K mg "count_answer" (top 83)) (c_count_at : Cal P w K mg base 2 "count_at" ["data", "at"] (spCount K)) (c_kind_at : Cal P w K mg base 1 "kind_at" ["data", "at"] (spKind K)) : Cal P w K mg base 3 "count_answer" ["data", "at"] (spCountA K) := by
  have nd := sc_count_answer.nd
  refine cal_of G (fun _ _ _ _ _ _ us hl => match us, hl with | [_, _], _ => rfl) sc_count_answer (fun vs H Q E h => ?_) (fun f cdv A outer s H vs Q E hr h => ?_)
  · obtain ⟨a, m, z, p, rfl, rfl, hS, hm, st, k⟩ := h
    rfl
  · obtain ⟨a, m, z, p, rfl, rfl, hS, hm, st, k⟩ := h
    have hu := hu_of hr
    have hu64 := hr.units
    refine ⟨_, (pss_cons (ps_if (pt_cmpR op_eq (pe_cal c_kind_at hr rfl (pa_cons (pv 0) (pa_cons (pv 1) pa_nil))) (pe_gi g.c_NUMBER rfl) (nomark _)) (pss_one (ps_ret (pe_lst (pa_cons (pe_un un_neg pe_int) pa_nil)))) pss_nil)
      (pss_one (ps_ret (pe_lst (pa_cons (pe_cal c_count_at hr rfl (pa_cons (pv 0) (pa_cons (pv 1) pa_nil))) pa_nil))))), ?_⟩
    obtain ⟨him, h8, h4, hp⟩ := right_bounds st
    refine ⟨_, rfl, _, rfl, a, m, _, p, rfl, rfl, hS, by omega, rfl, _, rfl, ite2 (fun e1 => ?_) fun e1 => ?_⟩
    · refine ⟨_, rfl, (by show 1 ≤ sizeLine; decide), fun l hl => k.at hl ?_⟩
      have k1 : kindAt m p = 1 := by have e := V.int.inj (of_decide_eq_true e1); omega
      unfold ansCount
      rw [if_pos k1]
      rfl
    · have n1 : ¬ kindAt m p = 1 := fun q => e1 (by rw [q]; rfl)
      refine ⟨_, rfl, _, rfl, a, m, _, p, rfl, rfl, hS, hp, (by show 1 ≤ sizeLine; decide), fun l hl => k.at hl ?_⟩
      unfold ansCount
      rw [if_neg n1]
      rfl
theorem sc_item_answer : FnScope ["data", "at", "i", "kind"] ["data", "at", "i"] (defScope (top 84)) := ⟨rfl, rfl, rfl, by decide +kernel, rfl, by decide +kernel, by decide +kernel⟩
theorem ok_item_answer (g : Glo K mg aM aW aR) (G : Gf K mg "item_answer" (top 84)) (c_count_at : Cal P w K mg base 2 "count_at" ["data", "at"] (spCount K)) (c_key_in : Cal P w K mg base 2 "key_in" ["data", "at", "i"] (spKey K)) (c_kind_at : Cal P w K mg base 1 "kind_at" ["data", "at"] (spKind K)) (c_place_in : Cal P w K mg base 2 "place_in" ["data", "at", "i"] (spPlace K)) : Cal P w K mg base 3 "item_answer" ["data", "at", "i"] (spItem K) := by
  have nd := sc_item_answer.nd
  refine cal_of G (fun _ _ _ _ _ _ us hl => match us, hl with | [_, _, _], _ => rfl) sc_item_answer (fun vs H Q E h => ?_) (fun f cdv A outer s H vs Q E hr h => ?_)
  · obtain ⟨a, m, z, y, p, i, rfl, rfl, rfl, hS, hm, st, k⟩ := h
    rfl
  · obtain ⟨a, m, z, y, p, i, rfl, rfl, rfl, hS, hm, st, k⟩ := h
    have hu := hu_of hr
    have hu64 := hr.units
    refine ⟨_, (pss_cons (ps_set (i := 3) nd rfl (Or.inl rfl) (pe_cal c_kind_at hr rfl (pa_cons (pv 0) (pa_cons (pv 1) pa_nil))))
      (pss_cons (ps_if (PW.pt (pw_and (pt_cmpR op_ne (pv 3) (pe_gi g.c_LIST rfl) (nomark _)) (pw_and1 (pt_cmpR op_ne (pv 3) (pe_gi g.c_RECORD rfl) (nomark _))))) (pss_one (ps_ret (pe_lst (pa_cons (pe_un un_neg pe_int) pa_nil)))) pss_nil)
      (pss_cons (ps_if (pt_cmpR op_ge (pv 2) (pe_cal c_count_at hr rfl (pa_cons (pv 0) (pa_cons (pv 1) pa_nil))) (nomark _)) (pss_one (ps_ret (pe_lst (pa_cons (pe_un un_neg pe_int) pa_nil)))) pss_nil)
      (pss_cons (ps_if (pt_cmpR op_eq (pv 3) (pe_gi g.c_LIST rfl) (nomark _)) (pss_one (ps_ret (pe_lst (pa_cons (pe_cal c_place_in hr rfl (pa_cons (pv 0) (pa_cons (pv 1) (pa_cons (pv 2) pa_nil)))) (pa_cons pe_int pa_nil))))) pss_nil)
      (pss_one (ps_ret (pe_lst (pa_cons (pe_cal c_place_in hr rfl (pa_cons (pv 0) (pa_cons (pv 1) (pa_cons (pv 2) pa_nil)))) (pa_cons (pe_cal c_key_in hr rfl (pa_cons (pv 0) (pa_cons (pv 1) (pa_cons (pv 2) pa_nil)))) pa_nil))))))))), ?_⟩
    obtain ⟨him, h8, h4, hp⟩ := right_bounds st
    have hown := stands_own st
    refine ⟨_, rfl, _, rfl, a, m, _, p, rfl, rfl, hS, by omega, ?_⟩
    have bad : kindAt m p ≠ 3 ∧ kindAt m p ≠ 4 → ansItem m p i = [-2] := fun h => by unfold ansItem; rw [if_pos h]
    have main : (kindAt m p = 3 ∨ kindAt m p = 4) → ansItem m p i = (if countAt m p ≤ i then [-3] else if kindAt m p = 3 then [(numAt m (p + 4 + 4 * i) 4 : Int), 0] else [(numAt m (p + 4 + 4 + 8 * i) 4 : Int), (numAt m (p + 4 + 8 * i) 4 : Int)]) := fun h => by
      unfold ansItem
      rw [if_neg (by omega)]
    refine ⟨_, rfl, rfl, _, rfl, ite2 (fun e1 => ⟨_, rfl, rfl, _, rfl, ite2 (fun e2 => ?_) fun e2 => ?_⟩) fun e1 => iteF ?_⟩
    · refine ⟨_, rfl, (by show 1 ≤ sizeLine; decide), fun l hl => k.at hl ?_⟩
      rw [bad ⟨fun q => not_dec e1 (by rw [q]; rfl), fun q => not_dec e2 (by rw [q]; rfl)⟩]
      rfl
    · have k4 : kindAt m p = 4 := by have := V.int.inj (of_not_dec e2); omega
      have hk := main (.inr k4)
      have ho := own_rec (m := m) (p := p) (by omega) (by omega)
      refine ⟨_, rfl, _, rfl, _, rfl, a, m, _, p, rfl, rfl, hS, hp, _, _, rfl, rfl, _, rfl, ite2 (fun e3 => ?_) fun e3 => ?_⟩
      · refine ⟨_, rfl, (by show 1 ≤ sizeLine; decide), fun l hl => k.at hl ?_⟩
        rw [hk, if_pos (by have := of_decide_eq_true e3; omega)]
        rfl
      · have hi : ¬ countAt m p ≤ i := fun q => e3 (decide_eq_true (by omega))
        refine ⟨_, rfl, rfl, _, rfl, ite2 (fun e4 => ?_) fun e4 => ?_⟩
        · have := V.int.inj (of_decide_eq_true e4)
          omega
        refine ⟨_, rfl, _, rfl, _, rfl, a, m, _, _, p, i, rfl, rfl, rfl, hS, by omega, by omega, .inr ⟨by omega, by omega, ?_⟩⟩
        refine ⟨_, rfl, _, rfl, _, rfl, a, m, _, _, p, i, rfl, rfl, rfl, hS, by omega, by omega, (by show 2 ≤ sizeLine; decide), fun l hl => k.at hl ?_⟩
        rw [hk, if_neg hi, if_neg (by omega)]
        rfl
    · have k3 : kindAt m p = 3 := by have := V.int.inj (of_not_dec e1); omega
      have hk := main (.inl k3)
      have ho := own_list k3
      refine ⟨_, rfl, _, rfl, _, rfl, a, m, _, p, rfl, rfl, hS, hp, _, _, rfl, rfl, _, rfl, ite2 (fun e3 => ?_) fun e3 => ?_⟩
      · refine ⟨_, rfl, (by show 1 ≤ sizeLine; decide), fun l hl => k.at hl ?_⟩
        rw [hk, if_pos (by have := of_decide_eq_true e3; omega)]
        rfl
      · have hi : ¬ countAt m p ≤ i := fun q => e3 (decide_eq_true (by omega))
        refine ⟨_, rfl, rfl, _, rfl, ite2 (fun e4 => ?_) fun e4 => ?_⟩
        · refine ⟨_, rfl, _, rfl, _, rfl, a, m, _, _, p, i, rfl, rfl, rfl, hS, by omega, by omega, .inl ⟨k3, by omega, (by show 2 ≤ sizeLine; decide), fun l hl => k.at hl ?_⟩⟩
          rw [hk, if_neg hi, if_pos k3]
          rfl
        · exact absurd (by rw [k3]; rfl) e4
theorem sc_field_answer : FnScope ["data", "at", "key", "keys"] ["data", "at", "key"] (defScope (top 85)) := ⟨rfl, rfl, rfl, by decide +kernel, rfl, by decide +kernel, by decide +kernel⟩
theorem ok_field_answer (g : Glo K mg aM aW aR) (G : Gf K mg "field_answer" (top 85)) (c_keys_in : Cal P w K mg base 3 "keys_in" ["data", "at"] (spKeys K)) (c_kind_at : Cal P w K mg base 1 "kind_at" ["data", "at"] (spKind K)) (c_place_in : Cal P w K mg base 2 "place_in" ["data", "at", "i"] (spPlace K)) : Cal P w K mg base 4 "field_answer" ["data", "at", "key"] (spField K) := by
  have nd := sc_field_answer.nd
  refine cal_of G (fun _ _ _ _ _ _ us hl => match us, hl with | [_, _, _], _ => rfl) sc_field_answer (fun vs H Q E h => ?_) (fun f cdv A outer s H vs Q E hr h => ?_)
  · obtain ⟨a, m, z, y, p, i, rfl, rfl, rfl, hS, hm, st, k⟩ := h
    rfl
  · obtain ⟨a, m, z, y, p, i, rfl, rfl, rfl, hS, hm, st, k⟩ := h
    have hu := hu_of hr
    have hu64 := hr.units
    refine ⟨_, (pss_cons (ps_if (pt_cmpR op_ne (pe_cal c_kind_at hr rfl (pa_cons (pv 0) (pa_cons (pv 1) pa_nil))) (pe_gi g.c_RECORD rfl) (nomark _)) (pss_one (ps_ret (pe_lst (pa_cons (pe_un un_neg pe_int) pa_nil)))) pss_nil)
      (pss_cons (ps_set (i := 3) nd rfl (Or.inl rfl) (pe_cal c_keys_in hr rfl (pa_cons (pv 0) (pa_cons (pv 1) pa_nil))))
      (pss_cons (ps_if (pt_cmpR op_notIn_seq (pv 2) (pv 3) rfl) (pss_one (ps_ret (pe_lst (pa_cons (pe_un un_neg pe_int) pa_nil)))) pss_nil)
      (pss_one (ps_ret (pe_lst (pa_cons (pe_cal c_place_in hr rfl (pa_cons (pv 0) (pa_cons (pv 1) (pa_cons (pe_bm PySem.F.plainAttrs_list PySem.F.slot_list_index PySem.F.type_list_index mt_index (pv 3) (pa_cons (pv 2) pa_nil)) pa_nil)))) pa_nil))))))), ?_⟩
    obtain ⟨him, h8, h4, hp⟩ := right_bounds st
    have hown := stands_own st
    refine ⟨_, rfl, _, rfl, a, m, _, p, rfl, rfl, hS, by omega, rfl, _, rfl, ite2 (fun e1 => ?_) fun e1 => ?_⟩
    · refine ⟨_, rfl, (by show 1 ≤ sizeLine; decide), fun l hl => k.at hl ?_⟩
      have n1 : kindAt m p ≠ 4 := fun q => not_dec e1 (by rw [q]; rfl)
      unfold ansField
      rw [if_pos n1]
      rfl
    have k4 : kindAt m p = 4 := by have := V.int.inj (of_not_dec e1); omega
    have ho := own_rec (m := m) (p := p) (by omega) (by omega)
    refine ⟨_, rfl, _, rfl, a, m, _, p, rfl, rfl, hS, hm, by omega, fun H1 q hq h1 s1 => ?_⟩
    refine ⟨_, rfl, _, rfl, q, _, rfl, .inl (SqL.of h1), rfl, keys_flat _, _, rfl, ?_⟩
    rw [show (if true = true then !inV (V.int (i : Nat)) (nv (keysIn m p)) else inV (V.int (i : Nat)) (nv (keysIn m p))) = !((fieldsAt m (p + 4) (countAt m p)).any fun x => x.1 == i) by rw [if_pos rfl, inV_nv, keysIn_any]]
    cases ef : (fieldsAt m (p + 4) (countAt m p)).find? fun (x : Nat × Nat) => x.1 == i with
    | none =>
      have ea : ((fieldsAt m (p + 4) (countAt m p)).any fun x => x.1 == i) = false := by
        rw [List.find?_eq_none] at ef
        rw [List.any_eq_false]
        exact ef
      rw [ea]
      refine iteT ?_
      refine ⟨_, rfl, (by show 1 ≤ sizeLine; decide), fun l hl => k.at' s1 hl ?_⟩
      unfold ansField
      rw [if_neg (by omega), ef]
      rfl
    | some x =>
      have ea : ((fieldsAt m (p + 4) (countAt m p)).any fun x => x.1 == i) = true := by
        rw [List.any_eq_true]
        exact ⟨x, List.mem_of_find?_eq_some ef, by have := List.find?_some ef; exact this⟩
      rw [ea]
      refine iteF ?_
      obtain ⟨j, hj, hx, hf⟩ := first_key ef
      have hj2 := fieldsAt_get m (p + 4) (countAt m p) j
      rw [hj] at hj2
      by_cases hjc : j < countAt m p
      · rw [if_pos hjc] at hj2
        have hx2 : x = (numAt m (p + 4 + 8 * j) 4, numAt m (p + 4 + 4 + 8 * j) 4) := Option.some.inj hj2
        have hkj : (keysIn m p)[j]? = some i := by unfold keysIn; rw [List.getElem?_map, hj]; exact congrArg some hx
        refine ⟨_, rfl, _, rfl, _, rfl, .inl ⟨rfl, _, SqL.of h1⟩, _, rfl, q, _, _, j, _, rfl, rfl, SqL.of h1, rfl, keys_flat _, nv_at hkj, (by show (((i : Nat) : Int) == ((i : Nat) : Int)) = true; simp), ?_, ?_⟩
        · intro m' z' hlt hz
          obtain ⟨n, hn, rfl⟩ := nv_get hz
          unfold keysIn at hn
          rw [List.getElem?_map] at hn
          cases ey : (fieldsAt m (p + 4) (countAt m p))[m']? with
          | none => rw [ey] at hn; cases hn
          | some w' =>
            rw [ey] at hn
            have e2 : w'.1 = n := Option.some.inj hn
            have := hf m' w' hlt ey
            show (((n : Nat) : Int) == ((i : Nat) : Int)) = false
            exact beq_eq_false_iff_ne.mpr (by omega)
        · refine ⟨a, m, _, _, p, j, rfl, rfl, rfl, s1.seq hS, by omega, by omega, .inr ⟨by omega, by omega, (by show 1 ≤ sizeLine; decide), fun l hl => k.at' s1 hl ?_⟩⟩
          unfold ansField
          rw [if_neg (by omega), ef, hx2]
          rfl
      · rw [if_neg hjc] at hj2
        cases hj2
end
end FmP
set_option Elab.async false
set_option linter.all false
set_option maxRecDepth 100000
namespace FmP
open PySem PySem.Spec PyProof.Rows L2
/-! ### list(reversed(xs)) -/
theorem lri_no_len : typeLookup (.type "list_reverseiterator") "__len__" = pure none := by rw [typeLookup_type, builtinLookup_eq_fast]; kernel_rfl
theorem lri_hint : typeLookup (.type "list_reverseiterator") "__length_hint__" = pure (some (.builtin "list_reverseiterator.__length_hint__")) := by rw [typeLookup_type, builtinLookup_eq_fast]; kernel_rfl
section
variable {P : Program} {w : World} {A : Around} {E : Value → Shared → Prop} {s : Shared}
theorem rv_hint {it : Addr} {Q : Bool → Shared → Prop} (ty : s.TypeIs (.ref it) "list_reverseiterator") (h : Q false s) : wpAny (model P w) A (Builtin.List.listLengthHint (.ref it)) Q E s := by
  unfold Builtin.List.listLengthHint
  refine wpAny_bind (wpAny_specialOf ty lri_no_len ?_)
  show wpAny _ A (specialOf (Value.ref it) (Str.ofString "__length_hint__") >>= _) _ _ _
  refine wpAny_bind (wpAny_specialOf ty lri_hint ?_)
  generalize hid : ("list_reverseiterator.__length_hint__" : String) = id0
  wp_delta
  rw [show splitId id0 = some ("list_reverseiterator", "__length_hint__") from by subst hid; decide +kernel]
  subst hid
  refine wpAny_bind (wpAny_isInstance (T := "list_reverseiterator") (b := true) ty (by rw [isSubtype_type]; kernel_rfl) ?_)
  refine wpAny_ite_split (fun z => absurd z (by decide)) (fun _ => ?_)
  refine wpAny_ite_split (fun _ => ?_) (fun z => absurd (by decide +kernel) z)
  refine wpAny_ite_split (fun z => absurd z (by decide +kernel)) (fun _ => ?_)
  exact wpAny_pure h
theorem rv_extend {R : Result → Shared → Prop} {it l : Addr} {items : Array Value} (hh : A.handled = none) (hne : l ≠ it) (hit : s.heap.IsRevIter it l ((items.size : Int) - 1)) (hl : s.heap.IsList l items) (hz : items.size ≤ sizeLine) (S : Addr) (nS : S ∉ [it, l]) (c0 : Nat)
    (hS : s.heap.get? S = some (boxL #[] c0))
    (out : ∀ h1 tk acc c, (∀ b o, b ≠ S → b ≠ it → s.heap.get? b = some o → h1.get? b = some o) → h1.get? S = some (boxL acc c) → ItemsOf (fun i v => items[items.size - 1 - i]? = some v) acc items.size → R (.ok (.ret .none)) { s with heap := h1, toks := tk }) :
    wpAny (model P w) A.in1 (Builtin.List.listExtendWith (.ref S) (.ref it) .none)
      (fun fin s1 => match fin with | .done f => R (.ok f) s1 | .again c1 => c1.quiet = true ∧ codeAny (model P w) A c1 R s1) (fun e s1 => R (.error e) s1) s := by
  have nSi : S ≠ it := fun z => nS (by simp [z])
  have nSl : S ≠ l := fun z => nS (by simp [z])
  have W := (Walks.listRev (prog := P) (w := w) (A := A.in1) hh it l hne items).toS
  have key : ∀ (h : Heap) (c1 tk : Nat), h.IsRevIter it l ((items.size : Int) - 1 - ((0 : Nat) : Int)) → h.IsList l items → (∀ b o, b ≠ S → s.heap.get? b = some o → h.get? b = some o) → h.get? S = some (boxL #[] c1) →
      codeAny (model P w) A (.builtin "list.extend.loop" ⟨[.ref S, .ref it, .none], []⟩) R { s with heap := h, toks := tk } := by
    intro h c1 tk z1 z2 z3 z4
    refine codeAny_extend_loopS W hz S nS .none items.size 0 _ #[] c1 rfl (Nat.zero_le _) ⟨Nat.zero_le _, z1, z2⟩ z4 (ItemsOf.nil _) fun s2 acc c hm h4 ha => ?_
    rw [Moved.eq_with hm]
    refine out s2.heap s2.toks acc c (fun b o n1 n2 e => hm.heap b o (fun q => ?_) (z3 b o n1 e)) h4 ha
    rcases List.mem_cons.mp q with q | q
    · exact n1 q
    · exact n2 (List.mem_singleton.mp q)
  have hit0 : s.heap.IsRevIter it l ((items.size : Int) - 1 - ((0 : Nat) : Int)) := by simpa using hit
  unfold Builtin.List.listExtendWith
  refine wpAny_bind (wpAny_typeOf hit.typeIs ?_)
  have z1 : Builtin.List.listSameRef (.ref S) (.ref it) = false := by simp [Builtin.List.listSameRef, nSi]
  have z2 : (Value.type "list_reverseiterator" == Value.type "list") = false := by decide
  have z3 : (Value.type "list_reverseiterator" == Value.type "tuple") = false := by decide
  simp only [z1, z2, z3, Bool.or_false, Bool.false_eq_true, if_false]
  refine wpAny_bind (wpAny_pyIter_revIter hit ?_)
  refine wpAny_bind (wpAny_holding (rv_hint hit.typeIs ?_))
  refine wpAny_ite_split (fun _ => ?_) (fun _ => wpAny_pure ⟨plainId_quiet F.plain_extend_loop _, key _ c0 _ hit0 hl (fun b o _ e => e) hS⟩)
  refine wpAny_bind (wpAny_rule ?_)
  refine wpAny_bind ?_
  show wpAny _ _ (updateSeq S (·.push .none) >>= fun _ => updateSeq S (·.pop)) _ _ _
  refine wpAny_bind (wpAny_updateSeq hS rfl ?_)
  have hS2 := Heap.get?_update_self (Obj.mapSeq (·.push Value.none)) hS rfl
  refine wpAny_updateSeq (hz := by seq_fits) hS2 rfl ?_
  have hS3 := Heap.get?_update_self (Obj.mapSeq (·.pop)) hS2 rfl
  have oth : ∀ b o, b ≠ S → s.heap.get? b = some o → ((s.heap.update S (Obj.mapSeq (·.push Value.none))).update S (Obj.mapSeq (·.pop))).get? b = some o := fun b o nb e => (Heap.get?_update_other _ _ (Ne.symm nb)).trans ((Heap.get?_update_other _ _ (Ne.symm nb)).trans e)
  exact wpAny_pure ⟨plainId_quiet F.plain_extend_loop _, key _ _ _ (hit0.at fun o e => oth it o (Ne.symm nSi) e) (hl.at fun o e => oth l o (Ne.symm nSl) e) oth hS3⟩
theorem rv_init {R : Result → Shared → Prop} {it l : Addr} {items : Array Value} (hh : A.handled = none) (hne : l ≠ it) (hit : s.heap.IsRevIter it l ((items.size : Int) - 1)) (hl : s.heap.IsList l items) (hz : items.size ≤ sizeLine) (S : Addr) (nS : S ∉ [it, l])
    (hS : s.heap.get? S = some (boxL #[] 0))
    (out : ∀ h1 tk acc c, (∀ b o, b ≠ S → b ≠ it → s.heap.get? b = some o → h1.get? b = some o) → h1.get? S = some (boxL acc c) → ItemsOf (fun i v => items[items.size - 1 - i]? = some v) acc items.size → R (.ok (.ret .none)) { s with heap := h1, toks := tk }) :
    wpAny (model P w) A.in1 (Builtin.«list.__init__» ⟨[.ref S, .ref it], []⟩)
      (fun fin s1 => match fin with | .done f => R (.ok f) s1 | .again c1 => c1.quiet = true ∧ codeAny (model P w) A c1 R s1) (fun e s1 => R (.error e) s1) s := by
  have nSi : S ≠ it := fun z => nS (by simp [z])
  have nSl : S ≠ l := fun z => nS (by simp [z])
  show wpAny _ _ (do let old ← Builtin.List.listItems (.ref S); Builtin.List.listUpdate (.ref S) (fun _ => #[]); letGo old.toList.reverse; Builtin.List.listExtendWith (.ref S) (.ref it) .none) _ _ s
  refine wpAny_bind ?_
  unfold Builtin.List.listItems
  refine wpAny_bind (wpAny_seqItems hS rfl (wpAny_pure ?_))
  show wpAny _ _ (updateSeq S (fun _ => #[]) >>= fun _ => letGo (#[] : Array Value).toList.reverse >>= fun _ => Builtin.List.listExtendWith (.ref S) (.ref it) .none) _ _ s
  refine wpAny_bind (wpAny_updateSeq hS rfl ?_)
  have hS2 := Heap.get?_update_self (Obj.mapSeq (fun _ => (#[] : Array Value))) hS rfl
  have oth : ∀ b o, b ≠ S → s.heap.get? b = some o → (s.heap.update S (Obj.mapSeq (fun _ => (#[] : Array Value)))).get? b = some o := fun b o nb e => (Heap.get?_update_other _ _ (Ne.symm nb)).trans e
  refine wpAny_bind (wpAny_letGo ?_)
  refine rv_extend hh hne (hit.at fun o e => oth it o (Ne.symm nSi) e) (hl.at fun o e => oth l o (Ne.symm nSl) e) hz S nS _ hS2 fun h1 tk acc c kp h2 ha => ?_
  exact out h1 tk acc c (fun b o n1 n2 e => kp b o n1 n2 (oth b o n1 e)) h2 ha
theorem rv_call {Q : Value → Shared → Prop} {it l : Addr} {items : Array Value} (hh : A.handled = none) (hne : l ≠ it) (hit : s.heap.IsRevIter it l ((items.size : Int) - 1)) (hl : s.heap.IsList l items) (hz : items.size ≤ sizeLine)
    (out : ∀ h1 tk acc c, (∀ b o, b ≠ it → s.heap.get? b = some o → h1.get? b = some o) → h1.get? s.heap.objs.size = some (boxL acc c) → ItemsOf (fun i v => items[items.size - 1 - i]? = some v) acc items.size → Q (.ref s.heap.objs.size) { s with heap := h1, toks := tk }) :
    wpAny (model P w) A (call (.type "list") [.ref it]) Q E s := by
  refine callType_codes (Q₁ := fun x s1 => x = .ref s.heap.objs.size ∧ s1 = { s with heap := s.heap.push (boxL #[] 0) }) F.called_list (F.typeCall_list_1 _) F.entry_list_init (code_list_new _ ⟨rfl, rfl⟩) fun x s1 h1 => ?_
  obtain ⟨rfl, rfl⟩ := h1
  have hS : (s.heap.push (boxL #[] 0)).get? s.heap.objs.size = some (boxL #[] 0) := Heap.get?_push_size _ rfl
  have lt1 : it < s.heap.objs.size := by obtain ⟨o, e, _⟩ := hit; exact Heap.lt_size e
  have lt2 : l < s.heap.objs.size := by obtain ⟨o, e, _⟩ := hl; exact Heap.lt_size e
  have nS : s.heap.objs.size ∉ [it, l] := fun q => by
    rcases List.mem_cons.mp q with q | q
    · exact absurd q (Nat.ne_of_gt lt1)
    · exact absurd (List.mem_singleton.mp q) (Nat.ne_of_gt lt2)
  refine ⟨⟨_, hS, rfl⟩, F.args_list_init_2 _ _, rv_init (A := A.in1) hh hne (hit.at fun o e => Heap.get?_push_of_some _ e) (hl.push _) hz _ nS hS fun h1 tk acc c kp h2 ha => ?_⟩
  exact ⟨rfl, out h1 tk acc c (fun b o nb e => kp b o (Nat.ne_of_lt (Heap.lt_size e)) nb (Heap.get?_push_of_some _ e)) h2 ha⟩
end
def tLRev (K : PySem.W.Frag) (t : TA) : TE := fun σ H Q => t σ H fun vs H1 => ∃ (a : Addr) (xs : List V), vs = [.ref a] ∧ SqL K H1 a xs ∧ ∀ l, H1 l = none → Q (.ref l) (upd H1 l (.lst xs.reverse))
theorem rev_items {its acc : List Value} {n : Nat} (hn : its.length = n) (h : ItemsOf (fun i v => its.toArray[its.toArray.size - 1 - i]? = some v) acc.toArray n) : acc = its.reverse := by
  have hl : acc.length = n := by simpa using h.1
  refine List.ext_getElem? fun i => ?_
  by_cases hi : i < n
  · have e1 : acc[i]? = some acc[i] := List.getElem?_eq_getElem (by omega)
    have e2 := h.2 i acc[i] (by simpa using e1)
    rw [e1, List.getElem?_reverse (by omega)]
    simp only [List.size_toArray] at e2
    rw [← e2]
    simp
  · rw [List.getElem?_eq_none (by omega), List.getElem?_eq_none (by rw [List.length_reverse]; omega)]
theorem Vals.rev {xs : List V} {us : List Value} (r : Vals xs us) : Vals xs.reverse us.reverse := by
  induction r with
  | nil => exact .nil
  | cons h _ ih =>
    rw [List.reverse_cons, List.reverse_cons]
    exact ih.append (.cons h .nil)
theorem pe_lrev {X : Cx} {e : Expr} {ta : TA} {p p2 pos pos2 : Pos} (hc : X.calm = true) (hg : Gl X "list") (hm : X.mg "list" = none) (hg2 : Gl X "reversed") (hm2 : X.mg "reversed" = none) (ha : PA X [e] ta) (hs : starEach [e] X.env = [(false, eval e X.env)] := by rfl)
    (hs2 : starEach [Expr.Call (.Name "reversed" p2) [e] [] pos2] X.env = [(false, eval (Expr.Call (.Name "reversed" p2) [e] [] pos2) X.env)] := by rfl) :
    PE X (.Call (.Name "list" p) [.Call (.Name "reversed" p2) [e] [] pos2] [] pos) (tLRev X.K ta) := by
  intro pins s σ H Q I h
  refine wpAny_Call_Name_kw (ld_blt I hg hm (by decide +kernel : bootBuiltins "list" = some (.type "list")) ?_)
  refine PyProof.Rows.callWith_type1 ?_ hs2 rfl
  rw [hs2]
  show wpAny _ _ (spliced ((false, eval (Expr.Call (.Name "reversed" p2) [e] [] pos2) X.env) :: [])) _ _ s
  refine Calls.spliced_cons ?_
  refine wpAny_Call_Name_kw (ld_blt I hg2 hm2 boot_reversed5 ?_)
  refine PyProof.Rows.callWith_type1 (thn (ha pos2 pins s σ H _ I h) fun us s1 ⟨vs, H1, I1, r1, q1⟩ => ?_) hs rfl
  obtain ⟨a, xs, e1, hq, q⟩ := q1
  subst e1
  cases r1 with
  | cons r rr =>
    cases rr
    cases r
    obtain ⟨its, rv, p', hz⟩ := I1.list hq
    have hl := rv.length
    refine call_reversed_list p'.isList ?_
    refine Calls.spliced_nil ?_
    have hlt : a < s1.heap.objs.size := by obtain ⟨o, e, _⟩ := p'.isList; exact Heap.lt_size e
    refine rv_call (I1.ok.hd hc) (Nat.ne_of_lt hlt) ⟨_, Heap.get?_push_size _ rfl, rfl, rfl⟩ (p'.isList.push _) (by simp only [List.size_toArray]; omega) fun h1 tk acc c kp h2 hacc => ?_
    have ea : acc.toList = its.reverse := rev_items (n := its.length) rfl (by simpa using hacc)
    have hsz : (s1.heap.push (revObj a ((its.toArray.size : Int) - 1))).objs.size = s1.heap.objs.size + 1 := Heap.size_push ..
    rw [hsz] at h2 ⊢
    refine ⟨.ref _, upd H1 (s1.heap.objs.size + 1) (.lst xs.reverse), I1.laid (t' := tk) (fun b o e => kp b o (Nat.ne_of_lt (Heap.lt_size e)) (Heap.get?_push_of_some _ e)) (Nat.le_succ _) ⟨by rw [List.length_reverse]; exact hz, its.reverse, c, Vals.rev rv, ?_⟩, rfl, q _ (I1.hok.fresh (Nat.le_succ _))⟩
    rw [← ea]
    simpa using h2
end FmP
set_option Elab.async false
set_option linter.all false
set_option maxRecDepth 100000
namespace FmP
open PySem PySem.Spec PyProof.Rows L2
open Fm FmM
/-- for x, z in zip(xs, zs) -/
theorem for_zip {K : PySem.W.Frag} {a b : Addr} {xs zs : List V} {i j : Nat} {tb : TS} {D : Ends} {σ : L2.St} {H : Hp} (Pv : Nat → L2.St → Hp → Prop) (h0 : Pv 0 σ H) (hl : ∀ n σ H, Pv n σ H → SqL K H a xs ∧ SqL K H b zs)
    (hs : ∀ n x z σ H H', xs[n]? = some x → zs[n]? = some z → Pv n σ H → Same H H' → tb { D with nx := Pv (n + 1), ct := Pv (n + 1), bk := D.nx } ((σ.set i (some x)).set j (some z)) H') (hd : ∀ σ H, Pv (min xs.length zs.length) σ H → D.nx σ H) :
    ∃ W : Nat → Nat → L2.St → Hp → Prop, (∃ m, W 0 m σ H) ∧ ∀ n m σ H, W n m σ H →
      ((Itz K a b).stop n H ∧ D.nx σ H) ∨ ((Itz K a b).go n H ∧ ∃ N : L2.St → Hp → Prop, (∀ σ' H', N σ' H' → ∃ m', m' < m ∧ W (n + 1) m' σ' H') ∧ ∀ x H', (Itz K a b).yld n H x H' → gTup K 2 (gCons (gName i) (gCons (gName j) gNil)) x σ H' fun σ2 H2 => tb { D with nx := N, ct := N, bk := D.nx } σ2 H2) := by
  refine ⟨fun n m σ H => m = min xs.length zs.length - n ∧ n ≤ min xs.length zs.length ∧ Pv n σ H, ⟨_, rfl, Nat.zero_le _, h0⟩, ?_⟩
  rintro n m σ H ⟨rfl, hn, p⟩
  obtain ⟨q1, q2⟩ := hl n σ H p
  by_cases hlt : n < min xs.length zs.length
  · have l1 : n < xs.length := by omega
    have l2 : n < zs.length := by omega
    have e1 : xs[n]? = some xs[n] := List.getElem?_eq_getElem l1
    have e2 : zs[n]? = some zs[n] := List.getElem?_eq_getElem l2
    refine .inr ⟨⟨xs, zs, _, _, q1, q2, e1, e2⟩, Pv (n + 1), fun σ' H' p' => ⟨_, by omega, rfl, hlt, p'⟩, fun x H' y => ?_⟩
    obtain ⟨T, x1, y1, rfl, hT, rfl, g1, g2⟩ := y
    have f1 := (g1 xs q1).symm.trans e1
    have f2 := (g2 zs q2).symm.trans e2
    cases f1
    cases f2
    exact ⟨T, _, rfl, SqT.of upd_same, rfl, _, _, rfl, _, _, rfl, rfl, hs n _ _ σ H _ e1 e2 p (same_upd same_refl hT)⟩
  · have e : n = min xs.length zs.length := by omega
    subst e
    exact .inl ⟨⟨xs, zs, q1, q2, by omega⟩, hd σ H p⟩
/-- a node with those in it, laid open -/
structure NdAt (C : Addr) (Ex : Addr → Prop) (H : Hp) (t : Addr) (v : Val) (ks : List Kid) : Prop where
  at_ : ∃ (dx c n : Addr), H t = some (.ins C dx (ndF v (over v (tv ks)) c n)) ∧ H c = some (.lst (nv (contV v))) ∧ H n = some (.lst (rv ks))
  ar : ks.length = v.arity
  ok : okV v
  kids : Nds C Ex H ks
theorem NdAt.same {C : Addr} {Ex : Addr → Prop} {H H' : Hp} {t : Addr} {v : Val} {ks : List Kid} (n : NdAt C Ex H t v ks) (s : Same H H') : NdAt C Ex H' t v ks :=
  ⟨let ⟨dx, c, i, h1, h2, h3⟩ := n.at_; ⟨dx, c, i, s _ _ h1, s _ _ h2, s _ _ h3⟩, n.ar, n.ok, n.kids.same s⟩
theorem Nd.parts {C : Addr} {Ex : Addr → Prop} {H : Hp} {t : Addr} {x : Fm.Tree × Nat} (n : Nd C Ex H t x) : ∃ v ks, x = over v (tv ks) ∧ NdAt C Ex H t v ks := by
  cases n with
  | mk p dx c n v ks h1 h2 h3 hp hc hn ar ok hk => exact ⟨v, ks, rfl, ⟨dx, c, n, hp, hc, hn⟩, ar, ok, hk⟩
def fs (ks : List Kid) : List Fm.Tree := (tv ks).map fun x => x.1
theorem fs_len (ks : List Kid) : (fs ks).length = ks.length := by unfold fs; rw [List.length_map, tv_len]
theorem fs_app (a b : List Kid) : fs (a ++ b) = fs a ++ fs b := by unfold fs tv; rw [List.map_append, List.map_append]
theorem rv_app (a b : List Kid) : rv (a ++ b) = rv a ++ rv b := by unfold rv; rw [List.map_append]
theorem rv_rev (a : List Kid) : (rv a).reverse = rv a.reverse := by unfold rv; rw [List.map_reverse]
theorem fs_take_snoc {ks : List Kid} {i : Nat} {k : Kid} (h : ks[i]? = some k) : fs (ks.take (i + 1)) = fs (ks.take i) ++ [k.2.1] := by
  rw [take_snoc h, fs_app]
  rfl
theorem Tr.size_ge {t : Fm.Tree} (h : Tr t) : 4 ≤ Fm.sizeOf t := by
  cases h with
  | num x => rw [sizeOf_cons]; show 4 ≤ 12 + _; omega
  | byt b => rw [sizeOf_cons]; show 4 ≤ 4 + up4 b.length + _; omega
  | lst ts h => rw [sizeOf_cons]; show 4 ≤ 4 + 4 * ts.length + _; omega
  | rcd l ts e h => rw [sizeOf_cons]; show 4 ≤ 4 + 8 * l.length + _; omega
theorem fs_size (ks : List Kid) : Fm.sizeOf (fs ks).flatten = ((tv ks).map fun x => Fm.sizeOf x.1).sum := by
  unfold fs
  rw [sizeOf_flatten, List.map_map]
  rfl
theorem Nds.trs {C : Addr} {Ex : Addr → Prop} {H : Hp} {ks : List Kid} (n : Nds C Ex H ks) : ∀ t ∈ fs ks, Tr t := fun t ht => by
  obtain ⟨y, hy, rfl⟩ := List.mem_map.mp ht
  obtain ⟨k, hk, rfl⟩ := List.mem_map.mp hy
  exact (n k hk).tr
theorem flat_ge : ∀ {ts : List Fm.Tree}, (∀ t ∈ ts, Tr t) → 4 * ts.length ≤ Fm.sizeOf ts.flatten
  | [], _ => Nat.zero_le _
  | t :: r, h => by
    rw [List.flatten_cons, sizeOf_append, List.length_cons]
    have := Tr.size_ge (h t (List.mem_cons_self ..))
    have := flat_ge (ts := r) fun u hu => h u (List.mem_cons_of_mem _ hu)
    omega
theorem over_sizes (v : Val) (ks : List Kid) : Fm.sizeOf (over v (tv ks)).1 = v.size + Fm.sizeOf (fs ks).flatten := by rw [over_size, fs_size]
theorem size_ge (v : Val) : 4 ≤ v.size ∧ 4 * v.arity ≤ v.size ∧ countV v ≤ v.size := by
  cases v with
  | number x => exact ⟨by show 4 ≤ 12; decide, by show 4 * 0 ≤ 12; decide, by show 0 ≤ 12; decide⟩
  | bytes b =>
    have h := up4_ge b.length
    exact ⟨by show 4 ≤ 4 + up4 b.length; omega, by show 4 * 0 ≤ 4 + up4 b.length; omega, by show b.length ≤ 4 + up4 b.length; omega⟩
  | list k => exact ⟨by show 4 ≤ 4 + 4 * k; omega, by show 4 * k ≤ 4 + 4 * k; omega, by show k ≤ 4 + 4 * k; omega⟩
  | record l => exact ⟨by show 4 ≤ 4 + 8 * l.length; omega, by show 4 * l.length ≤ 4 + 8 * l.length; omega, by show l.length ≤ 4 + 8 * l.length; omega⟩
theorem kind_lt (v : Val) : kindV v < 256 := by cases v <;> simp [kindV]
theorem bv_app (a b : Bytes) : bv (a ++ b) = bv a ++ bv b := by unfold bv; rw [List.map_append]
end FmP
set_option Elab.async false
set_option linter.all false
set_option maxRecDepth 100000
set_option maxHeartbeats 2000000
namespace FmP
open PySem PySem.Spec PyProof.Rows L2
open Fm FmM
abbrev RepT := (Addr → Prop) → Hp → Addr → FmDesk.State → Prop
/-- an object stands at h for a state; what Ex holds is apart from it -/
structure RepOk (Rep : RepT) : Prop where
  frame : ∀ {Ex : Addr → Prop} {H H' : Hp} {h : Addr} {s : FmDesk.State}, Rep Ex H h s → (∀ b o, ¬ Ex b → H b = some o → H' b = some o) → Rep Ex H' h s
  fresh : ∀ {Ex : Addr → Prop} {H : Hp} {h g : Addr} {s : FmDesk.State}, Rep Ex H h s → H g = none → Rep (fun b => Ex b ∨ b = g) H h s
theorem RepOk.same {Rep : RepT} (R : RepOk Rep) {Ex : Addr → Prop} {H H' : Hp} {h : Addr} {s : FmDesk.State} (r : Rep Ex H h s) (k : Same H H') : Rep Ex H' h s := R.frame r fun b o _ e => k b o e
def spInit (Rep : RepT) (C : Addr) : Sp := fun vs H Q _ => ∃ (p dx : Addr), vs = [.ref p] ∧ H p = some (.ins C dx []) ∧ H dx = some (.own p) ∧ ∀ (H' : Hp), (∀ Ex : Addr → Prop, ¬ Ex p → ¬ Ex dx → (∀ b, Ex b → H b ≠ none) → Rep Ex H' p FlatNeutral.start) → (∀ b o, H b = some o → b ≠ p → H' b = some o) → Q .non H'
def spCall (Rep : RepT) : Sp := fun vs H Q _ => ∃ (h n r : Addr) (p : Int) (xs ys : List Int) (C : FmDesk.Call) (s : FmDesk.State) (Ex : Addr → Prop), vs = [.ref h, .int p, .ref n, .ref r] ∧ CallIs p xs ys C ∧ H n = some (.lst (iv xs)) ∧ H r = some (.lst (iv ys)) ∧ ¬ Ex n ∧ ¬ Ex r ∧ n ≠ r ∧ Good s ∧ Rep Ex H h s ∧ (∀ b, Ex b → H b ≠ none) ∧
  ∀ (H' : Hp) (q : Addr), ¬ Ex q → H' q = some (.lst (iv (FlatNeutral.told (FmDesk.step s C).2))) → Rep Ex H' h (FmDesk.step s C).1 → (∀ b o, Ex b → H b = some o → H' b = some o) → Q (.ref q) H'
def spAns (K : PySem.W.Frag) : Sp := fun vs H Q _ => ∃ (a : Addr) (ns : List Int), vs = [.ref a] ∧ SqL K H a (iv ns) ∧ ns.length ≤ 30000 ∧ PyWqandi.answers_asked ns = true ∧ ∀ (H' : Hp) (p : Addr), H' p = some (.lst (iv (PyWqandi.answers ns))) → Q (.ref p) H'
theorem iv_at {l : List Int} {z : Int} {i : Nat} {x : Int} (e : z = (i : Int)) (h : l[i]? = some x) : atI (iv l) z = some (.int x) := at_of e (by unfold iv; rw [List.getElem?_map, h]; rfl)
theorem iv_cut (l : List Int) (i j : Nat) : cutV (iv l) (some (i : Int)) (some (j : Int)) = iv ((l.drop i).take (j - i)) := by
  rw [cut_nat]
  unfold iv
  rw [List.map_take, List.map_drop]
theorem drop_at {l : List Int} {s : Nat} {p : Int} {t : List Int} (h : l.drop s = p :: t) : l[s]? = some p ∧ l.drop (s + 1) = t ∧ s < l.length := by
  have hs : s < l.length := by
    rcases Nat.lt_or_ge s l.length with q | q
    · exact q
    · rw [List.drop_eq_nil_of_le q] at h; cases h
  rw [List.drop_eq_getElem_cons hs] at h
  have h1 := (List.cons.inj h).1
  have h2 := (List.cons.inj h).2
  exact ⟨by rw [List.getElem?_eq_getElem hs, h1], h2, hs⟩
theorem drop_app {l xs t : List Int} {s : Nat} (h : l.drop s = xs ++ t) : (l.drop s).take xs.length = xs ∧ l.drop (s + xs.length) = t := by
  refine ⟨by rw [h, List.take_left], ?_⟩
  rw [← List.drop_drop, h, List.drop_left]
def leftIn (n : Nat) (σ : List (Option V)) : Nat := match σ[3]? with
  | some (some (V.int z)) => n - z.toNat
  | _ => 0
theorem told_more {out : List Int} {s : FmDesk.State} {C : FmDesk.Call} {ns : List Int} {t : List Int} (h : out ++ (((FlatNeutral.told (FmDesk.step s C).2).length : Int) :: (FlatNeutral.told (FmDesk.step s C).2 ++ t)) = ns) :
    (out ++ [((FlatNeutral.told (FmDesk.step s C).2).length : Int)] ++ FlatNeutral.told (FmDesk.step s C).2) ++ t = ns := by
  rw [← h]
  simp
theorem rowOf_in (p : Int) : inV (.int p) [.int 0, .int 11, .int 13] = rowOf p := by
  have e : ∀ a : Int, ((a == p) : Bool) = decide (p = a) := fun a => by
    by_cases q : a = p
    · subst q; simp
    · rw [beq_eq_false_iff_ne.mpr q, decide_eq_false fun z => q z.symm]
  show (((0 : Int) == p) || (((11 : Int) == p) || (((13 : Int) == p) || false))) = _
  unfold rowOf
  rw [e, e, e, Bool.or_false]
section
variable {P : Program} {w : World} {K : PySem.W.Frag} {mg : Str → Option Value} {base : Heap} {aM aW aR : Addr}
theorem sc_answers : FnScope ["calls", "holder", "given", "start", "call", "end", "numbers", "row", "row_start", "answer"] ["calls"] (defScope (top 95)) := ⟨rfl, rfl, rfl, by decide +kernel, rfl, by decide +kernel, by decide +kernel⟩
theorem ok_answers (g : Glo K mg aM aW aR) {C : Addr} {Rep : RepT} (R : RepOk Rep) (M_Holder : Mkr P w K mg base 1 "Holder" ["self"] C (spInit Rep C)) (G : Gf K mg "answers" (top 95)) (c_call_answer : Cal P w K mg base 11 "call_answer" ["holder", "call", "numbers", "row"] (spCall Rep)) : Cal P w K mg base 12 "answers" ["calls"] (spAns K) := by
  have nd := sc_answers.nd
  refine cal_of G (fun _ _ _ _ _ _ us hl => match us, hl with | [_], _ => rfl) sc_answers (fun vs H Q E h => ?_) (fun f cdv A outer s H vs Q E hr h => ?_)
  · obtain ⟨a, ns, rfl, hS, hlen, hask, k⟩ := h
    rfl
  · obtain ⟨a, ns, rfl, hS, hlen, hask, k⟩ := h
    have hu := hu_of hr
    have hu64 := hr.units
    refine ⟨_, (pss_cons (ps_set (i := 1) nd rfl (Or.inl rfl) (pe_mk0 M_Holder hr rfl))
      (pss_cons (ps_set (i := 2) nd rfl (Or.inl rfl) (pe_lst pa_nil))
      (pss_cons (ps_set (i := 3) nd rfl (Or.inl rfl) pe_int)
      (pss_cons (ps_while PassesOwn.never (pt_cmpR op_lt (pv 3) (pe_callB call_len_seq rfl g.b_len PySem.boot_len (pa_cons (pv 0) pa_nil)) (nomark _))
      (pss_cons (ps_set (i := 4) nd rfl (Or.inl rfl) (pe_ix ix_list (pv 0) (pv 3) (fun _ _ => rfl)))
      (pss_cons (ps_set (i := 5) nd rfl (Or.inl rfl) (pe_op op_add (pe_op op_add (pv 3) pe_int) (pe_gdget g.d_WHOLE_NUMBERS (pe_gr g.c_WHOLE_NUMBERS rfl) (pv 4) (fun _ _ => rfl))))
      (pss_cons (ps_set (i := 6) nd rfl (Or.inl rfl) (pe_slice sl_list (pv 0) (po_some (pe_op op_add (pv 3) pe_int)) (po_some (pv 5))))
      (pss_cons (ps_set (i := 7) nd rfl (Or.inl rfl) (pe_lst pa_nil))
      (pss_cons (ps_if (pt_cmpR op_in_seq (pv 4) (pe_gr g.c_WITH_ROW rfl) rfl) (pss_cons (ps_set (i := 8) nd rfl (Or.inl rfl) (pe_op op_add (pv 5) pe_int))
      (pss_cons (ps_set (i := 5) nd rfl (Or.inl rfl) (pe_op op_add (pv 8) (pe_ix ix_list (pv 0) (pv 5) (fun _ _ => rfl))))
      (pss_one (ps_set (i := 7) nd rfl (Or.inl rfl) (pe_slice sl_list (pv 0) (po_some (pv 8)) (po_some (pv 5))))))) pss_nil)
      (pss_cons (ps_set (i := 9) nd rfl (Or.inl rfl) (pe_cal c_call_answer hr rfl (pa_cons (pv 1) (pa_cons (pv 4) (pa_cons (pv 6) (pa_cons (pv 7) pa_nil))))))
      (pss_cons (ps_expr (pe_bm PySem.F.plainAttrs_list PySem.F.slot_list_append PySem.F.type_list_append mt_append (pv 2) (pa_cons (pe_callB call_len_seq rfl g.b_len PySem.boot_len (pa_cons (pv 9) pa_nil)) pa_nil)))
      (pss_cons (ps_expr (pe_bm PySem.F.plainAttrs_list PySem.F.slot_list_extend PySem.F.type_list_extend mt_extend (pv 2) (pa_cons (pv 9) pa_nil)))
      (pss_one (ps_set (i := 3) nd rfl (Or.inl rfl) (pv 5))))))))))))
      (pss_one (ps_ret (pv 2))))))), ?_⟩
    obtain ⟨cs0, hparse, hall, hmost, hans⟩ := asked_parts hask
    refine fun x dx nx ndx nex => ⟨x, dx, rfl, upd_same, (by rw [upd_ne nex]; exact upd_same), fun H1 rep1 kp1 => ⟨rfl, ?_⟩⟩
    have s1 : Same H H1 := fun b o e => kp1 b o (by rw [upd_ne (ne_of_none e nx), upd_ne (ne_of_none e ndx)]; exact e) (ne_of_none e nx)
    have r1 : Rep (fun b => H b ≠ none) H1 x FlatNeutral.start := rep1 _ (fun q => q nx) (fun q => q ndx) fun b hb => by
      cases e : H b with
      | none => exact absurd e hb
      | some o => rw [upd_ne (ne_of_none e nx), upd_ne (ne_of_none e ndx), e]; exact fun q => by cases q
    refine ⟨(by decide), fun gv hgv => ?_⟩
    have s2 : Same H1 (upd H1 gv (.lst [])) := same_upd same_refl hgv
    have r2 := R.same (R.fresh r1 hgv) s2
    have s12 := s1.trans s2
    refine while_by (fun σ H' => ∃ (s f : Nat) (st : FmDesk.State) (cs : List (List (List Int))) (out : List Int) (v4 v5 v6 v7 v8 v9 : Option V), σ = [some (.ref a), some (.ref x), some (.ref gv), some (.int (s : Nat)), v4, v5, v6, v7, v8, v9] ∧ s ≤ ns.length ∧
        PyFlat.calls PyWqandi.shape f (ns.drop s) = some cs ∧ cs.all FlatNeutral.asked1 = true ∧ out ++ PyFlat.told (PyFlat.played FlatNeutral.step st cs) = PyWqandi.answers ns ∧ Good st ∧ Rep (fun b => H b ≠ none ∨ b = gv) H' x st ∧ H' gv = some (.lst (iv out)) ∧ out.length + 701 * cs.length ≤ 140200 ∧ Same H H') (fun σ _ => leftIn ns.length σ)
      ⟨0, ns.length, FlatNeutral.start, cs0, [], none, none, none, none, none, none, rfl, Nat.zero_le _, hparse, hall, hans.symm, good_start, r2, upd_same, (by show 0 + 701 * cs0.length ≤ 140200; omega), s12⟩ ?_ ?_
    · rintro σ H' ⟨s, f, st, cs, out, v4, v5, v6, v7, v8, v9, rfl, hs, hp, ha, ho, hg, hrep, hgl, hroom, sm⟩
      have hS' := sm.seq hS
      refine ⟨_, rfl, _, rfl, _, _, rfl, .inl hS', _, _, rfl, rfl, _, rfl, ite2 (fun e1 => ?_) fun e1 => ?_⟩
      · have hlt : s < ns.length := by have := of_decide_eq_true e1; rw [iv_len] at this; omega
        have hne : ns.drop s ≠ [] := fun q => by
          have := congrArg List.length q
          rw [List.length_drop] at this
          simp at this
          omega
        obtain ⟨p, xs, ys, rest, Cc, c, cs', f', hC, hcs, hcall, hp', ha', hl⟩ := calls_step hp hne ha
        subst hcs
        obtain ⟨hat, hd1, _⟩ := drop_at hl
        obtain ⟨hx1, hx2⟩ := drop_app hd1
        have hln := hC.len
        -- call = calls[start]
        refine ⟨_, rfl, _, rfl, _, _, _, _, rfl, rfl, hS', iv_at rfl hat, ?_⟩
        -- end = start + 1 + WHOLE_NUMBERS[call]
        refine ⟨_, rfl, _, _, rfl, rfl, _, rfl, _, _, rfl, hC.nums, _, _, rfl, rfl, ?_⟩
        -- numbers = calls[start + 1:end]
        refine ⟨_, rfl, _, rfl, _, _, rfl, rfl, _, rfl, _, rfl, _, rfl, _, _, rfl, hS', fun nl hnl => ?_⟩
        have en : cutV (iv ns) (some ((s : Nat) + 1 : Int)) (some ((s : Nat) + 1 + (xs.length : Int))) = iv xs := by
          show cutV (iv ns) (some ((s + 1 : Nat) : Int)) (some ((s + 1 + xs.length : Nat) : Int)) = _
          rw [iv_cut, Nat.add_sub_cancel_left, hx1]
        rw [en]
        have sn : Same H' (upd H' nl (.lst (iv xs))) := same_upd same_refl hnl
        -- row = []
        refine ⟨(by decide), fun rl hrl => ?_⟩
        have sr : Same (upd H' nl (.lst (iv xs))) (upd (upd H' nl (.lst (iv xs))) rl (.lst [])) := same_upd same_refl hrl
        have snr := sn.trans sr
        -- what every way goes on with
        have go : ∀ (H2 : Hp) (rl2 : Addr) (v8 : Option V) (e : Nat), Same (upd H' nl (.lst (iv xs))) H2 → (upd H' nl (.lst (iv xs))) rl2 = none → H2 rl2 = some (.lst (iv ys)) → ns.drop e = rest → s < e → e ≤ ns.length →
            tSeq (tAsg (tCall (spCall Rep) [] E0 (tCons (tVar 1) (tCons (tVar 4) (tCons (tVar 6) (tCons (tVar 7) tNil))))) (gName 9))
              (tSeq (tDrop (tBM K "list" rAppend (tVar 2) (tCons (tCB (fun xs H Q => ∃ p ys, xs = [V.ref p] ∧ (SqL K H p ys ∨ SqT K H p ys) ∧ Q (.int ys.length) H) (tCons (tVar 9) tNil)) tNil)))
              (tSeq (tDrop (tBM K "list" rExtend (tVar 2) (tCons (tVar 9) tNil))) (tAsg (tVar 5) (gName 3))))
              { nx := fun σ' H2' => (∃ (s f : Nat) (st : FmDesk.State) (cs : List (List (List Int))) (out : List Int) (v4 v5 v6 v7 v8 v9 : Option V), σ' = [some (.ref a), some (.ref x), some (.ref gv), some (.int (s : Nat)), v4, v5, v6, v7, v8, v9] ∧ s ≤ ns.length ∧
                  PyFlat.calls PyWqandi.shape f (ns.drop s) = some cs ∧ cs.all FlatNeutral.asked1 = true ∧ out ++ PyFlat.told (PyFlat.played FlatNeutral.step st cs) = PyWqandi.answers ns ∧ Good st ∧ Rep (fun b => H b ≠ none ∨ b = gv) H2' x st ∧ H2' gv = some (.lst (iv out)) ∧ out.length + 701 * cs.length ≤ 140200 ∧ Same H H2') ∧ leftIn ns.length σ' < ns.length - s, rt := Q }
              [some (.ref a), some (.ref x), some (.ref gv), some (.int (s : Nat)), some (.int p), some (.int (e : Nat)), some (.ref nl), some (.ref rl2), v8, v9] H2 := by
          intro H2 rl2 v8 e sm2 hrl2 hrow hrest hse hen
          have hS2 : Same H' H2 := sn.trans sm2
          have nlr : nl ≠ rl2 := fun q => by rw [← q, upd_same] at hrl2; cases hrl2
          have exn : ¬ (H nl ≠ none ∨ nl = gv) := fun q => by
            rcases q with q | q
            · exact q (sm.free hnl)
            · rw [q, hgl] at hnl; cases hnl
          have hrl' : H' rl2 = none := sn.free hrl2
          have exr : ¬ (H rl2 ≠ none ∨ rl2 = gv) := fun q => by
            rcases q with q | q
            · exact q (sm.free hrl')
            · rw [q, hgl] at hrl'; cases hrl'
          refine ⟨_, rfl, _, rfl, _, rfl, _, rfl, x, nl, rl2, p, xs, ys, Cc, st, _, rfl, hC, sm2 _ _ upd_same, hrow, exn, exr, nlr, hg, R.same hrep hS2, ?_, fun H3 q exq hq rep3 kp3 => ?_⟩
          · rintro b (hb | rfl)
            · cases e : H b with
              | none => exact absurd e hb
              | some o => rw [hS2 _ _ (sm _ _ e)]; exact fun q => by cases q
            · rw [hS2 _ _ hgl]; exact fun q => by cases q
          have hg3 : H3 gv = some (.lst (iv out)) := kp3 _ _ (.inr rfl) (hS2 _ _ hgl)
          have sm3 : Same H H3 := fun b o e => kp3 b o (.inl (by rw [e]; exact fun q => by cases q)) (hS2 _ _ (sm _ _ e))
          have nqg : q ≠ gv := fun z => exq (.inr z)
          have tl := told_len hg hC
          have hroom' : out.length + 701 * (cs'.length + 1) ≤ 140200 := hroom
          -- given.append(len(answer))
          refine ⟨_, rfl, .inl ⟨rfl, _, SqL.of hg3⟩, _, rfl, _, _, rfl, .inl (SqL.of hq), gv, _, _, rfl, rfl, hg3, ?_, ?_⟩
          · rw [iv_len]; exact Nat.lt_of_le_of_lt (show out.length ≤ 140200 by omega) (by decide)
          have hq4 : (upd H3 gv (.lst (iv out ++ [.int ((iv (FlatNeutral.told (FmDesk.step st Cc).2)).length : Nat)]))) q = some (.lst (iv (FlatNeutral.told (FmDesk.step st Cc).2))) := by rw [upd_ne nqg]; exact hq
          -- given.extend(answer)
          refine ⟨_, rfl, .inl ⟨rfl, _, SqL.of upd_same⟩, _, rfl, gv, q, _, _, rfl, rfl, upd_same, hq4, ?_, ?_⟩
          · rw [List.length_append, iv_len, iv_len]
            exact Nat.le_trans (show out.length + 1 + _ ≤ 140200 by omega) (by decide)
          rw [upd_upd]
          -- start = end
          refine ⟨_, rfl, ⟨e, f', (FmDesk.step st Cc).1, cs', out ++ [((FlatNeutral.told (FmDesk.step st Cc).2).length : Int)] ++ FlatNeutral.told (FmDesk.step st Cc).2, _, _, _, _, _, _, rfl, hen, by rw [hrest]; exact hp', ha', ?_, good_step hg hC, ?_, ?_, ?_, ?_⟩, ?_⟩
          · rw [played_cons hcall] at ho
            exact told_more ho
          · exact R.frame rep3 fun b o ex hb => by rw [upd_ne (fun z => ex (.inr z))]; exact hb
          · rw [upd_same]
            unfold iv
            rw [List.map_append, List.map_append, List.length_map]
            rfl
          · rw [List.length_append, List.length_append]
            show out.length + 1 + _ + 701 * cs'.length ≤ 140200
            omega
          · intro b o hb
            have hbg : b ≠ gv := fun z => by
              have := s1 _ _ hb
              rw [z, hgv] at this
              cases this
            rw [upd_ne hbg]
            exact sm3 b o hb
          · show ns.length - ((e : Nat) : Int).toNat < ns.length - s
            rw [Int.toNat_natCast]
            omega
        have hse : ∀ e : Nat, s < e → leftIn ns.length [some (.ref a), some (.ref x), some (.ref gv), some (.int (s : Nat)), v4, v5, v6, v7, v8, v9] = ns.length - s := fun e _ => by
          show ns.length - ((s : Nat) : Int).toNat = _
          rw [Int.toNat_natCast]
        -- if call in WITH_ROW
        refine ⟨_, rfl, _, _, rfl, .inr (g.withrow _), rfl, rfl, _, rfl, ?_⟩
        show if inV (.int p) [.int 0, .int 11, .int 13] = true then _ else _
        rw [rowOf_in]
        cases hrow : rowOf p
        · refine iteF ?_
          have hy := hC.row hrow
          rw [if_neg (by rw [hrow]; simp)] at hx2
          have hle : s + 1 + xs.length ≤ ns.length := by
            have := congrArg List.length hd1
            rw [List.length_drop, List.length_append] at this
            omega
          have q := go (upd (upd H' nl (.lst (iv xs))) rl (.lst [])) rl v8 (s + 1 + xs.length) sr hrl (by rw [upd_same, hy]; rfl) hx2 (by omega) hle
          rw [← hse (s + 1) (by omega)] at q
          exact q
        · refine iteT ?_
          rw [if_pos hrow] at hx2
          obtain ⟨hat2, hd2, hlt2⟩ := drop_at hx2
          obtain ⟨hy1, hy2⟩ := drop_app hd2
          have hle : s + 1 + xs.length + 1 + ys.length ≤ ns.length := by
            have := congrArg List.length hd2
            rw [List.length_drop, List.length_append] at this
            omega
          refine ⟨_, rfl, _, _, rfl, rfl, ?_⟩
          refine ⟨_, rfl, _, rfl, _, rfl, _, _, _, _, rfl, rfl, snr.seq hS', iv_at (i := s + 1 + xs.length) (by omega) hat2, _, _, rfl, rfl, ?_⟩
          refine ⟨_, rfl, _, rfl, _, rfl, _, rfl, _, rfl, _, _, rfl, snr.seq hS', fun rl2 hrl2 => ?_⟩
          have er : cutV (iv ns) (some ((s : Nat) + 1 + (xs.length : Int) + 1)) (some ((s : Nat) + 1 + (xs.length : Int) + 1 + (ys.length : Int))) = iv ys := by
            show cutV (iv ns) (some ((s + 1 + xs.length + 1 : Nat) : Int)) (some ((s + 1 + xs.length + 1 + ys.length : Nat) : Int)) = _
            rw [iv_cut, Nat.add_sub_cancel_left, hy1]
          rw [er]
          have q := go (upd (upd (upd H' nl (.lst (iv xs))) rl (.lst [])) rl2 (.lst (iv ys))) rl2 (some (.int ((s : Nat) + 1 + (xs.length : Int) + 1))) (s + 1 + xs.length + 1 + ys.length) (sr.trans (same_upd same_refl hrl2)) (sr.free hrl2) upd_same hy2 (by omega) hle
          rw [← hse (s + 1) (by omega)] at q
          exact q
      · have hge : s = ns.length := by
          have : ¬ ((s : Nat) : Int) < ((iv ns).length : Nat) := fun q => e1 (decide_eq_true q)
          rw [iv_len] at this
          omega
        subst hge
        rw [List.drop_length] at hp
        have hcs : cs = [] := by
          cases f <;> exact (Option.some.inj hp).symm
        subst hcs
        refine ⟨_, rfl, k H' gv ?_⟩
        rw [hgl, ← ho]
        show _ = some (HO.lst (iv (out ++ [])))
        rw [List.append_nil]
    · rintro σ H' Q1 Q2 hq ⟨v, h1, v2, h2, p, ys, h3, h4, i, j, h5, h6, k', h7, h8⟩
      exact ⟨v, h1, v2, h2, p, ys, h3, h4, i, j, h5, h6, k', h7, hq _ _ h8⟩
end
end FmP
set_option Elab.async false
set_option linter.all false
set_option maxRecDepth 100000
set_option maxHeartbeats 2000000
namespace FmP
open PySem PySem.Spec PyProof.Rows L2
open Fm FmM
def spValue (K : PySem.W.Frag) : Sp := fun vs H Q _ => ∃ (a n : Addr) (p : Int) (xs ys : List Int) (C : FmDesk.Call) (s : FmDesk.State), vs = [.ref a, .int p, .ref n] ∧ CallIs p xs ys C ∧ 2 ≤ p ∧ p ≤ 7 ∧ SqL K H a (bv s.message) ∧ s.message.length ≤ 600 ∧ SqL K H n (iv xs) ∧ newL (iv (FlatNeutral.told (FmDesk.step s C).2)) H Q
def spAsk (K : PySem.W.Frag) : Sp := fun vs H Q _ => ∃ (a n : Addr) (p : Int) (xs ys : List Int) (C : FmDesk.Call) (s : FmDesk.State), vs = [.ref a, .int p, .ref n] ∧ CallIs p xs ys C ∧ 1 ≤ p ∧ p ≤ 8 ∧ SqL K H a (bv s.message) ∧ s.message.length ≤ 600 ∧ SqL K H n (iv xs) ∧ newL (iv (FlatNeutral.told (FmDesk.step s C).2)) H Q
/-- the calls 2 to 7, with what they tell -/
theorem value_cases {p : Int} {xs ys : List Int} {C : FmDesk.Call} (s : FmDesk.State) (h : CallIs p xs ys C) (h2 : 2 ≤ p) (h7 : p ≤ 7) :
    ∃ (o : Nat) (t : List Int) (A : List Int), xs = (o : Int) :: t ∧ FlatNeutral.told (FmDesk.step s C).2 = (if standsRight s.message o = false then [-1] else A) ∧
      ((p = 2 ∧ A = [(kindAt s.message o : Int)]) ∨ (p = 3 ∧ A = ansNumber s.message o) ∨ (p = 4 ∧ A = ansBytes s.message o) ∨ (p = 5 ∧ A = ansCount s.message o) ∨ (∃ i : Nat, t = [(i : Int)] ∧ ((p = 6 ∧ A = ansItem s.message o i) ∨ (p = 7 ∧ A = ansField s.message o i)))) := by
  cases h with
  | kind o h => exact ⟨o, [], _, rfl, told_kind s o, .inl ⟨rfl, rfl⟩⟩
  | number o h => exact ⟨o, [], _, rfl, told_number s o, .inr (.inl ⟨rfl, rfl⟩)⟩
  | bytes o h => exact ⟨o, [], _, rfl, told_bytes s o, .inr (.inr (.inl ⟨rfl, rfl⟩))⟩
  | count o h => exact ⟨o, [], _, rfl, told_count s o, .inr (.inr (.inr (.inl ⟨rfl, rfl⟩)))⟩
  | item o i h h2 => exact ⟨o, [(i : Int)], _, rfl, told_item s o i, .inr (.inr (.inr (.inr ⟨i, rfl, .inl ⟨rfl, rfl⟩⟩)))⟩
  | field o i h h2 => exact ⟨o, [(i : Int)], _, rfl, told_field s o i, .inr (.inr (.inr (.inr ⟨i, rfl, .inr ⟨rfl, rfl⟩⟩)))⟩
  | _ => omega
theorem newL.mono {xs : List V} {H H1 : Hp} {Q : VK} (k : newL xs H Q) (s : Same H H1) : newL xs H1 Q := fun H' p hp h1 s' => k H' p (s.free hp) h1 (s.trans s')
theorem dec_eq {x y : Int} : decide (V.int x = V.int y) = decide (x = y) := decide_eq_decide.mpr ⟨V.int.inj, congrArg V.int⟩
section
variable {P : Program} {w : World} {K : PySem.W.Frag} {mg : Str → Option Value} {base : Heap} {aM aW aR : Addr} {cT cH : Addr}
theorem sc_value_answer : FnScope ["data", "call", "numbers", "at"] ["data", "call", "numbers"] (defScope (top 86)) := ⟨rfl, rfl, rfl, by decide +kernel, rfl, by decide +kernel, by decide +kernel⟩
theorem ok_value_answer (g : Glo K mg aM aW aR) (G : Gf K mg "value_answer" (top 86)) (c_bytes_answer : Cal P w K mg base 4 "bytes_answer" ["data", "at"] (spBytes K)) (c_count_answer : Cal P w K mg base 3 "count_answer" ["data", "at"] (spCountA K)) (c_field_answer : Cal P w K mg base 4 "field_answer" ["data", "at", "key"] (spField K)) (c_item_answer : Cal P w K mg base 3 "item_answer" ["data", "at", "i"] (spItem K)) (c_kind_at : Cal P w K mg base 1 "kind_at" ["data", "at"] (spKind K)) (c_number_answer : Cal P w K mg base 2 "number_answer" ["data", "at"] (spNumber K)) (c_stands_right : Cal P w K mg base 6 "stands_right" ["data", "at"] (spStands K)) : Cal P w K mg base 7 "value_answer" ["data", "call", "numbers"] (spValue K) := by
  have nd := sc_value_answer.nd
  refine cal_of G (fun _ _ _ _ _ _ us hl => match us, hl with | [_, _, _], _ => rfl) sc_value_answer (fun vs H Q E h => ?_) (fun f cdv A outer s H vs Q E hr h => ?_)
  · obtain ⟨a, n, p, xs, ys, C, st, rfl, hC, h2, h7, hS, hm, hn, k⟩ := h
    rfl
  · obtain ⟨a, n, p, xs, ys, C, st, rfl, hC, h2, h7, hS, hm, hn, k⟩ := h
    have hu := hu_of hr
    have hu64 := hr.units
    refine ⟨_, (pss_cons (ps_set (i := 3) nd rfl (Or.inl rfl) (pe_ix ix_list (pv 2) pe_int (fun _ _ => rfl)))
      (pss_cons (ps_if (pt_not (pt_val (pe_cal c_stands_right hr rfl (pa_cons (pv 0) (pa_cons (pv 3) pa_nil))))) (pss_one (ps_ret (pe_lst (pa_cons (pe_un un_neg pe_int) pa_nil)))) pss_nil)
      (pss_cons (ps_if (pt_cmpR op_eq (pv 1) (pe_gi g.c_KIND rfl) (nomark _)) (pss_one (ps_ret (pe_lst (pa_cons (pe_cal c_kind_at hr rfl (pa_cons (pv 0) (pa_cons (pv 3) pa_nil))) pa_nil)))) pss_nil)
      (pss_cons (ps_if (pt_cmpR op_eq (pv 1) (pe_gi g.c_NUMBER_CALL rfl) (nomark _)) (pss_one (ps_ret (pe_cal c_number_answer hr rfl (pa_cons (pv 0) (pa_cons (pv 3) pa_nil))))) pss_nil)
      (pss_cons (ps_if (pt_cmpR op_eq (pv 1) (pe_gi g.c_BYTES_CALL rfl) (nomark _)) (pss_one (ps_ret (pe_cal c_bytes_answer hr rfl (pa_cons (pv 0) (pa_cons (pv 3) pa_nil))))) pss_nil)
      (pss_cons (ps_if (pt_cmpR op_eq (pv 1) (pe_gi g.c_COUNT rfl) (nomark _)) (pss_one (ps_ret (pe_cal c_count_answer hr rfl (pa_cons (pv 0) (pa_cons (pv 3) pa_nil))))) pss_nil)
      (pss_cons (ps_if (pt_cmpR op_eq (pv 1) (pe_gi g.c_ITEM rfl) (nomark _)) (pss_one (ps_ret (pe_cal c_item_answer hr rfl (pa_cons (pv 0) (pa_cons (pv 3) (pa_cons (pe_ix ix_list (pv 2) pe_int (fun _ _ => rfl)) pa_nil)))))) pss_nil)
      (pss_one (ps_ret (pe_cal c_field_answer hr rfl (pa_cons (pv 0) (pa_cons (pv 3) (pa_cons (pe_ix ix_list (pv 2) pe_int (fun _ _ => rfl)) pa_nil))))))))))))), ?_⟩
    obtain ⟨o, t, A, rfl, htold, hA⟩ := value_cases st hC h2 h7
    rw [htold] at k
    refine ⟨_, rfl, _, _, _, _, rfl, rfl, hn, iv_at (i := 0) rfl rfl, ?_⟩
    refine ⟨_, rfl, _, rfl, a, st.message, _, o, rfl, rfl, hS, hm, fun H1 s1 => ⟨_, rfl, ?_⟩⟩
    cases hst : standsRight st.message o
    · refine iteT ?_
      rw [if_pos hst] at k
      exact ⟨_, rfl, (by show 1 ≤ sizeLine; decide), fun l hl => k.at' s1 hl rfl⟩
    refine iteF ?_
    rw [if_neg (by rw [hst]; simp)] at k
    replace k := k.mono s1
    have hS1 := s1.seq hS
    have hn1 := s1.seq hn
    have hb := (right_bounds hst).2
    refine ⟨_, rfl, rfl, _, rfl, ?_⟩
    rw [dec_eq]
    rcases hA with ⟨rfl, rfl⟩ | hA
    · refine iteT ?_
      exact ⟨_, rfl, _, rfl, a, st.message, _, o, rfl, rfl, hS1, by omega, (by show 1 ≤ sizeLine; decide), fun l hl => k.at hl rfl⟩
    rw [decide_eq_false (by omega)]
    refine iteF ?_
    refine ⟨_, rfl, rfl, _, rfl, ?_⟩
    rw [dec_eq]
    rcases hA with ⟨rfl, rfl⟩ | hA
    · refine iteT ?_
      exact ⟨_, rfl, _, rfl, a, st.message, _, o, rfl, rfl, hS1, hm, hst, k⟩
    rw [decide_eq_false (by omega)]
    refine iteF ?_
    refine ⟨_, rfl, rfl, _, rfl, ?_⟩
    rw [dec_eq]
    rcases hA with ⟨rfl, rfl⟩ | hA
    · refine iteT ?_
      exact ⟨_, rfl, _, rfl, a, st.message, _, o, rfl, rfl, hS1, hm, hst, k⟩
    rw [decide_eq_false (by omega)]
    refine iteF ?_
    refine ⟨_, rfl, rfl, _, rfl, ?_⟩
    rw [dec_eq]
    rcases hA with ⟨rfl, rfl⟩ | hA
    · refine iteT ?_
      exact ⟨_, rfl, _, rfl, a, st.message, _, o, rfl, rfl, hS1, hm, hst, k⟩
    rw [decide_eq_false (by omega)]
    refine iteF ?_
    obtain ⟨i, rfl, hA⟩ := hA
    refine ⟨_, rfl, rfl, _, rfl, ?_⟩
    rw [dec_eq]
    rcases hA with ⟨rfl, rfl⟩ | ⟨rfl, rfl⟩
    · refine iteT ?_
      exact ⟨_, rfl, _, rfl, _, rfl, _, _, _, _, rfl, rfl, hn1, iv_at (i := 1) rfl rfl, a, st.message, _, _, o, i, rfl, rfl, rfl, hS1, hm, hst, k⟩
    rw [decide_eq_false (by omega)]
    refine iteF ?_
    exact ⟨_, rfl, _, rfl, _, rfl, _, _, _, _, rfl, rfl, hn1, iv_at (i := 1) rfl rfl, a, st.message, _, _, o, i, rfl, rfl, rfl, hS1, hm, hst, k⟩
theorem sc_asking_answer : FnScope ["data", "call", "numbers"] ["data", "call", "numbers"] (defScope (top 87)) := ⟨rfl, rfl, rfl, by decide +kernel, rfl, by decide +kernel, by decide +kernel⟩
theorem ok_asking_answer (g : Glo K mg aM aW aR) (G : Gf K mg "asking_answer" (top 87)) (c_check_answer : Cal P w K mg base 9 "check_answer" ["data"] (spCheck K)) (c_depth_answer : Cal P w K mg base 9 "depth_answer" ["data", "at"] (spDepth K)) (c_value_answer : Cal P w K mg base 7 "value_answer" ["data", "call", "numbers"] (spValue K)) : Cal P w K mg base 10 "asking_answer" ["data", "call", "numbers"] (spAsk K) := by
  have nd := sc_asking_answer.nd
  refine cal_of G (fun _ _ _ _ _ _ us hl => match us, hl with | [_, _, _], _ => rfl) sc_asking_answer (fun vs H Q E h => ?_) (fun f cdv A outer s H vs Q E hr h => ?_)
  · obtain ⟨a, n, p, xs, ys, C, st, rfl, hC, h1, h8, hS, hm, hn, k⟩ := h
    rfl
  · obtain ⟨a, n, p, xs, ys, C, st, rfl, hC, h1, h8, hS, hm, hn, k⟩ := h
    have hu := hu_of hr
    have hu64 := hr.units
    refine ⟨_, (pss_cons (ps_if (pt_cmpR op_eq (pv 1) (pe_gi g.c_CHECK rfl) (nomark _)) (pss_one (ps_ret (pe_cal c_check_answer hr rfl (pa_cons (pv 0) pa_nil)))) pss_nil)
      (pss_cons (ps_if (pt_cmpR op_eq (pv 1) (pe_gi g.c_DEPTH rfl) (nomark _)) (pss_one (ps_ret (pe_cal c_depth_answer hr rfl (pa_cons (pv 0) (pa_cons (pe_ix ix_list (pv 2) pe_int (fun _ _ => rfl)) pa_nil))))) pss_nil)
      (pss_one (ps_ret (pe_cal c_value_answer hr rfl (pa_cons (pv 0) (pa_cons (pv 1) (pa_cons (pv 2) pa_nil)))))))), ?_⟩
    refine ⟨_, rfl, rfl, _, rfl, ?_⟩
    rw [dec_eq]
    by_cases e1 : p = 1
    · subst e1
      refine iteT ?_
      cases hC
      rw [told_check] at k
      exact ⟨_, rfl, a, st.message, rfl, hS, hm, k⟩
    rw [decide_eq_false e1]
    refine iteF ?_
    refine ⟨_, rfl, rfl, _, rfl, ?_⟩
    rw [dec_eq]
    by_cases e8 : p = 8
    · subst e8
      refine iteT ?_
      cases hC with
      | depth o h =>
        rw [told_depth] at k
        exact ⟨_, rfl, _, rfl, _, _, _, _, rfl, rfl, hn, iv_at (i := 0) rfl rfl, a, st.message, _, o, rfl, rfl, hS, hm, k⟩
    rw [decide_eq_false e8]
    refine iteF ?_
    exact ⟨_, rfl, _, rfl, _, rfl, a, n, p, xs, ys, C, st, rfl, hC, by omega, by omega, hS, hm, hn, k⟩
end
end FmP
set_option Elab.async false
set_option linter.all false
set_option maxRecDepth 100000
set_option maxHeartbeats 2000000
namespace FmP
open PySem PySem.Spec PyProof.Rows L2
open Fm FmM
def spWB : Sp := fun vs H Q _ => ∃ (z : Int) (n : Nat), vs = [.int z] ∧ z = n ∧ n < 4294967296 ∧ newL (bv (le 4 n)) H Q
def spHB : Sp := fun vs H Q _ => ∃ (y z : Int) (k c : Nat), vs = [.int y, .int z] ∧ y = k ∧ z = c ∧ k < 256 ∧ c < 4294967296 ∧ newL (bv (headB k c)) H Q
def spWithin (C : Addr) : Sp := fun vs H Q _ => ∃ (t : Addr) (v : Val) (ks : List Kid) (Ex : Addr → Prop) (z : Int) (o : Nat), vs = [.ref t, .int z] ∧ z = o ∧ NdAt C Ex H t v ks ∧ v.size + Fm.sizeOf (fs ks).flatten ≤ 504 ∧ newL (nv (starts (o + v.size) (fs ks))) H Q
def spNB : Sp := fun vs H Q _ => ∃ (c : Addr) (x : Nat), vs = [.ref c] ∧ H c = some (.lst (nv [x / 4294967296, x % 4294967296])) ∧ x < 18446744073709551616 ∧ newL (bv (le 4 (x % 4294967296) ++ le 4 (x / 4294967296))) H Q
def spFB : Sp := fun vs H Q _ => ∃ (r : Addr) (b : Bytes), vs = [.ref r] ∧ H r = some (.lst (bv b)) ∧ b.length ≤ 600 ∧ newL (bv (b ++ List.replicate (up4 b.length - b.length) 0)) H Q
def spLB (K : PySem.W.Frag) : Sp := fun vs H Q _ => ∃ (q : Addr) (ps : List Nat), vs = [.ref q] ∧ SqL K H q (nv ps) ∧ ps.length ≤ 600 ∧ (∀ x ∈ ps, x < 4294967296) ∧ newL (bv (ps.flatMap (le 4))) H Q
def spRB (K : PySem.W.Frag) : Sp := fun vs H Q _ => ∃ (r q : Addr) (l ps : List Nat), vs = [.ref r, .ref q] ∧ SqL K H r (nv l) ∧ SqL K H q (nv ps) ∧ l.length ≤ 600 ∧ (∀ x ∈ l, x < 4294967296) ∧ (∀ x ∈ ps, x < 4294967296) ∧ newL (bv ((l.zip ps).flatMap fun x => le 4 x.1 ++ le 4 x.2)) H Q
def spIns (C : Addr) : Sp := fun vs H Q _ => ∃ (t : Addr) (v : Val) (ks : List Kid) (Ex : Addr → Prop) (z : Int) (o : Nat), vs = [.ref t, .int z] ∧ z = o ∧ NdAt C Ex H t v ks ∧ o ≤ 600 ∧ v.size + Fm.sizeOf (fs ks).flatten ≤ 504 ∧ newL (bv (insB v (starts (o + v.size) (fs ks)))) H Q
def spMsg (C : Addr) : Sp := fun vs H Q _ => ∃ (t : Addr) (x : Fm.Tree × Nat) (Ex : Addr → Prop), vs = [.ref t] ∧ Nd C Ex H t x ∧ Fm.sizeOf x.1 ≤ 504 ∧ newL (bv (message x.1)) H Q
theorem bv_le4 {n : Nat} (h : n < 4294967296) : bv (le 4 n) = [.int ((n % 256 : Nat) : Int), .int ((n / 256 % 256 : Nat) : Int), .int ((n / 65536 % 256 : Nat) : Int), .int ((n / 16777216 : Nat) : Int)] := by
  rw [← nv_bytes, le4_nat h]
  rfl
theorem bv_head {k c : Nat} (h : k < 256) (hc : c < 4294967296) : bv (headB k c) = V.int (k : Nat) :: (bv (le 4 c)).take 3 := by
  have e : bv (le 3 c) = nv ((b4 c).take 3) := by rw [← nv_bytes, le3_nat]
  have e2 : (UInt8.ofNat k).toNat = k := by rw [UInt8.toNat_ofNat']; omega
  show V.int ((UInt8.ofNat k).toNat : Nat) :: bv (le 3 c) = _
  rw [e, e2, bv_le4 hc]
  rfl
theorem le_line {n : Nat} (h : n ≤ 10000) : n ≤ sizeLine := Nat.le_trans h (by decide)
theorem flat4 (l : List Nat) : (l.flatMap (le 4)).length = 4 * l.length := flat_len (le 4) 4 _ (fun x _ => le_len 4 x)
theorem flat8 (l : List (Nat × Nat)) : (l.flatMap fun x => le 4 x.1 ++ le 4 x.2).length = 8 * l.length := flat_len (fun (x : Nat × Nat) => le 4 x.1 ++ le 4 x.2) 8 _ (fun x _ => by rw [List.length_append, le_len, le_len])
theorem flatMap_snoc {α β : Type} (f : α → List β) (l : List α) (x : α) : (l ++ [x]).flatMap f = l.flatMap f ++ f x := by
  rw [List.flatMap_append, List.flatMap_cons, List.flatMap_nil, List.append_nil]
theorem zip_got {l ps : List Nat} {i x y : Nat} (h1 : l[i]? = some x) (h2 : ps[i]? = some y) : (l.zip ps)[i]? = some (x, y) := by
  rw [List.getElem?_zip_eq_some]
  exact ⟨h1, h2⟩
/-- how much of a message is yet to be written -/
def lackIn (σ : List (Option V)) (H : Hp) : Nat := match σ[1]? with
  | some (some (V.ref d)) => match H d with
    | some (.lst xs) => 600 - xs.length
    | _ => 0
  | _ => 0
section
variable {P : Program} {w : World} {K : PySem.W.Frag} {mg : Str → Option Value} {base : Heap} {aM aW aR : Addr} {cT cH : Addr}
theorem sc_word_bytes : FnScope ["number"] ["number"] (defScope (top 39)) := ⟨rfl, rfl, rfl, by decide +kernel, rfl, by decide +kernel, by decide +kernel⟩
theorem ok_word_bytes (g : Glo K mg aM aW aR) (G : Gf K mg "word_bytes" (top 39)) : Cal P w K mg base 1 "word_bytes" ["number"] spWB := by
  have nd := sc_word_bytes.nd
  refine cal_of G (fun _ _ _ _ _ _ us hl => match us, hl with | [_], _ => rfl) sc_word_bytes (fun vs H Q E h => ?_) (fun f cdv A outer s H vs Q E hr h => ?_)
  · obtain ⟨z, n, rfl, rfl, hn, k⟩ := h
    rfl
  · obtain ⟨z, n, rfl, rfl, hn, k⟩ := h
    have hu := hu_of hr
    have hu64 := hr.units
    refine ⟨_, (pss_one (ps_ret (pe_lst (pa_cons (pe_op op_mod (pv 0) pe_int) (pa_cons (pe_op op_mod (pe_op op_fdiv (pv 0) pe_int) pe_int) (pa_cons (pe_op op_mod (pe_op op_fdiv (pv 0) pe_int) pe_int) (pa_cons (pe_op op_fdiv (pv 0) pe_int) pa_nil))))))), ?_⟩
    refine ⟨_, rfl, _, _, rfl, rfl, (by show (0 : Int) < 256; decide), _, rfl, _, _, rfl, rfl, ⟨by decide, by decide⟩, _, _, rfl, rfl, (by show (0 : Int) < 256; decide), _, rfl, _, _, rfl, rfl, ⟨by decide, by decide⟩, _, _, rfl, rfl, (by show (0 : Int) < 256; decide), _, rfl, _, _, rfl, rfl, ⟨by decide, by decide⟩, (by show 4 ≤ sizeLine; decide), fun l hl => k.at hl ?_⟩
    have e0 : ((n : Nat) : Int) % 256 = ((n % 256 : Nat) : Int) := by omega
    have e1 : ((n : Nat) : Int) / 256 % 256 = ((n / 256 % 256 : Nat) : Int) := by omega
    have e2 : ((n : Nat) : Int) / 65536 % 256 = ((n / 65536 % 256 : Nat) : Int) := by omega
    have e3 : ((n : Nat) : Int) / 16777216 = ((n / 16777216 : Nat) : Int) := by omega
    show [V.int (((n : Nat) : Int) % 256), V.int (((n : Nat) : Int) / 256 % 256), V.int (((n : Nat) : Int) / 65536 % 256), V.int (((n : Nat) : Int) / 16777216)] = _
    rw [e0, e1, e2, e3, bv_le4 hn]
theorem sc_head_bytes : FnScope ["kind", "count"] ["kind", "count"] (defScope (top 40)) := ⟨rfl, rfl, rfl, by decide +kernel, rfl, by decide +kernel, by decide +kernel⟩
theorem ok_head_bytes (g : Glo K mg aM aW aR) (G : Gf K mg "head_bytes" (top 40)) (c_word_bytes : Cal P w K mg base 1 "word_bytes" ["number"] spWB) : Cal P w K mg base 2 "head_bytes" ["kind", "count"] spHB := by
  have nd := sc_head_bytes.nd
  refine cal_of G (fun _ _ _ _ _ _ us hl => match us, hl with | [_, _], _ => rfl) sc_head_bytes (fun vs H Q E h => ?_) (fun f cdv A outer s H vs Q E hr h => ?_)
  · obtain ⟨y, z, kd, c, rfl, rfl, rfl, hk, hc, k⟩ := h
    rfl
  · obtain ⟨y, z, kd, c, rfl, rfl, rfl, hk, hc, k⟩ := h
    have hu := hu_of hr
    have hu64 := hr.units
    refine ⟨_, (pss_one (ps_ret (pe_op op_cat (pe_lst (pa_cons (pv 0) pa_nil)) (pe_slice sl_list (pe_cal c_word_bytes hr rfl (pa_cons (pv 1) pa_nil)) po_none (po_some pe_int))))), ?_⟩
    refine ⟨_, rfl, (by show 1 ≤ sizeLine; decide), fun l1 hl1 => ⟨_, rfl, _, c, rfl, rfl, hc, fun H1 w hw h1 s1 => ?_⟩⟩
    have s0 : Same H (upd H l1 (.lst [.int (kd : Nat)])) := same_upd same_refl hl1
    refine ⟨_, rfl, w, _, rfl, SqL.of h1, fun l2 hl2 => ?_⟩
    have s2 : Same H1 (upd H1 l2 (.lst (cutV (bv (le 4 c)) none (some 3)))) := same_upd same_refl hl2
    have e : cutV (bv (le 4 c)) none (some (3 : Int)) = (bv (le 4 c)).take 3 := cut_hi _ 3
    refine ⟨l1, l2, _, _, rfl, rfl, s2 _ _ (s1 _ _ upd_same), upd_same, ?_, fun q hq => k.at' ((s0.trans s1).trans s2) hq ?_⟩
    · rw [e, List.length_take]
      exact le_line (by show 1 + _ ≤ 10000; omega)
    · rw [e, bv_head hk hc]
      rfl
theorem sc_places_within : FnScope ["tree", "at", "places", "place", "one"] ["tree", "at"] (defScope (top 41)) := ⟨rfl, rfl, rfl, by decide +kernel, rfl, by decide +kernel, by decide +kernel⟩
theorem ok_places_within (g : Glo K mg aM aW aR) (o : Ob K cT cH) (G : Gf K mg "places_within" (top 41)) (c_own_size : Cal P w K mg base 2 "own_size" ["kind", "count"] spOwn) : Cal P w K mg base 3 "places_within" ["tree", "at"] (spWithin cT) := by
  have nd := sc_places_within.nd
  refine cal_of G (fun _ _ _ _ _ _ us hl => match us, hl with | [_, _], _ => rfl) sc_places_within (fun vs H Q E h => ?_) (fun f cdv A outer s H vs Q E hr h => ?_)
  · obtain ⟨t, v, ks, Ex, z, at_, rfl, rfl, hN, hz, k⟩ := h
    rfl
  · obtain ⟨t, v, ks, Ex, z, at_, rfl, rfl, hN, hz, k⟩ := h
    have hu := hu_of hr
    have hu64 := hr.units
    refine ⟨_, (pss_cons (ps_set (i := 2) nd rfl (Or.inl rfl) (pe_lst pa_nil))
      (pss_cons (ps_set (i := 3) nd rfl (Or.inl rfl) (pe_op op_add (pv 1) (pe_cal c_own_size hr rfl (pa_cons (pe_fld (pv 0) rfl) (pa_cons (pe_fld (pv 0) rfl) pa_nil)))))
      (pss_cons (ps_for PassesOwn.never rfl (pi_list (pe_fld (pv 0) rfl)) (pg_name (i := 4) nd rfl (Or.inl rfl))
      (pss_cons (ps_expr (pe_bm PySem.F.plainAttrs_list PySem.F.slot_list_append PySem.F.type_list_append mt_append (pv 2) (pa_cons (pv 3) pa_nil)))
      (pss_one (ps_set (i := 3) nd rfl (Or.inl rfl) (pe_op op_add (pv 3) (pe_fld (pv 4) rfl))))))
      (pss_one (ps_ret (pv 2)))))), ?_⟩
    obtain ⟨dx, c, n, ht, hc, hn⟩ := hN.at_
    have hsz := size_ge v
    have hkl : 4 * ks.length ≤ 504 := by have := flat_ge hN.kids.trs; rw [fs_len] at this; omega
    refine ⟨(by decide), fun l hl => ?_⟩
    have s0 : Same H (upd H l (.lst [])) := same_upd same_refl hl
    refine ⟨_, rfl, _, rfl, t, _, dx, _, _, rfl, s0 _ _ ht, o.clT, o.n_kind, rfl, _, rfl, t, _, dx, _, _, rfl, s0 _ _ ht, o.clT, o.n_count, rfl, _, _, kindV v, countV v, rfl, rfl, rfl, by omega, _, _, rfl, rfl, ?_⟩
    have e0 : ((at_ : Nat) : Int) + ((ownSize (kindV v) (countV v) : Nat) : Int) = ((at_ + v.size + Fm.sizeOf (fs (ks.take 0)).flatten : Nat) : Int) := by
      rw [size_own]
      show _ = ((at_ + v.size + 0 : Nat) : Int)
      omega
    refine ⟨_, rfl, t, _, dx, _, _, rfl, s0 _ _ ht, o.clT, o.n_inner, rfl, n, rfl, ⟨_, SqL.of (s0 _ _ hn)⟩, ?_⟩
    refine for_list (xs := rv ks) (fun i σ H' => ∃ v4 : Option V, σ = [some (.ref t), some (.int (at_ : Nat)), some (.ref l), some (.int (at_ + v.size + Fm.sizeOf (fs (ks.take i)).flatten : Nat)), v4] ∧ H' l = some (.lst (nv (starts (at_ + v.size) (fs (ks.take i))))) ∧ Same H H') ⟨none, ?_, upd_same, s0⟩ (fun i σ H' _ h => let ⟨_, _, _, s⟩ := h; SqL.of (s _ _ hn)) ?_ ?_
    · rw [← e0]
      rfl
    · rintro i x σ H' hx ⟨v4, rfl, hl', s⟩
      obtain ⟨j, hj, rfl⟩ := rv_get hx
      have hm := List.mem_of_getElem? hj
      have hi : i < ks.length := (List.getElem?_eq_some_iff.mp hj).1
      obtain ⟨_, dx', c', i', v', hj'⟩ := (hN.kids j hm).has
      have njl : j.1 ≠ l := ne_of_none hj' hl
      refine ⟨_, rfl, .inl ⟨rfl, _, SqL.of hl'⟩, _, rfl, l, _, _, rfl, rfl, hl', ?_, ?_⟩
      · rw [nv_len, starts_len, fs_len, List.length_take]
        exact Nat.lt_of_le_of_lt (show _ ≤ 600 by omega) (by decide)
      refine ⟨_, rfl, _, rfl, j.1, _, dx', _, _, rfl, (by rw [upd_ne njl]; exact s _ _ hj'), o.clT, o.n_size, rfl, _, _, rfl, rfl, ?_⟩
      have e1 : Fm.sizeOf (fs (ks.take (i + 1))).flatten = Fm.sizeOf (fs (ks.take i)).flatten + Fm.sizeOf j.2.1 := by
        rw [fs_take_snoc hj, List.flatten_append, sizeOf_append]
        show _ + Fm.sizeOf (j.2.1 ++ []) = _
        rw [List.append_nil]
      refine ⟨some (.ref j.1), ?_, ?_, same_upd s hl⟩
      · have e2 : ((at_ + v.size + Fm.sizeOf (fs (ks.take i)).flatten : Nat) : Int) + ((Fm.sizeOf j.2.1 : Nat) : Int) = ((at_ + v.size + Fm.sizeOf (fs (ks.take (i + 1))).flatten : Nat) : Int) := by rw [e1]; omega
        rw [← e2]
        rfl
      · rw [upd_same, fs_take_snoc hj, starts_snoc]
        unfold nv
        rw [List.map_append]
        rfl
    · rintro σ H' ⟨v4, rfl, hl', s⟩
      rw [rv_len, List.take_length] at hl'
      exact ⟨_, rfl, k H' l hl hl' s⟩
theorem sc_number_bytes : FnScope ["content"] ["content"] (defScope (top 42)) := ⟨rfl, rfl, rfl, by decide +kernel, rfl, by decide +kernel, by decide +kernel⟩
theorem ok_number_bytes (g : Glo K mg aM aW aR) (G : Gf K mg "number_bytes" (top 42)) (c_word_bytes : Cal P w K mg base 1 "word_bytes" ["number"] spWB) : Cal P w K mg base 2 "number_bytes" ["content"] spNB := by
  have nd := sc_number_bytes.nd
  refine cal_of G (fun _ _ _ _ _ _ us hl => match us, hl with | [_], _ => rfl) sc_number_bytes (fun vs H Q E h => ?_) (fun f cdv A outer s H vs Q E hr h => ?_)
  · obtain ⟨c, x, rfl, hc, hx, k⟩ := h
    rfl
  · obtain ⟨c, x, rfl, hc, hx, k⟩ := h
    have hu := hu_of hr
    have hu64 := hr.units
    refine ⟨_, (pss_one (ps_ret (pe_op op_cat (pe_cal c_word_bytes hr rfl (pa_cons (pe_ix ix_list (pv 0) pe_int (fun _ _ => rfl)) pa_nil)) (pe_cal c_word_bytes hr rfl (pa_cons (pe_ix ix_list (pv 0) pe_int (fun _ _ => rfl)) pa_nil))))), ?_⟩
    refine ⟨_, rfl, c, _, _, _, rfl, rfl, SqL.of hc, at_of (j := 1) rfl rfl, _, x % 4294967296, rfl, rfl, by omega, fun H1 p1 n1 h1 s1 => ?_⟩
    refine ⟨_, rfl, c, _, _, _, rfl, rfl, SqL.of (s1 _ _ hc), at_of (j := 0) rfl rfl, _, x / 4294967296, rfl, rfl, by omega, fun H2 p2 n2 h2 s2 => ?_⟩
    refine ⟨p1, p2, _, _, rfl, rfl, s2 _ _ h1, h2, ?_, fun q hq => k.at' (s1.trans s2) hq ?_⟩
    · rw [bv_len, bv_len, le_len, le_len]
      decide
    · rw [bv_app]
theorem sc_filled_bytes : FnScope ["row"] ["row"] (defScope (top 43)) := ⟨rfl, rfl, rfl, by decide +kernel, rfl, by decide +kernel, by decide +kernel⟩
theorem ok_filled_bytes (g : Glo K mg aM aW aR) (G : Gf K mg "filled_bytes" (top 43)) (c_rounded_up : Cal P w K mg base 1 "rounded_up" ["length"] spUp) : Cal P w K mg base 2 "filled_bytes" ["row"] spFB := by
  have nd := sc_filled_bytes.nd
  refine cal_of G (fun _ _ _ _ _ _ us hl => match us, hl with | [_], _ => rfl) sc_filled_bytes (fun vs H Q E h => ?_) (fun f cdv A outer s H vs Q E hr h => ?_)
  · obtain ⟨r, b, rfl, hr0, hb, k⟩ := h
    rfl
  · obtain ⟨r, b, rfl, hr0, hb, k⟩ := h
    have hu := hu_of hr
    have hu64 := hr.units
    refine ⟨_, (pss_one (ps_ret (pe_op op_cat (pv 0) (pe_op op_rep (pe_lst (pa_cons pe_int pa_nil)) (pe_op op_sub (pe_cal c_rounded_up hr rfl (pa_cons (pe_callB call_len_seq rfl g.b_len PySem.boot_len (pa_cons (pv 0) pa_nil)) pa_nil)) (pe_callB call_len_seq rfl g.b_len PySem.boot_len (pa_cons (pv 0) pa_nil))))))), ?_⟩
    have hge := up4_ge b.length
    have hlt := up4_lt b.length
    refine ⟨_, rfl, (by show 1 ≤ sizeLine; decide), fun z hz => ?_⟩
    have s0 : Same H (upd H z (.lst [.int 0])) := same_upd same_refl hz
    refine ⟨_, rfl, r, _, rfl, .inl (SqL.of (s0 _ _ hr0)), _, b.length, rfl, by rw [bv_len], by omega, _, rfl, r, _, rfl, .inl (SqL.of (s0 _ _ hr0)), _, _, rfl, rfl, ?_⟩
    have e : (((up4 b.length : Nat) : Int) - (((bv b).length : Nat) : Int)) = ((up4 b.length - b.length : Nat) : Int) := by rw [bv_len]; omega
    show rRep (V.ref z) (V.int (((up4 b.length : Nat) : Int) - (((bv b).length : Nat) : Int))) _ _
    rw [e]
    refine ⟨z, _, _, rfl, rfl, upd_same, by omega, by omega, ?_, fun w hw => ?_⟩
    · rw [Int.toNat_natCast]
      exact le_line (by show 1 * _ ≤ 10000; omega)
    rw [Int.toNat_natCast]
    have s1 : Same (upd H z (.lst [.int 0])) (upd (upd H z (.lst [.int 0])) w (.lst (List.replicate (up4 b.length - b.length) [V.int 0]).flatten)) := same_upd same_refl hw
    have er : (List.replicate (up4 b.length - b.length) [V.int 0]).flatten = bv (List.replicate (up4 b.length - b.length) 0) := by
      unfold bv
      rw [List.map_replicate]
      generalize up4 b.length - b.length = m
      induction m with
      | zero => rfl
      | succ m ih => rw [List.replicate_succ, List.replicate_succ, List.flatten_cons, ih]; rfl
    refine ⟨r, w, _, _, rfl, rfl, s1 _ _ (s0 _ _ hr0), upd_same, ?_, fun q hq => k.at' (s0.trans s1) hq ?_⟩
    · rw [er, bv_len, bv_len, List.length_replicate]
      exact le_line (by omega)
    · rw [er, bv_app]
theorem sc_list_bytes : FnScope ["places", "data", "place"] ["places"] (defScope (top 44)) := ⟨rfl, rfl, rfl, by decide +kernel, rfl, by decide +kernel, by decide +kernel⟩
theorem ok_list_bytes (g : Glo K mg aM aW aR) (G : Gf K mg "list_bytes" (top 44)) (c_word_bytes : Cal P w K mg base 1 "word_bytes" ["number"] spWB) : Cal P w K mg base 2 "list_bytes" ["places"] (spLB K) := by
  have nd := sc_list_bytes.nd
  refine cal_of G (fun _ _ _ _ _ _ us hl => match us, hl with | [_], _ => rfl) sc_list_bytes (fun vs H Q E h => ?_) (fun f cdv A outer s H vs Q E hr h => ?_)
  · obtain ⟨q, ps, rfl, hS, hl, hb, k⟩ := h
    rfl
  · obtain ⟨q, ps, rfl, hS, hl, hb, k⟩ := h
    have hu := hu_of hr
    have hu64 := hr.units
    refine ⟨_, (pss_cons (ps_set (i := 1) nd rfl (Or.inl rfl) (pe_lst pa_nil))
      (pss_cons (ps_for PassesOwn.never rfl (pi_list (pv 0)) (pg_name (i := 2) nd rfl (Or.inl rfl))
      (pss_one (ps_expr (pe_bm PySem.F.plainAttrs_list PySem.F.slot_list_extend PySem.F.type_list_extend mt_extend (pv 1) (pa_cons (pe_cal c_word_bytes hr rfl (pa_cons (pv 2) pa_nil)) pa_nil)))))
      (pss_one (ps_ret (pv 1))))), ?_⟩
    refine ⟨(by decide), fun d hd => ?_⟩
    have s0 : Same H (upd H d (.lst [])) := same_upd same_refl hd
    refine ⟨_, rfl, q, rfl, ⟨_, s0.seq hS⟩, ?_⟩
    refine for_list (xs := nv ps) (fun i σ H' => ∃ v2 : Option V, σ = [some (.ref q), some (.ref d), v2] ∧ H' d = some (.lst (bv ((ps.take i).flatMap (le 4)))) ∧ Same H H') ⟨none, rfl, upd_same, s0⟩ (fun i σ H' _ h => let ⟨_, _, _, s⟩ := h; s.seq hS) ?_ ?_
    · rintro i x σ H' hx ⟨v2, rfl, hd', s⟩
      obtain ⟨n, hn, rfl⟩ := nv_get hx
      have hi : i < ps.length := (List.getElem?_eq_some_iff.mp hn).1
      refine ⟨_, rfl, .inl ⟨rfl, _, SqL.of hd'⟩, _, rfl, _, n, rfl, rfl, hb n (List.mem_of_getElem? hn), fun H1 p1 n1 h1 s1 => ?_⟩
      refine ⟨d, p1, _, _, rfl, rfl, s1 _ _ hd', h1, ?_, some (.int (n : Nat)), rfl, ?_, same_upd (s.trans s1) hd⟩
      · rw [bv_len, bv_len, le_len, flat4, List.length_take]
        exact le_line (by omega)
      · rw [upd_same, take_snoc hn, flatMap_snoc, bv_app]
    · rintro σ H' ⟨v2, rfl, hd', s⟩
      rw [nv_len, List.take_length] at hd'
      exact ⟨_, rfl, k H' d hd hd' s⟩
theorem sc_record_bytes : FnScope ["keys", "places", "data", "key", "place"] ["keys", "places"] (defScope (top 45)) := ⟨rfl, rfl, rfl, by decide +kernel, rfl, by decide +kernel, by decide +kernel⟩
theorem ok_record_bytes (g : Glo K mg aM aW aR) (G : Gf K mg "record_bytes" (top 45)) (c_word_bytes : Cal P w K mg base 1 "word_bytes" ["number"] spWB) : Cal P w K mg base 2 "record_bytes" ["keys", "places"] (spRB K) := by
  have nd := sc_record_bytes.nd
  refine cal_of G (fun _ _ _ _ _ _ us hl => match us, hl with | [_, _], _ => rfl) sc_record_bytes (fun vs H Q E h => ?_) (fun f cdv A outer s H vs Q E hr h => ?_)
  · obtain ⟨r, q, l, ps, rfl, hR, hS, hl, hb1, hb2, k⟩ := h
    rfl
  · obtain ⟨r, q, l, ps, rfl, hR, hS, hl, hb1, hb2, k⟩ := h
    have hu := hu_of hr
    have hu64 := hr.units
    refine ⟨_, (pss_cons (ps_set (i := 2) nd rfl (Or.inl rfl) (pe_lst pa_nil))
      (pss_cons (ps_for PassesOwn.never rfl (pi_zip rfl g.b_zip (pa_cons (pv 0) (pa_cons (pv 1) pa_nil))) (pg_pair (K := K) (i := 3) (j := 4) rfl rfl nd rfl rfl (Or.inl rfl) (Or.inl rfl) (Or.inr rfl) (Or.inr rfl))
      (pss_cons (ps_expr (pe_bm PySem.F.plainAttrs_list PySem.F.slot_list_extend PySem.F.type_list_extend mt_extend (pv 2) (pa_cons (pe_cal c_word_bytes hr rfl (pa_cons (pv 3) pa_nil)) pa_nil)))
      (pss_one (ps_expr (pe_bm PySem.F.plainAttrs_list PySem.F.slot_list_extend PySem.F.type_list_extend mt_extend (pv 2) (pa_cons (pe_cal c_word_bytes hr rfl (pa_cons (pv 4) pa_nil)) pa_nil))))))
      (pss_one (ps_ret (pv 2))))), ?_⟩
    refine ⟨(by decide), fun d hd => ?_⟩
    have s0 : Same H (upd H d (.lst [])) := same_upd same_refl hd
    refine ⟨_, rfl, _, rfl, r, q, _, _, rfl, s0.seq hR, s0.seq hS, ?_⟩
    refine for_zip (xs := nv l) (zs := nv ps) (fun i σ H' => ∃ v3 v4 : Option V, σ = [some (.ref r), some (.ref q), some (.ref d), v3, v4] ∧ H' d = some (.lst (bv (((l.zip ps).take i).flatMap fun x => le 4 x.1 ++ le 4 x.2))) ∧ Same H H') ⟨none, none, rfl, upd_same, s0⟩ (fun i σ H' h => let ⟨_, _, _, _, s⟩ := h; ⟨s.seq hR, s.seq hS⟩) ?_ ?_
    · rintro i x z σ H' H1 hx hz ⟨v3, v4, rfl, hd0, s0'⟩ sx
      have s := s0'.trans sx
      have hd' := sx _ _ hd0
      obtain ⟨n, hn, rfl⟩ := nv_get hx
      obtain ⟨m, hm, rfl⟩ := nv_get hz
      have hi : i < l.length := (List.getElem?_eq_some_iff.mp hn).1
      have hlen : ((l.zip ps).take i).length ≤ 600 := by rw [List.length_take, List.length_zip]; omega
      refine ⟨_, rfl, .inl ⟨rfl, _, SqL.of hd'⟩, _, rfl, _, n, rfl, rfl, hb1 n (List.mem_of_getElem? hn), fun H2 p1 n1 h1 s1 => ?_⟩
      refine ⟨d, p1, _, _, rfl, rfl, s1 _ _ hd', h1, ?_, ?_⟩
      · rw [bv_len, bv_len, le_len, flat8]
        exact le_line (by omega)
      have s2 := same_upd (o := HO.lst (bv (((l.zip ps).take i).flatMap fun x => le 4 x.1 ++ le 4 x.2) ++ bv (le 4 n))) (s.trans s1) hd
      refine ⟨_, rfl, .inl ⟨rfl, _, SqL.of upd_same⟩, _, rfl, _, m, rfl, rfl, hb2 m (List.mem_of_getElem? hm), fun H3 p2 n2 h2 s3 => ?_⟩
      refine ⟨d, p2, _, _, rfl, rfl, s3 _ _ upd_same, h2, ?_, some (.int (n : Nat)), some (.int (m : Nat)), rfl, ?_, same_upd (s2.trans s3) hd⟩
      · rw [List.length_append, bv_len, bv_len, bv_len, le_len, le_len, flat8]
        exact le_line (by omega)
      · rw [upd_same, take_snoc (zip_got hn hm), flatMap_snoc, bv_app, bv_app, List.append_assoc]
    · rintro σ H' ⟨v3, v4, rfl, hd', s⟩
      have e : (l.zip ps).take (min (nv l).length (nv ps).length) = l.zip ps := by
        rw [nv_len, nv_len, ← List.length_zip, List.take_length]
      rw [e] at hd'
      exact ⟨_, rfl, k H' d hd hd' s⟩
theorem sc_inside_bytes : FnScope ["tree", "at"] ["tree", "at"] (defScope (top 46)) := ⟨rfl, rfl, rfl, by decide +kernel, rfl, by decide +kernel, by decide +kernel⟩
theorem ok_inside_bytes (g : Glo K mg aM aW aR) (o : Ob K cT cH) (G : Gf K mg "inside_bytes" (top 46)) (c_filled_bytes : Cal P w K mg base 2 "filled_bytes" ["row"] spFB) (c_list_bytes : Cal P w K mg base 2 "list_bytes" ["places"] (spLB K)) (c_number_bytes : Cal P w K mg base 2 "number_bytes" ["content"] spNB) (c_places_within : Cal P w K mg base 3 "places_within" ["tree", "at"] (spWithin cT)) (c_record_bytes : Cal P w K mg base 2 "record_bytes" ["keys", "places"] (spRB K)) : Cal P w K mg base 4 "inside_bytes" ["tree", "at"] (spIns cT) := by
  have nd := sc_inside_bytes.nd
  refine cal_of G (fun _ _ _ _ _ _ us hl => match us, hl with | [_, _], _ => rfl) sc_inside_bytes (fun vs H Q E h => ?_) (fun f cdv A outer s H vs Q E hr h => ?_)
  · obtain ⟨t, v, ks, Ex, z, at_, rfl, rfl, hN, hat, hz, k⟩ := h
    rfl
  · obtain ⟨t, v, ks, Ex, z, at_, rfl, rfl, hN, hat, hz, k⟩ := h
    have hu := hu_of hr
    have hu64 := hr.units
    refine ⟨_, (pss_cons (ps_if (pt_cmpR op_eq (pe_fld (pv 0) rfl) (pe_gi g.c_NUMBER rfl) (nomark _)) (pss_one (ps_ret (pe_cal c_number_bytes hr rfl (pa_cons (pe_fld (pv 0) rfl) pa_nil)))) pss_nil)
      (pss_cons (ps_if (pt_cmpR op_eq (pe_fld (pv 0) rfl) (pe_gi g.c_BYTES rfl) (nomark _)) (pss_one (ps_ret (pe_cal c_filled_bytes hr rfl (pa_cons (pe_fld (pv 0) rfl) pa_nil)))) pss_nil)
      (pss_cons (ps_if (pt_cmpR op_eq (pe_fld (pv 0) rfl) (pe_gi g.c_LIST rfl) (nomark _)) (pss_one (ps_ret (pe_cal c_list_bytes hr rfl (pa_cons (pe_cal c_places_within hr rfl (pa_cons (pv 0) (pa_cons (pv 1) pa_nil))) pa_nil)))) pss_nil)
      (pss_one (ps_ret (pe_cal c_record_bytes hr rfl (pa_cons (pe_fld (pv 0) rfl) (pa_cons (pe_cal c_places_within hr rfl (pa_cons (pv 0) (pa_cons (pv 1) pa_nil))) pa_nil)))))))), ?_⟩
    obtain ⟨dx, c, n, ht, hc, hn⟩ := hN.at_
    have hsz := size_ge v
    have hst : ∀ x ∈ starts (at_ + v.size) (fs ks), x < 4294967296 := fun x hx => by
      have := starts_le _ _ x hx
      omega
    have hkl : 4 * ks.length ≤ 504 := by have := flat_ge hN.kids.trs; rw [fs_len] at this; omega
    refine ⟨_, rfl, t, _, dx, _, _, rfl, ht, o.clT, o.n_kind, rfl, rfl, _, rfl, ite2 (fun e1 => ?_) fun e1 => ?_⟩
    · have e := V.int.inj (of_decide_eq_true e1)
      cases v with
      | number x => exact ⟨_, rfl, t, _, dx, _, _, rfl, ht, o.clT, o.n_content, rfl, c, x, rfl, hc, hN.ok, k⟩
      | bytes b => exact absurd e (by show ¬ ((2 : Nat) : Int) = 1; decide)
      | list b => exact absurd e (by show ¬ ((3 : Nat) : Int) = 1; decide)
      | record b => exact absurd e (by show ¬ ((4 : Nat) : Int) = 1; decide)
    refine ⟨_, rfl, t, _, dx, _, _, rfl, ht, o.clT, o.n_kind, rfl, rfl, _, rfl, ite2 (fun e2 => ?_) fun e2 => ?_⟩
    · have e := V.int.inj (of_decide_eq_true e2)
      cases v with
      | number x => exact absurd e (by show ¬ ((1 : Nat) : Int) = 2; decide)
      | bytes b =>
        refine ⟨_, rfl, t, _, dx, _, _, rfl, ht, o.clT, o.n_content, rfl, c, b, rfl, ?_, ?_, k⟩
        · rw [← nv_bytes]; exact hc
        · have : b.length ≤ _ := hsz.2.2; omega
      | list b => exact absurd e (by show ¬ ((3 : Nat) : Int) = 2; decide)
      | record b => exact absurd e (by show ¬ ((4 : Nat) : Int) = 2; decide)
    refine ⟨_, rfl, t, _, dx, _, _, rfl, ht, o.clT, o.n_kind, rfl, rfl, _, rfl, ite2 (fun e3 => ?_) fun e3 => ?_⟩
    · have e := V.int.inj (of_decide_eq_true e3)
      cases v with
      | number x => exact absurd e (by show ¬ ((1 : Nat) : Int) = 3; decide)
      | bytes b => exact absurd e (by show ¬ ((2 : Nat) : Int) = 3; decide)
      | list b =>
        refine ⟨_, rfl, _, rfl, t, .list b, ks, Ex, _, at_, rfl, rfl, hN, hz, fun H1 q nq hq s1 => ⟨q, _, rfl, SqL.of hq, ?_, hst, fun H2 q2 nq2 hq2 s2 => k H2 q2 (s1.free nq2) hq2 (s1.trans s2)⟩⟩
        rw [starts_len, fs_len]
        omega
      | record b => exact absurd e (by show ¬ ((4 : Nat) : Int) = 3; decide)
    cases v with
    | number x => exact absurd (decide_eq_true (p := V.int ((1 : Nat) : Int) = V.int 1) rfl) e1
    | bytes b => exact absurd (decide_eq_true (p := V.int ((2 : Nat) : Int) = V.int 2) rfl) e2
    | list b => exact absurd (decide_eq_true (p := V.int ((3 : Nat) : Int) = V.int 3) rfl) e3
    | record l =>
      refine ⟨_, rfl, t, _, dx, _, _, rfl, ht, o.clT, o.n_content, rfl, _, rfl, _, rfl, t, .record l, ks, Ex, _, at_, rfl, rfl, hN, hz, fun H1 q nq hq s1 => ⟨c, q, l, _, rfl, SqL.of (s1 _ _ hc), SqL.of hq, ?_, hN.ok, hst, fun H2 q2 nq2 hq2 s2 => k H2 q2 (s1.free nq2) hq2 (s1.trans s2)⟩⟩
      have : l.length ≤ _ := hsz.2.2
      omega
end
end FmP
set_option Elab.async false
set_option linter.all false
set_option maxRecDepth 100000
set_option maxHeartbeats 2000000
namespace FmP
open PySem PySem.Spec PyProof.Rows L2
open Fm FmM
section
variable {P : Program} {w : World} {K : PySem.W.Frag} {mg : Str → Option Value} {base : Heap} {aM aW aR : Addr} {cT cH : Addr}
theorem sc_message_of : FnScope ["tree", "data", "waiting", "following", "at"] ["tree"] (defScope (top 47)) := ⟨rfl, rfl, rfl, by decide +kernel, rfl, by decide +kernel, by decide +kernel⟩
theorem ok_message_of (g : Glo K mg aM aW aR) (o : Ob K cT cH) (G : Gf K mg "message_of" (top 47)) (c_head_bytes : Cal P w K mg base 2 "head_bytes" ["kind", "count"] spHB) (c_inside_bytes : Cal P w K mg base 4 "inside_bytes" ["tree", "at"] (spIns cT)) (c_word_bytes : Cal P w K mg base 1 "word_bytes" ["number"] spWB) : Cal P w K mg base 5 "message_of" ["tree"] (spMsg cT) := by
  have nd := sc_message_of.nd
  refine cal_of G (fun _ _ _ _ _ _ us hl => match us, hl with | [_], _ => rfl) sc_message_of (fun vs H Q E h => ?_) (fun f cdv A outer s H vs Q E hr h => ?_)
  · obtain ⟨t, x, Ex, rfl, hN, hz, k⟩ := h
    rfl
  · obtain ⟨t, x, Ex, rfl, hN, hz, k⟩ := h
    have hu := hu_of hr
    have hu64 := hr.units
    refine ⟨_, (pss_cons (ps_set (i := 1) nd rfl (Or.inl rfl) (pe_op op_cat (pe_callTy call_list_of rfl g.b_list bo_list (pa_cons (pe_gr g.c_MARK rfl) pa_nil)) (pe_cal c_word_bytes hr rfl (pa_cons (pe_gi g.c_FIRST_PLACE rfl) pa_nil))))
      (pss_cons (ps_set (i := 2) nd rfl (Or.inl rfl) (pe_lst (pa_cons (pv 0) pa_nil)))
      (pss_cons (ps_while PassesOwn.never (pt_truth (pv 2) (fun _ => rfl))
      (pss_cons (ps_set (i := 3) nd rfl (Or.inl rfl) (pe_bm0 PySem.F.plainAttrs_list PySem.F.slot_list_pop PySem.F.type_list_pop mt_pop (pv 2)))
      (pss_cons (ps_set (i := 4) nd rfl (Or.inl rfl) (pe_callB call_len_seq rfl g.b_len PySem.boot_len (pa_cons (pv 1) pa_nil)))
      (pss_cons (ps_expr (pe_bm PySem.F.plainAttrs_list PySem.F.slot_list_extend PySem.F.type_list_extend mt_extend (pv 1) (pa_cons (pe_cal c_head_bytes hr rfl (pa_cons (pe_fld (pv 3) rfl) (pa_cons (pe_fld (pv 3) rfl) pa_nil))) pa_nil)))
      (pss_cons (ps_expr (pe_bm PySem.F.plainAttrs_list PySem.F.slot_list_extend PySem.F.type_list_extend mt_extend (pv 1) (pa_cons (pe_cal c_inside_bytes hr rfl (pa_cons (pv 3) (pa_cons (pv 4) pa_nil))) pa_nil)))
      (pss_one (ps_expr (pe_bm PySem.F.plainAttrs_list PySem.F.slot_list_extend PySem.F.type_list_extend mt_extend (pv 2) (pa_cons (pe_lrev rfl rfl g.b_list rfl g.b_reversed (pa_cons (pe_fld (pv 3) rfl) pa_nil)) pa_nil)))))))))
      (pss_one (ps_ret (pv 1)))))), ?_⟩
    have hmsg := message_len hN.tr
    refine ⟨_, _, rfl, .inr (g.mark _), fun l1 hl1 => ?_⟩
    have s0 : Same H (upd H l1 (.lst [.int 70, .int 77, .int 48, .int 49])) := same_upd same_refl hl1
    refine ⟨_, 8, rfl, rfl, by decide, fun H1 w1 nw1 hw1 s1 => ?_⟩
    refine ⟨l1, w1, _, _, rfl, rfl, s1 _ _ upd_same, hw1, ?_, fun d hd => ?_⟩
    · rw [bv_len, le_len]
      decide
    have s2 : Same H1 (upd H1 d (.lst ([.int 70, .int 77, .int 48, .int 49] ++ bv (le 4 8)))) := same_upd same_refl hd
    have s02 := (s0.trans s1).trans s2
    refine ⟨_, rfl, (by show 1 ≤ sizeLine; decide), fun wl hwl => ?_⟩
    have s3 : Same (upd H1 d (.lst ([.int 70, .int 77, .int 48, .int 49] ++ bv (le 4 8)))) (upd (upd H1 d (.lst ([.int 70, .int 77, .int 48, .int 49] ++ bv (le 4 8)))) wl (.lst [.ref t])) := same_upd same_refl hwl
    have ndw : d ≠ wl := fun z => by rw [← z, upd_same] at hwl; cases hwl
    have hd0 : H d = none := (s0.trans s1).free hd
    have hwl0 : H wl = none := s02.free hwl
    have em : magic ++ le 4 8 ++ laidAll (magic ++ le 4 8).length (fs [(t, x)]) = message x.1 := by
      show magic ++ le 4 8 ++ (laid (magic ++ le 4 8).length x.1 ++ []) = magic ++ (le 4 8 ++ laid 8 x.1)
      have e8 : (magic ++ le 4 8).length = 8 := by rw [List.length_append, le_len]; rfl
      rw [e8, List.append_nil, List.append_assoc]
    change gName 2 _ _ _ _
    unfold gName
    dsimp only
    refine while_by (fun σ H' => ∃ (ks : List Kid) (done : Bytes) (v3 v4 : Option V), σ = [some (.ref t), some (.ref d), some (.ref wl), v3, v4] ∧ H' d = some (.lst (bv done)) ∧ H' wl = some (.lst (rv ks.reverse)) ∧ Nds cT Ex H ks ∧ done ++ laidAll done.length (fs ks) = message x.1 ∧ 8 ≤ done.length ∧ Same H H') lackIn
      ⟨[(t, x)], magic ++ le 4 8, none, none, rfl, ?_, (by rw [upd_same]; rfl), ?_, em, (by rw [List.length_append, le_len]; exact Nat.le_refl 8), s02.trans s3⟩ ?_ ?_
    · rw [upd_ne ndw, upd_same, bv_app]
      rfl
    · intro j hj
      have : j = (t, x) := by simpa using hj
      subst this
      exact hN
    · rintro σ H' ⟨ks, done, v3, v4, rfl, hd', hw', hk, hm, h8, s⟩
      refine ⟨_, rfl, _, .inl ⟨_, SqL.of hw', rfl⟩, ?_⟩
      cases ks with
      | nil =>
        refine iteF ⟨_, rfl, k H' d hd0 ?_ s⟩
        rw [hd', ← hm]
        show _ = some (HO.lst (bv (done ++ [])))
        rw [List.append_nil]
      | cons j rest =>
        have er : rv (j :: rest).reverse = rv rest.reverse ++ [V.ref j.1] := by rw [List.reverse_cons, rv_app]; rfl
        have hne : (!(rv (j :: rest).reverse).isEmpty) = true := by rw [er]; simp
        refine (if_pos hne).mpr ?_
        have hjn := hk j (List.mem_cons_self ..)
        have hrest : Nds cT Ex H rest := fun i hi => hk i (List.mem_cons_of_mem _ hi)
        obtain ⟨v, kk, ej, hA⟩ := hjn.parts
        obtain ⟨dx, c, n, ht, hc, hn⟩ := hA.at_
        have htr : ∀ y ∈ tv kk, Tr y.1 := fun y hy => by
          obtain ⟨i, hi, rfl⟩ := List.mem_map.mp hy
          exact (hA.kids i hi).tr
        have hstep := laid_step (v := v) (l := tv kk) (by rw [tv_len]; exact hA.ar) htr done.length (fs rest)
        have hcons : fs (j :: rest) = (over v (tv kk)).1 :: fs rest := by rw [← ej]; rfl
        rw [hcons, hstep] at hm
        have hlen := congrArg List.length hm
        have harl : v.arity = (starts (done.length + v.size) ((tv kk).map fun x => x.1)).length := by rw [starts_len, List.length_map, tv_len]; exact hA.ar.symm
        have hil := insB_len harl
        have hall := laidAll_len (ts := (tv kk).map (fun x => x.1) ++ fs rest) (fun t ht => (by
          rcases List.mem_append.mp ht with h | h
          · obtain ⟨y, hy, rfl⟩ := List.mem_map.mp h
            exact (htr y hy).len
          · exact (hrest.trs t h).len)) (done.length + v.size)
        rw [List.length_append, List.length_append, List.length_append, headB_len, hall, hmsg, List.flatten_append, sizeOf_append] at hlen
        have hfk : Fm.sizeOf ((tv kk).map fun x => x.1).flatten = Fm.sizeOf (fs kk).flatten := rfl
        rw [hfk] at hlen
        have hsz := size_ge v
        have hg1 := flat_ge hA.kids.trs
        have hg2 := flat_ge hrest.trs
        rw [fs_len] at hg1 hg2
        -- following = waiting.pop()
        refine ⟨_, rfl, .inl ⟨rfl, _, SqL.of hw'⟩, wl, _, V.ref j.1, rfl, rfl, hw', ?_, ?_⟩
        · rw [er, List.length_append]
          show (rv rest.reverse ++ [V.ref j.1])[(rv rest.reverse).length + 1 - 1]? = _
          rw [Nat.add_sub_cancel, List.getElem?_append_right (Nat.le_refl _), Nat.sub_self]
          rfl
        have edl : (rv (j :: rest).reverse).dropLast = rv rest.reverse := by rw [er, List.dropLast_concat]
        rw [edl]
        have s5 : Same H (upd H' wl (.lst (rv rest.reverse))) := same_upd s hwl0
        have hd5 : (upd H' wl (.lst (rv rest.reverse))) d = some (.lst (bv done)) := by rw [upd_ne ndw]; exact hd'
        generalize eH5 : upd H' wl (.lst (rv rest.reverse)) = H5 at *
        have hw5 : H5 wl = some (.lst (rv rest.reverse)) := by rw [← eH5, upd_same]
        -- at = len(data)
        refine ⟨_, rfl, d, _, rfl, .inl (SqL.of hd5), ?_⟩
        rw [bv_len]
        -- data.extend(head_bytes(..))
        refine ⟨_, rfl, .inl ⟨rfl, _, SqL.of hd5⟩, _, rfl, j.1, _, dx, _, _, rfl, s5 _ _ ht, o.clT, o.n_kind, rfl, _, rfl, j.1, _, dx, _, _, rfl, s5 _ _ ht, o.clT, o.n_count, rfl, _, _, kindV v, countV v, rfl, rfl, rfl, kind_lt v, by omega, fun H6 p6 n6 h6 s6 => ?_⟩
        refine ⟨d, p6, _, _, rfl, rfl, s6 _ _ hd5, h6, ?_, ?_⟩
        · rw [bv_len, bv_len, headB_len]
          exact le_line (by omega)
        have s7 : Same H (upd H6 d (.lst (bv done ++ bv (headB (kindV v) (countV v))))) := same_upd (s5.trans s6) hd0
        have hw7 : (upd H6 d (.lst (bv done ++ bv (headB (kindV v) (countV v))))) wl = some (.lst (rv rest.reverse)) := by rw [upd_ne (Ne.symm ndw)]; exact s6 _ _ hw5
        have hd7 : (upd H6 d (.lst (bv done ++ bv (headB (kindV v) (countV v))))) d = some (.lst (bv done ++ bv (headB (kindV v) (countV v)))) := upd_same
        generalize eH7 : upd H6 d (.lst (bv done ++ bv (headB (kindV v) (countV v)))) = H7 at *
        -- data.extend(inside_bytes(..))
        refine ⟨_, rfl, .inl ⟨rfl, _, SqL.of hd7⟩, _, rfl, _, rfl, j.1, v, kk, Ex, _, done.length, rfl, rfl, hA.same s7, by omega, by omega, fun H8 p8 n8 h8 s8 => ?_⟩
        refine ⟨d, p8, _, _, rfl, rfl, s8 _ _ hd7, h8, ?_, ?_⟩
        · have e9 : (insB v (starts (done.length + v.size) (fs kk))).length + 4 = v.size := hil
          rw [List.length_append, bv_len, bv_len, bv_len, headB_len]
          exact le_line (by omega)
        have e9 : (insB v (starts (done.length + v.size) (fs kk))).length + 4 = v.size := hil
        have s9 : Same H (upd H8 d (.lst (bv done ++ bv (headB (kindV v) (countV v)) ++ bv (insB v (starts (done.length + v.size) (fs kk)))))) := same_upd (s7.trans s8) hd0
        have hw9 : (upd H8 d (.lst (bv done ++ bv (headB (kindV v) (countV v)) ++ bv (insB v (starts (done.length + v.size) (fs kk)))))) wl = some (.lst (rv rest.reverse)) := by rw [upd_ne (Ne.symm ndw)]; exact s8 _ _ hw7
        have hd9 : (upd H8 d (.lst (bv done ++ bv (headB (kindV v) (countV v)) ++ bv (insB v (starts (done.length + v.size) (fs kk)))))) d = some (.lst (bv done ++ bv (headB (kindV v) (countV v)) ++ bv (insB v (starts (done.length + v.size) (fs kk))))) := upd_same
        generalize eH9 : upd H8 d (.lst (bv done ++ bv (headB (kindV v) (countV v)) ++ bv (insB v (starts (done.length + v.size) (fs kk))))) = H9 at *
        -- waiting.extend(list(reversed(..)))
        refine ⟨_, rfl, .inl ⟨rfl, _, SqL.of hw9⟩, _, rfl, j.1, _, dx, _, _, rfl, s9 _ _ ht, o.clT, o.n_inner, rfl, n, _, rfl, SqL.of (s9 _ _ hn), fun rl hrl => ?_⟩
        have sr : Same H9 (upd H9 rl (.lst (rv kk).reverse)) := same_upd same_refl hrl
        refine ⟨wl, rl, _, _, rfl, rfl, sr _ _ hw9, upd_same, ?_, ?_⟩
        · rw [List.length_reverse, rv_len, rv_len, List.length_reverse]
          exact le_line (by omega)
        refine ⟨⟨kk ++ rest, done ++ headB (kindV v) (countV v) ++ insB v (starts (done.length + v.size) (fs kk)), _, _, rfl, ?_, ?_, ?_, ?_, ?_, same_upd (s9.trans sr) hwl0⟩, ?_⟩
        · rw [upd_ne ndw, sr _ _ hd9, bv_app, bv_app]
        · rw [upd_same, rv_rev, List.reverse_append, rv_app]
        · intro i hi
          rcases List.mem_append.mp hi with hi | hi
          · exact hA.kids i hi
          · exact hrest i hi
        · have el : (done ++ headB (kindV v) (countV v) ++ insB v (starts (done.length + v.size) (fs kk))).length = done.length + v.size := by
            rw [List.length_append, List.length_append, headB_len]
            omega
          rw [el, fs_app, ← hm, List.append_assoc, List.append_assoc, List.append_assoc]
          rfl
        · rw [List.length_append, List.length_append]
          omega
        · have el1 : lackIn [some (.ref t), some (.ref d), some (.ref wl), v3, v4] H' = 600 - done.length := by
            show (match H' d with | some (.lst xs) => 600 - xs.length | _ => 0) = _
            rw [hd']
            show 600 - (bv done).length = _
            rw [bv_len]
          rw [el1]
          show (match (upd (upd H9 rl (.lst (rv kk).reverse)) wl (.lst (rv rest.reverse ++ (rv kk).reverse))) d with | some (.lst xs) => 600 - xs.length | _ => 0) < _
          rw [upd_ne ndw, sr _ _ hd9]
          show 600 - (bv done ++ bv (headB (kindV v) (countV v)) ++ bv (insB v (starts (done.length + v.size) (fs kk)))).length < _
          rw [List.length_append, List.length_append, bv_len, bv_len, bv_len, headB_len]
          omega
    · rintro σ H' Q1 Q2 hq ⟨v, h1, b, h2, h3⟩
      exact ⟨v, h1, b, h2, hq _ _ h3⟩
end
end FmP
set_option Elab.async false
set_option linter.all false
set_option maxRecDepth 100000
namespace FmP
open PySem PySem.Spec PyProof.Rows L2
open Fm FmM
/-- the object: its message's bytes, its builder's trees -/
structure HR (cT cH : Addr) (Ex : Addr → Prop) (H : Hp) (h m l : Addr) (ms : Bytes) (ks : List Kid) : Prop where
  eh : ¬ Ex h
  at_ : ∃ dx, H h = some (.ins cH dx [("data", .ref m), ("trees", .ref l)])
  em : ¬ Ex m
  hm : H m = some (.lst (bv ms))
  el : ¬ Ex l
  hl : H l = some (.lst (rv ks))
  nd : Nds cT (fun b => Ex b ∨ b = h) H ks
theorem HR.frame {cT cH : Addr} {Ex : Addr → Prop} {H H' : Hp} {h m l : Addr} {ms : Bytes} {ks : List Kid} (r : HR cT cH Ex H h m l ms ks) (s : ∀ b o, ¬ Ex b → H b = some o → H' b = some o) : HR cT cH Ex H' h m l ms ks :=
  ⟨r.eh, let ⟨dx, e⟩ := r.at_; ⟨dx, s _ _ r.eh e⟩, r.em, s _ _ r.em r.hm, r.el, s _ _ r.el r.hl, fun k hk => (r.nd k hk).mono fun b o z1 z2 => ⟨z1, s b o (fun z => z1 (.inl z)) z2⟩⟩
theorem HR.same {cT cH : Addr} {Ex : Addr → Prop} {H H' : Hp} {h m l : Addr} {ms : Bytes} {ks : List Kid} (r : HR cT cH Ex H h m l ms ks) (s : Same H H') : HR cT cH Ex H' h m l ms ks := r.frame fun b o _ e => s b o e
def HRep (cT cH : Addr) : RepT := fun Ex H h s => ∃ (m l : Addr) (ks : List Kid), HR cT cH Ex H h m l s.message ks ∧ tv ks = s.trees
theorem hrep_ok (cT cH : Addr) : RepOk (HRep cT cH) where
  frame := fun ⟨m, l, ks, r, e⟩ s => ⟨m, l, ks, r.frame s, e⟩
  fresh := fun {Ex H h g s} ⟨m, l, ks, r, e⟩ hg => by
    have ne : ∀ b o, H b = some o → b ≠ g := fun b o e z => by rw [z, hg] at e; cases e
    obtain ⟨dx, hh⟩ := r.at_
    refine ⟨m, l, ks, ⟨fun z => z.elim r.eh (ne _ _ hh), ⟨dx, hh⟩, fun z => z.elim r.em (ne _ _ r.hm), r.hm, fun z => z.elim r.el (ne _ _ r.hl), r.hl, fun k hk => (r.nd k hk).mono fun b o z1 z2 => ⟨fun z => ?_, z2⟩⟩, e⟩
    rcases z with (z | z) | z
    · exact z1 (.inl z)
    · exact ne _ _ z2 z
    · exact z1 (.inr z)
/-- what a call leaves: the object's new state, the answer -/
def outS (cT cH : Addr) (Ex : Addr → Prop) (H : Hp) (h : Addr) (p : FmDesk.State × List Int) (Q : VK) : Prop :=
  ∀ (H' : Hp) (q : Addr), ¬ Ex q → H' q = some (.lst (iv p.2)) → HRep cT cH Ex H' h p.1 → (∀ b o, Ex b → H b = some o → H' b = some o) → Q (.ref q) H'
theorem outS.from {cT cH : Addr} {Ex : Addr → Prop} {H H1 : Hp} {h : Addr} {p : FmDesk.State × List Int} {Q : VK} (k : outS cT cH Ex H h p Q) (s : Same H H1) : outS cT cH Ex H1 h p Q := fun H' q nq hq r f => k H' q nq hq r fun b o eb e => f b o eb (s b o e)
/-- an answer, nothing changed -/
theorem outS.say {cT cH : Addr} {Ex : Addr → Prop} {H H1 : Hp} {h m l : Addr} {ms : Bytes} {ks : List Kid} {a : List Int} {xs : List V} {Q : VK} (k : outS cT cH Ex H h (⟨ms, tv ks⟩, a) Q) (r : HR cT cH Ex H h m l ms ks) (ex : ExIn Ex H) (s : Same H H1) {q : Addr} (hq : H1 q = none) (e : xs = iv a) : Q (.ref q) (upd H1 q (.lst xs)) := by
  have s2 : Same H (upd H1 q (.lst xs)) := same_upd s (s.free hq)
  refine k _ q (exIn_not ex (s.free hq)) ?_ ⟨m, l, ks, r.same s2, rfl⟩ fun b o _ eb => s2 b o eb
  rw [upd_same, e]
/-- the builder's row changed, an answer -/
theorem outS.row {cT cH : Addr} {Ex : Addr → Prop} {H H1 : Hp} {h m l l2 dx : Addr} {ms : Bytes} {ks ks2 : List Kid} {a : List Int} {xs : List V} {Q : VK} (k : outS cT cH Ex H h (⟨ms, tv ks2⟩, a) Q) (r : HR cT cH Ex H h m l ms ks) (ex : ExIn Ex H) (s : Same H H1)
    (n2 : ¬ Ex l2) (h2 : H1 l2 = some (.lst (rv ks2))) (nd2 : Nds cT (fun b => Ex b ∨ b = h) H1 ks2) {q : Addr} (hq : (upd H1 h (.ins cH dx [("data", .ref m), ("trees", .ref l2)])) q = none) (e : xs = iv a) : Q (.ref q) (upd (upd H1 h (.ins cH dx [("data", .ref m), ("trees", .ref l2)])) q (.lst xs)) := by
  obtain ⟨dx0, hh⟩ := r.at_
  have nqh : q ≠ h := fun z => by rw [z, upd_same] at hq; cases hq
  have hq1 : H1 q = none := by rw [upd_ne nqh] at hq; exact hq
  have keep : ∀ b o, b ≠ h → H1 b = some o → (upd (upd H1 h (.ins cH dx [("data", .ref m), ("trees", .ref l2)])) q (.lst xs)) b = some o := fun b o nb eb => by rw [upd_ne (ne_of_none eb hq1), upd_ne nb]; exact eb
  have nmh : m ≠ h := fun z => by have := r.hm; rw [z, hh] at this; cases this
  have nlh : l2 ≠ h := fun z => by rw [z, s _ _ hh] at h2; cases h2
  refine k _ q (exIn_not ex (s.free hq1)) (by rw [upd_same, e]) ⟨m, l2, ks2, ⟨r.eh, ⟨dx, by rw [upd_ne (Ne.symm nqh), upd_same]⟩, r.em, keep _ _ nmh (s _ _ r.hm), n2, keep _ _ nlh h2, fun j hj => (nd2 j hj).mono fun b o z1 z2 => ⟨z1, keep b o (fun z => z1 (.inr z)) z2⟩⟩, rfl⟩ fun b o eb e0 => keep b o (fun z => r.eh (z ▸ eb)) (s _ _ e0)
/-- the message changed, an answer -/
theorem outS.msg {cT cH : Addr} {Ex : Addr → Prop} {H H1 : Hp} {h m l m2 dx : Addr} {ms ms2 : Bytes} {ks : List Kid} {a : List Int} {xs : List V} {Q : VK} (k : outS cT cH Ex H h (⟨ms2, tv ks⟩, a) Q) (r : HR cT cH Ex H h m l ms ks) (ex : ExIn Ex H) (s : Same H H1)
    (n2 : ¬ Ex m2) (h2 : H1 m2 = some (.lst (bv ms2))) {q : Addr} (hq : (upd H1 h (.ins cH dx [("data", .ref m2), ("trees", .ref l)])) q = none) (e : xs = iv a) : Q (.ref q) (upd (upd H1 h (.ins cH dx [("data", .ref m2), ("trees", .ref l)])) q (.lst xs)) := by
  obtain ⟨dx0, hh⟩ := r.at_
  have nqh : q ≠ h := fun z => by rw [z, upd_same] at hq; cases hq
  have hq1 : H1 q = none := by rw [upd_ne nqh] at hq; exact hq
  have keep : ∀ b o, b ≠ h → H1 b = some o → (upd (upd H1 h (.ins cH dx [("data", .ref m2), ("trees", .ref l)])) q (.lst xs)) b = some o := fun b o nb eb => by rw [upd_ne (ne_of_none eb hq1), upd_ne nb]; exact eb
  have nlh : l ≠ h := fun z => by have := r.hl; rw [z, hh] at this; cases this
  have nmh : m2 ≠ h := fun z => by rw [z, s _ _ hh] at h2; cases h2
  refine k _ q (exIn_not ex (s.free hq1)) (by rw [upd_same, e]) ⟨m2, l, ks, ⟨r.eh, ⟨dx, by rw [upd_ne (Ne.symm nqh), upd_same]⟩, n2, keep _ _ nmh h2, r.el, keep _ _ nlh (s _ _ r.hl), fun j hj => ((r.nd j hj).same s).mono fun b o z1 z2 => ⟨z1, keep b o (fun z => z1 (.inr z)) z2⟩⟩, rfl⟩ fun b o eb e0 => keep b o (fun z => r.eh (z ▸ eb)) (s _ _ e0)
theorem exIn_h {Ex : Addr → Prop} {H : Hp} {h : Addr} {o : HO} (ex : ExIn Ex H) (hh : H h = some o) : ExIn (fun b => Ex b ∨ b = h) H := fun b hb => by
  rcases hb with hb | rfl
  · exact ex b hb
  · rw [hh]; exact fun q => by cases q
/-- whether these may be a builder's trees -/
def fits (l : List (Fm.Tree × Nat)) : Bool := decide (l.length ≤ 16) && (decide (FmDesk.sizesOf l ≤ 504) && (l.map fun x => decide (x.2 ≤ 8)).all id)
def rowTo (ms : Bytes) (old new : List (Fm.Tree × Nat)) : FmDesk.State × List Int := if fits new = true then (⟨ms, new⟩, [0]) else (⟨ms, old⟩, [-2])
theorem fits_iff {l : List (Fm.Tree × Nat)} : fits l = true ↔ l.length ≤ 16 ∧ FmDesk.sizesOf l ≤ 504 ∧ ∀ x ∈ l, x.2 ≤ 8 := by
  unfold fits
  rw [Bool.and_eq_true, Bool.and_eq_true, decide_eq_true_eq, decide_eq_true_eq, List.all_eq_true]
  constructor
  · rintro ⟨h1, h2, h3⟩
    exact ⟨h1, h2, fun x hx => of_decide_eq_true (h3 _ (List.mem_map.mpr ⟨x, hx, rfl⟩))⟩
  · rintro ⟨h1, h2, h3⟩
    refine ⟨h1, h2, fun b hb => ?_⟩
    obtain ⟨x, hx, rfl⟩ := List.mem_map.mp hb
    exact decide_eq_true (h3 x hx)
/-- **putting is as the words tell it** -/
theorem put_row {s : FmDesk.State} (g : Good s) (k : Nat) (x : Fm.Tree × Nat) : ((FmDesk.put s k x).1, FlatNeutral.told (FmDesk.put s k x).2) = rowTo s.message s.trees (s.trees.take (s.trees.length - k) ++ [x]) := by
  unfold FmDesk.put rowTo
  dsimp only
  by_cases f : fits (s.trees.take (s.trees.length - k) ++ [x]) = true
  · have f' := fits_iff.mp f
    have hx := f'.2.2 x (by simp)
    rw [if_pos f, if_neg (fun z => by
      rcases z with z | z | z
      · have : 16 < (s.trees.take (s.trees.length - k) ++ [x]).length := z; omega
      · have : 8 < x.2 := z; omega
      · have : 504 < FmDesk.sizesOf (s.trees.take (s.trees.length - k) ++ [x]) := z; omega)]
    rfl
  · rw [if_neg f, if_pos]
    · rfl
    · refine Classical.byContradiction fun z => f (fits_iff.mpr ?_)
      have z1 : ¬ 16 < (s.trees.take (s.trees.length - k) ++ [x]).length := fun q => z (.inl q)
      have z2 : ¬ 8 < x.2 := fun q => z (.inr (.inl q))
      have z3 : ¬ 504 < FmDesk.sizesOf (s.trees.take (s.trees.length - k) ++ [x]) := fun q => z (.inr (.inr q))
      refine ⟨by omega, by omega, fun y hy => ?_⟩
      rcases List.mem_append.mp hy with hy | hy
      · exact g.deep y (List.mem_of_mem_take hy)
      · have : y = x := by simpa using hy
        rw [this]; omega
theorem sizesOf_snoc (l : List (Fm.Tree × Nat)) (x : Fm.Tree × Nat) : FmDesk.sizesOf (l ++ [x]) = FmDesk.sizesOf l + Fm.sizeOf x.1 := by
  rw [sizesOf_sum, sizesOf_sum, List.map_append, List.sum_append]
  simp
theorem copy_row {s : FmDesk.State} (g : Good s) (o : Nat) : ((FmDesk.step s (.copy o)).1, FlatNeutral.told (FmDesk.step s (.copy o)).2) = match tale s.message o with
    | none => (⟨s.message, s.trees⟩, [-1])
    | some x => rowTo s.message s.trees (s.trees ++ [x]) := by
  unfold FmDesk.step
  dsimp only
  cases e : tale s.message o with
  | none => rw [tale_none e]; rfl
  | some x =>
    obtain ⟨h1, h2⟩ := tale_some e
    rw [h1]
    dsimp only
    by_cases c : TREES ≤ s.trees.length ∨ ROOM < FmDesk.sizesOf s.trees + Fm.sizeOf x.1
    · rw [if_pos c]
      unfold rowTo
      rw [if_neg]
      · rfl
      · intro f
        have f' := fits_iff.mp f
        rw [sizesOf_snoc, List.length_append] at f'
        have f1 : s.trees.length + 1 ≤ 16 := f'.1
        rcases c with c | c
        · have : 16 ≤ s.trees.length := c; omega
        · have : 504 < FmDesk.sizesOf s.trees + Fm.sizeOf x.1 := c; omega
    · rw [if_neg c, show says s.message DEPTH o = some x from h2]
      dsimp only
      rw [put_row g 0 x, Nat.sub_zero, List.take_length]
theorem step_pair {s : FmDesk.State} {C : FmDesk.Call} {p : FmDesk.State × List Int} (h : ((FmDesk.step s C).1, FlatNeutral.told (FmDesk.step s C).2) = p) : (FmDesk.step s C).1 = p.1 ∧ FlatNeutral.told (FmDesk.step s C).2 = p.2 := by
  rw [← h]
  exact ⟨rfl, rfl⟩
/-- what finish and adopt speak of -/
def oneOf (l : List (Fm.Tree × Nat)) : Option Fm.Tree := match l with
  | [x] => some x.1
  | _ => none
theorem finish_row (s : FmDesk.State) : ((FmDesk.step s .finish).1, FlatNeutral.told (FmDesk.step s .finish).2) = match oneOf s.trees with
    | none => (⟨s.message, s.trees⟩, [-1])
    | some t => (⟨s.message, s.trees⟩, ((message t).length : Int) :: (message t).map fun c => ((c.toNat : Nat) : Int)) := by
  unfold FmDesk.step FmDesk.finished oneOf
  dsimp only
  obtain ⟨ms, tr⟩ := s
  cases tr with
  | nil => rfl
  | cons x r =>
    cases r with
    | nil => rfl
    | cons y r => rfl
theorem adopt_row (s : FmDesk.State) : ((FmDesk.step s .adopt).1, FlatNeutral.told (FmDesk.step s .adopt).2) = match oneOf s.trees with
    | none => (⟨s.message, s.trees⟩, [-1])
    | some t => (⟨message t, s.trees⟩, [0]) := by
  unfold FmDesk.step FmDesk.finished oneOf
  dsimp only
  obtain ⟨ms, tr⟩ := s
  cases tr with
  | nil => rfl
  | cons x r =>
    cases r with
    | nil => rfl
    | cons y r => rfl
end FmP
set_option Elab.async false
set_option linter.all false
set_option maxRecDepth 100000
set_option maxHeartbeats 2000000
namespace FmP
open PySem PySem.Spec PyProof.Rows L2
open Fm FmM
def spSz (cT : Addr) : Sp := fun vs H Q _ => ∃ (l : Addr) (ks : List Kid) (Ex : Addr → Prop), vs = [.ref l] ∧ H l = some (.lst (rv ks)) ∧ ks.length ≤ 600 ∧ Nds cT Ex H ks ∧ ∀ H', Same H H' → Q (.int (FmDesk.sizesOf (tv ks) : Nat)) H'
def spRoom (cT : Addr) : Sp := fun vs H Q _ => ∃ (l : Addr) (ks : List Kid) (Ex : Addr → Prop), vs = [.ref l] ∧ H l = some (.lst (rv ks)) ∧ ks.length ≤ 600 ∧ Nds cT Ex H ks ∧ ∀ H', Same H H' → Q (.bl (fits (tv ks))) H'
def spRow (cT cH : Addr) : Sp := fun vs H Q _ => ∃ (h l m l0 : Addr) (ms : Bytes) (ks0 ks : List Kid) (Ex : Addr → Prop), vs = [.ref h, .ref l] ∧ HR cT cH Ex H h m l0 ms ks0 ∧ ExIn Ex H ∧ ¬ Ex l ∧ H l = some (.lst (rv ks)) ∧ ks.length ≤ 600 ∧ Nds cT (fun b => Ex b ∨ b = h) H ks ∧ outS cT cH Ex H h (rowTo ms (tv ks0) (tv ks)) Q
def spBegin (cT cH : Addr) : Sp := fun vs H Q _ => ∃ (h m l : Addr) (ms : Bytes) (ks : List Kid) (Ex : Addr → Prop), vs = [.ref h] ∧ HR cT cH Ex H h m l ms ks ∧ ExIn Ex H ∧ outS cT cH Ex H h (⟨ms, []⟩, [0]) Q
def spPut (cT cH : Addr) : Sp := fun vs H Q _ => ∃ (h t m l : Addr) (ms : Bytes) (ks : List Kid) (x : Fm.Tree × Nat) (Ex : Addr → Prop), vs = [.ref h, .ref t] ∧ HR cT cH Ex H h m l ms ks ∧ ExIn Ex H ∧ ks.length ≤ 16 ∧ Nd cT (fun b => Ex b ∨ b = h) H t x ∧ outS cT cH Ex H h (rowTo ms (tv ks) (tv ks ++ [x])) Q
def spListA (cT cH : Addr) : Sp := fun vs H Q _ => ∃ (h m l : Addr) (ms : Bytes) (ks : List Kid) (z : Int) (n : Nat) (Ex : Addr → Prop), vs = [.ref h, .int z] ∧ z = n ∧ HR cT cH Ex H h m l ms ks ∧ ExIn Ex H ∧ ks.length ≤ 16 ∧
  outS cT cH Ex H h (if ks.length < n then (⟨ms, tv ks⟩, [-1]) else rowTo ms (tv ks) (tv (ks.take (ks.length - n)) ++ [over (.list n) (tv (ks.drop (ks.length - n)))])) Q
def spRecA (cT cH : Addr) : Sp := fun vs H Q _ => ∃ (h r m l : Addr) (ms : Bytes) (ks : List Kid) (keys : List Nat) (Ex : Addr → Prop), vs = [.ref h, .ref r] ∧ HR cT cH Ex H h m l ms ks ∧ ExIn Ex H ∧ ks.length ≤ 16 ∧ H r = some (.lst (nv keys)) ∧ ¬ Ex r ∧ keys.length ≤ 600 ∧ (∀ k ∈ keys, k < 4294967296) ∧
  outS cT cH Ex H h (if ks.length < keys.length ∨ rising keys = false then (⟨ms, tv ks⟩, [-1]) else rowTo ms (tv ks) (tv (ks.take (ks.length - keys.length)) ++ [over (.record keys) (tv (ks.drop (ks.length - keys.length)))])) Q
def spCopyA (cT cH : Addr) : Sp := fun vs H Q _ => ∃ (h m l : Addr) (ms : Bytes) (ks : List Kid) (z : Int) (p : Nat) (Ex : Addr → Prop), vs = [.ref h, .int z] ∧ z = p ∧ HR cT cH Ex H h m l ms ks ∧ ExIn Ex H ∧ ms.length ≤ 600 ∧ ks.length ≤ 16 ∧
  outS cT cH Ex H h (match tale ms p with | none => (⟨ms, tv ks⟩, [-1]) | some x => rowTo ms (tv ks) (tv ks ++ [x])) Q
def spSizesA (cT cH : Addr) : Sp := fun vs H Q _ => ∃ (h m l : Addr) (ms : Bytes) (ks : List Kid) (Ex : Addr → Prop), vs = [.ref h] ∧ HR cT cH Ex H h m l ms ks ∧ ExIn Ex H ∧ ks.length ≤ 16 ∧ outS cT cH Ex H h (⟨ms, tv ks⟩, [(ks.length : Int), (FmDesk.sizesOf (tv ks) : Int)]) Q
def spFin (cT cH : Addr) : Sp := fun vs H Q _ => ∃ (h m l : Addr) (ms : Bytes) (ks : List Kid) (Ex : Addr → Prop), vs = [.ref h] ∧ HR cT cH Ex H h m l ms ks ∧ ExIn Ex H ∧ FmDesk.sizesOf (tv ks) ≤ 504 ∧
  outS cT cH Ex H h (match oneOf (tv ks) with | none => (⟨ms, tv ks⟩, [-1]) | some t => (⟨ms, tv ks⟩, ((message t).length : Int) :: (message t).map fun c => ((c.toNat : Nat) : Int))) Q
def spAdo (cT cH : Addr) : Sp := fun vs H Q _ => ∃ (h m l : Addr) (ms : Bytes) (ks : List Kid) (Ex : Addr → Prop), vs = [.ref h] ∧ HR cT cH Ex H h m l ms ks ∧ ExIn Ex H ∧ FmDesk.sizesOf (tv ks) ≤ 504 ∧
  outS cT cH Ex H h (match oneOf (tv ks) with | none => (⟨ms, tv ks⟩, [-1]) | some t => (⟨message t, tv ks⟩, [0])) Q
def spBuild (cT cH : Addr) : Sp := fun vs H Q _ => ∃ (h n r : Addr) (p : Int) (xs ys : List Int) (C : FmDesk.Call) (s : FmDesk.State) (Ex : Addr → Prop), vs = [.ref h, .int p, .ref n, .ref r] ∧ CallIs p xs ys C ∧ 9 ≤ p ∧ H n = some (.lst (iv xs)) ∧ H r = some (.lst (iv ys)) ∧ ¬ Ex r ∧ Good s ∧ HRep cT cH Ex H h s ∧ ExIn Ex H ∧
  outS cT cH Ex H h ((FmDesk.step s C).1, FlatNeutral.told (FmDesk.step s C).2) Q
def spLoad (cT cH : Addr) : Sp := fun vs H Q _ => ∃ (h r m l : Addr) (ms b : Bytes) (ks : List Kid) (Ex : Addr → Prop), vs = [.ref h, .ref r] ∧ HR cT cH Ex H h m l ms ks ∧ ExIn Ex H ∧ H r = some (.lst (bv b)) ∧ ¬ Ex r ∧ outS cT cH Ex H h (⟨b, tv ks⟩, [0]) Q
theorem dec8 (n : Nat) : decide (((n : Nat) : Int) ≤ 8) = decide (n ≤ 8) := by
  by_cases h : n ≤ 8
  · rw [decide_eq_true h, decide_eq_true (by omega)]
  · rw [decide_eq_false h, decide_eq_false (by omega)]
theorem tv_take (ks : List Kid) (i : Nat) : tv (ks.take i) = (tv ks).take i := by unfold tv; rw [List.map_take]
theorem tv_drop (ks : List Kid) (i : Nat) : tv (ks.drop i) = (tv ks).drop i := by unfold tv; rw [List.map_drop]
theorem rv_take (ks : List Kid) (i : Nat) : (rv ks).take i = rv (ks.take i) := by unfold rv; rw [List.map_take]
theorem rv_drop (ks : List Kid) (i : Nat) : (rv ks).drop i = rv (ks.drop i) := by unfold rv; rw [List.map_drop]
theorem tv_snoc (ks : List Kid) (t : Addr) (x : Fm.Tree × Nat) : tv (ks ++ [(t, x)]) = tv ks ++ [x] := by unfold tv; rw [List.map_append]; rfl
theorem rv_snoc (ks : List Kid) (t : Addr) (x : Fm.Tree × Nat) : rv (ks ++ [(t, x)]) = rv ks ++ [.ref t] := by unfold rv; rw [List.map_append]; rfl
theorem Nds.app {C : Addr} {Ex : Addr → Prop} {H : Hp} {a b : List Kid} (h1 : Nds C Ex H a) (h2 : Nds C Ex H b) : Nds C Ex H (a ++ b) := fun k hk => (List.mem_append.mp hk).elim (h1 k) (h2 k)
theorem Nds.take {C : Addr} {Ex : Addr → Prop} {H : Hp} {a : List Kid} (h : Nds C Ex H a) (i : Nat) : Nds C Ex H (a.take i) := fun k hk => h k (List.mem_of_mem_take hk)
theorem Nds.drop {C : Addr} {Ex : Addr → Prop} {H : Hp} {a : List Kid} (h : Nds C Ex H a) (i : Nat) : Nds C Ex H (a.drop i) := fun k hk => h k (List.mem_of_mem_drop hk)
theorem Nds.one {C : Addr} {Ex : Addr → Prop} {H : Hp} {t : Addr} {x : Fm.Tree × Nat} (h : Nd C Ex H t x) : Nds C Ex H [(t, x)] := fun k hk => by
  have : k = (t, x) := by simpa using hk
  subst this
  exact h
theorem one_of {ks : List Kid} (h : ks.length = 1) : ∃ k, ks = [k] := by
  cases ks with
  | nil => cases h
  | cons k r =>
    cases r with
    | nil => exact ⟨k, rfl⟩
    | cons _ _ => simp at h
theorem none_of {ks : List Kid} (h : ¬ ks.length = 1) : oneOf (tv ks) = none := by
  cases ks with
  | nil => rfl
  | cons k r =>
    cases r with
    | nil => exact absurd rfl h
    | cons _ _ => rfl
section
variable {P : Program} {w : World} {K : PySem.W.Frag} {mg : Str → Option Value} {base : Heap} {aM aW aR : Addr} {cT cH : Addr}
theorem sc_size_together : FnScope ["trees", "tree"] ["trees"] (defScope (top 59)) := ⟨rfl, rfl, rfl, by decide +kernel, rfl, by decide +kernel, by decide +kernel⟩
theorem ok_size_together (g : Glo K mg aM aW aR) (o : Ob K cT cH) (G : Gf K mg "size_together" (top 59)) : Cal P w K mg base 1 "size_together" ["trees"] (spSz cT) := by
  have nd := sc_size_together.nd
  refine cal_of G (fun _ _ _ _ _ _ us hl => match us, hl with | [_], _ => rfl) sc_size_together (fun vs H Q E h => ?_) (fun f cdv A outer s H vs Q E hr h => ?_)
  · obtain ⟨l, ks, Ex, rfl, hl, l6, hN, k⟩ := h
    rfl
  · obtain ⟨l, ks, Ex, rfl, hl, l6, hN, k⟩ := h
    have hu := hu_of hr
    have hu64 := hr.units
    refine ⟨_, (pss_one (ps_ret (pe_callB (cr_sum rfl) rfl g.b_sum bo_sum (pa_cons (pe_lc rfl nd (own := [("tree", 1)]) (pi_list (pv 0)) (blkOk_by (N := ["trees", "tree"]) (sc := defScope (top 59)) (by decide +kernel)) (fun _ _ _ _ _ => (pg_name (i := 1) nd rfl (Or.inl rfl))) (fun _ _ _ _ _ => pts_nil) (fun _ _ _ _ _ => (pe_fldK (K := K) rfl (pv 1) rfl))) pa_nil)))), ?_⟩
    refine ⟨_, rfl, l, rfl, ⟨_, SqL.of hl⟩, fun D hD => lcL (ys := nv ((tv ks).map fun x => Fm.sizeOf x.1)) hD (SqL.of hl) (by rw [nv_len, List.length_map, tv_len, rv_len]) (line600 (by rw [rv_len]; exact l6)) (fun _ => rfl) (fun i x y H' hx hy sm R hR => ?_) fun H1 h1 s1 => ?_⟩
    · obtain ⟨j, hj, rfl⟩ := rv_get hx
      obtain ⟨y', hy', rfl⟩ := nv_get hy
      obtain rfl := kid_get hj hy'
      obtain ⟨_, dx', c', i', v', h'⟩ := (hN j (List.mem_of_getElem? hj)).has
      exact ⟨_, rfl, j.1, _, dx', _, _, rfl, sm _ _ h', o.clT, o.n_size, rfl, hR H' same_refl⟩
    refine ⟨_, _, rfl, SqL.of (by rw [← nv_ints]; exact h1), qi (k H1 s1) ?_⟩
    rw [sum_ints, sizesOf_sum]
theorem sc_has_room : FnScope ["trees", "tree"] ["trees"] (defScope (top 60)) := ⟨rfl, rfl, rfl, by decide +kernel, rfl, by decide +kernel, by decide +kernel⟩
theorem ok_has_room (g : Glo K mg aM aW aR) (o : Ob K cT cH) (G : Gf K mg "has_room" (top 60)) (c_size_together : Cal P w K mg base 1 "size_together" ["trees"] (spSz cT)) : Cal P w K mg base 2 "has_room" ["trees"] (spRoom cT) := by
  have nd := sc_has_room.nd
  refine cal_of G (fun _ _ _ _ _ _ us hl => match us, hl with | [_], _ => rfl) sc_has_room (fun vs H Q E h => ?_) (fun f cdv A outer s H vs Q E hr h => ?_)
  · obtain ⟨l, ks, Ex, rfl, hl, l6, hN, k⟩ := h
    rfl
  · obtain ⟨l, ks, Ex, rfl, hl, l6, hN, k⟩ := h
    have hu := hu_of hr
    have hu64 := hr.units
    refine ⟨_, (pss_cons (ps_if (PW.pt (pw_or (pt_cmpR op_gt (pe_callB call_len_seq rfl g.b_len PySem.boot_len (pa_cons (pv 0) pa_nil)) (pe_gi g.c_MOST_TREES rfl) (nomark _)) (pw_or1 (pt_cmpR op_gt (pe_cal c_size_together hr rfl (pa_cons (pv 0) pa_nil)) (pe_gi g.c_MOST_SIZE rfl) (nomark _))))) (pss_one (ps_ret pe_bl)) pss_nil)
      (pss_one (ps_ret (pe_callB (cr_all rfl) rfl g.b_all bo_all (pa_cons (pe_lc rfl nd (own := [("tree", 1)]) (pi_list (pv 0)) (blkOk_by (N := ["trees", "tree"]) (sc := defScope (top 60)) (by decide +kernel)) (fun _ _ _ _ _ => (pg_name (i := 1) nd rfl (Or.inl rfl))) (fun _ _ _ _ _ => pts_nil) (fun _ _ _ _ _ => (pe_cmpR op_le (pe_fldK (K := K) rfl (pv 1) rfl) (pe_gi g.c_DEEPEST rfl) (nomark _)))) pa_nil))))), ?_⟩
    refine ⟨_, rfl, l, _, rfl, .inl (SqL.of hl), _, _, rfl, rfl, _, rfl, ite2 (fun e1 => ?_) fun e1 => ?_⟩
    · refine iteT ?_
      have : ¬ ks.length ≤ 16 := by have := of_decide_eq_true e1; rw [rv_len] at this; omega
      refine qb (k H same_refl) ?_
      unfold fits
      rw [tv_len, decide_eq_false this]
      rfl
    have h16 : ks.length ≤ 16 := by
      have : ¬ (16 : Int) < (((rv ks).length : Nat) : Int) := fun q => e1 (decide_eq_true q)
      rw [rv_len] at this
      omega
    refine ⟨_, rfl, l, ks, Ex, rfl, hl, l6, hN, fun H1 s1 => ⟨_, _, rfl, rfl, _, rfl, ite2 (fun e2 => ?_) fun e2 => ?_⟩⟩
    · have : ¬ FmDesk.sizesOf (tv ks) ≤ 504 := by have := of_decide_eq_true e2; omega
      refine qb (k H1 s1) ?_
      unfold fits
      rw [decide_eq_false this, Bool.false_and, Bool.and_false]
    have h504 : FmDesk.sizesOf (tv ks) ≤ 504 := by
      have : ¬ (504 : Int) < ((FmDesk.sizesOf (tv ks) : Nat) : Int) := fun q => e2 (decide_eq_true q)
      omega
    refine ⟨_, rfl, l, rfl, ⟨_, SqL.of (s1 _ _ hl)⟩, fun D hD => lcL (ys := ((tv ks).map fun x => decide (x.2 ≤ 8)).map V.bl) hD (SqL.of (s1 _ _ hl)) (by rw [bls_len, List.length_map, tv_len, rv_len]) (line600 (by rw [rv_len]; exact l6)) (fun _ => rfl) (fun i x y H' hx hy sm R hR => ?_) fun H2 h2 s2 => ?_⟩
    · obtain ⟨j, hj, rfl⟩ := rv_get hx
      have e : y = V.bl (decide (j.2.2 ≤ 8)) := map_get (f := V.bl) (x := decide (j.2.2 ≤ 8)) (map_gets (f := fun x : Fm.Tree × Nat => decide (x.2 ≤ 8)) (x := j.2) (map_gets (f := fun k : Kid => k.2) hj)) hy
      subst e
      obtain ⟨_, dx', c', i', v', h'⟩ := (hN j (List.mem_of_getElem? hj)).has
      refine ⟨_, rfl, j.1, _, dx', _, _, rfl, sm _ _ (s1 _ _ h'), o.clT, o.n_depth, rfl, _, _, rfl, rfl, ?_⟩
      exact qb (hR H' same_refl) (dec8 _)
    refine ⟨_, _, rfl, SqL.of h2, qb (k H2 (s1.trans s2)) ?_⟩
    unfold fits
    rw [tv_len, decide_eq_true h16, decide_eq_true h504]
    rfl
theorem sc_row_answer : FnScope ["holder", "trees"] ["holder", "trees"] (defScope (top 61)) := ⟨rfl, rfl, rfl, by decide +kernel, rfl, by decide +kernel, by decide +kernel⟩
theorem ok_row_answer (g : Glo K mg aM aW aR) (o : Ob K cT cH) (G : Gf K mg "row_answer" (top 61)) (c_has_room : Cal P w K mg base 2 "has_room" ["trees"] (spRoom cT)) : Cal P w K mg base 3 "row_answer" ["holder", "trees"] (spRow cT cH) := by
  have nd := sc_row_answer.nd
  refine cal_of G (fun _ _ _ _ _ _ us hl => match us, hl with | [_, _], _ => rfl) sc_row_answer (fun vs H Q E h => ?_) (fun f cdv A outer s H vs Q E hr h => ?_)
  · obtain ⟨h, l, m, l0, ms, ks0, ks, Ex, rfl, r, ex, nl, hl, l6, hN, k⟩ := h
    rfl
  · obtain ⟨h, l, m, l0, ms, ks0, ks, Ex, rfl, r, ex, nl, hl, l6, hN, k⟩ := h
    have hu := hu_of hr
    have hu64 := hr.units
    refine ⟨_, (pss_cons (ps_if (pt_not (pt_val (pe_cal c_has_room hr rfl (pa_cons (pv 1) pa_nil)))) (pss_one (ps_ret (pe_lst (pa_cons (pe_un un_neg pe_int) pa_nil)))) pss_nil)
      (pss_cons (ps_fld (pv 0) (pv 1) rfl)
      (pss_one (ps_ret (pe_lst (pa_cons pe_int pa_nil)))))), ?_⟩
    obtain ⟨dx, hh⟩ := r.at_
    refine ⟨_, rfl, l, ks, _, rfl, hl, l6, hN, fun H1 s1 => ⟨_, rfl, ?_⟩⟩
    unfold rowTo at k
    cases ef : fits (tv ks)
    · refine iteT ?_
      rw [if_neg (by rw [ef]; simp)] at k
      exact ⟨_, rfl, (by show 1 ≤ sizeLine; decide), fun q hq => k.say r ex s1 hq rfl⟩
    refine iteF ?_
    rw [if_pos ef] at k
    refine ⟨_, rfl, _, rfl, h, _, dx, _, rfl, s1 _ _ hh, o.clH, o.n_trees, (by show 2 < 1000; decide), ?_⟩
    exact ⟨(by show 1 ≤ sizeLine; decide), fun q hq => k.row r ex s1 nl (s1 _ _ hl) (hN.same s1) hq rfl⟩
theorem sc_begin_answer : FnScope ["holder"] ["holder"] (defScope (top 62)) := ⟨rfl, rfl, rfl, by decide +kernel, rfl, by decide +kernel, by decide +kernel⟩
theorem ok_begin_answer (g : Glo K mg aM aW aR) (o : Ob K cT cH) (G : Gf K mg "begin_answer" (top 62)) : Cal P w K mg base 1 "begin_answer" ["holder"] (spBegin cT cH) := by
  have nd := sc_begin_answer.nd
  refine cal_of G (fun _ _ _ _ _ _ us hl => match us, hl with | [_], _ => rfl) sc_begin_answer (fun vs H Q E h => ?_) (fun f cdv A outer s H vs Q E hr h => ?_)
  · obtain ⟨h, m, l, ms, ks, Ex, rfl, r, ex, k⟩ := h
    rfl
  · obtain ⟨h, m, l, ms, ks, Ex, rfl, r, ex, k⟩ := h
    have hu := hu_of hr
    have hu64 := hr.units
    refine ⟨_, (pss_cons (ps_fld (pv 0) (pe_lst pa_nil) rfl)
      (pss_one (ps_ret (pe_lst (pa_cons pe_int pa_nil))))), ?_⟩
    obtain ⟨dx, hh⟩ := r.at_
    refine ⟨(by decide), fun l2 hl2 => ?_⟩
    have s1 : Same H (upd H l2 (.lst [])) := same_upd same_refl hl2
    refine ⟨_, rfl, h, _, dx, _, rfl, s1 _ _ hh, o.clH, o.n_trees, (by show 2 < 1000; decide), ?_⟩
    exact ⟨(by show 1 ≤ sizeLine; decide), fun q hq => outS.row (ks2 := []) k r ex s1 (exIn_not ex hl2) upd_same (fun j hj => absurd hj (by simp)) hq rfl⟩
theorem sc_put_answer : FnScope ["holder", "tree"] ["holder", "tree"] (defScope (top 63)) := ⟨rfl, rfl, rfl, by decide +kernel, rfl, by decide +kernel, by decide +kernel⟩
theorem ok_put_answer (g : Glo K mg aM aW aR) (o : Ob K cT cH) (G : Gf K mg "put_answer" (top 63)) (c_row_answer : Cal P w K mg base 3 "row_answer" ["holder", "trees"] (spRow cT cH)) : Cal P w K mg base 4 "put_answer" ["holder", "tree"] (spPut cT cH) := by
  have nd := sc_put_answer.nd
  refine cal_of G (fun _ _ _ _ _ _ us hl => match us, hl with | [_, _], _ => rfl) sc_put_answer (fun vs H Q E h => ?_) (fun f cdv A outer s H vs Q E hr h => ?_)
  · obtain ⟨h, t, m, l, ms, ks, x, Ex, rfl, r, ex, l16, hN, k⟩ := h
    rfl
  · obtain ⟨h, t, m, l, ms, ks, x, Ex, rfl, r, ex, l16, hN, k⟩ := h
    have hu := hu_of hr
    have hu64 := hr.units
    refine ⟨_, (pss_one (ps_ret (pe_cal c_row_answer hr rfl (pa_cons (pv 0) (pa_cons (pe_op op_cat (pe_fld (pv 0) rfl) (pe_lst (pa_cons (pv 1) pa_nil))) pa_nil))))), ?_⟩
    obtain ⟨dx, hh⟩ := r.at_
    refine ⟨_, rfl, _, rfl, h, _, dx, _, _, rfl, hh, o.clH, o.n_trees, rfl, _, rfl, (by show 1 ≤ sizeLine; decide), fun c hc => ?_⟩
    have s1 : Same H (upd H c (.lst [.ref t])) := same_upd same_refl hc
    refine ⟨l, c, _, _, rfl, rfl, s1 _ _ r.hl, upd_same, ?_, fun l2 hl2 => ?_⟩
    · rw [rv_len]
      exact le_line (by show _ + 1 ≤ 10000; omega)
    have s2 : Same (upd H c (.lst [.ref t])) (upd (upd H c (.lst [.ref t])) l2 (.lst (rv ks ++ [.ref t]))) := same_upd same_refl hl2
    have s12 := s1.trans s2
    refine ⟨h, l2, m, l, ms, ks, ks ++ [(t, x)], Ex, rfl, r.same s12, exIn_same ex s12, exIn_not ex (s1.free hl2), ?_, ?_, (r.nd.same s12).app (Nds.one (hN.same s12)), ?_⟩
    · rw [upd_same, rv_snoc]
    · rw [List.length_append]
      show _ + 1 ≤ 600
      omega
    · rw [tv_snoc]
      exact k.from s12
theorem sc_list_answer : FnScope ["holder", "k", "start"] ["holder", "k"] (defScope (top 64)) := ⟨rfl, rfl, rfl, by decide +kernel, rfl, by decide +kernel, by decide +kernel⟩
theorem ok_list_answer (g : Glo K mg aM aW aR) (o : Ob K cT cH) (G : Gf K mg "list_answer" (top 64)) (c_list_tree : Cal P w K mg base 5 "list_tree" ["inner"] (spLstT cT)) (c_row_answer : Cal P w K mg base 3 "row_answer" ["holder", "trees"] (spRow cT cH)) : Cal P w K mg base 6 "list_answer" ["holder", "k"] (spListA cT cH) := by
  have nd := sc_list_answer.nd
  refine cal_of G (fun _ _ _ _ _ _ us hl => match us, hl with | [_, _], _ => rfl) sc_list_answer (fun vs H Q E h => ?_) (fun f cdv A outer s H vs Q E hr h => ?_)
  · obtain ⟨h, m, l, ms, ks, z, n, Ex, rfl, rfl, r, ex, l16, k⟩ := h
    rfl
  · obtain ⟨h, m, l, ms, ks, z, n, Ex, rfl, rfl, r, ex, l16, k⟩ := h
    have hu := hu_of hr
    have hu64 := hr.units
    refine ⟨_, (pss_cons (ps_if (pt_cmpR op_gt (pv 1) (pe_callB call_len_seq rfl g.b_len PySem.boot_len (pa_cons (pe_fld (pv 0) rfl) pa_nil)) (nomark _)) (pss_one (ps_ret (pe_lst (pa_cons (pe_un un_neg pe_int) pa_nil)))) pss_nil)
      (pss_cons (ps_set (i := 2) nd rfl (Or.inl rfl) (pe_op op_sub (pe_callB call_len_seq rfl g.b_len PySem.boot_len (pa_cons (pe_fld (pv 0) rfl) pa_nil)) (pv 1)))
      (pss_one (ps_ret (pe_cal c_row_answer hr rfl (pa_cons (pv 0) (pa_cons (pe_op op_cat (pe_slice sl_list (pe_fld (pv 0) rfl) po_none (po_some (pv 2))) (pe_lst (pa_cons (pe_cal c_list_tree hr rfl (pa_cons (pe_slice sl_list (pe_fld (pv 0) rfl) (po_some (pv 2)) po_none) pa_nil)) pa_nil))) pa_nil))))))), ?_⟩
    obtain ⟨dx, hh⟩ := r.at_
    refine ⟨_, rfl, _, rfl, h, _, dx, _, _, rfl, hh, o.clH, o.n_trees, rfl, l, _, rfl, .inl (SqL.of r.hl), _, _, rfl, rfl, _, rfl, ite2 (fun e1 => ?_) fun e1 => ?_⟩
    · have hlt : ks.length < n := by have := of_decide_eq_true e1; rw [rv_len] at this; omega
      rw [if_pos hlt] at k
      exact ⟨_, rfl, (by show 1 ≤ sizeLine; decide), fun q hq => k.say r ex same_refl hq rfl⟩
    have hge : ¬ ks.length < n := fun q => e1 (decide_eq_true (by rw [rv_len]; omega))
    rw [if_neg hge] at k
    refine ⟨_, rfl, h, _, dx, _, _, rfl, hh, o.clH, o.n_trees, rfl, l, _, rfl, .inl (SqL.of r.hl), _, rfl, _, _, rfl, rfl, ?_⟩
    have es : (((rv ks).length : Nat) : Int) - ((n : Nat) : Int) = ((ks.length - n : Nat) : Int) := by rw [rv_len]; omega
    have es2 : V.int ((((rv ks).length : Nat) : Int) - ((n : Nat) : Int)) = V.int ((ks.length - n : Nat) : Int) := congrArg V.int es
    have exh := exIn_h ex hh
    refine ⟨_, rfl, _, rfl, h, _, dx, _, _, rfl, hh, o.clH, o.n_trees, rfl, _, rfl, _, rfl, l, _, rfl, SqL.of r.hl, fun a ha => ?_⟩
    rw [es, cut_hi, rv_take]
    have s1 : Same H (upd H a (.lst (rv (ks.take (ks.length - n))))) := same_upd same_refl ha
    refine ⟨_, rfl, h, _, dx, _, _, rfl, s1 _ _ hh, o.clH, o.n_trees, rfl, _, rfl, _, rfl, l, _, rfl, SqL.of (s1 _ _ r.hl), fun b hb => ?_⟩
    rw [es, cut_lo, rv_drop]
    have s2 : Same (upd H a (.lst (rv (ks.take (ks.length - n))))) (upd (upd H a (.lst (rv (ks.take (ks.length - n))))) b (.lst (rv (ks.drop (ks.length - n))))) := same_upd same_refl hb
    have s12 := s1.trans s2
    have hdl : (ks.drop (ks.length - n)).length = n := by rw [List.length_drop]; omega
    refine ⟨b, ks.drop (ks.length - n), fun b => Ex b ∨ b = h, rfl, upd_same, by omega, exIn_not exh (s1.free hb), exIn_same exh s12, (r.nd.same s12).drop _, fun H3 t s3 n3 => ?_⟩
    rw [hdl] at n3
    have s13 := s12.trans s3
    refine ⟨(by show 1 ≤ sizeLine; decide), fun c hc => ?_⟩
    have s4 : Same H3 (upd H3 c (.lst [.ref t])) := same_upd same_refl hc
    refine ⟨a, c, _, _, rfl, rfl, s4 _ _ (s3 _ _ (s2 _ _ upd_same)), upd_same, ?_, fun l2 hl2 => ?_⟩
    · rw [rv_len, List.length_take]
      exact le_line (by show _ + 1 ≤ 10000; omega)
    have s5 : Same (upd H3 c (.lst [.ref t])) (upd (upd H3 c (.lst [.ref t])) l2 (.lst (rv (ks.take (ks.length - n)) ++ [.ref t]))) := same_upd same_refl hl2
    have s15 := (s13.trans s4).trans s5
    refine ⟨h, l2, m, l, ms, ks, ks.take (ks.length - n) ++ [(t, over (.list n) (tv (ks.drop (ks.length - n))))], Ex, rfl, r.same s15, exIn_same ex s15, exIn_not ex ((s13.trans s4).free hl2), ?_, ?_, ((r.nd.same s15).take _).app (Nds.one (n3.same (s4.trans s5))), ?_⟩
    · rw [upd_same, rv_snoc]
    · rw [List.length_append, List.length_take]
      show _ + 1 ≤ 600
      omega
    · rw [tv_snoc]
      exact k.from s15
theorem sc_record_answer : FnScope ["holder", "keys", "start"] ["holder", "keys"] (defScope (top 65)) := ⟨rfl, rfl, rfl, by decide +kernel, rfl, by decide +kernel, by decide +kernel⟩
theorem ok_record_answer (g : Glo K mg aM aW aR) (o : Ob K cT cH) (G : Gf K mg "record_answer" (top 65)) (c_keys_rise : Cal P w K mg base 1 "keys_rise" ["keys"] (spRise K)) (c_record_tree : Cal P w K mg base 5 "record_tree" ["keys", "inner"] (spRcdT cT)) (c_row_answer : Cal P w K mg base 3 "row_answer" ["holder", "trees"] (spRow cT cH)) : Cal P w K mg base 6 "record_answer" ["holder", "keys"] (spRecA cT cH) := by
  have nd := sc_record_answer.nd
  refine cal_of G (fun _ _ _ _ _ _ us hl => match us, hl with | [_, _], _ => rfl) sc_record_answer (fun vs H Q E h => ?_) (fun f cdv A outer s H vs Q E hr h => ?_)
  · obtain ⟨h, rw_, m, l, ms, ks, keys, Ex, rfl, r, ex, l16, hrw, nrw, k6, kb, k⟩ := h
    rfl
  · obtain ⟨h, rw_, m, l, ms, ks, keys, Ex, rfl, r, ex, l16, hrw, nrw, k6, kb, k⟩ := h
    have hu := hu_of hr
    have hu64 := hr.units
    refine ⟨_, (pss_cons (ps_if (PW.pt (pw_or (pt_cmpR op_gt (pe_callB call_len_seq rfl g.b_len PySem.boot_len (pa_cons (pv 1) pa_nil)) (pe_callB call_len_seq rfl g.b_len PySem.boot_len (pa_cons (pe_fld (pv 0) rfl) pa_nil)) (nomark _)) (pw_or1 (pt_not (pt_val (pe_cal c_keys_rise hr rfl (pa_cons (pv 1) pa_nil))))))) (pss_one (ps_ret (pe_lst (pa_cons (pe_un un_neg pe_int) pa_nil)))) pss_nil)
      (pss_cons (ps_set (i := 2) nd rfl (Or.inl rfl) (pe_op op_sub (pe_callB call_len_seq rfl g.b_len PySem.boot_len (pa_cons (pe_fld (pv 0) rfl) pa_nil)) (pe_callB call_len_seq rfl g.b_len PySem.boot_len (pa_cons (pv 1) pa_nil))))
      (pss_one (ps_ret (pe_cal c_row_answer hr rfl (pa_cons (pv 0) (pa_cons (pe_op op_cat (pe_slice sl_list (pe_fld (pv 0) rfl) po_none (po_some (pv 2))) (pe_lst (pa_cons (pe_cal c_record_tree hr rfl (pa_cons (pv 1) (pa_cons (pe_slice sl_list (pe_fld (pv 0) rfl) (po_some (pv 2)) po_none) pa_nil))) pa_nil))) pa_nil))))))), ?_⟩
    obtain ⟨dx, hh⟩ := r.at_
    refine ⟨_, rfl, rw_, _, rfl, .inl (SqL.of hrw), _, rfl, h, _, dx, _, _, rfl, hh, o.clH, o.n_trees, rfl, l, _, rfl, .inl (SqL.of r.hl), _, _, rfl, rfl, _, rfl, ite2 (fun e1 => ?_) fun e1 => ?_⟩
    · have hlt : ks.length < keys.length := by have := of_decide_eq_true e1; rw [rv_len, nv_len] at this; omega
      rw [if_pos (Or.inl hlt)] at k
      exact iteT ⟨_, rfl, (by show 1 ≤ sizeLine; decide), fun q hq => k.say r ex same_refl hq rfl⟩
    have hge : ¬ ks.length < keys.length := fun q => e1 (decide_eq_true (by rw [rv_len, nv_len]; omega))
    refine ⟨_, rfl, rw_, keys, rfl, SqL.of hrw, k6, fun H0 s0 => ⟨_, rfl, ?_⟩⟩
    cases er : rising keys
    · rw [if_pos (Or.inr er)] at k
      exact iteT ⟨_, rfl, (by show 1 ≤ sizeLine; decide), fun q hq => k.say r ex s0 hq rfl⟩
    rw [if_neg (fun z => z.elim hge (by rw [er]; simp))] at k
    refine iteF ?_
    have r0 := r.same s0
    have ex0 := exIn_same ex s0
    have k0 := k.from s0
    have hh0 := s0 _ _ hh
    have hrw0 := s0 _ _ hrw
    refine ⟨_, rfl, h, _, dx, _, _, rfl, hh0, o.clH, o.n_trees, rfl, l, _, rfl, .inl (SqL.of r0.hl), _, rfl, rw_, _, rfl, .inl (SqL.of hrw0), _, _, rfl, rfl, ?_⟩
    have es : (((rv ks).length : Nat) : Int) - (((nv keys).length : Nat) : Int) = ((ks.length - keys.length : Nat) : Int) := by rw [rv_len, nv_len]; omega
    have exh := exIn_h ex0 hh0
    refine ⟨_, rfl, _, rfl, h, _, dx, _, _, rfl, hh0, o.clH, o.n_trees, rfl, _, rfl, _, rfl, l, _, rfl, SqL.of r0.hl, fun a ha => ?_⟩
    rw [es, cut_hi, rv_take]
    have s1 : Same H0 (upd H0 a (.lst (rv (ks.take (ks.length - keys.length))))) := same_upd same_refl ha
    refine ⟨_, rfl, _, rfl, h, _, dx, _, _, rfl, s1 _ _ hh0, o.clH, o.n_trees, rfl, _, rfl, _, rfl, l, _, rfl, SqL.of (s1 _ _ r0.hl), fun b hb => ?_⟩
    rw [es, cut_lo, rv_drop]
    have s2 : Same (upd H0 a (.lst (rv (ks.take (ks.length - keys.length))))) (upd (upd H0 a (.lst (rv (ks.take (ks.length - keys.length))))) b (.lst (rv (ks.drop (ks.length - keys.length))))) := same_upd same_refl hb
    have s12 := s1.trans s2
    have hdl : (ks.drop (ks.length - keys.length)).length = keys.length := by rw [List.length_drop]; omega
    have nrh : rw_ ≠ h := fun z => by rw [z, hh] at hrw; cases hrw
    refine ⟨rw_, b, keys, ks.drop (ks.length - keys.length), fun b => Ex b ∨ b = h, rfl, s12 _ _ hrw0, upd_same, hdl, k6, kb, (fun z => z.elim nrw nrh), exIn_not exh (s1.free hb), exIn_same exh s12, (r0.nd.same s12).drop _, fun H3 t s3 n3 => ?_⟩
    have s13 := s12.trans s3
    refine ⟨(by show 1 ≤ sizeLine; decide), fun c hc => ?_⟩
    have s4 : Same H3 (upd H3 c (.lst [.ref t])) := same_upd same_refl hc
    refine ⟨a, c, _, _, rfl, rfl, s4 _ _ (s3 _ _ (s2 _ _ upd_same)), upd_same, ?_, fun l2 hl2 => ?_⟩
    · rw [rv_len, List.length_take]
      exact le_line (by show _ + 1 ≤ 10000; omega)
    have s5 : Same (upd H3 c (.lst [.ref t])) (upd (upd H3 c (.lst [.ref t])) l2 (.lst (rv (ks.take (ks.length - keys.length)) ++ [.ref t]))) := same_upd same_refl hl2
    have s15 := (s13.trans s4).trans s5
    refine ⟨h, l2, m, l, ms, ks, ks.take (ks.length - keys.length) ++ [(t, over (.record keys) (tv (ks.drop (ks.length - keys.length))))], Ex, rfl, r0.same s15, exIn_same ex0 s15, exIn_not ex0 ((s13.trans s4).free hl2), ?_, ?_, ((r0.nd.same s15).take _).app (Nds.one (n3.same (s4.trans s5))), ?_⟩
    · rw [upd_same, rv_snoc]
    · rw [List.length_append, List.length_take]
      show _ + 1 ≤ 600
      omega
    · rw [tv_snoc]
      exact k0.from s15
theorem sc_copy_answer : FnScope ["holder", "at", "tree"] ["holder", "at"] (defScope (top 66)) := ⟨rfl, rfl, rfl, by decide +kernel, rfl, by decide +kernel, by decide +kernel⟩
theorem ok_copy_answer (g : Glo K mg aM aW aR) (o : Ob K cT cH) (G : Gf K mg "copy_answer" (top 66)) (c_put_answer : Cal P w K mg base 4 "put_answer" ["holder", "tree"] (spPut cT cH)) (c_whole_at : Cal P w K mg base 8 "whole_at" ["data", "at"] (spWhole K cT)) : Cal P w K mg base 9 "copy_answer" ["holder", "at"] (spCopyA cT cH) := by
  have nd := sc_copy_answer.nd
  refine cal_of G (fun _ _ _ _ _ _ us hl => match us, hl with | [_, _], _ => rfl) sc_copy_answer (fun vs H Q E h => ?_) (fun f cdv A outer s H vs Q E hr h => ?_)
  · obtain ⟨h, m, l, ms, ks, z, p, Ex, rfl, rfl, r, ex, ms6, l16, k⟩ := h
    rfl
  · obtain ⟨h, m, l, ms, ks, z, p, Ex, rfl, rfl, r, ex, ms6, l16, k⟩ := h
    have hu := hu_of hr
    have hu64 := hr.units
    refine ⟨_, (pss_cons (ps_set (i := 2) nd rfl (Or.inl rfl) (pe_cal c_whole_at hr rfl (pa_cons (pe_fld (pv 0) rfl) (pa_cons (pv 1) pa_nil))))
      (pss_cons (ps_if (pt_cmp (pc_isN (pv 2))) (pss_one (ps_ret (pe_lst (pa_cons (pe_un un_neg pe_int) pa_nil)))) pss_nil)
      (pss_one (ps_ret (pe_cal c_put_answer hr rfl (pa_cons (pv 0) (pa_cons (pv 2) pa_nil))))))), ?_⟩
    obtain ⟨dx, hh⟩ := r.at_
    refine ⟨_, rfl, h, _, dx, _, _, rfl, hh, o.clH, o.n_data, rfl, _, rfl, m, ms, _, p, fun b => Ex b ∨ b = h, rfl, rfl, SqL.of r.hm, ms6, exIn_h ex hh, ?_⟩
    cases ew : tale ms p with
    | none =>
      rw [ew] at k
      refine fun H1 s1 => ⟨_, rfl, _, rfl, iteT ?_⟩
      exact ⟨_, rfl, (by show 1 ≤ sizeLine; decide), fun q hq => k.say r ex s1 hq rfl⟩
    | some x =>
      rw [ew] at k
      refine fun H1 t s1 n1 => ⟨_, rfl, _, rfl, iteF ?_⟩
      exact ⟨_, rfl, _, rfl, h, t, m, l, ms, ks, x, Ex, rfl, r.same s1, exIn_same ex s1, l16, n1, k.from s1⟩
theorem sc_sizes_answer : FnScope ["holder"] ["holder"] (defScope (top 67)) := ⟨rfl, rfl, rfl, by decide +kernel, rfl, by decide +kernel, by decide +kernel⟩
theorem ok_sizes_answer (g : Glo K mg aM aW aR) (o : Ob K cT cH) (G : Gf K mg "sizes_answer" (top 67)) (c_size_together : Cal P w K mg base 1 "size_together" ["trees"] (spSz cT)) : Cal P w K mg base 2 "sizes_answer" ["holder"] (spSizesA cT cH) := by
  have nd := sc_sizes_answer.nd
  refine cal_of G (fun _ _ _ _ _ _ us hl => match us, hl with | [_], _ => rfl) sc_sizes_answer (fun vs H Q E h => ?_) (fun f cdv A outer s H vs Q E hr h => ?_)
  · obtain ⟨h, m, l, ms, ks, Ex, rfl, r, ex, l16, k⟩ := h
    rfl
  · obtain ⟨h, m, l, ms, ks, Ex, rfl, r, ex, l16, k⟩ := h
    have hu := hu_of hr
    have hu64 := hr.units
    refine ⟨_, (pss_one (ps_ret (pe_lst (pa_cons (pe_callB call_len_seq rfl g.b_len PySem.boot_len (pa_cons (pe_fld (pv 0) rfl) pa_nil)) (pa_cons (pe_cal c_size_together hr rfl (pa_cons (pe_fld (pv 0) rfl) pa_nil)) pa_nil))))), ?_⟩
    obtain ⟨dx, hh⟩ := r.at_
    refine ⟨_, rfl, h, _, dx, _, _, rfl, hh, o.clH, o.n_trees, rfl, l, _, rfl, .inl (SqL.of r.hl), _, rfl, h, _, dx, _, _, rfl, hh, o.clH, o.n_trees, rfl, l, ks, _, rfl, r.hl, by omega, r.nd, fun H1 s1 => ⟨(by show 2 ≤ sizeLine; decide), fun q hq => k.say r ex s1 hq ?_⟩⟩
    rw [rv_len]
    rfl
theorem sc_finish_answer : FnScope ["holder", "data"] ["holder"] (defScope (top 68)) := ⟨rfl, rfl, rfl, by decide +kernel, rfl, by decide +kernel, by decide +kernel⟩
theorem ok_finish_answer (g : Glo K mg aM aW aR) (o : Ob K cT cH) (G : Gf K mg "finish_answer" (top 68)) (c_message_of : Cal P w K mg base 5 "message_of" ["tree"] (spMsg cT)) : Cal P w K mg base 6 "finish_answer" ["holder"] (spFin cT cH) := by
  have nd := sc_finish_answer.nd
  refine cal_of G (fun _ _ _ _ _ _ us hl => match us, hl with | [_], _ => rfl) sc_finish_answer (fun vs H Q E h => ?_) (fun f cdv A outer s H vs Q E hr h => ?_)
  · obtain ⟨h, m, l, ms, ks, Ex, rfl, r, ex, room, k⟩ := h
    rfl
  · obtain ⟨h, m, l, ms, ks, Ex, rfl, r, ex, room, k⟩ := h
    have hu := hu_of hr
    have hu64 := hr.units
    refine ⟨_, (pss_cons (ps_if (pt_cmpR op_ne (pe_callB call_len_seq rfl g.b_len PySem.boot_len (pa_cons (pe_fld (pv 0) rfl) pa_nil)) pe_int (nomark _)) (pss_one (ps_ret (pe_lst (pa_cons (pe_un un_neg pe_int) pa_nil)))) pss_nil)
      (pss_cons (ps_set (i := 1) nd rfl (Or.inl rfl) (pe_cal c_message_of hr rfl (pa_cons (pe_ix ix_list (pe_fld (pv 0) rfl) pe_int (fun _ _ => rfl)) pa_nil)))
      (pss_one (ps_ret (pe_op op_cat (pe_lst (pa_cons (pe_callB call_len_seq rfl g.b_len PySem.boot_len (pa_cons (pv 1) pa_nil)) pa_nil)) (pv 1)))))), ?_⟩
    obtain ⟨dx, hh⟩ := r.at_
    refine ⟨_, rfl, h, _, dx, _, _, rfl, hh, o.clH, o.n_trees, rfl, l, _, rfl, .inl (SqL.of r.hl), rfl, _, rfl, ite2 (fun e1 => ?_) fun e1 => ?_⟩
    · have hne : ¬ ks.length = 1 := fun z => not_dec e1 (by rw [rv_len, z]; rfl)
      rw [none_of hne] at k
      exact ⟨_, rfl, (by show 1 ≤ sizeLine; decide), fun q hq => k.say r ex same_refl hq rfl⟩
    have he : ks.length = 1 := by
      have := V.int.inj (of_not_dec e1)
      rw [rv_len] at this
      omega
    obtain ⟨j, rfl⟩ := one_of he
    have hj := r.nd j (by simp)
    have hsz : Fm.sizeOf j.2.1 ≤ 504 := Nat.le_trans (sizesOf_mem (l := tv [j]) (by show j.2 ∈ [j.2]; simp)) room
    have hml := message_len hj.tr
    refine ⟨_, rfl, h, _, dx, _, _, rfl, hh, o.clH, o.n_trees, rfl, l, _, _, _, rfl, rfl, SqL.of r.hl, at_of (j := 0) rfl rfl, j.1, j.2, _, rfl, hj, hsz, fun H1 d nd1 hd s1 => ?_⟩
    refine ⟨_, rfl, d, _, rfl, .inl (SqL.of hd), (by show 1 ≤ sizeLine; decide), fun c hc => ?_⟩
    have s2 : Same H1 (upd H1 c (.lst [.int (((bv (message j.2.1)).length : Nat) : Int)])) := same_upd same_refl hc
    refine ⟨_, rfl, c, d, _, _, rfl, rfl, upd_same, s2 _ _ hd, ?_, fun q hq => outS.say k r ex (s1.trans s2) hq ?_⟩
    · rw [bv_len]
      exact le_line (by show 1 + _ ≤ 10000; omega)
    · rw [bv_len, bv_iv]
      rfl
theorem sc_adopt_answer : FnScope ["holder"] ["holder"] (defScope (top 69)) := ⟨rfl, rfl, rfl, by decide +kernel, rfl, by decide +kernel, by decide +kernel⟩
theorem ok_adopt_answer (g : Glo K mg aM aW aR) (o : Ob K cT cH) (G : Gf K mg "adopt_answer" (top 69)) (c_message_of : Cal P w K mg base 5 "message_of" ["tree"] (spMsg cT)) : Cal P w K mg base 6 "adopt_answer" ["holder"] (spAdo cT cH) := by
  have nd := sc_adopt_answer.nd
  refine cal_of G (fun _ _ _ _ _ _ us hl => match us, hl with | [_], _ => rfl) sc_adopt_answer (fun vs H Q E h => ?_) (fun f cdv A outer s H vs Q E hr h => ?_)
  · obtain ⟨h, m, l, ms, ks, Ex, rfl, r, ex, room, k⟩ := h
    rfl
  · obtain ⟨h, m, l, ms, ks, Ex, rfl, r, ex, room, k⟩ := h
    have hu := hu_of hr
    have hu64 := hr.units
    refine ⟨_, (pss_cons (ps_if (pt_cmpR op_ne (pe_callB call_len_seq rfl g.b_len PySem.boot_len (pa_cons (pe_fld (pv 0) rfl) pa_nil)) pe_int (nomark _)) (pss_one (ps_ret (pe_lst (pa_cons (pe_un un_neg pe_int) pa_nil)))) pss_nil)
      (pss_cons (ps_fld (pv 0) (pe_cal c_message_of hr rfl (pa_cons (pe_ix ix_list (pe_fld (pv 0) rfl) pe_int (fun _ _ => rfl)) pa_nil)) rfl)
      (pss_one (ps_ret (pe_lst (pa_cons pe_int pa_nil)))))), ?_⟩
    obtain ⟨dx, hh⟩ := r.at_
    refine ⟨_, rfl, h, _, dx, _, _, rfl, hh, o.clH, o.n_trees, rfl, l, _, rfl, .inl (SqL.of r.hl), rfl, _, rfl, ite2 (fun e1 => ?_) fun e1 => ?_⟩
    · have hne : ¬ ks.length = 1 := fun z => not_dec e1 (by rw [rv_len, z]; rfl)
      rw [none_of hne] at k
      exact ⟨_, rfl, (by show 1 ≤ sizeLine; decide), fun q hq => k.say r ex same_refl hq rfl⟩
    have he : ks.length = 1 := by
      have := V.int.inj (of_not_dec e1)
      rw [rv_len] at this
      omega
    obtain ⟨j, rfl⟩ := one_of he
    have hj := r.nd j (by simp)
    have hsz : Fm.sizeOf j.2.1 ≤ 504 := Nat.le_trans (sizesOf_mem (l := tv [j]) (by show j.2 ∈ [j.2]; simp)) room
    refine ⟨_, rfl, h, _, dx, _, _, rfl, hh, o.clH, o.n_trees, rfl, l, _, _, _, rfl, rfl, SqL.of r.hl, at_of (j := 0) rfl rfl, j.1, j.2, _, rfl, hj, hsz, fun H1 d nd1 hd s1 => ?_⟩
    refine ⟨_, rfl, h, _, dx, _, rfl, s1 _ _ hh, o.clH, o.n_data, (by show 2 < 1000; decide), ?_⟩
    exact ⟨(by show 1 ≤ sizeLine; decide), fun q hq => outS.msg (ms2 := message j.2.1) k r ex s1 (exIn_not ex nd1) hd hq rfl⟩
theorem sc_building_answer : FnScope ["holder", "call", "numbers", "row"] ["holder", "call", "numbers", "row"] (defScope (top 70)) := ⟨rfl, rfl, rfl, by decide +kernel, rfl, by decide +kernel, by decide +kernel⟩
theorem ok_building_answer (g : Glo K mg aM aW aR) (o : Ob K cT cH) (G : Gf K mg "building_answer" (top 70)) (c_adopt_answer : Cal P w K mg base 6 "adopt_answer" ["holder"] (spAdo cT cH)) (c_begin_answer : Cal P w K mg base 1 "begin_answer" ["holder"] (spBegin cT cH)) (c_bytes_tree : Cal P w K mg base 5 "bytes_tree" ["row"] (spBytT cT)) (c_copy_answer : Cal P w K mg base 9 "copy_answer" ["holder", "at"] (spCopyA cT cH)) (c_finish_answer : Cal P w K mg base 6 "finish_answer" ["holder"] (spFin cT cH)) (c_list_answer : Cal P w K mg base 6 "list_answer" ["holder", "k"] (spListA cT cH)) (c_number_tree : Cal P w K mg base 5 "number_tree" ["high", "low"] (spNumT cT)) (c_put_answer : Cal P w K mg base 4 "put_answer" ["holder", "tree"] (spPut cT cH)) (c_record_answer : Cal P w K mg base 6 "record_answer" ["holder", "keys"] (spRecA cT cH)) (c_sizes_answer : Cal P w K mg base 2 "sizes_answer" ["holder"] (spSizesA cT cH)) : Cal P w K mg base 10 "building_answer" ["holder", "call", "numbers", "row"] (spBuild cT cH) := by
  have nd := sc_building_answer.nd
  refine cal_of G (fun _ _ _ _ _ _ us hl => match us, hl with | [_, _, _, _], _ => rfl) sc_building_answer (fun vs H Q E h => ?_) (fun f cdv A outer s H vs Q E hr h => ?_)
  · obtain ⟨h, n, rr, p, xs, ys, C, s0, Ex, rfl, hC, h9, hn, hrr, nr, hg, hrep, ex, k⟩ := h
    rfl
  · obtain ⟨h, n, rr, p, xs, ys, C, s0, Ex, rfl, hC, h9, hn, hrr, nr, hg, hrep, ex, k⟩ := h
    have hu := hu_of hr
    have hu64 := hr.units
    refine ⟨_, (pss_cons (ps_if (pt_cmpR op_eq (pv 1) (pe_gi g.c_BEGIN rfl) (nomark _)) (pss_one (ps_ret (pe_cal c_begin_answer hr rfl (pa_cons (pv 0) pa_nil)))) pss_nil)
      (pss_cons (ps_if (pt_cmpR op_eq (pv 1) (pe_gi g.c_PUT_NUMBER rfl) (nomark _)) (pss_one (ps_ret (pe_cal c_put_answer hr rfl (pa_cons (pv 0) (pa_cons (pe_cal c_number_tree hr rfl (pa_cons (pe_ix ix_list (pv 2) pe_int (fun _ _ => rfl)) (pa_cons (pe_ix ix_list (pv 2) pe_int (fun _ _ => rfl)) pa_nil))) pa_nil))))) pss_nil)
      (pss_cons (ps_if (pt_cmpR op_eq (pv 1) (pe_gi g.c_PUT_BYTES rfl) (nomark _)) (pss_one (ps_ret (pe_cal c_put_answer hr rfl (pa_cons (pv 0) (pa_cons (pe_cal c_bytes_tree hr rfl (pa_cons (pv 3) pa_nil)) pa_nil))))) pss_nil)
      (pss_cons (ps_if (pt_cmpR op_eq (pv 1) (pe_gi g.c_LIST_CALL rfl) (nomark _)) (pss_one (ps_ret (pe_cal c_list_answer hr rfl (pa_cons (pv 0) (pa_cons (pe_ix ix_list (pv 2) pe_int (fun _ _ => rfl)) pa_nil))))) pss_nil)
      (pss_cons (ps_if (pt_cmpR op_eq (pv 1) (pe_gi g.c_RECORD_CALL rfl) (nomark _)) (pss_one (ps_ret (pe_cal c_record_answer hr rfl (pa_cons (pv 0) (pa_cons (pv 3) pa_nil))))) pss_nil)
      (pss_cons (ps_if (pt_cmpR op_eq (pv 1) (pe_gi g.c_COPY rfl) (nomark _)) (pss_one (ps_ret (pe_cal c_copy_answer hr rfl (pa_cons (pv 0) (pa_cons (pe_ix ix_list (pv 2) pe_int (fun _ _ => rfl)) pa_nil))))) pss_nil)
      (pss_cons (ps_if (pt_cmpR op_eq (pv 1) (pe_gi g.c_SIZES rfl) (nomark _)) (pss_one (ps_ret (pe_cal c_sizes_answer hr rfl (pa_cons (pv 0) pa_nil)))) pss_nil)
      (pss_cons (ps_if (pt_cmpR op_eq (pv 1) (pe_gi g.c_FINISH rfl) (nomark _)) (pss_one (ps_ret (pe_cal c_finish_answer hr rfl (pa_cons (pv 0) pa_nil)))) pss_nil)
      (pss_one (ps_ret (pe_cal c_adopt_answer hr rfl (pa_cons (pv 0) pa_nil)))))))))))), ?_⟩
    obtain ⟨m, l, ks, r, et⟩ := hrep
    have l16 : ks.length ≤ 16 := by have := hg.few; rw [← et, tv_len] at this; exact this
    have room : FmDesk.sizesOf (tv ks) ≤ 504 := by rw [et]; exact hg.room
    have hmem : ∀ {P : FmDesk.State × List Int}, ((FmDesk.step s0 C).1, FlatNeutral.told (FmDesk.step s0 C).2) = P → outS cT cH Ex H h P Q := fun e => by rw [← e]; exact k
    refine ⟨_, rfl, rfl, _, rfl, ite2 (fun e1 => ?_) fun e1 => ?_⟩
    · have e := V.int.inj (of_decide_eq_true e1)
      subst e
      cases hC
      exact ⟨_, rfl, h, m, l, _, ks, Ex, rfl, r, ex, k⟩
    refine ⟨_, rfl, rfl, _, rfl, ite2 (fun e2 => ?_) fun e2 => ?_⟩
    · have e := V.int.inj (of_decide_eq_true e2)
      subst e
      cases hC with
      | putNumber a b ha hb =>
        have exh := exIn_h ex r.at_.choose_spec
        refine ⟨_, rfl, _, rfl, n, _, _, _, rfl, rfl, SqL.of hn, at_of (j := 0) rfl rfl, _, rfl, n, _, _, _, rfl, rfl, SqL.of hn, at_of (j := 1) rfl rfl, _, _, a, b, fun b => Ex b ∨ b = h, rfl, rfl, rfl, ha, hb, exh, fun H1 t s1 n1 => ?_⟩
        refine ⟨h, t, m, l, _, ks, _, Ex, rfl, r.same s1, exIn_same ex s1, l16, n1, ?_⟩
        refine (hmem ?_).from s1
        show ((FmDesk.put s0 0 (over (.number (a * 4294967296 + b)) [])).1, FlatNeutral.told (FmDesk.put s0 0 (over (.number (a * 4294967296 + b)) [])).2) = _
        rw [put_row hg, Nat.sub_zero, List.take_length, et]
    refine ⟨_, rfl, rfl, _, rfl, ite2 (fun e3 => ?_) fun e3 => ?_⟩
    · have e := V.int.inj (of_decide_eq_true e3)
      subst e
      cases hC with
      | putBytes b hb =>
        have exh := exIn_h ex r.at_.choose_spec
        have nrh : rr ≠ h := fun z => by have := r.at_.choose_spec; rw [z, this] at hrr; cases hrr
        refine ⟨_, rfl, _, rfl, rr, b, fun b => Ex b ∨ b = h, rfl, by rw [bv_iv]; exact hrr, hb, (fun z => z.elim nr nrh), exh, fun H1 t s1 n1 => ?_⟩
        refine ⟨h, t, m, l, _, ks, _, Ex, rfl, r.same s1, exIn_same ex s1, l16, n1, ?_⟩
        refine (hmem ?_).from s1
        show ((FmDesk.put s0 0 (over (.bytes b) [])).1, FlatNeutral.told (FmDesk.put s0 0 (over (.bytes b) [])).2) = _
        rw [put_row hg, Nat.sub_zero, List.take_length, et]
    refine ⟨_, rfl, rfl, _, rfl, ite2 (fun e4 => ?_) fun e4 => ?_⟩
    · have e := V.int.inj (of_decide_eq_true e4)
      subst e
      cases hC with
      | list q hq =>
        refine ⟨_, rfl, _, rfl, n, _, _, _, rfl, rfl, SqL.of hn, at_of (j := 0) rfl rfl, h, m, l, _, ks, _, q, Ex, rfl, rfl, r, ex, l16, hmem ?_⟩
        show ((if s0.trees.length < q then (s0, FmDesk.says_ (-1)) else FmDesk.put s0 q (over (.list q) (FmDesk.lastOf s0 q))).1, FlatNeutral.told (if s0.trees.length < q then (s0, FmDesk.says_ (-1)) else FmDesk.put s0 q (over (.list q) (FmDesk.lastOf s0 q))).2) = _
        rw [tv_take, tv_drop, et, show ks.length = s0.trees.length by rw [← et, tv_len]]
        by_cases c : s0.trees.length < q
        · rw [if_pos c, if_pos c]; rfl
        · rw [if_neg c, if_neg c, put_row hg]; rfl
    refine ⟨_, rfl, rfl, _, rfl, ite2 (fun e5 => ?_) fun e5 => ?_⟩
    · have e := V.int.inj (of_decide_eq_true e5)
      subst e
      cases hC with
      | record q hq hb =>
        refine ⟨_, rfl, _, rfl, h, rr, m, l, _, ks, q, Ex, rfl, r, ex, l16, by rw [nv_ints]; exact hrr, nr, hq, hb, hmem ?_⟩
        show ((if s0.trees.length < q.length ∨ rising q = false then (s0, FmDesk.says_ (-1)) else FmDesk.put s0 q.length (over (.record q) (FmDesk.lastOf s0 q.length))).1, FlatNeutral.told (if s0.trees.length < q.length ∨ rising q = false then (s0, FmDesk.says_ (-1)) else FmDesk.put s0 q.length (over (.record q) (FmDesk.lastOf s0 q.length))).2) = _
        rw [tv_take, tv_drop, et, show ks.length = s0.trees.length by rw [← et, tv_len]]
        by_cases c : s0.trees.length < q.length ∨ rising q = false
        · rw [if_pos c, if_pos c]; rfl
        · rw [if_neg c, if_neg c, put_row hg]; rfl
    refine ⟨_, rfl, rfl, _, rfl, ite2 (fun e6 => ?_) fun e6 => ?_⟩
    · have e := V.int.inj (of_decide_eq_true e6)
      subst e
      cases hC with
      | copy q hq =>
        refine ⟨_, rfl, _, rfl, n, _, _, _, rfl, rfl, SqL.of hn, at_of (j := 0) rfl rfl, h, m, l, _, ks, _, q, Ex, rfl, rfl, r, ex, hg.msg, l16, hmem ?_⟩
        rw [copy_row hg, et]
        all_goals (cases tale s0.message q <;> rfl)
    refine ⟨_, rfl, rfl, _, rfl, ite2 (fun e7 => ?_) fun e7 => ?_⟩
    · have e := V.int.inj (of_decide_eq_true e7)
      subst e
      cases hC
      refine ⟨_, rfl, h, m, l, _, ks, Ex, rfl, r, ex, l16, hmem ?_⟩
      rw [et, show ks.length = s0.trees.length by rw [← et, tv_len]]
      rfl
    refine ⟨_, rfl, rfl, _, rfl, ite2 (fun e8 => ?_) fun e8 => ?_⟩
    · have e := V.int.inj (of_decide_eq_true e8)
      subst e
      cases hC
      refine ⟨_, rfl, h, m, l, _, ks, Ex, rfl, r, ex, room, hmem ?_⟩
      rw [finish_row, et]
      all_goals (cases oneOf s0.trees <;> rfl)
    have hno : ∀ {a : Int}, ¬ decide (V.int p = V.int a) = true → p ≠ a := fun z e => z (by rw [e]; exact decide_eq_true rfl)
    cases hC with
    | adopt =>
      refine ⟨_, rfl, h, m, l, _, ks, Ex, rfl, r, ex, room, hmem ?_⟩
      rw [adopt_row, et]
      all_goals (cases oneOf s0.trees <;> rfl)
    | load m h => exact absurd h9 (by decide)
    | check => exact absurd h9 (by decide)
    | kind o h => exact absurd h9 (by decide)
    | number o h => exact absurd h9 (by decide)
    | bytes o h => exact absurd h9 (by decide)
    | count o h => exact absurd h9 (by decide)
    | item o i h h2 => exact absurd h9 (by decide)
    | field o i h h2 => exact absurd h9 (by decide)
    | depth o h => exact absurd h9 (by decide)
    | begin_ => exact absurd rfl (hno e1)
    | putNumber a b h h2 => exact absurd rfl (hno e2)
    | putBytes b h => exact absurd rfl (hno e3)
    | list q h => exact absurd rfl (hno e4)
    | record q h h2 => exact absurd rfl (hno e5)
    | copy q h => exact absurd rfl (hno e6)
    | sizes => exact absurd rfl (hno e7)
    | finish => exact absurd rfl (hno e8)
theorem sc_initH : FnScope ["self"] ["self"] (defScope (inClass (top 92) 0)) := ⟨rfl, rfl, rfl, by decide +kernel, rfl, by decide +kernel, by decide +kernel⟩
theorem ok_initH (g : Glo K mg aM aW aR) (o : Ob K cT cH) {fi : Addr} {fd : FuncData} (G : Fun K "__init__" "Holder.__init__" (inClass (top 92) 0) fi fd) : FnOk P w K mg base CX0 1 fi fd ["self"] (spInit (HRep cT cH) cH) ∧ Binds K fd ["self"] [] := by
  have nd := sc_initH.nd
  refine init_of G (fun _ _ _ _ _ _ us hl => match us, hl with | [_], _ => rfl) sc_initH (fun vs H Q E h => ?_) (fun cdv A outer s H vs Q E hr h => ?_)
  · obtain ⟨p, dx, rfl, hp, hdx, k⟩ := h
    rfl
  · obtain ⟨p, dx, rfl, hp, hdx, k⟩ := h
    have hu := hu_of hr
    have hu64 := hr.units
    refine ⟨_, (pss_cons (ps_fld (pv 0) (pe_lst pa_nil) rfl)
      (pss_one (ps_fld (pv 0) (pe_lst pa_nil) rfl))), ?_⟩
    refine ⟨(by decide), fun m hm => ?_⟩
    have nmp : m ≠ p := fun z => by rw [z, hp] at hm; cases hm
    refine ⟨_, rfl, p, _, dx, _, rfl, (by rw [upd_ne (Ne.symm nmp)]; exact hp), o.clH, o.n_data, (by show 0 < 1000; decide), ?_⟩
    refine ⟨(by decide), fun l hl => ?_⟩
    have nlp : l ≠ p := fun z => by rw [z, upd_same] at hl; cases hl
    have hl1 : (upd H m (.lst [])) l = none := by rw [upd_ne nlp] at hl; exact hl
    have nlm : l ≠ m := fun z => by rw [z, upd_same] at hl1; cases hl1
    have hl0 : H l = none := by rw [upd_ne nlm] at hl1; exact hl1
    refine ⟨_, rfl, p, _, dx, _, rfl, (by rw [upd_ne (Ne.symm nlp)]; exact upd_same), o.clH, o.n_trees, (by show 1 < 1000; decide), ?_⟩
    refine k _ (fun Ex n1 n2 ex => ⟨m, l, [], ⟨n1, ⟨dx, upd_same⟩, exIn_not ex hm, ?_, exIn_not ex hl0, ?_, fun j hj => absurd hj (by simp)⟩, rfl⟩) fun b x e nb => ?_
    · rw [upd_ne nmp, upd_ne (Ne.symm nlm), upd_ne nmp, upd_same]
      rfl
    · rw [upd_ne nlp, upd_same]
      rfl
    · rw [upd_ne nb, upd_ne (ne_of_none e hl0), upd_ne nb, upd_ne (ne_of_none e hm)]
      exact e
theorem sc_load_answer : FnScope ["holder", "row"] ["holder", "row"] (defScope (top 93)) := ⟨rfl, rfl, rfl, by decide +kernel, rfl, by decide +kernel, by decide +kernel⟩
theorem ok_load_answer (g : Glo K mg aM aW aR) (o : Ob K cT cH) (G : Gf K mg "load_answer" (top 93)) : Cal P w K mg base 1 "load_answer" ["holder", "row"] (spLoad cT cH) := by
  have nd := sc_load_answer.nd
  refine cal_of G (fun _ _ _ _ _ _ us hl => match us, hl with | [_, _], _ => rfl) sc_load_answer (fun vs H Q E h => ?_) (fun f cdv A outer s H vs Q E hr h => ?_)
  · obtain ⟨h, rr, m, l, ms, b, ks, Ex, rfl, r, ex, hrr, nr, k⟩ := h
    rfl
  · obtain ⟨h, rr, m, l, ms, b, ks, Ex, rfl, r, ex, hrr, nr, k⟩ := h
    have hu := hu_of hr
    have hu64 := hr.units
    refine ⟨_, (pss_cons (ps_fld (pv 0) (pv 1) rfl)
      (pss_one (ps_ret (pe_lst (pa_cons pe_int pa_nil))))), ?_⟩
    obtain ⟨dx, hh⟩ := r.at_
    refine ⟨_, rfl, _, rfl, h, _, dx, _, rfl, hh, o.clH, o.n_data, (by show 2 < 1000; decide), ?_⟩
    exact ⟨(by show 1 ≤ sizeLine; decide), fun q hq => outS.msg (ms2 := b) k r ex same_refl nr hrr hq rfl⟩
theorem sc_call_answer : FnScope ["holder", "call", "numbers", "row"] ["holder", "call", "numbers", "row"] (defScope (top 94)) := ⟨rfl, rfl, rfl, by decide +kernel, rfl, by decide +kernel, by decide +kernel⟩
theorem ok_call_answer (g : Glo K mg aM aW aR) (o : Ob K cT cH) (G : Gf K mg "call_answer" (top 94)) (c_asking_answer : Cal P w K mg base 10 "asking_answer" ["data", "call", "numbers"] (spAsk K)) (c_building_answer : Cal P w K mg base 10 "building_answer" ["holder", "call", "numbers", "row"] (spBuild cT cH)) (c_load_answer : Cal P w K mg base 1 "load_answer" ["holder", "row"] (spLoad cT cH)) : Cal P w K mg base 11 "call_answer" ["holder", "call", "numbers", "row"] (spCall (HRep cT cH)) := by
  have nd := sc_call_answer.nd
  refine cal_of G (fun _ _ _ _ _ _ us hl => match us, hl with | [_, _, _, _], _ => rfl) sc_call_answer (fun vs H Q E h => ?_) (fun f cdv A outer s H vs Q E hr h => ?_)
  · obtain ⟨h, n, rr, p, xs, ys, C, s0, Ex, rfl, hC, hn, hrr, nn, nr, nnr, hg, hrep, ex, k⟩ := h
    rfl
  · obtain ⟨h, n, rr, p, xs, ys, C, s0, Ex, rfl, hC, hn, hrr, nn, nr, nnr, hg, hrep, ex, k⟩ := h
    have hu := hu_of hr
    have hu64 := hr.units
    refine ⟨_, (pss_cons (ps_if (pt_cmpR op_eq (pv 1) (pe_gi g.c_LOAD rfl) (nomark _)) (pss_one (ps_ret (pe_cal c_load_answer hr rfl (pa_cons (pv 0) (pa_cons (pv 3) pa_nil))))) pss_nil)
      (pss_cons (ps_if (pt_cmpR op_lt (pv 1) (pe_gi g.c_BEGIN rfl) (nomark _)) (pss_one (ps_ret (pe_cal c_asking_answer hr rfl (pa_cons (pe_fld (pv 0) rfl) (pa_cons (pv 1) (pa_cons (pv 2) pa_nil)))))) pss_nil)
      (pss_one (ps_ret (pe_cal c_building_answer hr rfl (pa_cons (pv 0) (pa_cons (pv 1) (pa_cons (pv 2) (pa_cons (pv 3) pa_nil))))))))), ?_⟩
    have k' : outS cT cH Ex H h ((FmDesk.step s0 C).1, FlatNeutral.told (FmDesk.step s0 C).2) Q := fun H' q z1 z2 z3 z4 => k H' q z1 z2 z3 z4
    refine ⟨_, rfl, rfl, _, rfl, ite2 (fun e1 => ?_) fun e1 => ?_⟩
    · have e := V.int.inj (of_decide_eq_true e1)
      subst e
      cases hC with
      | load b hb =>
        obtain ⟨m, l, ks, r, et⟩ := hrep
        refine ⟨_, rfl, _, rfl, h, rr, m, l, _, b, ks, Ex, rfl, r, ex, by rw [bv_iv]; exact hrr, nr, ?_⟩
        rw [et]
        exact k'
    refine ⟨_, rfl, _, _, rfl, rfl, _, rfl, ite2 (fun e2 => ?_) fun e2 => ?_⟩
    · have h8 : p < 9 := of_decide_eq_true e2
      have h0 : p ≠ 0 := fun z => e1 (by rw [z]; exact decide_eq_true rfl)
      have hst : (FmDesk.step s0 C).1 = s0 := by
        cases hC <;> first | rfl | (exact absurd rfl h0) | (exact absurd h8 (by decide))
      have h1 : 1 ≤ p := by
        cases hC <;> first | (exact absurd rfl h0) | decide
      obtain ⟨m, l, ks, r, et⟩ := hrep
      obtain ⟨dx, hh⟩ := r.at_
      refine ⟨_, rfl, h, _, dx, _, _, rfl, hh, o.clH, o.n_data, rfl, _, rfl, _, rfl, m, n, p, xs, ys, C, s0, rfl, hC, h1, by omega, SqL.of r.hm, hg.msg, SqL.of hn, fun H1 q nq hq s1 => ?_⟩
      refine k' H1 q (exIn_not ex nq) hq ?_ fun b x _ e => s1 _ _ e
      rw [hst]
      exact ⟨m, l, ks, r.same s1, et⟩
    have h9 : 9 ≤ p := by
      have : ¬ p < 9 := fun q => e2 (decide_eq_true q)
      omega
    exact ⟨_, rfl, _, rfl, _, rfl, _, rfl, h, n, rr, p, xs, ys, C, s0, Ex, rfl, hC, h9, hn, hrr, nr, hg, hrep, ex, k'⟩
end
end FmP
set_option Elab.async false
set_option linter.all false
set_option maxRecDepth 100000
namespace FmP
open PySem PySem.Spec PyProof.Rows L2
open PySem.W (Codec)
theorem gi_mk {K : PySem.W.Frag} {h : Heap} {mg : Str → Option Value} (X : K.In h) (G : h.Ns mainGlobals mg) {x : Str} {i : Int} {t : Tok} (a : PySem.W.nsIn K mainGlobals x = some (some (.int i t))) : Gi mg x i := ⟨t, PySem.W.mg_of X G a⟩
theorem gf_mk {K : PySem.W.Frag} {h : Heap} {mg : Str → Option Value} (X : K.In h) (G : h.Ns mainGlobals mg) {x : Str} {st : Stmt} {f : Addr} {oc : Value} {od an : Option Addr} {osl : Array (Option Value)} {kV doc pm cdv ct : Value}
    (a : PySem.W.nsIn K mainGlobals x = some (some (.ref f))) (l : K.lookup f = some ⟨oc, od, .func (PySem.W.fnOf x x (defArgs st) (defBody st) (defScope st) .none kV doc pm an cdv ct), osl⟩)
    (c : PySem.W.codeIn K cdv x = true) (k : PySem.W.keepIn K (.ref f) = true) : Gf K mg x st := ⟨f, _, PySem.W.mg_of X G a, fun_mk l c k⟩
set_option maxHeartbeats 0 in
theorem all_mk {P : Program} {w : World} {K : PySem.W.Frag} {h : Heap} {mg : Str → Option Value} {fa : Addr} (X : K.In h) (G : h.Ns mainGlobals mg) (hfa : mg "answers" = some (.ref fa)) {a_MARK : Addr} {u_MARK_0 u_MARK_1 u_MARK_2 u_MARK_3 : Tok} {k_MARK : Nat} {t_FIRST_PLACE : Tok} {t_LONGEST : Tok} {t_STEP : Tok} {t_NUMBER : Tok} {t_BYTES : Tok} {t_LIST : Tok} {t_RECORD : Tok} {t_DEEPEST : Tok} {t_MOST_TREES : Tok} {t_MOST_SIZE : Tok} {t_BEGIN : Tok} {t_PUT_NUMBER : Tok} {t_PUT_BYTES : Tok} {t_LIST_CALL : Tok} {t_RECORD_CALL : Tok} {t_COPY : Tok} {t_SIZES : Tok} {t_FINISH : Tok} {t_CHECK : Tok} {t_KIND : Tok} {t_NUMBER_CALL : Tok} {t_BYTES_CALL : Tok} {t_COUNT : Tok} {t_ITEM : Tok} {t_DEPTH : Tok} {t_LOAD : Tok} {a_WHOLE_NUMBERS : Addr} {u_WHOLE_NUMBERS_0 w_WHOLE_NUMBERS_0 u_WHOLE_NUMBERS_1 w_WHOLE_NUMBERS_1 u_WHOLE_NUMBERS_2 w_WHOLE_NUMBERS_2 u_WHOLE_NUMBERS_3 w_WHOLE_NUMBERS_3 u_WHOLE_NUMBERS_4 w_WHOLE_NUMBERS_4 u_WHOLE_NUMBERS_5 w_WHOLE_NUMBERS_5 u_WHOLE_NUMBERS_6 w_WHOLE_NUMBERS_6 u_WHOLE_NUMBERS_7 w_WHOLE_NUMBERS_7 u_WHOLE_NUMBERS_8 w_WHOLE_NUMBERS_8 u_WHOLE_NUMBERS_9 w_WHOLE_NUMBERS_9 u_WHOLE_NUMBERS_10 w_WHOLE_NUMBERS_10 u_WHOLE_NUMBERS_11 w_WHOLE_NUMBERS_11 u_WHOLE_NUMBERS_12 w_WHOLE_NUMBERS_12 u_WHOLE_NUMBERS_13 w_WHOLE_NUMBERS_13 u_WHOLE_NUMBERS_14 w_WHOLE_NUMBERS_14 u_WHOLE_NUMBERS_15 w_WHOLE_NUMBERS_15 u_WHOLE_NUMBERS_16 w_WHOLE_NUMBERS_16 u_WHOLE_NUMBERS_17 w_WHOLE_NUMBERS_17 : Tok} {k_WHOLE_NUMBERS : Nat} {a_WITH_ROW : Addr} {u_WITH_ROW_0 u_WITH_ROW_1 u_WITH_ROW_2 : Tok} {k_WITH_ROW : Nat} {f_word_at : Addr} {oc_word_at : Value} {od_word_at an_word_at : Option Addr} {osl_word_at : Array (Option Value)} {kV_word_at dc_word_at pm_word_at cd_word_at ct_word_at : Value} {f_root_of : Addr} {oc_root_of : Value} {od_root_of an_root_of : Option Addr} {osl_root_of : Array (Option Value)} {kV_root_of dc_root_of pm_root_of cd_root_of ct_root_of : Value} {f_kind_at : Addr} {oc_kind_at : Value} {od_kind_at an_kind_at : Option Addr} {osl_kind_at : Array (Option Value)} {kV_kind_at dc_kind_at pm_kind_at cd_kind_at ct_kind_at : Value} {f_count_at : Addr} {oc_count_at : Value} {od_count_at an_count_at : Option Addr} {osl_count_at : Array (Option Value)} {kV_count_at dc_count_at pm_count_at cd_count_at ct_count_at : Value} {f_rounded_up : Addr} {oc_rounded_up : Value} {od_rounded_up an_rounded_up : Option Addr} {osl_rounded_up : Array (Option Value)} {kV_rounded_up dc_rounded_up pm_rounded_up cd_rounded_up ct_rounded_up : Value} {f_own_size : Addr} {oc_own_size : Value} {od_own_size an_own_size : Option Addr} {osl_own_size : Array (Option Value)} {kV_own_size dc_own_size pm_own_size cd_own_size ct_own_size : Value} {f_place_in : Addr} {oc_place_in : Value} {od_place_in an_place_in : Option Addr} {osl_place_in : Array (Option Value)} {kV_place_in dc_place_in pm_place_in cd_place_in ct_place_in : Value} {f_key_in : Addr} {oc_key_in : Value} {od_key_in an_key_in : Option Addr} {osl_key_in : Array (Option Value)} {kV_key_in dc_key_in pm_key_in cd_key_in ct_key_in : Value} {f_places_in : Addr} {oc_places_in : Value} {od_places_in an_places_in : Option Addr} {osl_places_in : Array (Option Value)} {kV_places_in dc_places_in pm_places_in cd_places_in ct_places_in : Value} {f_keys_in : Addr} {oc_keys_in : Value} {od_keys_in an_keys_in : Option Addr} {osl_keys_in : Array (Option Value)} {kV_keys_in dc_keys_in pm_keys_in cd_keys_in ct_keys_in : Value} {f_bytes_in : Addr} {oc_bytes_in : Value} {od_bytes_in an_bytes_in : Option Addr} {osl_bytes_in : Array (Option Value)} {kV_bytes_in dc_bytes_in pm_bytes_in cd_bytes_in ct_bytes_in : Value} {f_is_message : Addr} {oc_is_message : Value} {od_is_message an_is_message : Option Addr} {osl_is_message : Array (Option Value)} {kV_is_message dc_is_message pm_is_message cd_is_message ct_is_message : Value} {f_may_hold_value : Addr} {oc_may_hold_value : Value} {od_may_hold_value an_may_hold_value : Option Addr} {osl_may_hold_value : Array (Option Value)} {kV_may_hold_value dc_may_hold_value pm_may_hold_value cd_may_hold_value ct_may_hold_value : Value} {f_filling_is_zeros : Addr} {oc_filling_is_zeros : Value} {od_filling_is_zeros an_filling_is_zeros : Option Addr} {osl_filling_is_zeros : Array (Option Value)} {kV_filling_is_zeros dc_filling_is_zeros pm_filling_is_zeros cd_filling_is_zeros ct_filling_is_zeros : Value} {f_places_are_right : Addr} {oc_places_are_right : Value} {od_places_are_right an_places_are_right : Option Addr} {osl_places_are_right : Array (Option Value)} {kV_places_are_right dc_places_are_right pm_places_are_right cd_places_are_right ct_places_are_right : Value} {f_keys_rise : Addr} {oc_keys_rise : Value} {od_keys_rise an_keys_rise : Option Addr} {osl_keys_rise : Array (Option Value)} {kV_keys_rise dc_keys_rise pm_keys_rise cd_keys_rise ct_keys_rise : Value} {f_inside_is_right : Addr} {oc_inside_is_right : Value} {od_inside_is_right an_inside_is_right : Option Addr} {osl_inside_is_right : Array (Option Value)} {kV_inside_is_right dc_inside_is_right pm_inside_is_right cd_inside_is_right ct_inside_is_right : Value} {f_stands_right : Addr} {oc_stands_right : Value} {od_stands_right an_stands_right : Option Addr} {osl_stands_right : Array (Option Value)} {kV_stands_right dc_stands_right pm_stands_right cd_stands_right ct_stands_right : Value} {f_number_tree : Addr} {oc_number_tree : Value} {od_number_tree an_number_tree : Option Addr} {osl_number_tree : Array (Option Value)} {kV_number_tree dc_number_tree pm_number_tree cd_number_tree ct_number_tree : Value} {f_bytes_tree : Addr} {oc_bytes_tree : Value} {od_bytes_tree an_bytes_tree : Option Addr} {osl_bytes_tree : Array (Option Value)} {kV_bytes_tree dc_bytes_tree pm_bytes_tree cd_bytes_tree ct_bytes_tree : Value} {f_list_tree : Addr} {oc_list_tree : Value} {od_list_tree an_list_tree : Option Addr} {osl_list_tree : Array (Option Value)} {kV_list_tree dc_list_tree pm_list_tree cd_list_tree ct_list_tree : Value} {f_record_tree : Addr} {oc_record_tree : Value} {od_record_tree an_record_tree : Option Addr} {osl_record_tree : Array (Option Value)} {kV_record_tree dc_record_tree pm_record_tree cd_record_tree ct_record_tree : Value} {f_tree_of : Addr} {oc_tree_of : Value} {od_tree_of an_tree_of : Option Addr} {osl_tree_of : Array (Option Value)} {kV_tree_of dc_tree_of pm_tree_of cd_tree_of ct_tree_of : Value} {f_told_tree : Addr} {oc_told_tree : Value} {od_told_tree an_told_tree : Option Addr} {osl_told_tree : Array (Option Value)} {kV_told_tree dc_told_tree pm_told_tree cd_told_tree ct_told_tree : Value} {f_whole_at : Addr} {oc_whole_at : Value} {od_whole_at an_whole_at : Option Addr} {osl_whole_at : Array (Option Value)} {kV_whole_at dc_whole_at pm_whole_at cd_whole_at ct_whole_at : Value} {f_word_bytes : Addr} {oc_word_bytes : Value} {od_word_bytes an_word_bytes : Option Addr} {osl_word_bytes : Array (Option Value)} {kV_word_bytes dc_word_bytes pm_word_bytes cd_word_bytes ct_word_bytes : Value} {f_head_bytes : Addr} {oc_head_bytes : Value} {od_head_bytes an_head_bytes : Option Addr} {osl_head_bytes : Array (Option Value)} {kV_head_bytes dc_head_bytes pm_head_bytes cd_head_bytes ct_head_bytes : Value} {f_places_within : Addr} {oc_places_within : Value} {od_places_within an_places_within : Option Addr} {osl_places_within : Array (Option Value)} {kV_places_within dc_places_within pm_places_within cd_places_within ct_places_within : Value} {f_number_bytes : Addr} {oc_number_bytes : Value} {od_number_bytes an_number_bytes : Option Addr} {osl_number_bytes : Array (Option Value)} {kV_number_bytes dc_number_bytes pm_number_bytes cd_number_bytes ct_number_bytes : Value} {f_filled_bytes : Addr} {oc_filled_bytes : Value} {od_filled_bytes an_filled_bytes : Option Addr} {osl_filled_bytes : Array (Option Value)} {kV_filled_bytes dc_filled_bytes pm_filled_bytes cd_filled_bytes ct_filled_bytes : Value} {f_list_bytes : Addr} {oc_list_bytes : Value} {od_list_bytes an_list_bytes : Option Addr} {osl_list_bytes : Array (Option Value)} {kV_list_bytes dc_list_bytes pm_list_bytes cd_list_bytes ct_list_bytes : Value} {f_record_bytes : Addr} {oc_record_bytes : Value} {od_record_bytes an_record_bytes : Option Addr} {osl_record_bytes : Array (Option Value)} {kV_record_bytes dc_record_bytes pm_record_bytes cd_record_bytes ct_record_bytes : Value} {f_inside_bytes : Addr} {oc_inside_bytes : Value} {od_inside_bytes an_inside_bytes : Option Addr} {osl_inside_bytes : Array (Option Value)} {kV_inside_bytes dc_inside_bytes pm_inside_bytes cd_inside_bytes ct_inside_bytes : Value} {f_message_of : Addr} {oc_message_of : Value} {od_message_of an_message_of : Option Addr} {osl_message_of : Array (Option Value)} {kV_message_of dc_message_of pm_message_of cd_message_of ct_message_of : Value} {f_size_together : Addr} {oc_size_together : Value} {od_size_together an_size_together : Option Addr} {osl_size_together : Array (Option Value)} {kV_size_together dc_size_together pm_size_together cd_size_together ct_size_together : Value} {f_has_room : Addr} {oc_has_room : Value} {od_has_room an_has_room : Option Addr} {osl_has_room : Array (Option Value)} {kV_has_room dc_has_room pm_has_room cd_has_room ct_has_room : Value} {f_row_answer : Addr} {oc_row_answer : Value} {od_row_answer an_row_answer : Option Addr} {osl_row_answer : Array (Option Value)} {kV_row_answer dc_row_answer pm_row_answer cd_row_answer ct_row_answer : Value} {f_begin_answer : Addr} {oc_begin_answer : Value} {od_begin_answer an_begin_answer : Option Addr} {osl_begin_answer : Array (Option Value)} {kV_begin_answer dc_begin_answer pm_begin_answer cd_begin_answer ct_begin_answer : Value} {f_put_answer : Addr} {oc_put_answer : Value} {od_put_answer an_put_answer : Option Addr} {osl_put_answer : Array (Option Value)} {kV_put_answer dc_put_answer pm_put_answer cd_put_answer ct_put_answer : Value} {f_list_answer : Addr} {oc_list_answer : Value} {od_list_answer an_list_answer : Option Addr} {osl_list_answer : Array (Option Value)} {kV_list_answer dc_list_answer pm_list_answer cd_list_answer ct_list_answer : Value} {f_record_answer : Addr} {oc_record_answer : Value} {od_record_answer an_record_answer : Option Addr} {osl_record_answer : Array (Option Value)} {kV_record_answer dc_record_answer pm_record_answer cd_record_answer ct_record_answer : Value} {f_copy_answer : Addr} {oc_copy_answer : Value} {od_copy_answer an_copy_answer : Option Addr} {osl_copy_answer : Array (Option Value)} {kV_copy_answer dc_copy_answer pm_copy_answer cd_copy_answer ct_copy_answer : Value} {f_sizes_answer : Addr} {oc_sizes_answer : Value} {od_sizes_answer an_sizes_answer : Option Addr} {osl_sizes_answer : Array (Option Value)} {kV_sizes_answer dc_sizes_answer pm_sizes_answer cd_sizes_answer ct_sizes_answer : Value} {f_finish_answer : Addr} {oc_finish_answer : Value} {od_finish_answer an_finish_answer : Option Addr} {osl_finish_answer : Array (Option Value)} {kV_finish_answer dc_finish_answer pm_finish_answer cd_finish_answer ct_finish_answer : Value} {f_adopt_answer : Addr} {oc_adopt_answer : Value} {od_adopt_answer an_adopt_answer : Option Addr} {osl_adopt_answer : Array (Option Value)} {kV_adopt_answer dc_adopt_answer pm_adopt_answer cd_adopt_answer ct_adopt_answer : Value} {f_building_answer : Addr} {oc_building_answer : Value} {od_building_answer an_building_answer : Option Addr} {osl_building_answer : Array (Option Value)} {kV_building_answer dc_building_answer pm_building_answer cd_building_answer ct_building_answer : Value} {f_check_answer : Addr} {oc_check_answer : Value} {od_check_answer an_check_answer : Option Addr} {osl_check_answer : Array (Option Value)} {kV_check_answer dc_check_answer pm_check_answer cd_check_answer ct_check_answer : Value} {f_depth_answer : Addr} {oc_depth_answer : Value} {od_depth_answer an_depth_answer : Option Addr} {osl_depth_answer : Array (Option Value)} {kV_depth_answer dc_depth_answer pm_depth_answer cd_depth_answer ct_depth_answer : Value} {f_number_answer : Addr} {oc_number_answer : Value} {od_number_answer an_number_answer : Option Addr} {osl_number_answer : Array (Option Value)} {kV_number_answer dc_number_answer pm_number_answer cd_number_answer ct_number_answer : Value} {f_bytes_answer : Addr} {oc_bytes_answer : Value} {od_bytes_answer an_bytes_answer : Option Addr} {osl_bytes_answer : Array (Option Value)} {kV_bytes_answer dc_bytes_answer pm_bytes_answer cd_bytes_answer ct_bytes_answer : Value} {f_count_answer : Addr} {oc_count_answer : Value} {od_count_answer an_count_answer : Option Addr} {osl_count_answer : Array (Option Value)} {kV_count_answer dc_count_answer pm_count_answer cd_count_answer ct_count_answer : Value} {f_item_answer : Addr} {oc_item_answer : Value} {od_item_answer an_item_answer : Option Addr} {osl_item_answer : Array (Option Value)} {kV_item_answer dc_item_answer pm_item_answer cd_item_answer ct_item_answer : Value} {f_field_answer : Addr} {oc_field_answer : Value} {od_field_answer an_field_answer : Option Addr} {osl_field_answer : Array (Option Value)} {kV_field_answer dc_field_answer pm_field_answer cd_field_answer ct_field_answer : Value} {f_value_answer : Addr} {oc_value_answer : Value} {od_value_answer an_value_answer : Option Addr} {osl_value_answer : Array (Option Value)} {kV_value_answer dc_value_answer pm_value_answer cd_value_answer ct_value_answer : Value} {f_asking_answer : Addr} {oc_asking_answer : Value} {od_asking_answer an_asking_answer : Option Addr} {osl_asking_answer : Array (Option Value)} {kV_asking_answer dc_asking_answer pm_asking_answer cd_asking_answer ct_asking_answer : Value} {f_load_answer : Addr} {oc_load_answer : Value} {od_load_answer an_load_answer : Option Addr} {osl_load_answer : Array (Option Value)} {kV_load_answer dc_load_answer pm_load_answer cd_load_answer ct_load_answer : Value} {f_call_answer : Addr} {oc_call_answer : Value} {od_call_answer an_call_answer : Option Addr} {osl_call_answer : Array (Option Value)} {kV_call_answer dc_call_answer pm_call_answer cd_call_answer ct_call_answer : Value} {f_answers : Addr} {oc_answers : Value} {od_answers an_answers : Option Addr} {osl_answers : Array (Option Value)} {kV_answers dc_answers pm_answers cd_answers ct_answers : Value} {C_Tree : Addr} {f_initTree : Addr} {oc_initTree : Value} {od_initTree an_initTree : Option Addr} {osl_initTree : Array (Option Value)} {kV_initTree dc_initTree pm_initTree cd_initTree ct_initTree : Value} {C_Holder : Addr} {f_initHolder : Addr} {oc_initHolder : Value} {od_initHolder an_initHolder : Option Addr} {osl_initHolder : Array (Option Value)} {kV_initHolder dc_initHolder pm_initHolder cd_initHolder ct_initHolder : Value}
    (c_MARK : PySem.W.nsIn K mainGlobals "MARK" = some (some (.ref a_MARK)))
    (l_MARK : K.lookup a_MARK = some { cls := .type "tuple", data := .seq #[.int 70 u_MARK_0, .int 77 u_MARK_1, .int 48 u_MARK_2, .int 49 u_MARK_3] k_MARK })
    (c_FIRST_PLACE : PySem.W.nsIn K mainGlobals "FIRST_PLACE" = some (some (.int 8 t_FIRST_PLACE)))
    (c_LONGEST : PySem.W.nsIn K mainGlobals "LONGEST" = some (some (.int 512 t_LONGEST)))
    (c_STEP : PySem.W.nsIn K mainGlobals "STEP" = some (some (.int 4 t_STEP)))
    (c_NUMBER : PySem.W.nsIn K mainGlobals "NUMBER" = some (some (.int 1 t_NUMBER)))
    (c_BYTES : PySem.W.nsIn K mainGlobals "BYTES" = some (some (.int 2 t_BYTES)))
    (c_LIST : PySem.W.nsIn K mainGlobals "LIST" = some (some (.int 3 t_LIST)))
    (c_RECORD : PySem.W.nsIn K mainGlobals "RECORD" = some (some (.int 4 t_RECORD)))
    (c_DEEPEST : PySem.W.nsIn K mainGlobals "DEEPEST" = some (some (.int 8 t_DEEPEST)))
    (c_MOST_TREES : PySem.W.nsIn K mainGlobals "MOST_TREES" = some (some (.int 16 t_MOST_TREES)))
    (c_MOST_SIZE : PySem.W.nsIn K mainGlobals "MOST_SIZE" = some (some (.int 504 t_MOST_SIZE)))
    (c_BEGIN : PySem.W.nsIn K mainGlobals "BEGIN" = some (some (.int 9 t_BEGIN)))
    (c_PUT_NUMBER : PySem.W.nsIn K mainGlobals "PUT_NUMBER" = some (some (.int 10 t_PUT_NUMBER)))
    (c_PUT_BYTES : PySem.W.nsIn K mainGlobals "PUT_BYTES" = some (some (.int 11 t_PUT_BYTES)))
    (c_LIST_CALL : PySem.W.nsIn K mainGlobals "LIST_CALL" = some (some (.int 12 t_LIST_CALL)))
    (c_RECORD_CALL : PySem.W.nsIn K mainGlobals "RECORD_CALL" = some (some (.int 13 t_RECORD_CALL)))
    (c_COPY : PySem.W.nsIn K mainGlobals "COPY" = some (some (.int 14 t_COPY)))
    (c_SIZES : PySem.W.nsIn K mainGlobals "SIZES" = some (some (.int 15 t_SIZES)))
    (c_FINISH : PySem.W.nsIn K mainGlobals "FINISH" = some (some (.int 16 t_FINISH)))
    (c_CHECK : PySem.W.nsIn K mainGlobals "CHECK" = some (some (.int 1 t_CHECK)))
    (c_KIND : PySem.W.nsIn K mainGlobals "KIND" = some (some (.int 2 t_KIND)))
    (c_NUMBER_CALL : PySem.W.nsIn K mainGlobals "NUMBER_CALL" = some (some (.int 3 t_NUMBER_CALL)))
    (c_BYTES_CALL : PySem.W.nsIn K mainGlobals "BYTES_CALL" = some (some (.int 4 t_BYTES_CALL)))
    (c_COUNT : PySem.W.nsIn K mainGlobals "COUNT" = some (some (.int 5 t_COUNT)))
    (c_ITEM : PySem.W.nsIn K mainGlobals "ITEM" = some (some (.int 6 t_ITEM)))
    (c_DEPTH : PySem.W.nsIn K mainGlobals "DEPTH" = some (some (.int 8 t_DEPTH)))
    (c_LOAD : PySem.W.nsIn K mainGlobals "LOAD" = some (some (.int 0 t_LOAD)))
    (c_WHOLE_NUMBERS : PySem.W.nsIn K mainGlobals "WHOLE_NUMBERS" = some (some (.ref a_WHOLE_NUMBERS)))
    (l_WHOLE_NUMBERS : K.lookup a_WHOLE_NUMBERS = some { cls := .type "dict", data := .dict #[⟨0, .int 0 u_WHOLE_NUMBERS_0, .int 0 w_WHOLE_NUMBERS_0⟩, ⟨1, .int 1 u_WHOLE_NUMBERS_1, .int 0 w_WHOLE_NUMBERS_1⟩, ⟨2, .int 2 u_WHOLE_NUMBERS_2, .int 1 w_WHOLE_NUMBERS_2⟩, ⟨3, .int 3 u_WHOLE_NUMBERS_3, .int 1 w_WHOLE_NUMBERS_3⟩, ⟨4, .int 4 u_WHOLE_NUMBERS_4, .int 1 w_WHOLE_NUMBERS_4⟩, ⟨5, .int 5 u_WHOLE_NUMBERS_5, .int 1 w_WHOLE_NUMBERS_5⟩, ⟨6, .int 6 u_WHOLE_NUMBERS_6, .int 2 w_WHOLE_NUMBERS_6⟩, ⟨7, .int 7 u_WHOLE_NUMBERS_7, .int 2 w_WHOLE_NUMBERS_7⟩, ⟨8, .int 8 u_WHOLE_NUMBERS_8, .int 1 w_WHOLE_NUMBERS_8⟩, ⟨9, .int 9 u_WHOLE_NUMBERS_9, .int 0 w_WHOLE_NUMBERS_9⟩, ⟨10, .int 10 u_WHOLE_NUMBERS_10, .int 2 w_WHOLE_NUMBERS_10⟩, ⟨11, .int 11 u_WHOLE_NUMBERS_11, .int 0 w_WHOLE_NUMBERS_11⟩, ⟨12, .int 12 u_WHOLE_NUMBERS_12, .int 1 w_WHOLE_NUMBERS_12⟩, ⟨13, .int 13 u_WHOLE_NUMBERS_13, .int 0 w_WHOLE_NUMBERS_13⟩, ⟨14, .int 14 u_WHOLE_NUMBERS_14, .int 1 w_WHOLE_NUMBERS_14⟩, ⟨15, .int 15 u_WHOLE_NUMBERS_15, .int 0 w_WHOLE_NUMBERS_15⟩, ⟨16, .int 16 u_WHOLE_NUMBERS_16, .int 0 w_WHOLE_NUMBERS_16⟩, ⟨17, .int 17 u_WHOLE_NUMBERS_17, .int 0 w_WHOLE_NUMBERS_17⟩] k_WHOLE_NUMBERS })
    (c_WITH_ROW : PySem.W.nsIn K mainGlobals "WITH_ROW" = some (some (.ref a_WITH_ROW)))
    (l_WITH_ROW : K.lookup a_WITH_ROW = some { cls := .type "tuple", data := .seq #[.int 0 u_WITH_ROW_0, .int 11 u_WITH_ROW_1, .int 13 u_WITH_ROW_2] k_WITH_ROW })
    (b_len : PySem.W.nsIn K mainGlobals "len" = some none)
    (b_range : PySem.W.nsIn K mainGlobals "range" = some none)
    (b_all : PySem.W.nsIn K mainGlobals "all" = some none)
    (b_zip : PySem.W.nsIn K mainGlobals "zip" = some none)
    (b_tuple : PySem.W.nsIn K mainGlobals "tuple" = some none)
    (b_list : PySem.W.nsIn K mainGlobals "list" = some none)
    (b_max : PySem.W.nsIn K mainGlobals "max" = some none)
    (b_sum : PySem.W.nsIn K mainGlobals "sum" = some none)
    (b_reversed : PySem.W.nsIn K mainGlobals "reversed" = some none)
    (a_word_at : PySem.W.nsIn K mainGlobals "word_at" = some (some (.ref f_word_at)))
    (l_word_at : K.lookup f_word_at = some ⟨oc_word_at, od_word_at, .func (PySem.W.fnOf "word_at" "word_at" (defArgs (top 9)) (defBody (top 9)) (defScope (top 9)) .none kV_word_at dc_word_at pm_word_at an_word_at cd_word_at ct_word_at), osl_word_at⟩)
    (cd2_word_at : PySem.W.codeIn K cd_word_at "word_at" = true)
    (k_word_at : PySem.W.keepIn K (.ref f_word_at) = true)
    (a_root_of : PySem.W.nsIn K mainGlobals "root_of" = some (some (.ref f_root_of)))
    (l_root_of : K.lookup f_root_of = some ⟨oc_root_of, od_root_of, .func (PySem.W.fnOf "root_of" "root_of" (defArgs (top 10)) (defBody (top 10)) (defScope (top 10)) .none kV_root_of dc_root_of pm_root_of an_root_of cd_root_of ct_root_of), osl_root_of⟩)
    (cd2_root_of : PySem.W.codeIn K cd_root_of "root_of" = true)
    (k_root_of : PySem.W.keepIn K (.ref f_root_of) = true)
    (a_kind_at : PySem.W.nsIn K mainGlobals "kind_at" = some (some (.ref f_kind_at)))
    (l_kind_at : K.lookup f_kind_at = some ⟨oc_kind_at, od_kind_at, .func (PySem.W.fnOf "kind_at" "kind_at" (defArgs (top 11)) (defBody (top 11)) (defScope (top 11)) .none kV_kind_at dc_kind_at pm_kind_at an_kind_at cd_kind_at ct_kind_at), osl_kind_at⟩)
    (cd2_kind_at : PySem.W.codeIn K cd_kind_at "kind_at" = true)
    (k_kind_at : PySem.W.keepIn K (.ref f_kind_at) = true)
    (a_count_at : PySem.W.nsIn K mainGlobals "count_at" = some (some (.ref f_count_at)))
    (l_count_at : K.lookup f_count_at = some ⟨oc_count_at, od_count_at, .func (PySem.W.fnOf "count_at" "count_at" (defArgs (top 12)) (defBody (top 12)) (defScope (top 12)) .none kV_count_at dc_count_at pm_count_at an_count_at cd_count_at ct_count_at), osl_count_at⟩)
    (cd2_count_at : PySem.W.codeIn K cd_count_at "count_at" = true)
    (k_count_at : PySem.W.keepIn K (.ref f_count_at) = true)
    (a_rounded_up : PySem.W.nsIn K mainGlobals "rounded_up" = some (some (.ref f_rounded_up)))
    (l_rounded_up : K.lookup f_rounded_up = some ⟨oc_rounded_up, od_rounded_up, .func (PySem.W.fnOf "rounded_up" "rounded_up" (defArgs (top 13)) (defBody (top 13)) (defScope (top 13)) .none kV_rounded_up dc_rounded_up pm_rounded_up an_rounded_up cd_rounded_up ct_rounded_up), osl_rounded_up⟩)
    (cd2_rounded_up : PySem.W.codeIn K cd_rounded_up "rounded_up" = true)
    (k_rounded_up : PySem.W.keepIn K (.ref f_rounded_up) = true)
    (a_own_size : PySem.W.nsIn K mainGlobals "own_size" = some (some (.ref f_own_size)))
    (l_own_size : K.lookup f_own_size = some ⟨oc_own_size, od_own_size, .func (PySem.W.fnOf "own_size" "own_size" (defArgs (top 14)) (defBody (top 14)) (defScope (top 14)) .none kV_own_size dc_own_size pm_own_size an_own_size cd_own_size ct_own_size), osl_own_size⟩)
    (cd2_own_size : PySem.W.codeIn K cd_own_size "own_size" = true)
    (k_own_size : PySem.W.keepIn K (.ref f_own_size) = true)
    (a_place_in : PySem.W.nsIn K mainGlobals "place_in" = some (some (.ref f_place_in)))
    (l_place_in : K.lookup f_place_in = some ⟨oc_place_in, od_place_in, .func (PySem.W.fnOf "place_in" "place_in" (defArgs (top 15)) (defBody (top 15)) (defScope (top 15)) .none kV_place_in dc_place_in pm_place_in an_place_in cd_place_in ct_place_in), osl_place_in⟩)
    (cd2_place_in : PySem.W.codeIn K cd_place_in "place_in" = true)
    (k_place_in : PySem.W.keepIn K (.ref f_place_in) = true)
    (a_key_in : PySem.W.nsIn K mainGlobals "key_in" = some (some (.ref f_key_in)))
    (l_key_in : K.lookup f_key_in = some ⟨oc_key_in, od_key_in, .func (PySem.W.fnOf "key_in" "key_in" (defArgs (top 16)) (defBody (top 16)) (defScope (top 16)) .none kV_key_in dc_key_in pm_key_in an_key_in cd_key_in ct_key_in), osl_key_in⟩)
    (cd2_key_in : PySem.W.codeIn K cd_key_in "key_in" = true)
    (k_key_in : PySem.W.keepIn K (.ref f_key_in) = true)
    (a_places_in : PySem.W.nsIn K mainGlobals "places_in" = some (some (.ref f_places_in)))
    (l_places_in : K.lookup f_places_in = some ⟨oc_places_in, od_places_in, .func (PySem.W.fnOf "places_in" "places_in" (defArgs (top 17)) (defBody (top 17)) (defScope (top 17)) .none kV_places_in dc_places_in pm_places_in an_places_in cd_places_in ct_places_in), osl_places_in⟩)
    (cd2_places_in : PySem.W.codeIn K cd_places_in "places_in" = true)
    (k_places_in : PySem.W.keepIn K (.ref f_places_in) = true)
    (a_keys_in : PySem.W.nsIn K mainGlobals "keys_in" = some (some (.ref f_keys_in)))
    (l_keys_in : K.lookup f_keys_in = some ⟨oc_keys_in, od_keys_in, .func (PySem.W.fnOf "keys_in" "keys_in" (defArgs (top 18)) (defBody (top 18)) (defScope (top 18)) .none kV_keys_in dc_keys_in pm_keys_in an_keys_in cd_keys_in ct_keys_in), osl_keys_in⟩)
    (cd2_keys_in : PySem.W.codeIn K cd_keys_in "keys_in" = true)
    (k_keys_in : PySem.W.keepIn K (.ref f_keys_in) = true)
    (a_bytes_in : PySem.W.nsIn K mainGlobals "bytes_in" = some (some (.ref f_bytes_in)))
    (l_bytes_in : K.lookup f_bytes_in = some ⟨oc_bytes_in, od_bytes_in, .func (PySem.W.fnOf "bytes_in" "bytes_in" (defArgs (top 19)) (defBody (top 19)) (defScope (top 19)) .none kV_bytes_in dc_bytes_in pm_bytes_in an_bytes_in cd_bytes_in ct_bytes_in), osl_bytes_in⟩)
    (cd2_bytes_in : PySem.W.codeIn K cd_bytes_in "bytes_in" = true)
    (k_bytes_in : PySem.W.keepIn K (.ref f_bytes_in) = true)
    (a_is_message : PySem.W.nsIn K mainGlobals "is_message" = some (some (.ref f_is_message)))
    (l_is_message : K.lookup f_is_message = some ⟨oc_is_message, od_is_message, .func (PySem.W.fnOf "is_message" "is_message" (defArgs (top 20)) (defBody (top 20)) (defScope (top 20)) .none kV_is_message dc_is_message pm_is_message an_is_message cd_is_message ct_is_message), osl_is_message⟩)
    (cd2_is_message : PySem.W.codeIn K cd_is_message "is_message" = true)
    (k_is_message : PySem.W.keepIn K (.ref f_is_message) = true)
    (a_may_hold_value : PySem.W.nsIn K mainGlobals "may_hold_value" = some (some (.ref f_may_hold_value)))
    (l_may_hold_value : K.lookup f_may_hold_value = some ⟨oc_may_hold_value, od_may_hold_value, .func (PySem.W.fnOf "may_hold_value" "may_hold_value" (defArgs (top 21)) (defBody (top 21)) (defScope (top 21)) .none kV_may_hold_value dc_may_hold_value pm_may_hold_value an_may_hold_value cd_may_hold_value ct_may_hold_value), osl_may_hold_value⟩)
    (cd2_may_hold_value : PySem.W.codeIn K cd_may_hold_value "may_hold_value" = true)
    (k_may_hold_value : PySem.W.keepIn K (.ref f_may_hold_value) = true)
    (a_filling_is_zeros : PySem.W.nsIn K mainGlobals "filling_is_zeros" = some (some (.ref f_filling_is_zeros)))
    (l_filling_is_zeros : K.lookup f_filling_is_zeros = some ⟨oc_filling_is_zeros, od_filling_is_zeros, .func (PySem.W.fnOf "filling_is_zeros" "filling_is_zeros" (defArgs (top 22)) (defBody (top 22)) (defScope (top 22)) .none kV_filling_is_zeros dc_filling_is_zeros pm_filling_is_zeros an_filling_is_zeros cd_filling_is_zeros ct_filling_is_zeros), osl_filling_is_zeros⟩)
    (cd2_filling_is_zeros : PySem.W.codeIn K cd_filling_is_zeros "filling_is_zeros" = true)
    (k_filling_is_zeros : PySem.W.keepIn K (.ref f_filling_is_zeros) = true)
    (a_places_are_right : PySem.W.nsIn K mainGlobals "places_are_right" = some (some (.ref f_places_are_right)))
    (l_places_are_right : K.lookup f_places_are_right = some ⟨oc_places_are_right, od_places_are_right, .func (PySem.W.fnOf "places_are_right" "places_are_right" (defArgs (top 23)) (defBody (top 23)) (defScope (top 23)) .none kV_places_are_right dc_places_are_right pm_places_are_right an_places_are_right cd_places_are_right ct_places_are_right), osl_places_are_right⟩)
    (cd2_places_are_right : PySem.W.codeIn K cd_places_are_right "places_are_right" = true)
    (k_places_are_right : PySem.W.keepIn K (.ref f_places_are_right) = true)
    (a_keys_rise : PySem.W.nsIn K mainGlobals "keys_rise" = some (some (.ref f_keys_rise)))
    (l_keys_rise : K.lookup f_keys_rise = some ⟨oc_keys_rise, od_keys_rise, .func (PySem.W.fnOf "keys_rise" "keys_rise" (defArgs (top 24)) (defBody (top 24)) (defScope (top 24)) .none kV_keys_rise dc_keys_rise pm_keys_rise an_keys_rise cd_keys_rise ct_keys_rise), osl_keys_rise⟩)
    (cd2_keys_rise : PySem.W.codeIn K cd_keys_rise "keys_rise" = true)
    (k_keys_rise : PySem.W.keepIn K (.ref f_keys_rise) = true)
    (a_inside_is_right : PySem.W.nsIn K mainGlobals "inside_is_right" = some (some (.ref f_inside_is_right)))
    (l_inside_is_right : K.lookup f_inside_is_right = some ⟨oc_inside_is_right, od_inside_is_right, .func (PySem.W.fnOf "inside_is_right" "inside_is_right" (defArgs (top 25)) (defBody (top 25)) (defScope (top 25)) .none kV_inside_is_right dc_inside_is_right pm_inside_is_right an_inside_is_right cd_inside_is_right ct_inside_is_right), osl_inside_is_right⟩)
    (cd2_inside_is_right : PySem.W.codeIn K cd_inside_is_right "inside_is_right" = true)
    (k_inside_is_right : PySem.W.keepIn K (.ref f_inside_is_right) = true)
    (a_stands_right : PySem.W.nsIn K mainGlobals "stands_right" = some (some (.ref f_stands_right)))
    (l_stands_right : K.lookup f_stands_right = some ⟨oc_stands_right, od_stands_right, .func (PySem.W.fnOf "stands_right" "stands_right" (defArgs (top 26)) (defBody (top 26)) (defScope (top 26)) .none kV_stands_right dc_stands_right pm_stands_right an_stands_right cd_stands_right ct_stands_right), osl_stands_right⟩)
    (cd2_stands_right : PySem.W.codeIn K cd_stands_right "stands_right" = true)
    (k_stands_right : PySem.W.keepIn K (.ref f_stands_right) = true)
    (a_number_tree : PySem.W.nsIn K mainGlobals "number_tree" = some (some (.ref f_number_tree)))
    (l_number_tree : K.lookup f_number_tree = some ⟨oc_number_tree, od_number_tree, .func (PySem.W.fnOf "number_tree" "number_tree" (defArgs (top 30)) (defBody (top 30)) (defScope (top 30)) .none kV_number_tree dc_number_tree pm_number_tree an_number_tree cd_number_tree ct_number_tree), osl_number_tree⟩)
    (cd2_number_tree : PySem.W.codeIn K cd_number_tree "number_tree" = true)
    (k_number_tree : PySem.W.keepIn K (.ref f_number_tree) = true)
    (a_bytes_tree : PySem.W.nsIn K mainGlobals "bytes_tree" = some (some (.ref f_bytes_tree)))
    (l_bytes_tree : K.lookup f_bytes_tree = some ⟨oc_bytes_tree, od_bytes_tree, .func (PySem.W.fnOf "bytes_tree" "bytes_tree" (defArgs (top 31)) (defBody (top 31)) (defScope (top 31)) .none kV_bytes_tree dc_bytes_tree pm_bytes_tree an_bytes_tree cd_bytes_tree ct_bytes_tree), osl_bytes_tree⟩)
    (cd2_bytes_tree : PySem.W.codeIn K cd_bytes_tree "bytes_tree" = true)
    (k_bytes_tree : PySem.W.keepIn K (.ref f_bytes_tree) = true)
    (a_list_tree : PySem.W.nsIn K mainGlobals "list_tree" = some (some (.ref f_list_tree)))
    (l_list_tree : K.lookup f_list_tree = some ⟨oc_list_tree, od_list_tree, .func (PySem.W.fnOf "list_tree" "list_tree" (defArgs (top 32)) (defBody (top 32)) (defScope (top 32)) .none kV_list_tree dc_list_tree pm_list_tree an_list_tree cd_list_tree ct_list_tree), osl_list_tree⟩)
    (cd2_list_tree : PySem.W.codeIn K cd_list_tree "list_tree" = true)
    (k_list_tree : PySem.W.keepIn K (.ref f_list_tree) = true)
    (a_record_tree : PySem.W.nsIn K mainGlobals "record_tree" = some (some (.ref f_record_tree)))
    (l_record_tree : K.lookup f_record_tree = some ⟨oc_record_tree, od_record_tree, .func (PySem.W.fnOf "record_tree" "record_tree" (defArgs (top 33)) (defBody (top 33)) (defScope (top 33)) .none kV_record_tree dc_record_tree pm_record_tree an_record_tree cd_record_tree ct_record_tree), osl_record_tree⟩)
    (cd2_record_tree : PySem.W.codeIn K cd_record_tree "record_tree" = true)
    (k_record_tree : PySem.W.keepIn K (.ref f_record_tree) = true)
    (a_tree_of : PySem.W.nsIn K mainGlobals "tree_of" = some (some (.ref f_tree_of)))
    (l_tree_of : K.lookup f_tree_of = some ⟨oc_tree_of, od_tree_of, .func (PySem.W.fnOf "tree_of" "tree_of" (defArgs (top 35)) (defBody (top 35)) (defScope (top 35)) .none kV_tree_of dc_tree_of pm_tree_of an_tree_of cd_tree_of ct_tree_of), osl_tree_of⟩)
    (cd2_tree_of : PySem.W.codeIn K cd_tree_of "tree_of" = true)
    (k_tree_of : PySem.W.keepIn K (.ref f_tree_of) = true)
    (a_told_tree : PySem.W.nsIn K mainGlobals "told_tree" = some (some (.ref f_told_tree)))
    (l_told_tree : K.lookup f_told_tree = some ⟨oc_told_tree, od_told_tree, .func (PySem.W.fnOf "told_tree" "told_tree" (defArgs (top 36)) (defBody (top 36)) (defScope (top 36)) .none kV_told_tree dc_told_tree pm_told_tree an_told_tree cd_told_tree ct_told_tree), osl_told_tree⟩)
    (cd2_told_tree : PySem.W.codeIn K cd_told_tree "told_tree" = true)
    (k_told_tree : PySem.W.keepIn K (.ref f_told_tree) = true)
    (a_whole_at : PySem.W.nsIn K mainGlobals "whole_at" = some (some (.ref f_whole_at)))
    (l_whole_at : K.lookup f_whole_at = some ⟨oc_whole_at, od_whole_at, .func (PySem.W.fnOf "whole_at" "whole_at" (defArgs (top 37)) (defBody (top 37)) (defScope (top 37)) .none kV_whole_at dc_whole_at pm_whole_at an_whole_at cd_whole_at ct_whole_at), osl_whole_at⟩)
    (cd2_whole_at : PySem.W.codeIn K cd_whole_at "whole_at" = true)
    (k_whole_at : PySem.W.keepIn K (.ref f_whole_at) = true)
    (a_word_bytes : PySem.W.nsIn K mainGlobals "word_bytes" = some (some (.ref f_word_bytes)))
    (l_word_bytes : K.lookup f_word_bytes = some ⟨oc_word_bytes, od_word_bytes, .func (PySem.W.fnOf "word_bytes" "word_bytes" (defArgs (top 39)) (defBody (top 39)) (defScope (top 39)) .none kV_word_bytes dc_word_bytes pm_word_bytes an_word_bytes cd_word_bytes ct_word_bytes), osl_word_bytes⟩)
    (cd2_word_bytes : PySem.W.codeIn K cd_word_bytes "word_bytes" = true)
    (k_word_bytes : PySem.W.keepIn K (.ref f_word_bytes) = true)
    (a_head_bytes : PySem.W.nsIn K mainGlobals "head_bytes" = some (some (.ref f_head_bytes)))
    (l_head_bytes : K.lookup f_head_bytes = some ⟨oc_head_bytes, od_head_bytes, .func (PySem.W.fnOf "head_bytes" "head_bytes" (defArgs (top 40)) (defBody (top 40)) (defScope (top 40)) .none kV_head_bytes dc_head_bytes pm_head_bytes an_head_bytes cd_head_bytes ct_head_bytes), osl_head_bytes⟩)
    (cd2_head_bytes : PySem.W.codeIn K cd_head_bytes "head_bytes" = true)
    (k_head_bytes : PySem.W.keepIn K (.ref f_head_bytes) = true)
    (a_places_within : PySem.W.nsIn K mainGlobals "places_within" = some (some (.ref f_places_within)))
    (l_places_within : K.lookup f_places_within = some ⟨oc_places_within, od_places_within, .func (PySem.W.fnOf "places_within" "places_within" (defArgs (top 41)) (defBody (top 41)) (defScope (top 41)) .none kV_places_within dc_places_within pm_places_within an_places_within cd_places_within ct_places_within), osl_places_within⟩)
    (cd2_places_within : PySem.W.codeIn K cd_places_within "places_within" = true)
    (k_places_within : PySem.W.keepIn K (.ref f_places_within) = true)
    (a_number_bytes : PySem.W.nsIn K mainGlobals "number_bytes" = some (some (.ref f_number_bytes)))
    (l_number_bytes : K.lookup f_number_bytes = some ⟨oc_number_bytes, od_number_bytes, .func (PySem.W.fnOf "number_bytes" "number_bytes" (defArgs (top 42)) (defBody (top 42)) (defScope (top 42)) .none kV_number_bytes dc_number_bytes pm_number_bytes an_number_bytes cd_number_bytes ct_number_bytes), osl_number_bytes⟩)
    (cd2_number_bytes : PySem.W.codeIn K cd_number_bytes "number_bytes" = true)
    (k_number_bytes : PySem.W.keepIn K (.ref f_number_bytes) = true)
    (a_filled_bytes : PySem.W.nsIn K mainGlobals "filled_bytes" = some (some (.ref f_filled_bytes)))
    (l_filled_bytes : K.lookup f_filled_bytes = some ⟨oc_filled_bytes, od_filled_bytes, .func (PySem.W.fnOf "filled_bytes" "filled_bytes" (defArgs (top 43)) (defBody (top 43)) (defScope (top 43)) .none kV_filled_bytes dc_filled_bytes pm_filled_bytes an_filled_bytes cd_filled_bytes ct_filled_bytes), osl_filled_bytes⟩)
    (cd2_filled_bytes : PySem.W.codeIn K cd_filled_bytes "filled_bytes" = true)
    (k_filled_bytes : PySem.W.keepIn K (.ref f_filled_bytes) = true)
    (a_list_bytes : PySem.W.nsIn K mainGlobals "list_bytes" = some (some (.ref f_list_bytes)))
    (l_list_bytes : K.lookup f_list_bytes = some ⟨oc_list_bytes, od_list_bytes, .func (PySem.W.fnOf "list_bytes" "list_bytes" (defArgs (top 44)) (defBody (top 44)) (defScope (top 44)) .none kV_list_bytes dc_list_bytes pm_list_bytes an_list_bytes cd_list_bytes ct_list_bytes), osl_list_bytes⟩)
    (cd2_list_bytes : PySem.W.codeIn K cd_list_bytes "list_bytes" = true)
    (k_list_bytes : PySem.W.keepIn K (.ref f_list_bytes) = true)
    (a_record_bytes : PySem.W.nsIn K mainGlobals "record_bytes" = some (some (.ref f_record_bytes)))
    (l_record_bytes : K.lookup f_record_bytes = some ⟨oc_record_bytes, od_record_bytes, .func (PySem.W.fnOf "record_bytes" "record_bytes" (defArgs (top 45)) (defBody (top 45)) (defScope (top 45)) .none kV_record_bytes dc_record_bytes pm_record_bytes an_record_bytes cd_record_bytes ct_record_bytes), osl_record_bytes⟩)
    (cd2_record_bytes : PySem.W.codeIn K cd_record_bytes "record_bytes" = true)
    (k_record_bytes : PySem.W.keepIn K (.ref f_record_bytes) = true)
    (a_inside_bytes : PySem.W.nsIn K mainGlobals "inside_bytes" = some (some (.ref f_inside_bytes)))
    (l_inside_bytes : K.lookup f_inside_bytes = some ⟨oc_inside_bytes, od_inside_bytes, .func (PySem.W.fnOf "inside_bytes" "inside_bytes" (defArgs (top 46)) (defBody (top 46)) (defScope (top 46)) .none kV_inside_bytes dc_inside_bytes pm_inside_bytes an_inside_bytes cd_inside_bytes ct_inside_bytes), osl_inside_bytes⟩)
    (cd2_inside_bytes : PySem.W.codeIn K cd_inside_bytes "inside_bytes" = true)
    (k_inside_bytes : PySem.W.keepIn K (.ref f_inside_bytes) = true)
    (a_message_of : PySem.W.nsIn K mainGlobals "message_of" = some (some (.ref f_message_of)))
    (l_message_of : K.lookup f_message_of = some ⟨oc_message_of, od_message_of, .func (PySem.W.fnOf "message_of" "message_of" (defArgs (top 47)) (defBody (top 47)) (defScope (top 47)) .none kV_message_of dc_message_of pm_message_of an_message_of cd_message_of ct_message_of), osl_message_of⟩)
    (cd2_message_of : PySem.W.codeIn K cd_message_of "message_of" = true)
    (k_message_of : PySem.W.keepIn K (.ref f_message_of) = true)
    (a_size_together : PySem.W.nsIn K mainGlobals "size_together" = some (some (.ref f_size_together)))
    (l_size_together : K.lookup f_size_together = some ⟨oc_size_together, od_size_together, .func (PySem.W.fnOf "size_together" "size_together" (defArgs (top 59)) (defBody (top 59)) (defScope (top 59)) .none kV_size_together dc_size_together pm_size_together an_size_together cd_size_together ct_size_together), osl_size_together⟩)
    (cd2_size_together : PySem.W.codeIn K cd_size_together "size_together" = true)
    (k_size_together : PySem.W.keepIn K (.ref f_size_together) = true)
    (a_has_room : PySem.W.nsIn K mainGlobals "has_room" = some (some (.ref f_has_room)))
    (l_has_room : K.lookup f_has_room = some ⟨oc_has_room, od_has_room, .func (PySem.W.fnOf "has_room" "has_room" (defArgs (top 60)) (defBody (top 60)) (defScope (top 60)) .none kV_has_room dc_has_room pm_has_room an_has_room cd_has_room ct_has_room), osl_has_room⟩)
    (cd2_has_room : PySem.W.codeIn K cd_has_room "has_room" = true)
    (k_has_room : PySem.W.keepIn K (.ref f_has_room) = true)
    (a_row_answer : PySem.W.nsIn K mainGlobals "row_answer" = some (some (.ref f_row_answer)))
    (l_row_answer : K.lookup f_row_answer = some ⟨oc_row_answer, od_row_answer, .func (PySem.W.fnOf "row_answer" "row_answer" (defArgs (top 61)) (defBody (top 61)) (defScope (top 61)) .none kV_row_answer dc_row_answer pm_row_answer an_row_answer cd_row_answer ct_row_answer), osl_row_answer⟩)
    (cd2_row_answer : PySem.W.codeIn K cd_row_answer "row_answer" = true)
    (k_row_answer : PySem.W.keepIn K (.ref f_row_answer) = true)
    (a_begin_answer : PySem.W.nsIn K mainGlobals "begin_answer" = some (some (.ref f_begin_answer)))
    (l_begin_answer : K.lookup f_begin_answer = some ⟨oc_begin_answer, od_begin_answer, .func (PySem.W.fnOf "begin_answer" "begin_answer" (defArgs (top 62)) (defBody (top 62)) (defScope (top 62)) .none kV_begin_answer dc_begin_answer pm_begin_answer an_begin_answer cd_begin_answer ct_begin_answer), osl_begin_answer⟩)
    (cd2_begin_answer : PySem.W.codeIn K cd_begin_answer "begin_answer" = true)
    (k_begin_answer : PySem.W.keepIn K (.ref f_begin_answer) = true)
    (a_put_answer : PySem.W.nsIn K mainGlobals "put_answer" = some (some (.ref f_put_answer)))
    (l_put_answer : K.lookup f_put_answer = some ⟨oc_put_answer, od_put_answer, .func (PySem.W.fnOf "put_answer" "put_answer" (defArgs (top 63)) (defBody (top 63)) (defScope (top 63)) .none kV_put_answer dc_put_answer pm_put_answer an_put_answer cd_put_answer ct_put_answer), osl_put_answer⟩)
    (cd2_put_answer : PySem.W.codeIn K cd_put_answer "put_answer" = true)
    (k_put_answer : PySem.W.keepIn K (.ref f_put_answer) = true)
    (a_list_answer : PySem.W.nsIn K mainGlobals "list_answer" = some (some (.ref f_list_answer)))
    (l_list_answer : K.lookup f_list_answer = some ⟨oc_list_answer, od_list_answer, .func (PySem.W.fnOf "list_answer" "list_answer" (defArgs (top 64)) (defBody (top 64)) (defScope (top 64)) .none kV_list_answer dc_list_answer pm_list_answer an_list_answer cd_list_answer ct_list_answer), osl_list_answer⟩)
    (cd2_list_answer : PySem.W.codeIn K cd_list_answer "list_answer" = true)
    (k_list_answer : PySem.W.keepIn K (.ref f_list_answer) = true)
    (a_record_answer : PySem.W.nsIn K mainGlobals "record_answer" = some (some (.ref f_record_answer)))
    (l_record_answer : K.lookup f_record_answer = some ⟨oc_record_answer, od_record_answer, .func (PySem.W.fnOf "record_answer" "record_answer" (defArgs (top 65)) (defBody (top 65)) (defScope (top 65)) .none kV_record_answer dc_record_answer pm_record_answer an_record_answer cd_record_answer ct_record_answer), osl_record_answer⟩)
    (cd2_record_answer : PySem.W.codeIn K cd_record_answer "record_answer" = true)
    (k_record_answer : PySem.W.keepIn K (.ref f_record_answer) = true)
    (a_copy_answer : PySem.W.nsIn K mainGlobals "copy_answer" = some (some (.ref f_copy_answer)))
    (l_copy_answer : K.lookup f_copy_answer = some ⟨oc_copy_answer, od_copy_answer, .func (PySem.W.fnOf "copy_answer" "copy_answer" (defArgs (top 66)) (defBody (top 66)) (defScope (top 66)) .none kV_copy_answer dc_copy_answer pm_copy_answer an_copy_answer cd_copy_answer ct_copy_answer), osl_copy_answer⟩)
    (cd2_copy_answer : PySem.W.codeIn K cd_copy_answer "copy_answer" = true)
    (k_copy_answer : PySem.W.keepIn K (.ref f_copy_answer) = true)
    (a_sizes_answer : PySem.W.nsIn K mainGlobals "sizes_answer" = some (some (.ref f_sizes_answer)))
    (l_sizes_answer : K.lookup f_sizes_answer = some ⟨oc_sizes_answer, od_sizes_answer, .func (PySem.W.fnOf "sizes_answer" "sizes_answer" (defArgs (top 67)) (defBody (top 67)) (defScope (top 67)) .none kV_sizes_answer dc_sizes_answer pm_sizes_answer an_sizes_answer cd_sizes_answer ct_sizes_answer), osl_sizes_answer⟩)
    (cd2_sizes_answer : PySem.W.codeIn K cd_sizes_answer "sizes_answer" = true)
    (k_sizes_answer : PySem.W.keepIn K (.ref f_sizes_answer) = true)
    (a_finish_answer : PySem.W.nsIn K mainGlobals "finish_answer" = some (some (.ref f_finish_answer)))
    (l_finish_answer : K.lookup f_finish_answer = some ⟨oc_finish_answer, od_finish_answer, .func (PySem.W.fnOf "finish_answer" "finish_answer" (defArgs (top 68)) (defBody (top 68)) (defScope (top 68)) .none kV_finish_answer dc_finish_answer pm_finish_answer an_finish_answer cd_finish_answer ct_finish_answer), osl_finish_answer⟩)
    (cd2_finish_answer : PySem.W.codeIn K cd_finish_answer "finish_answer" = true)
    (k_finish_answer : PySem.W.keepIn K (.ref f_finish_answer) = true)
    (a_adopt_answer : PySem.W.nsIn K mainGlobals "adopt_answer" = some (some (.ref f_adopt_answer)))
    (l_adopt_answer : K.lookup f_adopt_answer = some ⟨oc_adopt_answer, od_adopt_answer, .func (PySem.W.fnOf "adopt_answer" "adopt_answer" (defArgs (top 69)) (defBody (top 69)) (defScope (top 69)) .none kV_adopt_answer dc_adopt_answer pm_adopt_answer an_adopt_answer cd_adopt_answer ct_adopt_answer), osl_adopt_answer⟩)
    (cd2_adopt_answer : PySem.W.codeIn K cd_adopt_answer "adopt_answer" = true)
    (k_adopt_answer : PySem.W.keepIn K (.ref f_adopt_answer) = true)
    (a_building_answer : PySem.W.nsIn K mainGlobals "building_answer" = some (some (.ref f_building_answer)))
    (l_building_answer : K.lookup f_building_answer = some ⟨oc_building_answer, od_building_answer, .func (PySem.W.fnOf "building_answer" "building_answer" (defArgs (top 70)) (defBody (top 70)) (defScope (top 70)) .none kV_building_answer dc_building_answer pm_building_answer an_building_answer cd_building_answer ct_building_answer), osl_building_answer⟩)
    (cd2_building_answer : PySem.W.codeIn K cd_building_answer "building_answer" = true)
    (k_building_answer : PySem.W.keepIn K (.ref f_building_answer) = true)
    (a_check_answer : PySem.W.nsIn K mainGlobals "check_answer" = some (some (.ref f_check_answer)))
    (l_check_answer : K.lookup f_check_answer = some ⟨oc_check_answer, od_check_answer, .func (PySem.W.fnOf "check_answer" "check_answer" (defArgs (top 79)) (defBody (top 79)) (defScope (top 79)) .none kV_check_answer dc_check_answer pm_check_answer an_check_answer cd_check_answer ct_check_answer), osl_check_answer⟩)
    (cd2_check_answer : PySem.W.codeIn K cd_check_answer "check_answer" = true)
    (k_check_answer : PySem.W.keepIn K (.ref f_check_answer) = true)
    (a_depth_answer : PySem.W.nsIn K mainGlobals "depth_answer" = some (some (.ref f_depth_answer)))
    (l_depth_answer : K.lookup f_depth_answer = some ⟨oc_depth_answer, od_depth_answer, .func (PySem.W.fnOf "depth_answer" "depth_answer" (defArgs (top 80)) (defBody (top 80)) (defScope (top 80)) .none kV_depth_answer dc_depth_answer pm_depth_answer an_depth_answer cd_depth_answer ct_depth_answer), osl_depth_answer⟩)
    (cd2_depth_answer : PySem.W.codeIn K cd_depth_answer "depth_answer" = true)
    (k_depth_answer : PySem.W.keepIn K (.ref f_depth_answer) = true)
    (a_number_answer : PySem.W.nsIn K mainGlobals "number_answer" = some (some (.ref f_number_answer)))
    (l_number_answer : K.lookup f_number_answer = some ⟨oc_number_answer, od_number_answer, .func (PySem.W.fnOf "number_answer" "number_answer" (defArgs (top 81)) (defBody (top 81)) (defScope (top 81)) .none kV_number_answer dc_number_answer pm_number_answer an_number_answer cd_number_answer ct_number_answer), osl_number_answer⟩)
    (cd2_number_answer : PySem.W.codeIn K cd_number_answer "number_answer" = true)
    (k_number_answer : PySem.W.keepIn K (.ref f_number_answer) = true)
    (a_bytes_answer : PySem.W.nsIn K mainGlobals "bytes_answer" = some (some (.ref f_bytes_answer)))
    (l_bytes_answer : K.lookup f_bytes_answer = some ⟨oc_bytes_answer, od_bytes_answer, .func (PySem.W.fnOf "bytes_answer" "bytes_answer" (defArgs (top 82)) (defBody (top 82)) (defScope (top 82)) .none kV_bytes_answer dc_bytes_answer pm_bytes_answer an_bytes_answer cd_bytes_answer ct_bytes_answer), osl_bytes_answer⟩)
    (cd2_bytes_answer : PySem.W.codeIn K cd_bytes_answer "bytes_answer" = true)
    (k_bytes_answer : PySem.W.keepIn K (.ref f_bytes_answer) = true)
    (a_count_answer : PySem.W.nsIn K mainGlobals "count_answer" = some (some (.ref f_count_answer)))
    (l_count_answer : K.lookup f_count_answer = some ⟨oc_count_answer, od_count_answer, .func (PySem.W.fnOf "count_answer" "count_answer" (defArgs (top 83)) (defBody (top 83)) (defScope (top 83)) .none kV_count_answer dc_count_answer pm_count_answer an_count_answer cd_count_answer ct_count_answer), osl_count_answer⟩)
    (cd2_count_answer : PySem.W.codeIn K cd_count_answer "count_answer" = true)
    (k_count_answer : PySem.W.keepIn K (.ref f_count_answer) = true)
    (a_item_answer : PySem.W.nsIn K mainGlobals "item_answer" = some (some (.ref f_item_answer)))
    (l_item_answer : K.lookup f_item_answer = some ⟨oc_item_answer, od_item_answer, .func (PySem.W.fnOf "item_answer" "item_answer" (defArgs (top 84)) (defBody (top 84)) (defScope (top 84)) .none kV_item_answer dc_item_answer pm_item_answer an_item_answer cd_item_answer ct_item_answer), osl_item_answer⟩)
    (cd2_item_answer : PySem.W.codeIn K cd_item_answer "item_answer" = true)
    (k_item_answer : PySem.W.keepIn K (.ref f_item_answer) = true)
    (a_field_answer : PySem.W.nsIn K mainGlobals "field_answer" = some (some (.ref f_field_answer)))
    (l_field_answer : K.lookup f_field_answer = some ⟨oc_field_answer, od_field_answer, .func (PySem.W.fnOf "field_answer" "field_answer" (defArgs (top 85)) (defBody (top 85)) (defScope (top 85)) .none kV_field_answer dc_field_answer pm_field_answer an_field_answer cd_field_answer ct_field_answer), osl_field_answer⟩)
    (cd2_field_answer : PySem.W.codeIn K cd_field_answer "field_answer" = true)
    (k_field_answer : PySem.W.keepIn K (.ref f_field_answer) = true)
    (a_value_answer : PySem.W.nsIn K mainGlobals "value_answer" = some (some (.ref f_value_answer)))
    (l_value_answer : K.lookup f_value_answer = some ⟨oc_value_answer, od_value_answer, .func (PySem.W.fnOf "value_answer" "value_answer" (defArgs (top 86)) (defBody (top 86)) (defScope (top 86)) .none kV_value_answer dc_value_answer pm_value_answer an_value_answer cd_value_answer ct_value_answer), osl_value_answer⟩)
    (cd2_value_answer : PySem.W.codeIn K cd_value_answer "value_answer" = true)
    (k_value_answer : PySem.W.keepIn K (.ref f_value_answer) = true)
    (a_asking_answer : PySem.W.nsIn K mainGlobals "asking_answer" = some (some (.ref f_asking_answer)))
    (l_asking_answer : K.lookup f_asking_answer = some ⟨oc_asking_answer, od_asking_answer, .func (PySem.W.fnOf "asking_answer" "asking_answer" (defArgs (top 87)) (defBody (top 87)) (defScope (top 87)) .none kV_asking_answer dc_asking_answer pm_asking_answer an_asking_answer cd_asking_answer ct_asking_answer), osl_asking_answer⟩)
    (cd2_asking_answer : PySem.W.codeIn K cd_asking_answer "asking_answer" = true)
    (k_asking_answer : PySem.W.keepIn K (.ref f_asking_answer) = true)
    (a_load_answer : PySem.W.nsIn K mainGlobals "load_answer" = some (some (.ref f_load_answer)))
    (l_load_answer : K.lookup f_load_answer = some ⟨oc_load_answer, od_load_answer, .func (PySem.W.fnOf "load_answer" "load_answer" (defArgs (top 93)) (defBody (top 93)) (defScope (top 93)) .none kV_load_answer dc_load_answer pm_load_answer an_load_answer cd_load_answer ct_load_answer), osl_load_answer⟩)
    (cd2_load_answer : PySem.W.codeIn K cd_load_answer "load_answer" = true)
    (k_load_answer : PySem.W.keepIn K (.ref f_load_answer) = true)
    (a_call_answer : PySem.W.nsIn K mainGlobals "call_answer" = some (some (.ref f_call_answer)))
    (l_call_answer : K.lookup f_call_answer = some ⟨oc_call_answer, od_call_answer, .func (PySem.W.fnOf "call_answer" "call_answer" (defArgs (top 94)) (defBody (top 94)) (defScope (top 94)) .none kV_call_answer dc_call_answer pm_call_answer an_call_answer cd_call_answer ct_call_answer), osl_call_answer⟩)
    (cd2_call_answer : PySem.W.codeIn K cd_call_answer "call_answer" = true)
    (k_call_answer : PySem.W.keepIn K (.ref f_call_answer) = true)
    (a_answers : PySem.W.nsIn K mainGlobals "answers" = some (some (.ref f_answers)))
    (l_answers : K.lookup f_answers = some ⟨oc_answers, od_answers, .func (PySem.W.fnOf "answers" "answers" (defArgs (top 95)) (defBody (top 95)) (defScope (top 95)) .none kV_answers dc_answers pm_answers an_answers cd_answers ct_answers), osl_answers⟩)
    (cd2_answers : PySem.W.codeIn K cd_answers "answers" = true)
    (k_answers : PySem.W.keepIn K (.ref f_answers) = true)
    (a_Tree : PySem.W.nsIn K mainGlobals "Tree" = some (some (.ref C_Tree)))
    (a_initTree : PySem.W.findIn K (.ref C_Tree) "__init__" = some (some (.ref f_initTree)))
    (i_initTree : PySem.W.isFn K (.ref f_initTree) = true)
    (l_initTree : K.lookup f_initTree = some ⟨oc_initTree, od_initTree, .func (PySem.W.fnOf "__init__" "Tree.__init__" (defArgs (inClass (top 29) 0)) (defBody (inClass (top 29) 0)) (defScope (inClass (top 29) 0)) .none kV_initTree dc_initTree pm_initTree an_initTree cd_initTree ct_initTree), osl_initTree⟩)
    (cd2_initTree : PySem.W.codeIn K cd_initTree "Tree.__init__" = true)
    (k_initTree : PySem.W.keepIn K (.ref f_initTree) = true)
    (pg_Tree : PySem.W.plainGet K C_Tree Str.empty = true)
    (hd_Tree : PySem.W.hasDictIn K C_Tree = true)
    (po_Tree : PySem.W.plainOver K C_Tree = true)
    (sa_Tree : PySem.W.findIn K (.ref C_Tree) "__setattr__" = some (some (.builtin "object.__setattr__")))
    (mk_Tree : PySem.W.makesIn K C_Tree = true)
    (kc_Tree : PySem.W.keepIn K (.ref C_Tree) = true)
    (n_kind : PySem.W.findIn K (.ref C_Tree) "kind" = some none)
    (n_count : PySem.W.findIn K (.ref C_Tree) "count" = some none)
    (n_content : PySem.W.findIn K (.ref C_Tree) "content" = some none)
    (n_inner : PySem.W.findIn K (.ref C_Tree) "inner" = some none)
    (n_depth : PySem.W.findIn K (.ref C_Tree) "depth" = some none)
    (n_size : PySem.W.findIn K (.ref C_Tree) "size" = some none)
    (a_Holder : PySem.W.nsIn K mainGlobals "Holder" = some (some (.ref C_Holder)))
    (a_initHolder : PySem.W.findIn K (.ref C_Holder) "__init__" = some (some (.ref f_initHolder)))
    (i_initHolder : PySem.W.isFn K (.ref f_initHolder) = true)
    (l_initHolder : K.lookup f_initHolder = some ⟨oc_initHolder, od_initHolder, .func (PySem.W.fnOf "__init__" "Holder.__init__" (defArgs (inClass (top 92) 0)) (defBody (inClass (top 92) 0)) (defScope (inClass (top 92) 0)) .none kV_initHolder dc_initHolder pm_initHolder an_initHolder cd_initHolder ct_initHolder), osl_initHolder⟩)
    (cd2_initHolder : PySem.W.codeIn K cd_initHolder "Holder.__init__" = true)
    (k_initHolder : PySem.W.keepIn K (.ref f_initHolder) = true)
    (pg_Holder : PySem.W.plainGet K C_Holder Str.empty = true)
    (hd_Holder : PySem.W.hasDictIn K C_Holder = true)
    (po_Holder : PySem.W.plainOver K C_Holder = true)
    (sa_Holder : PySem.W.findIn K (.ref C_Holder) "__setattr__" = some (some (.builtin "object.__setattr__")))
    (mk_Holder : PySem.W.makesIn K C_Holder = true)
    (kc_Holder : PySem.W.keepIn K (.ref C_Holder) = true)
    (n_data : PySem.W.findIn K (.ref C_Holder) "data" = some none)
    (n_trees : PySem.W.findIn K (.ref C_Holder) "trees" = some none) :
    ∃ fd : FuncData, (∀ (s : Shared) (us : List Value), us.length = (["calls"] : List Str).length → BindsTo s fd ⟨us, []⟩ ((["calls"] : List Str).zip us)) ∧ ∀ base : Heap, K.In base → base.Ns mainGlobals mg → FnOk P w K mg base CX0 12 fa fd ["calls"] (spAns K) := by
  have e := hfa.symm.trans (PySem.W.mg_of X G a_answers)
  cases e
  have G_word_at : Gf K mg "word_at" (top 9) := gf_mk X G a_word_at l_word_at cd2_word_at k_word_at
  have G_root_of : Gf K mg "root_of" (top 10) := gf_mk X G a_root_of l_root_of cd2_root_of k_root_of
  have G_kind_at : Gf K mg "kind_at" (top 11) := gf_mk X G a_kind_at l_kind_at cd2_kind_at k_kind_at
  have G_count_at : Gf K mg "count_at" (top 12) := gf_mk X G a_count_at l_count_at cd2_count_at k_count_at
  have G_rounded_up : Gf K mg "rounded_up" (top 13) := gf_mk X G a_rounded_up l_rounded_up cd2_rounded_up k_rounded_up
  have G_own_size : Gf K mg "own_size" (top 14) := gf_mk X G a_own_size l_own_size cd2_own_size k_own_size
  have G_place_in : Gf K mg "place_in" (top 15) := gf_mk X G a_place_in l_place_in cd2_place_in k_place_in
  have G_key_in : Gf K mg "key_in" (top 16) := gf_mk X G a_key_in l_key_in cd2_key_in k_key_in
  have G_places_in : Gf K mg "places_in" (top 17) := gf_mk X G a_places_in l_places_in cd2_places_in k_places_in
  have G_keys_in : Gf K mg "keys_in" (top 18) := gf_mk X G a_keys_in l_keys_in cd2_keys_in k_keys_in
  have G_bytes_in : Gf K mg "bytes_in" (top 19) := gf_mk X G a_bytes_in l_bytes_in cd2_bytes_in k_bytes_in
  have G_is_message : Gf K mg "is_message" (top 20) := gf_mk X G a_is_message l_is_message cd2_is_message k_is_message
  have G_may_hold_value : Gf K mg "may_hold_value" (top 21) := gf_mk X G a_may_hold_value l_may_hold_value cd2_may_hold_value k_may_hold_value
  have G_filling_is_zeros : Gf K mg "filling_is_zeros" (top 22) := gf_mk X G a_filling_is_zeros l_filling_is_zeros cd2_filling_is_zeros k_filling_is_zeros
  have G_places_are_right : Gf K mg "places_are_right" (top 23) := gf_mk X G a_places_are_right l_places_are_right cd2_places_are_right k_places_are_right
  have G_keys_rise : Gf K mg "keys_rise" (top 24) := gf_mk X G a_keys_rise l_keys_rise cd2_keys_rise k_keys_rise
  have G_inside_is_right : Gf K mg "inside_is_right" (top 25) := gf_mk X G a_inside_is_right l_inside_is_right cd2_inside_is_right k_inside_is_right
  have G_stands_right : Gf K mg "stands_right" (top 26) := gf_mk X G a_stands_right l_stands_right cd2_stands_right k_stands_right
  have G_number_tree : Gf K mg "number_tree" (top 30) := gf_mk X G a_number_tree l_number_tree cd2_number_tree k_number_tree
  have G_bytes_tree : Gf K mg "bytes_tree" (top 31) := gf_mk X G a_bytes_tree l_bytes_tree cd2_bytes_tree k_bytes_tree
  have G_list_tree : Gf K mg "list_tree" (top 32) := gf_mk X G a_list_tree l_list_tree cd2_list_tree k_list_tree
  have G_record_tree : Gf K mg "record_tree" (top 33) := gf_mk X G a_record_tree l_record_tree cd2_record_tree k_record_tree
  have G_tree_of : Gf K mg "tree_of" (top 35) := gf_mk X G a_tree_of l_tree_of cd2_tree_of k_tree_of
  have G_told_tree : Gf K mg "told_tree" (top 36) := gf_mk X G a_told_tree l_told_tree cd2_told_tree k_told_tree
  have G_whole_at : Gf K mg "whole_at" (top 37) := gf_mk X G a_whole_at l_whole_at cd2_whole_at k_whole_at
  have G_word_bytes : Gf K mg "word_bytes" (top 39) := gf_mk X G a_word_bytes l_word_bytes cd2_word_bytes k_word_bytes
  have G_head_bytes : Gf K mg "head_bytes" (top 40) := gf_mk X G a_head_bytes l_head_bytes cd2_head_bytes k_head_bytes
  have G_places_within : Gf K mg "places_within" (top 41) := gf_mk X G a_places_within l_places_within cd2_places_within k_places_within
  have G_number_bytes : Gf K mg "number_bytes" (top 42) := gf_mk X G a_number_bytes l_number_bytes cd2_number_bytes k_number_bytes
  have G_filled_bytes : Gf K mg "filled_bytes" (top 43) := gf_mk X G a_filled_bytes l_filled_bytes cd2_filled_bytes k_filled_bytes
  have G_list_bytes : Gf K mg "list_bytes" (top 44) := gf_mk X G a_list_bytes l_list_bytes cd2_list_bytes k_list_bytes
  have G_record_bytes : Gf K mg "record_bytes" (top 45) := gf_mk X G a_record_bytes l_record_bytes cd2_record_bytes k_record_bytes
  have G_inside_bytes : Gf K mg "inside_bytes" (top 46) := gf_mk X G a_inside_bytes l_inside_bytes cd2_inside_bytes k_inside_bytes
  have G_message_of : Gf K mg "message_of" (top 47) := gf_mk X G a_message_of l_message_of cd2_message_of k_message_of
  have G_size_together : Gf K mg "size_together" (top 59) := gf_mk X G a_size_together l_size_together cd2_size_together k_size_together
  have G_has_room : Gf K mg "has_room" (top 60) := gf_mk X G a_has_room l_has_room cd2_has_room k_has_room
  have G_row_answer : Gf K mg "row_answer" (top 61) := gf_mk X G a_row_answer l_row_answer cd2_row_answer k_row_answer
  have G_begin_answer : Gf K mg "begin_answer" (top 62) := gf_mk X G a_begin_answer l_begin_answer cd2_begin_answer k_begin_answer
  have G_put_answer : Gf K mg "put_answer" (top 63) := gf_mk X G a_put_answer l_put_answer cd2_put_answer k_put_answer
  have G_list_answer : Gf K mg "list_answer" (top 64) := gf_mk X G a_list_answer l_list_answer cd2_list_answer k_list_answer
  have G_record_answer : Gf K mg "record_answer" (top 65) := gf_mk X G a_record_answer l_record_answer cd2_record_answer k_record_answer
  have G_copy_answer : Gf K mg "copy_answer" (top 66) := gf_mk X G a_copy_answer l_copy_answer cd2_copy_answer k_copy_answer
  have G_sizes_answer : Gf K mg "sizes_answer" (top 67) := gf_mk X G a_sizes_answer l_sizes_answer cd2_sizes_answer k_sizes_answer
  have G_finish_answer : Gf K mg "finish_answer" (top 68) := gf_mk X G a_finish_answer l_finish_answer cd2_finish_answer k_finish_answer
  have G_adopt_answer : Gf K mg "adopt_answer" (top 69) := gf_mk X G a_adopt_answer l_adopt_answer cd2_adopt_answer k_adopt_answer
  have G_building_answer : Gf K mg "building_answer" (top 70) := gf_mk X G a_building_answer l_building_answer cd2_building_answer k_building_answer
  have G_check_answer : Gf K mg "check_answer" (top 79) := gf_mk X G a_check_answer l_check_answer cd2_check_answer k_check_answer
  have G_depth_answer : Gf K mg "depth_answer" (top 80) := gf_mk X G a_depth_answer l_depth_answer cd2_depth_answer k_depth_answer
  have G_number_answer : Gf K mg "number_answer" (top 81) := gf_mk X G a_number_answer l_number_answer cd2_number_answer k_number_answer
  have G_bytes_answer : Gf K mg "bytes_answer" (top 82) := gf_mk X G a_bytes_answer l_bytes_answer cd2_bytes_answer k_bytes_answer
  have G_count_answer : Gf K mg "count_answer" (top 83) := gf_mk X G a_count_answer l_count_answer cd2_count_answer k_count_answer
  have G_item_answer : Gf K mg "item_answer" (top 84) := gf_mk X G a_item_answer l_item_answer cd2_item_answer k_item_answer
  have G_field_answer : Gf K mg "field_answer" (top 85) := gf_mk X G a_field_answer l_field_answer cd2_field_answer k_field_answer
  have G_value_answer : Gf K mg "value_answer" (top 86) := gf_mk X G a_value_answer l_value_answer cd2_value_answer k_value_answer
  have G_asking_answer : Gf K mg "asking_answer" (top 87) := gf_mk X G a_asking_answer l_asking_answer cd2_asking_answer k_asking_answer
  have G_load_answer : Gf K mg "load_answer" (top 93) := gf_mk X G a_load_answer l_load_answer cd2_load_answer k_load_answer
  have G_call_answer : Gf K mg "call_answer" (top 94) := gf_mk X G a_call_answer l_call_answer cd2_call_answer k_call_answer
  have G_answers : Gf K mg "answers" (top 95) := gf_mk X G a_answers l_answers cd2_answers k_answers
  have F_initTree := fun_mk (st := inClass (top 29) 0) l_initTree cd2_initTree k_initTree
  have F_initHolder := fun_mk (st := inClass (top 92) 0) l_initHolder cd2_initHolder k_initHolder
  have g : Glo K mg a_MARK a_WHOLE_NUMBERS a_WITH_ROW := { c_MARK := PySem.W.mg_of X G c_MARK, mark := fun H => .inr ⟨_, _, _, l_MARK, rfl, rfl, (by show 4 ≤ sizeLine; decide), .cons ⟨_, rfl⟩ (.cons ⟨_, rfl⟩ (.cons ⟨_, rfl⟩ (.cons ⟨_, rfl⟩ (.nil))))⟩, c_FIRST_PLACE := gi_mk X G c_FIRST_PLACE, c_LONGEST := gi_mk X G c_LONGEST, c_STEP := gi_mk X G c_STEP, c_NUMBER := gi_mk X G c_NUMBER, c_BYTES := gi_mk X G c_BYTES, c_LIST := gi_mk X G c_LIST, c_RECORD := gi_mk X G c_RECORD, c_DEEPEST := gi_mk X G c_DEEPEST, c_MOST_TREES := gi_mk X G c_MOST_TREES, c_MOST_SIZE := gi_mk X G c_MOST_SIZE, c_BEGIN := gi_mk X G c_BEGIN, c_PUT_NUMBER := gi_mk X G c_PUT_NUMBER, c_PUT_BYTES := gi_mk X G c_PUT_BYTES, c_LIST_CALL := gi_mk X G c_LIST_CALL, c_RECORD_CALL := gi_mk X G c_RECORD_CALL, c_COPY := gi_mk X G c_COPY, c_SIZES := gi_mk X G c_SIZES, c_FINISH := gi_mk X G c_FINISH, c_CHECK := gi_mk X G c_CHECK, c_KIND := gi_mk X G c_KIND, c_NUMBER_CALL := gi_mk X G c_NUMBER_CALL, c_BYTES_CALL := gi_mk X G c_BYTES_CALL, c_COUNT := gi_mk X G c_COUNT, c_ITEM := gi_mk X G c_ITEM, c_DEPTH := gi_mk X G c_DEPTH, c_LOAD := gi_mk X G c_LOAD, c_WHOLE_NUMBERS := PySem.W.mg_of X G c_WHOLE_NUMBERS, d_WHOLE_NUMBERS := ⟨_, _, l_WHOLE_NUMBERS, .cons rfl (.cons rfl (.cons rfl (.cons rfl (.cons rfl (.cons rfl (.cons rfl (.cons rfl (.cons rfl (.cons rfl (.cons rfl (.cons rfl (.cons rfl (.cons rfl (.cons rfl (.cons rfl (.cons rfl (.cons rfl (.nil)))))))))))))))))), by decide⟩, c_WITH_ROW := PySem.W.mg_of X G c_WITH_ROW, withrow := fun H => .inr ⟨_, _, _, l_WITH_ROW, rfl, rfl, (by show 3 ≤ sizeLine; decide), .cons ⟨_, rfl⟩ (.cons ⟨_, rfl⟩ (.cons ⟨_, rfl⟩ (.nil)))⟩, b_len := PySem.W.mg_none_of X G b_len, b_range := PySem.W.mg_none_of X G b_range, b_all := PySem.W.mg_none_of X G b_all, b_zip := PySem.W.mg_none_of X G b_zip, b_tuple := PySem.W.mg_none_of X G b_tuple, b_list := PySem.W.mg_none_of X G b_list, b_max := PySem.W.mg_none_of X G b_max, b_sum := PySem.W.mg_none_of X G b_sum, b_reversed := PySem.W.mg_none_of X G b_reversed }
  have o : Ob K C_Tree C_Holder := { clT := ⟨pg_Tree, hd_Tree, po_Tree, sa_Tree⟩, clH := ⟨pg_Holder, hd_Holder, po_Holder, sa_Holder⟩, n_kind := n_kind, n_count := n_count, n_content := n_content, n_inner := n_inner, n_depth := n_depth, n_size := n_size, n_data := n_data, n_trees := n_trees }
  refine ⟨PySem.W.fnOf "answers" "answers" (defArgs (top 95)) (defBody (top 95)) (defScope (top 95)) .none kV_answers dc_answers pm_answers an_answers cd_answers ct_answers, fun s us hu => match us, hu with | [_], _ => .of_eq rfl, fun base _ _ => ?_⟩
  have c_word_at := ok_word_at (P := P) (w := w) (base := base) g G_word_at 
  have c_root_of := ok_root_of (P := P) (w := w) (base := base) g G_root_of c_word_at
  have c_kind_at := ok_kind_at (P := P) (w := w) (base := base) g G_kind_at 
  have c_count_at := ok_count_at (P := P) (w := w) (base := base) g G_count_at c_word_at
  have c_rounded_up := ok_rounded_up (P := P) (w := w) (base := base) g G_rounded_up 
  have c_own_size := ok_own_size (P := P) (w := w) (base := base) g G_own_size c_rounded_up
  have c_place_in := ok_place_in (P := P) (w := w) (base := base) g G_place_in c_kind_at c_word_at
  have c_key_in := ok_key_in (P := P) (w := w) (base := base) g G_key_in c_word_at
  have c_places_in := ok_places_in (P := P) (w := w) (base := base) g G_places_in c_count_at c_kind_at c_place_in
  have c_keys_in := ok_keys_in (P := P) (w := w) (base := base) g G_keys_in c_count_at c_key_in
  have c_bytes_in := ok_bytes_in (P := P) (w := w) (base := base) g G_bytes_in c_count_at
  have c_is_message := ok_is_message (P := P) (w := w) (base := base) g G_is_message 
  have c_may_hold_value := ok_may_hold_value (P := P) (w := w) (base := base) g G_may_hold_value 
  have c_filling_is_zeros := ok_filling_is_zeros (P := P) (w := w) (base := base) g G_filling_is_zeros c_count_at c_rounded_up
  have c_places_are_right := ok_places_are_right (P := P) (w := w) (base := base) g G_places_are_right c_may_hold_value c_places_in
  have c_keys_rise := ok_keys_rise (P := P) (w := w) (base := base) g G_keys_rise 
  have c_inside_is_right := ok_inside_is_right (P := P) (w := w) (base := base) g G_inside_is_right c_count_at c_filling_is_zeros c_keys_in c_keys_rise c_kind_at c_places_are_right
  have c_stands_right := ok_stands_right (P := P) (w := w) (base := base) g G_stands_right c_count_at c_inside_is_right c_is_message c_kind_at c_may_hold_value c_own_size
  have I_Tree := ok_initT (P := P) (w := w) (base := base) (mg := mg) g o F_initTree c_own_size
  have M_Tree : Mkr P w K mg base 3 "Tree" ["self", "kind", "count", "content", "inner"] C_Tree _ := ⟨f_initTree, _, ⟨mk_Tree, a_initTree, i_initTree, kc_Tree⟩, I_Tree.1, PySem.W.mg_of X G a_Tree, I_Tree.2⟩
  have c_number_tree := ok_number_tree (P := P) (w := w) (base := base) g o G_number_tree M_Tree
  have c_bytes_tree := ok_bytes_tree (P := P) (w := w) (base := base) g o G_bytes_tree M_Tree
  have c_list_tree := ok_list_tree (P := P) (w := w) (base := base) g o G_list_tree M_Tree
  have c_record_tree := ok_record_tree (P := P) (w := w) (base := base) g o G_record_tree M_Tree
  have c_tree_of := ok_tree_of (P := P) (w := w) (base := base) g o G_tree_of c_bytes_in c_bytes_tree c_keys_in c_kind_at c_list_tree c_number_tree c_record_tree c_word_at
  have c_told_tree := ok_told_tree (P := P) (w := w) (base := base) g o G_told_tree c_places_in c_stands_right c_tree_of
  have c_whole_at := ok_whole_at (P := P) (w := w) (base := base) g o G_whole_at c_stands_right c_told_tree
  have c_check_answer := ok_check_answer (P := P) (w := w) (base := base) g G_check_answer c_is_message c_root_of c_whole_at
  have c_depth_answer := ok_depth_answer (P := P) (w := w) (base := base) g o G_depth_answer c_whole_at
  have c_number_answer := ok_number_answer (P := P) (w := w) (base := base) g G_number_answer c_kind_at c_word_at
  have c_bytes_answer := ok_bytes_answer (P := P) (w := w) (base := base) g G_bytes_answer c_bytes_in c_count_at c_kind_at
  have c_count_answer := ok_count_answer (P := P) (w := w) (base := base) g G_count_answer c_count_at c_kind_at
  have c_item_answer := ok_item_answer (P := P) (w := w) (base := base) g G_item_answer c_count_at c_key_in c_kind_at c_place_in
  have c_field_answer := ok_field_answer (P := P) (w := w) (base := base) g G_field_answer c_keys_in c_kind_at c_place_in
  have c_value_answer := ok_value_answer (P := P) (w := w) (base := base) g G_value_answer c_bytes_answer c_count_answer c_field_answer c_item_answer c_kind_at c_number_answer c_stands_right
  have c_asking_answer := ok_asking_answer (P := P) (w := w) (base := base) g G_asking_answer c_check_answer c_depth_answer c_value_answer
  have c_word_bytes := ok_word_bytes (P := P) (w := w) (base := base) g G_word_bytes 
  have c_head_bytes := ok_head_bytes (P := P) (w := w) (base := base) g G_head_bytes c_word_bytes
  have c_places_within := ok_places_within (P := P) (w := w) (base := base) g o G_places_within c_own_size
  have c_number_bytes := ok_number_bytes (P := P) (w := w) (base := base) g G_number_bytes c_word_bytes
  have c_filled_bytes := ok_filled_bytes (P := P) (w := w) (base := base) g G_filled_bytes c_rounded_up
  have c_list_bytes := ok_list_bytes (P := P) (w := w) (base := base) g G_list_bytes c_word_bytes
  have c_record_bytes := ok_record_bytes (P := P) (w := w) (base := base) g G_record_bytes c_word_bytes
  have c_inside_bytes := ok_inside_bytes (P := P) (w := w) (base := base) g o G_inside_bytes c_filled_bytes c_list_bytes c_number_bytes c_places_within c_record_bytes
  have c_message_of := ok_message_of (P := P) (w := w) (base := base) g o G_message_of c_head_bytes c_inside_bytes c_word_bytes
  have c_size_together := ok_size_together (P := P) (w := w) (base := base) g o G_size_together 
  have c_has_room := ok_has_room (P := P) (w := w) (base := base) g o G_has_room c_size_together
  have c_row_answer := ok_row_answer (P := P) (w := w) (base := base) g o G_row_answer c_has_room
  have c_begin_answer := ok_begin_answer (P := P) (w := w) (base := base) g o G_begin_answer 
  have c_put_answer := ok_put_answer (P := P) (w := w) (base := base) g o G_put_answer c_row_answer
  have c_list_answer := ok_list_answer (P := P) (w := w) (base := base) g o G_list_answer c_list_tree c_row_answer
  have c_record_answer := ok_record_answer (P := P) (w := w) (base := base) g o G_record_answer c_keys_rise c_record_tree c_row_answer
  have c_copy_answer := ok_copy_answer (P := P) (w := w) (base := base) g o G_copy_answer c_put_answer c_whole_at
  have c_sizes_answer := ok_sizes_answer (P := P) (w := w) (base := base) g o G_sizes_answer c_size_together
  have c_finish_answer := ok_finish_answer (P := P) (w := w) (base := base) g o G_finish_answer c_message_of
  have c_adopt_answer := ok_adopt_answer (P := P) (w := w) (base := base) g o G_adopt_answer c_message_of
  have c_building_answer := ok_building_answer (P := P) (w := w) (base := base) g o G_building_answer c_adopt_answer c_begin_answer c_bytes_tree c_copy_answer c_finish_answer c_list_answer c_number_tree c_put_answer c_record_answer c_sizes_answer
  have I_Holder := ok_initH (P := P) (w := w) (base := base) (mg := mg) g o F_initHolder 
  have M_Holder : Mkr P w K mg base 1 "Holder" ["self"] C_Holder _ := ⟨f_initHolder, _, ⟨mk_Holder, a_initHolder, i_initHolder, kc_Holder⟩, I_Holder.1, PySem.W.mg_of X G a_Holder, I_Holder.2⟩
  have c_load_answer := ok_load_answer (P := P) (w := w) (base := base) g o G_load_answer 
  have c_call_answer := ok_call_answer (P := P) (w := w) (base := base) g o G_call_answer c_asking_answer c_building_answer c_load_answer
  have c_answers := ok_answers (P := P) (w := w) (base := base) g (hrep_ok C_Tree C_Holder) M_Holder G_answers c_call_answer
  obtain ⟨f, fd, F, hm, _, _, oc, od, osl, lk⟩ := c_answers.ex
  have e := hm.symm.trans hfa
  cases e
  have e2 := lk.symm.trans l_answers
  cases e2
  exact F
end FmP
/-! these names are taken, so that the head writes no second copy of the heap (the compiled text stays small) -/
namespace PySem.W.Fast
def tw10049605830005540984 := 0
def tw10154465484165971761 := 0
def tw10178810893897107528 := 0
def tw10220850354548000443 := 0
def tw10231019340287487389 := 0
def tw10281448913512492922 := 0
def tw10289753396182505186 := 0
def tw10309753634503512411 := 0
def tw1037859762086804461 := 0
def tw10402035649759781716 := 0
def tw10563332549911465315 := 0
def tw10738226322909500950 := 0
def tw10746293050506201311 := 0
def tw10799019399260519177 := 0
def tw10923709611722693422 := 0
def tw10967381432639354503 := 0
def tw10985475747278385707 := 0
def tw10986609675062044351 := 0
def tw11007102842138766329 := 0
def tw11007713534295914467 := 0
def tw11014539351445138034 := 0
def tw11033383678058864142 := 0
def tw11054606334538600840 := 0
def tw11168310761392420402 := 0
def tw11182115651392719892 := 0
def tw11322500645021522326 := 0
def tw11333022079767689406 := 0
def tw11342908143002121551 := 0
def tw11353344796221410356 := 0
def tw11364767894279923544 := 0
def tw11400337400988488191 := 0
def tw11410040453410040771 := 0
def tw11484242012014062151 := 0
def tw11493645462057719072 := 0
def tw11500967721714825055 := 0
def tw11533282674647574242 := 0
def tw11588050008238478595 := 0
def tw11642791354642154350 := 0
def tw11677387191768494991 := 0
def tw11715762612266036189 := 0
def tw11731602009833475432 := 0
def tw11783876006544696832 := 0
def tw11817368447359474455 := 0
def tw1183259085316527642 := 0
def tw11844796039271808647 := 0
def tw11893186989098142669 := 0
def tw12273758962654898327 := 0
def tw12284358776869518150 := 0
def tw12364546173760905850 := 0
def tw12435827253478927513 := 0
def tw12476754709544768659 := 0
def tw12504887381039438047 := 0
def tw12534937149530643172 := 0
def tw12583751737474607700 := 0
def tw12686522093489530802 := 0
def tw12769271980561071411 := 0
def tw12796534715702989777 := 0
def tw1280914439600052987 := 0
def tw1288050479809475185 := 0
def tw12937466820113072759 := 0
def tw1298063875847811965 := 0
def tw12986925259369210976 := 0
def tw13002834297913019074 := 0
def tw13013585263465545213 := 0
def tw13015778370069492729 := 0
def tw13083437049484925006 := 0
def tw13113580815987736183 := 0
def tw13148504603765091324 := 0
def tw13159220707464752633 := 0
def tw13190614209028384181 := 0
def tw13236025458048038970 := 0
def tw13242550425693911521 := 0
def tw13298318814643973918 := 0
def tw13331630894919604495 := 0
def tw13362398701073105796 := 0
def tw13410492850232827944 := 0
def tw13445401433930963671 := 0
def tw13472112079052654552 := 0
def tw13489513900667024817 := 0
def tw13490096098673480341 := 0
def tw13493040243151413839 := 0
def tw13526158206004936980 := 0
def tw1355976469409518786 := 0
def tw13570554109470366127 := 0
def tw13584384034341727128 := 0
def tw13601343495287231816 := 0
def tw13641185030075694798 := 0
def tw13642190208512593931 := 0
def tw13645600316478469716 := 0
def tw13662902938756070152 := 0
def tw13726659759717690186 := 0
def tw13739585294560566412 := 0
def tw13741231707600902011 := 0
def tw13782069801513743963 := 0
def tw13788653765739824978 := 0
def tw13811043716943317055 := 0
def tw13814628989736893306 := 0
def tw13814636284164554825 := 0
def tw13882948547065256429 := 0
def tw13927289794535576460 := 0
def tw13932597571977436286 := 0
def tw13936815747341325099 := 0
def tw13955788529540649920 := 0
def tw13956106853249154116 := 0
def tw14038390837083984069 := 0
def tw14100204334253504242 := 0
def tw14242849137382725689 := 0
def tw14248141218330019796 := 0
def tw14250110585783805454 := 0
def tw14327951117824464249 := 0
def tw14383066242503623837 := 0
def tw14463603854742856974 := 0
def tw14506916537092013544 := 0
def tw14508414026036314733 := 0
def tw1450843928913642276 := 0
def tw1461363519987502672 := 0
def tw14688717337619491219 := 0
def tw14700993833526334298 := 0
def tw14726525319635933642 := 0
def tw14755765910417963587 := 0
def tw14769308478500831246 := 0
def tw14794191763695128040 := 0
def tw14838211463547120564 := 0
def tw14854586126803167522 := 0
def tw14873659207428804081 := 0
def tw14875838169494307574 := 0
def tw15015622823052179925 := 0
def tw15036796324198781347 := 0
def tw15067981922225022938 := 0
def tw15106599948262418349 := 0
def tw1512834621418321670 := 0
def tw15191538125039075784 := 0
def tw15247478801120568547 := 0
def tw15280741631408018018 := 0
def tw15281534501303852689 := 0
def tw1528637288404430824 := 0
def tw1529371007493391048 := 0
def tw15294701696819478927 := 0
def tw15324976177687600604 := 0
def tw1536891749996627855 := 0
def tw15374585002152275166 := 0
def tw15496997095728812074 := 0
def tw15545072006460035398 := 0
def tw15551481335839463064 := 0
def tw15653955488727622692 := 0
def tw15735432323430103465 := 0
def tw15905950420643688023 := 0
def tw15956891761298685015 := 0
def tw16136771854389207162 := 0
def tw16230357953454527909 := 0
def tw16346905146597690398 := 0
def tw16382185300236038675 := 0
def tw1638219393040324369 := 0
def tw16386172406963475931 := 0
def tw16387613577693294445 := 0
def tw16411354872207733974 := 0
def tw16465974692398816334 := 0
def tw16496970214270436697 := 0
def tw16508287752167126578 := 0
def tw16626861244557711588 := 0
def tw16639966983219446312 := 0
def tw1664435027248964666 := 0
def tw16696098142999793948 := 0
def tw16708478851935653795 := 0
def tw16768396363797843891 := 0
def tw16785020194018581140 := 0
def tw16847950938478387567 := 0
def tw16934470798662945190 := 0
def tw16964671828368748341 := 0
def tw16980918406822231915 := 0
def tw17031013512314277667 := 0
def tw17035054146915268537 := 0
def tw17073077920738542741 := 0
def tw17115692345522028594 := 0
def tw1719019994107686913 := 0
def tw17198357749201459284 := 0
def tw1734042778787803967 := 0
def tw17372634889288042741 := 0
def tw17405826816755201133 := 0
def tw17470915002641959165 := 0
def tw17493735039903674843 := 0
def tw1749558934709968157 := 0
def tw17527266695205011260 := 0
def tw17625738758128597358 := 0
def tw17653466817868414338 := 0
def tw17745006851904164586 := 0
def tw17882424900396128538 := 0
def tw17891271798868465993 := 0
def tw17951383512973120597 := 0
def tw179665261951685934 := 0
def tw18075974638576265056 := 0
def tw18125596678882276990 := 0
def tw1817044425046086383 := 0
def tw18201719326866528971 := 0
def tw18283320478301103956 := 0
def tw18302285384270995299 := 0
def tw18353785018017006544 := 0
def tw18424045135749472595 := 0
def tw18430993516141706236 := 0
def tw18432179197526242562 := 0
def tw18437643359653319806 := 0
def tw18441189307054226575 := 0
def tw1869813862352895727 := 0
def tw1872045896457087480 := 0
def tw1895489873769468623 := 0
def tw1938169313095819509 := 0
def tw2025744594738339558 := 0
def tw2089172035421430592 := 0
def tw2217158006992318042 := 0
def tw2221398141957283702 := 0
def tw2272693560046468438 := 0
def tw2276778089255982604 := 0
def tw228387693543285571 := 0
def tw2308938482137061423 := 0
def tw2310231583144637944 := 0
def tw2397233438654467481 := 0
def tw2484797336353626917 := 0
def tw2519097916859432041 := 0
def tw2566534427744250250 := 0
def tw2575025177334145038 := 0
def tw2586952048855323279 := 0
def tw2597934318858325465 := 0
def tw2635892620431619610 := 0
def tw2711808469228125036 := 0
def tw2753990838263143199 := 0
def tw2759860029324017732 := 0
def tw2877206663071459372 := 0
def tw2897253539491322693 := 0
def tw2946586021376248587 := 0
def tw2961223596935449258 := 0
def tw300368656223521043 := 0
def tw3040172252634488072 := 0
def tw3045118004775577283 := 0
def tw3130347902316946369 := 0
def tw3189985729534840178 := 0
def tw3266311024368203642 := 0
def tw3285968810432440226 := 0
def tw3322486888896613387 := 0
def tw3350964270605777139 := 0
def tw3353959817842757110 := 0
def tw3424515896082328212 := 0
def tw3431654476033360026 := 0
def tw3455974226764011378 := 0
def tw3662271118401898891 := 0
def tw367161418684350123 := 0
def tw3689529592231959036 := 0
def tw3694513690349967124 := 0
def tw3705590553864324330 := 0
def tw3735702686354873315 := 0
def tw3745345816967073901 := 0
def tw3819137263672811354 := 0
def tw3851680359258667269 := 0
def tw3859514655298157003 := 0
def tw390657886662060053 := 0
def tw3908082833410170206 := 0
def tw3945342794858788855 := 0
def tw3951345988888351291 := 0
def tw396462590226472051 := 0
def tw4015139223600953847 := 0
def tw4090284512466130115 := 0
def tw4111402949665285586 := 0
def tw4166566881843271363 := 0
def tw4174436654172677000 := 0
def tw4201114329073445354 := 0
def tw4257304037333526903 := 0
def tw432796918715750088 := 0
def tw4340137544921920284 := 0
def tw4379160503246346105 := 0
def tw4429714906416241256 := 0
def tw4457196959483083068 := 0
def tw4518700024924206992 := 0
def tw4526525951141436881 := 0
def tw4563210059480379034 := 0
def tw4575928287676920013 := 0
def tw4608815665420050727 := 0
def tw4639273172042286239 := 0
def tw4655807535206366851 := 0
def tw4700728428793563037 := 0
def tw4739143043884380110 := 0
def tw4743155575296220243 := 0
def tw4772965945750026186 := 0
def tw4783579262459363095 := 0
def tw4836883883932272690 := 0
def tw4872495332885759947 := 0
def tw494805716265614241 := 0
def tw4949553852613893095 := 0
def tw5108188803179936312 := 0
def tw5123886919798006616 := 0
def tw5229756896349326337 := 0
def tw5230282243529503010 := 0
def tw5233657662051280127 := 0
def tw5276634162357262887 := 0
def tw5394952222841553440 := 0
def tw5434834902224628642 := 0
def tw5479515643213433509 := 0
def tw5509590185197392014 := 0
def tw553275233676698766 := 0
def tw5628623370452730324 := 0
def tw5643976110312381734 := 0
def tw5654817585821475770 := 0
def tw5709789226340909743 := 0
def tw5719104112123316252 := 0
def tw5805726205046858539 := 0
def tw5911830081219904448 := 0
def tw5980265368786352829 := 0
def tw5998877869168096398 := 0
def tw6035342252272894415 := 0
def tw6048556730736499241 := 0
def tw6051526875290047025 := 0
def tw6089066909823675386 := 0
def tw6104962037455144251 := 0
def tw6142906681873499929 := 0
def tw6153151552128199566 := 0
def tw6208297017092811179 := 0
def tw6209866640142837891 := 0
def tw6248414749641430019 := 0
def tw6251980097826918816 := 0
def tw6279312230086129518 := 0
def tw6331376544778635155 := 0
def tw6414026933252951294 := 0
def tw6442003441937894588 := 0
def tw6508724784783495734 := 0
def tw653352815491773946 := 0
def tw6548745692877152038 := 0
def tw6558046949783142945 := 0
def tw6595215542239211231 := 0
def tw6672842646453826886 := 0
def tw667851048469899362 := 0
def tw6738316022717837095 := 0
def tw6766389894921562754 := 0
def tw6822774884435898592 := 0
def tw6884565102661914796 := 0
def tw6885471384230823973 := 0
def tw6900658804443271214 := 0
def tw7046687331329913965 := 0
def tw7248106575151454712 := 0
def tw7299493880588084242 := 0
def tw7318360501078604224 := 0
def tw7332637264744404356 := 0
def tw744832954015531740 := 0
def tw7544060246701715982 := 0
def tw7689796324920045320 := 0
def tw7691009367257025499 := 0
def tw7708973792735457389 := 0
def tw7741413384905619802 := 0
def tw7745017836614675357 := 0
def tw7748051615713404762 := 0
def tw7771386008265483469 := 0
def tw7867587119460851154 := 0
def tw7975401438625761752 := 0
def tw8092328754922521712 := 0
def tw8131142766119418367 := 0
def tw8158649240308432804 := 0
def tw8159493885902514241 := 0
def tw8179230577198836086 := 0
def tw8181616149507344102 := 0
def tw8221561692607624401 := 0
def tw8248011927028242421 := 0
def tw8360048515688106194 := 0
def tw8432327186767827931 := 0
def tw8475700356977584349 := 0
def tw8573602670703320151 := 0
def tw8602882941364735698 := 0
def tw8630222158661479050 := 0
def tw8650853833463945976 := 0
def tw8681624475281837241 := 0
def tw869559606153305269 := 0
def tw8726734787726888965 := 0
def tw8775693291361816740 := 0
def tw8777058070673179339 := 0
def tw8820014240093055711 := 0
def tw8837238191058832775 := 0
def tw8900027314946878458 := 0
def tw8900098080969627485 := 0
def tw8944572482085649305 := 0
def tw9004550358184914729 := 0
def tw9007780433101139668 := 0
def tw9048893518261835658 := 0
def tw9057718085047110972 := 0
def tw9064604314769068909 := 0
def tw9121830299168319841 := 0
def tw9320727213943184985 := 0
def tw936206469448746963 := 0
def tw9369523655621448324 := 0
def tw9391287859335074745 := 0
def tw9468092214842424474 := 0
def tw9494895495256435419 := 0
def tw9501136670367934134 := 0
def tw9602635519207070497 := 0
def tw9624949576687138033 := 0
def tw9661369974350445279 := 0
def tw9664955125612251028 := 0
def tw9673423135862595782 := 0
def tw9829211448679944105 := 0
def tw9988306586820163882 := 0
end PySem.W.Fast
open PySem PySem.W PyProof.Rows
set_option maxRecDepth 100000 in
set_option maxHeartbeats 0 in
theorem PySem.Challenge.cw_flatmessages_s01_answers_holds : PySem.Challenge.rw_flatmessages_s01_answers.Holds := by
  w_on; k_headS; (case hw => exact ⟨[.list [.int 1]], by decide +kernel, by decide +kernel⟩)
  k_fillS
  refine L2.walk_specK (r := PySem.Challenge.rw_flatmessages_s01_answers) (k := 12) (CX := L2.CX0) (ps := ["calls"]) (sp := FmP.spAns) (by decide +kernel) rfl rfl ⟨rfl, by decide, by decide⟩ (fun w h Y => PySem.W.kIn_of Y) ?F ?S (fun _ _ _ _ z => z)
  case F =>
    intro w mg fa h Y KX G hmg
    refine' FmP.all_mk KX G hmg ?c_MARK ?l_MARK ?c_FIRST_PLACE ?c_LONGEST ?c_STEP ?c_NUMBER ?c_BYTES ?c_LIST ?c_RECORD ?c_DEEPEST ?c_MOST_TREES ?c_MOST_SIZE ?c_BEGIN ?c_PUT_NUMBER ?c_PUT_BYTES ?c_LIST_CALL ?c_RECORD_CALL ?c_COPY ?c_SIZES ?c_FINISH ?c_CHECK ?c_KIND ?c_NUMBER_CALL ?c_BYTES_CALL ?c_COUNT ?c_ITEM ?c_DEPTH ?c_LOAD ?c_WHOLE_NUMBERS ?l_WHOLE_NUMBERS ?c_WITH_ROW ?l_WITH_ROW ?b_len ?b_range ?b_all ?b_zip ?b_tuple ?b_list ?b_max ?b_sum ?b_reversed ?a_word_at ?l_word_at ?cd2_word_at ?k_word_at ?a_root_of ?l_root_of ?cd2_root_of ?k_root_of ?a_kind_at ?l_kind_at ?cd2_kind_at ?k_kind_at ?a_count_at ?l_count_at ?cd2_count_at ?k_count_at ?a_rounded_up ?l_rounded_up ?cd2_rounded_up ?k_rounded_up ?a_own_size ?l_own_size ?cd2_own_size ?k_own_size ?a_place_in ?l_place_in ?cd2_place_in ?k_place_in ?a_key_in ?l_key_in ?cd2_key_in ?k_key_in ?a_places_in ?l_places_in ?cd2_places_in ?k_places_in ?a_keys_in ?l_keys_in ?cd2_keys_in ?k_keys_in ?a_bytes_in ?l_bytes_in ?cd2_bytes_in ?k_bytes_in ?a_is_message ?l_is_message ?cd2_is_message ?k_is_message ?a_may_hold_value ?l_may_hold_value ?cd2_may_hold_value ?k_may_hold_value ?a_filling_is_zeros ?l_filling_is_zeros ?cd2_filling_is_zeros ?k_filling_is_zeros ?a_places_are_right ?l_places_are_right ?cd2_places_are_right ?k_places_are_right ?a_keys_rise ?l_keys_rise ?cd2_keys_rise ?k_keys_rise ?a_inside_is_right ?l_inside_is_right ?cd2_inside_is_right ?k_inside_is_right ?a_stands_right ?l_stands_right ?cd2_stands_right ?k_stands_right ?a_number_tree ?l_number_tree ?cd2_number_tree ?k_number_tree ?a_bytes_tree ?l_bytes_tree ?cd2_bytes_tree ?k_bytes_tree ?a_list_tree ?l_list_tree ?cd2_list_tree ?k_list_tree ?a_record_tree ?l_record_tree ?cd2_record_tree ?k_record_tree ?a_tree_of ?l_tree_of ?cd2_tree_of ?k_tree_of ?a_told_tree ?l_told_tree ?cd2_told_tree ?k_told_tree ?a_whole_at ?l_whole_at ?cd2_whole_at ?k_whole_at ?a_word_bytes ?l_word_bytes ?cd2_word_bytes ?k_word_bytes ?a_head_bytes ?l_head_bytes ?cd2_head_bytes ?k_head_bytes ?a_places_within ?l_places_within ?cd2_places_within ?k_places_within ?a_number_bytes ?l_number_bytes ?cd2_number_bytes ?k_number_bytes ?a_filled_bytes ?l_filled_bytes ?cd2_filled_bytes ?k_filled_bytes ?a_list_bytes ?l_list_bytes ?cd2_list_bytes ?k_list_bytes ?a_record_bytes ?l_record_bytes ?cd2_record_bytes ?k_record_bytes ?a_inside_bytes ?l_inside_bytes ?cd2_inside_bytes ?k_inside_bytes ?a_message_of ?l_message_of ?cd2_message_of ?k_message_of ?a_size_together ?l_size_together ?cd2_size_together ?k_size_together ?a_has_room ?l_has_room ?cd2_has_room ?k_has_room ?a_row_answer ?l_row_answer ?cd2_row_answer ?k_row_answer ?a_begin_answer ?l_begin_answer ?cd2_begin_answer ?k_begin_answer ?a_put_answer ?l_put_answer ?cd2_put_answer ?k_put_answer ?a_list_answer ?l_list_answer ?cd2_list_answer ?k_list_answer ?a_record_answer ?l_record_answer ?cd2_record_answer ?k_record_answer ?a_copy_answer ?l_copy_answer ?cd2_copy_answer ?k_copy_answer ?a_sizes_answer ?l_sizes_answer ?cd2_sizes_answer ?k_sizes_answer ?a_finish_answer ?l_finish_answer ?cd2_finish_answer ?k_finish_answer ?a_adopt_answer ?l_adopt_answer ?cd2_adopt_answer ?k_adopt_answer ?a_building_answer ?l_building_answer ?cd2_building_answer ?k_building_answer ?a_check_answer ?l_check_answer ?cd2_check_answer ?k_check_answer ?a_depth_answer ?l_depth_answer ?cd2_depth_answer ?k_depth_answer ?a_number_answer ?l_number_answer ?cd2_number_answer ?k_number_answer ?a_bytes_answer ?l_bytes_answer ?cd2_bytes_answer ?k_bytes_answer ?a_count_answer ?l_count_answer ?cd2_count_answer ?k_count_answer ?a_item_answer ?l_item_answer ?cd2_item_answer ?k_item_answer ?a_field_answer ?l_field_answer ?cd2_field_answer ?k_field_answer ?a_value_answer ?l_value_answer ?cd2_value_answer ?k_value_answer ?a_asking_answer ?l_asking_answer ?cd2_asking_answer ?k_asking_answer ?a_load_answer ?l_load_answer ?cd2_load_answer ?k_load_answer ?a_call_answer ?l_call_answer ?cd2_call_answer ?k_call_answer ?a_answers ?l_answers ?cd2_answers ?k_answers ?a_Tree ?a_initTree ?i_initTree ?l_initTree ?cd2_initTree ?k_initTree ?pg_Tree ?hd_Tree ?po_Tree ?sa_Tree ?mk_Tree ?kc_Tree ?n_kind ?n_count ?n_content ?n_inner ?n_depth ?n_size ?a_Holder ?a_initHolder ?i_initHolder ?l_initHolder ?cd2_initHolder ?k_initHolder ?pg_Holder ?hd_Holder ?po_Holder ?sa_Holder ?mk_Holder ?kc_Holder ?n_data ?n_trees
    (case c_MARK => k_is)
    (case l_MARK => k_is)
    (case c_FIRST_PLACE => k_is)
    (case c_LONGEST => k_is)
    (case c_STEP => k_is)
    (case c_NUMBER => k_is)
    (case c_BYTES => k_is)
    (case c_LIST => k_is)
    (case c_RECORD => k_is)
    (case c_DEEPEST => k_is)
    (case c_MOST_TREES => k_is)
    (case c_MOST_SIZE => k_is)
    (case c_BEGIN => k_is)
    (case c_PUT_NUMBER => k_is)
    (case c_PUT_BYTES => k_is)
    (case c_LIST_CALL => k_is)
    (case c_RECORD_CALL => k_is)
    (case c_COPY => k_is)
    (case c_SIZES => k_is)
    (case c_FINISH => k_is)
    (case c_CHECK => k_is)
    (case c_KIND => k_is)
    (case c_NUMBER_CALL => k_is)
    (case c_BYTES_CALL => k_is)
    (case c_COUNT => k_is)
    (case c_ITEM => k_is)
    (case c_DEPTH => k_is)
    (case c_LOAD => k_is)
    (case c_WHOLE_NUMBERS => k_is)
    (case l_WHOLE_NUMBERS => k_is)
    (case c_WITH_ROW => k_is)
    (case l_WITH_ROW => k_is)
    (case b_len => k_is)
    (case b_range => k_is)
    (case b_all => k_is)
    (case b_zip => k_is)
    (case b_tuple => k_is)
    (case b_list => k_is)
    (case b_max => k_is)
    (case b_sum => k_is)
    (case b_reversed => k_is)
    (case a_word_at => k_is)
    (case l_word_at => k_is)
    (case cd2_word_at => k_is)
    (case k_word_at => k_is)
    (case a_root_of => k_is)
    (case l_root_of => k_is)
    (case cd2_root_of => k_is)
    (case k_root_of => k_is)
    (case a_kind_at => k_is)
    (case l_kind_at => k_is)
    (case cd2_kind_at => k_is)
    (case k_kind_at => k_is)
    (case a_count_at => k_is)
    (case l_count_at => k_is)
    (case cd2_count_at => k_is)
    (case k_count_at => k_is)
    (case a_rounded_up => k_is)
    (case l_rounded_up => k_is)
    (case cd2_rounded_up => k_is)
    (case k_rounded_up => k_is)
    (case a_own_size => k_is)
    (case l_own_size => k_is)
    (case cd2_own_size => k_is)
    (case k_own_size => k_is)
    (case a_place_in => k_is)
    (case l_place_in => k_is)
    (case cd2_place_in => k_is)
    (case k_place_in => k_is)
    (case a_key_in => k_is)
    (case l_key_in => k_is)
    (case cd2_key_in => k_is)
    (case k_key_in => k_is)
    (case a_places_in => k_is)
    (case l_places_in => k_is)
    (case cd2_places_in => k_is)
    (case k_places_in => k_is)
    (case a_keys_in => k_is)
    (case l_keys_in => k_is)
    (case cd2_keys_in => k_is)
    (case k_keys_in => k_is)
    (case a_bytes_in => k_is)
    (case l_bytes_in => k_is)
    (case cd2_bytes_in => k_is)
    (case k_bytes_in => k_is)
    (case a_is_message => k_is)
    (case l_is_message => k_is)
    (case cd2_is_message => k_is)
    (case k_is_message => k_is)
    (case a_may_hold_value => k_is)
    (case l_may_hold_value => k_is)
    (case cd2_may_hold_value => k_is)
    (case k_may_hold_value => k_is)
    (case a_filling_is_zeros => k_is)
    (case l_filling_is_zeros => k_is)
    (case cd2_filling_is_zeros => k_is)
    (case k_filling_is_zeros => k_is)
    (case a_places_are_right => k_is)
    (case l_places_are_right => k_is)
    (case cd2_places_are_right => k_is)
    (case k_places_are_right => k_is)
    (case a_keys_rise => k_is)
    (case l_keys_rise => k_is)
    (case cd2_keys_rise => k_is)
    (case k_keys_rise => k_is)
    (case a_inside_is_right => k_is)
    (case l_inside_is_right => k_is)
    (case cd2_inside_is_right => k_is)
    (case k_inside_is_right => k_is)
    (case a_stands_right => k_is)
    (case l_stands_right => k_is)
    (case cd2_stands_right => k_is)
    (case k_stands_right => k_is)
    (case a_number_tree => k_is)
    (case l_number_tree => k_is)
    (case cd2_number_tree => k_is)
    (case k_number_tree => k_is)
    (case a_bytes_tree => k_is)
    (case l_bytes_tree => k_is)
    (case cd2_bytes_tree => k_is)
    (case k_bytes_tree => k_is)
    (case a_list_tree => k_is)
    (case l_list_tree => k_is)
    (case cd2_list_tree => k_is)
    (case k_list_tree => k_is)
    (case a_record_tree => k_is)
    (case l_record_tree => k_is)
    (case cd2_record_tree => k_is)
    (case k_record_tree => k_is)
    (case a_tree_of => k_is)
    (case l_tree_of => k_is)
    (case cd2_tree_of => k_is)
    (case k_tree_of => k_is)
    (case a_told_tree => k_is)
    (case l_told_tree => k_is)
    (case cd2_told_tree => k_is)
    (case k_told_tree => k_is)
    (case a_whole_at => k_is)
    (case l_whole_at => k_is)
    (case cd2_whole_at => k_is)
    (case k_whole_at => k_is)
    (case a_word_bytes => k_is)
    (case l_word_bytes => k_is)
    (case cd2_word_bytes => k_is)
    (case k_word_bytes => k_is)
    (case a_head_bytes => k_is)
    (case l_head_bytes => k_is)
    (case cd2_head_bytes => k_is)
    (case k_head_bytes => k_is)
    (case a_places_within => k_is)
    (case l_places_within => k_is)
    (case cd2_places_within => k_is)
    (case k_places_within => k_is)
    (case a_number_bytes => k_is)
    (case l_number_bytes => k_is)
    (case cd2_number_bytes => k_is)
    (case k_number_bytes => k_is)
    (case a_filled_bytes => k_is)
    (case l_filled_bytes => k_is)
    (case cd2_filled_bytes => k_is)
    (case k_filled_bytes => k_is)
    (case a_list_bytes => k_is)
    (case l_list_bytes => k_is)
    (case cd2_list_bytes => k_is)
    (case k_list_bytes => k_is)
    (case a_record_bytes => k_is)
    (case l_record_bytes => k_is)
    (case cd2_record_bytes => k_is)
    (case k_record_bytes => k_is)
    (case a_inside_bytes => k_is)
    (case l_inside_bytes => k_is)
    (case cd2_inside_bytes => k_is)
    (case k_inside_bytes => k_is)
    (case a_message_of => k_is)
    (case l_message_of => k_is)
    (case cd2_message_of => k_is)
    (case k_message_of => k_is)
    (case a_size_together => k_is)
    (case l_size_together => k_is)
    (case cd2_size_together => k_is)
    (case k_size_together => k_is)
    (case a_has_room => k_is)
    (case l_has_room => k_is)
    (case cd2_has_room => k_is)
    (case k_has_room => k_is)
    (case a_row_answer => k_is)
    (case l_row_answer => k_is)
    (case cd2_row_answer => k_is)
    (case k_row_answer => k_is)
    (case a_begin_answer => k_is)
    (case l_begin_answer => k_is)
    (case cd2_begin_answer => k_is)
    (case k_begin_answer => k_is)
    (case a_put_answer => k_is)
    (case l_put_answer => k_is)
    (case cd2_put_answer => k_is)
    (case k_put_answer => k_is)
    (case a_list_answer => k_is)
    (case l_list_answer => k_is)
    (case cd2_list_answer => k_is)
    (case k_list_answer => k_is)
    (case a_record_answer => k_is)
    (case l_record_answer => k_is)
    (case cd2_record_answer => k_is)
    (case k_record_answer => k_is)
    (case a_copy_answer => k_is)
    (case l_copy_answer => k_is)
    (case cd2_copy_answer => k_is)
    (case k_copy_answer => k_is)
    (case a_sizes_answer => k_is)
    (case l_sizes_answer => k_is)
    (case cd2_sizes_answer => k_is)
    (case k_sizes_answer => k_is)
    (case a_finish_answer => k_is)
    (case l_finish_answer => k_is)
    (case cd2_finish_answer => k_is)
    (case k_finish_answer => k_is)
    (case a_adopt_answer => k_is)
    (case l_adopt_answer => k_is)
    (case cd2_adopt_answer => k_is)
    (case k_adopt_answer => k_is)
    (case a_building_answer => k_is)
    (case l_building_answer => k_is)
    (case cd2_building_answer => k_is)
    (case k_building_answer => k_is)
    (case a_check_answer => k_is)
    (case l_check_answer => k_is)
    (case cd2_check_answer => k_is)
    (case k_check_answer => k_is)
    (case a_depth_answer => k_is)
    (case l_depth_answer => k_is)
    (case cd2_depth_answer => k_is)
    (case k_depth_answer => k_is)
    (case a_number_answer => k_is)
    (case l_number_answer => k_is)
    (case cd2_number_answer => k_is)
    (case k_number_answer => k_is)
    (case a_bytes_answer => k_is)
    (case l_bytes_answer => k_is)
    (case cd2_bytes_answer => k_is)
    (case k_bytes_answer => k_is)
    (case a_count_answer => k_is)
    (case l_count_answer => k_is)
    (case cd2_count_answer => k_is)
    (case k_count_answer => k_is)
    (case a_item_answer => k_is)
    (case l_item_answer => k_is)
    (case cd2_item_answer => k_is)
    (case k_item_answer => k_is)
    (case a_field_answer => k_is)
    (case l_field_answer => k_is)
    (case cd2_field_answer => k_is)
    (case k_field_answer => k_is)
    (case a_value_answer => k_is)
    (case l_value_answer => k_is)
    (case cd2_value_answer => k_is)
    (case k_value_answer => k_is)
    (case a_asking_answer => k_is)
    (case l_asking_answer => k_is)
    (case cd2_asking_answer => k_is)
    (case k_asking_answer => k_is)
    (case a_load_answer => k_is)
    (case l_load_answer => k_is)
    (case cd2_load_answer => k_is)
    (case k_load_answer => k_is)
    (case a_call_answer => k_is)
    (case l_call_answer => k_is)
    (case cd2_call_answer => k_is)
    (case k_call_answer => k_is)
    (case a_answers => k_is)
    (case l_answers => k_is)
    (case cd2_answers => k_is)
    (case k_answers => k_is)
    (case a_Tree => k_is)
    (case a_initTree => k_is)
    (case i_initTree => k_is)
    (case l_initTree => k_is)
    (case cd2_initTree => k_is)
    (case k_initTree => k_is)
    (case pg_Tree => k_is)
    (case hd_Tree => k_is)
    (case po_Tree => k_is)
    (case sa_Tree => k_is)
    (case mk_Tree => k_is)
    (case kc_Tree => k_is)
    (case n_kind => k_is)
    (case n_count => k_is)
    (case n_content => k_is)
    (case n_inner => k_is)
    (case n_depth => k_is)
    (case n_size => k_is)
    (case a_Holder => k_is)
    (case a_initHolder => k_is)
    (case i_initHolder => k_is)
    (case l_initHolder => k_is)
    (case cd2_initHolder => k_is)
    (case k_initHolder => k_is)
    (case pg_Holder => k_is)
    (case hd_Holder => k_is)
    (case po_Holder => k_is)
    (case sa_Holder => k_is)
    (case mk_Holder => k_is)
    (case kc_Holder => k_is)
    (case n_data => k_is)
    (case n_trees => k_is)
  case S =>
    intro K H xs a hO hwi hask hx
    cases hx with
    | cons h1 h2 =>
      cases h2
      cases h1 with
      | lst hs ha =>
        have e := L2.ints_dw a.1 _ ha
        subst e
        have q : ((Codec.inLen 0 30000 a.1 && a.1.all (Codec.inInt 0 4294967295)) && true) = true := hwi
        rw [Bool.and_eq_true, Bool.and_eq_true] at q
        exact ⟨_, a.1, rfl, hs, (Codec.inNat_iff.mp q.1.1).2, hask, fun H' p hp => .lst (L2.SqL.of hp) (L2.dw_ints _)⟩
