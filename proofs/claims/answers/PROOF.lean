import PyProof.Rows.All
import Wide.All
import OpenK.AllK
import Wide.FinOn
import Kp396Spec
import PyKp396
import PyWideLaws
import HandS.Base
import HandS.Call
import HandS.List
import HandS.Comp
import HandS.Ends
import HandS.Words
import HandS.WordsList
import PySem.Challenge.RW0_hoistmoves_s01_answers
import HandS.Iter
import HandS.Walk
import HandS.Lambda
import HandS.Nested
import HandS.NoneIn
import HandS.CallLocal
import HandS.More
import KE.HD4
import HandS.HeadHook4
import HandS.Spec
import Open.SpecLaws
import KE.OsGo
import KE.KNestM
import PySem.Challenge.RW_hoistmoves_s01_answers
set_option Elab.async false
set_option maxRecDepth 100000
/-! The mathematics: the program's search against the specification's, over plain lists. -/
namespace HM
open Kp396

/-- minutes from the start of move k until the hoist can start move j -/
def reach (v : Line) (k j : Nat) : Nat := v.moveTime + emptyMove v (k + 1) j

theorem mod_sub_int (x y p : Nat) (hp : 0 < p) : (((y + (x / p + 1) * p - x) % p : Nat) : Int) = ((y : Int) - x) % p := by
  have h1 : x < (x / p + 1) * p := by
    have := Nat.div_add_mod x p
    have := Nat.mod_lt x hp
    rw [Nat.add_mul, Nat.one_mul, Nat.mul_comm]
    omega
  have h2 : ((y + (x / p + 1) * p - x : Nat) : Int) = ((y : Int) - x) + ((x / p + 1 : Nat) : Int) * p := by
    rw [Int.ofNat_sub (by omega)]
    push_cast
    omega
  rw [Int.natCast_emod, h2, Int.add_mul_emod_self_right]

/-- what the program asks of two moves -/
def fitsI (v : Line) (p : Nat) (k j : Nat) (x y : Int) : Bool :=
  decide ((reach v k j : Int) ≤ (y - x) % p) && decide ((y - x) % p ≤ (p : Int) - reach v j k)

theorem neg_mod (a p : Int) (hp : 0 < p) (h : a % p ≠ 0) : (-a) % p = p - a % p := by
  have h1 := Int.emod_nonneg a (by omega : p ≠ 0)
  have h2 := Int.emod_lt_of_pos a hp
  have h3 : -a = (p - a % p) + p * (-(a / p) - 1) := by
    have := Int.mul_ediv_add_emod a p
    rw [Int.mul_sub, Int.mul_neg]
    omega
  rw [h3, Int.add_mul_emod_self_left, Int.emod_eq_of_lt (by omega) (by omega)]

theorem fits_nat (a b p m e1 e2 : Nat) (z w : Int) (hm : 0 < m) (h1 : (a : Int) = z) (h2 : (b : Int) = w) (h3 : z = 0 ∨ w = p - z) :
    (decide (a ≠ 0) && decide (m + e1 ≤ a) && decide (m + e2 ≤ b)) = (decide (((m + e1 : Nat) : Int) ≤ z) && decide (z ≤ (p : Int) - ((m + e2 : Nat) : Int))) := by
  rw [Bool.eq_iff_iff]
  simp only [Bool.and_eq_true, decide_eq_true_eq]
  constructor
  · rintro ⟨⟨q0, q1⟩, q2⟩
    constructor <;> omega
  · rintro ⟨q1, q2⟩
    refine ⟨⟨?_, ?_⟩, ?_⟩ <;> omega
theorem movesFit_eq (v : Line) (p k x j y : Nat) (hp : 0 < p) (hm : 0 < v.moveTime) : movesFit v p k x j y = fitsI v p k j x y := by
  refine fits_nat _ _ p v.moveTime (emptyMove v (k + 1) j) (emptyMove v (j + 1) k) _ (((x : Int) - y) % p) hm (mod_sub_int x y p hp) (mod_sub_int y x p hp) ?_
  by_cases h0 : ((y : Int) - x) % p = 0
  · exact .inl h0
  · have e3 : ((x : Int) - y) = -((y : Int) - x) := by omega
    rw [e3, neg_mod _ _ (by omega) h0]
    exact .inr rfl

/-! ### start times -/
theorem startTimes_length (v : Line) (l : List Nat) : (startTimes v l).length = l.length + 1 := by
  simp [startTimes]
theorem startTimes_get (v : Line) (l : List Nat) (k : Nat) (h : k ≤ l.length) : (startTimes v l)[k]? = some ((l.take k).sum + k * v.moveTime) := by
  unfold startTimes
  rw [List.getElem?_map, List.getElem?_range (by omega)]
  rfl
theorem startTimes_nil (v : Line) : startTimes v [] = [0] := by simp [startTimes]
theorem startTimes_snoc (v : Line) (l : List Nat) (s : Nat) : startTimes v (l ++ [s]) = startTimes v l ++ [l.sum + l.length * v.moveTime + v.moveTime + s] := by
  apply List.ext_getElem?
  intro k
  by_cases h : k ≤ l.length
  · rw [startTimes_get _ _ _ (by simp; omega), List.getElem?_append_left (by rw [startTimes_length]; omega), startTimes_get _ _ _ h, List.take_append_of_le_length h]
  · by_cases h2 : k = l.length + 1
    · subst h2
      rw [startTimes_get _ _ _ (by simp), List.getElem?_append_right (by rw [startTimes_length]; omega), startTimes_length]
      have e : (l ++ [s]).take (l.length + 1) = l ++ [s] := List.take_of_length_le (by simp)
      rw [e, List.sum_append]
      simp [Nat.add_mul]
      omega
    · rw [List.getElem?_eq_none (by rw [startTimes_length]; simp; omega), List.getElem?_eq_none (by simp [startTimes_length]; omega)]
theorem startTimes_last (v : Line) (l : List Nat) : (startTimes v l)[l.length]? = some (l.sum + l.length * v.moveTime) := by
  rw [startTimes_get _ _ _ (Nat.le_refl _), List.take_length]
theorem startTimes_prefix (v : Line) (l r : List Nat) (k : Nat) (h : k ≤ l.length) : (startTimes v (l ++ r))[k]? = (startTimes v l)[k]? := by
  rw [startTimes_get _ _ _ (by simp; omega), startTimes_get _ _ _ h, List.take_append_of_le_length h]

/-! ### the first conflict -/
/-- the moves behind k -/
def behind (n k : Nat) : List Nat := (List.range n).filter fun j => decide (k < j)
theorem behind_eq (n k : Nat) : behind n k = List.range' (k + 1) (n - (k + 1)) := by
  unfold behind
  induction n with
  | zero => simp
  | succ n ih =>
    rw [List.range_succ, List.filter_append, ih]
    by_cases h : k < n
    · rw [List.filter_cons_of_pos (by simpa using h), List.filter_nil]
      have e : n + 1 - (k + 1) = (n - (k + 1)) + 1 := by omega
      rw [e, List.range'_concat]
      congr 2
      omega
    · rw [List.filter_cons_of_neg (by simpa using h), List.filter_nil]
      have e : n + 1 - (k + 1) = 0 := by omega
      have e2 : n - (k + 1) = 0 := by omega
      rw [e, e2]
      rfl
def tm (v : Line) (l : List Nat) (k : Nat) : Nat := (startTimes v l).getD k 0
def clash (v : Line) (p : Nat) (l : List Nat) (x : Nat × Nat) : Bool := !movesFit v p x.1 (tm v l x.1) x.2 (tm v l x.2)
theorem firstConflict_eq (v : Line) (p : Nat) (l : List Nat) :
    firstConflict v p l = ((List.range (l.length + 1)).flatMap fun k => (behind (l.length + 1) k).map fun j => (k, j)).find? (clash v p l) := by
  unfold firstConflict
  simp only [startTimes_length]
  rfl
theorem noConflict_iff (v : Line) (p : Nat) (l : List Nat) : firstConflict v p l = none ↔ ∀ k j, k < j → j ≤ l.length → movesFit v p k (tm v l k) j (tm v l j) = true := by
  rw [firstConflict_eq, List.find?_eq_none]
  constructor
  · intro h k j hk hj
    have h1 : (k, j) ∈ (List.range (l.length + 1)).flatMap fun k => (behind (l.length + 1) k).map fun j => (k, j) := by
      rw [List.mem_flatMap]
      refine ⟨k, List.mem_range.mpr (by omega), List.mem_map.mpr ⟨j, ?_, rfl⟩⟩
      unfold behind
      rw [List.mem_filter]
      exact ⟨List.mem_range.mpr (by omega), by simpa using hk⟩
    have h2 := h _ h1
    unfold clash at h2
    simpa using h2
  · intro h x hx
    rw [List.mem_flatMap] at hx
    obtain ⟨k, hk, hx⟩ := hx
    rw [List.mem_map] at hx
    obtain ⟨j, hj, rfl⟩ := hx
    unfold behind at hj
    rw [List.mem_filter] at hj
    have h1 := List.mem_range.mp hj.1
    have h2 : k < j := by simpa using hj.2
    unfold clash
    simp [h k j h2 (by omega)]
theorem tm_prefix (v : Line) (l r : List Nat) (k : Nat) (h : k ≤ l.length) : tm v (l ++ r) k = tm v l k := by
  unfold tm
  rw [List.getD_eq_getElem?_getD, List.getD_eq_getElem?_getD, startTimes_prefix v l r k h]
theorem tm_snoc (v : Line) (l : List Nat) (s : Nat) : tm v (l ++ [s]) (l.length + 1) = tm v l l.length + v.moveTime + s := by
  unfold tm
  rw [List.getD_eq_getElem?_getD, List.getD_eq_getElem?_getD, startTimes_last, startTimes_snoc, List.getElem?_append_right (by rw [startTimes_length]; omega), startTimes_length]
  simp
/-- one more stay: the new move against each of the earlier ones -/
theorem noConflict_snoc (v : Line) (p : Nat) (l : List Nat) (s : Nat) (h0 : firstConflict v p l = none) :
    (firstConflict v p (l ++ [s])).isNone = (List.range (l.length + 1)).all fun k => movesFit v p k (tm v l k) (l.length + 1) (tm v l l.length + v.moveTime + s) := by
  rw [Bool.eq_iff_iff, Option.isNone_iff_eq_none, noConflict_iff, List.all_eq_true]
  rw [noConflict_iff] at h0
  constructor
  · intro h k hk
    have hk := List.mem_range.mp hk
    have q := h k (l.length + 1) hk (by simp)
    rw [tm_prefix v l [s] k (by omega), tm_snoc] at q
    exact q
  · intro h k j hk hj
    rw [List.length_append] at hj
    have hj : j ≤ l.length + 1 := hj
    by_cases e : j = l.length + 1
    · subst e
      have q := h k (List.mem_range.mpr hk)
      rw [tm_prefix v l [s] k (by omega), tm_snoc]
      exact q
    · rw [tm_prefix v l [s] k (by omega), tm_prefix v l [s] j (by omega)]
      exact h0 k j hk (by omega)
end HM
/-! The search by depth and the specification's search by breadth. -/
namespace HM
open Kp396

def fitsAll (v : Line) (p : Nat) (l : List Nat) (s : Nat) (k : Nat) : Bool := (List.range k).all fun j => movesFit v p j (tm v l j) (l.length + 1) (tm v l l.length + v.moveTime + s)
def stays (v : Line) (p c : Nat) : List Nat := (List.range (min (windowAt v c).most (p - 1) + 1 - (windowAt v c).least)).map fun i => (windowAt v c).least + i
def nexts (v : Line) (p : Nat) (l : List Nat) : List Nat := (stays v p l.length).filter fun s => fitsAll v p l s (l.length + 1)
def ext (v : Line) (p : Nat) : Nat → List Nat → List (List Nat)
  | 0, l => [l]
  | d + 1, l => (nexts v p l).flatMap fun s => ext v p d (l ++ [s])

/-- limits as the operations keep them -/
structure Ok (v : Line) : Prop where
  n4 : v.pits.length ≤ 4
  win : ∀ w ∈ v.pits, validWindow w.least w.most = true
  spd : validSpeed v.moveTime v.emptyTime = true
theorem Ok.mt {v : Line} (h : Ok v) : 1 ≤ v.moveTime ∧ v.moveTime ≤ 9 ∧ v.emptyTime ≤ 4 := by
  have := h.spd
  unfold validSpeed at this
  simp only [Bool.and_eq_true, decide_eq_true_eq] at this
  omega
theorem Ok.wa {v : Line} (h : Ok v) {c : Nat} (hc : c < v.pits.length) : 1 ≤ (windowAt v c).least ∧ (windowAt v c).least ≤ (windowAt v c).most ∧ (windowAt v c).most ≤ 30 := by
  have e : windowAt v c = v.pits[c] := by
    unfold windowAt
    rw [List.getD_eq_getElem?_getD, List.getElem?_eq_getElem hc]
    rfl
  have := h.win _ (List.getElem_mem hc)
  rw [← e] at this
  unfold validWindow at this
  simp only [Bool.and_eq_true, decide_eq_true_eq] at this
  omega

theorem range_filter_lt (n m : Nat) : (List.range n).filter (fun i => decide (i < m)) = List.range (min n m) := by
  induction n with
  | zero => simp
  | succ n ih =>
    rw [List.range_succ, List.filter_append, ih]
    by_cases h : n < m
    · rw [List.filter_cons_of_pos (by simpa using h), List.filter_nil]
      have e : min (n + 1) m = min n m + 1 := by omega
      have e2 : min n m = n := by omega
      rw [e, e2, List.range_succ]
    · rw [List.filter_cons_of_neg (by simpa using h), List.filter_nil, List.append_nil]
      congr 1
      omega
theorem stays_eq (v : Line) (p c : Nat) (hp : 0 < p) (hw : (windowAt v c).least ≤ (windowAt v c).most) :
    ((List.range ((windowAt v c).most - (windowAt v c).least + 1)).map fun i => (windowAt v c).least + i).filter (fun s => decide (s < p)) = stays v p c := by
  unfold stays
  generalize (windowAt v c).least = a at *
  generalize (windowAt v c).most = b at *
  rw [List.filter_map]
  congr 1
  have e : ((fun s => decide (s < p)) ∘ fun i => a + i) = fun i => decide (i < p - a) := by
    funext i
    simp only [Function.comp]
    congr 1
    exact propext ⟨fun h => by omega, fun h => by omega⟩
  rw [e, range_filter_lt]
  congr 1
  omega

theorem flatMap_congr_mem {α β : Type} {l : List α} {f g : α → List β} (h : ∀ x ∈ l, f x = g x) : l.flatMap f = l.flatMap g := by
  induction l with
  | nil => rfl
  | cons a l ih =>
    rw [List.flatMap_cons, List.flatMap_cons, h a (List.mem_cons_self ..), ih fun x hx => h x (List.mem_cons_of_mem _ hx)]
theorem filter_congr_mem {α : Type} {l : List α} {f g : α → Bool} (h : ∀ x ∈ l, f x = g x) : l.filter f = l.filter g := List.filter_congr h

/-- a plan begun: no conflict, each stay below the period -/
structure Begun (v : Line) (p c : Nat) (l : List Nat) : Prop where
  len : l.length = c
  low : ∀ x ∈ l, x < p
  free : firstConflict v p l = none
theorem begun_nil (v : Line) (p : Nat) : Begun v p 0 [] := by
  refine ⟨rfl, (fun x hx => by cases hx), ?_⟩
  rw [noConflict_iff]
  intro k j h1 h2
  have : j ≤ 0 := h2
  omega
theorem begun_snoc {v : Line} {p c : Nat} {l : List Nat} {s : Nat} (hp : 0 < p) (b : Begun v p c l) (h : s ∈ nexts v p l) : Begun v p (c + 1) (l ++ [s]) := by
  unfold nexts at h
  rw [List.mem_filter] at h
  obtain ⟨h1, h2⟩ := h
  refine ⟨by rw [List.length_append, b.len]; rfl, fun x hx => ?_, ?_⟩
  · rw [List.mem_append] at hx
    rcases hx with hx | hx
    · exact b.low x hx
    · have e : x = s := by simpa using hx
      subst e
      unfold stays at h1
      rw [List.mem_map] at h1
      obtain ⟨i, hi, e⟩ := h1
      have := List.mem_range.mp hi
      omega
  · have := noConflict_snoc v p l s b.free
    rw [← Option.isNone_iff_eq_none, this]
    exact h2
theorem step_eq {v : Line} {p c : Nat} {l : List Nat} (hp : 0 < p) (b : Begun v p c l) (hw : (windowAt v c).least ≤ (windowAt v c).most) :
    (((List.range ((windowAt v l.length).most - (windowAt v l.length).least + 1)).map fun i => l ++ [(windowAt v l.length).least + i]).filter fun r => r.all (fun x => decide (x < p)) && (firstConflict v p r).isNone) = (nexts v p l).map fun s => l ++ [s] := by
  have e0 : ((List.range ((windowAt v l.length).most - (windowAt v l.length).least + 1)).map fun i => l ++ [(windowAt v l.length).least + i]) =
      (((List.range ((windowAt v l.length).most - (windowAt v l.length).least + 1)).map fun i => (windowAt v l.length).least + i)).map fun s => l ++ [s] := by
    rw [List.map_map]
    rfl
  rw [e0, List.filter_map]
  congr 1
  unfold nexts
  rw [b.len] at *
  rw [← stays_eq v p c hp hw, List.filter_filter]
  refine filter_congr_mem fun s _ => ?_
  simp only [Function.comp]
  rw [noConflict_snoc v p l s b.free, List.all_append, b.len]
  have e1 : (l.all fun x => decide (x < p)) = true := by
    rw [List.all_eq_true]
    intro x hx
    simpa using b.low x hx
  rw [e1]
  unfold fitsAll
  rw [b.len]
  simp only [List.all_cons, List.all_nil, Bool.and_true, Bool.true_and, Bool.and_comm]

theorem begun_mem {v : Line} {p : Nat} (hp : 0 < p) (ok : Ok v) : ∀ c, c ≤ v.pits.length → ∀ l ∈ partialPlans v p c, Begun v p c l
  | 0, _, l, h => by
    have e : l = [] := by simpa [partialPlans] using h
    subst e
    exact begun_nil v p
  | c + 1, hc, l, h => by
    unfold partialPlans at h
    rw [List.mem_flatMap] at h
    obtain ⟨l0, h0, h⟩ := h
    have b := begun_mem hp ok c (by omega) l0 h0
    simp only at h
    rw [step_eq hp b (ok.wa (by omega)).2.1, List.mem_map] at h
    obtain ⟨s, hs, e⟩ := h
    subst e
    exact begun_snoc hp b hs
theorem partial_succ {v : Line} {p : Nat} (hp : 0 < p) (ok : Ok v) (c : Nat) (hc : c < v.pits.length) :
    partialPlans v p (c + 1) = (partialPlans v p c).flatMap fun l => (nexts v p l).map fun s => l ++ [s] := by
  show ((partialPlans v p c).flatMap fun l => _) = _
  refine flatMap_congr_mem fun l hl => ?_
  exact step_eq hp (begun_mem hp ok c (by omega) l hl) (ok.wa hc).2.1
theorem partial_ext {v : Line} {p : Nat} (hp : 0 < p) (ok : Ok v) : ∀ d c, c + d ≤ v.pits.length → partialPlans v p (c + d) = (partialPlans v p c).flatMap (ext v p d)
  | 0, c, _ => by
    show partialPlans v p c = (partialPlans v p c).flatMap fun l => [l]
    simp
  | d + 1, c, h => by
    have e : c + (d + 1) = (c + 1) + d := by omega
    rw [e, partial_ext hp ok d (c + 1) (by omega), partial_succ hp ok c (by omega), List.flatMap_assoc]
    refine flatMap_congr_mem fun l _ => ?_
    rw [List.flatMap_map]
    rfl
theorem feasible_eq {v : Line} {p : Nat} (hp : 0 < p) (ok : Ok v) : feasiblePlans v p = if singleMoveFits v p then ext v p v.pits.length [] else [] := by
  unfold feasiblePlans
  have e := partial_ext hp ok v.pits.length 0 (by omega)
  rw [Nat.zero_add] at e
  rw [e]
  have e2 : (partialPlans v p 0).flatMap (ext v p v.pits.length) = ext v p v.pits.length [] := by
    show [[]].flatMap _ = _
    simp
  rw [e2]
theorem ext_length {v : Line} {p : Nat} : ∀ d l r, r ∈ ext v p d l → r.length = l.length + d
  | 0, l, r, h => by
    have e : r = l := by simpa [ext] using h
    subst e
    rfl
  | d + 1, l, r, h => by
    unfold ext at h
    rw [List.mem_flatMap] at h
    obtain ⟨s, _, h⟩ := h
    have := ext_length d (l ++ [s]) r h
    rw [List.length_append] at this
    have e : [s].length = 1 := rfl
    omega
theorem ext_low {v : Line} {p : Nat} (hp : 0 < p) : ∀ d l r, r ∈ ext v p d l → (∀ x ∈ l, x < p) → ∀ x ∈ r, x < p
  | 0, l, r, h, hl => by
    have e : r = l := by simpa [ext] using h
    subst e
    exact hl
  | d + 1, l, r, h, hl => by
    unfold ext at h
    rw [List.mem_flatMap] at h
    obtain ⟨s, hs, h⟩ := h
    refine ext_low hp d (l ++ [s]) r h fun x hx => ?_
    rw [List.mem_append] at hx
    rcases hx with hx | hx
    · exact hl x hx
    · have e : x = s := by simpa using hx
      subst e
      unfold nexts at hs
      rw [List.mem_filter] at hs
      obtain ⟨h1, _⟩ := hs
      unfold stays at h1
      rw [List.mem_map] at h1
      obtain ⟨i, hi, e⟩ := h1
      have := List.mem_range.mp hi
      omega

/-! ### the search by depth, turn by turn -/
theorem head_found {α β : Type} {xs : List α} {f : α → List β} {i : Nat} {x : α} {y : β} (hx : xs[i]? = some x) (h0 : ∀ z ∈ xs.take i, f z = []) (h1 : (f x).head? = some y) : (xs.flatMap f).head? = some y := by
  have hi := (List.getElem?_eq_some_iff.mp hx).1
  have e : xs = xs.take i ++ x :: xs.drop (i + 1) := by
    have := (List.getElem?_eq_some_iff.mp hx).2
    rw [← this, List.getElem_cons_drop, List.take_append_drop]
  rw [e, List.flatMap_append, List.flatMap_cons]
  have e2 : (xs.take i).flatMap f = [] := by
    rw [List.flatMap_eq_nil_iff]
    exact h0
  rw [e2, List.nil_append]
  cases hf : f x with
  | nil => rw [hf] at h1; cases h1
  | cons a r => rw [hf] at h1; exact h1
theorem head_none {α β : Type} {xs : List α} {f : α → List β} (h0 : ∀ z ∈ xs, f z = []) : (xs.flatMap f).head? = none := by
  have e2 : xs.flatMap f = [] := by
    rw [List.flatMap_eq_nil_iff]
    exact h0
  rw [e2]
  rfl
theorem nil_of_head {α : Type} {xs : List α} (h : xs.head? = none) : xs = [] := List.head?_eq_none_iff.mp h
theorem take_more {α : Type} {l : List α} {i : Nat} {x : α} (h : l[i]? = some x) : l.take (i + 1) = l.take i ++ [x] := by
  rw [List.take_succ, h]
  rfl
theorem upto_more {α : Type} {P : α → Prop} {l : List α} {i : Nat} {x : α} (h : l[i]? = some x) (h0 : ∀ z ∈ l.take i, P z) (hx : P x) : ∀ z ∈ l.take (i + 1), P z := by
  intro z hz
  rw [take_more h, List.mem_append] at hz
  rcases hz with hz | hz
  · exact h0 z hz
  · have e : z = x := by simpa using hz
    subst e
    exact hx
theorem count_flat {α β : Type} (xs : List α) (f : α → List β) : (xs.map fun x => ((f x).length : Int)).sum = ((xs.flatMap f).length : Int) := by
  induction xs with
  | nil => rfl
  | cons a xs ih =>
    rw [List.map_cons, List.sum_cons, ih, List.flatMap_cons, List.length_append]
    omega
end HM
/-! The other defs' mathematics. -/
namespace HM
open Kp396

/-! ### lists, found at a place -/
theorem split_at {α : Type} {xs : List α} {i : Nat} {x : α} (hx : xs[i]? = some x) : xs = xs.take i ++ x :: xs.drop (i + 1) := by
  obtain ⟨hi, e⟩ := List.getElem?_eq_some_iff.mp hx
  rw [← e, List.getElem_cons_drop, List.take_append_drop]
theorem find_at {α : Type} {xs : List α} {q : α → Bool} {i : Nat} {x : α} (hx : xs[i]? = some x) (h0 : ∀ z ∈ xs.take i, q z = false) (h1 : q x = true) : xs.find? q = some x := by
  rw [split_at hx, List.find?_append]
  have e : (xs.take i).find? q = none := by
    rw [List.find?_eq_none]
    intro z hz
    rw [h0 z hz]
    exact Bool.false_ne_true
  rw [e, List.find?_cons_of_pos h1]
  rfl
theorem flat_at {α β : Type} {xs : List α} {f : α → List β} {q : β → Bool} {i : Nat} {x : α} {y : β} (hx : xs[i]? = some x) (h0 : ∀ z ∈ xs.take i, (f z).find? q = none) (h1 : (f x).find? q = some y) : (xs.flatMap f).find? q = some y := by
  rw [split_at hx, List.flatMap_append, List.flatMap_cons, List.find?_append, List.find?_append]
  have e : ((xs.take i).flatMap f).find? q = none := by
    rw [List.find?_eq_none]
    intro z hz
    rw [List.mem_flatMap] at hz
    obtain ⟨a, ha, hz⟩ := hz
    exact (List.find?_eq_none.mp (h0 a ha)) z hz
  rw [e, h1]
  rfl

/-! ### the first conflict, loop in loop -/
def fitAt (v : Line) (p : Nat) (l : List Nat) (k j : Nat) : Bool := movesFit v p k (tm v l k) j (tm v l j)
theorem conflict_some {v : Line} {p : Nat} {l : List Nat} {K J : Nat} (hK : K < J) (hJ : J ≤ l.length) (h0 : ∀ k j, k < K → k < j → j ≤ l.length → fitAt v p l k j = true) (h1 : ∀ j, K < j → j < J → fitAt v p l K j = true) (h2 : fitAt v p l K J = false) :
    firstConflict v p l = some (K, J) := by
  rw [firstConflict_eq]
  refine flat_at (i := K) (x := K) (by rw [List.getElem?_range (by omega)]) ?_ ?_
  · intro z hz
    rw [List.take_range] at hz
    have hz := List.mem_range.mp hz
    rw [List.find?_eq_none]
    intro y hy
    obtain ⟨j, hj, rfl⟩ := List.mem_map.mp hy
    unfold behind at hj
    obtain ⟨a, b⟩ := List.mem_filter.mp hj
    have a := List.mem_range.mp a
    have b : z < j := by simpa using b
    have := h0 z j (by omega) b (by omega)
    unfold fitAt at this
    unfold clash
    simp [this]
  · refine find_at (i := J - (K + 1)) ?_ ?_ ?_
    · rw [List.getElem?_map, behind_eq, List.getElem?_range' (by omega)]
      simp
      omega
    · intro y hy
      rw [← List.map_take, behind_eq] at hy
      obtain ⟨j, hj, rfl⟩ := List.mem_map.mp hy
      obtain ⟨i, hi⟩ := List.mem_iff_getElem?.mp hj
      rw [List.getElem?_take] at hi
      split at hi
      case isFalse => cases hi
      case isTrue q =>
      rw [List.getElem?_range' (by omega)] at hi
      have e := Option.some.inj hi
      have := h1 j (by omega) (by omega)
      unfold fitAt at this
      unfold clash
      simp [this]
    · unfold fitAt at h2
      unfold clash
      simp [h2]
theorem conflict_none {v : Line} {p : Nat} {l : List Nat} (h : ∀ k j, k < l.length + 1 → k < j → j ≤ l.length → fitAt v p l k j = true) : firstConflict v p l = none :=
  (noConflict_iff v p l).mpr fun k j a b => h k j (by omega) a b

/-! ### stays within their limits -/
theorem within_iff {v : Line} {p : Nat} {l : List Nat} (hl : l.length = v.pits.length) : (withinWindows v l && l.all (fun x => decide (x < p))) = true ↔ ∀ (i s : Nat) (w : Window), l[i]? = some s → v.pits[i]? = some w → w.least ≤ s ∧ s ≤ w.most ∧ s < p := by
  unfold withinWindows
  simp only [Bool.and_eq_true, decide_eq_true_eq, List.all_eq_true]
  constructor
  · rintro ⟨⟨_, h1⟩, h2⟩ i s w hs hw
    have m : (s, i) ∈ l.zipIdx := by
      rw [List.mem_zipIdx_iff_getElem?]
      exact hs
    have := h1 _ m
    have e : windowAt v i = w := by
      unfold windowAt
      rw [List.getD_eq_getElem?_getD, hw]
      rfl
    simp only [e] at this
    exact ⟨this.1, this.2, h2 s (List.mem_of_getElem? hs)⟩
  · intro h
    refine ⟨⟨hl, fun x hx => ?_⟩, fun x hx => ?_⟩
    · rw [List.mem_zipIdx_iff_getElem?] at hx
      have hi : x.2 < v.pits.length := by
        rw [← hl]
        exact (List.getElem?_eq_some_iff.mp hx).1
      have hw : v.pits[x.2]? = some v.pits[x.2] := List.getElem?_eq_getElem hi
      have e : windowAt v x.2 = v.pits[x.2] := by
        unfold windowAt
        rw [List.getD_eq_getElem?_getD, hw]
        rfl
      have := h x.2 x.1 _ hx hw
      rw [e]
      exact ⟨this.1, this.2.1⟩
    · obtain ⟨i, hi⟩ := List.mem_iff_getElem?.mp hx
      have hi2 : i < v.pits.length := by
        rw [← hl]
        exact (List.getElem?_eq_some_iff.mp hi).1
      exact (h i x _ hi (List.getElem?_eq_getElem hi2)).2.2
theorem feasible_iff (v : Line) (p : Nat) (l : List Nat) : isFeasible v p l = (singleMoveFits v p && (withinWindows v l && l.all (fun x => decide (x < p))) && (firstConflict v p l).isNone) := by
  unfold isFeasible
  generalize withinWindows v l = a
  generalize (l.all fun x => decide (x < p)) = b
  generalize singleMoveFits v p = c
  cases a <;> cases b <;> cases c <;> rfl

/-! ### the next starts -/
def startsK (v : Line) (p : Nat) (l : List Nat) (k : Nat) : List Nat :=
  ((stays v p l.length).map fun s => tm v l l.length + v.moveTime + s).filter fun t => (List.range k).all fun j => movesFit v p j (tm v l j) (l.length + 1) t
theorem startsK_zero (v : Line) (p : Nat) (l : List Nat) : startsK v p l 0 = (stays v p l.length).map fun s => tm v l l.length + v.moveTime + s := by
  unfold startsK
  rw [List.filter_eq_self]
  intro a _
  rfl
theorem startsK_succ (v : Line) (p : Nat) (l : List Nat) (k : Nat) : startsK v p l (k + 1) = (startsK v p l k).filter fun t => movesFit v p k (tm v l k) (l.length + 1) t := by
  unfold startsK
  rw [List.filter_filter]
  refine List.filter_congr fun t _ => ?_
  rw [List.range_succ, List.all_append]
  simp [Bool.and_comm]
theorem startsK_end (v : Line) (p : Nat) (l : List Nat) : startsK v p l (l.length + 1) = (nexts v p l).map fun s => tm v l l.length + v.moveTime + s := by
  unfold startsK nexts
  rw [List.filter_map]
  rfl
theorem startsK_len (v : Line) (p : Nat) (l : List Nat) (k : Nat) (hw : (windowAt v l.length).most ≤ 30) : (startsK v p l k).length ≤ 31 := by
  unfold startsK
  refine Nat.le_trans (List.length_filter_le _ _) ?_
  unfold stays
  rw [List.length_map, List.length_map, List.length_range]
  omega
theorem nexts_len (v : Line) (p : Nat) (l : List Nat) (hw : (windowAt v l.length).most ≤ 30) : (nexts v p l).length ≤ 31 := by
  have := startsK_len v p l (l.length + 1) hw
  rw [startsK_end, List.length_map] at this
  exact this

/-! ### times and stays -/
theorem tm_get {v : Line} {l : List Nat} {k : Nat} (h : k ≤ l.length) : (startTimes v l)[k]? = some (tm v l k) := by
  unfold tm
  rw [List.getD_eq_getElem?_getD, startTimes_get v l k h]
  rfl
theorem tm_val {v : Line} {l : List Nat} {k : Nat} (h : k ≤ l.length) : tm v l k = (l.take k).sum + k * v.moveTime := by
  have := tm_get (v := v) h
  rw [startTimes_get v l k h] at this
  exact (Option.some.inj this).symm
theorem tm_zero (v : Line) (l : List Nat) : tm v l 0 = 0 := by
  rw [tm_val (Nat.zero_le _)]
  simp
theorem sum_take_more {l : List Nat} {i s : Nat} (h : l[i]? = some s) : (l.take (i + 1)).sum = (l.take i).sum + s := by
  rw [take_more h, List.sum_append]
  simp
theorem tm_step {v : Line} {l : List Nat} {i s : Nat} (h : l[i]? = some s) : tm v l (i + 1) = tm v l i + v.moveTime + s := by
  have hi := (List.getElem?_eq_some_iff.mp h).1
  rw [tm_val (by omega), tm_val (by omega), sum_take_more h, Nat.add_mul]
  omega
theorem startTimes_more {v : Line} {l : List Nat} {i s : Nat} (h : l[i]? = some s) : startTimes v (l.take (i + 1)) = startTimes v (l.take i) ++ [tm v l i + v.moveTime + s] := by
  have hi := (List.getElem?_eq_some_iff.mp h).1
  rw [take_more h, startTimes_snoc, tm_val (by omega)]
  congr 2
  rw [List.length_take, Nat.min_eq_left (by omega)]
theorem startTimes_take_last {v : Line} {l : List Nat} {i : Nat} (h : i ≤ l.length) : (startTimes v (l.take i))[i]? = some (tm v l i) := by
  rw [startTimes_get _ _ _ (by rw [List.length_take]; omega), tm_val h, List.take_take, Nat.min_self]
theorem snoc_tm (v : Line) (l : List Nat) (s : Nat) : startTimes v (l ++ [s]) = startTimes v l ++ [tm v l l.length + v.moveTime + s] := by
  rw [startTimes_snoc, tm_val (Nat.le_refl _), List.take_length]
theorem through_eq (v : Line) (l : List Nat) : throughputTime v l = tm v l l.length + v.moveTime := by
  unfold throughputTime
  rw [tm_val (Nat.le_refl _), List.take_length, Nat.add_mul, Nat.one_mul]
  omega

/-! ### pits that hold a lot -/
theorem occ_eq {v : Line} {p : Nat} {l : List Nat} {i s x : Nat} (hp : 0 < p) (h : l[i]? = some s) : isOccupied v p l i x = decide (((x : Int) - ((tm v l i : Int) + v.moveTime)) % p < s) := by
  have hi := (List.getElem?_eq_some_iff.mp h).1
  unfold isOccupied
  have e1 : (startTimes v l).getD i 0 = tm v l i := rfl
  have e2 : (startTimes v l).getD (i + 1) 0 = tm v l (i + 1) := rfl
  simp only [e1, e2]
  rw [tm_step h]
  have e := mod_sub_int (tm v l i + v.moveTime) x p hp
  have e3 : (((tm v l i + v.moveTime : Nat) : Int)) = (tm v l i : Int) + v.moveTime := by push_cast; rfl
  rw [e3] at e
  rw [← e]
  congr 1
  exact propext ⟨fun q => by omega, fun q => by omega⟩
/-- how many of the first i pits hold a lot in minute x -/
def occN (v : Line) (p : Nat) (l : List Nat) (x i : Nat) : Nat := ((List.range i).filter fun i => isOccupied v p l i x).length
theorem occN_succ (v : Line) (p : Nat) (l : List Nat) (x i : Nat) : occN v p l x (i + 1) = occN v p l x i + if isOccupied v p l i x then 1 else 0 := by
  unfold occN
  rw [List.range_succ, List.filter_append, List.length_append]
  by_cases h : isOccupied v p l i x = true
  · rw [List.filter_cons_of_pos (by simpa using h), if_pos h]
    rfl
  · rw [List.filter_cons_of_neg (by simpa using h), if_neg h]
    rfl
theorem foldl_max_le : ∀ (l : List Nat) (a m : Nat), l.foldl max a ≤ m ↔ a ≤ m ∧ ∀ x ∈ l, x ≤ m
  | [], a, m => by simp
  | b :: l, a, m => by
    rw [List.foldl_cons, foldl_max_le l]
    constructor
    · rintro ⟨h1, h2⟩
      refine ⟨by omega, fun x hx => ?_⟩
      rcases List.mem_cons.mp hx with e | e
      · omega
      · exact h2 x e
    · rintro ⟨h1, h2⟩
      have := h2 b (List.mem_cons_self ..)
      exact ⟨by omega, fun x hx => h2 x (List.mem_cons_of_mem _ hx)⟩
/-- the greatest of a list -/
theorem greatest {l : List Nat} {a : Nat} {m : Int} (h1 : m ∈ (a :: l).map Int.ofNat) (h2 : ∀ x ∈ (a :: l).map Int.ofNat, x ≤ m) : m = ((l.foldl max a : Nat) : Int) := by
  obtain ⟨n, hn, rfl⟩ := List.mem_map.mp h1
  have e1 : l.foldl max a ≤ n := by
    rw [foldl_max_le]
    constructor
    · have := h2 (Int.ofNat a) (List.mem_map.mpr ⟨a, List.mem_cons_self .., rfl⟩)
      exact Int.ofNat_le.mp this
    · intro x hx
      have := h2 (Int.ofNat x) (List.mem_map.mpr ⟨x, List.mem_cons_of_mem _ hx, rfl⟩)
      exact Int.ofNat_le.mp this
  have e2 : n ≤ l.foldl max a := by
    have q := (foldl_max_le l a (l.foldl max a)).mp (Nat.le_refl _)
    rcases List.mem_cons.mp hn with e | e
    · rw [e]
      exact q.1
    · exact q.2 n e
  have e3 : n = l.foldl max a := by omega
  rw [← e3]
  rfl
theorem greatest0 {l : List Nat} {m : Int} (h1 : m ∈ l.map Int.ofNat) (h2 : ∀ x ∈ l.map Int.ofNat, x ≤ m) : m = ((l.foldl max 0 : Nat) : Int) := by
  cases l with
  | nil => cases h1
  | cons a l =>
    rw [List.foldl_cons, Nat.zero_max]
    exact greatest h1 h2

/-! ### periods -/
theorem periods_get {i : Nat} (h : i < 99) : periods[i]? = some (i + 1) := by
  unfold periods maxPeriod
  rw [List.getElem?_map, List.getElem?_range h]
  rfl
theorem periods_len : periods.length = 99 := by simp [periods, maxPeriod]

/-! ### a first plan's numbers -/
theorem first_low {v : Line} {p : Nat} {l : List Nat} (hp : 0 < p) (ok : Ok v) (h : firstPlan v p = some l) : l.length = v.pits.length ∧ ∀ x ∈ l, x < p := by
  unfold firstPlan at h
  rw [feasible_eq hp ok] at h
  by_cases c : singleMoveFits v p = true
  · rw [if_pos c] at h
    have m := List.mem_of_mem_head? (Option.mem_def.mpr h)
    exact ⟨by rw [ext_length _ _ _ m]; simp, ext_low hp _ _ _ m (fun x hx => by cases hx)⟩
  · rw [if_neg c] at h
    cases h
end HM
/-! The list of calls, call by call. -/
namespace HM
open Kp396

abbrev Call := List (List Int)
/-- a call as it is handed in: its number, how many numbers, these, no lists -/
def flat1 (p : Int) (ns : List Int) : List Int := p :: (ns.length : Int) :: (ns ++ [0])
def asCall (c : Int × List Int) : Call := [c.1 :: c.2]
/-- an operation as it is handed in -/
def enc : Kp396.Call → Int × List Int
  | .create a b => (0, [(a : Int), (b : Int)])
  | .addPit a b => (1, [(a : Int), (b : Int)])
  | .removePit a => (2, [(a : Int)])
  | .setWindow a b c => (3, [(a : Int), (b : Int), (c : Int)])
  | .setSpeed a b => (4, [(a : Int), (b : Int)])
  | .getPit a => (5, [(a : Int)])
  | .shortestPeriod => (6, [])
  | .firstPlan a => (7, [(a : Int)])
  | .startTimes a => (8, [(a : Int)])
  | .isFeasible a l => (9, (a : Int) :: l.map Int.ofNat)
  | .firstConflict a l => (10, (a : Int) :: l.map Int.ofNat)
  | .planCount a => (11, [(a : Int)])
  | .throughputTime a => (12, [(a : Int)])
  | .maxOccupied a => (13, [(a : Int)])
  | .completionTime a b => (14, [(a : Int), (b : Int)])
  | .shortestPeriodWithWindow a b c => (15, [(a : Int), (b : Int), (c : Int)])
  | .shortestPeriodWithSpeed a b => (16, [(a : Int), (b : Int)])
  | .feasiblePeriods => (17, [])
  | .status => (18, [])
theorem nat_of {z : Int} (h : Kp396Neutral.natural z = true) : ∃ n : Nat, z = (n : Int) := by
  unfold Kp396Neutral.natural at h
  simp only [Bool.and_eq_true, decide_eq_true_eq] at h
  exact ⟨z.toNat, by omega⟩
theorem nats_of : ∀ {l : List Int}, l.all Kp396Neutral.natural = true → ∃ m : List Nat, l = m.map Int.ofNat
  | [], _ => ⟨[], rfl⟩
  | z :: l, h => by
    rw [List.all_cons, Bool.and_eq_true] at h
    obtain ⟨n, hn⟩ := nat_of h.1
    obtain ⟨m, hm⟩ := nats_of h.2
    exact ⟨n :: m, by rw [hn, hm]; rfl⟩
theorem and2 {a b : Bool} (h : (a && b) = true) : a = true ∧ b = true := Bool.and_eq_true_iff.mp h
/-- a plan that is handed in has at most six stays -/
def Small : Kp396.Call → Prop
  | .isFeasible _ l => l.length ≤ 6
  | .firstConflict _ l => l.length ≤ 6
  | _ => True
theorem asked1_enc {c : Call} (h : Kp396Neutral.asked1 c = true) : ∃ k : Kp396.Call, c = asCall (enc k) ∧ Small k := by
  unfold Kp396Neutral.asked1 at h
  split at h
  case h_1 => obtain ⟨h1, h2⟩ := and2 h; obtain ⟨a, rfl⟩ := nat_of h1; obtain ⟨b, rfl⟩ := nat_of h2; exact ⟨.create a b, rfl, trivial⟩
  case h_2 => obtain ⟨h1, h2⟩ := and2 h; obtain ⟨a, rfl⟩ := nat_of h1; obtain ⟨b, rfl⟩ := nat_of h2; exact ⟨.addPit a b, rfl, trivial⟩
  case h_3 => obtain ⟨a, rfl⟩ := nat_of h; exact ⟨.removePit a, rfl, trivial⟩
  case h_4 => obtain ⟨h1, h2⟩ := and2 h; obtain ⟨h2, h3⟩ := and2 h2; obtain ⟨a, rfl⟩ := nat_of h1; obtain ⟨b, rfl⟩ := nat_of h2; obtain ⟨c, rfl⟩ := nat_of h3; exact ⟨.setWindow a b c, rfl, trivial⟩
  case h_5 => obtain ⟨h1, h2⟩ := and2 h; obtain ⟨a, rfl⟩ := nat_of h1; obtain ⟨b, rfl⟩ := nat_of h2; exact ⟨.setSpeed a b, rfl, trivial⟩
  case h_6 => obtain ⟨a, rfl⟩ := nat_of h; exact ⟨.getPit a, rfl, trivial⟩
  case h_7 => exact ⟨.shortestPeriod, rfl, trivial⟩
  case h_8 => obtain ⟨a, rfl⟩ := nat_of h; exact ⟨.firstPlan a, rfl, trivial⟩
  case h_9 => obtain ⟨a, rfl⟩ := nat_of h; exact ⟨.startTimes a, rfl, trivial⟩
  case h_10 => obtain ⟨h1, h2⟩ := and2 h; obtain ⟨h2, h3⟩ := and2 h2; obtain ⟨a, rfl⟩ := nat_of h1; obtain ⟨m, rfl⟩ := nats_of h2; exact ⟨.isFeasible a m, rfl, by have z := of_decide_eq_true h3; rw [List.length_map] at z; exact z⟩
  case h_11 => obtain ⟨h1, h2⟩ := and2 h; obtain ⟨h2, h3⟩ := and2 h2; obtain ⟨a, rfl⟩ := nat_of h1; obtain ⟨m, rfl⟩ := nats_of h2; exact ⟨.firstConflict a m, rfl, by have z := of_decide_eq_true h3; rw [List.length_map] at z; exact z⟩
  case h_12 => obtain ⟨a, rfl⟩ := nat_of h; exact ⟨.planCount a, rfl, trivial⟩
  case h_13 => obtain ⟨a, rfl⟩ := nat_of h; exact ⟨.throughputTime a, rfl, trivial⟩
  case h_14 => obtain ⟨a, rfl⟩ := nat_of h; exact ⟨.maxOccupied a, rfl, trivial⟩
  case h_15 => obtain ⟨h1, h2⟩ := and2 h; obtain ⟨a, rfl⟩ := nat_of h1; obtain ⟨b, rfl⟩ := nat_of h2; exact ⟨.completionTime a b, rfl, trivial⟩
  case h_16 => obtain ⟨h1, h2⟩ := and2 h; obtain ⟨h2, h3⟩ := and2 h2; obtain ⟨a, rfl⟩ := nat_of h1; obtain ⟨b, rfl⟩ := nat_of h2; obtain ⟨c, rfl⟩ := nat_of h3; exact ⟨.shortestPeriodWithWindow a b c, rfl, trivial⟩
  case h_17 => obtain ⟨h1, h2⟩ := and2 h; obtain ⟨a, rfl⟩ := nat_of h1; obtain ⟨b, rfl⟩ := nat_of h2; exact ⟨.shortestPeriodWithSpeed a b, rfl, trivial⟩
  case h_18 => exact ⟨.feasiblePeriods, rfl, trivial⟩
  case h_19 => exact ⟨.status, rfl, trivial⟩
  case h_20 => cases h
theorem toNat_map (l : List Nat) : (l.map Int.ofNat).map Int.toNat = l := by
  rw [List.map_map]
  have e : Int.toNat ∘ Int.ofNat = id := by funext n; rfl
  rw [e, List.map_id]
theorem callOf_enc (k : Kp396.Call) : Kp396Neutral.callOf (asCall (enc k)) = some k := by
  cases k
  case isFeasible a l =>
    show some (Kp396.Call.isFeasible a ((l.map Int.ofNat).map Int.toNat)) = _
    rw [toNat_map]
  case firstConflict a l =>
    show some (Kp396.Call.firstConflict a ((l.map Int.ofNat).map Int.toNat)) = _
    rw [toNat_map]
  all_goals rfl
theorem step_enc (s : Kp396.State) (k : Kp396.Call) : Kp396Neutral.step s (asCall (enc k)) = ((Kp396.step s k).1, (Kp396.step s k).2.num :: (Kp396.step s k).2.nums) := by
  unfold Kp396Neutral.step
  rw [callOf_enc]
theorem asked1_form {c : Call} (h : Kp396Neutral.asked1 c = true) : ∃ p ns, c = [p :: ns] := by
  obtain ⟨k, e, _⟩ := asked1_enc h
  exact ⟨_, _, e⟩
theorem put1_flat (p : Int) (ns : List Int) : PyWide.put1 [p :: ns] = flat1 p ns := by
  show p :: (PyFlat.putRow ns ++ [(0 : Int)]) = _
  rfl
/-- the calls told one behind another -/
def flat : List (Int × List Int) → List Int
  | [] => []
  | c :: cs => flat1 c.1 c.2 ++ flat cs
theorem calls_form : ∀ {cs : List Call}, (∀ c ∈ cs, Kp396Neutral.asked1 c = true) → ∃ xs : List (Int × List Int), cs = xs.map asCall ∧ PyWide.put cs = flat xs
  | [], _ => ⟨[], rfl, rfl⟩
  | c :: cs, h => by
    obtain ⟨p, ns, e⟩ := asked1_form (h c (List.mem_cons_self ..))
    obtain ⟨xs, e1, e2⟩ := calls_form (cs := cs) fun d hd => h d (List.mem_cons_of_mem _ hd)
    subst e
    refine ⟨(p, ns) :: xs, by rw [e1]; rfl, ?_⟩
    show PyWide.put1 [p :: ns] ++ PyWide.put cs = flat1 p ns ++ flat xs
    rw [put1_flat, e2]
/-- what is asked of the list that is handed in -/
structure Asked (l : List Int) (xs : List (Int × List Int)) : Prop where
  eq : l = flat xs
  one : ∀ c ∈ xs, Kp396Neutral.asked1 (asCall c) = true
  ans : PyKp396.answers l = PyFlat.told (PyFlat.played Kp396Neutral.step Kp396Neutral.start (xs.map asCall))
  short : (PyKp396.answers l).length ≤ 10000000
theorem asked_form {l : List Int} (h : PyKp396.answers_asked l = true) : ∃ xs, Asked l xs := by
  unfold PyKp396.answers_asked at h
  cases e : PyKp396.calls l with
  | none => rw [e] at h; cases h
  | some cs =>
    rw [e] at h
    simp only [Bool.and_eq_true] at h
    obtain ⟨⟨_, h2⟩, h3⟩ := h
    unfold Kp396Neutral.asked at h2
    simp only [Bool.and_eq_true, List.all_eq_true] at h2
    obtain ⟨_, _, h4⟩ := h2
    obtain ⟨xs, e1, e2⟩ := calls_form h4
    have e3 := (PyWide.put_calls _ _ _ e).1
    refine ⟨xs, e3.trans e2, fun c hc => h4 _ (by rw [e1]; exact List.mem_map.mpr ⟨c, hc, rfl⟩), ?_, ?_⟩
    · unfold PyKp396.answers
      rw [e, ← e1]
    · unfold PyFlat.short at h3
      simpa using h3
/-! ### by places -/
def off (xs : List (Int × List Int)) (i : Nat) : Nat := (flat (xs.take i)).length
theorem flat_append : ∀ (a b : List (Int × List Int)), flat (a ++ b) = flat a ++ flat b
  | [], _ => rfl
  | c :: a, b => by
    show flat1 c.1 c.2 ++ flat (a ++ b) = (flat1 c.1 c.2 ++ flat a) ++ flat b
    rw [flat_append a b, List.append_assoc]
theorem flatC_at {xs : List (Int × List Int)} {i : Nat} {c : Int × List Int} (h : xs[i]? = some c) : flat xs = flat (xs.take i) ++ (flat1 c.1 c.2 ++ flat (xs.drop (i + 1))) := by
  have e := congrArg flat (split_at h)
  rw [flat_append] at e
  exact e
theorem flat1_len (p : Int) (ns : List Int) : (flat1 p ns).length = ns.length + 3 := by simp [flat1]
theorem off_more {xs : List (Int × List Int)} {i : Nat} {c : Int × List Int} (h : xs[i]? = some c) : off xs (i + 1) = off xs i + c.2.length + 3 := by
  unfold off
  rw [take_more h, flat_append, List.length_append]
  show _ + (flat1 c.1 c.2 ++ []).length = _
  rw [List.append_nil, flat1_len]
  omega
theorem off_lt {xs : List (Int × List Int)} {i : Nat} {c : Int × List Int} (h : xs[i]? = some c) : off xs i + c.2.length + 3 ≤ (flat xs).length := by
  rw [flatC_at h, List.length_append, List.length_append, flat1_len]
  unfold off
  omega
theorem off_end {xs : List (Int × List Int)} {i : Nat} (h : xs.length ≤ i) : off xs i = (flat xs).length := by
  unfold off
  rw [List.take_of_length_le h]
theorem at_place {xs : List (Int × List Int)} {i : Nat} {c : Int × List Int} (h : xs[i]? = some c) : (flat xs)[off xs i]? = some c.1 := by
  rw [flatC_at h]
  unfold off
  rw [List.getElem?_append_right (Nat.le_refl _), Nat.sub_self]
  rfl
theorem at_count {xs : List (Int × List Int)} {i : Nat} {c : Int × List Int} (h : xs[i]? = some c) : (flat xs)[off xs i + 1]? = some (c.2.length : Int) := by
  rw [flatC_at h]
  unfold off
  rw [List.getElem?_append_right (by omega), Nat.add_sub_cancel_left]
  rfl
theorem at_slice {xs : List (Int × List Int)} {i : Nat} {c : Int × List Int} (h : xs[i]? = some c) : ((flat xs).drop (off xs i + 2)).take c.2.length = c.2 := by
  rw [flatC_at h]
  unfold off
  rw [← List.drop_drop, List.drop_left]
  show ((c.2 ++ [0]) ++ flat (xs.drop (i + 1))).take c.2.length = c.2
  rw [List.append_assoc, List.take_left]
/-! ### the machine's state and answers behind i calls -/
def stAt (xs : List (Int × List Int)) (i : Nat) : Kp396.State := (xs.take i).foldl (fun s c => (Kp396Neutral.step s (asCall c)).1) Kp396Neutral.start
def row (xs : List (Int × List Int)) (i : Nat) (c : Int × List Int) : List Int := (Kp396Neutral.step (stAt xs i) (asCall c)).2
theorem stAt_more {xs : List (Int × List Int)} {i : Nat} {c : Int × List Int} (h : xs[i]? = some c) : stAt xs (i + 1) = (Kp396Neutral.step (stAt xs i) (asCall c)).1 := by
  unfold stAt
  rw [take_more h, List.foldl_append]
  rfl
theorem played_append {S : Type} (step : S → Call → S × List Int) : ∀ (a b : List Call) (s : S), PyFlat.played step s (a ++ b) = PyFlat.played step s a ++ PyFlat.played step (a.foldl (fun s c => (step s c).1) s) b
  | [], _, _ => rfl
  | c :: a, b, s => by
    show (step s c).2 :: PyFlat.played step (step s c).1 (a ++ b) = (step s c).2 :: (PyFlat.played step (step s c).1 a ++ _)
    rw [played_append step a b]
    rfl
def done (xs : List (Int × List Int)) (i : Nat) : List Int := PyFlat.told (PyFlat.played Kp396Neutral.step Kp396Neutral.start ((xs.take i).map asCall))
theorem told_append (a b : List (List Int)) : PyFlat.told (a ++ b) = PyFlat.told a ++ PyFlat.told b := by
  unfold PyFlat.told
  rw [List.flatMap_append]
theorem foldl_asCall (xs : List (Int × List Int)) (s : Kp396.State) : (xs.map asCall).foldl (fun s c => (Kp396Neutral.step s c).1) s = xs.foldl (fun s c => (Kp396Neutral.step s (asCall c)).1) s := by
  rw [List.foldl_map]
theorem done_more {xs : List (Int × List Int)} {i : Nat} {c : Int × List Int} (h : xs[i]? = some c) : done xs (i + 1) = done xs i ++ ((row xs i c).length : Int) :: row xs i c := by
  unfold done row stAt
  rw [take_more h, List.map_append, played_append, told_append, foldl_asCall]
  congr 1
  show ((_ : List Int).length : Int) :: (_ ++ []) = _
  rw [List.append_nil]
theorem done_zero (xs : List (Int × List Int)) : done xs 0 = [] := rfl
theorem done_end {xs : List (Int × List Int)} {i : Nat} (h : xs.length ≤ i) : done xs i = PyFlat.told (PyFlat.played Kp396Neutral.step Kp396Neutral.start (xs.map asCall)) := by
  unfold done
  rw [List.take_of_length_le h]
theorem done_le (xs : List (Int × List Int)) (i : Nat) : (done xs i).length ≤ (PyFlat.told (PyFlat.played Kp396Neutral.step Kp396Neutral.start (xs.map asCall))).length := by
  have e : xs.map asCall = (xs.take i).map asCall ++ (xs.drop i).map asCall := by
    rw [← List.map_append, List.take_append_drop]
  rw [e, played_append, told_append, List.length_append]
  unfold done
  omega
end HM
set_option maxHeartbeats 2000000
/-! The text by places, the calls of its defs, the line in the heap. -/
namespace HW
open PySem PySem.Spec PyProof.Rows L2 HM

def topS (i : Nat) : Stmt := PySem.Challenge.pw_hoistmoves_s01_answers.main.body.getD i (.Pass ⟨0, 0, 0, 0⟩)

/-! ### a def of the program's top, by its name -/
structure Def (P : Program) (w : World) (K : PySem.W.Frag) (mg : Str → Option Value) (base : Heap) (k : Nat) (x : Str) (ps : List Str) (sp : Sp) : Prop where
  ex : ∃ (f : Addr) (fd : FuncData), mg x = some (.ref f) ∧ PySem.W.keepIn K (.ref f) = true ∧ Binds K fd ps [] ∧ FnOk P w K mg base CX0 k f fd ps sp
theorem Def.mk' {P : Program} {w : World} {K : PySem.W.Frag} {mg : Str → Option Value} {base : Heap} {k : Nat} {x : Str} {ps : List Str} {sp : Sp} {f : Addr} {fd : FuncData} (hm : mg x = some (.ref f)) (hk : PySem.W.keepIn K (.ref f) = true) (b : Binds K fd ps [])
    (F : FnOk P w K mg base CX0 k f fd ps sp) : Def P w K mg base k x ps sp := ⟨f, fd, hm, hk, b, F⟩
/-- x(e, ..) -/
def tDef (sp : Sp) (t : TA) : TE := fun σ H Q => t σ H fun vs H1 => sp vs H1 Q E0
section
variable {X : Cx} {j k : Nat} {x : Str} {ps : List Str} {sp : Sp} {p pos : Pos} {e : Expr} {es : List Expr} {t : TA}
theorem pe_def (D : Def X.prog X.w X.K X.mg X.base k x ps sp) (hr : Room j X.A) (hg : Gl X x) (ha : PA X (e :: es) t) (hk : k ≤ j := by decide)
    (hdb : (x == ("__debug__" : Str)) = false := by decide)
    (he : starEach (e :: es) X.env = (false, eval e X.env) :: starEach es X.env := by rfl) (hpl : (backTo pos (starEach es X.env)).any (·.1) = false := by rfl) : PE X (.Call (.Name x p) (e :: es) [] pos) (tDef sp t) := by
  obtain ⟨f, fd, hm, hkp, hb, F⟩ := D.ex
  refine ⟨fun pins s σ H Q I h => (pe_call (pos := pos) (p := p) F (hr.mono hk) hg hm hkp hb .nil pass0 ha hdb he hpl).run pins s σ H Q I ?_⟩
  have e0 : (fun (vs : List V) (H1 : Hp) => sp (vs ++ []) H1 Q E0) = fun vs H1 => sp vs H1 Q E0 := by
    funext vs H1
    rw [List.append_nil]
  show t σ H fun vs H1 => sp (vs ++ []) H1 Q E0
  rw [e0]
  exact h
end

/-! ### three comparisons in a row -/
def tChain3 (r r' r'' : R2) (ta tb tc td : TE) : TE := fun σ H Q => ta σ H fun x H1 => tb σ H1 fun y H2 => r x y H2 fun z H3 => ∃ k, z = .bl k ∧
  (if k = true then tc σ H3 fun w' H4 => r' y w' H4 fun z2 H5 => ∃ k2, z2 = .bl k2 ∧ (if k2 = true then td σ H5 fun w2 H6 => r'' w' w2 H6 Q else Q (.bl false) H5) else Q (.bl false) H3)
section
variable {X : Cx} {a b c d : Expr} {pos : Pos} {ta tb tc td : TE}
theorem pe_chain3 {op op' op'' : CmpOp} {r r' r'' : R2} (ho : OpR X (compareOp op) r) (ho' : OpR X (compareOp op') r') (ho'' : OpR X (compareOp op'') r'') (ha : PE X a ta) (hb : PE X b tb) (hc : PE X c tc) (hd : PE X d td)
    (hm : lastMarks [op, op', op''] [b, c, d] = false := by with_unfolding_all rfl) : PE X (.Compare a [op, op', op''] [b, c, d] pos) (tChain3 r r' r'' ta tb tc td) := by
  refine ⟨fun pins s σ H Q I h => ?_⟩
  refine Compare_chain (thn (ha.run pins s σ H _ I h) fun v s1 ⟨x, H1, I1, r1, q1⟩ => chain_link (thn (hb.run pins s1 σ H1 _ I1 q1) fun u s2 ⟨y, H2, I2, r2, q2⟩ =>
    thn (ho pins s2 σ H2 x y v u _ I2 r1 r2 q2) fun d s3 ⟨z, H3, I3, r3, k, e, q3⟩ => ?_)) hm
  subst e
  cases r3
  refine wpAny_truthy_bool ?_
  cases k with
  | false => exact ite_ff ⟨.bl false, H3, I3, rfl, q3⟩
  | true =>
    refine ite_tt (chain_link (thn (hc.run pins s3 σ H3 _ I3 q3) fun w' s4 ⟨z', H4, I4, r4, q4⟩ => thn (ho' pins s4 σ H4 y z' u w' _ I4 r2 r4 q4) fun d2 s5 ⟨z2, H5, I5, r5, k2, e2, q5⟩ => ?_))
    subst e2
    cases r5
    refine wpAny_truthy_bool ?_
    cases k2 with
    | false => exact ite_ff ⟨.bl false, H5, I5, rfl, q5⟩
    | true => exact ite_tt (chain_last (thn (hd.run pins s5 σ H5 _ I5 q5) fun w2 s6 ⟨z6, H6, I6, r6, q6⟩ => ho'' pins s6 σ H6 z' z6 w' w2 Q I6 r4 r6 q6))
end

/-! ### the line in the heap -/
theorem lk_here {k : Str} {v : V} {r : List (Str × V)} : List.lookup k ((k, v) :: r) = some v := by
  have e : (k == k) = true := beq_self_eq_true k
  simp only [List.lookup, e]
theorem lk_past {k g : Str} {v : V} {r : List (Str × V)} (h : (k == g) = false) : List.lookup k ((g, v) :: r) = List.lookup k r := by
  simp only [List.lookup, h]
theorem put_here {f : Str} {v x : V} {r : List (Str × V)} : putF f v ((f, x) :: r) = (f, v) :: r := if_pos rfl
theorem put_past {f g : Str} {v x : V} {r : List (Str × V)} (h : ¬ g = f) : putF f v ((g, x) :: r) = (g, x) :: putF f v r := if_neg h
def lF (lp : Addr) (m e : Int) : List (Str × V) := [("pits", .ref lp), ("move_time", .int m), ("empty_time", .int e)]
theorem lF_pits {lp : Addr} {m e : Int} : (lF lp m e).lookup ("pits" : Str) = some (.ref lp) := lk_here
theorem lF_m {lp : Addr} {m e : Int} : (lF lp m e).lookup ("move_time" : Str) = some (.int m) := (lk_past (by decide +kernel)).trans lk_here
theorem lF_e {lp : Addr} {m e : Int} : (lF lp m e).lookup ("empty_time" : Str) = some (.int e) := (lk_past (by decide +kernel)).trans ((lk_past (by decide +kernel)).trans lk_here)
theorem lF_no {lp : Addr} {m e : Int} {x : Str} (h1 : (x == ("pits" : Str)) = false) (h2 : (x == ("move_time" : Str)) = false) (h3 : (x == ("empty_time" : Str)) = false) : (lF lp m e).lookup x = none := (lk_past h1).trans ((lk_past h2).trans ((lk_past h3).trans rfl))
theorem lF_putm {lp : Addr} {m e y : Int} : putF "move_time" (.int y) (lF lp m e) = lF lp y e := (put_past (by decide +kernel)).trans (congrArg _ put_here)
theorem lF_pute {lp : Addr} {m e y : Int} : putF "empty_time" (.int y) (lF lp m e) = lF lp m y := (put_past (by decide +kernel)).trans (congrArg _ ((put_past (by decide +kernel)).trans (congrArg _ put_here)))
/-- the pits' tuples -/
structure PitsAt (H : Hp) (ts : List Addr) (ps : List Kp396.Window) : Prop where
  len : ts.length = ps.length
  at_ : ∀ (i : Nat) (t : Addr) (w : Kp396.Window), ts[i]? = some t → ps[i]? = some w → H t = some (.tup [.int (w.least : Nat), .int (w.most : Nat)])
/-- the line v stands at a, its list of pits at lp -/
structure LineAt (C : Addr) (H : Hp) (a lp : Addr) (v : Kp396.Line) : Prop where
  obj : ∃ dx, H a = some (.ins C dx (lF lp (v.moveTime : Nat) (v.emptyTime : Nat)))
  lst : ∃ ts, H lp = some (.lst (ts.map V.ref)) ∧ PitsAt H ts v.pits
theorem PitsAt.same {H H' : Hp} {ts : List Addr} {ps : List Kp396.Window} (h : PitsAt H ts ps) (s : Same H H') : PitsAt H' ts ps := ⟨h.len, fun i t w a b => s _ _ (h.at_ i t w a b)⟩
theorem LineAt.same {C : Addr} {H H' : Hp} {a lp : Addr} {v : Kp396.Line} (h : LineAt C H a lp v) (s : Same H H') : LineAt C H' a lp v := by
  obtain ⟨dx, h1⟩ := h.obj
  obtain ⟨ts, h2, h3⟩ := h.lst
  exact ⟨⟨dx, s _ _ h1⟩, ⟨ts, s _ _ h2, h3.same s⟩⟩
theorem same_upd {H : Hp} {p : Addr} {o : HO} (h : H p = none) : Same H (upd H p o) := fun b u e => by
  rw [upd_ne (ne_of_none e h)]
  exact e
/-- a list of numbers, as values -/
abbrev iv (l : List Nat) : List V := l.map fun n => V.int (n : Nat)
theorem iv_get {l : List Nat} {i : Nat} {x : V} (h : (iv l)[i]? = some x) : ∃ n, l[i]? = some n ∧ x = .int (n : Nat) := by
  rw [List.getElem?_map] at h
  cases e : l[i]? with
  | none => rw [e] at h; cases h
  | some n => rw [e] at h; exact ⟨n, rfl, (Option.some.inj h).symm⟩
theorem iv_at {l : List Nat} {i n : Nat} (h : l[i]? = some n) : (iv l)[i]? = some (.int (n : Nat)) := by
  rw [List.getElem?_map, h]
  rfl
theorem small {n m : Nat} (h : n ≤ m) (hm : m ≤ 1000000 := by decide) : n ≤ sizeLine := Nat.le_trans h (Nat.le_trans hm (by decide))
theorem smallT {n m : Nat} (h : n ≤ m) (hm : m ≤ 1000000 := by decide) : n < sizeLine := Nat.lt_of_le_of_lt h (Nat.lt_of_le_of_lt hm (by decide))

/-- what the top has written, as the defs ask it -/
structure Txt (K : PySem.W.Frag) (mg : Str → Option Value) (C CS : Addr) : Prop where
  cl : Cls K C
  nP : NoAttr K C "pits"
  nM : NoAttr K C "move_time"
  nE : NoAttr K C "empty_time"
  gC : mg "Line" = some (.ref C)
  clS : Cls K CS
  nL : NoAttr K CS "line"
  gS : mg "State" = some (.ref CS)
  len : mg "len" = none
  range : mg "range" = none
  abs : mg "abs" = none
  min : mg "min" = none
  max : mg "max" = none
  sum : mg "sum" = none
  all : mg "all" = none
  zip : mg "zip" = none
  enumerate : mg "enumerate" = none
  list : mg "list" = none
  cLine : ∃ t, mg "NO_LINE" = some (.int (-11) t)
  cPit : ∃ t, mg "NO_SUCH_PIT" = some (.int (-2) t)
  cOut : ∃ t, mg "OUT_OF_LIMITS" = some (.int (-22) t)
  cMany : ∃ t, mg "TOO_MANY_PITS" = some (.int (-28) t)
  cNone : ∃ t, mg "NONE_FOUND" = some (.int (-33) t)
  gPits : ∃ t, mg "GREATEST_PIT_COUNT" = some (.int 4 t)
  gMove : ∃ t, mg "GREATEST_MOVE_TIME" = some (.int 9 t)
  gEmpty : ∃ t, mg "GREATEST_EMPTY_TIME" = some (.int 4 t)
  gLimit : ∃ t, mg "GREATEST_LIMIT" = some (.int 30 t)
  gWide : ∃ t, mg "WIDEST_WINDOW" = some (.int 8 t)
  gPeriod : ∃ t, mg "GREATEST_PERIOD" = some (.int 99 t)
  gStay : ∃ t, mg "GREATEST_STAY" = some (.int 99 t)
  gLots : ∃ t, mg "GREATEST_LOTS" = some (.int 99 t)
  gCreate : ∃ t, mg "CREATE" = some (.int 0 t)
/-- a number of the program's top -/
theorem pe_const {X : Cx} {x : Str} {i : Int} {p : Pos} (h : ∃ t, X.mg x = some (.int i t)) (hg : Gl X x := by rfl) (hd : (x == ("__debug__" : Str)) = false := by decide) : PE X (.Name x p) (tC (.int i)) := by
  obtain ⟨t, h⟩ := h
  exact pe_glob hg h ⟨t, rfl⟩ hd
end HW
set_option maxHeartbeats 2000000
/-! The limits. -/
namespace HW
open PySem PySem.Spec PyProof.Rows L2 HM
theorem window_iff (a b : Nat) : Kp396.validWindow a b = true ↔ 1 ≤ a ∧ a ≤ b ∧ b ≤ 30 ∧ b ≤ a + 8 := by
  unfold Kp396.validWindow
  simp only [Bool.and_eq_true, decide_eq_true_eq]
  omega
theorem speed_iff (m e : Nat) : Kp396.validSpeed m e = true ↔ 1 ≤ m ∧ m ≤ 9 ∧ e ≤ 4 := by
  unfold Kp396.validSpeed
  simp only [Bool.and_eq_true, decide_eq_true_eq]
  omega
theorem period_iff (t : Nat) : Kp396.validPeriod t = true ↔ 1 ≤ t ∧ t ≤ 99 := by
  unfold Kp396.validPeriod Kp396.maxPeriod
  simp only [Bool.and_eq_true, decide_eq_true_eq]
/-- a test of two numbers -/
def spTest2 (f : Nat → Nat → Bool) : Sp := fun vs H Q _ => ∃ a b : Nat, vs = [.int (a : Nat), .int (b : Nat)] ∧ ∀ r : Bool, (r = true ↔ f a b = true) → Q (.bl r) H
def spTest1 (f : Nat → Bool) : Sp := fun vs H Q _ => ∃ a : Nat, vs = [.int (a : Nat)] ∧ ∀ r : Bool, (r = true ↔ f a = true) → Q (.bl r) H
abbrev sWin : Stmt := topS 14
abbrev sSpd : Stmt := topS 15
abbrev sPer : Stmt := topS 16
abbrev sLot : Stmt := topS 17
section
variable {P : Program} {w : World} {K : PySem.W.Frag} {mg : Str → Option Value} {base : Heap} {C CS : Addr}
theorem scWin : FnScope ["least", "most"] ["least", "most"] (defScope sWin) := ⟨rfl, rfl, rfl, by decide +kernel, rfl, by decide +kernel, by decide +kernel⟩
theorem ok_window {f : Addr} {fd : FuncData} (F : Fun K "is_window" "is_window" sWin f fd) (T : Txt K mg C CS) : FnOk P w K mg base CX0 1 f fd ["least", "most"] (spTest2 Kp396.validWindow) := by
  refine F.ok scWin (fun vs H Q E h => ?_) (fun cdv A outer s H vs Q E hr h => ?_)
  · obtain ⟨a, b, rfl, _⟩ := h
    rfl
  · obtain ⟨a, b, rfl, k⟩ := h
    refine ⟨_, pss_one (ps_ret (pe_and (pe_chain3 op_le op_le op_le pe_int (pv 0) (pv 1) (pe_const T.gLimit)) (pe_one (pe_cmpR op_le (pv 1) (pe_op op_add (pv 0) (pe_const T.gWide)) (nomark _))))), ?_⟩
    have e := window_iff a b
    refine ⟨_, rfl, _, _, rfl, rfl, _, rfl, ite2 (fun h1 => ?_) (fun h1 => ⟨_, rfl, iteF (k _ ?_)⟩)⟩
    · refine ⟨_, rfl, _, _, rfl, rfl, _, rfl, ite2 (fun h2 => ?_) (fun h2 => ⟨_, rfl, iteF (k _ ?_)⟩)⟩
      · refine ⟨_, _, rfl, rfl, _, rfl, ite2 (fun h3 => ?_) (fun h3 => k _ ?_)⟩
        · refine ⟨_, rfl, _, rfl, _, _, rfl, rfl, _, _, rfl, rfl, k _ ?_⟩
          rw [e]
          simp only [decide_eq_true_eq] at *
          omega
        · rw [e]
          simp only [decide_eq_true_eq, Bool.false_eq_true, false_iff] at *
          omega
      · rw [e]
        simp only [decide_eq_true_eq, Bool.false_eq_true, false_iff] at *
        omega
    · rw [e]
      simp only [decide_eq_true_eq, Bool.false_eq_true, false_iff] at *
      omega
theorem scSpd : FnScope ["move_time", "empty_time"] ["move_time", "empty_time"] (defScope sSpd) := ⟨rfl, rfl, rfl, by decide +kernel, rfl, by decide +kernel, by decide +kernel⟩
theorem ok_speed {f : Addr} {fd : FuncData} (F : Fun K "is_speed" "is_speed" sSpd f fd) (T : Txt K mg C CS) : FnOk P w K mg base CX0 1 f fd ["move_time", "empty_time"] (spTest2 Kp396.validSpeed) := by
  refine F.ok scSpd (fun vs H Q E h => ?_) (fun cdv A outer s H vs Q E hr h => ?_)
  · obtain ⟨a, b, rfl, _⟩ := h
    rfl
  · obtain ⟨a, b, rfl, k⟩ := h
    refine ⟨_, pss_one (ps_ret (pe_and (pe_chain op_le op_le pe_int (pv 0) (pe_const T.gMove)) (pe_one (pe_chain op_le op_le pe_int (pv 1) (pe_const T.gEmpty))))), ?_⟩
    have e := speed_iff a b
    refine ⟨_, rfl, _, _, rfl, rfl, _, rfl, ite2 (fun h1 => ?_) (fun h1 => ⟨_, rfl, iteF (k _ ?_)⟩)⟩
    · refine ⟨_, _, rfl, rfl, _, rfl, ite2 (fun h2 => ?_) (fun h2 => k _ ?_)⟩
      · refine ⟨_, rfl, _, _, rfl, rfl, _, rfl, ite2 (fun h3 => ?_) (fun h3 => k _ ?_)⟩
        · refine ⟨_, _, rfl, rfl, k _ ?_⟩
          rw [e]
          simp only [decide_eq_true_eq] at *
          omega
        · rw [e]
          simp only [decide_eq_true_eq, Bool.false_eq_true, false_iff] at *
          omega
      · rw [e]
        simp only [decide_eq_true_eq, Bool.false_eq_true, false_iff] at *
        omega
    · rw [e]
      simp only [decide_eq_true_eq, Bool.false_eq_true, false_iff] at *
      omega
theorem scPer : FnScope ["period"] ["period"] (defScope sPer) := ⟨rfl, rfl, rfl, by decide +kernel, rfl, by decide +kernel, by decide +kernel⟩
theorem ok_period {f : Addr} {fd : FuncData} (F : Fun K "is_period" "is_period" sPer f fd) (T : Txt K mg C CS) : FnOk P w K mg base CX0 1 f fd ["period"] (spTest1 Kp396.validPeriod) := by
  refine F.ok scPer (fun vs H Q E h => ?_) (fun cdv A outer s H vs Q E hr h => ?_)
  · obtain ⟨a, rfl, _⟩ := h
    rfl
  · obtain ⟨a, rfl, k⟩ := h
    refine ⟨_, pss_one (ps_ret (pe_chain op_le op_le pe_int (pv 0) (pe_const T.gPeriod))), ?_⟩
    have e := period_iff a
    refine ⟨_, rfl, _, _, rfl, rfl, _, rfl, ite2 (fun h1 => ?_) (fun h1 => k _ ?_)⟩
    · refine ⟨_, _, rfl, rfl, k _ ?_⟩
      rw [e]
      simp only [decide_eq_true_eq] at *
      omega
    · rw [e]
      simp only [decide_eq_true_eq, Bool.false_eq_true, false_iff] at *
      omega
def lotsOk (n : Nat) : Bool := decide (1 ≤ n) && decide (n ≤ 99)
theorem lots_iff (n : Nat) : lotsOk n = true ↔ 1 ≤ n ∧ n ≤ 99 := by
  unfold lotsOk
  simp only [Bool.and_eq_true, decide_eq_true_eq]
theorem scLot : FnScope ["lots"] ["lots"] (defScope sLot) := ⟨rfl, rfl, rfl, by decide +kernel, rfl, by decide +kernel, by decide +kernel⟩
theorem ok_lots {f : Addr} {fd : FuncData} (F : Fun K "is_lots" "is_lots" sLot f fd) (T : Txt K mg C CS) : FnOk P w K mg base CX0 1 f fd ["lots"] (spTest1 lotsOk) := by
  refine F.ok scLot (fun vs H Q E h => ?_) (fun cdv A outer s H vs Q E hr h => ?_)
  · obtain ⟨a, rfl, _⟩ := h
    rfl
  · obtain ⟨a, rfl, k⟩ := h
    refine ⟨_, pss_one (ps_ret (pe_chain op_le op_le pe_int (pv 0) (pe_const T.gLots))), ?_⟩
    have e := lots_iff a
    refine ⟨_, rfl, _, _, rfl, rfl, _, rfl, ite2 (fun h1 => ?_) (fun h1 => k _ ?_)⟩
    · refine ⟨_, _, rfl, rfl, k _ ?_⟩
      rw [e]
      simp only [decide_eq_true_eq] at *
      omega
    · rw [e]
      simp only [decide_eq_true_eq, Bool.false_eq_true, false_iff] at *
      omega
end
end HW
set_option maxHeartbeats 2000000
/-! The line. -/
namespace HW
open PySem PySem.Spec PyProof.Rows L2 HM
abbrev sInit : Stmt := inClass (topS 20) 0
abbrev sHas : Stmt := inClass (topS 20) 1
abbrev sTwin : Stmt := inClass (topS 20) 2
abbrev sBound : Stmt := inClass (topS 20) 3
abbrev sReach : Stmt := inClass (topS 20) 4
abbrev sGap : Stmt := topS 24
abbrev sMC : Stmt := topS 25
abbrev sKeeps : Stmt := topS 26
/-- a method of the line -/
structure MDef (P : Program) (w : World) (K : PySem.W.Frag) (mg : Str → Option Value) (base : Heap) (C : Addr) (k : Nat) (x : Str) (ps : List Str) (sp : Sp) : Prop where
  ex : ∃ (f : Addr) (fd : FuncData), Meth K C x f ∧ Binds K fd ps [] ∧ FnOk P w K mg base CX0 k f fd ps sp
def tMDef (C : Addr) (m : Str) (sp : Sp) (ta : TE) (t : TA) : TE := fun σ H Q => ta σ H fun x H1 => ∃ a dx fs, x = .ref a ∧ H1 a = some (.ins C dx fs) ∧ fs.lookup m = none ∧ t σ H1 fun vs H2 => sp (x :: vs) H2 Q E0
section
variable {X : Cx} {j k : Nat} {C : Addr} {m : Str} {ps : List Str} {sp : Sp} {pos apos : Pos} {o e : Expr} {es : List Expr} {ta : TE} {t : TA} {pl : Sem Bool}
theorem pe_mdef (D : MDef X.prog X.w X.K X.mg X.base C k m ps sp) (hr : Room j X.A) (c : Cls X.K C) (he : PE X o ta) (ha : PA X (e :: es) t) (hk : k ≤ j := by decide)
    (hst : starEach (e :: es) X.env = (false, eval e X.env) :: starEach es X.env := by rfl) (hpl : (backTo pos (starEach es X.env)).any (·.1) = false := by rfl)
    (ht : eval (.Call (.Attribute o m apos) (e :: es) [] pos) X.env = (do
      let ov ← eval o X.env
      standAt apos.atName
      let (f, first) ← holding [ov] (getMethod ov m pl)
      callWith pos f first (backTo pos (starEach (e :: es) X.env)) (backToKw pos (keywordEach [] X.env))) := by rfl) :
    PE X (.Call (.Attribute o m apos) (e :: es) [] pos) (tMDef C m sp ta t) := by
  obtain ⟨f, fd, hm, hb, F⟩ := D.ex
  refine ⟨fun pins s σ H Q I h => (pe_meth (pos := pos) (apos := apos) he c hm F (hr.mono hk) hb .nil pass0 ha hst hpl ht).run pins s σ H Q I ?_⟩
  have e0 : ∀ x : V, (fun (vs : List V) (H1 : Hp) => sp (x :: (vs ++ [])) H1 Q E0) = fun vs H1 => sp (x :: vs) H1 Q E0 := by
    intro x
    funext vs H1
    rw [List.append_nil]
  show ta σ H fun x H1 => ∃ a dx fs, x = .ref a ∧ H1 a = some (.ins C dx fs) ∧ fs.lookup m = none ∧ t σ H1 fun vs H2 => sp (x :: (vs ++ [])) H2 Q E0
  simp only [e0]
  exact h
end
/-- reach's promise -/
def spReach (C : Addr) : Sp := fun vs H Q _ => ∃ (a lp : Addr) (v : Kp396.Line) (k j : Nat), vs = [.ref a, .int (k : Nat), .int (j : Nat)] ∧ LineAt C H a lp v ∧ v.emptyTime ≤ 4 ∧ Q (.int (reach v k j : Nat)) H
theorem reach_int (v : Kp396.Line) (k j : Nat) : ((reach v k j : Nat) : Int) = (v.moveTime : Int) + (v.emptyTime : Int) * (if (j : Int) - ((k : Int) + 1) < 0 then -((j : Int) - ((k : Int) + 1)) else (j : Int) - ((k : Int) + 1)) := by
  unfold reach Kp396.emptyMove
  rw [Int.natCast_add, Int.natCast_mul, Int.mul_comm]
  by_cases h : k + 1 ≤ j
  · rw [if_pos h, if_neg (by omega)]
    congr 2
    omega
  · rw [if_neg h, if_pos (by omega)]
    congr 2
    omega
section
variable {P : Program} {w : World} {K : PySem.W.Frag} {mg : Str → Option Value} {base : Heap} {C CS : Addr}
theorem scReach : FnScope ["self", "move", "other"] ["self", "move", "other"] (defScope sReach) := ⟨rfl, rfl, rfl, by decide +kernel, rfl, by decide +kernel, by decide +kernel⟩
theorem ok_reach {f : Addr} {fd : FuncData} (F : Fun K "reach" "Line.reach" sReach f fd) (T : Txt K mg C CS) : FnOk P w K mg base CX0 1 f fd ["self", "move", "other"] (spReach C) := by
  refine F.ok scReach (fun vs H Q E h => ?_) (fun cdv A outer s H vs Q E hr h => ?_)
  · obtain ⟨a, lp, v, k, j, rfl, _⟩ := h
    rfl
  · obtain ⟨a, lp, v, k, j, rfl, L, h4, q⟩ := h
    obtain ⟨dx, ha⟩ := L.obj
    refine ⟨_, pss_one (ps_ret (pe_op op_add (pe_fld (pv 0) rfl) (pe_op op_mul (pe_fld (pv 0) rfl) (pe_callB call_abs rfl T.abs (by decide +kernel) (pa_cons (pe_op op_sub (pv 2) (pe_op op_add (pv 1) pe_int)) pa_nil))))), ?_⟩
    refine ⟨_, rfl, a, C, dx, _, _, rfl, ha, T.cl, T.nM, lF_m, ?_⟩
    refine ⟨_, rfl, a, C, dx, _, _, rfl, ha, T.cl, T.nE, lF_e, ?_⟩
    refine ⟨_, rfl, _, rfl, _, _, rfl, rfl, _, _, rfl, rfl, _, rfl, ?_⟩
    refine ⟨_, _, rfl, rfl, .inl ⟨by omega, by omega⟩, _, _, rfl, rfl, ?_⟩
    rw [reach_int] at q
    exact q
end
end HW
set_option maxHeartbeats 2000000
/-! Gaps, conflicts of two moves. -/
namespace HW
open PySem PySem.Spec PyProof.Rows L2 HM
def spGap (C : Addr) : Sp := fun vs H Q _ => ∃ (a lp : Addr) (v : Kp396.Line) (p k j : Nat), vs = [.ref a, .int (p : Nat), .int (k : Nat), .int (j : Nat)] ∧ LineAt C H a lp v ∧ v.emptyTime ≤ 4 ∧
  ∀ t, H t = none → Q (.ref t) (upd H t (.tup [.int (reach v k j : Nat), .int ((p : Nat) - (reach v j k : Nat))]))
def spMC (C : Addr) (K : PySem.W.Frag) : Sp := fun vs H Q _ => ∃ (a lp tl : Addr) (v : Kp396.Line) (p k j x y : Nat) (ts : List Nat), vs = [.ref a, .int (p : Nat), .ref tl, .int (k : Nat), .int (j : Nat)] ∧ LineAt C H a lp v ∧ v.emptyTime ≤ 4 ∧ 0 < p ∧
  SqL K H tl (iv ts) ∧ ts[k]? = some x ∧ ts[j]? = some y ∧ ∀ H', Same H H' → Q (.bl (!fitsI v p k j x y)) H'
def spKeeps (C : Addr) : Sp := fun vs H Q _ => ∃ (a lp : Addr) (v : Kp396.Line) (p : Nat), vs = [.ref a, .int (p : Nat)] ∧ LineAt C H a lp v ∧ v.emptyTime ≤ 4 ∧ Q (.bl (Kp396.singleMoveFits v p)) H
section
variable {P : Program} {w : World} {K : PySem.W.Frag} {mg : Str → Option Value} {base : Heap} {C CS : Addr}
theorem scGap : FnScope ["line", "period", "first", "second"] ["line", "period", "first", "second"] (defScope sGap) := ⟨rfl, rfl, rfl, by decide +kernel, rfl, by decide +kernel, by decide +kernel⟩
theorem ok_gap {f : Addr} {fd : FuncData} (F : Fun K "allowed_gap" "allowed_gap" sGap f fd) (T : Txt K mg C CS) (R : MDef P w K mg base C 1 "reach" ["self", "move", "other"] (spReach C)) : FnOk P w K mg base CX0 2 f fd ["line", "period", "first", "second"] (spGap C) := by
  refine F.ok scGap (fun vs H Q E h => ?_) (fun cdv A outer s H vs Q E hr h => ?_)
  · obtain ⟨a, lp, v, p, k, j, rfl, _⟩ := h
    rfl
  · obtain ⟨a, lp, v, p, k, j, rfl, L, h4, q⟩ := h
    obtain ⟨dx, ha⟩ := L.obj
    refine ⟨_, pss_one (ps_ret (pe_tup (pa_cons (pe_mdef R hr T.cl (pv 0) (pa_cons (pv 2) (pa_cons (pv 3) pa_nil))) (pa_cons (pe_op op_sub (pv 1) (pe_mdef R hr T.cl (pv 0) (pa_cons (pv 3) (pa_cons (pv 2) pa_nil)))) pa_nil)))), ?_⟩
    have no : (lF lp (v.moveTime : Nat) (v.emptyTime : Nat)).lookup ("reach" : Str) = none := lF_no (by decide +kernel) (by decide +kernel) (by decide +kernel)
    refine ⟨_, rfl, a, dx, _, rfl, ha, no, _, rfl, _, rfl, a, lp, v, k, j, rfl, L, h4, ?_⟩
    refine ⟨_, rfl, _, rfl, a, dx, _, rfl, ha, no, _, rfl, _, rfl, a, lp, v, j, k, rfl, L, h4, ?_⟩
    exact ⟨_, _, rfl, rfl, (by show 2 ≤ sizeLine; decide), fun t ht => q t ht⟩
theorem scMC : FnScope ["line", "period", "times", "first", "second", "nearest", "farthest"] ["line", "period", "times", "first", "second"] (defScope sMC) := ⟨rfl, rfl, rfl, by decide +kernel, rfl, by decide +kernel, by decide +kernel⟩
theorem ok_mc {f : Addr} {fd : FuncData} (F : Fun K "moves_conflict" "moves_conflict" sMC f fd) (T : Txt K mg C CS) (G : Def P w K mg base 2 "allowed_gap" ["line", "period", "first", "second"] (spGap C)) :
    FnOk P w K mg base CX0 3 f fd ["line", "period", "times", "first", "second"] (spMC C K) := by
  refine F.ok scMC (fun vs H Q E h => ?_) (fun cdv A outer s H vs Q E hr h => ?_)
  · obtain ⟨a, lp, tl, v, p, k, j, x, y, ts, rfl, _⟩ := h
    rfl
  · obtain ⟨a, lp, tl, v, p, k, j, x, y, ts, rfl, L, h4, hp, hT, hk, hj, q⟩ := h
    refine ⟨_, pss_cons (ps_asg (pe_def G hr rfl (pa_cons (pv 0) (pa_cons (pv 1) (pa_cons (pv 3) (pa_cons (pv 4) pa_nil))))) (pg_tup (by rfl) (pgs_cons (pg_name (i := 5) scMC.nd rfl (.inl rfl)) (pgs_cons (pg_name (i := 6) scMC.nd rfl (.inl rfl)) pgs_nil))))
      (pss_one (ps_ret (pe_not (pe_chain op_le op_le (pv 5) (pe_op op_modN (pe_op op_sub (pe_ix ix_list (pv 2) (pv 4) (fun _ _ => rfl)) (pe_ix ix_list (pv 2) (pv 3) (fun _ _ => rfl))) (pv 1)) (pv 6))))), ?_⟩
    refine ⟨_, rfl, _, rfl, _, rfl, _, rfl, a, lp, v, p, k, j, rfl, L, h4, fun t ht => ?_⟩
    have sm : Same H (upd H t (.tup [.int (reach v k j : Nat), .int ((p : Nat) - (reach v j k : Nat))])) := same_upd ht
    refine ⟨t, _, rfl, .inl (.inl upd_same), rfl, _, _, rfl, _, _, rfl, rfl, ?_⟩
    have hT' := sm.seq hT
    refine ⟨_, rfl, _, rfl, _, rfl, tl, _, _, _, rfl, rfl, hT', atI_nat (iv_at hj), ?_⟩
    refine ⟨_, rfl, _, rfl, tl, _, _, _, rfl, rfl, hT', atI_nat (iv_at hk), _, _, rfl, rfl, _, rfl, _, _, rfl, rfl, (by omega), ?_⟩
    have em : ((y : Int) - (x : Int)).fmod (p : Int) = ((y : Int) - x) % p := Int.fmod_eq_emod_of_nonneg _ (by omega)
    refine ⟨_, _, rfl, rfl, _, rfl, ite2 (fun h1 => ?_) (fun h1 => ?_)⟩
    · refine ⟨_, rfl, _, _, rfl, rfl, _, rfl, ?_⟩
      rw [em] at h1 ⊢
      have e : (!decide (((y : Int) - x) % p ≤ (p : Int) - (reach v j k : Nat))) = !fitsI v p k j x y := by
        unfold fitsI
        rw [h1, Bool.true_and]
      rw [e]
      exact q _ sm
    · refine ⟨_, rfl, ?_⟩
      rw [em] at h1
      have e : (!false) = !fitsI v p k j x y := by
        unfold fitsI
        rw [Bool.not_eq_true] at h1
        rw [h1, Bool.false_and]
      rw [e]
      exact q _ sm
theorem scKeeps : FnScope ["line", "period"] ["line", "period"] (defScope sKeeps) := ⟨rfl, rfl, rfl, by decide +kernel, rfl, by decide +kernel, by decide +kernel⟩
theorem ok_keeps {f : Addr} {fd : FuncData} (F : Fun K "hoist_keeps_up" "hoist_keeps_up" sKeeps f fd) (T : Txt K mg C CS) (R : MDef P w K mg base C 1 "reach" ["self", "move", "other"] (spReach C)) : FnOk P w K mg base CX0 2 f fd ["line", "period"] (spKeeps C) := by
  refine F.ok scKeeps (fun vs H Q E h => ?_) (fun cdv A outer s H vs Q E hr h => ?_)
  · obtain ⟨a, lp, v, p, rfl, _⟩ := h
    rfl
  · obtain ⟨a, lp, v, p, rfl, L, h4, q⟩ := h
    obtain ⟨dx, ha⟩ := L.obj
    refine ⟨_, pss_one (ps_ret (pe_cmpR op_le (pe_mdef R hr T.cl (pv 0) (pa_cons pe_int (pa_cons pe_int pa_nil))) (pv 1) (nomark _))), ?_⟩
    have no : (lF lp (v.moveTime : Nat) (v.emptyTime : Nat)).lookup ("reach" : Str) = none := lF_no (by decide +kernel) (by decide +kernel) (by decide +kernel)
    refine ⟨_, rfl, a, dx, _, rfl, ha, no, a, lp, v, 0, 0, rfl, L, h4, _, rfl, _, _, rfl, rfl, ?_⟩
    have e : decide (((reach v 0 0 : Nat) : Int) ≤ (p : Int)) = Kp396.singleMoveFits v p := by
      unfold Kp396.singleMoveFits reach Kp396.emptyMove
      congr 1
      have e2 : (if 0 + 1 ≤ 0 then 0 - (0 + 1) else 0 + 1 - 0) * v.emptyTime = v.emptyTime := by
        rw [if_neg (by omega)]
        omega
      rw [e2]
      exact propext ⟨fun h => by omega, fun h => by omega⟩
    rw [← e] at q
    exact q
end
end HW
set_option maxHeartbeats 2000000
/-! The line is made, doubled, bounded. -/
namespace HW
open PySem PySem.Spec PyProof.Rows L2 HM
def spInit (C : Addr) : Sp := fun vs H Q _ => ∃ (p dx : Addr) (m e : Nat), vs = [.ref p, .int (m : Nat), .int (e : Nat)] ∧ H p = some (.ins C dx []) ∧
  ∀ (H' : Hp) (lp : Addr), H lp = none → LineAt C H' p lp ⟨[], m, e⟩ → (∀ b o, H b = some o → b ≠ p → H' b = some o) → Q .non H'
def spHas (C : Addr) : Sp := fun vs H Q _ => ∃ (a lp : Addr) (v : Kp396.Line) (i : Nat), vs = [.ref a, .int (i : Nat)] ∧ LineAt C H a lp v ∧ v.pits.length ≤ 4 ∧ ∀ r : Bool, (r = true ↔ i < v.pits.length) → Q (.bl r) H
def spTwin (C : Addr) : Sp := fun vs H Q _ => ∃ (a lp : Addr) (v : Kp396.Line), vs = [.ref a] ∧ LineAt C H a lp v ∧ v.pits.length ≤ 4 ∧
  ∀ (H' : Hp) (a' lp' : Addr), Same H H' → H a' = none → H lp' = none → LineAt C H' a' lp' v → Q (.ref a') H'
section
variable {P : Program} {w : World} {K : PySem.W.Frag} {mg : Str → Option Value} {base : Heap} {C CS : Addr}
theorem scInit : FnScope ["self", "move_time", "empty_time"] ["self", "move_time", "empty_time"] (defScope sInit) := ⟨rfl, rfl, rfl, by decide +kernel, rfl, by decide +kernel, by decide +kernel⟩
theorem ok_init {f : Addr} {fd : FuncData} (F : Fun K "__init__" "Line.__init__" sInit f fd) (T : Txt K mg C CS) : FnOk P w K mg base CX0 1 f fd ["self", "move_time", "empty_time"] (spInit C) := by
  refine F.ok scInit (fun vs H Q E h => ?_) (fun cdv A outer s H vs Q E hr h => ?_)
  · obtain ⟨p, dx, m, e, rfl, _⟩ := h
    rfl
  · obtain ⟨p, dx, m, e, rfl, hp, k⟩ := h
    refine ⟨_, pss_cons (ps_fld (pv 0) (pe_lst pa_nil) rfl) (pss_cons (ps_fld (pv 0) (pv 1) rfl) (pss_one (ps_fld (pv 0) (pv 2) rfl))), ?_⟩
    refine ⟨(by show 0 ≤ sizeLine; decide), fun lp hl => ?_⟩
    have npl : p ≠ lp := ne_of_none hp hl
    refine ⟨_, rfl, p, C, dx, [], rfl, (upd_ne npl).trans hp, T.cl, T.nP, (by show 0 < 1000; decide), ?_⟩
    refine ⟨_, rfl, _, rfl, p, C, dx, _, rfl, upd_same, T.cl, T.nM, (by show 1 < 1000; decide), ?_⟩
    refine ⟨_, rfl, _, rfl, p, C, dx, _, rfl, upd_same, T.cl, T.nE, (by show 2 < 1000; decide), ?_⟩
    have e1 : putF "empty_time" (V.int (e : Nat)) (putF "move_time" (V.int (m : Nat)) (putF "pits" (V.ref lp) [])) = lF lp (m : Nat) (e : Nat) := by
      have h1 : putF "pits" (V.ref lp) [] = [(("pits" : Str), V.ref lp)] := rfl
      have h2 : putF "move_time" (V.int (m : Nat)) [(("pits" : Str), V.ref lp)] = [(("pits" : Str), V.ref lp), (("move_time" : Str), V.int (m : Nat))] := (put_past (by decide +kernel)).trans rfl
      rw [h1, h2]
      exact (put_past (by decide +kernel)).trans (congrArg _ ((put_past (by decide +kernel)).trans rfl))
    refine k _ lp hl ⟨⟨dx, Eq.trans upd_same (congrArg (fun q => some (HO.ins C dx q)) e1)⟩, ⟨[], ?_, ⟨rfl, fun i t w h => by simp at h⟩⟩⟩ fun b o q hb => ?_
    · rw [upd_ne npl.symm, upd_ne npl.symm, upd_ne npl.symm]
      exact upd_same
    · rw [upd_ne hb, upd_ne hb, upd_ne hb, upd_ne (ne_of_none q hl)]
      exact q
theorem scHas : FnScope ["self", "pit"] ["self", "pit"] (defScope sHas) := ⟨rfl, rfl, rfl, by decide +kernel, rfl, by decide +kernel, by decide +kernel⟩
theorem ok_has {f : Addr} {fd : FuncData} (F : Fun K "has_pit" "Line.has_pit" sHas f fd) (T : Txt K mg C CS) : FnOk P w K mg base CX0 1 f fd ["self", "pit"] (spHas C) := by
  refine F.ok scHas (fun vs H Q E h => ?_) (fun cdv A outer s H vs Q E hr h => ?_)
  · obtain ⟨a, lp, v, i, rfl, _⟩ := h
    rfl
  · obtain ⟨a, lp, v, i, rfl, L, h4, k⟩ := h
    obtain ⟨dx, ha⟩ := L.obj
    obtain ⟨ts, hl, hp⟩ := L.lst
    refine ⟨_, pss_one (ps_ret (pe_chain op_le op_lt pe_int (pv 1) (pe_callB call_len_seq rfl T.len PySem.boot_len (pa_cons (pe_fld (pv 0) rfl) pa_nil)))), ?_⟩
    refine ⟨_, rfl, _, _, rfl, rfl, _, rfl, ite2 (fun h1 => ?_) (fun h1 => ?_)⟩
    · refine ⟨_, rfl, a, C, dx, _, _, rfl, ha, T.cl, T.nP, lF_pits, lp, _, rfl, .inl (SqL.of hl), _, _, rfl, rfl, k _ ?_⟩
      rw [decide_eq_true_eq, List.length_map, hp.len]
      omega
    · exact absurd (decide_eq_true (by omega)) h1
theorem scTwin : FnScope ["self", "other"] ["self"] (defScope sTwin) := ⟨rfl, rfl, rfl, by decide +kernel, rfl, by decide +kernel, by decide +kernel⟩
theorem ok_twin {f fI : Addr} {fd fdI : FuncData} (F : Fun K "twin" "Line.twin" sTwin f fd) (T : Txt K mg C CS) (M : Mk K C fI) (bI : Binds K fdI ["self", "move_time", "empty_time"] []) (GI : FnOk P w K mg base CX0 1 fI fdI ["self", "move_time", "empty_time"] (spInit C)) :
    FnOk P w K mg base CX0 3 f fd ["self"] (spTwin C) := by
  refine F.ok scTwin (fun vs H Q E h => ?_) (fun cdv A outer s H vs Q E hr h => ?_)
  · obtain ⟨a, lp, v, rfl, _⟩ := h
    rfl
  · obtain ⟨a, lp, v, rfl, L, h4, k⟩ := h
    obtain ⟨dx, ha⟩ := L.obj
    obtain ⟨ts, hl, hp⟩ := L.lst
    refine ⟨_, pss_cons (ps_set (i := 1) scTwin.nd rfl (.inl rfl) (pe_make M GI hr rfl T.gC bI .nil pass0 (pa_cons (pe_fld (pv 0) rfl) (pa_cons (pe_fld (pv 0) rfl) pa_nil))))
      (pss_cons (ps_expr (pe_bm PySem.F.plainAttrs_list PySem.F.slot_list_extend PySem.F.type_list_extend mt_extend (pe_fld (pv 1) rfl) (pa_cons (pe_fld (pv 0) rfl) pa_nil))) (pss_one (ps_ret (pv 1)))), ?_⟩
    refine ⟨_, rfl, a, C, dx, _, _, rfl, ha, T.cl, T.nM, lF_m, _, rfl, a, C, dx, _, _, rfl, ha, T.cl, T.nE, lF_e, ?_⟩
    intro x d0 nx nd ne
    refine ⟨x, d0, _, _, rfl, upd_same, fun H1 lq nl L1 kp => ?_⟩
    have s1 : Same H H1 := Same.made nx nd kp
    obtain ⟨d1, h1⟩ := L1.obj
    obtain ⟨ts1, h2, hp1⟩ := L1.lst
    have e0 : ts1 = [] := List.eq_nil_of_length_eq_zero hp1.len
    subst e0
    have nlq : H lq = none := by
      unfold upd at nl
      split at nl
      · cases nl
      · split at nl
        · cases nl
        · exact nl
    refine ⟨rfl, _, rfl, x, C, d1, _, _, rfl, h1, T.cl, T.nP, lF_pits, .inl ⟨rfl, _, SqL.of h2⟩, _, rfl, a, C, dx, _, _, rfl, s1 _ _ ha, T.cl, T.nP, lF_pits, ?_⟩
    have hz : ts.length ≤ 4 := by
      rw [hp.len]
      exact h4
    refine ⟨lq, lp, _, _, rfl, rfl, h2, s1 _ _ hl, (by rw [List.length_map, List.length_map]; exact small (show 0 + ts.length ≤ 4 by omega)), ?_⟩
    refine ⟨_, rfl, ?_⟩
    have xq : x ≠ lq := ne_of h1 h2 (by intro z; cases z)
    have s2 : Same H (upd H1 lq (.lst (([] : List Addr).map V.ref ++ ts.map V.ref))) := fun b o e => by
      rw [upd_ne (ne_of_none e nlq)]
      exact s1 _ _ e
    refine k _ x lq s2 nx nlq ⟨⟨d1, by rw [upd_ne xq]; exact h1⟩, ⟨ts, upd_same, ?_⟩⟩
    exact hp.same s2
end
end HW
set_option maxHeartbeats 2000000
/-! Short words. -/
namespace HW
open PySem PySem.Spec PyProof.Rows L2 HM
theorem atI_end {α : Type} {xs : List α} {n : Nat} {v : α} (hl : xs.length = n + 1) (h : xs[n]? = some v) : atI xs (-1) = some v := by
  have e := split_at h
  rw [List.drop_eq_nil_of_le (by omega)] at e
  rw [e]
  exact atI_last _ _
theorem iv_append (a b : List Nat) : iv (a ++ b) = iv a ++ iv b := List.map_append
theorem iv_snoc (a : List Nat) (n : Nat) : iv a ++ [V.int (n : Nat)] = iv (a ++ [n]) := (iv_append a [n]).symm
theorem iv_len (a : List Nat) : (iv a).length = a.length := List.length_map _
theorem iv_push {a b : List Nat} {n : Nat} {z : Int} (h : b = a ++ [n]) (e : z = (n : Int)) : iv a ++ [V.int z] = iv b := by
  rw [h, e]
  exact iv_snoc a n
/-- o.f within a comprehension -/
theorem pe_fldK {X : Cx} {K' : PySem.W.Frag} {e : Expr} {f : Str} {pos : Pos} {ta : TE} (hK : X.K = K') (he : PE X e ta) (hb : attributeBase e f X.env (eval e X.env) = eval e X.env) : PE X (.Attribute e f pos) (tFld K' ta f) := by
  subst hK
  exact pe_fld he hb
theorem ix_listK {X : Cx} {K' : PySem.W.Frag} (hK : X.K = K') : IxR X (rIxL K') := by
  subst hK
  exact ix_list
end HW
set_option maxHeartbeats 2000000
/-! The times of the moves. -/
namespace HW
open PySem PySem.Spec PyProof.Rows L2 HM
abbrev sMT : Stmt := topS 22
abbrev sSB : Stmt := topS 23
abbrev sTT : Stmt := topS 37
def spMT (C : Addr) (K : PySem.W.Frag) : Sp := fun vs H Q _ => ∃ (a lp pl : Addr) (v : Kp396.Line) (plan : List Nat), vs = [.ref a, .ref pl] ∧ LineAt C H a lp v ∧ SqL K H pl (iv plan) ∧ plan.length ≤ 600 ∧
  ∀ (H' : Hp) (p : Addr), H p = none → Same H H' → H' p = some (.lst (iv (Kp396.startTimes v plan))) → Q (.ref p) H'
def spTT (C : Addr) (K : PySem.W.Frag) : Sp := fun vs H Q _ => ∃ (a lp pl : Addr) (v : Kp396.Line) (plan : List Nat), vs = [.ref a, .ref pl] ∧ LineAt C H a lp v ∧ SqL K H pl (iv plan) ∧ plan.length ≤ 600 ∧
  ∀ (H' : Hp), Same H H' → Q (.int (Kp396.throughputTime v plan : Nat)) H'
section
variable {P : Program} {w : World} {K : PySem.W.Frag} {mg : Str → Option Value} {base : Heap} {C CS : Addr}
theorem scMT : FnScope ["line", "plan", "times", "stay"] ["line", "plan"] (defScope sMT) := ⟨rfl, rfl, rfl, by decide +kernel, rfl, by decide +kernel, by decide +kernel⟩
theorem ok_mt {f : Addr} {fd : FuncData} (F : Fun K "move_times" "move_times" sMT f fd) (T : Txt K mg C CS) : FnOk P w K mg base CX0 1 f fd ["line", "plan"] (spMT C K) := by
  refine F.ok scMT (fun vs H Q E h => ?_) (fun cdv A outer s H vs Q E hr h => ?_)
  · obtain ⟨a, lp, pl, v, plan, rfl, _⟩ := h
    rfl
  · obtain ⟨a, lp, pl, v, plan, rfl, L, hP, hlen, k⟩ := h
    obtain ⟨dx, ha⟩ := L.obj
    refine ⟨_, pss_cons (ps_set (i := 2) scMT.nd rfl (.inl rfl) (pe_lst (pa_cons pe_int pa_nil)))
      (pss_cons (ps_for PassesOwn.never rfl (pi_list (pv 1)) (pg_name (i := 3) scMT.nd rfl (.inl rfl))
        (pss_one (ps_expr (pe_bm PySem.F.plainAttrs_list PySem.F.slot_list_append PySem.F.type_list_append mt_append (pv 2) (pa_cons (pe_op op_add (pe_op op_add (pe_ix ix_list (pv 2) (pe_un un_neg pe_int) (fun _ _ => rfl)) (pe_fld (pv 0) rfl)) (pv 3)) pa_nil)))))
      (pss_one (ps_ret (pv 2)))), ?_⟩
    refine ⟨(by show 1 ≤ sizeLine; decide), fun q hq => ?_⟩
    have s0 : Same H (upd H q (.lst [.int 0])) := same_upd hq
    refine ⟨_, rfl, pl, rfl, ⟨_, s0.seq hP⟩, for_list (K := K) (a := pl) (xs := iv plan) (fun i σ H' => ∃ v3 : Option V, σ = [some (.ref a), some (.ref pl), some (.ref q), v3] ∧ H' q = some (.lst (iv (Kp396.startTimes v (plan.take i)))) ∧ Same H H')
      ⟨none, rfl, by rw [List.take_zero, startTimes_nil]; exact upd_same, s0⟩ (fun i σ H' _ ⟨_, _, _, s1⟩ => s1.seq hP) ?_ ?_⟩
    · rintro i y σ H' hi ⟨v3, rfl, hq', s1⟩
      obtain ⟨n, hn, rfl⟩ := iv_get hi
      have hlt : i < plan.length := (List.getElem?_eq_some_iff.mp hn).1
      have hle : (Kp396.startTimes v (plan.take i)).length = i + 1 := by rw [startTimes_length, List.length_take]; omega
      have hat : atI (iv (Kp396.startTimes v (plan.take i))) (-1) = some (.int (tm v plan i : Nat)) := atI_end ((iv_len _).trans hle) (iv_at (startTimes_take_last (by omega)))
      refine ⟨_, rfl, .inl ⟨rfl, _, SqL.of hq'⟩, _, rfl, _, rfl, q, _, _, _, rfl, rfl, SqL.of hq', hat, ?_⟩
      refine ⟨_, rfl, a, C, dx, _, _, rfl, s1 _ _ ha, T.cl, T.nM, lF_m, _, _, rfl, rfl, _, rfl, _, _, rfl, rfl, ?_⟩
      refine ⟨q, _, _, rfl, rfl, hq', (by rw [List.length_map, hle]; exact smallT (show i + 1 ≤ 601 by omega)), ?_⟩
      refine ⟨some (.int (n : Nat)), rfl, ?_, fun b o e => by rw [upd_ne (ne_of_none e hq)]; exact s1 b o e⟩
      exact upd_same.trans (congrArg (fun z => some (HO.lst z)) (iv_push (startTimes_more hn) (by show ((tm v plan i : Nat) : Int) + (v.moveTime : Nat) + (n : Nat) = _; omega)))
    · rintro σ H' ⟨v3, rfl, hq', s1⟩
      rw [List.length_map, List.take_length] at hq'
      exact ⟨_, rfl, k H' q hq s1 hq'⟩
theorem scTT : FnScope ["line", "plan"] ["line", "plan"] (defScope sTT) := ⟨rfl, rfl, rfl, by decide +kernel, rfl, by decide +kernel, by decide +kernel⟩
theorem ok_tt {f : Addr} {fd : FuncData} (F : Fun K "time_through" "time_through" sTT f fd) (T : Txt K mg C CS) (M : Def P w K mg base 1 "move_times" ["line", "plan"] (spMT C K)) : FnOk P w K mg base CX0 2 f fd ["line", "plan"] (spTT C K) := by
  refine F.ok scTT (fun vs H Q E h => ?_) (fun cdv A outer s H vs Q E hr h => ?_)
  · obtain ⟨a, lp, pl, v, plan, rfl, _⟩ := h
    rfl
  · obtain ⟨a, lp, pl, v, plan, rfl, L, hP, hlen, k⟩ := h
    obtain ⟨dx, ha⟩ := L.obj
    refine ⟨_, pss_one (ps_ret (pe_op op_add (pe_ix ix_list (pe_def M hr rfl (pa_cons (pv 0) (pa_cons (pv 1) pa_nil))) (pe_un un_neg pe_int) (fun _ _ => rfl)) (pe_fld (pv 0) rfl))), ?_⟩
    refine ⟨_, rfl, _, rfl, a, lp, pl, v, plan, rfl, L, hP, hlen, fun H' p hp s1 h1 => ?_⟩
    have hat : atI (iv (Kp396.startTimes v plan)) (-1) = some (.int (tm v plan plan.length : Nat)) := atI_end ((iv_len _).trans (startTimes_length v plan)) (iv_at (tm_get (Nat.le_refl _)))
    refine ⟨_, rfl, p, _, _, _, rfl, rfl, SqL.of h1, hat, _, rfl, a, C, dx, _, _, rfl, s1 _ _ ha, T.cl, T.nM, lF_m, _, _, rfl, rfl, ?_⟩
    have q := k H' s1
    rw [through_eq, Int.natCast_add] at q
    exact q
end
end HW
set_option maxHeartbeats 2000000
/-! The stays between the times. -/
namespace HW
open PySem PySem.Spec PyProof.Rows L2 HM
def spSB (C : Addr) (K : PySem.W.Frag) : Sp := fun vs H Q _ => ∃ (a lp tl : Addr) (v : Kp396.Line) (plan : List Nat), vs = [.ref a, .ref tl] ∧ LineAt C H a lp v ∧ SqL K H tl (iv (Kp396.startTimes v plan)) ∧ plan.length ≤ 600 ∧
  ∀ (H' : Hp) (p : Addr), H p = none → Same H H' → H' p = some (.lst (iv plan)) → Q (.ref p) H'
section
variable {P : Program} {w : World} {K : PySem.W.Frag} {mg : Str → Option Value} {base : Heap} {C CS : Addr}
theorem scSB : FnScope ["line", "times", "move"] ["line", "times"] (defScope sSB) := ⟨rfl, rfl, rfl, by decide +kernel, rfl, by decide +kernel, by decide +kernel⟩
theorem ok_sb {f : Addr} {fd : FuncData} (F : Fun K "stays_between" "stays_between" sSB f fd) (T : Txt K mg C CS) : FnOk P w K mg base CX0 1 f fd ["line", "times"] (spSB C K) := by
  refine F.ok scSB (fun vs H Q E h => ?_) (fun cdv A outer s H vs Q E hr h => ?_)
  · obtain ⟨a, lp, tl, v, plan, rfl, _⟩ := h
    rfl
  · obtain ⟨a, lp, tl, v, plan, rfl, L, hT, hlen, k⟩ := h
    obtain ⟨dx, ha⟩ := L.obj
    refine ⟨_, pss_one (ps_ret (pe_lc (own := [("move", 2)]) (g := gName 2) (tt := tYes) rfl scSB.nd (pi_range1 rfl T.range (pa_cons (pe_op op_sub (pe_callB call_len_seq rfl T.len PySem.boot_len (pa_cons (pv 1) pa_nil)) pe_int) pa_nil))
      (blkOk_by (N := ["line", "times", "move"]) (sc := defScope sSB) (by decide +kernel)) (fun _ _ _ _ _ => pg_name (i := 2) scSB.nd rfl (Or.inl rfl)) (fun _ _ _ _ _ => pts_nil)
      (fun _ _ _ _ _ => pe_op op_sub (pe_op op_sub (pe_ix (ix_listK (K' := K) rfl) (pv 1) (pe_op op_add (pv 2) pe_int) (fun _ _ => rfl)) (pe_ix (ix_listK (K' := K) rfl) (pv 1) (pv 2) (fun _ _ => rfl))) (pe_fldK (K' := K) rfl (pv 0) rfl)))), ?_⟩
    have hle : (Kp396.startTimes v plan).length = plan.length + 1 := startTimes_length v plan
    refine ⟨_, rfl, tl, _, rfl, .inl hT, _, _, rfl, rfl, _, rfl, ?_⟩
    refine ⟨by rw [iv_len, hle]; omega, by rw [iv_len, hle]; omega, fun D hD => ?_⟩
    have en : (((iv (Kp396.startTimes v plan)).length : Int) - 1).toNat = plan.length := by rw [iv_len, hle]; omega
    have s0 : Same H (upd H D (.lst [])) := same_upd hD
    refine lc_range (lo := 0) (n := (((iv (Kp396.startTimes v plan)).length : Int) - 1).toNat) (fun i H' => H' D = some (.lst (iv (plan.take i))) ∧ Same H H') ⟨upd_same, s0⟩ ?_ ?_
    · rintro i H' hi ⟨hd, s1⟩
      rw [en] at hi
      have hn : plan[i]? = some plan[i] := List.getElem?_eq_getElem hi
      refine ⟨rfl, ?_⟩
      have hT1 := s1.seq hT
      refine ⟨_, rfl, _, rfl, _, _, rfl, rfl, tl, _, _, _, rfl, rfl, hT1, at_of (j := i + 1) (by show (0 : Int) + (i : Int) + 1 = _; omega) (iv_at (tm_get (show i + 1 ≤ plan.length by omega))), ?_⟩
      refine ⟨_, rfl, _, rfl, tl, _, _, _, rfl, rfl, hT1, at_of (j := i) (by show (0 : Int) + (i : Int) = _; omega) (iv_at (tm_get (show i ≤ plan.length by omega))), _, _, rfl, rfl, ?_⟩
      refine ⟨_, rfl, a, C, dx, _, _, rfl, s1 _ _ ha, T.cl, T.nM, lF_m, _, _, rfl, rfl, ?_⟩
      refine ⟨_, hd, by rw [iv_len, List.length_take]; exact smallT (show min i plan.length ≤ 600 by omega), ?_, fun b o e => by rw [upd_ne (ne_of_none e hD)]; exact s1 b o e⟩
      exact upd_same.trans (congrArg (fun z => some (HO.lst z)) (iv_push (take_more hn) (by have e := tm_step (v := v) hn; show ((tm v plan (i + 1) : Nat) : Int) - (tm v plan i : Nat) - (v.moveTime : Nat) = _; omega)))
    · rintro H' ⟨hd, s1⟩
      rw [en, List.take_length] at hd
      exact k H' D hD s1 hd
end
end HW
set_option maxHeartbeats 2000000
/-! The first conflict. -/
namespace HW
open PySem PySem.Spec PyProof.Rows L2 HM
abbrev sFC : Stmt := topS 29
def pairV (x : Option (Nat × Nat)) : Option (List V) := x.map fun q => [.int (q.1 : Nat), .int (q.2 : Nat)]
/-- None, or a new list of what is told -/
def OptL (H H' : Hp) (x : Option (List V)) (r : V) : Prop := match x with
  | none => r = .non
  | some l => ∃ p, r = .ref p ∧ H p = none ∧ H' p = some (.lst l)
def spFC (C : Addr) (K : PySem.W.Frag) : Sp := fun vs H Q _ => ∃ (a lp pl : Addr) (v : Kp396.Line) (p : Nat) (plan : List Nat), vs = [.ref a, .int (p : Nat), .ref pl] ∧ LineAt C H a lp v ∧ Ok v ∧ 0 < p ∧ SqL K H pl (iv plan) ∧ plan.length ≤ 600 ∧
  ∀ (H' : Hp) (r : V), Same H H' → OptL H H' (pairV (Kp396.firstConflict v p plan)) r → Q r H'
section
variable {P : Program} {w : World} {K : PySem.W.Frag} {mg : Str → Option Value} {base : Heap} {C CS : Addr}
theorem scFC : FnScope ["line", "period", "plan", "times", "first", "second"] ["line", "period", "plan"] (defScope sFC) := ⟨rfl, rfl, rfl, by decide +kernel, rfl, by decide +kernel, by decide +kernel⟩
theorem fitAt_int {v : Kp396.Line} {p : Nat} {l : List Nat} {k j : Nat} (ok : Ok v) (hp : 0 < p) : fitAt v p l k j = fitsI v p k j (tm v l k) (tm v l j) := movesFit_eq v p k _ j _ hp ok.mt.1
theorem ok_fc {f : Addr} {fd : FuncData} (F : Fun K "find_first_conflict" "find_first_conflict" sFC f fd) (T : Txt K mg C CS) (M : Def P w K mg base 1 "move_times" ["line", "plan"] (spMT C K))
    (MC : Def P w K mg base 3 "moves_conflict" ["line", "period", "times", "first", "second"] (spMC C K)) : FnOk P w K mg base CX0 4 f fd ["line", "period", "plan"] (spFC C K) := by
  refine F.ok scFC (fun vs H Q E h => ?_) (fun cdv A outer s H vs Q E hr h => ?_)
  · obtain ⟨a, lp, pl, v, p, plan, rfl, _⟩ := h
    rfl
  · obtain ⟨a, lp, pl, v, p, plan, rfl, L, ok, hp, hP, hlen, k⟩ := h
    refine ⟨_, pss_cons (ps_set (i := 3) scFC.nd rfl (.inl rfl) (pe_def M hr rfl (pa_cons (pv 0) (pa_cons (pv 2) pa_nil))))
      (pss_cons (ps_for PassesOwn.never rfl (pi_range1 rfl T.range (pa_cons (pe_callB call_len_seq rfl T.len PySem.boot_len (pa_cons (pv 3) pa_nil)) pa_nil)) (pg_name (i := 4) scFC.nd rfl (.inl rfl))
        (pss_one (ps_for PassesOwn.never rfl (pi_range2 rfl T.range (pa_cons (pe_op op_add (pv 4) pe_int) (pa_cons (pe_callB call_len_seq rfl T.len PySem.boot_len (pa_cons (pv 3) pa_nil)) pa_nil))) (pg_name (i := 5) scFC.nd rfl (.inl rfl))
          (pss_one (ps_if (pt_val (pe_def MC hr rfl (pa_cons (pv 0) (pa_cons (pv 1) (pa_cons (pv 3) (pa_cons (pv 4) (pa_cons (pv 5) pa_nil)))))))
            (pss_one (ps_ret (pe_lst (pa_cons (pv 4) (pa_cons (pv 5) pa_nil))))) pss_nil)))))
      (pss_one (ps_ret pe_non))), ?_⟩
    have hle : (Kp396.startTimes v plan).length = plan.length + 1 := startTimes_length v plan
    have e4 : v.emptyTime ≤ 4 := ok.mt.2.2
    refine ⟨_, rfl, _, rfl, a, lp, pl, v, plan, rfl, L, hP, hlen, fun H1 q hq s1 h1 => ?_⟩
    have hl1 : ((iv (Kp396.startTimes v plan)).length : Int) = (plan.length : Int) + 1 := by rw [iv_len, hle]; omega
    refine ⟨_, rfl, q, _, rfl, .inl (SqL.of h1), _, rfl, by rw [hl1]; omega, by rw [hl1]; omega, ?_⟩
    refine for_range (lo := 0) (n := ((iv (Kp396.startTimes v plan)).length : Int).toNat) (fun i σ H' => (∃ v4 v5 : Option V, σ = [some (.ref a), some (.int (p : Nat)), some (.ref pl), some (.ref q), v4, v5]) ∧ Same H1 H' ∧ ∀ k j, k < i → k < j → j ≤ plan.length → fitAt v p plan k j = true)
      ⟨⟨none, none, rfl⟩, .refl _, fun k j h => absurd h (Nat.not_lt_zero _)⟩ ?_ ?_
    · rintro i σ H2 hi ⟨⟨v4, v5, rfl⟩, s2, fit⟩
      rw [hl1] at hi
      have hi : i ≤ plan.length := by omega
      refine ⟨_, rfl, _, _, rfl, rfl, _, rfl, q, _, rfl, .inl (SqL.of (s2 _ _ h1)), _, _, rfl, ⟨by omega, by omega, by rw [hl1]; omega, by rw [hl1]; omega⟩, ?_⟩
      refine for_range (lo := (0 : Int) + (i : Int) + 1) (n := (((iv (Kp396.startTimes v plan)).length : Int) - ((0 : Int) + (i : Int) + 1)).toNat) (fun i2 σ H' => (∃ v5 : Option V, σ = [some (.ref a), some (.int (p : Nat)), some (.ref pl), some (.ref q), some (.int ((0 : Int) + (i : Int))), v5]) ∧ Same H1 H' ∧ ∀ j, i < j → j < i + 1 + i2 → fitAt v p plan i j = true)
        ⟨⟨v5, rfl⟩, s2, fun j h1 h2 => by omega⟩ ?_ ?_
      · rintro i2 σ H3 hi2 ⟨⟨v5, rfl⟩, s3, fit2⟩
        rw [hl1] at hi2
        have ej : (0 : Int) + (i : Int) + 1 + (i2 : Int) = ((i + 1 + i2 : Nat) : Int) := by omega
        have ei : (0 : Int) + (i : Int) = ((i : Nat) : Int) := by omega
        rw [ej, ei]
        have hj : i + 1 + i2 ≤ plan.length := by omega
        refine ⟨_, rfl, _, rfl, _, rfl, _, rfl, _, rfl, a, lp, q, v, p, i, i + 1 + i2, tm v plan i, tm v plan (i + 1 + i2), Kp396.startTimes v plan, rfl, L.same (s1.trans s3), e4, hp, SqL.of (s3 _ _ h1), tm_get hi, tm_get hj, fun H4 s4 => ⟨_, rfl, ?_⟩⟩
        rw [← fitAt_int ok hp]
        have s14 : Same H H4 := (s1.trans s3).trans s4
        cases ef : fitAt v p plan i (i + 1 + i2) with
        | true =>
          refine iteF ⟨⟨some (.int ((i + 1 + i2 : Nat) : Int)), rfl⟩, s3.trans s4, fun j h1 h2 => ?_⟩
          by_cases e : j = i + 1 + i2
          · rw [e]
            exact ef
          · exact fit2 j h1 (by omega)
        | false =>
          refine iteT ⟨_, rfl, _, rfl, (by show 2 ≤ sizeLine; decide), fun z hz => ?_⟩
          have hc := conflict_some (v := v) (p := p) (l := plan) (K := i) (J := i + 1 + i2) (by omega) hj (fun k j h1 h2 h3 => fit k j h1 h2 h3) (fun j h1 h2 => fit2 j h1 h2) ef
          refine k _ _ (s14.trans (same_upd hz)) ?_
          rw [hc]
          exact ⟨z, rfl, s14.free hz, upd_same⟩
      · rintro σ H3 ⟨⟨v5, rfl⟩, s3, fit2⟩
        refine ⟨⟨_, _, rfl⟩, s3, fun k j h1 h2 h3 => ?_⟩
        by_cases e : k = i
        · rw [e] at h2 ⊢
          refine fit2 j h2 ?_
          rw [hl1]
          omega
        · exact fit k j (by omega) h2 h3
    · rintro σ H2 ⟨⟨v4, v5, rfl⟩, s2, fit⟩
      have hc := conflict_none (v := v) (p := p) (l := plan) fun k j h1 h2 h3 => fit k j (by rw [hl1]; omega) h2 h3
      refine k _ _ (s1.trans s2) ?_
      rw [hc]
      rfl
end
end HW
set_option maxHeartbeats 4000000
/-! The next starts. -/
namespace HW
open PySem PySem.Spec PyProof.Rows L2 HM
abbrev sNS : Stmt := topS 30
abbrev nNS : List Str := ["line", "period", "times", "least", "most", "arrival", "starts", "move", "begun", "nearest", "farthest", "stay", "start"]
/-- the starts of the move behind l -/
def nextS (v : Kp396.Line) (p : Nat) (l : List Nat) : List Nat := (nexts v p l).map fun s => tm v l l.length + v.moveTime + s
def spNS (C : Addr) (K : PySem.W.Frag) : Sp := fun vs H Q _ => ∃ (a lp tl : Addr) (v : Kp396.Line) (p : Nat) (l : List Nat), vs = [.ref a, .int (p : Nat), .ref tl] ∧ LineAt C H a lp v ∧ Ok v ∧ 0 < p ∧ p ≤ 99 ∧ SqL K H tl (iv (Kp396.startTimes v l)) ∧ l.length < v.pits.length ∧
  ∀ (H' : Hp) (q : Addr), H q = none → Same H H' → H' q = some (.lst (iv (nextS v p l))) → Q (.ref q) H'
theorem scNS : FnScope nNS ["line", "period", "times"] (defScope sNS) := ⟨rfl, rfl, rfl, by decide +kernel, rfl, by decide +kernel, by decide +kernel⟩
theorem min_plus (b p : Nat) (hp : 0 < p) : (if ((p : Int) - 1) < (b : Int) then (p : Int) - 1 else (b : Int)) + 1 = ((min b (p - 1) + 1 : Nat) : Int) := by
  split <;> omega
section
variable {P : Program} {w : World} {K : PySem.W.Frag} {mg : Str → Option Value} {base : Heap} {C CS : Addr}
theorem ok_ns {f : Addr} {fd : FuncData} (F : Fun K "next_starts" "next_starts" sNS f fd) (T : Txt K mg C CS) (G : Def P w K mg base 2 "allowed_gap" ["line", "period", "first", "second"] (spGap C)) : FnOk P w K mg base CX0 3 f fd ["line", "period", "times"] (spNS C K) := by
  refine F.ok scNS (fun vs H Q E h => ?_) (fun cdv A outer s H vs Q E hr h => ?_)
  · obtain ⟨a, lp, tl, v, p, l, rfl, _⟩ := h
    rfl
  · obtain ⟨a, lp, tl, v, p, l, rfl, L, ok, hp, hp9, hT, hlt, k⟩ := h
    obtain ⟨dx, ha⟩ := L.obj
    obtain ⟨ts, hl, hps⟩ := L.lst
    refine ⟨_, pss_cons (ps_asg (pe_ix ix_list (pe_fld (pv 0) rfl) (pe_op op_sub (pe_callB call_len_seq rfl T.len PySem.boot_len (pa_cons (pv 2) pa_nil)) pe_int) (fun _ _ => rfl)) (pg_tup (by rfl) (pgs_cons (pg_name (i := 3) scNS.nd rfl (.inl rfl)) (pgs_cons (pg_name (i := 4) scNS.nd rfl (.inl rfl)) pgs_nil))))
      (pss_cons (ps_set (i := 5) scNS.nd rfl (.inr rfl) (pe_op op_add (pe_ix ix_list (pv 2) (pe_un un_neg pe_int) (fun _ _ => rfl)) (pe_fld (pv 0) rfl)))
      (pss_cons (ps_setLc (i := 6) (own := [("stay", 11)]) (g := gName 11) (tt := tYes) rfl scNS.nd rfl rfl (sw_true rfl rfl rfl (by decide +kernel))
          (pi_range2 rfl T.range (pa_cons (pv 3) (pa_cons (pe_op op_add (pe_callB (call_min2 rfl) rfl T.min (by decide +kernel) (pa_cons (pv 4) (pa_cons (pe_op op_sub (pv 1) pe_int) pa_nil))) pe_int) pa_nil)))
          (blkOk_by (N := nNS) (sc := defScope sNS) (by decide +kernel)) (fun _ _ _ _ _ => pg_name (i := 11) scNS.nd rfl (Or.inl rfl)) (fun _ _ _ _ _ => pts_nil) (fun _ _ _ _ _ => pe_op op_add (pv 5) (pv 11)))
      (pss_cons (ps_for PassesOwn.never rfl (pi_enum rfl T.enumerate (pa_cons (pv 2) pa_nil)) (pg_tup (by rfl) (pgs_cons (pg_name (i := 7) scNS.nd rfl (.inl rfl)) (pgs_cons (pg_name (i := 8) scNS.nd rfl (.inr rfl)) pgs_nil)))
        (pss_cons (ps_asg (pe_def G hr rfl (pa_cons (pv 0) (pa_cons (pv 1) (pa_cons (pv 7) (pa_cons (pe_callB call_len_seq rfl T.len PySem.boot_len (pa_cons (pv 2) pa_nil)) pa_nil))))) (pg_tup (by rfl) (pgs_cons (pg_name (i := 9) scNS.nd rfl (.inr rfl)) (pgs_cons (pg_name (i := 10) scNS.nd rfl (.inr rfl)) pgs_nil))))
        (pss_one (ps_setLc (i := 6) (own := [("start", 12)]) (g := gName 12) rfl scNS.nd rfl rfl (sw_true rfl rfl rfl (by decide +kernel)) (pi_list (pv 6))
          (blkOk_by (N := nNS) (sc := defScope sNS) (by decide +kernel)) (fun _ _ _ _ _ => pg_name (i := 12) scNS.nd rfl (Or.inl rfl))
          (fun _ _ _ _ _ => pts_one (pt_chain op_le op_le (pv 9) (pe_op op_modN (pe_op op_sub (pv 12) (pv 8)) (pv 1)) (pv 10))) (fun _ _ _ _ _ => pv 12)))))
      (pss_one (ps_ret (pv 6)))))), ?_⟩
    have hle : (Kp396.startTimes v l).length = l.length + 1 := startTimes_length v l
    have hll : ((iv (Kp396.startTimes v l)).length : Int) = (l.length : Int) + 1 := by rw [iv_len, hle]; omega
    obtain ⟨hw1, hw2, hw3⟩ := ok.wa hlt
    have e4 : v.emptyTime ≤ 4 := ok.mt.2.2
    have n4 := ok.n4
    have tlt : l.length < ts.length := by rw [hps.len]; exact hlt
    have ht : ts[l.length]? = some ts[l.length] := List.getElem?_eq_getElem tlt
    have hw : v.pits[l.length]? = some (Kp396.windowAt v l.length) := by
      rw [List.getElem?_eq_getElem hlt]
      unfold Kp396.windowAt
      rw [List.getD_eq_getElem?_getD, List.getElem?_eq_getElem hlt]
      rfl
    have htup := hps.at_ _ _ _ ht hw
    have htr : (ts.map V.ref)[l.length]? = some (.ref ts[l.length]) := by rw [List.getElem?_map, ht]; rfl
    -- least, most = line.pits[len(times) - 1]
    refine ⟨_, rfl, a, C, dx, _, _, rfl, ha, T.cl, T.nP, lF_pits, _, rfl, tl, _, rfl, .inl hT, _, _, rfl, rfl, lp, _, _, _, rfl, rfl, SqL.of hl, at_of (j := l.length) (by rw [hll]; omega) htr, ?_⟩
    refine ⟨_, _, rfl, .inl (.inl htup), rfl, _, _, rfl, _, _, rfl, rfl, ?_⟩
    -- arrival
    have hat : atI (iv (Kp396.startTimes v l)) (-1) = some (.int (tm v l l.length : Nat)) := atI_end ((iv_len _).trans hle) (iv_at (tm_get (Nat.le_refl _)))
    refine ⟨_, rfl, _, rfl, tl, _, _, _, rfl, rfl, hT, hat, _, rfl, a, C, dx, _, _, rfl, ha, T.cl, T.nM, lF_m, _, _, rfl, rfl, ?_⟩
    -- starts
    generalize hA : tm v l l.length + v.moveTime = arr
    have eA : ((tm v l l.length : Nat) : Int) + (v.moveTime : Nat) = (arr : Int) := by omega
    generalize hLo : (Kp396.windowAt v l.length).least = lo at *
    generalize hHi : (Kp396.windowAt v l.length).most = hi at *
    refine ⟨_, rfl, _, rfl, _, rfl, _, _, rfl, rfl, _, _, rfl, _, _, rfl, rfl, _, _, rfl, ?_⟩
    refine ⟨⟨by omega, by omega, by split <;> omega, by split <;> omega⟩, fun D hD => ?_⟩
    have eN : (((if ((p : Int) - 1) < (hi : Int) then (p : Int) - 1 else (hi : Int)) + 1) - (lo : Int)).toNat = min hi (p - 1) + 1 - lo := by
      rw [min_plus hi p hp]
      omega
    have eSt : stays v p l.length = (List.range (min hi (p - 1) + 1 - lo)).map fun i => lo + i := by
      unfold stays
      rw [hLo, hHi]
    have s0 : Same H (upd H D (.lst [])) := same_upd hD
    refine lc_range (lo := (lo : Int)) (n := (((if ((p : Int) - 1) < (hi : Int) then (p : Int) - 1 else (hi : Int)) + 1) - (lo : Int)).toNat)
      (fun i H' => H' D = some (.lst (iv (((List.range (min hi (p - 1) + 1 - lo)).take i).map fun i => arr + (lo + i)))) ∧ Same H H') ⟨upd_same, s0⟩ ?_ ?_
    · rintro i H' hi' ⟨hd, s1⟩
      rw [eN] at hi'
      have hn : (List.range (min hi (p - 1) + 1 - lo))[i]? = some i := List.getElem?_range hi'
      refine ⟨rfl, ?_⟩
      refine ⟨_, rfl, _, rfl, _, _, rfl, rfl, _, hd, by rw [iv_len, List.length_map, List.length_take]; exact smallT (show min i _ ≤ 31 by omega), ?_, fun b o e => by rw [upd_ne (ne_of_none e hD)]; exact s1 b o e⟩
      refine upd_same.trans (congrArg (fun z => some (HO.lst z)) (iv_push (n := arr + (lo + i)) ?_ ?_))
      · rw [take_more hn, List.map_append]
        rfl
      · show ((tm v l l.length : Nat) : Int) + (v.moveTime : Nat) + ((lo : Int) + (i : Int)) = _
        omega
    · rintro H1 ⟨hd, s1⟩
      have hd0 : H1 D = some (.lst (iv (startsK v p l 0))) := by
        rw [eN, List.take_of_length_le (by simp)] at hd
        rw [hd, startsK_zero, eSt, List.map_map, hA]
        rfl
      have hS31 : ∀ k, (startsK v p l k).length ≤ 31 := fun k => startsK_len v p l k (by rw [hHi]; exact hw3)
      have hT1 := s1.seq hT
      refine ⟨_, rfl, tl, _, rfl, hT1, ?_⟩
      refine for_it (walk_enum (K := K) (a := tl) (xs := iv (Kp396.startTimes v l)))
        (fun i σ H' => ∃ (sA : Addr) (v7 v8 v9 v10 v11 v12 : Option V), σ = [some (.ref a), some (.int (p : Nat)), some (.ref tl), some (.int (lo : Nat)), some (.int (hi : Nat)), some (.int (((tm v l l.length : Nat) : Int) + (v.moveTime : Nat))), some (.ref sA), v7, v8, v9, v10, v11, v12] ∧
          H' sA = some (.lst (iv (startsK v p l i))) ∧ H sA = none ∧ Same H H')
        ⟨D, none, none, none, none, none, none, rfl, hd0, hD, s1⟩ (fun i σ H' _ ⟨_, _, _, _, _, _, _, _, _, _, s2⟩ => s2.seq hT) ?_ ?_
      · rintro i x σ H2 H2' hi2 ⟨sA, v7, v8, v9, v10, v11, v12, rfl, hs2, nA, s2⟩ ⟨Tp, x1, y1, rfl, nT, rfl, hx1, hy1⟩
        rw [iv_len, hle] at hi2
        have ex1 : x1 = .int (i : Nat) := (Option.some.inj hx1).symm
        subst ex1
        obtain ⟨b, hb, rfl⟩ := iv_get hy1
        have eb : b = tm v l i := by
          have e := tm_get (v := v) (l := l) (k := i) (by omega)
          rw [hb] at e
          exact Option.some.inj e
        subst eb
        have s3 : Same H2 (upd H2 Tp (.tup [.int (i : Nat), .int (tm v l i : Nat)])) := same_upd nT
        refine ⟨Tp, _, rfl, .inl (.inl upd_same), rfl, _, _, rfl, _, _, rfl, rfl, ?_⟩
        refine ⟨_, rfl, _, rfl, _, rfl, _, rfl, tl, _, rfl, .inl ((s2.trans s3).seq hT), a, lp, v, p, i, l.length + 1, ?_, L.same (s2.trans s3), e4, fun t ht2 => ?_⟩
        · rw [hll]
          rfl
        have s4 := s3.trans (same_upd (H := upd H2 Tp (.tup [.int (i : Nat), .int (tm v l i : Nat)])) (o := .tup [.int (reach v i (l.length + 1) : Nat), .int ((p : Nat) - (reach v (l.length + 1) i : Nat))]) ht2)
        refine ⟨t, _, rfl, .inl (.inl upd_same), rfl, _, _, rfl, _, _, rfl, rfl, ?_⟩
        refine ⟨_, rfl, sA, rfl, ⟨_, SqL.of (s4 _ _ hs2)⟩, fun D2 hD2 => ?_⟩
        have nD2 : H D2 = none := (s2.trans s4).free hD2
        have s5 := s4.trans (same_upd (o := .lst []) hD2)
        refine lc_list (K := K) (a := sA) (xs := iv (startsK v p l i)) (fun j H' => H' D2 = some (.lst (iv (((startsK v p l i).take j).filter fun t => Kp396.movesFit v p i (tm v l i) (l.length + 1) t))) ∧ Same H2 H')
          ⟨upd_same, s5⟩ (fun j H' _ ⟨_, s6⟩ => SqL.of (s6 _ _ hs2)) ?_ ?_
        · rintro j x H3 hj ⟨hd3, s6⟩
          obtain ⟨t0, ht0, rfl⟩ := iv_get hj
          have em : ((t0 : Int) - (tm v l i : Int)).fmod (p : Int) = ((t0 : Int) - tm v l i) % p := Int.fmod_eq_emod_of_nonneg _ (by omega)
          have eF := movesFit_eq v p i (tm v l i) (l.length + 1) t0 hp ok.mt.1
          have e31 := hS31 i
          refine ⟨rfl, ?_⟩
          refine ⟨_, rfl, _, rfl, _, rfl, _, _, rfl, rfl, _, rfl, _, _, rfl, rfl, (by omega), _, _, rfl, rfl, _, rfl, ite2 (fun h1 => ?_) (fun h1 => ?_)⟩
          · refine ⟨_, rfl, _, _, rfl, rfl, _, rfl, ?_⟩
            rw [em] at h1 ⊢
            refine ite2 (fun h2 => ?_) (fun h2 => ?_)
            · have g : Kp396.movesFit v p i (tm v l i) (l.length + 1) t0 = true := by
                rw [eF]
                unfold fitsI
                rw [h1, Bool.true_and]
                exact h2
              refine ⟨_, rfl, _, hd3, by rw [iv_len]; refine smallT (m := 31) (Nat.le_trans (List.length_filter_le _ _) ?_); rw [List.length_take]; omega, ?_, fun b o e => by rw [upd_ne (fun z => by rw [z] at e; rw [(s4.free hD2)] at e; cases e)]; exact s6 b o e⟩
              refine upd_same.trans (congrArg (fun z => some (HO.lst z)) (iv_push (n := t0) ?_ rfl))
              rw [take_more ht0, List.filter_append, List.filter_cons_of_pos g]
              rfl
            · have g : ¬ Kp396.movesFit v p i (tm v l i) (l.length + 1) t0 = true := by
                rw [eF]
                unfold fitsI
                rw [h1, Bool.true_and]
                exact h2
              refine ⟨?_, s6⟩
              rw [hd3, take_more ht0, List.filter_append, List.filter_cons_of_neg g, List.filter_nil, List.append_nil]
          · have g : ¬ Kp396.movesFit v p i (tm v l i) (l.length + 1) t0 = true := by
              rw [eF]
              unfold fitsI
              rw [em] at h1
              rw [Bool.not_eq_true] at h1
              rw [h1, Bool.false_and]
              exact Bool.false_ne_true
            refine ⟨_, rfl, iteF ⟨?_, s6⟩⟩
            rw [hd3, take_more ht0, List.filter_append, List.filter_cons_of_neg g, List.filter_nil, List.append_nil]
        · rintro H3 ⟨hd3, s6⟩
          rw [iv_len, List.take_length, ← startsK_succ] at hd3
          exact ⟨D2, _, _, _, _, _, _, rfl, hd3, nD2, s2.trans s6⟩
      · rintro σ H2 ⟨sA, v7, v8, v9, v10, v11, v12, rfl, hs2, nA, s2⟩
        refine ⟨_, rfl, k H2 sA nA s2 ?_⟩
        rw [hs2, iv_len, hle, startsK_end]
        rfl
end
end HW
set_option maxHeartbeats 4000000
/-! The search. -/
namespace HW
open PySem PySem.Spec PyProof.Rows L2 HM
abbrev sFT : Stmt := topS 31
abbrev sCP : Stmt := topS 32
/-- None, or a list of the times of the plan that is told -/
def OptT (K : PySem.W.Frag) (H' : Hp) (v : Kp396.Line) (x : Option (List Nat)) (r : V) : Prop := match x with
  | none => r = .non
  | some pl => ∃ q, r = .ref q ∧ SqL K H' q (iv (Kp396.startTimes v pl))
/-- where the search stands -/
structure At (C : Addr) (H : Hp) (a lp tl : Addr) (v : Kp396.Line) (p : Nat) (l : List Nat) (d : Nat) : Prop where
  line : LineAt C H a lp v
  ok : Ok v
  pos : 0 < p
  p9 : p ≤ 99
  ts : H tl = some (.lst (iv (Kp396.startTimes v l)))
  len : l.length + d = v.pits.length
def spFT (C : Addr) (K : PySem.W.Frag) (d : Nat) : Sp := fun vs H Q _ => ∃ (a lp tl : Addr) (v : Kp396.Line) (p : Nat) (l : List Nat), vs = [.ref a, .int (p : Nat), .ref tl] ∧ At C H a lp tl v p l d ∧
  ∀ (H' : Hp) (r : V), Same H H' → OptT K H' v (ext v p d l).head? r → Q r H'
def spPrev (sp : Nat → Sp) : Nat → Sp
  | 0 => fun _ _ _ _ => False
  | d + 1 => sp d
theorem scFT : FnScope ["line", "period", "times", "start", "found"] ["line", "period", "times"] (defScope sFT) := ⟨rfl, rfl, rfl, by decide +kernel, rfl, by decide +kernel, by decide +kernel⟩
section
variable {P : Program} {w : World} {K : PySem.W.Frag} {mg : Str → Option Value} {base : Heap} {C CS : Addr}
theorem fnok_no {k : Nat} {f : Addr} {fd : FuncData} {ps : List Str} : FnOk P w K mg base CX0 k f fd ps (fun _ _ _ _ => False) := ⟨fun _ _ _ _ h => h.elim, fun _ _ _ _ _ _ _ _ _ _ _ _ _ h => h.elim⟩
theorem ft_step {f : Addr} {fd : FuncData} {d : Nat} (F : Fun K "first_times_from" "first_times_from" sFT f fd) (T : Txt K mg C CS) (NS : Def P w K mg base 3 "next_starts" ["line", "period", "times"] (spNS C K))
    (G : Def P w K mg base (d + 3) "first_times_from" ["line", "period", "times"] (spPrev (spFT C K) d)) : FnOk P w K mg base CX0 (d + 4) f fd ["line", "period", "times"] (spFT C K d) := by
  refine F.ok scFT (fun vs H Q E h => ?_) (fun cdv A outer s H vs Q E hr h => ?_)
  · obtain ⟨a, lp, tl, v, p, l, rfl, _⟩ := h
    rfl
  · obtain ⟨a, lp, tl, v, p, l, rfl, W, k⟩ := h
    have L := W.line
    have hTt := W.ts
    have hT : SqL K H tl (iv (Kp396.startTimes v l)) := SqL.of hTt
    have ok := W.ok
    obtain ⟨dx, ha⟩ := L.obj
    obtain ⟨ts, hl, hps⟩ := L.lst
    refine ⟨_, pss_cons (ps_if (pt_cmpR op_gt (pe_callB call_len_seq rfl T.len PySem.boot_len (pa_cons (pv 2) pa_nil)) (pe_callB call_len_seq rfl T.len PySem.boot_len (pa_cons (pe_fld (pv 0) rfl) pa_nil)) (nomark _)) (pss_one (ps_ret (pv 2))) pss_nil)
      (pss_cons (ps_for PassesOwn.never rfl (pi_list (pe_def NS hr rfl (pa_cons (pv 0) (pa_cons (pv 1) (pa_cons (pv 2) pa_nil))) (by omega))) (pg_name (i := 3) scFT.nd rfl (.inl rfl))
        (pss_cons (ps_set (i := 4) scFT.nd rfl (.inl rfl) (pe_def G hr rfl (pa_cons (pv 0) (pa_cons (pv 1) (pa_cons (pe_op op_cat (pv 2) (pe_lst (pa_cons (pv 3) pa_nil))) pa_nil))) (by omega)))
        (pss_one (ps_if (pt_cmpR op_notN (pv 4) pe_non (nomark _)) (pss_one (ps_ret (pv 4))) pss_nil))))
      (pss_one (ps_ret pe_non))), ?_⟩
    have hle : (Kp396.startTimes v l).length = l.length + 1 := startTimes_length v l
    have hlen := W.len
    have n4 := ok.n4
    refine ⟨_, rfl, tl, _, rfl, .inl hT, _, rfl, a, C, dx, _, _, rfl, ha, T.cl, T.nP, lF_pits, lp, _, rfl, .inl (SqL.of hl), _, _, rfl, rfl, _, rfl, ite2 (fun h1 => ?_) (fun h1 => ?_)⟩
    · have h1 := of_decide_eq_true h1
      rw [iv_len, hle, List.length_map, hps.len] at h1
      have e0 : d = 0 := by omega
      subst e0
      refine ⟨_, rfl, k H _ (.refl H) ?_⟩
      exact ⟨tl, rfl, hT⟩
    · have h1 : ¬ _ := fun z => h1 (decide_eq_true z)
      rw [iv_len, hle, List.length_map, hps.len] at h1
      obtain ⟨d', rfl⟩ : ∃ d', d = d' + 1 := ⟨d - 1, by omega⟩
      have hlt : l.length < v.pits.length := by omega
      refine ⟨_, rfl, _, rfl, _, rfl, a, lp, tl, v, p, l, rfl, L, ok, W.pos, W.p9, hT, hlt, fun H1 q hq s1 h2 => ?_⟩
      refine ⟨q, rfl, ⟨_, SqL.of h2⟩, for_list (K := K) (a := q) (xs := iv (nextS v p l)) (fun i σ H' => (∃ v3 v4 : Option V, σ = [some (.ref a), some (.int (p : Nat)), some (.ref tl), v3, v4]) ∧ Same H1 H' ∧ ∀ z ∈ (nexts v p l).take i, ext v p d' (l ++ [z]) = [])
        ⟨⟨none, none, rfl⟩, .refl _, fun z hz => by rw [List.take_zero] at hz; cases hz⟩ (fun i σ H' _ ⟨_, s2, _⟩ => SqL.of (s2 _ _ h2)) ?_ ?_⟩
      · rintro i x σ H2 hi ⟨⟨v3, v4, rfl⟩, s2, none_⟩
        obtain ⟨n, hn, rfl⟩ := iv_get hi
        obtain ⟨z, hz, en⟩ : ∃ z, (nexts v p l)[i]? = some z ∧ n = tm v l l.length + v.moveTime + z := by
          unfold nextS at hn
          rw [List.getElem?_map] at hn
          cases e : (nexts v p l)[i]? with
          | none => rw [e] at hn; cases hn
          | some z => rw [e] at hn; exact ⟨z, rfl, (Option.some.inj hn).symm⟩
        refine ⟨_, rfl, _, rfl, _, rfl, _, rfl, (by show 1 ≤ sizeLine; decide), fun y hy => ?_⟩
        have s3 : Same H (upd H2 y (.lst [.int (n : Nat)])) := (s1.trans s2).trans (same_upd hy)
        refine ⟨tl, y, _, _, rfl, rfl, s3 _ _ hTt, upd_same, (by rw [iv_len, hle]; exact small (show l.length + 1 + 1 ≤ 6 by omega)), fun u hu => ?_⟩
        have s4 := s3.trans (same_upd (o := .lst (iv (Kp396.startTimes v l) ++ [.int (n : Nat)])) hu)
        refine ⟨a, lp, u, v, p, l ++ [z], rfl, ⟨L.same s4, ok, W.pos, W.p9, ?_, by rw [List.length_append]; show l.length + 1 + d' = _; omega⟩, fun H3 r s5 ho => ?_⟩
        · refine upd_same.trans (congrArg (fun z => some (HO.lst z)) (iv_push (snoc_tm v l z) ?_))
          rw [en]
        refine ⟨_, rfl, rfl, _, rfl, ?_⟩
        have s13 : Same H1 H3 := (s2.trans (same_upd hy)).trans ((same_upd hu).trans s5)
        cases eh : (ext v p d' (l ++ [z])).head? with
        | none =>
          rw [eh] at ho
          have ho : r = .non := ho
          subst ho
          exact iteF ⟨⟨_, _, rfl⟩, s13, upto_more hz none_ (nil_of_head eh)⟩
        | some pl =>
          rw [eh] at ho
          obtain ⟨g, rfl, hg⟩ := ho
          refine iteT ⟨_, rfl, k H3 _ (s1.trans s13) ?_⟩
          have e := head_found (f := fun s => ext v p d' (l ++ [s])) hz none_ eh
          show OptT K H3 v ((nexts v p l).flatMap fun s => ext v p d' (l ++ [s])).head? _
          rw [e]
          exact ⟨g, rfl, hg⟩
      · rintro σ H2 ⟨⟨v3, v4, rfl⟩, s2, none_⟩
        refine k H2 _ (s1.trans s2) ?_
        have hln : (iv (nextS v p l)).length = (nexts v p l).length := by
          rw [iv_len]
          exact List.length_map _
        rw [hln, List.take_length] at none_
        have e := head_none (f := fun s => ext v p d' (l ++ [s])) none_
        show OptT K H2 v ((nexts v p l).flatMap fun s => ext v p d' (l ++ [s])).head? _
        rw [e]
        rfl
theorem ok_ft {f : Addr} {fd : FuncData} (F : Fun K "first_times_from" "first_times_from" sFT f fd) (T : Txt K mg C CS) (hm : mg "first_times_from" = some (.ref f)) (b : Binds K fd ["line", "period", "times"] []) (NS : Def P w K mg base 3 "next_starts" ["line", "period", "times"] (spNS C K)) :
    ∀ d, FnOk P w K mg base CX0 (d + 4) f fd ["line", "period", "times"] (spFT C K d)
  | 0 => ft_step F T NS (.mk' hm F.kp b fnok_no)
  | d + 1 => ft_step F T NS (.mk' hm F.kp b (ok_ft F T hm b NS d))
end
end HW
set_option maxHeartbeats 4000000
/-! The count of plans. -/
namespace HW
open PySem PySem.Spec PyProof.Rows L2 HM
def spCP (C : Addr) (d : Nat) : Sp := fun vs H Q _ => ∃ (a lp tl : Addr) (v : Kp396.Line) (p : Nat) (l : List Nat), vs = [.ref a, .int (p : Nat), .ref tl] ∧ At C H a lp tl v p l d ∧
  ∀ (H' : Hp), Same H H' → Q (.int ((ext v p d l).length : Nat)) H'
theorem scCP : FnScope ["line", "period", "times", "start"] ["line", "period", "times"] (defScope sCP) := ⟨rfl, rfl, rfl, by decide +kernel, rfl, by decide +kernel, by decide +kernel⟩
section
variable {P : Program} {w : World} {K : PySem.W.Frag} {mg : Str → Option Value} {base : Heap} {C CS : Addr}
theorem cp_step {f : Addr} {fd : FuncData} {d : Nat} (F : Fun K "count_plans_from" "count_plans_from" sCP f fd) (T : Txt K mg C CS) (NS : Def P w K mg base 3 "next_starts" ["line", "period", "times"] (spNS C K))
    (G : Def P w K mg base (d + 3) "count_plans_from" ["line", "period", "times"] (spPrev (spCP C) d)) : FnOk P w K mg base CX0 (d + 4) f fd ["line", "period", "times"] (spCP C d) := by
  refine F.ok scCP (fun vs H Q E h => ?_) (fun cdv A outer s H vs Q E hr h => ?_)
  · obtain ⟨a, lp, tl, v, p, l, rfl, _⟩ := h
    rfl
  · obtain ⟨a, lp, tl, v, p, l, rfl, W, k⟩ := h
    have L := W.line
    have hTt := W.ts
    have hT : SqL K H tl (iv (Kp396.startTimes v l)) := SqL.of hTt
    have ok := W.ok
    obtain ⟨dx, ha⟩ := L.obj
    obtain ⟨ts, hl, hps⟩ := L.lst
    refine ⟨_, pss_cons (ps_if (pt_cmpR op_gt (pe_callB call_len_seq rfl T.len PySem.boot_len (pa_cons (pv 2) pa_nil)) (pe_callB call_len_seq rfl T.len PySem.boot_len (pa_cons (pe_fld (pv 0) rfl) pa_nil)) (nomark _)) (pss_one (ps_ret pe_int)) pss_nil)
      (pss_one (ps_ret (pe_callB (cr_sum rfl) rfl T.sum (by decide +kernel) (pa_cons (pe_lc (own := [("start", 3)]) (g := gName 3) (tt := tYes) rfl scCP.nd (pi_list (pe_def NS hr rfl (pa_cons (pv 0) (pa_cons (pv 1) (pa_cons (pv 2) pa_nil))) (by omega)))
        (blkOk_by (N := ["line", "period", "times", "start"]) (sc := defScope sCP) (by decide +kernel)) (fun _ _ _ _ _ => pg_name (i := 3) scCP.nd rfl (Or.inl rfl)) (fun _ _ _ _ _ => pts_nil)
        (fun _ _ _ _ _ => pe_def G hr rfl (pa_cons (pv 0) (pa_cons (pv 1) (pa_cons (pe_op op_cat (pv 2) (pe_lst (pa_cons (pv 3) pa_nil))) pa_nil))) (by omega))) pa_nil)))), ?_⟩
    have hle : (Kp396.startTimes v l).length = l.length + 1 := startTimes_length v l
    have hlen := W.len
    have n4 := ok.n4
    refine ⟨_, rfl, tl, _, rfl, .inl hT, _, rfl, a, C, dx, _, _, rfl, ha, T.cl, T.nP, lF_pits, lp, _, rfl, .inl (SqL.of hl), _, _, rfl, rfl, _, rfl, ite2 (fun h1 => ?_) (fun h1 => ?_)⟩
    · have h1 := of_decide_eq_true h1
      rw [iv_len, hle, List.length_map, hps.len] at h1
      have e0 : d = 0 := by omega
      subst e0
      exact k H (.refl H)
    · have h1 : ¬ _ := fun z => h1 (decide_eq_true z)
      rw [iv_len, hle, List.length_map, hps.len] at h1
      obtain ⟨d', rfl⟩ : ∃ d', d = d' + 1 := ⟨d - 1, by omega⟩
      have hlt : l.length < v.pits.length := by omega
      refine ⟨_, rfl, _, rfl, _, rfl, a, lp, tl, v, p, l, rfl, L, ok, W.pos, W.p9, hT, hlt, fun H1 q hq s1 h2 => ?_⟩
      refine ⟨q, rfl, ⟨_, SqL.of h2⟩, fun D hD => ?_⟩
      have sD : Same H1 (upd H1 D (.lst [])) := same_upd hD
      have hln : (iv (nextS v p l)).length = (nexts v p l).length := by
        rw [iv_len]
        exact List.length_map _
      have h31 : (nexts v p l).length ≤ 31 := nexts_len v p l (ok.wa hlt).2.2
      refine lc_list (K := K) (a := q) (xs := iv (nextS v p l)) (fun i H' => H' D = some (.lst (((nexts v p l).take i).map fun z => V.int (((ext v p d' (l ++ [z])).length : Nat) : Int))) ∧ Same H1 H')
        ⟨upd_same, sD⟩ (fun i H' _ ⟨_, s2⟩ => SqL.of (s2 _ _ h2)) ?_ ?_
      · rintro i x H2 hi ⟨hd, s2⟩
        obtain ⟨n, hn, rfl⟩ := iv_get hi
        obtain ⟨z, hz, en⟩ : ∃ z, (nexts v p l)[i]? = some z ∧ n = tm v l l.length + v.moveTime + z := by
          unfold nextS at hn
          rw [List.getElem?_map] at hn
          cases e : (nexts v p l)[i]? with
          | none => rw [e] at hn; cases hn
          | some z => rw [e] at hn; exact ⟨z, rfl, (Option.some.inj hn).symm⟩
        refine ⟨rfl, ?_⟩
        refine ⟨_, rfl, _, rfl, _, rfl, _, rfl, (by show 1 ≤ sizeLine; decide), fun y hy => ?_⟩
        have s3 : Same H (upd H2 y (.lst [.int (n : Nat)])) := (s1.trans s2).trans (same_upd hy)
        refine ⟨tl, y, _, _, rfl, rfl, s3 _ _ hTt, upd_same, (by rw [iv_len, hle]; exact small (show l.length + 1 + 1 ≤ 6 by omega)), fun u hu => ?_⟩
        have s4 := s3.trans (same_upd (o := .lst (iv (Kp396.startTimes v l) ++ [.int (n : Nat)])) hu)
        refine ⟨a, lp, u, v, p, l ++ [z], rfl, ⟨L.same s4, ok, W.pos, W.p9, ?_, by rw [List.length_append]; show l.length + 1 + d' = _; omega⟩, fun H3 s5 => ?_⟩
        · refine upd_same.trans (congrArg (fun z => some (HO.lst z)) (iv_push (snoc_tm v l z) ?_))
          rw [en]
        have s23 : Same H2 H3 := ((same_upd hy).trans (same_upd hu)).trans s5
        refine ⟨_, s23 _ _ hd, by rw [List.length_map, List.length_take]; exact smallT (show min i _ ≤ 31 by omega), ?_, fun b o e => by rw [upd_ne (ne_of_none e hD)]; exact s23 b o (s2 b o e)⟩
        refine upd_same.trans (congrArg (fun z => some (HO.lst z)) ?_)
        rw [take_more hz, List.map_append]
        rfl
      · rintro H2 ⟨hd, s2⟩
        rw [hln, List.take_length] at hd
        refine ⟨D, (nexts v p l).map fun z => (((ext v p d' (l ++ [z])).length : Nat) : Int), rfl, SqL.of (hd.trans (by rw [List.map_map]; rfl)), ?_⟩
        rw [count_flat (nexts v p l) fun z => ext v p d' (l ++ [z])]
        exact k H2 (s1.trans s2)
theorem ok_cp {f : Addr} {fd : FuncData} (F : Fun K "count_plans_from" "count_plans_from" sCP f fd) (T : Txt K mg C CS) (hm : mg "count_plans_from" = some (.ref f)) (b : Binds K fd ["line", "period", "times"] []) (NS : Def P w K mg base 3 "next_starts" ["line", "period", "times"] (spNS C K)) :
    ∀ d, FnOk P w K mg base CX0 (d + 4) f fd ["line", "period", "times"] (spCP C d)
  | 0 => cp_step F T NS (.mk' hm F.kp b fnok_no)
  | d + 1 => cp_step F T NS (.mk' hm F.kp b (ok_cp F T hm b NS d))
end
end HW
set_option maxHeartbeats 4000000
/-! Plans and periods. -/
namespace HW
open PySem PySem.Spec PyProof.Rows L2 HM
abbrev sFP : Stmt := topS 33
abbrev sCo : Stmt := topS 34
abbrev sSP : Stmt := topS 35
abbrev sFe : Stmt := topS 36
def spFP (C : Addr) : Sp := fun vs H Q _ => ∃ (a lp : Addr) (v : Kp396.Line) (p : Nat), vs = [.ref a, .int (p : Nat)] ∧ LineAt C H a lp v ∧ Ok v ∧ 0 < p ∧ p ≤ 99 ∧
  ∀ (H' : Hp) (r : V), Same H H' → OptL H H' ((Kp396.firstPlan v p).map iv) r → Q r H'
/-- None or a number -/
def OptN (x : Option Nat) (r : V) : Prop := match x with
  | none => r = .non
  | some t => r = .int (t : Nat)
def spSP (C : Addr) : Sp := fun vs H Q _ => ∃ (a lp : Addr) (v : Kp396.Line), vs = [.ref a] ∧ LineAt C H a lp v ∧ Ok v ∧ ∀ (H' : Hp) (r : V), Same H H' → OptN (Kp396.shortestPeriod v) r → Q r H'
def feasP (v : Kp396.Line) : List Nat := Kp396.periods.filter fun t => (Kp396.firstPlan v t).isSome
def spFe (C : Addr) : Sp := fun vs H Q _ => ∃ (a lp : Addr) (v : Kp396.Line), vs = [.ref a] ∧ LineAt C H a lp v ∧ Ok v ∧ ∀ (H' : Hp) (q : Addr), H q = none → Same H H' → H' q = some (.lst (iv (feasP v))) → Q (.ref q) H'
section
variable {P : Program} {w : World} {K : PySem.W.Frag} {mg : Str → Option Value} {base : Heap} {C CS : Addr}
theorem scFP : FnScope ["line", "period", "times"] ["line", "period"] (defScope sFP) := ⟨rfl, rfl, rfl, by decide +kernel, rfl, by decide +kernel, by decide +kernel⟩
theorem first_eq {v : Kp396.Line} {p : Nat} (hp : 0 < p) (ok : Ok v) : Kp396.firstPlan v p = if Kp396.singleMoveFits v p = true then (ext v p v.pits.length []).head? else none := by
  unfold Kp396.firstPlan
  rw [feasible_eq hp ok]
  by_cases c : Kp396.singleMoveFits v p = true
  · rw [if_pos c, if_pos c]
  · rw [if_neg c, if_neg c]
    rfl
theorem ok_fp {f : Addr} {fd : FuncData} (F : Fun K "find_first_plan" "find_first_plan" sFP f fd) (KU : Def P w K mg base 2 "hoist_keeps_up" ["line", "period"] (spKeeps C))
    (FT : ∀ d, Def P w K mg base (d + 4) "first_times_from" ["line", "period", "times"] (spFT C K d)) (SB : Def P w K mg base 1 "stays_between" ["line", "times"] (spSB C K)) : FnOk P w K mg base CX0 9 f fd ["line", "period"] (spFP C) := by
  refine F.ok scFP (fun vs H Q E h => ?_) (fun cdv A outer s H vs Q E hr h => ?_)
  · obtain ⟨a, lp, v, p, rfl, _⟩ := h
    rfl
  · obtain ⟨a, lp, v, p, rfl, L, ok, hp, hp9, k⟩ := h
    have n4 := ok.n4
    have e4 : v.emptyTime ≤ 4 := ok.mt.2.2
    refine ⟨_, pss_cons (ps_if (pt_not (pt_val (pe_def KU hr rfl (pa_cons (pv 0) (pa_cons (pv 1) pa_nil))))) (pss_one (ps_ret pe_non)) pss_nil)
      (pss_cons (ps_set (i := 2) scFP.nd rfl (.inl rfl) (pe_def (FT v.pits.length) hr rfl (pa_cons (pv 0) (pa_cons (pv 1) (pa_cons (pe_lst (pa_cons pe_int pa_nil)) pa_nil))) (by omega)))
      (pss_cons (ps_if (pt_cmpR op_isN (pv 2) pe_non (nomark _)) (pss_one (ps_ret pe_non)) pss_nil)
      (pss_one (ps_ret (pe_def SB hr rfl (pa_cons (pv 0) (pa_cons (pv 2) pa_nil))))))), ?_⟩
    have ef := first_eq hp ok
    refine ⟨_, rfl, _, rfl, a, lp, v, p, rfl, L, e4, _, rfl, ?_⟩
    cases es : Kp396.singleMoveFits v p with
    | false =>
      refine iteT (k H _ (.refl H) ?_)
      rw [ef, es, if_neg Bool.false_ne_true]
      rfl
    | true =>
      rw [es, if_pos rfl] at ef
      refine iteF ⟨_, rfl, _, rfl, (by show 1 ≤ sizeLine; decide), fun q hq => ?_⟩
      have s0 : Same H (upd H q (.lst [.int 0])) := same_upd hq
      refine ⟨a, lp, q, v, p, [], rfl, ⟨L.same s0, ok, hp, hp9, by rw [startTimes_nil]; exact upd_same, by rw [List.length_nil, Nat.zero_add]⟩, fun H1 r s1 ho => ?_⟩
      refine ⟨_, rfl, rfl, _, rfl, ?_⟩
      cases eh : (ext v p v.pits.length []).head? with
      | none =>
        rw [eh] at ho ef
        have ho : r = .non := ho
        subst ho
        refine iteT (k H1 _ (s0.trans s1) ?_)
        rw [ef]
        rfl
      | some pl =>
        rw [eh] at ho ef
        obtain ⟨g, rfl, hg⟩ := ho
        have hpl : pl.length = v.pits.length := by
          have := ext_length _ _ _ (List.mem_of_mem_head? (Option.mem_def.mpr eh))
          rw [List.length_nil, Nat.zero_add] at this
          exact this
        refine iteF ⟨_, rfl, _, rfl, a, lp, g, v, pl, rfl, L.same (s0.trans s1), hg, by omega, fun H2 z hz s2 h2 => k H2 _ ((s0.trans s1).trans s2) ?_⟩
        rw [ef]
        exact ⟨z, rfl, (s0.trans s1).free hz, h2⟩
theorem scSP : FnScope ["line", "period"] ["line"] (defScope sSP) := ⟨rfl, rfl, rfl, by decide +kernel, rfl, by decide +kernel, by decide +kernel⟩
theorem ok_sp {f : Addr} {fd : FuncData} (F : Fun K "find_shortest_period" "find_shortest_period" sSP f fd) (T : Txt K mg C CS) (FP : Def P w K mg base 9 "find_first_plan" ["line", "period"] (spFP C)) : FnOk P w K mg base CX0 10 f fd ["line"] (spSP C) := by
  refine F.ok scSP (fun vs H Q E h => ?_) (fun cdv A outer s H vs Q E hr h => ?_)
  · obtain ⟨a, lp, v, rfl, _⟩ := h
    rfl
  · obtain ⟨a, lp, v, rfl, L, ok, k⟩ := h
    refine ⟨_, pss_cons (ps_for PassesOwn.never rfl (pi_range2 rfl T.range (pa_cons pe_int (pa_cons (pe_op op_add (pe_const T.gPeriod) pe_int) pa_nil))) (pg_name (i := 1) scSP.nd rfl (.inl rfl))
        (pss_one (ps_if (pt_cmpR op_notN (pe_def FP hr rfl (pa_cons (pv 0) (pa_cons (pv 1) pa_nil))) pe_non (nomark _)) (pss_one (ps_ret (pv 1))) pss_nil)))
      (pss_one (ps_ret pe_non)), ?_⟩
    refine ⟨_, _, rfl, rfl, _, _, rfl, ⟨by decide, by decide, by decide, by decide⟩, ?_⟩
    refine for_range (lo := 1) (n := 99) (fun i σ H' => (∃ v1 : Option V, σ = [some (.ref a), v1]) ∧ Same H H' ∧ ∀ z ∈ Kp396.periods.take i, (Kp396.firstPlan v z).isSome = false)
      ⟨⟨none, rfl⟩, .refl H, fun z hz => by rw [List.take_zero] at hz; cases hz⟩ ?_ ?_
    · rintro i σ H1 hi ⟨⟨v1, rfl⟩, s1, h0⟩
      have ei : (1 : Int) + (i : Int) = ((i + 1 : Nat) : Int) := by omega
      have hg := periods_get hi
      rw [ei]
      refine ⟨_, rfl, _, rfl, a, lp, v, i + 1, rfl, L.same s1, ok, by omega, by omega, fun H2 r s2 ho => ⟨rfl, _, rfl, ?_⟩⟩
      cases ef : Kp396.firstPlan v (i + 1) with
      | none =>
        rw [ef] at ho
        have ho : r = .non := ho
        subst ho
        refine iteF ⟨⟨_, rfl⟩, s1.trans s2, upto_more hg h0 ?_⟩
        rw [ef]
        rfl
      | some pl =>
        rw [ef] at ho
        obtain ⟨g, rfl, _⟩ := ho
        refine iteT ⟨_, rfl, k H2 _ (s1.trans s2) ?_⟩
        have e : Kp396.shortestPeriod v = some (i + 1) := find_at hg h0 (by rw [ef]; rfl)
        rw [e]
        rfl
    · rintro σ H1 ⟨⟨v1, rfl⟩, s1, h0⟩
      refine k H1 _ s1 ?_
      have e : Kp396.shortestPeriod v = none := by
        unfold Kp396.shortestPeriod
        rw [List.find?_eq_none]
        intro z hz
        rw [h0 z (by rw [List.take_of_length_le (by rw [periods_len]; omega)]; exact hz)]
        exact Bool.false_ne_true
      rw [e]
      rfl
theorem scFe : FnScope ["line", "period"] ["line"] (defScope sFe) := ⟨rfl, rfl, rfl, by decide +kernel, rfl, by decide +kernel, by decide +kernel⟩
theorem ok_fe {f : Addr} {fd : FuncData} (F : Fun K "find_feasible_periods" "find_feasible_periods" sFe f fd) (T : Txt K mg C CS) (FP : Def P w K mg base 9 "find_first_plan" ["line", "period"] (spFP C)) : FnOk P w K mg base CX0 10 f fd ["line"] (spFe C) := by
  refine F.ok scFe (fun vs H Q E h => ?_) (fun cdv A outer s H vs Q E hr h => ?_)
  · obtain ⟨a, lp, v, rfl, _⟩ := h
    rfl
  · obtain ⟨a, lp, v, rfl, L, ok, k⟩ := h
    refine ⟨_, pss_one (ps_ret (pe_lc (own := [("period", 1)]) (g := gName 1) rfl scFe.nd (pi_range2 rfl T.range (pa_cons pe_int (pa_cons (pe_op op_add (pe_const T.gPeriod) pe_int) pa_nil)))
        (blkOk_by (N := ["line", "period"]) (sc := defScope sFe) (by decide +kernel)) (fun _ _ _ _ _ => pg_name (i := 1) scFe.nd rfl (Or.inl rfl))
        (fun _ _ _ _ _ => pts_one (pt_cmpR op_notN (pe_def FP hr rfl (pa_cons (pv 0) (pa_cons (pv 1) pa_nil))) pe_non (nomark _))) (fun _ _ _ _ _ => pv 1))), ?_⟩
    refine ⟨_, _, rfl, rfl, _, _, rfl, ⟨by decide, by decide, by decide, by decide⟩, fun D hD => ?_⟩
    have s0 : Same H (upd H D (.lst [])) := same_upd hD
    refine lc_range (lo := 1) (n := 99) (fun i H' => H' D = some (.lst (iv ((Kp396.periods.take i).filter fun t => (Kp396.firstPlan v t).isSome))) ∧ Same H H') ⟨upd_same, s0⟩ ?_ ?_
    · rintro i H1 hi ⟨hd, s1⟩
      have ei : (1 : Int) + (i : Int) = ((i + 1 : Nat) : Int) := by omega
      have hg := periods_get hi
      rw [ei]
      refine ⟨rfl, _, rfl, _, rfl, a, lp, v, i + 1, rfl, L.same s1, ok, by omega, by omega, fun H2 r s2 ho => ⟨rfl, _, rfl, ?_⟩⟩
      cases ef : Kp396.firstPlan v (i + 1) with
      | none =>
        rw [ef] at ho
        have ho : r = .non := ho
        subst ho
        refine iteF ⟨?_, s1.trans s2⟩
        rw [s2 _ _ hd, take_more hg, List.filter_append, List.filter_cons_of_neg (by rw [ef]; exact Bool.false_ne_true), List.filter_nil, List.append_nil]
      | some pl =>
        rw [ef] at ho
        obtain ⟨g, rfl, _⟩ := ho
        refine iteT ⟨_, rfl, _, s2 _ _ hd, by rw [iv_len]; refine smallT (m := 99) (Nat.le_trans (List.length_filter_le _ _) ?_); rw [List.length_take, periods_len]; omega, ?_, fun b o e => by rw [upd_ne (ne_of_none e hD)]; exact s2 b o (s1 b o e)⟩
        refine upd_same.trans (congrArg (fun z => some (HO.lst z)) (iv_push (n := i + 1) ?_ rfl))
        rw [take_more hg, List.filter_append, List.filter_cons_of_pos (by rw [ef]; rfl)]
        rfl
    · rintro H1 ⟨hd, s1⟩
      rw [List.take_of_length_le (by rw [periods_len]; omega)] at hd
      exact k H1 D hD s1 hd
end
end HW
set_option maxHeartbeats 4000000
/-! Counts, stays within limits, feasible plans. -/
namespace HW
open PySem PySem.Spec PyProof.Rows L2 HM
abbrev sSA : Stmt := topS 27
abbrev sPF : Stmt := topS 28
abbrev sIP : Stmt := topS 18
def spCo (C : Addr) : Sp := fun vs H Q _ => ∃ (a lp : Addr) (v : Kp396.Line) (p : Nat), vs = [.ref a, .int (p : Nat)] ∧ LineAt C H a lp v ∧ Ok v ∧ 0 < p ∧ p ≤ 99 ∧ ∀ (H' : Hp), Same H H' → Q (.int ((Kp396.feasiblePlans v p).length : Nat)) H'
def spSA (C : Addr) (K : PySem.W.Frag) : Sp := fun vs H Q _ => ∃ (a lp pl : Addr) (v : Kp396.Line) (p : Nat) (plan : List Nat), vs = [.ref a, .int (p : Nat), .ref pl] ∧ LineAt C H a lp v ∧ SqL K H pl (iv plan) ∧ plan.length = v.pits.length ∧
  ∀ (H' : Hp) (r : Bool), Same H H' → (r = true ↔ (Kp396.withinWindows v plan && plan.all (fun x => decide (x < p))) = true) → Q (.bl r) H'
def spPF (C : Addr) (K : PySem.W.Frag) : Sp := fun vs H Q _ => ∃ (a lp pl : Addr) (v : Kp396.Line) (p : Nat) (plan : List Nat), vs = [.ref a, .int (p : Nat), .ref pl] ∧ LineAt C H a lp v ∧ Ok v ∧ 0 < p ∧ SqL K H pl (iv plan) ∧ plan.length = v.pits.length ∧
  ∀ (H' : Hp), Same H H' → Q (.bl (Kp396.isFeasible v p plan)) H'
def spIP (K : PySem.W.Frag) : Sp := fun vs H Q _ => ∃ (pl : Addr) (n : Nat) (plan : List Nat), vs = [.ref pl, .int (n : Nat)] ∧ SqL K H pl (iv plan) ∧ plan.length ≤ 600 ∧
  ∀ (H' : Hp) (r : Bool), Same H H' → (r = true ↔ plan.length = n ∧ ∀ x ∈ plan, x ≤ 99) → Q (.bl r) H'
section
variable {P : Program} {w : World} {K : PySem.W.Frag} {mg : Str → Option Value} {base : Heap} {C CS : Addr}
theorem scCo : FnScope ["line", "period"] ["line", "period"] (defScope sCo) := ⟨rfl, rfl, rfl, by decide +kernel, rfl, by decide +kernel, by decide +kernel⟩
theorem ok_co {f : Addr} {fd : FuncData} (F : Fun K "count_plans" "count_plans" sCo f fd) (KU : Def P w K mg base 2 "hoist_keeps_up" ["line", "period"] (spKeeps C))
    (CP : ∀ d, Def P w K mg base (d + 4) "count_plans_from" ["line", "period", "times"] (spCP C d)) : FnOk P w K mg base CX0 9 f fd ["line", "period"] (spCo C) := by
  refine F.ok scCo (fun vs H Q E h => ?_) (fun cdv A outer s H vs Q E hr h => ?_)
  · obtain ⟨a, lp, v, p, rfl, _⟩ := h
    rfl
  · obtain ⟨a, lp, v, p, rfl, L, ok, hp, hp9, k⟩ := h
    have n4 := ok.n4
    have e4 : v.emptyTime ≤ 4 := ok.mt.2.2
    refine ⟨_, pss_cons (ps_if (pt_not (pt_val (pe_def KU hr rfl (pa_cons (pv 0) (pa_cons (pv 1) pa_nil))))) (pss_one (ps_ret pe_int)) pss_nil)
      (pss_one (ps_ret (pe_def (CP v.pits.length) hr rfl (pa_cons (pv 0) (pa_cons (pv 1) (pa_cons (pe_lst (pa_cons pe_int pa_nil)) pa_nil))) (by omega)))), ?_⟩
    have ef := feasible_eq hp ok
    refine ⟨_, rfl, _, rfl, a, lp, v, p, rfl, L, e4, _, rfl, ?_⟩
    cases es : Kp396.singleMoveFits v p with
    | false =>
      refine iteT ?_
      have q := k H (.refl H)
      rw [ef, es, if_neg Bool.false_ne_true] at q
      exact q
    | true =>
      rw [es, if_pos rfl] at ef
      refine iteF ⟨_, rfl, _, rfl, (by show 1 ≤ sizeLine; decide), fun q hq => ?_⟩
      have s0 : Same H (upd H q (.lst [.int 0])) := same_upd hq
      refine ⟨a, lp, q, v, p, [], rfl, ⟨L.same s0, ok, hp, hp9, by rw [startTimes_nil]; exact upd_same, by rw [List.length_nil, Nat.zero_add]⟩, fun H1 s1 => ?_⟩
      have z := k H1 (s0.trans s1)
      rw [ef] at z
      exact z
theorem scSA : FnScope ["line", "period", "plan", "stay", "window", "least", "most"] ["line", "period", "plan"] (defScope sSA) := ⟨rfl, rfl, rfl, by decide +kernel, rfl, by decide +kernel, by decide +kernel⟩
theorem ok_sa {f : Addr} {fd : FuncData} (F : Fun K "stays_allowed" "stays_allowed" sSA f fd) (T : Txt K mg C CS) : FnOk P w K mg base CX0 1 f fd ["line", "period", "plan"] (spSA C K) := by
  refine F.ok scSA (fun vs H Q E h => ?_) (fun cdv A outer s H vs Q E hr h => ?_)
  · obtain ⟨a, lp, pl, v, p, plan, rfl, _⟩ := h
    rfl
  · obtain ⟨a, lp, pl, v, p, plan, rfl, L, hP, hlen, k⟩ := h
    obtain ⟨dx, ha⟩ := L.obj
    obtain ⟨ts, hl, hps⟩ := L.lst
    refine ⟨_, pss_cons (ps_for PassesOwn.never rfl (pi_zip (by rfl) T.zip (pa_cons (pv 2) (pa_cons (pe_fld (pv 0) rfl) pa_nil))) (pg_tup (by rfl) (pgs_cons (pg_name (i := 3) scSA.nd rfl (.inl rfl)) (pgs_cons (pg_name (i := 4) scSA.nd rfl (.inl rfl)) pgs_nil)))
        (pss_cons (ps_asg (pv 4) (pg_tup (by rfl) (pgs_cons (pg_name (i := 5) scSA.nd rfl (.inl rfl)) (pgs_cons (pg_name (i := 6) scSA.nd rfl (.inl rfl)) pgs_nil))))
        (pss_one (ps_if (PW.pt (pw_or (pt_cmpR op_lt (pv 3) (pv 5) (nomark _)) (pw_or (pt_cmpR op_gt (pv 3) (pv 6) (nomark _)) (pw_or1 (pt_cmpR op_ge (pv 3) (pv 1) (nomark _)))))) (pss_one (ps_ret pe_bl)) pss_nil))))
      (pss_one (ps_ret pe_bl)), ?_⟩
    have lt : (ts.map V.ref).length = plan.length := by rw [List.length_map, hps.len, hlen]
    refine ⟨_, rfl, _, rfl, a, C, dx, _, _, rfl, ha, T.cl, T.nP, lF_pits, pl, lp, _, _, rfl, hP, SqL.of hl, ?_⟩
    refine for_it (walk_zip (K := K) (a := pl) (b := lp) (xs := iv plan) (ys := ts.map V.ref) (n := plan.length) (by rw [iv_len, lt]; omega))
      (fun i σ H' => (∃ v3 v4 v5 v6 : Option V, σ = [some (.ref a), some (.int (p : Nat)), some (.ref pl), v3, v4, v5, v6]) ∧ Same H H' ∧ ∀ (j s : Nat) (w : Kp396.Window), j < i → plan[j]? = some s → v.pits[j]? = some w → w.least ≤ s ∧ s ≤ w.most ∧ s < p)
      ⟨⟨none, none, none, none, rfl⟩, .refl H, fun j s w h => absurd h (Nat.not_lt_zero _)⟩ (fun i σ H' _ ⟨_, s1, _⟩ => ⟨s1.seq hP, SqL.of (s1 _ _ hl)⟩) ?_ ?_
    · rintro i x σ H1 H1' hi ⟨⟨v3, v4, v5, v6, rfl⟩, s1, fit⟩ ⟨Tp, x1, y1, rfl, nT, rfl, hx1, hy1⟩
      obtain ⟨st, hst, rfl⟩ := iv_get hx1
      have hi2 : i < v.pits.length := by omega
      have hw : v.pits[i]? = some v.pits[i] := List.getElem?_eq_getElem hi2
      have ht : ts[i]? = some (ts[i]'(by rw [hps.len]; exact hi2)) := List.getElem?_eq_getElem _
      have ey : y1 = .ref (ts[i]'(by rw [hps.len]; exact hi2)) := by
        have hy2 : (ts.map V.ref)[i]? = some y1 := hy1
        rw [List.getElem?_map, ht] at hy2
        exact (Option.some.inj hy2).symm
      subst ey
      have htup := hps.at_ _ _ _ ht hw
      generalize hwn : v.pits[i] = wn at *
      have s2 : Same H (upd H1 Tp (.tup [.int (st : Nat), .ref (ts[i]'(by rw [hps.len]; exact hi2))])) := s1.trans (same_upd nT)
      refine ⟨Tp, _, rfl, .inl (.inl upd_same), rfl, _, _, rfl, _, _, rfl, rfl, ?_⟩
      refine ⟨_, rfl, _, _, rfl, .inl (.inl (s2 _ _ htup)), rfl, _, _, rfl, _, _, rfl, rfl, ?_⟩
      have no : ¬ (wn.least ≤ st ∧ st ≤ wn.most ∧ st < p) → (false = true ↔ (Kp396.withinWindows v plan && plan.all (fun x => decide (x < p))) = true) := fun hn => by
        rw [within_iff hlen]
        exact ⟨fun z => (by cases z), fun z => absurd (z i st wn hst hw) hn⟩
      refine ⟨_, rfl, _, rfl, _, _, rfl, rfl, _, rfl, ite2 (fun h1 => ?_) (fun h1 => ?_)⟩
      · have h1 := of_decide_eq_true h1
        exact iteT (k _ _ s2 (no (by omega)))
      · have h1 : ¬ _ := fun z => h1 (decide_eq_true z)
        refine ⟨_, rfl, _, rfl, _, _, rfl, rfl, _, rfl, ite2 (fun h2 => ?_) (fun h2 => ?_)⟩
        · have h2 := of_decide_eq_true h2
          exact iteT (k _ _ s2 (no (by omega)))
        · have h2 : ¬ _ := fun z => h2 (decide_eq_true z)
          refine ⟨_, rfl, _, rfl, _, _, rfl, rfl, _, rfl, ite2 (fun h3 => ?_) (fun h3 => ?_)⟩
          · have h3 := of_decide_eq_true h3
            exact k _ _ s2 (no (by omega))
          · have h3 : ¬ _ := fun z => h3 (decide_eq_true z)
            refine ⟨⟨_, _, _, _, rfl⟩, s2, fun j s w hj hs hw2 => ?_⟩
            by_cases e : j = i
            · subst e
              rw [hst] at hs
              rw [hw] at hw2
              cases hs
              cases hw2
              omega
            · exact fit j s w (by omega) hs hw2
    · rintro σ H1 ⟨_, s1, fit⟩
      refine k H1 true s1 ?_
      rw [within_iff hlen]
      refine ⟨fun _ i s w hs hw => fit i s w ?_ hs hw, fun _ => rfl⟩
      exact (List.getElem?_eq_some_iff.mp hs).1
theorem scPF : FnScope ["line", "period", "plan"] ["line", "period", "plan"] (defScope sPF) := ⟨rfl, rfl, rfl, by decide +kernel, rfl, by decide +kernel, by decide +kernel⟩
theorem ok_pf {f : Addr} {fd : FuncData} (F : Fun K "plan_feasible" "plan_feasible" sPF f fd) (KU : Def P w K mg base 2 "hoist_keeps_up" ["line", "period"] (spKeeps C)) (SA : Def P w K mg base 1 "stays_allowed" ["line", "period", "plan"] (spSA C K))
    (FC : Def P w K mg base 4 "find_first_conflict" ["line", "period", "plan"] (spFC C K)) : FnOk P w K mg base CX0 5 f fd ["line", "period", "plan"] (spPF C K) := by
  refine F.ok scPF (fun vs H Q E h => ?_) (fun cdv A outer s H vs Q E hr h => ?_)
  · obtain ⟨a, lp, pl, v, p, plan, rfl, _⟩ := h
    rfl
  · obtain ⟨a, lp, pl, v, p, plan, rfl, L, ok, hp, hP, hlen, k⟩ := h
    have n4 := ok.n4
    have e4 : v.emptyTime ≤ 4 := ok.mt.2.2
    refine ⟨_, pss_cons (ps_if (PW.pt (pw_or (pt_not (pt_val (pe_def KU hr rfl (pa_cons (pv 0) (pa_cons (pv 1) pa_nil))))) (pw_or1 (pt_not (pt_val (pe_def SA hr rfl (pa_cons (pv 0) (pa_cons (pv 1) (pa_cons (pv 2) pa_nil))))))))) (pss_one (ps_ret pe_bl)) pss_nil)
      (pss_one (ps_ret (pe_cmpR op_isN (pe_def FC hr rfl (pa_cons (pv 0) (pa_cons (pv 1) (pa_cons (pv 2) pa_nil)))) pe_non (nomark _)))), ?_⟩
    have ef := feasible_iff v p plan
    refine ⟨_, rfl, _, rfl, a, lp, v, p, rfl, L, e4, _, rfl, ?_⟩
    cases es : Kp396.singleMoveFits v p with
    | false =>
      refine iteT (iteT ?_)
      have q := k H (.refl H)
      rw [ef, es, Bool.false_and, Bool.false_and] at q
      exact q
    | true =>
      refine iteF ⟨_, rfl, _, rfl, _, rfl, a, lp, pl, v, p, plan, rfl, L, hP, hlen, fun H1 r s1 hr1 => ⟨_, rfl, ?_⟩⟩
      cases r with
      | false =>
        refine iteT ?_
        have q := k H1 s1
        have e2 : (Kp396.withinWindows v plan && plan.all (fun x => decide (x < p))) = false := by
          cases e : (Kp396.withinWindows v plan && plan.all (fun x => decide (x < p))) with
          | false => rfl
          | true => exact absurd (hr1.mpr e) Bool.false_ne_true
        rw [ef, e2, Bool.and_false, Bool.false_and] at q
        exact q
      | true =>
        have e2 := hr1.mp rfl
        refine iteF ⟨_, rfl, _, rfl, _, rfl, a, lp, pl, v, p, plan, rfl, L.same s1, ok, hp, s1.seq hP, by omega, fun H2 r s2 ho => ⟨rfl, ?_⟩⟩
        have q := k H2 (s1.trans s2)
        rw [ef, es, e2, Bool.true_and, Bool.true_and] at q
        cases ec : Kp396.firstConflict v p plan with
        | none =>
          rw [ec] at ho q
          have ho : r = .non := ho
          subst ho
          exact q
        | some x =>
          rw [ec] at ho q
          obtain ⟨g, rfl, _⟩ := ho
          exact q
theorem scIP : FnScope ["plan", "pit_count", "stay"] ["plan", "pit_count"] (defScope sIP) := ⟨rfl, rfl, rfl, by decide +kernel, rfl, by decide +kernel, by decide +kernel⟩
theorem ok_ip {f : Addr} {fd : FuncData} (F : Fun K "is_plan" "is_plan" sIP f fd) (T : Txt K mg C CS) : FnOk P w K mg base CX0 1 f fd ["plan", "pit_count"] (spIP K) := by
  refine F.ok scIP (fun vs H Q E h => ?_) (fun cdv A outer s H vs Q E hr h => ?_)
  · obtain ⟨pl, n, plan, rfl, _⟩ := h
    rfl
  · obtain ⟨pl, n, plan, rfl, hP, hlen, k⟩ := h
    refine ⟨_, pss_one (ps_ret (pe_and (pe_cmpR op_eq (pe_callB call_len_seq rfl T.len PySem.boot_len (pa_cons (pv 0) pa_nil)) (pv 1) (nomark _))
      (pe_one (pe_callB (cr_all rfl) rfl T.all (by decide +kernel) (pa_cons (pe_lc (own := [("stay", 2)]) (g := gName 2) (tt := tYes) rfl scIP.nd (pi_list (pv 0))
        (blkOk_by (N := ["plan", "pit_count", "stay"]) (sc := defScope sIP) (by decide +kernel)) (fun _ _ _ _ _ => pg_name (i := 2) scIP.nd rfl (Or.inl rfl)) (fun _ _ _ _ _ => pts_nil)
        (fun _ _ _ _ _ => pe_chain op_le op_le pe_int (pv 2) (pe_const T.gStay))) pa_nil))))), ?_⟩
    refine ⟨_, rfl, pl, _, rfl, .inl hP, _, rfl, rfl, _, rfl, ite2 (fun h1 => ?_) (fun h1 => ?_)⟩
    · have h1 := of_decide_eq_true h1
      have h1 : ((iv plan).length : Int) = (n : Int) := V.int.inj h1
      rw [iv_len] at h1
      refine ⟨_, rfl, pl, rfl, ⟨_, hP⟩, fun D hD => ?_⟩
      have s0 : Same H (upd H D (.lst [])) := same_upd hD
      refine lc_list (K := K) (a := pl) (xs := iv plan) (fun i H' => H' D = some (.lst ((plan.take i).map fun (x : Nat) => V.bl (decide (x ≤ 99)))) ∧ Same H H') ⟨upd_same, s0⟩ (fun i H' _ ⟨_, s1⟩ => s1.seq hP) ?_ ?_
      · rintro i x H1 hi ⟨hd, s1⟩
        obtain ⟨st, hst, rfl⟩ := iv_get hi
        refine ⟨rfl, ?_⟩
        refine ⟨_, rfl, _, _, rfl, rfl, _, rfl, ite2 (fun h2 => ?_) (fun h2 => absurd (decide_eq_true (by omega)) h2)⟩
        refine ⟨_, _, rfl, rfl, _, hd, by rw [List.length_map, List.length_take]; exact smallT (show min i _ ≤ 600 by omega), ?_, fun b o e => by rw [upd_ne (ne_of_none e hD)]; exact s1 b o e⟩
        refine upd_same.trans (congrArg (fun z => some (HO.lst z)) ?_)
        rw [take_more hst, List.map_append]
        have e : decide ((st : Int) ≤ 99) = decide (st ≤ 99) := by
          congr 1
          exact propext ⟨fun q => by omega, fun q => by omega⟩
        show _ ++ [V.bl (decide ((st : Int) ≤ 99))] = _
        rw [e]
        rfl
      · rintro H1 ⟨hd, s1⟩
        rw [iv_len, List.take_length] at hd
        refine ⟨D, plan.map fun (x : Nat) => decide (x ≤ 99), rfl, SqL.of (hd.trans (by rw [List.map_map]; rfl)), k H1 _ s1 ?_⟩
        rw [List.all_map, List.all_eq_true]
        constructor
        · intro z
          exact ⟨by omega, fun x hx => of_decide_eq_true (z x hx)⟩
        · rintro ⟨_, z⟩ x hx
          exact decide_eq_true (z x hx)
    · refine k H _ (.refl H) ⟨fun z => (by cases z), fun z => ?_⟩
      exact absurd (decide_eq_true (by rw [iv_len, z.1])) h1
end
end HW
set_option maxHeartbeats 4000000
/-! Pits that hold a lot; the bound. -/
namespace HW
open PySem PySem.Spec PyProof.Rows L2 HM
abbrev sPO : Stmt := topS 38
abbrev sMO : Stmt := topS 39
def spPO (C : Addr) (K : PySem.W.Frag) : Sp := fun vs H Q _ => ∃ (a lp pl : Addr) (v : Kp396.Line) (p x : Nat) (plan : List Nat), vs = [.ref a, .int (p : Nat), .ref pl, .int (x : Nat)] ∧ LineAt C H a lp v ∧ 0 < p ∧ SqL K H pl (iv plan) ∧ plan.length ≤ 600 ∧
  ∀ (H' : Hp), Same H H' → Q (.int (occN v p plan x plan.length : Nat)) H'
def spMO (C : Addr) (K : PySem.W.Frag) : Sp := fun vs H Q _ => ∃ (a lp pl : Addr) (v : Kp396.Line) (p : Nat) (plan : List Nat), vs = [.ref a, .int (p : Nat), .ref pl] ∧ LineAt C H a lp v ∧ 0 < p ∧ p ≤ 99 ∧ SqL K H pl (iv plan) ∧ plan.length ≤ 600 ∧
  ∀ (H' : Hp), Same H H' → Q (.int (Kp396.maxOccupied v p plan : Nat)) H'
def spBound (C : Addr) : Sp := fun vs H Q _ => ∃ (a lp : Addr) (v : Kp396.Line), vs = [.ref a] ∧ LineAt C H a lp v ∧ Ok v ∧ ∀ (H' : Hp), Same H H' → Q (.int (Kp396.periodBound v : Nat)) H'
section
variable {P : Program} {w : World} {K : PySem.W.Frag} {mg : Str → Option Value} {base : Heap} {C CS : Addr}
theorem scPO : FnScope ["line", "period", "plan", "minute", "count", "start", "stay"] ["line", "period", "plan", "minute"] (defScope sPO) := ⟨rfl, rfl, rfl, by decide +kernel, rfl, by decide +kernel, by decide +kernel⟩
theorem ok_po {f : Addr} {fd : FuncData} (F : Fun K "pits_occupied" "pits_occupied" sPO f fd) (T : Txt K mg C CS) (M : Def P w K mg base 1 "move_times" ["line", "plan"] (spMT C K)) : FnOk P w K mg base CX0 2 f fd ["line", "period", "plan", "minute"] (spPO C K) := by
  refine F.ok scPO (fun vs H Q E h => ?_) (fun cdv A outer s H vs Q E hr h => ?_)
  · obtain ⟨a, lp, pl, v, p, x, plan, rfl, _⟩ := h
    rfl
  · obtain ⟨a, lp, pl, v, p, x, plan, rfl, L, hp, hP, hlen, k⟩ := h
    obtain ⟨dx, ha⟩ := L.obj
    refine ⟨_, pss_cons (ps_set (i := 4) scPO.nd rfl (.inl rfl) pe_int)
      (pss_cons (ps_for PassesOwn.never rfl (pi_zip (by rfl) T.zip (pa_cons (pe_def M hr rfl (pa_cons (pv 0) (pa_cons (pv 2) pa_nil))) (pa_cons (pv 2) pa_nil))) (pg_tup (by rfl) (pgs_cons (pg_name (i := 5) scPO.nd rfl (.inl rfl)) (pgs_cons (pg_name (i := 6) scPO.nd rfl (.inl rfl)) pgs_nil)))
        (pss_one (ps_if (pt_cmpR op_lt (pe_op op_modN (pe_op op_sub (pv 3) (pe_op op_add (pv 5) (pe_fld (pv 0) rfl))) (pv 1)) (pv 6) (nomark _)) (pss_one (ps_aug (i := 4) scPO.nd rfl (.inl rfl) pe_int ip_add)) pss_nil)))
      (pss_one (ps_ret (pv 4)))), ?_⟩
    have hle : (Kp396.startTimes v plan).length = plan.length + 1 := startTimes_length v plan
    refine ⟨_, rfl, _, rfl, a, lp, pl, v, plan, rfl, L, hP, hlen, fun H1 q hq s1 h1 => ⟨_, rfl, ?_⟩⟩
    refine ⟨q, pl, _, _, rfl, SqL.of h1, s1.seq hP, ?_⟩
    refine for_it (walk_zip (K := K) (a := q) (b := pl) (xs := iv (Kp396.startTimes v plan)) (ys := iv plan) (n := plan.length) (by rw [iv_len, iv_len, hle]; omega))
      (fun i σ H' => (∃ v5 v6 : Option V, σ = [some (.ref a), some (.int (p : Nat)), some (.ref pl), some (.int (x : Nat)), some (.int (occN v p plan x i : Nat)), v5, v6]) ∧ Same H1 H')
      ⟨⟨none, none, rfl⟩, .refl _⟩ (fun i σ H' _ ⟨_, s2⟩ => ⟨SqL.of (s2 _ _ h1), (s1.trans s2).seq hP⟩) ?_ ?_
    · rintro i y σ H2 H2' hi ⟨⟨v5, v6, rfl⟩, s2⟩ ⟨Tp, x1, y1, rfl, nT, rfl, hx1, hy1⟩
      obtain ⟨t0, ht0, rfl⟩ := iv_get hx1
      obtain ⟨st, hst, rfl⟩ := iv_get hy1
      have et : t0 = tm v plan i := by
        have e := tm_get (v := v) (l := plan) (k := i) (by omega)
        rw [ht0] at e
        exact Option.some.inj e
      subst et
      have s3 : Same H1 (upd H2 Tp (.tup [.int (tm v plan i : Nat), .int (st : Nat)])) := s2.trans (same_upd nT)
      refine ⟨Tp, _, rfl, .inl (.inl upd_same), rfl, _, _, rfl, _, _, rfl, rfl, ?_⟩
      have em : ((x : Int) - (((tm v plan i : Nat) : Int) + (v.moveTime : Nat))).fmod (p : Int) = ((x : Int) - ((tm v plan i : Int) + v.moveTime)) % p := Int.fmod_eq_emod_of_nonneg _ (by omega)
      have eo := occ_eq (v := v) (x := x) hp hst
      refine ⟨_, rfl, _, rfl, _, rfl, a, C, dx, _, _, rfl, (s1.trans s3) _ _ ha, T.cl, T.nM, lF_m, _, _, rfl, rfl, _, _, rfl, rfl, _, rfl, _, _, rfl, rfl, (by omega), _, rfl, _, _, rfl, rfl, _, rfl, ?_⟩
      rw [em, ← eo]
      cases eb : Kp396.isOccupied v p plan i x with
      | true =>
        refine iteT ⟨_, rfl, _, _, rfl, rfl, ⟨⟨some (.int (tm v plan i : Nat)), some (.int (st : Nat)), ?_⟩, s3⟩⟩
        rw [occN_succ, eb, if_pos rfl]
        rfl
      | false =>
        refine iteF ⟨⟨some (.int (tm v plan i : Nat)), some (.int (st : Nat)), ?_⟩, s3⟩
        rw [occN_succ, eb, if_neg Bool.false_ne_true]
        rfl
    · rintro σ H2 ⟨⟨v5, v6, rfl⟩, s2⟩
      exact ⟨_, rfl, k H2 (s1.trans s2)⟩
theorem scMO : FnScope ["line", "period", "plan", "minute"] ["line", "period", "plan"] (defScope sMO) := ⟨rfl, rfl, rfl, by decide +kernel, rfl, by decide +kernel, by decide +kernel⟩
theorem ok_mo {f : Addr} {fd : FuncData} (F : Fun K "most_occupied" "most_occupied" sMO f fd) (T : Txt K mg C CS) (PO : Def P w K mg base 2 "pits_occupied" ["line", "period", "plan", "minute"] (spPO C K)) : FnOk P w K mg base CX0 3 f fd ["line", "period", "plan"] (spMO C K) := by
  refine F.ok scMO (fun vs H Q E h => ?_) (fun cdv A outer s H vs Q E hr h => ?_)
  · obtain ⟨a, lp, pl, v, p, plan, rfl, _⟩ := h
    rfl
  · obtain ⟨a, lp, pl, v, p, plan, rfl, L, hp, hp9, hP, hlen, k⟩ := h
    refine ⟨_, pss_one (ps_ret (pe_callB (cr_max rfl) rfl T.max (by decide +kernel) (pa_cons (pe_lc (own := [("minute", 3)]) (g := gName 3) (tt := tYes) rfl scMO.nd (pi_range1 rfl T.range (pa_cons (pv 1) pa_nil))
        (blkOk_by (N := ["line", "period", "plan", "minute"]) (sc := defScope sMO) (by decide +kernel)) (fun _ _ _ _ _ => pg_name (i := 3) scMO.nd rfl (Or.inl rfl)) (fun _ _ _ _ _ => pts_nil)
        (fun _ _ _ _ _ => pe_def PO hr rfl (pa_cons (pv 0) (pa_cons (pv 1) (pa_cons (pv 2) (pa_cons (pv 3) pa_nil)))))) pa_nil))), ?_⟩
    refine ⟨_, rfl, _, rfl, by omega, by omega, fun D hD => ?_⟩
    have s0 : Same H (upd H D (.lst [])) := same_upd hD
    refine lc_range (lo := 0) (n := p) (fun i H' => H' D = some (.lst (((List.range p).take i).map fun x => V.int ((occN v p plan x plan.length : Nat) : Int))) ∧ Same H H') ⟨upd_same, s0⟩ ?_ ?_
    · rintro i H1 hi ⟨hd, s1⟩
      have ei : (0 : Int) + (i : Int) = ((i : Nat) : Int) := by omega
      have hn : (List.range p)[i]? = some i := List.getElem?_range hi
      rw [ei]
      refine ⟨rfl, _, rfl, _, rfl, _, rfl, _, rfl, a, lp, pl, v, p, i, plan, rfl, L.same s1, hp, s1.seq hP, hlen, fun H2 s2 => ?_⟩
      refine ⟨_, s2 _ _ hd, by rw [List.length_map, List.length_take, List.length_range]; exact smallT (show min i p ≤ 99 by omega), ?_, fun b o e => by rw [upd_ne (ne_of_none e hD)]; exact s2 b o (s1 b o e)⟩
      refine upd_same.trans (congrArg (fun z => some (HO.lst z)) ?_)
      rw [take_more hn, List.map_append]
      rfl
    · rintro H1 ⟨hd, s1⟩
      rw [List.take_of_length_le (by rw [List.length_range]; omega)] at hd
      refine ⟨D, ((List.range p).map fun x => occN v p plan x plan.length).map Int.ofNat, rfl, SqL.of (hd.trans (by rw [List.map_map, List.map_map]; rfl)), by rw [List.length_map, List.length_map, List.length_range]; exact hp, fun m hm hle => ?_⟩
      have q := k H1 s1
      have e := greatest0 hm hle
      have e2 : Kp396.maxOccupied v p plan = ((List.range p).map fun x => occN v p plan x plan.length).foldl max 0 := rfl
      rw [e2, ← e] at q
      exact q
theorem scBound : FnScope ["self", "bounds", "least", "most"] ["self"] (defScope sBound) := ⟨rfl, rfl, rfl, by decide +kernel, rfl, by decide +kernel, by decide +kernel⟩
theorem ok_bound {f : Addr} {fd : FuncData} (F : Fun K "bound" "Line.bound" sBound f fd) (T : Txt K mg C CS) : FnOk P w K mg base CX0 1 f fd ["self"] (spBound C) := by
  refine F.ok scBound (fun vs H Q E h => ?_) (fun cdv A outer s H vs Q E hr h => ?_)
  · obtain ⟨a, lp, v, rfl, _⟩ := h
    rfl
  · obtain ⟨a, lp, v, rfl, L, ok, k⟩ := h
    obtain ⟨dx, ha⟩ := L.obj
    obtain ⟨ts, hl, hps⟩ := L.lst
    have n4 := ok.n4
    obtain ⟨m1, m9, e4⟩ := ok.mt
    refine ⟨_, pss_cons (ps_set (i := 1) scBound.nd rfl (.inl rfl) (pe_lst (pa_cons (pe_op op_add (pe_fld (pv 0) rfl) (pe_fld (pv 0) rfl)) (pa_cons (pe_op op_mul (pe_op op_add (pe_callB call_len_seq rfl T.len PySem.boot_len (pa_cons (pe_fld (pv 0) rfl) pa_nil)) pe_int) (pe_fld (pv 0) rfl)) pa_nil))))
      (pss_cons (ps_for PassesOwn.never rfl (pi_list (pe_fld (pv 0) rfl)) (pg_tup (by rfl) (pgs_cons (pg_name (i := 2) scBound.nd rfl (.inl rfl)) (pgs_cons (pg_name (i := 3) scBound.nd rfl (.inl rfl)) pgs_nil)))
        (pss_one (ps_expr (pe_bm PySem.F.plainAttrs_list PySem.F.slot_list_append PySem.F.type_list_append mt_append (pv 1) (pa_cons (pe_op op_add (pe_op op_add (pv 2) (pe_op op_mul pe_int (pe_fld (pv 0) rfl))) (pe_op op_mul pe_int (pe_fld (pv 0) rfl))) pa_nil)))))
      (pss_one (ps_ret (pe_callB (cr_max rfl) rfl T.max (by decide +kernel) (pa_cons (pv 1) pa_nil))))), ?_⟩
    have hln : ((ts.map V.ref).length : Int) = (v.pits.length : Int) := by rw [List.length_map, hps.len]
    refine ⟨_, rfl, a, C, dx, _, _, rfl, ha, T.cl, T.nM, lF_m, _, rfl, a, C, dx, _, _, rfl, ha, T.cl, T.nE, lF_e, _, _, rfl, rfl, ?_⟩
    refine ⟨_, rfl, a, C, dx, _, _, rfl, ha, T.cl, T.nP, lF_pits, lp, _, rfl, .inl (SqL.of hl), _, _, rfl, rfl, _, rfl, a, C, dx, _, _, rfl, ha, T.cl, T.nM, lF_m, _, _, rfl, rfl, .inr ⟨by omega, by omega⟩, ?_⟩
    refine ⟨(by show 2 ≤ sizeLine; decide), fun q hq => ?_⟩
    let g := fun w : Kp396.Window => w.least + 2 * v.moveTime + 2 * v.emptyTime
    let b1 := v.moveTime + v.emptyTime
    let b2 := (v.pits.length + 1) * v.moveTime
    have s0 : Same H (upd H q (.lst [.int (((v.moveTime : Nat) : Int) + (v.emptyTime : Nat)), .int ((((ts.map V.ref).length : Int) + 1) * (v.moveTime : Nat))])) := same_upd hq
    have h0 : [V.int (((v.moveTime : Nat) : Int) + (v.emptyTime : Nat)), .int ((((ts.map V.ref).length : Int) + 1) * (v.moveTime : Nat))] = iv (b1 :: b2 :: (v.pits.take 0).map g) := by
      have e1 : ((b1 : Nat) : Int) = ((v.moveTime : Nat) : Int) + (v.emptyTime : Nat) := by show ((v.moveTime + v.emptyTime : Nat) : Int) = _; omega
      have e2 : ((b2 : Nat) : Int) = (((ts.map V.ref).length : Int) + 1) * (v.moveTime : Nat) := by
        rw [hln]
        show (((v.pits.length + 1) * v.moveTime : Nat) : Int) = _
        rw [Int.natCast_mul]
        rfl
      show _ = [V.int (b1 : Nat), V.int (b2 : Nat)]
      rw [e1, e2]
    refine ⟨_, rfl, a, C, dx, _, _, rfl, s0 _ _ ha, T.cl, T.nP, lF_pits, lp, rfl, ⟨_, SqL.of (s0 _ _ hl)⟩, ?_⟩
    refine for_list (K := K) (a := lp) (xs := ts.map V.ref) (fun i σ H' => (∃ v2 v3 : Option V, σ = [some (.ref a), some (.ref q), v2, v3]) ∧ H' q = some (.lst (iv (b1 :: b2 :: (v.pits.take i).map g))) ∧ Same H H')
      ⟨⟨none, none, rfl⟩, upd_same.trans (congrArg (fun z => some (HO.lst z)) h0), s0⟩ (fun i σ H' _ ⟨_, _, s1⟩ => SqL.of (s1 _ _ hl)) ?_ ?_
    · rintro i x σ H1 hi ⟨⟨v2, v3, rfl⟩, h1, s1⟩
      have hi2 : i < v.pits.length := by
        have := (List.getElem?_eq_some_iff.mp hi).1
        rw [List.length_map, hps.len] at this
        exact this
      have hw : v.pits[i]? = some v.pits[i] := List.getElem?_eq_getElem hi2
      have ht : ts[i]? = some (ts[i]'(by rw [hps.len]; exact hi2)) := List.getElem?_eq_getElem _
      have ex : x = .ref (ts[i]'(by rw [hps.len]; exact hi2)) := by
        rw [List.getElem?_map, ht] at hi
        exact (Option.some.inj hi).symm
      subst ex
      have htup := hps.at_ _ _ _ ht hw
      refine ⟨_, _, rfl, .inl (.inl (s1 _ _ htup)), rfl, _, _, rfl, _, _, rfl, rfl, ?_⟩
      refine ⟨_, rfl, .inl ⟨rfl, _, SqL.of h1⟩, _, rfl, _, rfl, a, C, dx, _, _, rfl, s1 _ _ ha, T.cl, T.nM, lF_m, _, _, rfl, rfl, .inl ⟨by decide, by decide⟩, _, _, rfl, rfl, ?_⟩
      refine ⟨_, rfl, a, C, dx, _, _, rfl, s1 _ _ ha, T.cl, T.nE, lF_e, _, _, rfl, rfl, .inl ⟨by decide, by decide⟩, _, _, rfl, rfl, ?_⟩
      refine ⟨q, _, _, rfl, rfl, h1, (by rw [iv_len, List.length_cons, List.length_cons, List.length_map, List.length_take]; exact smallT (show min i _ + 1 + 1 ≤ 6 by omega)), ?_⟩
      refine ⟨⟨_, _, rfl⟩, ?_, fun b o e => by rw [upd_ne (ne_of_none e hq)]; exact s1 b o e⟩
      refine upd_same.trans (congrArg (fun z => some (HO.lst z)) (iv_push (n := g v.pits[i]) ?_ ?_))
      · rw [take_more hw, List.map_append]
        rfl
      · show ((v.pits[i].least : Nat) : Int) + 2 * (v.moveTime : Nat) + 2 * (v.emptyTime : Nat) = ((v.pits[i].least + 2 * v.moveTime + 2 * v.emptyTime : Nat) : Int)
        omega
    · rintro σ H1 ⟨⟨v2, v3, rfl⟩, h1, s1⟩
      rw [List.take_of_length_le (by rw [List.length_map, hps.len]; exact Nat.le_refl _)] at h1
      refine ⟨_, rfl, q, (b1 :: b2 :: v.pits.map g).map Int.ofNat, rfl, SqL.of (h1.trans (by rw [List.map_map]; rfl)), by simp, fun m hm hle => ?_⟩
      have z := k H1 s1
      have e := greatest hm hle
      have e2 : Kp396.periodBound v = (b2 :: v.pits.map g).foldl max b1 := rfl
      rw [e2, ← e] at z
      exact z
end
end HW
set_option maxHeartbeats 4000000
/-! A lambda with one parameter that reads names of the def around it, handed to a def which calls it. -/
namespace HW
open PySem PySem.Spec PyProof.Rows L2 LamX NdefX HM
/-- the lambda as it lies in the heap -/
abbrev lamO (F : NF) (body : Expr) (pm ctv : Value) : Obj := PySem.W.kla_obj "<lambda>" F.qual F.params body F.scope F.cl pm F.c ctv
/-- what a call of it promises; ws: what its captured cells hold -/
structure LOk (P : Program) (w : World) (K : PySem.W.Frag) (mg : Str → Option Value) (base : Heap) (k : Nat) (F : NF) (body : Expr) (fr : List Str) (sp : List (Option V) → Sp) : Prop where
  run : ∀ (A : Around) (outer : List Env) (s : Shared) (H : Hp) (us : List Value) (vs : List V) (ws : List (Option V)) (Q : VK) (f : Addr) (pm ctv : Value), Room k A → Env0 P w K mg base A outer s H → s.heap.get? f = some (lamO F body pm ctv) →
    H F.c = some (CodeO F.c F.qual) → CellsAt F.cl fr ws s.heap H → Vals vs us → sp ws vs H Q E0 → codeAny (model P w) A (.call (.ref f) ⟨us, []⟩) (CR CX0 outer P w H s Q E0) s
section
variable {P : Program} {w : World} {K : PySem.W.Frag} {mg : Str → Option Value} {base : Heap} {N ps fr : List Str} {F : NF} {body : Expr} {k j : Nat} {sp : List (Option V) → Sp}
theorem lok_of (S : NScope N ps fr F.scope) (hb : ∀ (pm ctv : Value) (us : List Value), us.length = ps.length → bindArgs (PySem.W.kla_fn "<lambda>" F.qual F.params body F.scope F.cl pm (.ref F.c) ctv) ⟨us, []⟩ = pure (ps.zip us))
    (len : ∀ ws vs H Q E, sp ws vs H Q E → vs.length = ps.length)
    (hbody : ∀ (A : Around) (outer : List Env) (s : Shared) (H : Hp) (vs : List V) (ws : List (Option V)) (Q : VK) (f : Addr), Room k (A.deeper (envF F f s.heap.objs.size)) → ws.length = fr.length → sp ws vs H Q E0 →
      ∃ t, PE (ncx CX0 P w K mg base N F f A outer s H E0) body t ∧ t (startF N vs ws) H Q) : LOk P w K mg base (k + 1) F body fr sp := by
  refine ⟨fun A outer s H us vs ws Q f pm ctv hr e0 ho hc C r hsp => ?_⟩
  have hl := len _ _ _ _ _ hsp
  have lim : s.heap.NoLimit := e0.mod.nolimit.keeps fun b o e => (e0.bs b o e).1
  obtain ⟨oc, vsC, tk, h1, h2, h3⟩ := (show ∃ (oc : Obj) (vs : Array Value) (t : Tok), s.heap.get? F.c = some oc ∧ oc.data = .fields vs ∧ vs[1]? = some (.str F.qual t) from (e0.hok F.c _ hc).1)
  refine PySem.W.kla_callFunE hr.depth ho rfl S.co S.gen rfl ⟨F.c, oc, vsC, tk, rfl, h1, h2, h3⟩ ?_
  rw [hb pm ctv us (by rw [← r.length]; exact hl)]
  refine wpAny_pure (wpAny_newFunctionEnv S.nocell (fun ⟨n, _⟩ hy => S.par n (List.of_mem_zip hy).1) (fun hN hns hsb => ⟨lim.fresh _ hsb, ?_⟩) S.kind)
  show codeAny _ _ (.expr body (envF F f s.heap.objs.size)) _ _
  have kept : ∀ b o, s.heap.get? b = some o → hN.get? b = some o := fun b o e => hsb.extBut b o (Nat.ne_of_lt (Heap.lt_size e)) (Heap.get?_push_of_some _ e)
  obtain ⟨t, ht, hq⟩ := hbody A outer s H vs ws Q f (hr.deeper _) C.len hsp
  have J : Inv (ncx CX0 P w K mg base N F f A outer s H E0) [] (startF N vs ws) H { s with heap := hN, toks := s.toks + (ps.zip us).length } := inv_startN S hr.hd e0 hl r C hns kept
  refine PySem.W.kla_codeExpr (wpAny_mono (ht.run [] _ _ H Q J hq) (fun v s' z => ?_) fun e s' z => z)
  obtain ⟨x, H', J', rv, q⟩ := z
  exact ⟨x, H', J'.os, J'.bare, J'.base, J'.hok, rv, q⟩
/-- at (s, H), and wherever the untracked is kept, f is a function whose call promises sp -/
structure CallsTo (P : Program) (w : World) (K : PySem.W.Frag) (mg : Str → Option Value) (base : Heap) (k : Nat) (outer : List Env) (s : Shared) (H : Hp) (f c' : Addr) (q : Str) (sp : Sp) : Prop where
  fn : ∀ (s' : Shared) (H' : Hp), Un (frs outer) [] H H' s.heap s'.heap → PySem.W.FnAt f s'.heap
  run : ∀ (s' : Shared) (H' : Hp) (A' : Around) (outer' : List Env) (us : List Value) (vs : List V) (Q : VK), Un (frs outer) [] H H' s.heap s'.heap → Room k A' → Env0 P w K mg base A' outer' s' H' → H' c' = some (CodeO c' q) → Vals vs us → sp vs H' Q E0 →
    codeAny (model P w) A' (.call (.ref f) ⟨us, []⟩) (CR CX0 outer' P w H' s' Q E0) s'
theorem callsTo_of {outer : List Env} {s : Shared} {H : Hp} {f : Addr} {pm ctv : Value} {ws : List (Option V)} (L : LOk P w K mg base k F body fr sp) (hf : s.heap.get? f = some (lamO F body pm ctv)) (hn : H f = none) (hfr : f ∉ frs outer)
    (C : CellsAt F.cl fr ws s.heap H) (nf : ∀ y c, F.cl.lookup y = some c → c ∉ frs outer) : CallsTo P w K mg base k outer s H f F.c F.qual (sp ws) := by
  have nil : ∀ b : Addr, b ∉ ([] : List Addr) := fun b z => by cases z
  refine ⟨fun s' H' un => ⟨_, _, _, _, un.keep f _ hf hn hfr (nil f)⟩, fun s' H' A' outer' us vs Q un hr e0 hc r q => ?_⟩
  have cellK : ∀ y c, F.cl.lookup y = some c → ∀ v, s.heap.IsCell c v → s'.heap.IsCell c v := fun y c e v ⟨o, ho, hd⟩ => ⟨o, un.keep c o ho (C.all y c e).1 (nf y c e) (nil c), hd⟩
  refine L.run A' outer' s' H' us vs ws Q f pm ctv hr e0 (un.keep f _ hf hn hfr (nil f)) hc ⟨C.len, fun y c e => ?_, C.inj, fun i y e => ?_⟩ r q
  · obtain ⟨n, v, z⟩ := C.all y c e
    refine ⟨?_, v, cellK y c e v z⟩
    obtain ⟨o, ho, _⟩ := z
    exact un.free c o ho n (nil c)
  · obtain ⟨c, hc, hv⟩ := C.has i y e
    refine ⟨c, hc, fun v ev => ?_⟩
    obtain ⟨u, ru, z⟩ := hv v ev
    exact ⟨u, ru, cellK y c hc _ z⟩
end
/-! ### the call of a slot that holds it, in the def that got it -/
section
variable {X : Cx} {i j k : Nat} {f c' : Addr} {q x : Str} {sp : Sp} {p pos : Pos} {e : Expr} {es : List Expr} {t : TA}
theorem pe_callT (hex : X.ex = []) (CT : CallsTo X.prog X.w X.K X.mg X.base k X.outer X.s_0 X.H_0 f c' q sp) (hr : Room j X.A) (hN : X.N[i]? = some x) (hv : Vis X.env.scope x) (ha : PA X (e :: es) t) (hk : k ≤ j := by decide)
    (hd : (x == ("__debug__" : Str)) = false := by decide) (hcd : (x == ("__classdict__" : Str)) = false := by decide)
    (he : starEach (e :: es) X.env = (false, eval e X.env) :: starEach es X.env := by rfl) (hpl : (backTo pos (starEach es X.env)).any (·.1) = false := by rfl) :
    PE X (.Call (.Name x p) (e :: es) [] pos) (fun σ H Q => σ[i]? = some (some (.ref f)) ∧ t σ H fun vs H1 => H1 c' = some (CodeO c' q) ∧ sp vs H1 Q E0) := by
  refine ⟨fun pins s σ H Q I h => ?_⟩
  obtain ⟨hs, ht⟩ := h
  have unI : ∀ {σ' : L2.St} {H' : Hp} {s' : Shared}, Inv X pins σ' H' s' → Un (frs X.outer) [] X.H_0 H' X.s_0.heap s'.heap := fun J => by
    have z := J.base
    rw [hex] at z
    exact z
  refine wpAny_Call_Name_kw (thn ((pe_var (pos := p) hN hv hd hcd).run pins s σ H (fun v H1 => v = .ref f ∧ H1 = H) I ⟨.ref f, hs, rfl, rfl⟩) fun u s1 ⟨v, H1, I1, r1, e1, e2⟩ => ?_)
  subst e1
  rw [e2] at I1
  obtain rfl : u = Value.ref f := r1
  refine PySem.W.callWith_F (first := []) (CT.fn _ _ (unI I1)) (thn (ha.run pos pins s1 σ H _ I1 ht) fun us s2 ⟨vs, H2, I2, r, hc, z⟩ => ⟨CT.fn _ _ (unI I2), ?_⟩) he hpl
  show wpAny _ _ (call (.ref f) us) _ _ _
  refine wpAny_call (codeAny_mono (CT.run s2 H2 X.A X.stack us vs Q (unI I2) (hr.mono hk) I2.env0 hc r z) fun r' s' hq => ?_)
  cases r' with
  | error e => exact (show False from hq).elim
  | ok fl =>
    cases fl with
    | ret u => exact I2.after hq
    | next => exact False.elim hq
    | brk => exact False.elim hq
    | cont => exact False.elim hq
end
/-! ### a def called, told of the very state -/
theorem Fun.okS {P : Program} {w : World} {K : PySem.W.Frag} {mg : Str → Option Value} {base : Heap} {x qual : Str} {st : Stmt} {f : Addr} {fd : FuncData} {N ps : List Str} {k : Nat} (F : Fun K x qual st f fd) (S : FnScope N ps (defScope st)) (hbi : Binds K fd ps [])
    {A : Around} {outer : List Env} {s : Shared} {H : Hp} {us : List Value} {vs : List V} {Q : VK} (hr : Room (k + 1) A) (e0 : Env0 P w K mg base A outer s H) (r : Vals vs us) (hl : vs.length = ps.length)
    (hbody : ∀ cdv : Value, Room k (A.deeper (envOfC qual (defScope st) s.heap.objs.size f cdv)) → ∃ t, PSs (cxOf CX0 P w K mg base N qual (defScope st) f cdv A outer s H E0).nox (defBody st) t ∧ t { nx := fun _ H' => Q .non H', rt := Q } (L2.start N vs) H) :
    codeAny (model P w) A (.call (.ref f) ⟨us, []⟩) (CR CX0 outer P w H s Q E0) s := by
  obtain ⟨oc, od, kV, doc, pm, an, cdv, ct, osl, rfl, lk, hcd⟩ := F.ex
  have KX : K.In s.heap := e0.mod.kin.keeps fun b o e => (e0.bs b o e).1
  have b0 := hbi s us KX (by rw [List.append_nil, ← r.length, hl])
  have b1 : BindsTo s (PySem.W.fnOf x qual (defArgs st) (defBody st) (defScope st) .none kV doc pm an cdv ct) ⟨us, []⟩ (ps.zip us) := by
    have z := b0
    rw [List.append_nil] at z
    exact z
  refine run_ofS lk hcd S hr e0 b1 r hl fun hr' => ?_
  obtain ⟨t, ht, hq⟩ := hbody cdv hr'
  exact ⟨t, ht.nox, hq⟩
/-! ### answer_by_first_plan -/
abbrev sAB : Stmt := topS 50
/-- what is wanted of it -/
structure SpA (v : Kp396.Line) (p : Nat) (sp : Sp) (H : Hp) (Q : VK) : Prop where
  out : Kp396.validPeriod p = false → ∀ (H' : Hp) (r : Addr), H r = none → Same H H' → H' r = some (.lst [.int (-22)]) → Q (.ref r) H'
  no : Kp396.validPeriod p = true → Kp396.firstPlan v p = none → ∀ (H' : Hp) (r : Addr), H r = none → Same H H' → H' r = some (.lst [.int (-33)]) → Q (.ref r) H'
  plan : Kp396.validPeriod p = true → ∀ pl, Kp396.firstPlan v p = some pl → ∀ (H' : Hp) (r : Addr), H r = none → Same H H' → H' r = some (.lst (iv pl)) → sp [.ref r] H' Q E0
def AbOk (P : Program) (w : World) (K : PySem.W.Frag) (mg : Str → Option Value) (base : Heap) (C : Addr) (g : Addr) (k j : Nat) : Prop :=
  ∀ (A : Around) (outer : List Env) (s : Shared) (H : Hp) (us : List Value) (Q : VK) (a lp f c' : Addr) (q : Str) (v : Kp396.Line) (p : Nat) (sp : Sp), Room k A → Env0 P w K mg base A outer s H → Vals [.ref a, .int (p : Nat), .ref f] us →
    LineAt C H a lp v → Ok v → CallsTo P w K mg base j outer s H f c' q sp → H c' = some (CodeO c' q) → SpA v p sp H Q → codeAny (model P w) A (.call (.ref g) ⟨us, []⟩) (CR CX0 outer P w H s Q E0) s
section
variable {P : Program} {w : World} {K : PySem.W.Frag} {mg : Str → Option Value} {base : Heap} {C CS : Addr}
theorem scAB : FnScope ["line", "period", "measure", "plan"] ["line", "period", "measure"] (defScope sAB) := ⟨rfl, rfl, rfl, by decide +kernel, rfl, by decide +kernel, by decide +kernel⟩
theorem ok_ab {g : Addr} {fd : FuncData} (F : Fun K "answer_by_first_plan" "answer_by_first_plan" sAB g fd) (T : Txt K mg C CS) (b : Binds K fd ["line", "period", "measure"] []) (IP : Def P w K mg base 1 "is_period" ["period"] (spTest1 Kp396.validPeriod))
    (FP : Def P w K mg base 9 "find_first_plan" ["line", "period"] (spFP C)) : AbOk P w K mg base C g 10 9 := by
  intro A outer s H us Q a lp f c' q v p sp hr e0 r L ok CT hc W
  refine Fun.okS (k := 9) F scAB b hr e0 r rfl fun cdv hr' => ?_
  refine ⟨_, pss_cons (ps_if (pt_not (pt_val (pe_def IP hr' rfl (pa_cons (pv 1) pa_nil)))) (pss_one (ps_ret (pe_lst (pa_cons (pe_const T.cOut) pa_nil)))) pss_nil)
    (pss_cons (ps_set (i := 3) scAB.nd rfl (.inl rfl) (pe_def FP hr' rfl (pa_cons (pv 0) (pa_cons (pv 1) pa_nil))))
    (pss_cons (ps_if (pt_cmpR op_isN (pv 3) pe_non (nomark _)) (pss_one (ps_ret (pe_lst (pa_cons (pe_const T.cNone) pa_nil)))) pss_nil)
    (pss_one (ps_ret (pe_callT (i := 2) rfl CT hr' rfl (.inl rfl) (pa_cons (pv 3) pa_nil)))))), ?_⟩
  refine ⟨_, rfl, p, rfl, fun r1 hr1 => ⟨_, rfl, ?_⟩⟩
  cases r1 with
  | false =>
    have ev : Kp396.validPeriod p = false := by
      cases e : Kp396.validPeriod p with
      | false => rfl
      | true => exact absurd (hr1.mpr e) Bool.false_ne_true
    refine iteT ⟨(by show 1 ≤ sizeLine; decide), fun z hz => W.out ev _ z hz (same_upd hz) upd_same⟩
  | true =>
    have ev := hr1.mp rfl
    have ep := (period_iff p).mp ev
    refine iteF ⟨_, rfl, _, rfl, a, lp, v, p, rfl, L, ok, by omega, by omega, fun H1 r2 s1 ho => ⟨_, rfl, rfl, _, rfl, ?_⟩⟩
    cases ef : Kp396.firstPlan v p with
    | none =>
      rw [ef] at ho
      have ho : r2 = .non := ho
      subst ho
      exact iteT ⟨(by show 1 ≤ sizeLine; decide), fun z hz => W.no ev ef _ z (s1.free hz) (s1.trans (same_upd hz)) upd_same⟩
    | some pl =>
      rw [ef] at ho
      obtain ⟨z, rfl, hz, hpl⟩ := ho
      exact iteF ⟨rfl, _, rfl, s1 _ _ hc, W.plan ev pl ef H1 z hz s1 hpl⟩
end
/-! ### the def that makes the lambda and hands it on -/
section
variable {X : Cx}
theorem pe_lamarg {T : List (Addr × Str)} {C g c P : Addr} {x : Str} {k j : Nat} {e1 e2 : Expr} {t1 t2 : TE} {params : Arguments} {body : Expr} {scope : Scope} {fr : List Str} {js : List Nat} {sp : List (Option V) → Sp} {p lpos pos : Pos}
    (hg : Gl X x) (hm : X.mg x = some (.ref g)) (hk : PySem.W.keepIn X.K (.ref g) = true) (G : AbOk X.prog X.w X.K X.mg X.base C g k j) (hr : Room k X.A) (h1 : PE X e1 t1) (h2 : PE X e2 t2)
    (TB : TabB X.base X.mg c P) (hcode : X.env.code = .ref c) (hmT : (P, X.env.qual ++ "<lambda>") ∈ T) (hu : ∀ p ∈ T, p.1 = P → p.2 = X.env.qual ++ "<lambda>") (hB : ndefB X.env.scope scope fr = true) (hdef : defaultsOf params X.env = ([], []))
    (hjs : js.map (fun j => X.N[j]?) = fr.map some) (hfn : ∀ y, X.fn y = true)
    (LO : ∀ c', LOk X.prog X.w X.K X.mg X.base j ⟨"<lambda>", X.env.qual ++ "<lambda>", params, [], scope, cloFrom X.env.cells scope.names [], c'⟩ body fr sp)
    (hs1 : starEach [e1, e2, .Lambda params body scope lpos] X.env = (false, eval e1 X.env) :: starEach [e2, .Lambda params body scope lpos] X.env := by rfl)
    (hs2 : starEach [e2, .Lambda params body scope lpos] X.env = [(false, eval e2 X.env), (false, eval (.Lambda params body scope lpos) X.env)] := by rfl) (hdb : (x == ("__debug__" : Str)) = false := by decide) :
    PE X (.Call (.Name x p) [e1, e2, .Lambda params body scope lpos] [] pos) (fun σ H Q => t1 σ H fun v1 H1 => t2 σ H1 fun v2 H2 => ∃ (a lp : Addr) (v : Kp396.Line) (pd : Nat), v1 = .ref a ∧ v2 = .int (pd : Nat) ∧ LineAt C H2 a lp v ∧ Ok v ∧ Tabs T H2 ∧
      ∀ H3, ExtN H2 H3 → Tabs T H3 → SpA v pd (sp (js.map (slotAt σ))) H3 Q) := by
  refine ⟨fun pins s σ H Q I h => ?_⟩
  refine wpAny_Call_Name_kw (ld_glob I hg hm ?_ hdb)
  refine PySem.W.callWith_K (h₀ := X.base) I.ok.mod.kin hk ?_ hs1 (by rw [hs2]; rfl)
  rw [hs1, hs2]
  show wpAny _ _ (spliced ((false, eval e1 X.env) :: (false, eval e2 X.env) :: (false, eval (.Lambda params body scope lpos) X.env) :: [])) _ _ s
  refine Calls.spliced_cons (thn (h1.run pins s σ H _ I h) fun u1 s1 ⟨v1, H1, I1, r1, q1⟩ => ?_)
  refine Calls.spliced_cons (thn (h2.run pins s1 σ H1 _ I1 q1) fun u2 s2 ⟨v2, H2, I2, r2, q2⟩ => ?_)
  obtain ⟨a, lp, v, pd, rfl, rfl, L, ok, hT, hq⟩ := q2
  have hfree := ndef_free hB
  have hfr := ndef_fr hB
  have has : ∀ y ∈ scope.names, y.2 = .free → ∃ c, X.env.cells.lookup y.1 = some c := fun y hy e => (hfree y hy e).elim (fun z => I2.ok.has _ (.inl z)) fun z => I2.ok.has _ (.inr z)
  refine Calls.spliced_cons (lam_make2 I2 TB hcode hmT hu hT hdef has fun f c' pm ctv H3 s3 I3 eN T3 hf hn hfs hco => ?_)
  refine Calls.spliced_nil ⟨I3.kIn, ?_⟩
  have cp : Caps X (cloFrom X.env.cells scope.names []) fr js := Caps.made I3.ok hfree hfr hjs
  have CA := cells_of I3 cp
  have nf : ∀ y c, (cloFrom X.env.cells scope.names []).lookup y = some c → c ∉ frs X.stack := fun y c e z => by
    have ec := cp.sub y c e
    rcases List.mem_cons.mp (I3.stkSub c z) with z | z
    · exact I3.cne y c ec z
    · have lo := I3.ok.cab y c (hfn y) ec
      obtain ⟨_, o, ho, _⟩ := I3.ok.funs.mem z
      exact absurd (Nat.lt_of_lt_of_le (Heap.lt_size ho) lo) (Nat.lt_irrefl _)
  have CT := callsTo_of (LO c') hf hn hfs CA nf
  have L3 : LineAt C H3 a lp v := by
    obtain ⟨dx, z1⟩ := L.obj
    obtain ⟨ts, z2, z3⟩ := L.lst
    exact ⟨⟨dx, eN _ _ z1 (fun ps z => by cases z)⟩, ⟨ts, eN _ _ z2 (fun ps z => by cases z), ⟨z3.len, fun i t w y1 y2 => eN _ _ (z3.at_ i t w y1 y2) (fun ps z => by cases z)⟩⟩⟩
  refine wpAny_call (codeAny_mono (G X.A X.stack s3 H3 [u1, u2, .ref f] Q a lp f c' _ v pd _ hr I3.env0 (.cons r1 (.cons r2 (.cons rfl .nil))) L3 ok CT hco (hq H3 eN T3)) fun r' s' z => ?_)
  cases r' with
  | error e => exact (show False from z).elim
  | ok fl =>
    cases fl with
    | ret u => exact I3.after z
    | next => exact False.elim z
    | brk => exact False.elim z
    | cont => exact False.elim z
end
end HW
set_option maxHeartbeats 4000000
/-! What an operation on the line promises. -/
namespace HW
open PySem PySem.Spec PyProof.Rows L2 LamX HM
def rowOf (y : Kp396.Ans) : List Int := y.num :: y.nums
abbrev zv (l : List Int) : List V := l.map V.int
/-- the line and the answer behind a call -/
def stepL (v : Kp396.Line) (c : Kp396.Call) : Kp396.Line := (Kp396.step (some v) c).1.getD v
def stepA (v : Kp396.Line) (c : Kp396.Call) : Kp396.Ans := (Kp396.step (some v) c).2
/-- all but the line and the tables stays -/
def FrL (H H' : Hp) (a lp : Addr) : Prop := ∀ b o, H b = some o → (∀ ps, o ≠ .tbl ps) → b ≠ a → b ≠ lp → H' b = some o
theorem FrL.of {H H' : Hp} {a lp : Addr} (s : Same H H') : FrL H H' a lp := fun b o e _ _ _ => s b o e
theorem FrL.ofE {H H' : Hp} {a lp : Addr} (s : ExtN H H') : FrL H H' a lp := fun b o e n _ _ => s b o e n
/-- no list, no instance stood there -/
def Fresh (H : Hp) (r : Addr) : Prop := ∀ u, H r = some u → ∃ ps, u = HO.tbl ps
theorem Fresh.of {H : Hp} {r : Addr} (h : H r = none) : Fresh H r := fun u e => by
  rw [h] at e
  cases e
theorem Fresh.back {H H' : Hp} {r : Addr} (e : ExtN H H') (f : Fresh H' r) : Fresh H r := fun u q => Classical.byContradiction fun n => n (f u (e _ _ q fun ps z => n ⟨ps, z⟩))
/-- what is behind an operation on the line at a -/
structure OpEnd (C : Addr) (T : List (Addr × Str)) (H H' : Hp) (a lp : Addr) (v : Kp396.Line) (c : Kp396.Call) (r : Addr) : Prop where
  line : LineAt C H' a lp (stepL v c)
  fr : FrL H H' a lp
  tabs : Tabs T H'
  ans : H' r = some (.lst (zv (rowOf (stepA v c))))
  fresh : Fresh H r
def spOp (C : Addr) (K : PySem.W.Frag) (T : List (Addr × Str)) (sh : Kp396.Call → List Nat → Prop) : Sp := fun vs H Q _ => ∃ (a lp nl : Addr) (v : Kp396.Line) (ns : List Nat) (c : Kp396.Call), vs = [.ref a, .ref nl] ∧ LineAt C H a lp v ∧ Ok v ∧ SqL K H nl (iv ns) ∧ sh c ns ∧ Tabs T H ∧
  ∀ (H' : Hp) (r : Addr), OpEnd C T H H' a lp v c r → Q (.ref r) H'
theorem LineAt.extN {C : Addr} {H H' : Hp} {a lp : Addr} {v : Kp396.Line} (h : LineAt C H a lp v) (s : ExtN H H') : LineAt C H' a lp v := by
  obtain ⟨dx, h1⟩ := h.obj
  obtain ⟨ts, h2, h3⟩ := h.lst
  exact ⟨⟨dx, s _ _ h1 (fun ps z => by cases z)⟩, ⟨ts, s _ _ h2 (fun ps z => by cases z), ⟨h3.len, fun i t w a b => s _ _ (h3.at_ i t w a b) (fun ps z => by cases z)⟩⟩⟩
/-- nothing is changed -/
theorem OpEnd.same {C : Addr} {T : List (Addr × Str)} {H H' : Hp} {a lp r : Addr} {v : Kp396.Line} {c : Kp396.Call} {row : List Int} (L : LineAt C H a lp v) (hT : Tabs T H) (s : Same H H') (e1 : stepL v c = v) (e2 : rowOf (stepA v c) = row) (h : H' r = some (.lst (zv row))) (hn : H r = none) :
    OpEnd C T H H' a lp v c r := ⟨by rw [e1]; exact L.same s, .of s, hT.ext s, by rw [e2]; exact h, .of hn⟩
theorem zv_one (z : Int) : [V.int z] = zv [z] := rfl
theorem step_rw {v : Kp396.Line} {c : Kp396.Call} {v' : Kp396.Line} {y : Kp396.Ans} (h : Kp396.step (some v) c = (some v', y)) : stepL v c = v' ∧ stepA v c = y := by
  unfold stepL stepA
  rw [h]
  exact ⟨rfl, rfl⟩
/-! ### the pits changed -/
theorem PitsAt.snoc {H : Hp} {ts : List Addr} {ps : List Kp396.Window} {t : Addr} {w : Kp396.Window} (h : PitsAt H ts ps) (ht : H t = some (.tup [.int (w.least : Nat), .int (w.most : Nat)])) : PitsAt H (ts ++ [t]) (ps ++ [w]) := by
  refine ⟨by rw [List.length_append, List.length_append, h.len]; rfl, fun i t' w' a b => ?_⟩
  by_cases hi : i < ts.length
  · rw [List.getElem?_append_left hi] at a
    rw [List.getElem?_append_left (by rw [← h.len]; exact hi)] at b
    exact h.at_ i t' w' a b
  · rw [List.getElem?_append_right (by omega)] at a
    rw [List.getElem?_append_right (by rw [← h.len]; omega)] at b
    have hl := h.len
    rw [← hl] at b
    cases e : i - ts.length with
    | zero =>
      rw [e] at a b
      cases a
      cases b
      exact ht
    | succ n =>
      rw [e] at a
      cases a
theorem PitsAt.erase {H : Hp} {ts : List Addr} {ps : List Kp396.Window} (h : PitsAt H ts ps) (i : Nat) : PitsAt H (ts.eraseIdx i) (ps.eraseIdx i) := by
  refine ⟨by rw [List.length_eraseIdx, List.length_eraseIdx, h.len], fun j t w a b => ?_⟩
  rw [List.getElem?_eraseIdx] at a b
  by_cases c : j < i
  · rw [if_pos c] at a b
    exact h.at_ j t w a b
  · rw [if_neg c] at a b
    exact h.at_ (j + 1) t w a b
theorem PitsAt.set {H : Hp} {ts : List Addr} {ps : List Kp396.Window} {t : Addr} {w : Kp396.Window} (h : PitsAt H ts ps) (i : Nat) (ht : H t = some (.tup [.int (w.least : Nat), .int (w.most : Nat)])) : PitsAt H (ts.set i t) (ps.set i w) := by
  refine ⟨by rw [List.length_set, List.length_set, h.len], fun j t' w' a b => ?_⟩
  by_cases c : i = j
  · subst c
    have hi : i < ts.length := by
      have := (List.getElem?_eq_some_iff.mp a).1
      rw [List.length_set] at this
      exact this
    rw [List.getElem?_set_self hi] at a
    rw [List.getElem?_set_self (by rw [← h.len]; exact hi)] at b
    cases a
    cases b
    exact ht
  · rw [List.getElem?_set_ne c] at a b
    exact h.at_ j t' w' a b
theorem seq_nat {n i : Nat} (h : i < n) : seqIndex? (i : Int) n = some i := by
  have e : ixN n (i : Int) = some i := by
    unfold ixN
    rw [if_pos (by omega), if_pos (by omega)]
    simp
  exact (ixN_seq e).1
theorem ixn_nat {n i : Nat} (h : i < n) : ixN n (i : Int) = some i := by
  unfold ixN
  rw [if_pos (by omega), if_pos (by omega)]
  simp
/-- two numbers handed in -/
def sh2 (mk : Nat → Nat → Kp396.Call) : Kp396.Call → List Nat → Prop := fun c ns => ∃ a b, c = mk a b ∧ ns = [a, b]
def sh1 (mk : Nat → Kp396.Call) : Kp396.Call → List Nat → Prop := fun c ns => ∃ a, c = mk a ∧ ns = [a]
def sh3 (mk : Nat → Nat → Nat → Kp396.Call) : Kp396.Call → List Nat → Prop := fun c ns => ∃ a b d, c = mk a b d ∧ ns = [a, b, d]
def sh0 (k : Kp396.Call) : Kp396.Call → List Nat → Prop := fun c ns => c = k ∧ ns = []
def shP (mk : Nat → List Nat → Kp396.Call) : Kp396.Call → List Nat → Prop := fun c ns => ∃ a l, c = mk a l ∧ ns = a :: l ∧ l.length ≤ 6
theorem bool_ff {a b : Bool} (h : a = true ↔ b = true) (ha : a = false) : b = false := by
  cases b with
  | false => rfl
  | true => exact absurd (ha ▸ h.mpr rfl) Bool.false_ne_true
end HW
namespace HW
open PySem PySem.Spec PyProof.Rows L2 LamX HM
/-- the tables stay where no list, no instance of theirs is written -/
theorem tabs_keep {T : List (Addr × Str)} {H H' : Hp} (h : Tabs T H) (s : ∀ b o, H b = some o → (∀ xs, o ≠ .lst xs) → (∀ C dx fs, o ≠ .ins C dx fs) → H' b = some o) : Tabs T H' := fun p hp => by
  obtain ⟨ps, h1, h2, h3⟩ := h p hp
  refine ⟨ps, s _ _ h1 (fun xs z => by cases z) (fun C dx fs z => by cases z), h2, fun pos cv hc => ?_⟩
  obtain ⟨c, e1, e2⟩ := h3 pos cv hc
  refine ⟨c, e1, s _ _ e2 (fun xs z => ?_) (fun C dx fs z => ?_)⟩
  · unfold CodeO at z
    cases z
  · unfold CodeO at z
    cases z
end HW
set_option maxHeartbeats 4000000
/-! The operations that change the line. -/
namespace HW
open PySem PySem.Spec PyProof.Rows L2 LamX HM
abbrev sAdd : Stmt := topS 44
abbrev sRem : Stmt := topS 45
abbrev sSW : Stmt := topS 46
abbrev sSS : Stmt := topS 47
abbrev sGP : Stmt := topS 48
theorem st_add (v : Kp396.Line) (a b : Nat) : Kp396.step (some v) (.addPit a b) = if Kp396.validWindow a b = false then (some v, Kp396.single (-22)) else if Kp396.maxPits ≤ v.pits.length then (some v, Kp396.single (-28)) else (some { v with pits := v.pits ++ [⟨a, b⟩] }, Kp396.single (v.pits.length : Nat)) := rfl
theorem st_rem (v : Kp396.Line) (i : Nat) : Kp396.step (some v) (.removePit i) = if Kp396.isPit v i then (some { v with pits := v.pits.eraseIdx i }, Kp396.single (v.pits.length - 1 : Nat)) else (some v, Kp396.single (-2)) := rfl
theorem st_sw (v : Kp396.Line) (i a b : Nat) : Kp396.step (some v) (.setWindow i a b) = if Kp396.isPit v i = false then (some v, Kp396.single (-2)) else if Kp396.validWindow a b then (some (Kp396.withWindow v i a b), Kp396.natResult 0 [(Kp396.windowAt v i).least, (Kp396.windowAt v i).most]) else (some v, Kp396.single (-22)) := rfl
theorem st_ss (v : Kp396.Line) (m e : Nat) : Kp396.step (some v) (.setSpeed m e) = if Kp396.validSpeed m e then (some { v with moveTime := m, emptyTime := e }, Kp396.natResult 0 [v.moveTime, v.emptyTime]) else (some v, Kp396.single (-22)) := rfl
theorem st_gp (v : Kp396.Line) (i : Nat) : Kp396.step (some v) (.getPit i) = (some v, if Kp396.isPit v i then Kp396.natResult (Kp396.windowAt v i).least [(Kp396.windowAt v i).most] else Kp396.single (-2)) := rfl
theorem map_erase {α β : Type} (f : α → β) : ∀ (l : List α) (i : Nat), (l.map f).eraseIdx i = (l.eraseIdx i).map f
  | [], _ => rfl
  | _ :: _, 0 => rfl
  | a :: l, i + 1 => congrArg (List.cons (f a)) (map_erase f l i)
theorem pit_ff {v : Kp396.Line} {i : Nat} {r : Bool} (h : r = true ↔ i < v.pits.length) (e : r = false) : Kp396.isPit v i = false := by
  unfold Kp396.isPit
  rw [decide_eq_false_iff_not]
  intro z
  rw [e] at h
  exact Bool.false_ne_true (h.mpr z)
theorem pit_tt {v : Kp396.Line} {i : Nat} (h : i < v.pits.length) : Kp396.isPit v i = true := decide_eq_true h
theorem window_at {v : Kp396.Line} {i : Nat} (h : i < v.pits.length) : v.pits[i]? = some (Kp396.windowAt v i) := by
  rw [List.getElem?_eq_getElem h]
  unfold Kp396.windowAt
  rw [List.getD_eq_getElem?_getD, List.getElem?_eq_getElem h]
  rfl
section
variable {P : Program} {w : World} {K : PySem.W.Frag} {mg : Str → Option Value} {base : Heap} {C CS : Addr} {T5 : List (Addr × Str)}
theorem scAdd : FnScope ["line", "numbers", "least", "most"] ["line", "numbers"] (defScope sAdd) := ⟨rfl, rfl, rfl, by decide +kernel, rfl, by decide +kernel, by decide +kernel⟩
theorem ok_add {f : Addr} {fd : FuncData} (F : Fun K "add_pit" "add_pit" sAdd f fd) (T : Txt K mg C CS) (IW : Def P w K mg base 1 "is_window" ["least", "most"] (spTest2 Kp396.validWindow)) : FnOk P w K mg base CX0 2 f fd ["line", "numbers"] (spOp C K T5 (sh2 .addPit)) := by
  refine F.ok scAdd (fun vs H Q E h => ?_) (fun cdv A outer s H vs Q E hr h => ?_)
  · obtain ⟨a, lp, nl, v, ns, c, rfl, _⟩ := h
    rfl
  · obtain ⟨a, lp, nl, v, _, _, rfl, L, ok, hN, ⟨x, y, rfl, rfl⟩, hT, k⟩ := h
    obtain ⟨dx, ha⟩ := L.obj
    obtain ⟨ts, hl, hps⟩ := L.lst
    have n4 := ok.n4
    refine ⟨_, pss_cons (ps_asg (pv 1) (pg_unl (by rfl) (pgs_cons (pg_name (i := 2) scAdd.nd rfl (.inl rfl)) (pgs_cons (pg_name (i := 3) scAdd.nd rfl (.inl rfl)) pgs_nil))))
      (pss_cons (ps_if (pt_not (pt_val (pe_def IW hr rfl (pa_cons (pv 2) (pa_cons (pv 3) pa_nil))))) (pss_one (ps_ret (pe_lst (pa_cons (pe_const T.cOut) pa_nil)))) pss_nil)
      (pss_cons (ps_if (pt_cmpR op_eq (pe_callB call_len_seq rfl T.len PySem.boot_len (pa_cons (pe_fld (pv 0) rfl) pa_nil)) (pe_const T.gPits) (nomark _)) (pss_one (ps_ret (pe_lst (pa_cons (pe_const T.cMany) pa_nil)))) pss_nil)
      (pss_cons (ps_expr (pe_bm PySem.F.plainAttrs_list PySem.F.slot_list_append PySem.F.type_list_append mt_append (pe_fld (pv 0) rfl) (pa_cons (pe_tup (pa_cons (pv 2) (pa_cons (pv 3) pa_nil))) pa_nil)))
      (pss_one (ps_ret (pe_lst (pa_cons (pe_op op_sub (pe_callB call_len_seq rfl T.len PySem.boot_len (pa_cons (pe_fld (pv 0) rfl) pa_nil)) pe_int) pa_nil))))))), ?_⟩
    refine ⟨_, rfl, nl, _, rfl, hN, rfl, _, _, rfl, _, _, rfl, rfl, ?_⟩
    refine ⟨_, rfl, _, rfl, x, y, rfl, fun r hr1 => ⟨_, rfl, ?_⟩⟩
    have es := st_add v x y
    cases r with
    | false =>
      have ev := bool_ff hr1 rfl
      rw [if_pos ev] at es
      obtain ⟨e1, e2⟩ := step_rw es
      exact iteT ⟨(by show 1 ≤ sizeLine; decide), fun z hz => k _ z (.same L hT (same_upd hz) e1 (congrArg rowOf e2) upd_same hz)⟩
    | true =>
      have ev := hr1.mp rfl
      rw [if_neg (by rw [ev]; exact Bool.true_eq_false.mp)] at es
      refine iteF ⟨_, rfl, a, C, dx, _, _, rfl, ha, T.cl, T.nP, lF_pits, lp, _, rfl, .inl (SqL.of hl), rfl, _, rfl, ite2 (fun h1 => ?_) (fun h1 => ?_)⟩
      · have h1 := of_decide_eq_true h1
        have h1 : ((ts.map V.ref).length : Int) = 4 := V.int.inj h1
        rw [List.length_map, hps.len] at h1
        rw [if_pos (show Kp396.maxPits ≤ v.pits.length by unfold Kp396.maxPits; omega)] at es
        obtain ⟨e1, e2⟩ := step_rw es
        exact ⟨(by show 1 ≤ sizeLine; decide), fun z hz => k _ z (.same L hT (same_upd hz) e1 (congrArg rowOf e2) upd_same hz)⟩
      · have h1 : ¬ _ := fun z => h1 (decide_eq_true z)
        have hlt : v.pits.length < 4 := by
          have z : ¬ ((ts.map V.ref).length : Int) = 4 := fun q => h1 (congrArg V.int q)
          rw [List.length_map, hps.len] at z
          omega
        rw [if_neg (show ¬ Kp396.maxPits ≤ v.pits.length by unfold Kp396.maxPits; omega)] at es
        obtain ⟨e1, e2⟩ := step_rw es
        refine ⟨_, rfl, a, C, dx, _, _, rfl, ha, T.cl, T.nP, lF_pits, .inl ⟨rfl, _, SqL.of hl⟩, _, rfl, _, rfl, (by show 2 ≤ sizeLine; decide), fun t ht => ?_⟩
        have s1 : Same H (upd H t (.tup [.int (x : Nat), .int (y : Nat)])) := same_upd ht
        refine ⟨lp, _, _, rfl, rfl, s1 _ _ hl, (by rw [List.length_map, hps.len]; exact smallT n4), ?_⟩
        have nal : a ≠ lp := ne_of ha hl (by intro z; cases z)
        have ntl : t ≠ lp := (ne_of_none hl ht).symm
        have nat_ : a ≠ t := ne_of_none ha ht
        refine ⟨_, rfl, a, C, dx, _, _, rfl, (upd_ne nal).trans (s1 _ _ ha), T.cl, T.nP, lF_pits, lp, _, rfl, .inl (SqL.of upd_same), _, _, rfl, rfl, (by show 1 ≤ sizeLine; decide), fun z hz => ?_⟩
        have hz1 := same_upd (o := .lst [V.int (((ts.map V.ref ++ [V.ref t]).length : Int) - 1)]) hz
        refine k _ z ⟨?_, fun b o e n h1 h2 => hz1 _ _ ((upd_ne h2).trans (s1 _ _ e)), tabs_keep hT ?_, ?_, .of (s1.free (NdefX.upd_none hz))⟩
        · rw [e1]
          refine ⟨⟨dx, hz1 _ _ ((upd_ne nal).trans (s1 _ _ ha))⟩, ⟨ts ++ [t], (hz1 _ _ upd_same).trans (by rw [List.map_append]; rfl), ?_⟩⟩
          have q0 : PitsAt (upd H t (.tup [.int (x : Nat), .int (y : Nat)])) (ts ++ [t]) (v.pits ++ [⟨x, y⟩]) := (hps.same s1).snoc upd_same
          exact ⟨q0.len, fun i t' w' c1 c2 => hz1 _ _ ((upd_ne (ne_of (q0.at_ i t' w' c1 c2) (s1 _ _ hl) (by intro z; cases z))).trans (q0.at_ i t' w' c1 c2))⟩
        · intro b o e n _
          refine hz1 _ _ ((upd_ne ?_).trans (s1 _ _ e))
          intro q
          rw [q, hl] at e
          exact n _ (Option.some.inj e).symm
        · refine upd_same.trans (congrArg (fun z => some (HO.lst z)) ?_)
          rw [e2]
          show [V.int (((ts.map V.ref ++ [V.ref t]).length : Int) - 1)] = [V.int ((v.pits.length : Nat) : Int)]
          rw [List.length_append, List.length_map, hps.len]
          congr 2
          show ((v.pits.length + 1 : Nat) : Int) - 1 = _
          omega
theorem scRem : FnScope ["line", "numbers", "pit"] ["line", "numbers"] (defScope sRem) := ⟨rfl, rfl, rfl, by decide +kernel, rfl, by decide +kernel, by decide +kernel⟩
theorem ok_rem {f : Addr} {fd : FuncData} (F : Fun K "remove_pit" "remove_pit" sRem f fd) (T : Txt K mg C CS) (HP : MDef P w K mg base C 1 "has_pit" ["self", "pit"] (spHas C)) : FnOk P w K mg base CX0 2 f fd ["line", "numbers"] (spOp C K T5 (sh1 .removePit)) := by
  refine F.ok scRem (fun vs H Q E h => ?_) (fun cdv A outer s H vs Q E hr h => ?_)
  · obtain ⟨a, lp, nl, v, ns, c, rfl, _⟩ := h
    rfl
  · obtain ⟨a, lp, nl, v, _, _, rfl, L, ok, hN, ⟨i, rfl, rfl⟩, hT, k⟩ := h
    obtain ⟨dx, ha⟩ := L.obj
    obtain ⟨ts, hl, hps⟩ := L.lst
    have n4 := ok.n4
    refine ⟨_, pss_cons (ps_set (i := 2) scRem.nd rfl (.inl rfl) (pe_ix ix_list (pv 1) pe_int (fun _ _ => rfl)))
      (pss_cons (ps_if (pt_not (pt_val (pe_mdef HP hr T.cl (pv 0) (pa_cons (pv 2) pa_nil)))) (pss_one (ps_ret (pe_lst (pa_cons (pe_const T.cPit) pa_nil)))) pss_nil)
      (pss_cons (ps_expr (pe_bm PySem.F.plainAttrs_list PySem.F.slot_list_pop PySem.F.type_list_pop mt_popAt (pe_fld (pv 0) rfl) (pa_cons (pv 2) pa_nil)))
      (pss_one (ps_ret (pe_lst (pa_cons (pe_callB call_len_seq rfl T.len PySem.boot_len (pa_cons (pe_fld (pv 0) rfl) pa_nil)) pa_nil)))))), ?_⟩
    have no : (lF lp (v.moveTime : Nat) (v.emptyTime : Nat)).lookup ("has_pit" : Str) = none := lF_no (by decide +kernel) (by decide +kernel) (by decide +kernel)
    refine ⟨_, rfl, nl, _, _, _, rfl, rfl, hN, atI_nat (j := 0) rfl, ?_⟩
    refine ⟨_, rfl, a, dx, _, rfl, ha, no, _, rfl, a, lp, v, i, rfl, L, n4, fun r hr1 => ⟨_, rfl, ?_⟩⟩
    have es := st_rem v i
    cases r with
    | false =>
      have ev := pit_ff hr1 rfl
      rw [ev, if_neg Bool.false_ne_true] at es
      obtain ⟨e1, e2⟩ := step_rw es
      exact iteT ⟨(by show 1 ≤ sizeLine; decide), fun z hz => k _ z (.same L hT (same_upd hz) e1 (congrArg rowOf e2) upd_same hz)⟩
    | true =>
      have hi := hr1.mp rfl
      rw [pit_tt hi, if_pos rfl] at es
      obtain ⟨e1, e2⟩ := step_rw es
      have hil : i < (ts.map V.ref).length := by rw [List.length_map, hps.len]; exact hi
      refine iteF ⟨_, rfl, a, C, dx, _, _, rfl, ha, T.cl, T.nP, lF_pits, .inl ⟨rfl, _, SqL.of hl⟩, _, rfl, lp, _, _, i, _, rfl, rfl, hl, by omega, by omega, seq_nat hil, List.getElem?_eq_getElem hil, ?_⟩
      have nal : a ≠ lp := ne_of ha hl (by intro z; cases z)
      refine ⟨_, rfl, a, C, dx, _, _, rfl, (upd_ne nal).trans ha, T.cl, T.nP, lF_pits, lp, _, rfl, .inl (SqL.of upd_same), (by show 1 ≤ sizeLine; decide), fun z hz => ?_⟩
      have hz1 := same_upd (o := .lst [V.int (((ts.map V.ref).eraseIdx i).length : Int)]) hz
      refine k _ z ⟨?_, fun b o e n h1 h2 => hz1 _ _ ((upd_ne h2).trans e), tabs_keep hT ?_, ?_, .of (NdefX.upd_none hz)⟩
      · rw [e1]
        refine ⟨⟨dx, hz1 _ _ ((upd_ne nal).trans ha)⟩, ⟨ts.eraseIdx i, (hz1 _ _ upd_same).trans (by rw [map_erase]), ?_⟩⟩
        have q0 := hps.erase i
        exact ⟨q0.len, fun i t' w' c1 c2 => hz1 _ _ ((upd_ne (ne_of (q0.at_ i t' w' c1 c2) hl (by intro z; cases z))).trans (q0.at_ i t' w' c1 c2))⟩
      · intro b o e n _
        refine hz1 _ _ ((upd_ne ?_).trans e)
        intro q
        rw [q, hl] at e
        exact n _ (Option.some.inj e).symm
      · refine upd_same.trans (congrArg (fun z => some (HO.lst z)) ?_)
        rw [e2]
        show [V.int (((ts.map V.ref).eraseIdx i).length : Int)] = [V.int ((v.pits.length - 1 : Nat) : Int)]
        rw [List.length_eraseIdx, if_pos hil, List.length_map, hps.len]
theorem scSW : FnScope ["line", "numbers", "pit", "least", "most", "old_least", "old_most"] ["line", "numbers"] (defScope sSW) := ⟨rfl, rfl, rfl, by decide +kernel, rfl, by decide +kernel, by decide +kernel⟩
theorem ok_sw {f : Addr} {fd : FuncData} (F : Fun K "set_window" "set_window" sSW f fd) (T : Txt K mg C CS) (HP : MDef P w K mg base C 1 "has_pit" ["self", "pit"] (spHas C)) (IW : Def P w K mg base 1 "is_window" ["least", "most"] (spTest2 Kp396.validWindow)) :
    FnOk P w K mg base CX0 2 f fd ["line", "numbers"] (spOp C K T5 (sh3 .setWindow)) := by
  refine F.ok scSW (fun vs H Q E h => ?_) (fun cdv A outer s H vs Q E hr h => ?_)
  · obtain ⟨a, lp, nl, v, ns, c, rfl, _⟩ := h
    rfl
  · obtain ⟨a, lp, nl, v, _, _, rfl, L, ok, hN, ⟨i, x, y, rfl, rfl⟩, hT, k⟩ := h
    obtain ⟨dx, ha⟩ := L.obj
    obtain ⟨ts, hl, hps⟩ := L.lst
    have n4 := ok.n4
    refine ⟨_, pss_cons (ps_asg (pv 1) (pg_unl (by rfl) (pgs_cons (pg_name (i := 2) scSW.nd rfl (.inl rfl)) (pgs_cons (pg_name (i := 3) scSW.nd rfl (.inl rfl)) (pgs_cons (pg_name (i := 4) scSW.nd rfl (.inl rfl)) pgs_nil)))))
      (pss_cons (ps_if (pt_not (pt_val (pe_mdef HP hr T.cl (pv 0) (pa_cons (pv 2) pa_nil)))) (pss_one (ps_ret (pe_lst (pa_cons (pe_const T.cPit) pa_nil)))) pss_nil)
      (pss_cons (ps_if (pt_not (pt_val (pe_def IW hr rfl (pa_cons (pv 3) (pa_cons (pv 4) pa_nil))))) (pss_one (ps_ret (pe_lst (pa_cons (pe_const T.cOut) pa_nil)))) pss_nil)
      (pss_cons (ps_asg (pe_ix ix_list (pe_fld (pv 0) rfl) (pv 2) (fun _ _ => rfl)) (pg_tup (by rfl) (pgs_cons (pg_name (i := 5) scSW.nd rfl (.inl rfl)) (pgs_cons (pg_name (i := 6) scSW.nd rfl (.inl rfl)) pgs_nil))))
      (pss_cons (ps_asg (pe_tup (pa_cons (pv 3) (pa_cons (pv 4) pa_nil))) (pg_sub (pe_fld (pv 0) rfl) (pv 2) set_list))
      (pss_one (ps_ret (pe_lst (pa_cons pe_int (pa_cons (pv 5) (pa_cons (pv 6) pa_nil)))))))))), ?_⟩
    have no : (lF lp (v.moveTime : Nat) (v.emptyTime : Nat)).lookup ("has_pit" : Str) = none := lF_no (by decide +kernel) (by decide +kernel) (by decide +kernel)
    refine ⟨_, rfl, nl, _, rfl, hN, rfl, _, _, rfl, _, _, rfl, _, _, rfl, rfl, ?_⟩
    refine ⟨_, rfl, a, dx, _, rfl, ha, no, _, rfl, a, lp, v, i, rfl, L, n4, fun r hr1 => ⟨_, rfl, ?_⟩⟩
    have es := st_sw v i x y
    cases r with
    | false =>
      have ev := pit_ff hr1 rfl
      rw [if_pos ev] at es
      obtain ⟨e1, e2⟩ := step_rw es
      exact iteT ⟨(by show 1 ≤ sizeLine; decide), fun z hz => k _ z (.same L hT (same_upd hz) e1 (congrArg rowOf e2) upd_same hz)⟩
    | true =>
      have hi := hr1.mp rfl
      rw [if_neg (by rw [pit_tt hi]; exact Bool.true_eq_false.mp)] at es
      refine iteF ⟨_, rfl, _, rfl, x, y, rfl, fun r2 hr2 => ⟨_, rfl, ?_⟩⟩
      cases r2 with
      | false =>
        have ev := bool_ff hr2 rfl
        rw [ev, if_neg Bool.false_ne_true] at es
        obtain ⟨e1, e2⟩ := step_rw es
        exact iteT ⟨(by show 1 ≤ sizeLine; decide), fun z hz => k _ z (.same L hT (same_upd hz) e1 (congrArg rowOf e2) upd_same hz)⟩
      | true =>
        rw [hr2.mp rfl, if_pos rfl] at es
        obtain ⟨e1, e2⟩ := step_rw es
        have hil : i < ts.length := by rw [hps.len]; exact hi
        have ht : ts[i]? = some ts[i] := List.getElem?_eq_getElem hil
        have htup := hps.at_ _ _ _ ht (window_at hi)
        have htr : (ts.map V.ref)[i]? = some (.ref ts[i]) := by rw [List.getElem?_map, ht]; rfl
        refine iteF ⟨_, rfl, a, C, dx, _, _, rfl, ha, T.cl, T.nP, lF_pits, _, rfl, lp, _, _, _, rfl, rfl, SqL.of hl, atI_nat htr, ?_⟩
        refine ⟨_, _, rfl, .inl (.inl htup), rfl, _, _, rfl, _, _, rfl, rfl, ?_⟩
        refine ⟨_, rfl, _, rfl, (by show 2 ≤ sizeLine; decide), fun t ht => ?_⟩
        have s1 : Same H (upd H t (.tup [.int (x : Nat), .int (y : Nat)])) := same_upd ht
        have nal : a ≠ lp := ne_of ha hl (by intro z; cases z)
        refine ⟨_, rfl, a, C, dx, _, _, rfl, s1 _ _ ha, T.cl, T.nP, lF_pits, _, rfl, lp, _, _, i, rfl, rfl, s1 _ _ hl, ixn_nat (by rw [List.length_map]; exact hil), ?_⟩
        refine ⟨_, rfl, _, rfl, (by show 3 ≤ sizeLine; decide), fun z hz => ?_⟩
        have hz1 := same_upd (o := .lst [V.int 0, .int ((Kp396.windowAt v i).least : Nat), .int ((Kp396.windowAt v i).most : Nat)]) hz
        refine k _ z ⟨?_, fun b o e n h1 h2 => hz1 _ _ ((upd_ne h2).trans (s1 _ _ e)), tabs_keep hT ?_, ?_, .of (s1.free (NdefX.upd_none hz))⟩
        · rw [e1]
          refine ⟨⟨dx, hz1 _ _ ((upd_ne nal).trans (s1 _ _ ha))⟩, ⟨ts.set i t, (hz1 _ _ upd_same).trans (by rw [List.map_set]), ?_⟩⟩
          have q0 : PitsAt (upd H t (.tup [.int (x : Nat), .int (y : Nat)])) (ts.set i t) (v.pits.set i ⟨x, y⟩) := (hps.same s1).set i upd_same
          exact ⟨q0.len, fun i t' w' c1 c2 => hz1 _ _ ((upd_ne (ne_of (q0.at_ i t' w' c1 c2) (s1 _ _ hl) (by intro z; cases z))).trans (q0.at_ i t' w' c1 c2))⟩
        · intro b o e n _
          refine hz1 _ _ ((upd_ne ?_).trans (s1 _ _ e))
          intro q
          rw [q, hl] at e
          exact n _ (Option.some.inj e).symm
        · refine upd_same.trans (congrArg (fun z => some (HO.lst z)) ?_)
          rw [e2]
          rfl
theorem scSS : FnScope ["line", "numbers", "move_time", "empty_time", "answer"] ["line", "numbers"] (defScope sSS) := ⟨rfl, rfl, rfl, by decide +kernel, rfl, by decide +kernel, by decide +kernel⟩
theorem ok_ss {f : Addr} {fd : FuncData} (F : Fun K "set_speed" "set_speed" sSS f fd) (T : Txt K mg C CS) (IS : Def P w K mg base 1 "is_speed" ["move_time", "empty_time"] (spTest2 Kp396.validSpeed)) : FnOk P w K mg base CX0 2 f fd ["line", "numbers"] (spOp C K T5 (sh2 .setSpeed)) := by
  refine F.ok scSS (fun vs H Q E h => ?_) (fun cdv A outer s H vs Q E hr h => ?_)
  · obtain ⟨a, lp, nl, v, ns, c, rfl, _⟩ := h
    rfl
  · obtain ⟨a, lp, nl, v, _, _, rfl, L, ok, hN, ⟨x, y, rfl, rfl⟩, hT, k⟩ := h
    obtain ⟨dx, ha⟩ := L.obj
    obtain ⟨ts, hl, hps⟩ := L.lst
    refine ⟨_, pss_cons (ps_asg (pv 1) (pg_unl (by rfl) (pgs_cons (pg_name (i := 2) scSS.nd rfl (.inl rfl)) (pgs_cons (pg_name (i := 3) scSS.nd rfl (.inl rfl)) pgs_nil))))
      (pss_cons (ps_if (pt_not (pt_val (pe_def IS hr rfl (pa_cons (pv 2) (pa_cons (pv 3) pa_nil))))) (pss_one (ps_ret (pe_lst (pa_cons (pe_const T.cOut) pa_nil)))) pss_nil)
      (pss_cons (ps_set (i := 4) scSS.nd rfl (.inl rfl) (pe_lst (pa_cons pe_int (pa_cons (pe_fld (pv 0) rfl) (pa_cons (pe_fld (pv 0) rfl) pa_nil)))))
      (pss_cons (ps_fld (pv 0) (pv 2) rfl) (pss_cons (ps_fld (pv 0) (pv 3) rfl) (pss_one (ps_ret (pv 4))))))), ?_⟩
    refine ⟨_, rfl, nl, _, rfl, hN, rfl, _, _, rfl, _, _, rfl, rfl, ?_⟩
    refine ⟨_, rfl, _, rfl, x, y, rfl, fun r hr1 => ⟨_, rfl, ?_⟩⟩
    have es := st_ss v x y
    cases r with
    | false =>
      have ev := bool_ff hr1 rfl
      rw [ev, if_neg Bool.false_ne_true] at es
      obtain ⟨e1, e2⟩ := step_rw es
      exact iteT ⟨(by show 1 ≤ sizeLine; decide), fun z hz => k _ z (.same L hT (same_upd hz) e1 (congrArg rowOf e2) upd_same hz)⟩
    | true =>
      rw [hr1.mp rfl, if_pos rfl] at es
      obtain ⟨e1, e2⟩ := step_rw es
      refine iteF ⟨_, rfl, a, C, dx, _, _, rfl, ha, T.cl, T.nM, lF_m, _, rfl, a, C, dx, _, _, rfl, ha, T.cl, T.nE, lF_e, (by show 3 ≤ sizeLine; decide), fun z hz => ?_⟩
      have s1 : Same H (upd H z (.lst [V.int 0, .int (v.moveTime : Nat), .int (v.emptyTime : Nat)])) := same_upd hz
      refine ⟨_, rfl, _, rfl, a, C, dx, _, rfl, s1 _ _ ha, T.cl, T.nM, (by show 3 < 1000; decide), ?_⟩
      refine ⟨_, rfl, _, rfl, a, C, dx, _, rfl, upd_same, T.cl, T.nE, (by rw [lF_putm]; show 3 < 1000; decide), ?_⟩
      have naz : z ≠ a := (ne_of_none ha hz).symm
      have nla : lp ≠ a := ne_of hl ha (by intro z; cases z)
      refine ⟨_, rfl, k _ z ⟨?_, fun b o e n h1 h2 => (upd_ne h1).trans ((upd_ne h1).trans (s1 _ _ e)), tabs_keep hT ?_, ?_, .of hz⟩⟩
      · rw [e1]
        refine ⟨⟨dx, upd_same.trans (by rw [lF_putm, lF_pute])⟩, ⟨ts, (upd_ne nla).trans ((upd_ne nla).trans (s1 _ _ hl)), hps.len, fun i t w c1 c2 => ?_⟩⟩
        have q := hps.at_ i t w c1 c2
        have nta : t ≠ a := ne_of q ha (by intro z; cases z)
        exact (upd_ne nta).trans ((upd_ne nta).trans (s1 _ _ q))
      · intro b o e _ n
        have nb : b ≠ a := by
          intro q
          rw [q, ha] at e
          exact n _ _ _ (Option.some.inj e).symm
        exact (upd_ne nb).trans ((upd_ne nb).trans (s1 _ _ e))
      · refine (upd_ne naz).trans ((upd_ne naz).trans (upd_same.trans (congrArg (fun z => some (HO.lst z)) ?_)))
        rw [e2]
        rfl
theorem scGP : FnScope ["line", "numbers", "pit"] ["line", "numbers"] (defScope sGP) := ⟨rfl, rfl, rfl, by decide +kernel, rfl, by decide +kernel, by decide +kernel⟩
theorem ok_gp {f : Addr} {fd : FuncData} (F : Fun K "get_pit" "get_pit" sGP f fd) (T : Txt K mg C CS) (HP : MDef P w K mg base C 1 "has_pit" ["self", "pit"] (spHas C)) : FnOk P w K mg base CX0 2 f fd ["line", "numbers"] (spOp C K T5 (sh1 .getPit)) := by
  refine F.ok scGP (fun vs H Q E h => ?_) (fun cdv A outer s H vs Q E hr h => ?_)
  · obtain ⟨a, lp, nl, v, ns, c, rfl, _⟩ := h
    rfl
  · obtain ⟨a, lp, nl, v, _, _, rfl, L, ok, hN, ⟨i, rfl, rfl⟩, hT, k⟩ := h
    obtain ⟨dx, ha⟩ := L.obj
    obtain ⟨ts, hl, hps⟩ := L.lst
    have n4 := ok.n4
    refine ⟨_, pss_cons (ps_set (i := 2) scGP.nd rfl (.inl rfl) (pe_ix ix_list (pv 1) pe_int (fun _ _ => rfl)))
      (pss_cons (ps_if (pt_not (pt_val (pe_mdef HP hr T.cl (pv 0) (pa_cons (pv 2) pa_nil)))) (pss_one (ps_ret (pe_lst (pa_cons (pe_const T.cPit) pa_nil)))) pss_nil)
      (pss_one (ps_ret (pe_callTy call_list_of rfl T.list (by decide +kernel) (pa_cons (pe_ix ix_list (pe_fld (pv 0) rfl) (pv 2) (fun _ _ => rfl)) pa_nil))))), ?_⟩
    have no : (lF lp (v.moveTime : Nat) (v.emptyTime : Nat)).lookup ("has_pit" : Str) = none := lF_no (by decide +kernel) (by decide +kernel) (by decide +kernel)
    refine ⟨_, rfl, nl, _, _, _, rfl, rfl, hN, atI_nat (j := 0) rfl, ?_⟩
    refine ⟨_, rfl, a, dx, _, rfl, ha, no, _, rfl, a, lp, v, i, rfl, L, n4, fun r hr1 => ⟨_, rfl, ?_⟩⟩
    have es := st_gp v i
    cases r with
    | false =>
      have ev := pit_ff hr1 rfl
      rw [ev, if_neg Bool.false_ne_true] at es
      obtain ⟨e1, e2⟩ := step_rw es
      exact iteT ⟨(by show 1 ≤ sizeLine; decide), fun z hz => k _ z (.same L hT (same_upd hz) e1 (congrArg rowOf e2) upd_same hz)⟩
    | true =>
      have hi := hr1.mp rfl
      rw [pit_tt hi, if_pos rfl] at es
      obtain ⟨e1, e2⟩ := step_rw es
      have hil : i < ts.length := by rw [hps.len]; exact hi
      have ht : ts[i]? = some ts[i] := List.getElem?_eq_getElem hil
      have htup := hps.at_ _ _ _ ht (window_at hi)
      have htr : (ts.map V.ref)[i]? = some (.ref ts[i]) := by rw [List.getElem?_map, ht]; rfl
      refine iteF ⟨_, rfl, a, C, dx, _, _, rfl, ha, T.cl, T.nP, lF_pits, _, rfl, lp, _, _, _, rfl, rfl, SqL.of hl, atI_nat htr, _, _, rfl, .inr (.inl (.inl htup)), fun z hz => ?_⟩
      exact k _ z (.same L hT (same_upd hz) e1 (congrArg rowOf e2) upd_same hz)
end
end HW
set_option maxHeartbeats 4000000
/-! The operations that ask. -/
namespace HW
open PySem PySem.Spec PyProof.Rows L2 LamX HM
abbrev sShort : Stmt := topS 49
abbrev sAOP : Stmt := topS 53
abbrev sJF : Stmt := topS 54
abbrev sIF : Stmt := topS 55
abbrev sJC : Stmt := topS 56
abbrev sFCo : Stmt := topS 57
abbrev sPC : Stmt := topS 58
abbrev sFPs : Stmt := topS 65
abbrev sSta : Stmt := topS 66
theorem st_short (v : Kp396.Line) : Kp396.step (some v) .shortestPeriod = (some v, Kp396.periodResult v) := rfl
theorem st_feas (v : Kp396.Line) : Kp396.step (some v) .feasiblePeriods = (some v, Kp396.listResult (feasP v)) := rfl
theorem st_status (v : Kp396.Line) : Kp396.step (some v) .status = (some v, Kp396.natResult v.pits.length [v.moveTime, v.emptyTime, Kp396.periodBound v]) := rfl
theorem st_pc (v : Kp396.Line) (t : Nat) : Kp396.step (some v) (.planCount t) = (some v, if Kp396.validPeriod t then Kp396.single ((Kp396.feasiblePlans v t).length : Nat) else Kp396.single (-22)) := rfl
theorem st_if (v : Kp396.Line) (t : Nat) (l : List Nat) : Kp396.step (some v) (.isFeasible t l) = (some v, if Kp396.validPeriod t && Kp396.validPlan v l then Kp396.boolResult (Kp396.isFeasible v t l) else Kp396.single (-22)) := rfl
theorem st_fc (v : Kp396.Line) (t : Nat) (l : List Nat) : Kp396.step (some v) (.firstConflict t l) = (some v, if Kp396.validPeriod t && Kp396.validPlan v l then (match Kp396.firstConflict v t l with
    | none => Kp396.single (-33)
    | some x => Kp396.natResult x.1 [x.2]) else Kp396.single (-22)) := rfl
theorem plan_iff (v : Kp396.Line) (l : List Nat) : Kp396.validPlan v l = true ↔ l.length = v.pits.length ∧ ∀ x ∈ l, x ≤ 99 := by
  unfold Kp396.validPlan Kp396.maxPeriod
  simp only [Bool.and_eq_true, decide_eq_true_eq, List.all_eq_true]
theorem list_row (l : List Nat) : zv (rowOf (Kp396.listResult l)) = V.int (l.length : Nat) :: iv l := by
  show V.int ((l.length : Nat) : Int) :: (l.map fun (x : Nat) => (x : Int)).map V.int = _
  rw [List.map_map]
  rfl
/-- shortest_period's own promise: the numbers are not asked for -/
def spShort (C : Addr) : Sp := fun vs H Q _ => ∃ (a lp : Addr) (v : Kp396.Line) (x : V), vs = [.ref a, x] ∧ LineAt C H a lp v ∧ Ok v ∧ ∀ (H' : Hp) (r : Addr), H r = none → Same H H' → H' r = some (.lst (zv (rowOf (Kp396.periodResult v)))) → Q (.ref r) H'
/-- a judge: of the line, a period and a plan that are within the limits -/
def spJudge (C : Addr) (K : PySem.W.Frag) (f : Kp396.Line → Nat → List Nat → Kp396.Ans) : Sp := fun vs H Q _ => ∃ (a lp pl : Addr) (v : Kp396.Line) (p : Nat) (plan : List Nat), vs = [.ref a, .int (p : Nat), .ref pl] ∧ LineAt C H a lp v ∧ Ok v ∧ 1 ≤ p ∧ p ≤ 99 ∧ SqL K H pl (iv plan) ∧ plan.length = v.pits.length ∧
  ∀ (H' : Hp) (r : Addr), H r = none → Same H H' → H' r = some (.lst (zv (rowOf (f v p plan)))) → Q (.ref r) H'
def ansIF (v : Kp396.Line) (p : Nat) (l : List Nat) : Kp396.Ans := Kp396.boolResult (Kp396.isFeasible v p l)
def ansFC (v : Kp396.Line) (p : Nat) (l : List Nat) : Kp396.Ans := match Kp396.firstConflict v p l with
  | none => Kp396.single (-33)
  | some x => Kp396.natResult x.1 [x.2]
/-- answer_on_plan, with the judge at j -/
def spAOP (C : Addr) (K : PySem.W.Frag) (j : Addr) (f : Kp396.Line → Nat → List Nat → Kp396.Ans) : Sp := fun vs H Q _ => ∃ (a lp nl : Addr) (v : Kp396.Line) (p : Nat) (plan : List Nat), vs = [.ref a, .ref nl, .ref j] ∧ LineAt C H a lp v ∧ Ok v ∧ SqL K H nl (iv (p :: plan)) ∧ plan.length ≤ 6 ∧
  ∀ (H' : Hp) (r : Addr), H r = none → Same H H' → H' r = some (.lst (zv (rowOf (if Kp396.validPeriod p && Kp396.validPlan v plan then f v p plan else Kp396.single (-22))))) → Q (.ref r) H'
section
variable {P : Program} {w : World} {K : PySem.W.Frag} {mg : Str → Option Value} {base : Heap} {C CS : Addr} {T5 : List (Addr × Str)}
theorem scShort : FnScope ["line", "numbers", "period"] ["line", "numbers"] (defScope sShort) := ⟨rfl, rfl, rfl, by decide +kernel, rfl, by decide +kernel, by decide +kernel⟩
theorem ok_short {f : Addr} {fd : FuncData} (F : Fun K "shortest_period" "shortest_period" sShort f fd) (T : Txt K mg C CS) (SPd : Def P w K mg base 10 "find_shortest_period" ["line"] (spSP C)) : FnOk P w K mg base CX0 11 f fd ["line", "numbers"] (spShort C) := by
  refine F.ok scShort (fun vs H Q E h => ?_) (fun cdv A outer s H vs Q E hr h => ?_)
  · obtain ⟨a, lp, v, x, rfl, _⟩ := h
    rfl
  · obtain ⟨a, lp, v, x, rfl, L, ok, k⟩ := h
    refine ⟨_, pss_cons (ps_set (i := 2) scShort.nd rfl (.inl rfl) (pe_def SPd hr rfl (pa_cons (pv 0) pa_nil)))
      (pss_cons (ps_if (pt_cmpR op_isN (pv 2) pe_non (nomark _)) (pss_one (ps_ret (pe_lst (pa_cons (pe_const T.cNone) pa_nil)))) pss_nil)
      (pss_one (ps_ret (pe_lst (pa_cons (pv 2) pa_nil))))), ?_⟩
    refine ⟨_, rfl, a, lp, v, rfl, L, ok, fun H1 r s1 ho => ⟨_, rfl, rfl, _, rfl, ?_⟩⟩
    cases es : Kp396.shortestPeriod v with
    | none =>
      rw [es] at ho
      have ho : r = .non := ho
      subst ho
      refine iteT ⟨(by show 1 ≤ sizeLine; decide), fun z hz => k _ z (s1.free hz) (s1.trans (same_upd hz)) (upd_same.trans (congrArg (fun z => some (HO.lst z)) ?_))⟩
      unfold Kp396.periodResult
      rw [es]
      rfl
    | some t =>
      rw [es] at ho
      have ho : r = .int (t : Nat) := ho
      subst ho
      refine iteF ⟨_, rfl, (by show 1 ≤ sizeLine; decide), fun z hz => k _ z (s1.free hz) (s1.trans (same_upd hz)) (upd_same.trans (congrArg (fun z => some (HO.lst z)) ?_))⟩
      unfold Kp396.periodResult
      rw [es]
      rfl
/-- as an operation -/
theorem short_op {f : Addr} {fd : FuncData} (G : FnOk P w K mg base CX0 11 f fd ["line", "numbers"] (spShort C)) : FnOk P w K mg base CX0 11 f fd ["line", "numbers"] (spOp C K T5 (sh0 .shortestPeriod)) := G.imp fun vs H Q E h => by
  obtain ⟨a, lp, nl, v, _, _, rfl, L, ok, hN, ⟨rfl, rfl⟩, hT, k⟩ := h
  obtain ⟨e1, e2⟩ := step_rw (st_short v)
  exact ⟨a, lp, v, _, rfl, L, ok, fun H' r hn s hr => k H' r (.same L hT s e1 (congrArg rowOf e2) hr hn)⟩
theorem scFPs : FnScope ["line", "numbers", "periods"] ["line", "numbers"] (defScope sFPs) := ⟨rfl, rfl, rfl, by decide +kernel, rfl, by decide +kernel, by decide +kernel⟩
theorem ok_fps {f : Addr} {fd : FuncData} (F : Fun K "feasible_periods" "feasible_periods" sFPs f fd) (T : Txt K mg C CS) (FE : Def P w K mg base 10 "find_feasible_periods" ["line"] (spFe C)) : FnOk P w K mg base CX0 11 f fd ["line", "numbers"] (spOp C K T5 (sh0 .feasiblePeriods)) := by
  refine F.ok scFPs (fun vs H Q E h => ?_) (fun cdv A outer s H vs Q E hr h => ?_)
  · obtain ⟨a, lp, nl, v, ns, c, rfl, _⟩ := h
    rfl
  · obtain ⟨a, lp, nl, v, _, _, rfl, L, ok, hN, ⟨rfl, rfl⟩, hT, k⟩ := h
    refine ⟨_, pss_cons (ps_set (i := 2) scFPs.nd rfl (.inl rfl) (pe_def FE hr rfl (pa_cons (pv 0) pa_nil)))
      (pss_one (ps_ret (pe_op op_cat (pe_lst (pa_cons (pe_callB call_len_seq rfl T.len PySem.boot_len (pa_cons (pv 2) pa_nil)) pa_nil)) (pv 2)))), ?_⟩
    obtain ⟨e1, e2⟩ := step_rw (st_feas v)
    refine ⟨_, rfl, a, lp, v, rfl, L, ok, fun H1 q hq s1 h1 => ?_⟩
    have hlen : (feasP v).length ≤ 99 := by
      unfold feasP
      refine Nat.le_trans (List.length_filter_le _ _) ?_
      rw [periods_len]
      exact Nat.le_refl _
    refine ⟨_, rfl, q, _, rfl, .inl (SqL.of h1), (by show 1 ≤ sizeLine; decide), fun y hy => ?_⟩
    have s2 := same_upd (o := .lst [V.int ((iv (feasP v)).length : Int)]) hy
    refine ⟨_, rfl, y, q, _, _, rfl, rfl, upd_same, s2 _ _ h1, (by rw [iv_len]; exact small (show 1 + (feasP v).length ≤ 100 by omega)), fun z hz => ?_⟩
    refine k _ z (.same L hT ((s1.trans s2).trans (same_upd hz)) e1 (congrArg rowOf e2) (upd_same.trans (congrArg (fun z => some (HO.lst z)) ?_)) ((s1.trans s2).free hz))
    rw [list_row, iv_len]
    rfl
theorem scSta : FnScope ["line", "numbers"] ["line", "numbers"] (defScope sSta) := ⟨rfl, rfl, rfl, by decide +kernel, rfl, by decide +kernel, by decide +kernel⟩
theorem ok_sta {f : Addr} {fd : FuncData} (F : Fun K "status" "status" sSta f fd) (T : Txt K mg C CS) {fB : Addr} {fdB : FuncData} (mB : Meth K C "bound" fB) (bB : Binds K fdB ["self"] []) (GB : FnOk P w K mg base CX0 1 fB fdB ["self"] (spBound C)) :
    FnOk P w K mg base CX0 2 f fd ["line", "numbers"] (spOp C K T5 (sh0 .status)) := by
  refine F.ok scSta (fun vs H Q E h => ?_) (fun cdv A outer s H vs Q E hr h => ?_)
  · obtain ⟨a, lp, nl, v, ns, c, rfl, _⟩ := h
    rfl
  · obtain ⟨a, lp, nl, v, _, _, rfl, L, ok, hN, ⟨rfl, rfl⟩, hT, k⟩ := h
    obtain ⟨dx, ha⟩ := L.obj
    obtain ⟨ts, hl, hps⟩ := L.lst
    refine ⟨_, pss_one (ps_ret (pe_lst (pa_cons (pe_callB call_len_seq rfl T.len PySem.boot_len (pa_cons (pe_fld (pv 0) rfl) pa_nil)) (pa_cons (pe_fld (pv 0) rfl) (pa_cons (pe_fld (pv 0) rfl) (pa_cons (pe_meth0 (pv 0) T.cl mB GB hr bB .nil pass0) pa_nil)))))), ?_⟩
    obtain ⟨e1, e2⟩ := step_rw (st_status v)
    have no : (lF lp (v.moveTime : Nat) (v.emptyTime : Nat)).lookup ("bound" : Str) = none := lF_no (by decide +kernel) (by decide +kernel) (by decide +kernel)
    refine ⟨_, rfl, a, C, dx, _, _, rfl, ha, T.cl, T.nP, lF_pits, lp, _, rfl, .inl (SqL.of hl), _, rfl, a, C, dx, _, _, rfl, ha, T.cl, T.nM, lF_m, _, rfl, a, C, dx, _, _, rfl, ha, T.cl, T.nE, lF_e, ?_⟩
    refine ⟨_, rfl, a, dx, _, rfl, ha, no, a, lp, v, rfl, L, ok, fun H1 s1 => ?_⟩
    refine ⟨(by show 4 ≤ sizeLine; decide), fun z hz => k _ z (.same L hT (s1.trans (same_upd hz)) e1 (congrArg rowOf e2) (upd_same.trans (congrArg (fun z => some (HO.lst z)) ?_)) (s1.free hz))⟩
    rw [List.length_map, hps.len]
    rfl
theorem scPC : FnScope ["line", "numbers", "period"] ["line", "numbers"] (defScope sPC) := ⟨rfl, rfl, rfl, by decide +kernel, rfl, by decide +kernel, by decide +kernel⟩
theorem ok_pc {f : Addr} {fd : FuncData} (F : Fun K "plan_count" "plan_count" sPC f fd) (T : Txt K mg C CS) (IP : Def P w K mg base 1 "is_period" ["period"] (spTest1 Kp396.validPeriod)) (CO : Def P w K mg base 9 "count_plans" ["line", "period"] (spCo C)) :
    FnOk P w K mg base CX0 10 f fd ["line", "numbers"] (spOp C K T5 (sh1 .planCount)) := by
  refine F.ok scPC (fun vs H Q E h => ?_) (fun cdv A outer s H vs Q E hr h => ?_)
  · obtain ⟨a, lp, nl, v, ns, c, rfl, _⟩ := h
    rfl
  · obtain ⟨a, lp, nl, v, _, _, rfl, L, ok, hN, ⟨t, rfl, rfl⟩, hT, k⟩ := h
    refine ⟨_, pss_cons (ps_set (i := 2) scPC.nd rfl (.inl rfl) (pe_ix ix_list (pv 1) pe_int (fun _ _ => rfl)))
      (pss_cons (ps_if (pt_not (pt_val (pe_def IP hr rfl (pa_cons (pv 2) pa_nil)))) (pss_one (ps_ret (pe_lst (pa_cons (pe_const T.cOut) pa_nil)))) pss_nil)
      (pss_one (ps_ret (pe_lst (pa_cons (pe_def CO hr rfl (pa_cons (pv 0) (pa_cons (pv 2) pa_nil))) pa_nil))))), ?_⟩
    have es := st_pc v t
    refine ⟨_, rfl, nl, _, _, _, rfl, rfl, hN, atI_nat (j := 0) rfl, ?_⟩
    refine ⟨_, rfl, t, rfl, fun r hr1 => ⟨_, rfl, ?_⟩⟩
    cases r with
    | false =>
      rw [bool_ff hr1 rfl, if_neg Bool.false_ne_true] at es
      obtain ⟨e1, e2⟩ := step_rw es
      exact iteT ⟨(by show 1 ≤ sizeLine; decide), fun z hz => k _ z (.same L hT (same_upd hz) e1 (congrArg rowOf e2) upd_same hz)⟩
    | true =>
      have ev := hr1.mp rfl
      have ep := (period_iff t).mp ev
      rw [ev, if_pos rfl] at es
      obtain ⟨e1, e2⟩ := step_rw es
      refine iteF ⟨_, rfl, _, rfl, a, lp, v, t, rfl, L, ok, by omega, by omega, fun H1 s1 => ⟨(by show 1 ≤ sizeLine; decide), fun z hz => k _ z (.same L hT (s1.trans (same_upd hz)) e1 (congrArg rowOf e2) upd_same (s1.free hz))⟩⟩
theorem scJF : FnScope ["line", "period", "plan"] ["line", "period", "plan"] (defScope sJF) := ⟨rfl, rfl, rfl, by decide +kernel, rfl, by decide +kernel, by decide +kernel⟩
theorem ok_jf {f : Addr} {fd : FuncData} (F : Fun K "judge_feasible" "judge_feasible" sJF f fd) (PF : Def P w K mg base 5 "plan_feasible" ["line", "period", "plan"] (spPF C K)) : FnOk P w K mg base CX0 6 f fd ["line", "period", "plan"] (spJudge C K ansIF) := by
  refine F.ok scJF (fun vs H Q E h => ?_) (fun cdv A outer s H vs Q E hr h => ?_)
  · obtain ⟨a, lp, pl, v, p, plan, rfl, _⟩ := h
    rfl
  · obtain ⟨a, lp, pl, v, p, plan, rfl, L, ok, h1, h9, hP, hlen, k⟩ := h
    refine ⟨_, pss_one (ps_ret (pe_lst (pa_cons (pe_ifExp (pt_val (pe_def PF hr rfl (pa_cons (pv 0) (pa_cons (pv 1) (pa_cons (pv 2) pa_nil))))) pe_int pe_int) pa_nil))), ?_⟩
    refine ⟨_, rfl, _, rfl, _, rfl, a, lp, pl, v, p, plan, rfl, L, ok, h1, hP, hlen, fun H1 s1 => ⟨_, rfl, ?_⟩⟩
    cases e : Kp396.isFeasible v p plan with
    | true =>
      refine iteT ⟨(by show 1 ≤ sizeLine; decide), fun z hz => k _ z (s1.free hz) (s1.trans (same_upd hz)) (upd_same.trans ?_)⟩
      unfold ansIF
      rw [e]
      rfl
    | false =>
      refine iteF ⟨(by show 1 ≤ sizeLine; decide), fun z hz => k _ z (s1.free hz) (s1.trans (same_upd hz)) (upd_same.trans ?_)⟩
      unfold ansIF
      rw [e]
      rfl
theorem scJC : FnScope ["line", "period", "plan", "pair"] ["line", "period", "plan"] (defScope sJC) := ⟨rfl, rfl, rfl, by decide +kernel, rfl, by decide +kernel, by decide +kernel⟩
theorem ok_jc {f : Addr} {fd : FuncData} (F : Fun K "judge_conflict" "judge_conflict" sJC f fd) (T : Txt K mg C CS) (FC : Def P w K mg base 4 "find_first_conflict" ["line", "period", "plan"] (spFC C K)) : FnOk P w K mg base CX0 5 f fd ["line", "period", "plan"] (spJudge C K ansFC) := by
  refine F.ok scJC (fun vs H Q E h => ?_) (fun cdv A outer s H vs Q E hr h => ?_)
  · obtain ⟨a, lp, pl, v, p, plan, rfl, _⟩ := h
    rfl
  · obtain ⟨a, lp, pl, v, p, plan, rfl, L, ok, h1, h9, hP, hlen, k⟩ := h
    have n4 := ok.n4
    refine ⟨_, pss_cons (ps_set (i := 3) scJC.nd rfl (.inl rfl) (pe_def FC hr rfl (pa_cons (pv 0) (pa_cons (pv 1) (pa_cons (pv 2) pa_nil)))))
      (pss_cons (ps_if (pt_cmpR op_isN (pv 3) pe_non (nomark _)) (pss_one (ps_ret (pe_lst (pa_cons (pe_const T.cNone) pa_nil)))) pss_nil)
      (pss_one (ps_ret (pv 3)))), ?_⟩
    refine ⟨_, rfl, _, rfl, _, rfl, a, lp, pl, v, p, plan, rfl, L, ok, h1, hP, by omega, fun H1 r s1 ho => ⟨_, rfl, rfl, _, rfl, ?_⟩⟩
    cases e : Kp396.firstConflict v p plan with
    | none =>
      rw [e] at ho
      have ho : r = .non := ho
      subst ho
      refine iteT ⟨(by show 1 ≤ sizeLine; decide), fun z hz => k _ z (s1.free hz) (s1.trans (same_upd hz)) (upd_same.trans ?_)⟩
      unfold ansFC
      rw [e]
      rfl
    | some x =>
      rw [e] at ho
      obtain ⟨z, rfl, hz, h2⟩ := ho
      refine iteF ⟨_, rfl, k _ z hz s1 (h2.trans ?_)⟩
      unfold ansFC
      rw [e]
      rfl
theorem scAOP : FnScope ["line", "numbers", "judge", "period", "plan"] ["line", "numbers", "judge"] (defScope sAOP) := ⟨rfl, rfl, rfl, by decide +kernel, rfl, by decide +kernel, by decide +kernel⟩
theorem cut_tail (p : Nat) (l : List Nat) : cutV (iv (p :: l)) (some 1) none = iv l := by
  unfold cutV
  have e1 : HT.sIx (iv (p :: l)).length 0 (some 1) = 1 := by
    rw [iv_len, List.length_cons]
    simp [HT.sIx]
  have e2 : HT.sIx (iv (p :: l)).length (iv (p :: l)).length none = l.length + 1 := by
    rw [iv_len, List.length_cons]
    simp [HT.sIx]
  rw [e1, e2]
  show (iv l).take (l.length + 1 - 1) = iv l
  rw [List.take_of_length_le (by rw [iv_len]; omega)]
theorem ok_aop {f j : Addr} {fd fdj : FuncData} {g : Kp396.Line → Nat → List Nat → Kp396.Ans} (F : Fun K "answer_on_plan" "answer_on_plan" sAOP f fd) (T : Txt K mg C CS) (IP : Def P w K mg base 1 "is_period" ["period"] (spTest1 Kp396.validPeriod)) (IPl : Def P w K mg base 1 "is_plan" ["plan", "pit_count"] (spIP K))
    (kj : PySem.W.keepIn K (.ref j) = true) (bj : Binds K fdj ["line", "period", "plan"] []) (J : FnOk P w K mg base CX0 6 j fdj ["line", "period", "plan"] (spJudge C K g)) : FnOk P w K mg base CX0 7 f fd ["line", "numbers", "judge"] (spAOP C K j g) := by
  refine F.ok scAOP (fun vs H Q E h => ?_) (fun cdv A outer s H vs Q E hr h => ?_)
  · obtain ⟨a, lp, nl, v, p, plan, rfl, _⟩ := h
    rfl
  · obtain ⟨a, lp, nl, v, p, plan, rfl, L, ok, hN, hlen, k⟩ := h
    obtain ⟨dx, ha⟩ := L.obj
    obtain ⟨ts, hl, hps⟩ := L.lst
    refine ⟨_, pss_cons (ps_set (i := 3) scAOP.nd rfl (.inl rfl) (pe_ix ix_list (pv 1) pe_int (fun _ _ => rfl)))
      (pss_cons (ps_set (i := 4) scAOP.nd rfl (.inl rfl) (pe_slice sl_list (pv 1) (po_some pe_int) po_none))
      (pss_cons (ps_if (PW.pt (pw_or (pt_not (pt_val (pe_def IP hr rfl (pa_cons (pv 3) pa_nil)))) (pw_or1 (pt_not (pt_val (pe_def IPl hr rfl (pa_cons (pv 4) (pa_cons (pe_callB call_len_seq rfl T.len PySem.boot_len (pa_cons (pe_fld (pv 0) rfl) pa_nil)) pa_nil)))))))) (pss_one (ps_ret (pe_lst (pa_cons (pe_const T.cOut) pa_nil)))) pss_nil)
      (pss_one (ps_ret (pe_callL (i := 2) J hr rfl (.inl rfl) kj bj .nil pass0 (pa_cons (pv 0) (pa_cons (pv 3) (pa_cons (pv 4) pa_nil)))))))), ?_⟩
    refine ⟨_, rfl, nl, _, _, _, rfl, rfl, hN, atI_nat (j := 0) rfl, ?_⟩
    refine ⟨_, rfl, 1, rfl, nl, _, rfl, hN, fun pl hpl => ?_⟩
    rw [cut_tail]
    have s1 : Same H (upd H pl (.lst (iv plan))) := same_upd hpl
    refine ⟨_, rfl, p, rfl, fun r1 hr1 => ⟨_, rfl, ?_⟩⟩
    cases r1 with
    | false =>
      have ev := bool_ff hr1 rfl
      rw [ev, Bool.false_and, if_neg Bool.false_ne_true] at k
      exact iteT (iteT ⟨(by show 1 ≤ sizeLine; decide), fun z hz => k _ z (s1.free hz) (s1.trans (same_upd hz)) upd_same⟩)
    | true =>
      have ev := hr1.mp rfl
      have ep := (period_iff p).mp ev
      refine iteF ⟨_, rfl, _, rfl, a, C, dx, _, _, rfl, s1 _ _ ha, T.cl, T.nP, lF_pits, lp, _, rfl, .inl (SqL.of (s1 _ _ hl)), pl, v.pits.length, plan, ?_, SqL.of upd_same, by omega, fun H1 r2 s2 hr2 => ⟨_, rfl, ?_⟩⟩
      · rw [List.length_map, hps.len]
      rw [← plan_iff] at hr2
      cases r2 with
      | false =>
        have ev2 := bool_ff hr2 rfl
        rw [ev, ev2, Bool.and_false, if_neg Bool.false_ne_true] at k
        exact iteT ⟨(by show 1 ≤ sizeLine; decide), fun z hz => k _ z ((s1.trans s2).free hz) ((s1.trans s2).trans (same_upd hz)) upd_same⟩
      | true =>
        have ev2 := hr2.mp rfl
        rw [ev, ev2, Bool.and_true, if_pos rfl] at k
        refine iteF ⟨rfl, _, rfl, _, rfl, _, rfl, a, lp, pl, v, p, plan, rfl, L.same (s1.trans s2), ok, ep.1, ep.2, SqL.of (s2 _ _ upd_same), ((plan_iff v plan).mp ev2).1, fun H2 z hn s3 hz => k H2 z ((s1.trans s2).free hn) ((s1.trans s2).trans s3) hz⟩
theorem scIF : FnScope ["line", "numbers"] ["line", "numbers"] (defScope sIF) := ⟨rfl, rfl, rfl, by decide +kernel, rfl, by decide +kernel, by decide +kernel⟩
theorem ok_if {f j : Addr} {fd : FuncData} (F : Fun K "is_feasible" "is_feasible" sIF f fd) (mj : mg "judge_feasible" = some (.ref j)) (AP : Def P w K mg base 7 "answer_on_plan" ["line", "numbers", "judge"] (spAOP C K j ansIF)) : FnOk P w K mg base CX0 8 f fd ["line", "numbers"] (spOp C K T5 (shP .isFeasible)) := by
  refine F.ok scIF (fun vs H Q E h => ?_) (fun cdv A outer s H vs Q E hr h => ?_)
  · obtain ⟨a, lp, nl, v, ns, c, rfl, _⟩ := h
    rfl
  · obtain ⟨a, lp, nl, v, _, _, rfl, L, ok, hN, ⟨t, l, rfl, rfl, hl6⟩, hT, k⟩ := h
    refine ⟨_, pss_one (ps_ret (pe_def AP hr rfl (pa_cons (pv 0) (pa_cons (pv 1) (pa_cons (pe_glob (v := .ref j) rfl mj rfl) pa_nil))))), ?_⟩
    obtain ⟨e1, e2⟩ := step_rw (st_if v t l)
    exact ⟨_, rfl, _, rfl, a, lp, nl, v, t, l, rfl, L, ok, hN, hl6, fun H1 z hn s1 hz => k _ z (.same L hT s1 e1 (congrArg rowOf e2) hz hn)⟩
theorem scFCo : FnScope ["line", "numbers"] ["line", "numbers"] (defScope sFCo) := ⟨rfl, rfl, rfl, by decide +kernel, rfl, by decide +kernel, by decide +kernel⟩
theorem ok_fco {f j : Addr} {fd : FuncData} (F : Fun K "first_conflict" "first_conflict" sFCo f fd) (mj : mg "judge_conflict" = some (.ref j)) (AP : Def P w K mg base 7 "answer_on_plan" ["line", "numbers", "judge"] (spAOP C K j ansFC)) : FnOk P w K mg base CX0 8 f fd ["line", "numbers"] (spOp C K T5 (shP .firstConflict)) := by
  refine F.ok scFCo (fun vs H Q E h => ?_) (fun cdv A outer s H vs Q E hr h => ?_)
  · obtain ⟨a, lp, nl, v, ns, c, rfl, _⟩ := h
    rfl
  · obtain ⟨a, lp, nl, v, _, _, rfl, L, ok, hN, ⟨t, l, rfl, rfl, hl6⟩, hT, k⟩ := h
    refine ⟨_, pss_one (ps_ret (pe_def AP hr rfl (pa_cons (pv 0) (pa_cons (pv 1) (pa_cons (pe_glob (v := .ref j) rfl mj rfl) pa_nil))))), ?_⟩
    obtain ⟨e1, e2⟩ := step_rw (st_fc v t l)
    exact ⟨_, rfl, _, rfl, a, lp, nl, v, t, l, rfl, L, ok, hN, hl6, fun H1 z hn s1 hz => k _ z (.same L hT s1 e1 (congrArg rowOf e2) hz hn)⟩
end
end HW
set_option maxHeartbeats 4000000
/-! The operations by a lambda. -/
namespace HW
open PySem PySem.Spec PyProof.Rows L2 LamX NdefX HM
abbrev sFst : Stmt := topS 51
abbrev sSt : Stmt := topS 52
abbrev sThr : Stmt := topS 59
abbrev sMax : Stmt := topS 60
abbrev sCom : Stmt := topS 61
/-- a def of the text whose code object is at c -/
structure FunC (K : PySem.W.Frag) (x qual : Str) (st : Stmt) (f : Addr) (fd : FuncData) (c : Addr) : Prop where
  ex : ∃ (oc : Value) (od : Option Addr) (kV doc pm : Value) (an : Option Addr) (ct : Value) (osl : Array (Option Value)),
    fd = PySem.W.fnOf x qual (defArgs st) (defBody st) (defScope st) .none kV doc pm an (.ref c) ct ∧ K.lookup f = some ⟨oc, od, .func fd, osl⟩ ∧ PySem.W.codeIn K (.ref c) qual = true
  kp : PySem.W.keepIn K (.ref f) = true
theorem FunC.ok {P : Program} {w : World} {K : PySem.W.Frag} {mg : Str → Option Value} {base : Heap} {x qual : Str} {st : Stmt} {f c : Addr} {fd : FuncData} {N ps : List Str} {k : Nat} {sp : Sp} (F : FunC K x qual st f fd c) (S : FnScope N ps (defScope st)) (len : ∀ vs H Q E, sp vs H Q E → vs.length = ps.length)
    (hbody : ∀ (A : Around) (outer : List Env) (s : Shared) (H : Hp) (vs : List V) (Q : VK) (E : XK), Room k (A.deeper (envOfC qual (defScope st) s.heap.objs.size f (.ref c))) → sp vs H Q E →
      ∃ t, PSs (cxOf CX0 P w K mg base N qual (defScope st) f (.ref c) A outer s H E).nox (defBody st) t ∧ t { nx := fun _ H' => Q .non H', rt := Q } (L2.start N vs) H) : FnOk P w K mg base CX0 (k + 1) f fd ps sp := by
  obtain ⟨oc, od, kV, doc, pm, an, ct, osl, rfl, lk, hcd⟩ := F.ex
  refine fn_of lk hcd S len fun A outer s H vs Q E hr hsp => ?_
  obtain ⟨t, h, q⟩ := hbody A outer s H vs Q E hr hsp
  exact ⟨t, h.nox, q⟩
theorem FunC.binds {K : PySem.W.Frag} {x qual : Str} {st : Stmt} {f c : Addr} {fd : FuncData} {ps : List Str} (F : FunC K x qual st f fd c)
    (h : ∀ (kV doc pm : Value) (an : Option Addr) (cdv ct : Value) (us : List Value), us.length = ps.length → bindArgs (PySem.W.fnOf x qual (defArgs st) (defBody st) (defScope st) .none kV doc pm an cdv ct) ⟨us, []⟩ = pure (ps.zip us)) : Binds K fd ps [] := by
  obtain ⟨oc, od, kV, doc, pm, an, ct, osl, rfl, lk, hcd⟩ := F.ex
  exact .all (h kV doc pm an (.ref c) ct)
/-- the lambda's name within the def x -/
abbrev lamQ (x : Str) : Str := (x ++ ".<locals>.") ++ "<lambda>"
/-- what the maker of a lambda has: its table among the tables -/
structure Maker (base : Heap) (mg : Str → Option Value) (T5 : List (Addr × Str)) (x : Str) (c P : Addr) : Prop where
  tb : TabB base mg c P
  mem : (P, lamQ x) ∈ T5
  one : ∀ p ∈ T5, p.1 = P → p.2 = lamQ x
/-- the scope of the lambda that the i-th statement of a def's body hands on -/
def lamSc (st : Stmt) (i : Nat) : Scope := match (defBody st).getD i (.Pass ⟨0, 0, 0, 0⟩) with
  | .Return (some (.Call _ [_, _, .Lambda _ _ sc _] _ _)) _ => sc
  | _ => { kind := .function, names := [], isGenerator := false, isCoroutine := false }
theorem qp_out {v : Kp396.Line} {t : Nat} {g : List Nat → Kp396.Ans} (h : Kp396.validPeriod t = false) : Kp396.queryPlan v t g = Kp396.single (-22) := by
  unfold Kp396.queryPlan
  rw [if_pos h]
theorem qp_no {v : Kp396.Line} {t : Nat} {g : List Nat → Kp396.Ans} (h : Kp396.validPeriod t = true) (h2 : Kp396.firstPlan v t = none) : Kp396.queryPlan v t g = Kp396.single (-33) := by
  unfold Kp396.queryPlan
  rw [if_neg (by rw [h]; exact Bool.true_eq_false.mp), h2]
theorem qp_plan {v : Kp396.Line} {t : Nat} {g : List Nat → Kp396.Ans} {pl : List Nat} (h : Kp396.validPeriod t = true) (h2 : Kp396.firstPlan v t = some pl) : Kp396.queryPlan v t g = g pl := by
  unfold Kp396.queryPlan
  rw [if_neg (by rw [h]; exact Bool.true_eq_false.mp), h2]
theorem st_fst (v : Kp396.Line) (t : Nat) : Kp396.step (some v) (.firstPlan t) = (some v, Kp396.queryPlan v t Kp396.listResult) := rfl
theorem st_sts (v : Kp396.Line) (t : Nat) : Kp396.step (some v) (.startTimes t) = (some v, Kp396.queryPlan v t fun plan => Kp396.listResult (Kp396.startTimes v plan)) := rfl
theorem st_thr (v : Kp396.Line) (t : Nat) : Kp396.step (some v) (.throughputTime t) = (some v, Kp396.queryPlan v t fun plan => Kp396.single (Kp396.throughputTime v plan : Nat)) := rfl
theorem st_max (v : Kp396.Line) (t : Nat) : Kp396.step (some v) (.maxOccupied t) = (some v, Kp396.queryPlan v t fun plan => Kp396.single (Kp396.maxOccupied v t plan : Nat)) := rfl
theorem st_com (v : Kp396.Line) (t n : Nat) : Kp396.step (some v) (.completionTime t n) = (some v, if n < 1 ∨ 99 < n then Kp396.single (-22) else Kp396.queryPlan v t fun plan => Kp396.single ((n - 1) * t + Kp396.throughputTime v plan : Nat)) := rfl
/-- the lambda's promise: from the plan's list to the answer's list; ws: what it captured -/
def spLam (W : List (Option V) → Hp → List Nat → Prop) (g : List (Option V) → List Nat → List Int → Prop) : List (Option V) → Sp := fun ws vs H Q _ => ∃ (r : Addr) (pl : List Nat), vs = [.ref r] ∧ H r = some (.lst (iv pl)) ∧ W ws H pl ∧
  ∀ (H' : Hp) (z : Addr) (row : List Int), g ws pl row → H z = none → Same H H' → H' z = some (.lst (zv row)) → Q (.ref z) H'
/-- behind answer_by_first_plan: the operation's end -/
theorem ab_end {C : Addr} {T5 : List (Addr × Str)} {H H3 : Hp} {a lp : Addr} {v : Kp396.Line} {c : Kp396.Call} {t : Nat} {G : List Nat → Kp396.Ans} {W : List (Option V) → Hp → List Nat → Prop} {g : List (Option V) → List Nat → List Int → Prop} {ws : List (Option V)} {Q : VK}
    (L : LineAt C H a lp v) (ok : Ok v) (es : Kp396.step (some v) c = (some v, Kp396.queryPlan v t G)) (eN : ExtN H H3) (hT : Tabs T5 H3) (hW : ∀ H' pl, Same H3 H' → Kp396.validPeriod t = true → pl.length = v.pits.length → W ws H' pl)
    (hg : ∀ pl row, g ws pl row → row = rowOf (G pl)) (k : ∀ (H' : Hp) (r : Addr), OpEnd C T5 H H' a lp v c r → Q (.ref r) H') : SpA v t (spLam W g ws) H3 Q := by
  obtain ⟨e1, e2⟩ := step_rw es
  have fin : ∀ (H' : Hp) (r : Addr) (row : List Int), H3 r = none → Same H3 H' → rowOf (Kp396.queryPlan v t G) = row → H' r = some (.lst (zv row)) → Q (.ref r) H' := fun H' r row hn s e h =>
    k H' r ⟨by rw [e1]; exact (L.extN eN).same s, fun b o q n _ _ => s _ _ (eN _ _ q n), hT.ext s, by rw [e2, e]; exact h, .back eN (.of hn)⟩
  refine ⟨fun h H' r hn s hr => fin H' r _ hn s (congrArg rowOf (qp_out h)) hr, fun h h2 H' r hn s hr => fin H' r _ hn s (congrArg rowOf (qp_no h h2)) hr, fun h pl h2 H' r hn s hr => ?_⟩
  have ep := (period_iff t).mp h
  have low := first_low (show 0 < t by omega) ok h2
  exact ⟨r, pl, rfl, hr, hW H' pl s h low.1, fun H2 z row q hn2 s2 hz => fin H2 z row (s.free hn2) (s.trans s2) ((congrArg rowOf (qp_plan h h2)).trans (hg pl row q).symm) hz⟩
theorem tabs_ext {T5 : List (Addr × Str)} {H H' : Hp} (h : Tabs T5 H) (s : Same H H') : Tabs T5 H' := h.ext s
section
variable {P : Program} {w : World} {K : PySem.W.Frag} {mg : Str → Option Value} {base : Heap} {C CS : Addr} {T5 : List (Addr × Str)} {g cc PT : Addr}
/-- the captured line -/
def wLine (C : Addr) (v : Kp396.Line) (a lp : Addr) : List (Option V) → Hp → List Nat → Prop := fun ws H pl => ws = [some (.ref a)] ∧ LineAt C H a lp v ∧ Ok v ∧ pl.length = v.pits.length
theorem scFst : FnScope ["line", "numbers"] ["line", "numbers"] (defScope sFst) := ⟨rfl, rfl, rfl, by decide +kernel, rfl, by decide +kernel, by decide +kernel⟩
theorem lFst : NScope ["plan"] ["plan"] [] (lamSc sFst 0) := nscope_by (by decide +kernel)
theorem bFst : ndefB (defScope sFst) (lamSc sFst 0) [] = true := by decide +kernel
theorem ok_fst {f : Addr} {fd : FuncData} (F : FunC K "first_plan" "first_plan" sFst f fd cc) (T : Txt K mg C CS) (M : Maker base mg T5 "first_plan" cc PT) (mA : mg "answer_by_first_plan" = some (.ref g)) (kA : PySem.W.keepIn K (.ref g) = true) (G : AbOk P w K mg base C g 10 9) :
    FnOk P w K mg base CX0 11 f fd ["line", "numbers"] (spOp C K T5 (sh1 .firstPlan)) := by
  refine F.ok scFst (fun vs H Q E h => ?_) (fun A outer s H vs Q E hr h => ?_)
  · obtain ⟨a, lp, nl, v, ns, c, rfl, _⟩ := h
    rfl
  · obtain ⟨a, lp, nl, v, _, _, rfl, L, ok, hN, ⟨t, rfl, rfl⟩, hT, k⟩ := h
    refine ⟨_, pss_one (ps_ret (pe_lamarg (T := T5) (C := C) (fr := []) (js := []) (sp := spLam (fun _ _ pl => pl.length ≤ 4) (fun _ pl row => row = (pl.length : Int) :: pl.map Int.ofNat)) rfl mA kA G hr (pv 0) (pe_ix ix_list (pv 1) pe_int (fun _ _ => rfl)) M.tb rfl M.mem M.one bFst rfl rfl (fun _ => rfl) (fun c' => ?_))), ?_⟩
    · refine lok_of (N := ["plan"]) (ps := ["plan"]) (k := 8) lFst (fun pm ctv us hl => match us, hl with | [_], _ => rfl) (fun ws vs H Q E h => ?_) (fun A' outer' s' H' vs ws Q' f' hr' hw h => ?_)
      · obtain ⟨r, pl, rfl, _⟩ := h
        rfl
      · obtain ⟨r, pl, rfl, hpl, hl4, q⟩ := h
        refine ⟨_, pe_op op_cat (pe_lst (pa_cons (pe_callB call_len_seq rfl T.len PySem.boot_len (pa_cons (pv 0) pa_nil)) pa_nil)) (pv 0), ?_⟩
        refine ⟨_, rfl, r, _, rfl, .inl (SqL.of hpl), (by show 1 ≤ sizeLine; decide), fun y hy => ?_⟩
        have s1 := same_upd (o := .lst [V.int ((iv pl).length : Int)]) hy
        refine ⟨_, rfl, y, r, _, _, rfl, rfl, upd_same, s1 _ _ hpl, (by rw [iv_len]; exact small (show 1 + pl.length ≤ 5 by omega)), fun z hz => ?_⟩
        refine q _ z _ rfl (s1.free hz) (s1.trans (same_upd hz)) (upd_same.trans (congrArg (fun z => some (HO.lst z)) ?_))
        rw [iv_len]
        show V.int (pl.length : Int) :: iv pl = V.int (pl.length : Int) :: (pl.map Int.ofNat).map V.int
        rw [List.map_map]
        rfl
    · refine ⟨_, rfl, _, rfl, nl, _, _, _, rfl, rfl, hN, atI_nat (j := 0) rfl, a, lp, v, t, rfl, rfl, L, ok, hT, fun H3 eN T3 => ?_⟩
      refine ab_end L ok (st_fst v t) eN T3 (fun H' pl s _ hl => by rw [hl]; exact ok.n4) (fun pl row e => ?_) k
      rw [e]
      rfl
end
end HW
set_option maxHeartbeats 4000000
/-! The other operations by a lambda. -/
namespace HW
open PySem PySem.Spec PyProof.Rows L2 LamX NdefX HM
section
variable {P : Program} {w : World} {K : PySem.W.Frag} {mg : Str → Option Value} {base : Heap} {C CS : Addr} {T5 : List (Addr × Str)} {g cc PT : Addr}
theorem scSt : FnScope ["line", "numbers"] ["line", "numbers"] (defScope sSt) := ⟨rfl, rfl, rfl, by decide +kernel, rfl, by decide +kernel, by decide +kernel⟩
theorem lSt : NScope ["plan", "line"] ["plan"] ["line"] (lamSc sSt 0) := nscope_by (by decide +kernel)
theorem bSt : ndefB (defScope sSt) (lamSc sSt 0) ["line"] = true := by decide +kernel
theorem ok_st {f : Addr} {fd : FuncData} (F : FunC K "start_times" "start_times" sSt f fd cc) (T : Txt K mg C CS) (M : Maker base mg T5 "start_times" cc PT) (mA : mg "answer_by_first_plan" = some (.ref g)) (kA : PySem.W.keepIn K (.ref g) = true) (G : AbOk P w K mg base C g 10 9)
    (MT : Def P w K mg base 1 "move_times" ["line", "plan"] (spMT C K)) : FnOk P w K mg base CX0 11 f fd ["line", "numbers"] (spOp C K T5 (sh1 .startTimes)) := by
  refine F.ok scSt (fun vs H Q E h => ?_) (fun A outer s H vs Q E hr h => ?_)
  · obtain ⟨a, lp, nl, v, ns, c, rfl, _⟩ := h
    rfl
  · obtain ⟨a, lp, nl, v, _, _, rfl, L, ok, hN, ⟨t, rfl, rfl⟩, hT, k⟩ := h
    have n4 := ok.n4
    refine ⟨_, pss_one (ps_ret (pe_lamarg (T := T5) (C := C) (fr := ["line"]) (js := [0]) (sp := spLam (fun ws H pl => ws = [some (.ref a)] ∧ LineAt C H a lp v ∧ pl.length ≤ 4) (fun _ pl row => row = ((Kp396.startTimes v pl).length : Int) :: (Kp396.startTimes v pl).map Int.ofNat)) rfl mA kA G hr (pv 0) (pe_ix ix_list (pv 1) pe_int (fun _ _ => rfl)) M.tb rfl M.mem M.one bSt rfl rfl (fun _ => rfl) (fun c' => ?_))), ?_⟩
    · refine lok_of (N := ["plan", "line"]) (ps := ["plan"]) (k := 8) lSt (fun pm ctv us hl => match us, hl with | [_], _ => rfl) (fun ws vs H Q E h => ?_) (fun A' outer' s' H' vs ws Q' f' hr' hw h => ?_)
      · obtain ⟨r, pl, rfl, _⟩ := h
        rfl
      · obtain ⟨r, pl, rfl, hpl, ⟨rfl, L', hl4⟩, q⟩ := h
        refine ⟨_, pe_op op_cat (pe_lst (pa_cons (pe_op op_add (pe_callB call_len_seq rfl T.len PySem.boot_len (pa_cons (pv 0) pa_nil)) pe_int) pa_nil)) (pe_def MT hr' rfl (pa_cons (pv 1) (pa_cons (pv 0) pa_nil))), ?_⟩
        refine ⟨_, rfl, r, _, rfl, .inl (SqL.of hpl), _, _, rfl, rfl, (by show 1 ≤ sizeLine; decide), fun y hy => ?_⟩
        have s1 := same_upd (o := .lst [V.int (((iv pl).length : Int) + 1)]) hy
        refine ⟨_, rfl, _, rfl, a, lp, r, v, pl, rfl, L'.same s1, SqL.of (s1 _ _ hpl), by omega, fun H2 u hu s2 h2 => ?_⟩
        have hle : (Kp396.startTimes v pl).length = pl.length + 1 := startTimes_length v pl
        refine ⟨y, u, _, _, rfl, rfl, s2 _ _ upd_same, h2, (by rw [iv_len (Kp396.startTimes v pl), hle]; exact small (show 1 + (pl.length + 1) ≤ 6 by omega)), fun z hz => ?_⟩
        refine q _ z _ rfl ((s1.trans s2).free hz) ((s1.trans s2).trans (same_upd hz)) (upd_same.trans (congrArg (fun z => some (HO.lst z)) ?_))
        rw [iv_len]
        show V.int ((pl.length : Int) + 1) :: iv (Kp396.startTimes v pl) = V.int ((Kp396.startTimes v pl).length : Int) :: ((Kp396.startTimes v pl).map Int.ofNat).map V.int
        rw [List.map_map, hle]
        rfl
    · refine ⟨_, rfl, _, rfl, nl, _, _, _, rfl, rfl, hN, atI_nat (j := 0) rfl, a, lp, v, t, rfl, rfl, L, ok, hT, fun H3 eN T3 => ?_⟩
      refine ab_end L ok (st_sts v t) eN T3 (fun H' pl s _ hl => ⟨rfl, (L.extN eN).same s, by rw [hl]; exact n4⟩) (fun pl row e => ?_) k
      rw [e]
      rfl
theorem scThr : FnScope ["line", "numbers"] ["line", "numbers"] (defScope sThr) := ⟨rfl, rfl, rfl, by decide +kernel, rfl, by decide +kernel, by decide +kernel⟩
theorem lThr : NScope ["plan", "line"] ["plan"] ["line"] (lamSc sThr 0) := nscope_by (by decide +kernel)
theorem bThr : ndefB (defScope sThr) (lamSc sThr 0) ["line"] = true := by decide +kernel
theorem ok_thr {f : Addr} {fd : FuncData} (F : FunC K "throughput_time" "throughput_time" sThr f fd cc) (M : Maker base mg T5 "throughput_time" cc PT) (mA : mg "answer_by_first_plan" = some (.ref g)) (kA : PySem.W.keepIn K (.ref g) = true) (G : AbOk P w K mg base C g 10 9)
    (TT : Def P w K mg base 2 "time_through" ["line", "plan"] (spTT C K)) : FnOk P w K mg base CX0 11 f fd ["line", "numbers"] (spOp C K T5 (sh1 .throughputTime)) := by
  refine F.ok scThr (fun vs H Q E h => ?_) (fun A outer s H vs Q E hr h => ?_)
  · obtain ⟨a, lp, nl, v, ns, c, rfl, _⟩ := h
    rfl
  · obtain ⟨a, lp, nl, v, _, _, rfl, L, ok, hN, ⟨t, rfl, rfl⟩, hT, k⟩ := h
    have n4 := ok.n4
    refine ⟨_, pss_one (ps_ret (pe_lamarg (T := T5) (C := C) (fr := ["line"]) (js := [0]) (sp := spLam (fun ws H pl => ws = [some (.ref a)] ∧ LineAt C H a lp v ∧ pl.length ≤ 4) (fun _ pl row => row = [((Kp396.throughputTime v pl : Nat) : Int)])) rfl mA kA G hr (pv 0) (pe_ix ix_list (pv 1) pe_int (fun _ _ => rfl)) M.tb rfl M.mem M.one bThr rfl rfl (fun _ => rfl) (fun c' => ?_))), ?_⟩
    · refine lok_of (N := ["plan", "line"]) (ps := ["plan"]) (k := 8) lThr (fun pm ctv us hl => match us, hl with | [_], _ => rfl) (fun ws vs H Q E h => ?_) (fun A' outer' s' H' vs ws Q' f' hr' hw h => ?_)
      · obtain ⟨r, pl, rfl, _⟩ := h
        rfl
      · obtain ⟨r, pl, rfl, hpl, ⟨rfl, L', hl4⟩, q⟩ := h
        refine ⟨_, pe_lst (pa_cons (pe_def TT hr' rfl (pa_cons (pv 1) (pa_cons (pv 0) pa_nil))) pa_nil), ?_⟩
        exact ⟨_, rfl, _, rfl, a, lp, r, v, pl, rfl, L', SqL.of hpl, by omega, fun H2 s2 => ⟨(by show 1 ≤ sizeLine; decide), fun z hz => q _ z _ rfl (s2.free hz) (s2.trans (same_upd hz)) upd_same⟩⟩
    · refine ⟨_, rfl, _, rfl, nl, _, _, _, rfl, rfl, hN, atI_nat (j := 0) rfl, a, lp, v, t, rfl, rfl, L, ok, hT, fun H3 eN T3 => ?_⟩
      refine ab_end L ok (st_thr v t) eN T3 (fun H' pl s _ hl => ⟨rfl, (L.extN eN).same s, by rw [hl]; exact n4⟩) (fun pl row e => ?_) k
      rw [e]
      rfl
theorem scMax : FnScope ["line", "numbers", "period"] ["line", "numbers"] (defScope sMax) := ⟨rfl, rfl, rfl, by decide +kernel, rfl, by decide +kernel, by decide +kernel⟩
theorem lMax : NScope ["plan", "line", "period"] ["plan"] ["line", "period"] (lamSc sMax 1) := nscope_by (by decide +kernel)
theorem bMax : ndefB (defScope sMax) (lamSc sMax 1) ["line", "period"] = true := by decide +kernel
theorem ok_max {f : Addr} {fd : FuncData} (F : FunC K "max_occupied" "max_occupied" sMax f fd cc) (M : Maker base mg T5 "max_occupied" cc PT) (mA : mg "answer_by_first_plan" = some (.ref g)) (kA : PySem.W.keepIn K (.ref g) = true) (G : AbOk P w K mg base C g 10 9)
    (MO : Def P w K mg base 3 "most_occupied" ["line", "period", "plan"] (spMO C K)) : FnOk P w K mg base CX0 11 f fd ["line", "numbers"] (spOp C K T5 (sh1 .maxOccupied)) := by
  refine F.ok scMax (fun vs H Q E h => ?_) (fun A outer s H vs Q E hr h => ?_)
  · obtain ⟨a, lp, nl, v, ns, c, rfl, _⟩ := h
    rfl
  · obtain ⟨a, lp, nl, v, _, _, rfl, L, ok, hN, ⟨t, rfl, rfl⟩, hT, k⟩ := h
    have n4 := ok.n4
    refine ⟨_, pss_cons (ps_set (i := 2) scMax.nd rfl (.inr rfl) (pe_ix ix_list (pv 1) pe_int (fun _ _ => rfl)))
      (pss_one (ps_ret (pe_lamarg (T := T5) (C := C) (fr := ["line", "period"]) (js := [0, 2]) (sp := spLam (fun ws H pl => ws = [some (.ref a), some (.int (t : Nat))] ∧ LineAt C H a lp v ∧ pl.length ≤ 4 ∧ 1 ≤ t ∧ t ≤ 99) (fun _ pl row => row = [((Kp396.maxOccupied v t pl : Nat) : Int)])) rfl mA kA G hr (pv 0) (pv 2) M.tb rfl M.mem M.one bMax rfl rfl (fun _ => rfl) (fun c' => ?_)))), ?_⟩
    · refine lok_of (N := ["plan", "line", "period"]) (ps := ["plan"]) (k := 8) lMax (fun pm ctv us hl => match us, hl with | [_], _ => rfl) (fun ws vs H Q E h => ?_) (fun A' outer' s' H' vs ws Q' f' hr' hw h => ?_)
      · obtain ⟨r, pl, rfl, _⟩ := h
        rfl
      · obtain ⟨r, pl, rfl, hpl, ⟨rfl, L', hl4, t1, t9⟩, q⟩ := h
        refine ⟨_, pe_lst (pa_cons (pe_def MO hr' rfl (pa_cons (pv 1) (pa_cons (pv 2) (pa_cons (pv 0) pa_nil)))) pa_nil), ?_⟩
        exact ⟨_, rfl, _, rfl, _, rfl, a, lp, r, v, t, pl, rfl, L', t1, t9, SqL.of hpl, by omega, fun H2 s2 => ⟨(by show 1 ≤ sizeLine; decide), fun z hz => q _ z _ rfl (s2.free hz) (s2.trans (same_upd hz)) upd_same⟩⟩
    · refine ⟨_, rfl, nl, _, _, _, rfl, rfl, hN, atI_nat (j := 0) rfl, ?_⟩
      refine ⟨_, rfl, _, rfl, a, lp, v, t, rfl, rfl, L, ok, hT, fun H3 eN T3 => ?_⟩
      refine ab_end L ok (st_max v t) eN T3 (fun H' pl s ev hl => ⟨rfl, (L.extN eN).same s, by rw [hl]; exact n4, (period_iff t).mp ev⟩) (fun pl row e => ?_) k
      rw [e]
      rfl
theorem scCom : FnScope ["line", "numbers", "period", "lots"] ["line", "numbers"] (defScope sCom) := ⟨rfl, rfl, rfl, by decide +kernel, rfl, by decide +kernel, by decide +kernel⟩
theorem lCom : NScope ["plan", "line", "lots", "period"] ["plan"] ["line", "lots", "period"] (lamSc sCom 2) := nscope_by (by decide +kernel)
theorem bCom : ndefB (defScope sCom) (lamSc sCom 2) ["line", "lots", "period"] = true := by decide +kernel
theorem ok_com {f : Addr} {fd : FuncData} (F : FunC K "completion_time" "completion_time" sCom f fd cc) (T : Txt K mg C CS) (M : Maker base mg T5 "completion_time" cc PT) (mA : mg "answer_by_first_plan" = some (.ref g)) (kA : PySem.W.keepIn K (.ref g) = true) (G : AbOk P w K mg base C g 10 9)
    (IL : Def P w K mg base 1 "is_lots" ["lots"] (spTest1 lotsOk)) (TT : Def P w K mg base 2 "time_through" ["line", "plan"] (spTT C K)) : FnOk P w K mg base CX0 11 f fd ["line", "numbers"] (spOp C K T5 (sh2 .completionTime)) := by
  refine F.ok scCom (fun vs H Q E h => ?_) (fun A outer s H vs Q E hr h => ?_)
  · obtain ⟨a, lp, nl, v, ns, c, rfl, _⟩ := h
    rfl
  · obtain ⟨a, lp, nl, v, _, _, rfl, L, ok, hN, ⟨t, n, rfl, rfl⟩, hT, k⟩ := h
    have n4 := ok.n4
    refine ⟨_, pss_cons (ps_asg (pv 1) (pg_unl (by rfl) (pgs_cons (pg_name (i := 2) scCom.nd rfl (.inr rfl)) (pgs_cons (pg_name (i := 3) scCom.nd rfl (.inr rfl)) pgs_nil))))
      (pss_cons (ps_if (pt_not (pt_val (pe_def IL hr rfl (pa_cons (pv 3) pa_nil)))) (pss_one (ps_ret (pe_lst (pa_cons (pe_const T.cOut) pa_nil)))) pss_nil)
      (pss_one (ps_ret (pe_lamarg (T := T5) (C := C) (fr := ["line", "lots", "period"]) (js := [0, 3, 2]) (sp := spLam (fun ws H pl => ws = [some (.ref a), some (.int (n : Nat)), some (.int (t : Nat))] ∧ LineAt C H a lp v ∧ pl.length ≤ 4 ∧ 1 ≤ n ∧ n ≤ 99) (fun _ pl row => row = [(((n - 1) * t + Kp396.throughputTime v pl : Nat) : Int)])) rfl mA kA G hr (pv 0) (pv 2) M.tb rfl M.mem M.one bCom rfl rfl (fun _ => rfl) (fun c' => ?_))))), ?_⟩
    · refine lok_of (N := ["plan", "line", "lots", "period"]) (ps := ["plan"]) (k := 8) lCom (fun pm ctv us hl => match us, hl with | [_], _ => rfl) (fun ws vs H Q E h => ?_) (fun A' outer' s' H' vs ws Q' f' hr' hw h => ?_)
      · obtain ⟨r, pl, rfl, _⟩ := h
        rfl
      · obtain ⟨r, pl, rfl, hpl, ⟨rfl, L', hl4, n1, n9⟩, q⟩ := h
        refine ⟨_, pe_lst (pa_cons (pe_op op_add (pe_op op_mul (pe_op op_sub (pv 2) pe_int) (pv 3)) (pe_def TT hr' rfl (pa_cons (pv 1) (pa_cons (pv 0) pa_nil)))) pa_nil), ?_⟩
        refine ⟨_, rfl, _, _, rfl, rfl, _, rfl, _, _, rfl, rfl, .inl ⟨by omega, by omega⟩, _, rfl, _, rfl, a, lp, r, v, pl, rfl, L', SqL.of hpl, by omega, fun H2 s2 => ⟨_, _, rfl, rfl, (by show 1 ≤ sizeLine; decide), fun z hz => q _ z _ rfl (s2.free hz) (s2.trans (same_upd hz)) (upd_same.trans (congrArg (fun z => some (HO.lst z)) ?_))⟩⟩
        have e : ((n : Int) - 1) * (t : Int) + ((Kp396.throughputTime v pl : Nat) : Int) = (((n - 1) * t + Kp396.throughputTime v pl : Nat) : Int) := by
          rw [Int.natCast_add, Int.natCast_mul, Int.ofNat_sub n1]
          rfl
        show [V.int (((n : Int) - 1) * (t : Int) + ((Kp396.throughputTime v pl : Nat) : Int))] = _
        rw [e]
        rfl
    · have es := st_com v t n
      refine ⟨_, rfl, nl, _, rfl, hN, rfl, _, _, rfl, _, _, rfl, rfl, ?_⟩
      refine ⟨_, rfl, n, rfl, fun r hr1 => ⟨_, rfl, ?_⟩⟩
      cases r with
      | false =>
        have ev := bool_ff hr1 rfl
        have hn : n < 1 ∨ 99 < n := by
          have z : ¬ (1 ≤ n ∧ n ≤ 99) := fun q => by
            rw [(lots_iff n).mpr q] at ev
            cases ev
          omega
        rw [if_pos hn] at es
        obtain ⟨e1, e2⟩ := step_rw es
        exact iteT ⟨(by show 1 ≤ sizeLine; decide), fun z hz => k _ z (.same L hT (same_upd hz) e1 (congrArg rowOf e2) upd_same hz)⟩
      | true =>
        have ep := (lots_iff n).mp (hr1.mp rfl)
        rw [if_neg (by omega)] at es
        refine iteF ⟨_, rfl, _, rfl, a, lp, v, t, rfl, rfl, L, ok, hT, fun H3 eN T3 => ?_⟩
        refine ab_end L ok es eN T3 (fun H' pl s ev hl => ⟨rfl, (L.extN eN).same s, by rw [hl]; exact n4, ep⟩) (fun pl row e => ?_) k
        rw [e]
        rfl
end
end HW
set_option maxHeartbeats 4000000
/-! The trials: a change on the line's double. -/
namespace HW
open PySem PySem.Spec PyProof.Rows L2 LamX HM
abbrev sTr : Stmt := topS 62
abbrev sTW : Stmt := topS 63
abbrev sTS : Stmt := topS 64
/-- what a trial of the change c answers -/
def trialA (v : Kp396.Line) (c : Kp396.Call) : Kp396.Ans := if (stepA v c).num = 0 then Kp396.periodResult (stepL v c) else stepA v c
/-- the change goes by the def at j -/
def spTr (C : Addr) (K : PySem.W.Frag) (T5 : List (Addr × Str)) (j : Addr) (sh : Kp396.Call → List Nat → Prop) : Sp := fun vs H Q _ => ∃ (a lp nl : Addr) (v : Kp396.Line) (ns : List Nat) (c : Kp396.Call), vs = [.ref a, .ref j, .ref nl] ∧ LineAt C H a lp v ∧ Ok v ∧ Ok (stepL v c) ∧ SqL K H nl (iv ns) ∧ sh c ns ∧ Tabs T5 H ∧
  ∀ (H' : Hp) (r : Addr), ExtN H H' → Tabs T5 H' → H' r = some (.lst (zv (rowOf (trialA v c)))) → Fresh H r → Q (.ref r) H'
section
variable {P : Program} {w : World} {K : PySem.W.Frag} {mg : Str → Option Value} {base : Heap} {C CS : Addr} {T5 : List (Addr × Str)} {sh : Kp396.Call → List Nat → Prop}
theorem scTr : FnScope ["line", "change", "numbers", "trial", "answer"] ["line", "change", "numbers"] (defScope sTr) := ⟨rfl, rfl, rfl, by decide +kernel, rfl, by decide +kernel, by decide +kernel⟩
theorem ok_tr {f j : Addr} {fd fdj : FuncData} (F : Fun K "shortest_period_with" "shortest_period_with" sTr f fd) (T : Txt K mg C CS) {fT : Addr} {fdT : FuncData} (mT : Meth K C "twin" fT) (bT : Binds K fdT ["self"] []) (GT : FnOk P w K mg base CX0 3 fT fdT ["self"] (spTwin C))
    (kj : PySem.W.keepIn K (.ref j) = true) (bj : Binds K fdj ["line", "numbers"] []) (J : FnOk P w K mg base CX0 2 j fdj ["line", "numbers"] (spOp C K T5 sh)) (SH : Def P w K mg base 11 "shortest_period" ["line", "numbers"] (spShort C)) :
    FnOk P w K mg base CX0 12 f fd ["line", "change", "numbers"] (spTr C K T5 j sh) := by
  refine F.ok scTr (fun vs H Q E h => ?_) (fun cdv A outer s H vs Q E hr h => ?_)
  · obtain ⟨a, lp, nl, v, ns, c, rfl, _⟩ := h
    rfl
  · obtain ⟨a, lp, nl, v, ns, c, rfl, L, ok, ok2, hN, hsh, hT, k⟩ := h
    obtain ⟨dx, ha⟩ := L.obj
    have n4 := ok.n4
    refine ⟨_, pss_cons (ps_set (i := 3) scTr.nd rfl (.inl rfl) (pe_meth0 (pv 0) T.cl mT GT (hr.mono (by decide)) bT .nil pass0))
      (pss_cons (ps_set (i := 4) scTr.nd rfl (.inl rfl) (pe_callL (i := 1) J (hr.mono (by decide)) rfl (.inl rfl) kj bj .nil pass0 (pa_cons (pv 3) (pa_cons (pv 2) pa_nil))))
      (pss_cons (ps_if (pt_cmpR op_ne (pe_ix ix_list (pv 4) pe_int (fun _ _ => rfl)) pe_int (nomark _)) (pss_one (ps_ret (pv 4))) pss_nil)
      (pss_one (ps_ret (pe_def SH hr rfl (pa_cons (pv 3) (pa_cons (pe_lst pa_nil) pa_nil))))))), ?_⟩
    have no : (lF lp (v.moveTime : Nat) (v.emptyTime : Nat)).lookup ("twin" : Str) = none := lF_no (by decide +kernel) (by decide +kernel) (by decide +kernel)
    refine ⟨_, rfl, a, dx, _, rfl, ha, no, a, lp, v, rfl, L, n4, fun H1 b lq s1 nb nlq L1 => ?_⟩
    refine ⟨rfl, _, rfl, _, rfl, b, lq, nl, v, ns, c, rfl, L1, ok, s1.seq hN, hsh, hT.ext s1, fun H2 r E2 => ?_⟩
    have ext : ExtN H H2 := fun o u e n => E2.fr o u (s1 _ _ e) n (ne_of_none e nb) (ne_of_none e nlq)
    refine ⟨_, rfl, r, _, _, _, rfl, rfl, SqL.of E2.ans, atI_nat (j := 0) rfl, rfl, _, rfl, ?_⟩
    by_cases h0 : (stepA v c).num = 0
    · have e0 : (!decide (V.int (stepA v c).num = V.int 0)) = false := by rw [h0]; rfl
      have et : trialA v c = Kp396.periodResult (stepL v c) := if_pos h0
      show if (!decide (V.int (stepA v c).num = V.int 0)) = true then _ else _
      rw [e0]
      refine iteF ⟨_, rfl, (by show 0 ≤ sizeLine; decide), fun z hz => ?_⟩
      have s3 := same_upd (o := .lst []) hz
      refine ⟨b, lq, stepL v c, _, rfl, E2.line.same s3, ok2, fun H3 y hn s4 hy => k H3 y (ext.trans (ExtN.of (s3.trans s4))) (E2.tabs.ext (s3.trans s4)) ?_ (.back ext (.of (s3.free hn)))⟩
      rw [et]
      exact hy
    · have e0 : (!decide (V.int (stepA v c).num = V.int 0)) = true := by
        rw [decide_eq_false (fun q => h0 (V.int.inj q))]
        rfl
      have et : trialA v c = stepA v c := if_neg h0
      show if (!decide (V.int (stepA v c).num = V.int 0)) = true then _ else _
      rw [e0]
      refine iteT ⟨_, rfl, k H2 r ext E2.tabs ?_ (.back (ExtN.of s1) E2.fresh)⟩
      rw [et]
      exact E2.ans
theorem st_tw (v : Kp396.Line) (i a b : Nat) : Kp396.step (some v) (.shortestPeriodWithWindow i a b) = (some v, if Kp396.isPit v i = false then Kp396.single (-2) else if Kp396.validWindow a b then Kp396.periodResult (Kp396.withWindow v i a b) else Kp396.single (-22)) := rfl
theorem st_ts (v : Kp396.Line) (m e : Nat) : Kp396.step (some v) (.shortestPeriodWithSpeed m e) = (some v, if Kp396.validSpeed m e then Kp396.periodResult { v with moveTime := m, emptyTime := e } else Kp396.single (-22)) := rfl
theorem sw_rw (v : Kp396.Line) (i a b : Nat) : Kp396.step (some v) (.setWindow i a b) = if Kp396.isPit v i = false then (some v, Kp396.single (-2)) else if Kp396.validWindow a b then (some (Kp396.withWindow v i a b), Kp396.natResult 0 [(Kp396.windowAt v i).least, (Kp396.windowAt v i).most]) else (some v, Kp396.single (-22)) := rfl
theorem ss_rw (v : Kp396.Line) (m e : Nat) : Kp396.step (some v) (.setSpeed m e) = if Kp396.validSpeed m e then (some { v with moveTime := m, emptyTime := e }, Kp396.natResult 0 [v.moveTime, v.emptyTime]) else (some v, Kp396.single (-22)) := rfl
theorem trial_sw (v : Kp396.Line) (i a b : Nat) : trialA v (.setWindow i a b) = if Kp396.isPit v i = false then Kp396.single (-2) else if Kp396.validWindow a b then Kp396.periodResult (Kp396.withWindow v i a b) else Kp396.single (-22) := by
  unfold trialA stepA stepL
  rw [sw_rw]
  by_cases h1 : Kp396.isPit v i = false
  · rw [if_pos h1, if_pos h1]
    rfl
  · rw [if_neg h1, if_neg h1]
    by_cases h2 : Kp396.validWindow a b = true
    · rw [if_pos h2, if_pos h2]
      rfl
    · rw [if_neg h2, if_neg h2]
      rfl
theorem trial_ss (v : Kp396.Line) (m e : Nat) : trialA v (.setSpeed m e) = if Kp396.validSpeed m e then Kp396.periodResult { v with moveTime := m, emptyTime := e } else Kp396.single (-22) := by
  unfold trialA stepA stepL
  rw [ss_rw]
  by_cases h2 : Kp396.validSpeed m e = true
  · rw [if_pos h2, if_pos h2]
    rfl
  · rw [if_neg h2, if_neg h2]
    rfl
/-- the limits are kept -/
theorem ok_setW {v : Kp396.Line} (ok : Ok v) (i a b : Nat) : Ok (stepL v (.setWindow i a b)) := by
  unfold stepL
  rw [sw_rw]
  by_cases h1 : Kp396.isPit v i = false
  · rw [if_pos h1]
    exact ok
  · rw [if_neg h1]
    by_cases h2 : Kp396.validWindow a b = true
    · rw [if_pos h2]
      refine ⟨by show (v.pits.set i ⟨a, b⟩).length ≤ 4; rw [List.length_set]; exact ok.n4, fun w hw => ?_, ok.spd⟩
      rcases List.mem_or_eq_of_mem_set (show w ∈ v.pits.set i ⟨a, b⟩ from hw) with h | h
      · exact ok.win w h
      · rw [h]
        exact h2
    · rw [if_neg h2]
      exact ok
theorem ok_setS {v : Kp396.Line} (ok : Ok v) (m e : Nat) : Ok (stepL v (.setSpeed m e)) := by
  unfold stepL
  rw [ss_rw]
  by_cases h2 : Kp396.validSpeed m e = true
  · rw [if_pos h2]
    exact ⟨ok.n4, ok.win, h2⟩
  · rw [if_neg h2]
    exact ok
theorem scTW : FnScope ["line", "numbers"] ["line", "numbers"] (defScope sTW) := ⟨rfl, rfl, rfl, by decide +kernel, rfl, by decide +kernel, by decide +kernel⟩
theorem ok_tw {f j : Addr} {fd : FuncData} (F : Fun K "shortest_period_with_window" "shortest_period_with_window" sTW f fd) (mj : mg "set_window" = some (.ref j)) (TR : Def P w K mg base 12 "shortest_period_with" ["line", "change", "numbers"] (spTr C K T5 j (sh3 .setWindow))) :
    FnOk P w K mg base CX0 13 f fd ["line", "numbers"] (spOp C K T5 (sh3 .shortestPeriodWithWindow)) := by
  refine F.ok scTW (fun vs H Q E h => ?_) (fun cdv A outer s H vs Q E hr h => ?_)
  · obtain ⟨a, lp, nl, v, ns, c, rfl, _⟩ := h
    rfl
  · obtain ⟨a, lp, nl, v, _, _, rfl, L, ok, hN, ⟨i, x, y, rfl, rfl⟩, hT, k⟩ := h
    refine ⟨_, pss_one (ps_ret (pe_def TR hr rfl (pa_cons (pv 0) (pa_cons (pe_glob (v := .ref j) rfl mj rfl) (pa_cons (pv 1) pa_nil))))), ?_⟩
    obtain ⟨e1, e2⟩ := step_rw (st_tw v i x y)
    refine ⟨_, rfl, _, rfl, a, lp, nl, v, _, .setWindow i x y, rfl, L, ok, ok_setW ok i x y, hN, ⟨i, x, y, rfl, rfl⟩, hT, fun H1 z eN T1 hz fz => k _ z ⟨by rw [e1]; exact L.extN eN, .ofE eN, T1, ?_, fz⟩⟩
    rw [e2, ← trial_sw]
    exact hz
theorem scTS : FnScope ["line", "numbers"] ["line", "numbers"] (defScope sTS) := ⟨rfl, rfl, rfl, by decide +kernel, rfl, by decide +kernel, by decide +kernel⟩
theorem ok_ts {f j : Addr} {fd : FuncData} (F : Fun K "shortest_period_with_speed" "shortest_period_with_speed" sTS f fd) (mj : mg "set_speed" = some (.ref j)) (TR : Def P w K mg base 12 "shortest_period_with" ["line", "change", "numbers"] (spTr C K T5 j (sh2 .setSpeed))) :
    FnOk P w K mg base CX0 13 f fd ["line", "numbers"] (spOp C K T5 (sh2 .shortestPeriodWithSpeed)) := by
  refine F.ok scTS (fun vs H Q E h => ?_) (fun cdv A outer s H vs Q E hr h => ?_)
  · obtain ⟨a, lp, nl, v, ns, c, rfl, _⟩ := h
    rfl
  · obtain ⟨a, lp, nl, v, _, _, rfl, L, ok, hN, ⟨x, y, rfl, rfl⟩, hT, k⟩ := h
    refine ⟨_, pss_one (ps_ret (pe_def TR hr rfl (pa_cons (pv 0) (pa_cons (pe_glob (v := .ref j) rfl mj rfl) (pa_cons (pv 1) pa_nil))))), ?_⟩
    obtain ⟨e1, e2⟩ := step_rw (st_ts v x y)
    refine ⟨_, rfl, _, rfl, a, lp, nl, v, _, .setSpeed x y, rfl, L, ok, ok_setS ok x y, hN, ⟨x, y, rfl, rfl⟩, hT, fun H1 z eN T1 hz fz => k _ z ⟨by rw [e1]; exact L.extN eN, .ofE eN, T1, ?_, fz⟩⟩
    rw [e2, ← trial_ss]
    exact hz
end
end HW
set_option maxHeartbeats 4000000
/-! One call: create, or the operation by its number. -/
namespace HW
open PySem PySem.Spec PyProof.Rows L2 LamX HM
abbrev sCr : Stmt := topS 43
abbrev sPerf : Stmt := topS 68
abbrev sSI : Stmt := inClass (topS 42) 0
/-! ### a written dict with numbers as keys -/
def KeysInt (l : List DictEntry) : Prop := ∀ e ∈ l, ∃ k t, e.key = .int k t ∧ e.hash = hashInt k
def KDctI (K : PySem.W.Frag) (a : Addr) (i : Int) (v : V) : Prop := ∃ es n u, K.lookup a = some ⟨.type "dict", none, .dict es n, #[]⟩ ∧ KeysInt es.toList ∧ findBy Value.isInt es i = some u ∧ RelV v u
section
variable {X : Cx}
theorem ix_kdictI : IxR X (fun x y H Q => ∃ p i v, x = .ref p ∧ y = .int i ∧ KDctI X.K p i v ∧ Q v H) := by
  intro value slice pins s σ H x y v u Q I rx ry h hs
  obtain ⟨p, i, r, rfl, rfl, ⟨es, n, u0, hl, hk, e, ru⟩, q⟩ := h
  obtain rfl : v = Value.ref p := rx
  obtain ⟨t, rfl⟩ := ry
  have hm : s.heap.MapOf (intKind X.prog X.w) p (fun k => findBy Value.isInt es k) := ⟨_, es, n, I.kIn _ _ hl, ⟨rfl, rfl, rfl⟩, rfl, fun e he => by
    obtain ⟨k, t, e1, e2⟩ := hk e (Array.mem_toList_iff.mpr he)
    exact ⟨k, by rw [e1]; exact intKind_is X.prog X.w k t, e2⟩, fun _ => rfl⟩
  exact tail_any hm.typeIs slot_dict_getitem.lookup (wpAny_getItem_of (intKind_is X.prog X.w i t) hm e ⟨r, H, I.tok _, ru, q⟩) hs
/-! ### a call of what an expression gives -/
theorem pe_callE {k : Nat} {fe e : Expr} {es : List Expr} {pos : Pos} {tf : TE} {t : TA} (hf : PE X fe tf) (hr : Room k X.A) (ha : PA X (e :: es) t)
    (hfe : eval (.Call fe (e :: es) [] pos) X.env = (do callWith pos (← eval fe X.env) [] (backTo pos (starEach (e :: es) X.env)) (backToKw pos (keywordEach [] X.env))) := by rfl)
    (he : starEach (e :: es) X.env = (false, eval e X.env) :: starEach es X.env := by rfl) (hpl : (backTo pos (starEach es X.env)).any (·.1) = false := by rfl) :
    PE X (.Call fe (e :: es) [] pos) (fun σ H Q => tf σ H fun v H1 => ∃ f sp, v = .ref f ∧ Held X.prog X.w X.K X.mg X.base k f sp ∧ t σ H1 fun vs H2 => sp vs H2 Q E0) := by
  refine ⟨fun pins s σ H Q I h => ?_⟩
  rw [hfe]
  refine wpAny_bind (thn (hf.run pins s σ H _ I h) fun u s1 ⟨v, H1, I1, r1, f, sp, ev, hd, ht⟩ => ?_)
  subst ev
  obtain rfl : u = Value.ref f := r1
  obtain ⟨fd, ps, F, hk, hb⟩ := hd.ex
  refine PySem.W.callWith_K (h₀ := X.base) I1.ok.mod.kin hk (thn (ha.run pos pins s1 σ _ _ I1 ht) fun us s2 ⟨vs, H2, I2, r, q⟩ => ⟨I2.kIn, ?_⟩) he hpl
  refine run_fn (CX := CX0) (E := E0) (dvs := []) F hr hb .nil pass0 I2 r ?_
  rw [List.append_nil]
  exact q
end
/-! ### the state -/
def sF (x : V) : List (Str × V) := [("line", x)]
theorem sF_line {x : V} : (sF x).lookup ("line" : Str) = some x := lk_here
theorem sF_put {x y : V} : putF "line" y (sF x) = sF y := put_here
def lineV : Option (Addr × Addr) → V
  | none => .non
  | some q => .ref q.1
/-- where the line of the state lies, if there is one -/
inductive LnAt (C : Addr) (H : Hp) : Kp396.State → Option (Addr × Addr) → Prop where
  | none : LnAt C H none none
  | some {a lp : Addr} {v : Kp396.Line} (l : LineAt C H a lp v) (ok : Ok v) : LnAt C H (some v) (some (a, lp))
structure StAt (CS C : Addr) (H : Hp) (s : Addr) (st : Kp396.State) (o : Option (Addr × Addr)) : Prop where
  obj : ∃ dx, H s = some (.ins CS dx (sF (lineV o)))
  ln : LnAt C H st o
/-- all but the state, its line and the tables stays -/
def FrP (H H' : Hp) (s : Addr) (o : Option (Addr × Addr)) : Prop := ∀ b u, H b = some u → (∀ ps, u ≠ .tbl ps) → b ≠ s → (∀ a lp, o = some (a, lp) → b ≠ a ∧ b ≠ lp) → H' b = some u
structure PfEnd (CS C : Addr) (T5 : List (Addr × Str)) (H H' : Hp) (s : Addr) (st : Kp396.State) (o o' : Option (Addr × Addr)) (c : Kp396.Call) (r : Addr) : Prop where
  stt : StAt CS C H' s (Kp396.step st c).1 o'
  fr : FrP H H' s o
  tabs : Tabs T5 H'
  ans : H' r = some (.lst (zv (rowOf (Kp396.step st c).2)))
  fresh : Fresh H r
  new : ∀ a lp, o' = some (a, lp) → o = some (a, lp) ∨ (H a = none ∧ H lp = none)
/-- the numbers of a call -/
def nsOf : Kp396.Call → List Nat
  | .create a b => [a, b]
  | .addPit a b => [a, b]
  | .removePit a => [a]
  | .setWindow a b c => [a, b, c]
  | .setSpeed a b => [a, b]
  | .getPit a => [a]
  | .shortestPeriod => []
  | .firstPlan a => [a]
  | .startTimes a => [a]
  | .isFeasible a l => a :: l
  | .firstConflict a l => a :: l
  | .planCount a => [a]
  | .throughputTime a => [a]
  | .maxOccupied a => [a]
  | .completionTime a b => [a, b]
  | .shortestPeriodWithWindow a b c => [a, b, c]
  | .shortestPeriodWithSpeed a b => [a, b]
  | .feasiblePeriods => []
  | .status => []
theorem enc_ns (c : Kp396.Call) : (enc c).2 = (nsOf c).map Int.ofNat := by cases c <;> rfl
def spPerf (CS C : Addr) (K : PySem.W.Frag) (T5 : List (Addr × Str)) : Sp := fun vs H Q _ => ∃ (s nl : Addr) (st : Kp396.State) (o : Option (Addr × Addr)) (c : Kp396.Call), vs = [.ref s, .int (enc c).1, .ref nl] ∧ StAt CS C H s st o ∧ SqL K H nl (iv (nsOf c)) ∧ Small c ∧ Tabs T5 H ∧
  ∀ (H' : Hp) (r : Addr) (o' : Option (Addr × Addr)), PfEnd CS C T5 H H' s st o o' c r → Q (.ref r) H'
def spCreate (CS C : Addr) (K : PySem.W.Frag) (T5 : List (Addr × Str)) : Sp := fun vs H Q _ => ∃ (s nl : Addr) (st : Kp396.State) (o : Option (Addr × Addr)) (m e : Nat), vs = [.ref s, .ref nl] ∧ StAt CS C H s st o ∧ SqL K H nl (iv [m, e]) ∧ Tabs T5 H ∧
  ∀ (H' : Hp) (r : Addr) (o' : Option (Addr × Addr)), PfEnd CS C T5 H H' s st o o' (.create m e) r → Q (.ref r) H'
theorem st_create (st : Kp396.State) (m e : Nat) : Kp396.step st (.create m e) = if Kp396.validSpeed m e then (some ⟨[], m, e⟩, Kp396.single 0) else (st, Kp396.single (-22)) := by
  cases st <;> rfl
theorem LnAt.same {C : Addr} {H H' : Hp} {st : Kp396.State} {o : Option (Addr × Addr)} (h : LnAt C H st o) (s : Same H H') : LnAt C H' st o := by
  cases h with
  | none => exact .none
  | some l ok => exact .some (l.same s) ok
/-- the state and its line stay -/
theorem PfEnd.same {CS C : Addr} {T5 : List (Addr × Str)} {H H' : Hp} {s r : Addr} {st : Kp396.State} {o : Option (Addr × Addr)} {c : Kp396.Call} {y : Kp396.Ans} (A : StAt CS C H s st o) (hT : Tabs T5 H) (sm : Same H H') (es : Kp396.step st c = (st, y)) (h : H' r = some (.lst (zv (rowOf y)))) (hn : H r = none) :
    PfEnd CS C T5 H H' s st o o c r := by
  obtain ⟨dx, ho⟩ := A.obj
  exact ⟨by rw [es]; exact ⟨⟨dx, sm _ _ ho⟩, A.ln.same sm⟩, fun b u e _ _ _ => sm _ _ e, hT.ext sm, by rw [es]; exact h, .of hn, fun a lp e => .inl e⟩
section
variable {P : Program} {w : World} {K : PySem.W.Frag} {mg : Str → Option Value} {base : Heap} {C CS : Addr} {T5 : List (Addr × Str)}
theorem scCr : FnScope ["state", "numbers", "move_time", "empty_time"] ["state", "numbers"] (defScope sCr) := ⟨rfl, rfl, rfl, by decide +kernel, rfl, by decide +kernel, by decide +kernel⟩
theorem ok_cr {f fI : Addr} {fd fdI : FuncData} (F : Fun K "create" "create" sCr f fd) (T : Txt K mg C CS) (IS : Def P w K mg base 1 "is_speed" ["move_time", "empty_time"] (spTest2 Kp396.validSpeed)) (M : Mk K C fI) (bI : Binds K fdI ["self", "move_time", "empty_time"] []) (GI : FnOk P w K mg base CX0 1 fI fdI ["self", "move_time", "empty_time"] (spInit C)) :
    FnOk P w K mg base CX0 3 f fd ["state", "numbers"] (spCreate CS C K T5) := by
  refine F.ok scCr (fun vs H Q E h => ?_) (fun cdv A outer s H vs Q E hr h => ?_)
  · obtain ⟨s, nl, st, o, m, e, rfl, _⟩ := h
    rfl
  · obtain ⟨sa, nl, st, o, m, e, rfl, SA, hN, hT, k⟩ := h
    obtain ⟨dx, ho⟩ := SA.obj
    refine ⟨_, pss_cons (ps_asg (pv 1) (pg_unl (by rfl) (pgs_cons (pg_name (i := 2) scCr.nd rfl (.inl rfl)) (pgs_cons (pg_name (i := 3) scCr.nd rfl (.inl rfl)) pgs_nil))))
      (pss_cons (ps_if (pt_not (pt_val (pe_def IS hr rfl (pa_cons (pv 2) (pa_cons (pv 3) pa_nil))))) (pss_one (ps_ret (pe_lst (pa_cons (pe_const T.cOut) pa_nil)))) pss_nil)
      (pss_cons (ps_fld (pv 0) (pe_make M GI hr rfl T.gC bI .nil pass0 (pa_cons (pv 2) (pa_cons (pv 3) pa_nil))) rfl)
      (pss_one (ps_ret (pe_lst (pa_cons pe_int pa_nil)))))), ?_⟩
    refine ⟨_, rfl, nl, _, rfl, hN, rfl, _, _, rfl, _, _, rfl, rfl, ?_⟩
    refine ⟨_, rfl, _, rfl, m, e, rfl, fun r hr1 => ⟨_, rfl, ?_⟩⟩
    have es := st_create st m e
    cases r with
    | false =>
      rw [bool_ff hr1 rfl, if_neg Bool.false_ne_true] at es
      exact iteT ⟨(by show 1 ≤ sizeLine; decide), fun z hz => k _ z o (.same SA hT (same_upd hz) es upd_same hz)⟩
    | true =>
      have ev := hr1.mp rfl
      rw [ev, if_pos rfl] at es
      refine iteF ⟨_, rfl, _, rfl, ?_⟩
      intro x d0 nx nd ne
      refine ⟨x, d0, m, e, rfl, upd_same, fun H1 lq nl1 L1 kp => ?_⟩
      have s1 : Same H H1 := Same.made nx nd kp
      have nlq : H lq = none := by
        unfold upd at nl1
        split at nl1
        · cases nl1
        · split at nl1
          · cases nl1
          · exact nl1
      refine ⟨rfl, _, rfl, sa, CS, dx, _, rfl, s1 _ _ ho, T.clS, T.nL, (by show 1 < 1000; decide), ?_⟩
      refine ⟨(by show 1 ≤ sizeLine; decide), fun z hz => ?_⟩
      have s3 := same_upd (o := .lst [V.int 0]) hz
      obtain ⟨d1, h1⟩ := L1.obj
      obtain ⟨ts1, h2, hp1⟩ := L1.lst
      have nsx : x ≠ sa := (ne_of_none ho nx).symm
      have nsl : lq ≠ sa := (ne_of_none ho nlq).symm
      have e0 : ts1 = [] := List.eq_nil_of_length_eq_zero hp1.len
      subst e0
      refine k _ z (some (x, lq)) ⟨?_, fun b u q _ n _ => s3 _ _ ((upd_ne n).trans (s1 _ _ q)), ?_, ?_, .of (s1.free (NdefX.upd_none hz)), fun a lp q => ?_⟩
      · rw [es]
        refine ⟨⟨dx, (s3 _ _ upd_same).trans (by rw [sF_put]; rfl)⟩, .some ⟨⟨d1, s3 _ _ ((upd_ne nsx).trans h1)⟩, ⟨[], s3 _ _ ((upd_ne nsl).trans h2), hp1.len, fun i t w c1 c2 => by cases c1⟩⟩ ⟨Nat.zero_le _, fun w hw => (by cases hw), ev⟩⟩
      · refine tabs_keep hT fun b u q _ n => s3 _ _ ((upd_ne ?_).trans (s1 _ _ q))
        intro z
        rw [z, ho] at q
        exact n _ _ _ (Option.some.inj q).symm
      · rw [es]
        exact upd_same
      · cases q
        exact .inr ⟨nx, nlq⟩
theorem step_none {c : Kp396.Call} (h : ∀ m e, c ≠ .create m e) : Kp396.step none c = (none, Kp396.single (-11)) := by
  cases c
  case create m e => exact absurd rfl (h m e)
  all_goals rfl
theorem step_some {v : Kp396.Line} {c : Kp396.Call} (h : ∀ m e, c ≠ .create m e) : Kp396.step (some v) c = (some (stepL v c), stepA v c) := by
  cases c
  case create m e => exact absurd rfl (h m e)
  case addPit a b =>
    show (if Kp396.validWindow a b = false then (some v, Kp396.single (-22)) else if Kp396.maxPits ≤ v.pits.length then (some v, Kp396.single (-28)) else (some { v with pits := v.pits ++ [⟨a, b⟩] }, Kp396.single (v.pits.length : Nat))) =
      (some ((if Kp396.validWindow a b = false then (some v, Kp396.single (-22)) else if Kp396.maxPits ≤ v.pits.length then (some v, Kp396.single (-28)) else (some { v with pits := v.pits ++ [⟨a, b⟩] }, Kp396.single (v.pits.length : Nat))).1.getD v), _)
    unfold stepA
    split
    · rename_i q
      show _ = (_, (if Kp396.validWindow a b = false then (some v, Kp396.single (-22)) else if Kp396.maxPits ≤ v.pits.length then (some v, Kp396.single (-28)) else (some { v with pits := v.pits ++ [⟨a, b⟩] }, Kp396.single (v.pits.length : Nat))).2)
      rw [if_pos q]
      rfl
    · rename_i q
      show _ = (_, (if Kp396.validWindow a b = false then (some v, Kp396.single (-22)) else if Kp396.maxPits ≤ v.pits.length then (some v, Kp396.single (-28)) else (some { v with pits := v.pits ++ [⟨a, b⟩] }, Kp396.single (v.pits.length : Nat))).2)
      rw [if_neg q]
      split <;> rfl
  case removePit i =>
    unfold stepA stepL
    show (if Kp396.isPit v i then _ else _) = (some ((if Kp396.isPit v i then _ else _ : Kp396.State × Kp396.Ans).1.getD v), (if Kp396.isPit v i then _ else _ : Kp396.State × Kp396.Ans).2)
    split <;> rfl
  case setWindow i a b =>
    unfold stepA stepL
    show (if Kp396.isPit v i = false then _ else if Kp396.validWindow a b then _ else _) = (some ((if Kp396.isPit v i = false then _ else if Kp396.validWindow a b then _ else _ : Kp396.State × Kp396.Ans).1.getD v), (if Kp396.isPit v i = false then _ else if Kp396.validWindow a b then _ else _ : Kp396.State × Kp396.Ans).2)
    split
    · rfl
    · split <;> rfl
  case setSpeed m e =>
    unfold stepA stepL
    show (if Kp396.validSpeed m e then _ else _) = (some ((if Kp396.validSpeed m e then _ else _ : Kp396.State × Kp396.Ans).1.getD v), (if Kp396.validSpeed m e then _ else _ : Kp396.State × Kp396.Ans).2)
    split <;> rfl
  all_goals rfl
end
end HW
set_option maxHeartbeats 4000000
/-! perform. -/
namespace HW
open PySem PySem.Spec PyProof.Rows L2 LamX HM
/-- the limits are kept -/
theorem ok_step {v : Kp396.Line} (ok : Ok v) (c : Kp396.Call) (h : ∀ m e, c ≠ .create m e) : Ok (stepL v c) := by
  cases c
  case create m e => exact absurd rfl (h m e)
  case setWindow i a b => exact ok_setW ok i a b
  case setSpeed m e => exact ok_setS ok m e
  case addPit a b =>
    unfold stepL
    rw [st_add]
    by_cases h1 : Kp396.validWindow a b = false
    · rw [if_pos h1]
      exact ok
    · rw [if_neg h1]
      by_cases h2 : Kp396.maxPits ≤ v.pits.length
      · rw [if_pos h2]
        exact ok
      · rw [if_neg h2]
        refine ⟨?_, fun w hw => ?_, ok.spd⟩
        · show (v.pits ++ [(⟨a, b⟩ : Kp396.Window)]).length ≤ 4
          rw [List.length_append]
          unfold Kp396.maxPits at h2
          show v.pits.length + 1 ≤ 4
          omega
        · rcases List.mem_append.mp (show w ∈ v.pits ++ [(⟨a, b⟩ : Kp396.Window)] from hw) with q | q
          · exact ok.win w q
          · have e : w = ⟨a, b⟩ := by simpa using q
            rw [e]
            exact Bool.not_eq_false _ ▸ h1
  case removePit i =>
    unfold stepL
    rw [st_rem]
    by_cases h1 : Kp396.isPit v i = true
    · rw [if_pos h1]
      refine ⟨?_, fun w hw => ok.win w (List.mem_of_mem_eraseIdx (show w ∈ v.pits.eraseIdx i from hw)), ok.spd⟩
      show (v.pits.eraseIdx i).length ≤ 4
      have := List.length_eraseIdx_le v.pits i
      have := ok.n4
      omega
    · rw [if_neg h1]
      exact ok
  all_goals exact ok
section
variable {P : Program} {w : World} {K : PySem.W.Frag} {mg : Str → Option Value} {base : Heap} {C CS : Addr} {T5 : List (Addr × Str)}
theorem scPerf : FnScope ["state", "operation", "numbers"] ["state", "operation", "numbers"] (defScope sPerf) := ⟨rfl, rfl, rfl, by decide +kernel, rfl, by decide +kernel, by decide +kernel⟩
/-- the operations' table -/
def OpsOk (P : Program) (w : World) (K : PySem.W.Frag) (mg : Str → Option Value) (base : Heap) (C : Addr) (T5 : List (Addr × Str)) (dO : Addr) : Prop :=
  ∀ c : Kp396.Call, (∀ m e, c ≠ .create m e) → Small c → ∃ (f : Addr) (sh : Kp396.Call → List Nat → Prop), KDctI K dO (enc c).1 (.ref f) ∧ Held P w K mg base 13 f (spOp C K T5 sh) ∧ sh c (nsOf c)
theorem enc_create {c : Kp396.Call} (h : (enc c).1 = 0) : ∃ m e, c = .create m e := by
  cases c
  case create m e => exact ⟨m, e, rfl⟩
  all_goals simp [enc] at h
theorem ok_perf {f dO : Addr} {fd : FuncData} (F : Fun K "perform" "perform" sPerf f fd) (T : Txt K mg C CS) (CR : Def P w K mg base 3 "create" ["state", "numbers"] (spCreate CS C K T5)) (mO : mg "OPERATIONS" = some (.ref dO)) (OPS : OpsOk P w K mg base C T5 dO) :
    FnOk P w K mg base CX0 14 f fd ["state", "operation", "numbers"] (spPerf CS C K T5) := by
  refine F.ok scPerf (fun vs H Q E h => ?_) (fun cdv A outer s H vs Q E hr h => ?_)
  · obtain ⟨s, nl, st, o, c, rfl, _⟩ := h
    rfl
  · obtain ⟨sa, nl, st, o, c, rfl, SA, hN, hsm, hT, k⟩ := h
    obtain ⟨dx, ho⟩ := SA.obj
    refine ⟨_, pss_cons (ps_if (pt_cmpR op_eq (pv 1) (pe_const T.gCreate) (nomark _)) (pss_one (ps_ret (pe_def CR hr rfl (pa_cons (pv 0) (pa_cons (pv 2) pa_nil))))) pss_nil)
      (pss_cons (ps_if (pt_cmpR op_isN (pe_fld (pv 0) rfl) pe_non (nomark _)) (pss_one (ps_ret (pe_lst (pa_cons (pe_const T.cLine) pa_nil)))) pss_nil)
      (pss_one (ps_ret (pe_callE (pe_ix ix_kdictI (pe_glob (v := .ref dO) rfl mO rfl) (pv 1) (fun _ _ => rfl)) hr (pa_cons (pe_fld (pv 0) rfl) (pa_cons (pv 2) pa_nil)))))), ?_⟩
    refine ⟨_, rfl, rfl, _, rfl, ite2 (fun h1 => ?_) (fun h1 => ?_)⟩
    · have h1 := of_decide_eq_true h1
      obtain ⟨m, e, rfl⟩ := enc_create (V.int.inj h1)
      exact ⟨_, rfl, _, rfl, sa, nl, st, o, m, e, rfl, SA, hN, hT, k⟩
    · have nc : ∀ m e, c ≠ .create m e := fun m e z => h1 (by rw [z]; rfl)
      refine ⟨_, rfl, sa, CS, dx, _, _, rfl, ho, T.clS, T.nL, sF_line, rfl, _, rfl, ?_⟩
      cases hln : SA.ln with
      | none =>
        refine iteT ⟨(by show 1 ≤ sizeLine; decide), fun z hz => k _ z none (.same SA hT (same_upd hz) (step_none nc) upd_same hz)⟩
      | @some a lp v L ok =>
        obtain ⟨g, sh, hk, hd, hs⟩ := OPS c nc hsm
        refine iteF ⟨_, rfl, dO, _, _, rfl, rfl, hk, g, _, rfl, hd, _, rfl, sa, CS, dx, _, _, rfl, ho, T.clS, T.nL, sF_line, _, rfl, ?_⟩
        obtain ⟨dl, hl1⟩ := L.obj
        obtain ⟨ts, hl2, hl3⟩ := L.lst
        have nsa : sa ≠ a := ne_of ho hl1 (by
          intro z
          have z2 := (HO.ins.inj z).2.2
          have z3 := congrArg List.length z2
          exact absurd z3 (by show ¬ (1 = 3); decide))
        have nsl : sa ≠ lp := ne_of ho hl2 (by intro z; cases z)
        have es := step_some (v := v) nc
        refine ⟨a, lp, nl, v, nsOf c, c, rfl, L, ok, hN, hs, hT, fun H1 r OE => k H1 r (some (a, lp)) ⟨?_, fun b u q n n1 n2 => OE.fr b u q n (n2 a lp rfl).1 (n2 a lp rfl).2, OE.tabs, ?_, OE.fresh, fun a' lp' q => .inl q⟩⟩
        · rw [es]
          exact ⟨⟨dx, OE.fr _ _ ho (fun ps z => by cases z) nsa nsl⟩, .some OE.line (ok_step ok c nc)⟩
        · rw [es]
          exact OE.ans
end
end HW
set_option maxHeartbeats 4000000
/-! The desk: call behind call. -/
namespace HW
open PySem PySem.Spec PyProof.Rows L2 LamX HM
abbrev sAns : Stmt := topS 70
theorem calls_enc : ∀ {xs : List (Int × List Int)}, (∀ c ∈ xs, Kp396Neutral.asked1 (asCall c) = true) → ∀ c ∈ xs, ∃ k : Kp396.Call, c = enc k ∧ Small k := fun {xs} h c hc => by
  obtain ⟨k, e, hs⟩ := asked1_enc (h c hc)
  have e2 : c.1 :: c.2 = (enc k).1 :: (enc k).2 := (List.cons.inj e).1
  obtain ⟨e3, e4⟩ := List.cons.inj e2
  exact ⟨k, Prod.ext e3 e4, hs⟩
theorem zv_iv (l : List Nat) : zv (l.map Int.ofNat) = iv l := by
  show (l.map Int.ofNat).map V.int = _
  rw [List.map_map]
  rfl
theorem cut_mid (l : List Int) (i n : Nat) (h : i + n ≤ l.length) : cutV (zv l) (some (i : Nat)) (some ((i + n : Nat) : Int)) = zv ((l.drop i).take n) := by
  unfold cutV
  have hl : (zv l).length = l.length := List.length_map _
  have e1 : HT.sIx (zv l).length 0 (some (i : Nat)) = i := by
    rw [hl]
    simp [HT.sIx]
    rw [if_neg (by omega)]
    omega
  have e2 : HT.sIx (zv l).length (zv l).length (some ((i + n : Nat) : Int)) = i + n := by
    rw [hl]
    unfold HT.sIx
    simp
    rw [if_neg (by omega)]
    omega
  rw [e1, e2, Nat.add_sub_cancel_left, ← List.map_drop, ← List.map_take]
def spSInit (CS : Addr) : Sp := fun vs H Q _ => ∃ (p dx : Addr), vs = [.ref p] ∧ H p = some (.ins CS dx []) ∧ ∀ H' : Hp, (∃ d, H' p = some (.ins CS d (sF .non))) → (∀ b o, H b = some o → b ≠ p → H' b = some o) → Q .non H'
def spAns (K : PySem.W.Frag) (T5 : List (Addr × Str)) : Sp := fun vs H Q _ => ∃ (cl : Addr) (l : List Int) (xs : List (Int × List Int)), vs = [.ref cl] ∧ SqL K H cl (zv l) ∧ Asked l xs ∧ l.length ≤ 600 ∧ Tabs T5 H ∧ ∀ (H' : Hp) (p : Addr), H' p = some (.lst (zv (PyKp396.answers l))) → Q (.ref p) H'
section
variable {P : Program} {w : World} {K : PySem.W.Frag} {mg : Str → Option Value} {base : Heap} {C CS : Addr} {T5 : List (Addr × Str)}
theorem scSI : FnScope ["self"] ["self"] (defScope sSI) := ⟨rfl, rfl, rfl, by decide +kernel, rfl, by decide +kernel, by decide +kernel⟩
theorem ok_si {f : Addr} {fd : FuncData} (F : Fun K "__init__" "State.__init__" sSI f fd) (T : Txt K mg C CS) : FnOk P w K mg base CX0 1 f fd ["self"] (spSInit CS) := by
  refine F.ok scSI (fun vs H Q E h => ?_) (fun cdv A outer s H vs Q E hr h => ?_)
  · obtain ⟨p, dx, rfl, _⟩ := h
    rfl
  · obtain ⟨p, dx, rfl, hp, k⟩ := h
    refine ⟨_, pss_one (ps_fld (pv 0) pe_non rfl), ?_⟩
    refine ⟨_, rfl, p, CS, dx, [], rfl, hp, T.clS, T.nL, (by show 0 < 1000; decide), ?_⟩
    exact k _ ⟨dx, upd_same⟩ fun b o e hb => by rw [upd_ne hb]; exact e
theorem scAns : FnScope ["calls", "state", "results", "position", "start", "end", "answer"] ["calls"] (defScope sAns) := ⟨rfl, rfl, rfl, by decide +kernel, rfl, by decide +kernel, by decide +kernel⟩
/-- the list that was handed in is still to be read where it stands -/
theorem keepL {H : Hp} {cl : Addr} {xs : List V} (h : SqL K H cl xs) : ∃ D : Option HO, (∀ u, D = some u → H cl = some u ∧ (∀ ps, u ≠ .tbl ps) ∧ ∀ C dx fs, u ≠ .ins C dx fs) ∧ ∀ H', (∀ u, D = some u → H' cl = some u) → SqL K H' cl xs := by
  rcases h with (h | ⟨o, h⟩) | h
  · exact ⟨_, fun u e => by cases e; exact ⟨h, fun ps z => (by cases z), fun C dx fs z => (by cases z)⟩, fun H' g => .inl (.inl (g _ rfl))⟩
  · exact ⟨_, fun u e => by cases e; exact ⟨h, fun ps z => (by cases z), fun C dx fs z => (by cases z)⟩, fun H' g => .inl (.inr ⟨o, g _ rfl⟩)⟩
  · exact ⟨none, fun u e => (by cases e), fun H' _ => .inr h⟩
theorem lnAt_line {H : Hp} {st : Kp396.State} {a lp : Addr} (h : LnAt C H st (some (a, lp))) : ∃ v, LineAt C H a lp v := by
  cases h with
  | some L ok => exact ⟨_, L⟩
theorem ok_ans {f fI : Addr} {fd fdI : FuncData} (F : Fun K "answers" "answers" sAns f fd) (T : Txt K mg C CS) (M : Mk K CS fI) (bI : Binds K fdI ["self"] []) (GI : FnOk P w K mg base CX0 1 fI fdI ["self"] (spSInit CS)) (PF : Def P w K mg base 14 "perform" ["state", "operation", "numbers"] (spPerf CS C K T5)) :
    FnOk P w K mg base CX0 15 f fd ["calls"] (spAns K T5) := by
  refine F.ok scAns (fun vs H Q E h => ?_) (fun cdv A outer s H vs Q E hr h => ?_)
  · obtain ⟨cl, l, xs, rfl, _⟩ := h
    rfl
  · obtain ⟨cl, l, xs, rfl, hS, W, h600, hT, k⟩ := h
    obtain ⟨D, hD, hSq⟩ := keepL hS
    have hone := calls_enc W.one
    have heq := W.eq
    refine ⟨_, pss_cons (ps_set (i := 1) scAns.nd rfl (.inl rfl) (pe_make0 M GI (hr.mono (by decide)) rfl T.gS bI .nil pass0))
      (pss_cons (ps_set (i := 2) scAns.nd rfl (.inl rfl) (pe_lst pa_nil))
      (pss_cons (ps_set (i := 3) scAns.nd rfl (.inl rfl) pe_int)
      (pss_cons (ps_while PassesOwn.never (pt_cmpR op_lt (pv 3) (pe_callB call_len_seq rfl T.len PySem.boot_len (pa_cons (pv 0) pa_nil)) (nomark _))
        (pss_cons (ps_set (i := 4) scAns.nd rfl (.inl rfl) (pe_op op_add (pv 3) pe_int))
        (pss_cons (ps_set (i := 5) scAns.nd rfl (.inl rfl) (pe_op op_add (pv 4) (pe_ix ix_list (pv 0) (pe_op op_add (pv 3) pe_int) (fun _ _ => rfl))))
        (pss_cons (ps_set (i := 6) scAns.nd rfl (.inl rfl) (pe_def PF hr rfl (pa_cons (pv 1) (pa_cons (pe_ix ix_list (pv 0) (pv 3) (fun _ _ => rfl)) (pa_cons (pe_slice sl_list (pv 0) (po_some (pv 4)) (po_some (pv 5))) pa_nil)))))
        (pss_cons (ps_expr (pe_bm PySem.F.plainAttrs_list PySem.F.slot_list_append PySem.F.type_list_append mt_append (pv 2) (pa_cons (pe_callB call_len_seq rfl T.len PySem.boot_len (pa_cons (pv 6) pa_nil)) pa_nil)))
        (pss_cons (ps_expr (pe_bm PySem.F.plainAttrs_list PySem.F.slot_list_extend PySem.F.type_list_extend mt_extend (pv 2) (pa_cons (pv 6) pa_nil)))
        (pss_one (ps_set (i := 3) scAns.nd rfl (.inl rfl) (pe_op op_add (pv 5) pe_int)))))))))
      (pss_one (ps_ret (pv 2)))))), ?_⟩
    intro sa d0 nx nd ne
    refine ⟨sa, d0, rfl, upd_same, fun H1 c1 kp => ⟨rfl, ?_⟩⟩
    have s1 : Same H H1 := Same.made nx nd kp
    obtain ⟨d1, h1⟩ := c1
    refine ⟨(by show 0 ≤ sizeLine; decide), fun R hR => ?_⟩
    have s2 : Same H1 (upd H1 R (.lst [])) := same_upd hR
    have big : (PyKp396.answers l).length ≤ 10000000 := W.short
    have sl : (10000000 : Nat) < sizeLine := by decide
    refine while_by (fun σ H' => ∃ (i : Nat) (o : Option (Addr × Addr)) (v4 v5 v6 : Option V), σ = [some (.ref cl), some (.ref sa), some (.ref R), some (.int (off xs i : Nat)), v4, v5, v6] ∧ i ≤ xs.length ∧ StAt CS C H' sa (stAt xs i) o ∧ H' R = some (.lst (zv (done xs i))) ∧ Tabs T5 H' ∧
        (∀ u, D = some u → H' cl = some u) ∧ ∀ a lp, o = some (a, lp) → lp ≠ R ∧ (∀ u, D = some u → lp ≠ cl))
      (fun (σ : L2.St) (_ : Hp) => match σ[3]? with | some (some (V.int z)) => (flat xs).length - z.toNat | _ => 0)
      ⟨0, none, none, none, none, rfl, Nat.zero_le _, ⟨⟨d1, s2 _ _ h1⟩, .none⟩, upd_same, hT.ext (s1.trans s2), fun u e => s2 _ _ (s1 _ _ (hD u e).1), fun a lp e => by cases e⟩ ?_ ?_
    · rintro σ H2 ⟨i, o, v4, v5, v6, rfl, hi, SA, hRes, hTb, hcl, haw⟩
      have hL := hSq H2 hcl
      refine ⟨_, rfl, _, rfl, cl, _, rfl, .inl hL, _, _, rfl, rfl, _, rfl, ite2 (fun h2 => ?_) (fun h2 => ?_)⟩
      · have h2 := of_decide_eq_true h2
        have hll : ((zv l).length : Int) = ((flat xs).length : Int) := by rw [← heq]; exact congrArg Int.ofNat (List.length_map _)
        rw [hll] at h2
        have hlt : i < xs.length := by
          by_cases q : i < xs.length
          · exact q
          · rw [off_end (by omega)] at h2
            omega
        have hx : xs[i]? = some xs[i] := List.getElem?_eq_getElem hlt
        obtain ⟨c, ec, hsm⟩ := hone _ (List.getElem_mem hlt)
        rw [ec] at hx
        have hle := off_lt hx
        have hp0 : l[off xs i]? = some (enc c).1 := by rw [heq]; exact at_place hx
        have hp1 : l[off xs i + 1]? = some ((enc c).2.length : Int) := by rw [heq]; exact at_count hx
        have hp2 : (l.drop (off xs i + 2)).take (enc c).2.length = (enc c).2 := by rw [heq]; exact at_slice hx
        have zget : ∀ {j : Nat} {z : Int}, l[j]? = some z → (zv l)[j]? = some (V.int z) := fun {j z} q => by rw [List.getElem?_map, q]; rfl
        refine ⟨_, rfl, _, _, rfl, rfl, ?_⟩
        refine ⟨_, rfl, _, rfl, _, rfl, _, _, rfl, rfl, cl, _, _, _, rfl, rfl, hL, at_of (j := off xs i + 1) (by show ((off xs i : Nat) : Int) + 1 = _; omega) (zget hp1), _, _, rfl, rfl, ?_⟩
        refine ⟨_, rfl, _, rfl, _, rfl, cl, _, _, _, rfl, rfl, hL, atI_nat (zget hp0), ?_⟩
        refine ⟨_, rfl, _, rfl, _, rfl, _, rfl, _, rfl, cl, _, rfl, hL, fun nl hnl => ?_⟩
        have ecut : cutV (zv l) (some (((off xs i : Nat) : Int) + 2)) (some (((off xs i : Nat) : Int) + 2 + ((enc c).2.length : Int))) = iv (nsOf c) := by
          have e1 : ((off xs i : Nat) : Int) + 2 = ((off xs i + 2 : Nat) : Int) := by omega
          have e2 : ((off xs i + 2 : Nat) : Int) + ((enc c).2.length : Int) = ((off xs i + 2 + (enc c).2.length : Nat) : Int) := by omega
          rw [e1, e2, cut_mid l _ _ (by rw [heq]; omega), hp2, enc_ns, zv_iv]
        rw [ecut]
        have s3 : Same H2 (upd H2 nl (.lst (iv (nsOf c)))) := same_upd hnl
        obtain ⟨dS, hS2⟩ := SA.obj
        refine ⟨sa, nl, stAt xs i, o, c, rfl, ⟨⟨dS, s3 _ _ hS2⟩, SA.ln.same s3⟩, SqL.of upd_same, hsm, hTb.ext s3, fun H3 r o' PE => ?_⟩
        -- what stands behind the call
        have nRs : R ≠ sa := ne_of hRes hS2 (by intro z; cases z)
        have awR : ∀ a lp, o = some (a, lp) → R ≠ a ∧ R ≠ lp := fun a lp q => by
          refine ⟨?_, fun z => (haw a lp q).1 z.symm⟩
          have hln := SA.ln
          subst q
          obtain ⟨v, L⟩ := lnAt_line hln
          obtain ⟨dl, hl1⟩ := L.obj
          exact ne_of hRes hl1 (by intro z; cases z)
        have hR3 : H3 R = some (.lst (zv (done xs i))) := PE.fr _ _ (s3 _ _ hRes) (fun ps z => by cases z) nRs awR
        have hcl3 : ∀ u, D = some u → H3 cl = some u := fun u e => by
          have q := hD u e
          refine PE.fr _ _ (s3 _ _ (hcl u e)) q.2.1 (ne_of (hcl u e) hS2 (q.2.2 _ _ _)) fun a lp z => ⟨?_, fun y => (haw a lp z).2 u e y.symm⟩
          have hln := SA.ln
          subst z
          obtain ⟨v, L⟩ := lnAt_line hln
          obtain ⟨dl, hl1⟩ := L.obj
          exact ne_of (hcl u e) hl1 (q.2.2 _ _ _)
        have haw3 : ∀ a lp, o' = some (a, lp) → lp ≠ R ∧ (∀ u, D = some u → lp ≠ cl) := fun a lp z => by
          rcases PE.new a lp z with y | ⟨_, y⟩
          · exact haw a lp y
          · exact ⟨(ne_of_none (s3 _ _ hRes) y).symm, fun u e => (ne_of_none (s3 _ _ (hcl u e)) y).symm⟩
        have nrR : r ≠ R := fun z => by
          obtain ⟨ps, q⟩ := PE.fresh _ (by rw [z]; exact s3 _ _ hRes)
          cases q
        have erow : rowOf (Kp396.step (stAt xs i) c).2 = row xs i (enc c) := by
          unfold row
          rw [step_enc]
          rfl
        have ans3 : H3 r = some (.lst (zv (row xs i (enc c)))) := by
          rw [← erow]
          exact PE.ans
        have hdm := done_more hx
        have hbig : (done xs (i + 1)).length ≤ 10000000 := by
          have q := done_le xs (i + 1)
          rw [← W.ans] at q
          omega
        rw [hdm, List.length_append, List.length_cons] at hbig
        -- results.append(len(answer))
        refine ⟨_, rfl, .inl ⟨rfl, _, SqL.of hR3⟩, _, rfl, r, _, rfl, .inl (SqL.of ans3), R, _, _, rfl, rfl, hR3, (by rw [List.length_map]; omega), ?_⟩
        refine ⟨_, rfl, .inl ⟨rfl, _, SqL.of upd_same⟩, _, rfl, R, r, _, _, rfl, rfl, upd_same, (upd_ne nrR).trans ans3, (by rw [List.length_append, List.length_map, List.length_map]; show (done xs i).length + 1 + _ ≤ _; omega), ?_⟩
        refine ⟨_, rfl, _, _, rfl, rfl, ?_⟩
        have hst3 := PE.stt
        obtain ⟨d3, ho3⟩ := hst3.obj
        have keep : ∀ b u, H3 b = some u → b ≠ R → upd (upd H3 R (.lst (zv (done xs i) ++ [V.int ((zv (row xs i (enc c))).length : Int)]))) R (.lst (zv (done xs i) ++ [V.int ((zv (row xs i (enc c))).length : Int)] ++ zv (row xs i (enc c)))) b = some u := fun b u e n => (upd_ne n).trans ((upd_ne n).trans e)
        refine ⟨⟨i + 1, o', some (.int (((off xs i : Nat) : Int) + 2)), some (.int (((off xs i : Nat) : Int) + 2 + ((enc c).2.length : Int))), some (.ref r), ?_, hlt, ⟨⟨d3, keep _ _ ho3 nRs.symm⟩, ?_⟩, ?_, ?_, fun u e => keep _ _ (hcl3 u e) ?_, haw3⟩, ?_⟩
        · show [_, _, _, some (V.int (((off xs i : Nat) : Int) + 2 + ((enc c).2.length : Int) + 1)), _, _, _] = _
          have e : ((off xs i : Nat) : Int) + 2 + ((enc c).2.length : Int) + 1 = ((off xs (i + 1) : Nat) : Int) := by
            rw [off_more hx]
            omega
          rw [e]
        · have e : stAt xs (i + 1) = (Kp396.step (stAt xs i) c).1 := by
            rw [stAt_more hx, step_enc]
          rw [e]
          have hln := hst3.ln
          revert hln haw3
          generalize (Kp396.step (stAt xs i) c).1 = st3
          intro haw3 hln
          cases hln with
          | none => exact .none
          | @some a lp v L ok =>
            obtain ⟨dl, hl1⟩ := L.obj
            obtain ⟨ts, hl2, hl3⟩ := L.lst
            refine .some ⟨⟨dl, keep _ _ hl1 (ne_of hR3 hl1 (by intro z; cases z)).symm⟩, ⟨ts, keep _ _ hl2 (haw3 a lp rfl).1, hl3.len, fun j t w q1 q2 => ?_⟩⟩ ok
            have q := hl3.at_ j t w q1 q2
            exact keep _ _ q (ne_of hR3 q (by intro z; cases z)).symm
        · refine upd_same.trans (congrArg (fun z => some (HO.lst z)) ?_)
          rw [hdm]
          show _ = (done xs i ++ ((row xs i (enc c)).length : Int) :: row xs i (enc c)).map V.int
          rw [List.map_append, List.map_cons, List.length_map, List.append_assoc]
          rfl
        · refine tabs_keep PE.tabs fun b u q n _ => keep _ _ q ?_
          intro z
          rw [z, hR3] at q
          exact n _ (Option.some.inj q).symm
        · intro z
          have q := hcl3 u e
          rw [z, hR3] at q
          have q2 := hcl u e
          have q3 := hD u e
          rw [z] at q3
          have nR0 : H R = none := s1.free hR
          rw [nR0] at q3
          cases q3.1
        · show (flat xs).length - (((off xs i : Nat) : Int) + 2 + ((enc c).2.length : Int) + 1).toNat < (flat xs).length - (((off xs i : Nat) : Int)).toNat
          omega
      · have h2 : ¬ _ := fun z => h2 (decide_eq_true z)
        have hll : ((zv l).length : Int) = ((flat xs).length : Int) := by rw [← heq]; exact congrArg Int.ofNat (List.length_map _)
        rw [hll] at h2
        have hge : xs.length ≤ i := by
          by_cases q : i < xs.length
          · have hx : xs[i]? = some xs[i] := List.getElem?_eq_getElem q
            have := off_lt hx
            omega
          · omega
        refine ⟨_, rfl, k H2 R ?_⟩
        rw [hRes, done_end hge, ← W.ans]
    · rintro σ H2 Q1 Q2 hq ⟨a1, b1, a2, b2, p, n, b3, b4, i, j, b5, b6, b, b7, b8⟩
      exact ⟨a1, b1, a2, b2, p, n, b3, b4, i, j, b5, b6, b, b7, hq _ _ b8⟩
end
end HW
set_option maxHeartbeats 0
/-! What the top has written, looked at once. -/
namespace HW
open PySem PySem.Spec PyProof.Rows L2
abbrev RS : PySem.W.OpenSpec := PySem.Challenge.rw_hoistmoves_s01_answers
abbrev qv : Program := PySem.W.view RS.prog [70]
def names1 : List Str := ["NO_LINE", "NO_SUCH_PIT", "OUT_OF_LIMITS", "TOO_MANY_PITS", "NONE_FOUND", "GREATEST_PIT_COUNT", "GREATEST_MOVE_TIME", "GREATEST_EMPTY_TIME", "GREATEST_LIMIT", "WIDEST_WINDOW", "GREATEST_PERIOD", "GREATEST_STAY", "GREATEST_LOTS", "is_window", "is_speed", "is_period", "is_lots", "is_plan", "Line", "move_times", "stays_between", "allowed_gap", "moves_conflict", "hoist_keeps_up", "stays_allowed", "plan_feasible", "find_first_conflict", "next_starts", "first_times_from", "count_plans_from"]
def names2 : List Str := ["find_first_plan", "count_plans", "find_shortest_period", "find_feasible_periods", "time_through", "pits_occupied", "most_occupied", "CREATE", "State", "create", "add_pit", "remove_pit", "set_window", "set_speed", "get_pit", "shortest_period", "answer_by_first_plan", "first_plan", "start_times", "answer_on_plan"]
def names3 : List Str := ["judge_feasible", "is_feasible", "judge_conflict", "first_conflict", "plan_count", "throughput_time", "max_occupied", "completion_time", "shortest_period_with", "shortest_period_with_window", "shortest_period_with_speed", "feasible_periods", "status", "OPERATIONS", "perform"]
def names : List Str := names1 ++ (names2 ++ names3)
/-- a def of the top, a method -/
def dD (x : Str) (i : Nat) : He.DefD := ⟨(x, none), x, x, defArgs (topS i), defBody (topS i), defScope (topS i), [], []⟩
def dM (C m q : Str) (i j : Nat) : He.DefD := ⟨(C, some m), m, q, defArgs (inClass (topS i) j), defBody (inClass (topS i) j), defScope (inClass (topS i) j), [], []⟩
def fn1 : List He.DefD := [dD "is_window" 14, dD "is_speed" 15, dD "is_period" 16, dD "is_lots" 17, dD "is_plan" 18, dM "Line" "__init__" "Line.__init__" 20 0, dM "Line" "has_pit" "Line.has_pit" 20 1, dM "Line" "twin" "Line.twin" 20 2, dM "Line" "bound" "Line.bound" 20 3, dM "Line" "reach" "Line.reach" 20 4,
  dD "move_times" 22, dD "stays_between" 23, dD "allowed_gap" 24, dD "moves_conflict" 25, dD "hoist_keeps_up" 26, dD "stays_allowed" 27, dD "plan_feasible" 28, dD "find_first_conflict" 29, dD "next_starts" 30, dD "first_times_from" 31, dD "count_plans_from" 32, dD "find_first_plan" 33, dD "count_plans" 34, dD "find_shortest_period" 35, dD "find_feasible_periods" 36]
def fn2 : List He.DefD := [dD "time_through" 37, dD "pits_occupied" 38, dD "most_occupied" 39, dM "State" "__init__" "State.__init__" 42 0, dD "create" 43, dD "add_pit" 44, dD "remove_pit" 45, dD "set_window" 46, dD "set_speed" 47, dD "get_pit" 48, dD "shortest_period" 49, dD "answer_by_first_plan" 50, dD "first_plan" 51, dD "start_times" 52, dD "answer_on_plan" 53,
  dD "judge_feasible" 54, dD "is_feasible" 55, dD "judge_conflict" 56, dD "first_conflict" 57, dD "plan_count" 58, dD "throughput_time" 59, dD "max_occupied" 60, dD "completion_time" 61, dD "shortest_period_with" 62, dD "shortest_period_with_window" 63, dD "shortest_period_with_speed" 64, dD "feasible_periods" 65, dD "status" 66, dD "perform" 68, dD "answers" 70]
def fns : List He.DefD := fn1 ++ fn2
/-- the functions' names -/
def gNames : List Str := ["is_window", "is_speed", "is_period", "is_lots", "is_plan", "move_times", "stays_between", "allowed_gap", "moves_conflict", "hoist_keeps_up", "stays_allowed", "plan_feasible", "find_first_conflict", "next_starts", "first_times_from", "count_plans_from", "find_first_plan", "count_plans", "find_shortest_period", "find_feasible_periods", "time_through", "pits_occupied", "most_occupied", "create", "add_pit", "remove_pit", "set_window", "set_speed"]
def gNames2 : List Str := ["get_pit", "shortest_period", "answer_by_first_plan", "first_plan", "start_times", "answer_on_plan", "judge_feasible", "is_feasible", "judge_conflict", "first_conflict", "plan_count", "throughput_time", "max_occupied", "completion_time", "shortest_period_with", "shortest_period_with_window", "shortest_period_with_speed", "feasible_periods", "status", "perform", "answers", "Line", "State", "OPERATIONS"]
def bNames : List Str := ["len", "range", "abs", "min", "max", "sum", "all", "zip", "enumerate", "list"]
def fMore : List He.Fa := [.int "NO_LINE" (-11), .int "NO_SUCH_PIT" (-2), .int "OUT_OF_LIMITS" (-22), .int "TOO_MANY_PITS" (-28), .int "NONE_FOUND" (-33), .int "GREATEST_PIT_COUNT" 4, .int "GREATEST_MOVE_TIME" 9, .int "GREATEST_EMPTY_TIME" 4, .int "GREATEST_LIMIT" 30, .int "WIDEST_WINDOW" 8, .int "GREATEST_PERIOD" 99, .int "GREATEST_STAY" 99, .int "GREATEST_LOTS" 99, .int "CREATE" 0,
  .cls "Line", .noat "Line" "pits", .noat "Line" "move_time", .noat "Line" "empty_time", .mkr "Line", .meth "Line" "has_pit", .meth "Line" "twin", .meth "Line" "bound", .meth "Line" "reach", .cls "State", .noat "State" "line", .mkr "State"]
def fas : List He.Fa := (gNames ++ gNames2).map He.Fa.glo ++ (bNames.map He.Fa.free ++ fMore)
/-- the defs that make a lambda -/
def tfs : List He.Defn := [("first_plan", none), ("start_times", none), ("throughput_time", none), ("max_occupied", none), ("completion_time", none)]
/-- the operations by their numbers -/
def opNames : List Str := ["add_pit", "remove_pit", "set_window", "set_speed", "get_pit", "shortest_period", "first_plan", "start_times", "is_feasible", "first_conflict", "plan_count", "throughput_time", "max_occupied", "completion_time", "shortest_period_with_window", "shortest_period_with_speed", "feasible_periods", "status"]
def entryB (K : PySem.W.Frag) (e : DictEntry) (i : Nat) (x : Str) : Bool := (match e.key with
  | .int k _ => decide (k = (i : Int)) && decide (e.hash = hashInt k)
  | _ => false) && (match e.val with
  | .ref a => decide (a = He.ga K x)
  | _ => false)
def entriesB (K : PySem.W.Frag) : List DictEntry → Nat → List Str → Bool
  | [], _, [] => true
  | e :: es, i, x :: xs => entryB K e i x && entriesB K es (i + 1) xs
  | _, _, _ => false
def opsB (K : PySem.W.Frag) : Bool := match K.lookup (He.ga K "OPERATIONS") with
  | some ⟨.type c, none, .dict es _, sl⟩ => decide (c = "dict") && (sl.isEmpty && entriesB K es.toList 1 opNames)
  | _ => false
def exB (K : PySem.W.Frag) : Bool := opsB K && decide ((tfs.map fun p => (He.cT K p).2).Nodup)
/-- where the objects lie that the facts speak of -/
def asP0 : List Addr := [3, 21, 28, 35, 42, 47, 92, 103, 108, 115, 122, 129, 136, 143, 150, 155, 162, 167, 174, 181, 188, 193, 200, 207, 212, 229, 240, 247, 254]
def asP1 : List Addr := [261, 268, 275, 282, 289, 296, 303, 310, 317, 324, 331, 338, 345, 352, 359, 366, 373, 380, 387, 394, 401, 402, 410, 417, 20, 27, 34, 41, 46]
def asP2 : List Addr := [91, 102, 107, 114, 121, 128, 135, 142, 149, 154, 161, 166, 173, 180, 187, 192, 199, 206, 211, 228, 239, 246, 253, 260, 267, 274, 281, 288, 295]
def asP3 : List Addr := [302, 309, 316, 323, 330, 337, 344, 351, 358, 365, 372, 379, 386, 393, 400, 409, 416, 61, 68, 75, 82, 89, 226, 60, 67, 74, 81, 88, 225]
def asP : List Addr := asP0 ++ (asP1 ++ (asP2 ++ asP3))
/-- what is looked at, off these objects -/
def obsP (g : Addr → Option Obj) : He.AlX := (He.obsT fas fns [] (He.frT g asP), exB (He.frT g asP) && He.tabsB g tfs (He.frT g asP))
theorem says_of {w : World} {h : Heap} (e : obsP h.get? = He.valX fns [] w) : He.SaysX fas fns [] tfs exB w h (He.frT h.get? asP) := by
  unfold obsP He.valX at e
  obtain ⟨p1, p2⟩ := Prod.mk.inj e
  obtain ⟨p3, p4⟩ := Bool.and_eq_true_iff.mp p2
  have each : ∀ p ∈ tfs, PySem.W.codeHdIn (He.frT h.get? asP) (He.cT (He.frT h.get? asP) p).1 (He.cT (He.frT h.get? asP) p).2 = true ∧ ∃ o, h.get? (He.cT (He.frT h.get? asP) p).2 = some o ∧ He.emptyTab o = true := fun p hp => by
    obtain ⟨q1, q2⟩ := Bool.and_eq_true_iff.mp (List.all_eq_true.mp p4 p hp)
    cases z : h.get? (He.cT (He.frT h.get? asP) p).2 with
    | none =>
      rw [z] at q2
      cases q2
    | some o =>
      rw [z] at q2
      exact ⟨q1, o, rfl, q2⟩
  refine ⟨p1, p3, fun p hp => (each p hp).1, fun p hp => ?_, fun p hp => ?_⟩
  · obtain ⟨_, o, z, t⟩ := each p hp
    exact He.frT_none z t
  · obtain ⟨_, o, z, t⟩ := each p hp
    rw [z, He.emptyTab_eq t]
def hkS : PySem.W.Hook where
  α := He.AlX
  obs := fun s => obsP s.heap.get?
  val := fun w => He.valX fns [] w
  says := fun w h => ∃ K : PySem.W.Frag, K.In h ∧ He.SaysX fas fns [] tfs exB w h K
  of := fun _ _ e => ⟨_, He.frT_in, says_of e⟩
  keeps := fun _ _ _ ⟨K, hK, c⟩ k => ⟨K, PySem.W.Frag.In.keeps hK k, ⟨c.t, c.more, c.hd, c.out, fun p hp => k _ _ (c.empty p hp)⟩⟩
def obS (s : PySem.W.SharedT) : He.AlX := obsP (HeadRun.getT s)
theorem obS_eq (s : PySem.W.SharedT) : obS s = hkS.obs s.abs := by
  have e : HeadRun.getT s = s.abs.heap.get? := funext (HeadRun.getT_eq s)
  unfold obS
  rw [e]
  rfl
end HW
set_option maxHeartbeats 4000000
/-! All promises, from what the top has written. -/
namespace HW
open PySem PySem.Spec PyProof.Rows L2 LamX HM
section
variable {P : Program} {w : World} {K : PySem.W.Frag} {mg : Str → Option Value} {base h : Heap}
theorem fun_of {x q : Str} {st : Stmt} {f : Addr} {fd : FuncData} (F : FunD K x q (defArgs st) (defBody st) (defScope st) [] [] f fd) : Fun K x q st f fd := by
  obtain ⟨⟨oc, od, dV, kV, doc, pm, an, cdv, ct, osl, e, lk, hc, hd, _⟩, kp⟩ := F
  rcases hd with ⟨_, e2⟩ | ⟨n, _⟩
  · subst e2
    exact ⟨⟨oc, od, kV, doc, pm, an, cdv, ct, osl, e, lk, hc⟩, kp⟩
  · exact absurd rfl n
theorem funC_of {x : Str} {st : Stmt} {fd : FuncData} (F : FunD K x x (defArgs st) (defBody st) (defScope st) [] [] (He.fAd K (x, none)) fd) : FunC K x x st (He.ga K x) fd (He.cT K (x, none)).1 := by
  obtain ⟨⟨oc, od, dV, kV, doc, pm, an, cdv, ct, osl, e, lk, hc, hd, _⟩, kp⟩ := F
  obtain ⟨c, ec⟩ := He.codeIn_ref hc
  subst ec
  rcases hd with ⟨_, e2⟩ | ⟨n, _⟩
  · subst e2
    subst e
    have q : (He.cT K (x, none)).1 = c := He.codeOf_eq (p := (x, none)) lk rfl
    rw [q]
    exact ⟨⟨oc, od, kV, doc, pm, an, ct, osl, rfl, lk, hc⟩, kp⟩
  · exact absurd rfl n
theorem funC_fun {x : Str} {st : Stmt} {f c : Addr} {fd : FuncData} (F : FunC K x x st f fd c) : Fun K x x st f fd := by
  obtain ⟨⟨oc, od, kV, doc, pm, an, ct, osl, e, lk, hc⟩, kp⟩ := F
  exact ⟨⟨oc, od, kV, doc, pm, an, _, ct, osl, e, lk, hc⟩, kp⟩
theorem entries_ok : ∀ {l : List DictEntry} {n : Nat} {xs : List Str}, entriesB K l n xs = true → KeysInt l ∧ (∀ e ∈ l, ∀ k t, e.key = .int k t → (n : Int) ≤ k) ∧ ∀ i x, xs[i]? = some x → (l.find? fun e => Value.isInt (((n + i : Nat) : Int)) e.key).map (·.val) = some (.ref (He.ga K x))
  | [], n, [], _ => ⟨fun e he => (by cases he), fun e he => (by cases he), fun i x hx => (by simp at hx)⟩
  | [], _, _ :: _, hh => by cases hh
  | _ :: _, _, [], hh => by cases hh
  | e :: l, n, x :: xs, hh => by
    obtain ⟨h1, h2⟩ := He.ba (show (entryB K e n x && entriesB K l (n + 1) xs) = true from hh)
    obtain ⟨k1, k2, k3⟩ := entries_ok h2
    obtain ⟨h3, h4⟩ := He.ba h1
    obtain ⟨ek, t, ekey, ehash, eint⟩ : ∃ k t, e.key = .int k t ∧ e.hash = hashInt k ∧ k = (n : Int) := by
      cases q : e.key with
      | int k t =>
        rw [q] at h3
        obtain ⟨a, b⟩ := He.ba h3
        exact ⟨k, t, rfl, of_decide_eq_true b, of_decide_eq_true a⟩
      | _ =>
        rw [q] at h3
        cases h3
    have eval_ : e.val = .ref (He.ga K x) := by
      cases q : e.val with
      | ref a =>
        rw [q] at h4
        rw [of_decide_eq_true h4]
      | _ =>
        rw [q] at h4
        cases h4
    subst eint
    refine ⟨fun e' he => ?_, fun e' he k' t' q => ?_, fun i y hy => ?_⟩
    · rcases List.mem_cons.mp he with z | z
      · rw [z]
        exact ⟨_, t, ekey, ehash⟩
      · exact k1 e' z
    · rcases List.mem_cons.mp he with z | z
      · rw [z, ekey] at q
        cases q
        exact Int.le_refl _
      · have := k2 e' z k' t' q
        omega
    · cases i with
      | zero =>
        have ey : x = y := Option.some.inj hy
        subst ey
        rw [List.find?_cons_of_pos (by rw [ekey]; simp [Value.isInt])]
        show some e.val = _
        rw [eval_]
      | succ i =>
        have q := k3 i y hy
        rw [List.find?_cons_of_neg (by rw [ekey]; simp [Value.isInt]; omega)]
        have e2 : n + (i + 1) = n + 1 + i := by omega
        rw [e2]
        exact q
theorem ops_ok (hh : opsB K = true) {i : Nat} {x : Str} (hx : opNames[i]? = some x) : KDctI K (He.ga K "OPERATIONS") ((1 + i : Nat) : Int) (.ref (He.ga K x)) := by
  unfold opsB at hh
  cases q : K.lookup (He.ga K "OPERATIONS") with
  | none =>
    rw [q] at hh
    cases hh
  | some o =>
    obtain ⟨oc, od, dt, sl⟩ := o
    rw [q] at hh
    cases oc with
    | type c =>
      cases od with
      | none =>
        cases dt with
        | dict es n =>
          obtain ⟨h1, h2⟩ := He.ba (show (decide (c = "dict") && (sl.isEmpty && entriesB K es.toList 1 opNames)) = true from hh)
          obtain ⟨h3, h4⟩ := He.ba h2
          obtain ⟨k1, _, k3⟩ := entries_ok h4
          have e1 := of_decide_eq_true h1
          have e2 : sl = #[] := Array.isEmpty_iff.mp h3
          subst e1
          subst e2
          refine ⟨es, n, _, q, k1, ?_, rfl⟩
          have z := k3 i x hx
          rw [← z]
          unfold findBy
          rw [← Array.find?_toList]
        | _ => cases hh
      | some d => cases dt <;> cases hh
    | _ => cases od <;> cases dt <;> cases hh
theorem inj_nodup {α β : Type} {f : α → β} : ∀ {l : List α}, (l.map f).Nodup → ∀ a ∈ l, ∀ b ∈ l, f a = f b → a = b
  | [], _, a, ha, _, _, _ => by cases ha
  | c :: l, nd, a, ha, b, hb, e => by
    have nd := List.nodup_cons.mp nd
    rcases List.mem_cons.mp ha with za | za <;> rcases List.mem_cons.mp hb with zb | zb
    · rw [za, zb]
    · exact absurd (List.mem_map.mpr ⟨b, zb, by rw [← e, za]⟩) nd.1
    · exact absurd (List.mem_map.mpr ⟨a, za, by rw [e, zb]⟩) nd.1
    · exact inj_nodup nd.2 a za b zb e
/-- the makers' tables with their lambdas' names; their code objects and tables -/
def T5 (K : PySem.W.Frag) : List (Addr × Str) := tfs.map fun p => ((He.cT K p).2, lamQ p.1)
def cs5 (K : PySem.W.Frag) : List (Addr × Addr) := tfs.map (He.cT K)
theorem maker_of (ex : exB K = true) (TB : ∀ p ∈ cs5 K, TabB base mg p.1 p.2) {x : Str} (hx : (x, none) ∈ tfs) : Maker base mg (T5 K) x (He.cT K (x, none)).1 (He.cT K (x, none)).2 := by
  refine ⟨TB _ (List.mem_map.mpr ⟨_, hx, rfl⟩), List.mem_map.mpr ⟨_, hx, rfl⟩, fun p hp e => ?_⟩
  obtain ⟨q, hq, rfl⟩ := List.mem_map.mp hp
  have nd := of_decide_eq_true (He.ba ex).2
  have z := inj_nodup nd q hq (x, none) hx e
  rw [z]
end

section
variable {P : Program} {w : World} {K : PySem.W.Frag} {mg : Str → Option Value} {h : Heap}
theorem us1 {P : List Value → Prop} (h : ∀ a, P [a]) : ∀ us : List Value, us.length = 1 → P us
  | [a], _ => h a
theorem us2 {P : List Value → Prop} (h : ∀ a b, P [a, b]) : ∀ us : List Value, us.length = 2 → P us
  | [a, b], _ => h a b
theorem us3 {P : List Value → Prop} (h : ∀ a b c, P [a, b, c]) : ∀ us : List Value, us.length = 3 → P us
  | [a, b, c], _ => h a b c
theorem us4 {P : List Value → Prop} (h : ∀ a b c d, P [a, b, c, d]) : ∀ us : List Value, us.length = 4 → P us
  | [a, b, c, d], _ => h a b c d
theorem us5 {P : List Value → Prop} (h : ∀ a b c d e, P [a, b, c, d, e]) : ∀ us : List Value, us.length = 5 → P us
  | [a, b, c, d, e], _ => h a b c d e
theorem fas_more {f : He.Fa} (i : Nat) (e : fMore[i]? = some f) : f ∈ fas := List.mem_append_right _ (List.mem_append_right _ (List.mem_of_getElem? e))
theorem fas_glo {x : Str} (e : x ∈ gNames ++ gNames2) : He.Fa.glo x ∈ fas := List.mem_append_left _ (List.mem_map.mpr ⟨x, e, rfl⟩)
theorem fas_free {x : Str} (e : x ∈ bNames) : He.Fa.free x ∈ fas := List.mem_append_right _ (List.mem_append_left _ (List.mem_map.mpr ⟨x, e, rfl⟩))
theorem txt_of (X : K.In h) (G : h.Ns mainGlobals mg) (c : He.SaysD fas fns K) : Txt K mg (He.ga K "Line") (He.ga K "State") where
  cl := He.cls_ok (c.facts (fas_more 14 rfl))
  nP := He.noat_ok (c.facts (fas_more 15 rfl))
  nM := He.noat_ok (c.facts (fas_more 16 rfl))
  nE := He.noat_ok (c.facts (fas_more 17 rfl))
  gC := He.glo_ok X G (c.facts (fas_glo (by decide +kernel)))
  clS := He.cls_ok (c.facts (fas_more 23 rfl))
  nL := He.noat_ok (c.facts (fas_more 24 rfl))
  gS := He.glo_ok X G (c.facts (fas_glo (by decide +kernel)))
  len := He.free_ok X G (c.facts (fas_free (by decide +kernel)))
  range := He.free_ok X G (c.facts (fas_free (by decide +kernel)))
  abs := He.free_ok X G (c.facts (fas_free (by decide +kernel)))
  min := He.free_ok X G (c.facts (fas_free (by decide +kernel)))
  max := He.free_ok X G (c.facts (fas_free (by decide +kernel)))
  sum := He.free_ok X G (c.facts (fas_free (by decide +kernel)))
  all := He.free_ok X G (c.facts (fas_free (by decide +kernel)))
  zip := He.free_ok X G (c.facts (fas_free (by decide +kernel)))
  enumerate := He.free_ok X G (c.facts (fas_free (by decide +kernel)))
  list := He.free_ok X G (c.facts (fas_free (by decide +kernel)))
  cLine := He.int_ok X G (c.facts (fas_more 0 rfl))
  cPit := He.int_ok X G (c.facts (fas_more 1 rfl))
  cOut := He.int_ok X G (c.facts (fas_more 2 rfl))
  cMany := He.int_ok X G (c.facts (fas_more 3 rfl))
  cNone := He.int_ok X G (c.facts (fas_more 4 rfl))
  gPits := He.int_ok X G (c.facts (fas_more 5 rfl))
  gMove := He.int_ok X G (c.facts (fas_more 6 rfl))
  gEmpty := He.int_ok X G (c.facts (fas_more 7 rfl))
  gLimit := He.int_ok X G (c.facts (fas_more 8 rfl))
  gWide := He.int_ok X G (c.facts (fas_more 9 rfl))
  gPeriod := He.int_ok X G (c.facts (fas_more 10 rfl))
  gStay := He.int_ok X G (c.facts (fas_more 11 rfl))
  gLots := He.int_ok X G (c.facts (fas_more 12 rfl))
  gCreate := He.int_ok X G (c.facts (fas_more 13 rfl))
theorem get_d (c : He.SaysD fas fns K) {x : Str} {i j : Nat} (e : fns[i]? = some (dD x j)) : ∃ fd, FunD K x x (defArgs (topS j)) (defBody (topS j)) (defScope (topS j)) [] [] (He.ga K x) fd := c.def_ i (d := dD x j) e
theorem get_m (c : He.SaysD fas fns K) {C m q : Str} {i j n : Nat} (e : fns[i]? = some (dM C m q j n)) : ∃ fd, FunD K m q (defArgs (inClass (topS j) n)) (defBody (inClass (topS j) n)) (defScope (inClass (topS j) n)) [] [] (He.fAd K (C, some m)) fd := c.def_ i (d := dM C m q j n) e
/-- answers keeps its promise -/
theorem all_ok (X : K.In h) (G : h.Ns mainGlobals mg) (c : He.SaysD fas fns K) (ex : exB K = true) : ∃ fd : FuncData, (∀ (s : Shared) (us : List Value), us.length = (["calls"] : List Str).length → BindsTo s fd ⟨us, []⟩ ((["calls"] : List Str).zip us)) ∧
    ∀ base : Heap, K.In base → base.Ns mainGlobals mg → (∀ p ∈ cs5 K, TabB base mg p.1 p.2) → FnOk P w K mg base CX0 15 (He.ga K "answers") fd ["calls"] (spAns K (T5 K)) := by
  have T := txt_of X G c
  have gl : ∀ {x : Str}, x ∈ gNames ++ gNames2 → mg x = some (.ref (He.ga K x)) := fun e => He.glo_ok X G (c.facts (fas_glo e))
  have ops := (He.ba ex).1
  obtain ⟨d0, D0⟩ := get_d c (x := "is_window") (i := 0) (j := 14) rfl
  have F0 := fun_of D0
  obtain ⟨d1, D1⟩ := get_d c (x := "is_speed") (i := 1) (j := 15) rfl
  have F1 := fun_of D1
  obtain ⟨d2, D2⟩ := get_d c (x := "is_period") (i := 2) (j := 16) rfl
  have F2 := fun_of D2
  obtain ⟨d3, D3⟩ := get_d c (x := "is_lots") (i := 3) (j := 17) rfl
  have F3 := fun_of D3
  obtain ⟨d4, D4⟩ := get_d c (x := "is_plan") (i := 4) (j := 18) rfl
  have F4 := fun_of D4
  obtain ⟨d5, D5⟩ := get_m c (C := "Line") (m := "__init__") (q := "Line.__init__") (i := 5) (j := 20) (n := 0) rfl
  have F5 := fun_of D5
  obtain ⟨d6, D6⟩ := get_m c (C := "Line") (m := "has_pit") (q := "Line.has_pit") (i := 6) (j := 20) (n := 1) rfl
  have F6 := fun_of D6
  obtain ⟨d7, D7⟩ := get_m c (C := "Line") (m := "twin") (q := "Line.twin") (i := 7) (j := 20) (n := 2) rfl
  have F7 := fun_of D7
  obtain ⟨d8, D8⟩ := get_m c (C := "Line") (m := "bound") (q := "Line.bound") (i := 8) (j := 20) (n := 3) rfl
  have F8 := fun_of D8
  obtain ⟨d9, D9⟩ := get_m c (C := "Line") (m := "reach") (q := "Line.reach") (i := 9) (j := 20) (n := 4) rfl
  have F9 := fun_of D9
  obtain ⟨d10, D10⟩ := get_d c (x := "move_times") (i := 10) (j := 22) rfl
  have F10 := fun_of D10
  obtain ⟨d11, D11⟩ := get_d c (x := "stays_between") (i := 11) (j := 23) rfl
  have F11 := fun_of D11
  obtain ⟨d12, D12⟩ := get_d c (x := "allowed_gap") (i := 12) (j := 24) rfl
  have F12 := fun_of D12
  obtain ⟨d13, D13⟩ := get_d c (x := "moves_conflict") (i := 13) (j := 25) rfl
  have F13 := fun_of D13
  obtain ⟨d14, D14⟩ := get_d c (x := "hoist_keeps_up") (i := 14) (j := 26) rfl
  have F14 := fun_of D14
  obtain ⟨d15, D15⟩ := get_d c (x := "stays_allowed") (i := 15) (j := 27) rfl
  have F15 := fun_of D15
  obtain ⟨d16, D16⟩ := get_d c (x := "plan_feasible") (i := 16) (j := 28) rfl
  have F16 := fun_of D16
  obtain ⟨d17, D17⟩ := get_d c (x := "find_first_conflict") (i := 17) (j := 29) rfl
  have F17 := fun_of D17
  obtain ⟨d18, D18⟩ := get_d c (x := "next_starts") (i := 18) (j := 30) rfl
  have F18 := fun_of D18
  obtain ⟨d19, D19⟩ := get_d c (x := "first_times_from") (i := 19) (j := 31) rfl
  have F19 := fun_of D19
  obtain ⟨d20, D20⟩ := get_d c (x := "count_plans_from") (i := 20) (j := 32) rfl
  have F20 := fun_of D20
  obtain ⟨d21, D21⟩ := get_d c (x := "find_first_plan") (i := 21) (j := 33) rfl
  have F21 := fun_of D21
  obtain ⟨d22, D22⟩ := get_d c (x := "count_plans") (i := 22) (j := 34) rfl
  have F22 := fun_of D22
  obtain ⟨d23, D23⟩ := get_d c (x := "find_shortest_period") (i := 23) (j := 35) rfl
  have F23 := fun_of D23
  obtain ⟨d24, D24⟩ := get_d c (x := "find_feasible_periods") (i := 24) (j := 36) rfl
  have F24 := fun_of D24
  obtain ⟨d25, D25⟩ := get_d c (x := "time_through") (i := 25) (j := 37) rfl
  have F25 := fun_of D25
  obtain ⟨d26, D26⟩ := get_d c (x := "pits_occupied") (i := 26) (j := 38) rfl
  have F26 := fun_of D26
  obtain ⟨d27, D27⟩ := get_d c (x := "most_occupied") (i := 27) (j := 39) rfl
  have F27 := fun_of D27
  obtain ⟨d28, D28⟩ := get_m c (C := "State") (m := "__init__") (q := "State.__init__") (i := 28) (j := 42) (n := 0) rfl
  have F28 := fun_of D28
  obtain ⟨d29, D29⟩ := get_d c (x := "create") (i := 29) (j := 43) rfl
  have F29 := fun_of D29
  obtain ⟨d30, D30⟩ := get_d c (x := "add_pit") (i := 30) (j := 44) rfl
  have F30 := fun_of D30
  obtain ⟨d31, D31⟩ := get_d c (x := "remove_pit") (i := 31) (j := 45) rfl
  have F31 := fun_of D31
  obtain ⟨d32, D32⟩ := get_d c (x := "set_window") (i := 32) (j := 46) rfl
  have F32 := fun_of D32
  obtain ⟨d33, D33⟩ := get_d c (x := "set_speed") (i := 33) (j := 47) rfl
  have F33 := fun_of D33
  obtain ⟨d34, D34⟩ := get_d c (x := "get_pit") (i := 34) (j := 48) rfl
  have F34 := fun_of D34
  obtain ⟨d35, D35⟩ := get_d c (x := "shortest_period") (i := 35) (j := 49) rfl
  have F35 := fun_of D35
  obtain ⟨d36, D36⟩ := get_d c (x := "answer_by_first_plan") (i := 36) (j := 50) rfl
  have F36 := fun_of D36
  obtain ⟨d37, D37⟩ := get_d c (x := "first_plan") (i := 37) (j := 51) rfl
  have C37 := funC_of D37
  have F37 := funC_fun C37
  obtain ⟨d38, D38⟩ := get_d c (x := "start_times") (i := 38) (j := 52) rfl
  have C38 := funC_of D38
  have F38 := funC_fun C38
  obtain ⟨d39, D39⟩ := get_d c (x := "answer_on_plan") (i := 39) (j := 53) rfl
  have F39 := fun_of D39
  obtain ⟨d40, D40⟩ := get_d c (x := "judge_feasible") (i := 40) (j := 54) rfl
  have F40 := fun_of D40
  obtain ⟨d41, D41⟩ := get_d c (x := "is_feasible") (i := 41) (j := 55) rfl
  have F41 := fun_of D41
  obtain ⟨d42, D42⟩ := get_d c (x := "judge_conflict") (i := 42) (j := 56) rfl
  have F42 := fun_of D42
  obtain ⟨d43, D43⟩ := get_d c (x := "first_conflict") (i := 43) (j := 57) rfl
  have F43 := fun_of D43
  obtain ⟨d44, D44⟩ := get_d c (x := "plan_count") (i := 44) (j := 58) rfl
  have F44 := fun_of D44
  obtain ⟨d45, D45⟩ := get_d c (x := "throughput_time") (i := 45) (j := 59) rfl
  have C45 := funC_of D45
  have F45 := funC_fun C45
  obtain ⟨d46, D46⟩ := get_d c (x := "max_occupied") (i := 46) (j := 60) rfl
  have C46 := funC_of D46
  have F46 := funC_fun C46
  obtain ⟨d47, D47⟩ := get_d c (x := "completion_time") (i := 47) (j := 61) rfl
  have C47 := funC_of D47
  have F47 := funC_fun C47
  obtain ⟨d48, D48⟩ := get_d c (x := "shortest_period_with") (i := 48) (j := 62) rfl
  have F48 := fun_of D48
  obtain ⟨d49, D49⟩ := get_d c (x := "shortest_period_with_window") (i := 49) (j := 63) rfl
  have F49 := fun_of D49
  obtain ⟨d50, D50⟩ := get_d c (x := "shortest_period_with_speed") (i := 50) (j := 64) rfl
  have F50 := fun_of D50
  obtain ⟨d51, D51⟩ := get_d c (x := "feasible_periods") (i := 51) (j := 65) rfl
  have F51 := fun_of D51
  obtain ⟨d52, D52⟩ := get_d c (x := "status") (i := 52) (j := 66) rfl
  have F52 := fun_of D52
  obtain ⟨d53, D53⟩ := get_d c (x := "perform") (i := 53) (j := 68) rfl
  have F53 := fun_of D53
  obtain ⟨d54, D54⟩ := get_d c (x := "answers") (i := 54) (j := 70) rfl
  have F54 := fun_of D54
  have b0 : Binds K d0 ["least", "most"] [] := F0.binds (ps := ["least", "most"]) fun _ _ _ _ _ _ => us2 fun _ _ => by kernel_rfl
  have b1 : Binds K d1 ["move_time", "empty_time"] [] := F1.binds (ps := ["move_time", "empty_time"]) fun _ _ _ _ _ _ => us2 fun _ _ => by kernel_rfl
  have b2 : Binds K d2 ["period"] [] := F2.binds (ps := ["period"]) fun _ _ _ _ _ _ => us1 fun _ => by kernel_rfl
  have b3 : Binds K d3 ["lots"] [] := F3.binds (ps := ["lots"]) fun _ _ _ _ _ _ => us1 fun _ => by kernel_rfl
  have b4 : Binds K d4 ["plan", "pit_count"] [] := F4.binds (ps := ["plan", "pit_count"]) fun _ _ _ _ _ _ => us2 fun _ _ => by kernel_rfl
  have b5 : Binds K d5 ["self", "move_time", "empty_time"] [] := F5.binds (ps := ["self", "move_time", "empty_time"]) fun _ _ _ _ _ _ => us3 fun _ _ _ => by kernel_rfl
  have b6 : Binds K d6 ["self", "pit"] [] := F6.binds (ps := ["self", "pit"]) fun _ _ _ _ _ _ => us2 fun _ _ => by kernel_rfl
  have b7 : Binds K d7 ["self"] [] := F7.binds (ps := ["self"]) fun _ _ _ _ _ _ => us1 fun _ => by kernel_rfl
  have b8 : Binds K d8 ["self"] [] := F8.binds (ps := ["self"]) fun _ _ _ _ _ _ => us1 fun _ => by kernel_rfl
  have b9 : Binds K d9 ["self", "move", "other"] [] := F9.binds (ps := ["self", "move", "other"]) fun _ _ _ _ _ _ => us3 fun _ _ _ => by kernel_rfl
  have b10 : Binds K d10 ["line", "plan"] [] := F10.binds (ps := ["line", "plan"]) fun _ _ _ _ _ _ => us2 fun _ _ => by kernel_rfl
  have b11 : Binds K d11 ["line", "times"] [] := F11.binds (ps := ["line", "times"]) fun _ _ _ _ _ _ => us2 fun _ _ => by kernel_rfl
  have b12 : Binds K d12 ["line", "period", "first", "second"] [] := F12.binds (ps := ["line", "period", "first", "second"]) fun _ _ _ _ _ _ => us4 fun _ _ _ _ => by kernel_rfl
  have b13 : Binds K d13 ["line", "period", "times", "first", "second"] [] := F13.binds (ps := ["line", "period", "times", "first", "second"]) fun _ _ _ _ _ _ => us5 fun _ _ _ _ _ => by kernel_rfl
  have b14 : Binds K d14 ["line", "period"] [] := F14.binds (ps := ["line", "period"]) fun _ _ _ _ _ _ => us2 fun _ _ => by kernel_rfl
  have b15 : Binds K d15 ["line", "period", "plan"] [] := F15.binds (ps := ["line", "period", "plan"]) fun _ _ _ _ _ _ => us3 fun _ _ _ => by kernel_rfl
  have b16 : Binds K d16 ["line", "period", "plan"] [] := F16.binds (ps := ["line", "period", "plan"]) fun _ _ _ _ _ _ => us3 fun _ _ _ => by kernel_rfl
  have b17 : Binds K d17 ["line", "period", "plan"] [] := F17.binds (ps := ["line", "period", "plan"]) fun _ _ _ _ _ _ => us3 fun _ _ _ => by kernel_rfl
  have b18 : Binds K d18 ["line", "period", "times"] [] := F18.binds (ps := ["line", "period", "times"]) fun _ _ _ _ _ _ => us3 fun _ _ _ => by kernel_rfl
  have b19 : Binds K d19 ["line", "period", "times"] [] := F19.binds (ps := ["line", "period", "times"]) fun _ _ _ _ _ _ => us3 fun _ _ _ => by kernel_rfl
  have b20 : Binds K d20 ["line", "period", "times"] [] := F20.binds (ps := ["line", "period", "times"]) fun _ _ _ _ _ _ => us3 fun _ _ _ => by kernel_rfl
  have b21 : Binds K d21 ["line", "period"] [] := F21.binds (ps := ["line", "period"]) fun _ _ _ _ _ _ => us2 fun _ _ => by kernel_rfl
  have b22 : Binds K d22 ["line", "period"] [] := F22.binds (ps := ["line", "period"]) fun _ _ _ _ _ _ => us2 fun _ _ => by kernel_rfl
  have b23 : Binds K d23 ["line"] [] := F23.binds (ps := ["line"]) fun _ _ _ _ _ _ => us1 fun _ => by kernel_rfl
  have b24 : Binds K d24 ["line"] [] := F24.binds (ps := ["line"]) fun _ _ _ _ _ _ => us1 fun _ => by kernel_rfl
  have b25 : Binds K d25 ["line", "plan"] [] := F25.binds (ps := ["line", "plan"]) fun _ _ _ _ _ _ => us2 fun _ _ => by kernel_rfl
  have b26 : Binds K d26 ["line", "period", "plan", "minute"] [] := F26.binds (ps := ["line", "period", "plan", "minute"]) fun _ _ _ _ _ _ => us4 fun _ _ _ _ => by kernel_rfl
  have b27 : Binds K d27 ["line", "period", "plan"] [] := F27.binds (ps := ["line", "period", "plan"]) fun _ _ _ _ _ _ => us3 fun _ _ _ => by kernel_rfl
  have b28 : Binds K d28 ["self"] [] := F28.binds (ps := ["self"]) fun _ _ _ _ _ _ => us1 fun _ => by kernel_rfl
  have b29 : Binds K d29 ["state", "numbers"] [] := F29.binds (ps := ["state", "numbers"]) fun _ _ _ _ _ _ => us2 fun _ _ => by kernel_rfl
  have b30 : Binds K d30 ["line", "numbers"] [] := F30.binds (ps := ["line", "numbers"]) fun _ _ _ _ _ _ => us2 fun _ _ => by kernel_rfl
  have b31 : Binds K d31 ["line", "numbers"] [] := F31.binds (ps := ["line", "numbers"]) fun _ _ _ _ _ _ => us2 fun _ _ => by kernel_rfl
  have b32 : Binds K d32 ["line", "numbers"] [] := F32.binds (ps := ["line", "numbers"]) fun _ _ _ _ _ _ => us2 fun _ _ => by kernel_rfl
  have b33 : Binds K d33 ["line", "numbers"] [] := F33.binds (ps := ["line", "numbers"]) fun _ _ _ _ _ _ => us2 fun _ _ => by kernel_rfl
  have b34 : Binds K d34 ["line", "numbers"] [] := F34.binds (ps := ["line", "numbers"]) fun _ _ _ _ _ _ => us2 fun _ _ => by kernel_rfl
  have b35 : Binds K d35 ["line", "numbers"] [] := F35.binds (ps := ["line", "numbers"]) fun _ _ _ _ _ _ => us2 fun _ _ => by kernel_rfl
  have b36 : Binds K d36 ["line", "period", "measure"] [] := F36.binds (ps := ["line", "period", "measure"]) fun _ _ _ _ _ _ => us3 fun _ _ _ => by kernel_rfl
  have b37 : Binds K d37 ["line", "numbers"] [] := F37.binds (ps := ["line", "numbers"]) fun _ _ _ _ _ _ => us2 fun _ _ => by kernel_rfl
  have b38 : Binds K d38 ["line", "numbers"] [] := F38.binds (ps := ["line", "numbers"]) fun _ _ _ _ _ _ => us2 fun _ _ => by kernel_rfl
  have b39 : Binds K d39 ["line", "numbers", "judge"] [] := F39.binds (ps := ["line", "numbers", "judge"]) fun _ _ _ _ _ _ => us3 fun _ _ _ => by kernel_rfl
  have b40 : Binds K d40 ["line", "period", "plan"] [] := F40.binds (ps := ["line", "period", "plan"]) fun _ _ _ _ _ _ => us3 fun _ _ _ => by kernel_rfl
  have b41 : Binds K d41 ["line", "numbers"] [] := F41.binds (ps := ["line", "numbers"]) fun _ _ _ _ _ _ => us2 fun _ _ => by kernel_rfl
  have b42 : Binds K d42 ["line", "period", "plan"] [] := F42.binds (ps := ["line", "period", "plan"]) fun _ _ _ _ _ _ => us3 fun _ _ _ => by kernel_rfl
  have b43 : Binds K d43 ["line", "numbers"] [] := F43.binds (ps := ["line", "numbers"]) fun _ _ _ _ _ _ => us2 fun _ _ => by kernel_rfl
  have b44 : Binds K d44 ["line", "numbers"] [] := F44.binds (ps := ["line", "numbers"]) fun _ _ _ _ _ _ => us2 fun _ _ => by kernel_rfl
  have b45 : Binds K d45 ["line", "numbers"] [] := F45.binds (ps := ["line", "numbers"]) fun _ _ _ _ _ _ => us2 fun _ _ => by kernel_rfl
  have b46 : Binds K d46 ["line", "numbers"] [] := F46.binds (ps := ["line", "numbers"]) fun _ _ _ _ _ _ => us2 fun _ _ => by kernel_rfl
  have b47 : Binds K d47 ["line", "numbers"] [] := F47.binds (ps := ["line", "numbers"]) fun _ _ _ _ _ _ => us2 fun _ _ => by kernel_rfl
  have b48 : Binds K d48 ["line", "change", "numbers"] [] := F48.binds (ps := ["line", "change", "numbers"]) fun _ _ _ _ _ _ => us3 fun _ _ _ => by kernel_rfl
  have b49 : Binds K d49 ["line", "numbers"] [] := F49.binds (ps := ["line", "numbers"]) fun _ _ _ _ _ _ => us2 fun _ _ => by kernel_rfl
  have b50 : Binds K d50 ["line", "numbers"] [] := F50.binds (ps := ["line", "numbers"]) fun _ _ _ _ _ _ => us2 fun _ _ => by kernel_rfl
  have b51 : Binds K d51 ["line", "numbers"] [] := F51.binds (ps := ["line", "numbers"]) fun _ _ _ _ _ _ => us2 fun _ _ => by kernel_rfl
  have b52 : Binds K d52 ["line", "numbers"] [] := F52.binds (ps := ["line", "numbers"]) fun _ _ _ _ _ _ => us2 fun _ _ => by kernel_rfl
  have b53 : Binds K d53 ["state", "operation", "numbers"] [] := F53.binds (ps := ["state", "operation", "numbers"]) fun _ _ _ _ _ _ => us3 fun _ _ _ => by kernel_rfl
  have b54 : Binds K d54 ["calls"] [] := F54.binds (ps := ["calls"]) fun _ _ _ _ _ _ => us1 fun _ => by kernel_rfl
  have M : Mk K (He.ga K "Line") (He.fAd K ("Line", some "__init__")) := He.mkr_ok (c.facts (fas_more 18 rfl))
  have MS : Mk K (He.ga K "State") (He.fAd K ("State", some "__init__")) := He.mkr_ok (c.facts (fas_more 25 rfl))
  have m6 : Meth K (He.ga K "Line") "has_pit" (He.fAd K ("Line", some "has_pit")) := He.meth_ok (c.facts (fas_more 19 rfl))
  have m7 : Meth K (He.ga K "Line") "twin" (He.fAd K ("Line", some "twin")) := He.meth_ok (c.facts (fas_more 20 rfl))
  have m8 : Meth K (He.ga K "Line") "bound" (He.fAd K ("Line", some "bound")) := He.meth_ok (c.facts (fas_more 21 rfl))
  have m9 : Meth K (He.ga K "Line") "reach" (He.fAd K ("Line", some "reach")) := He.meth_ok (c.facts (fas_more 22 rfl))
  refine ⟨d54, fun s us hu => FunD.bindsA (ps := ["calls"]) D54 (fun _ _ _ _ _ _ => us1 fun _ => by kernel_rfl) s us hu, fun base Xb Gb TB => ?_⟩
  have I0 : FnOk P w K mg base CX0 1 _ d5 ["self", "move_time", "empty_time"] (spInit (He.ga K "Line")) := ok_init F5 T
  have IW : Def P w K mg base 1 "is_window" ["least", "most"] (spTest2 Kp396.validWindow) := .mk' (gl (by decide +kernel)) F0.kp b0 (ok_window F0 T)
  have IS : Def P w K mg base 1 "is_speed" ["move_time", "empty_time"] (spTest2 Kp396.validSpeed) := .mk' (gl (by decide +kernel)) F1.kp b1 (ok_speed F1 T)
  have IP : Def P w K mg base 1 "is_period" ["period"] (spTest1 Kp396.validPeriod) := .mk' (gl (by decide +kernel)) F2.kp b2 (ok_period F2 T)
  have IL : Def P w K mg base 1 "is_lots" ["lots"] (spTest1 lotsOk) := .mk' (gl (by decide +kernel)) F3.kp b3 (ok_lots F3 T)
  have IPl : Def P w K mg base 1 "is_plan" ["plan", "pit_count"] (spIP K) := .mk' (gl (by decide +kernel)) F4.kp b4 (ok_ip F4 T)
  have HP : MDef P w K mg base (He.ga K "Line") 1 "has_pit" ["self", "pit"] (spHas (He.ga K "Line")) := ⟨_, d6, m6, b6, ok_has F6 T⟩
  have R : MDef P w K mg base (He.ga K "Line") 1 "reach" ["self", "move", "other"] (spReach (He.ga K "Line")) := ⟨_, d9, m9, b9, ok_reach F9 T⟩
  have GT : FnOk P w K mg base CX0 3 _ d7 ["self"] (spTwin (He.ga K "Line")) := ok_twin F7 T M b5 I0
  have GB : FnOk P w K mg base CX0 1 _ d8 ["self"] (spBound (He.ga K "Line")) := ok_bound F8 T
  have MT : Def P w K mg base 1 "move_times" ["line", "plan"] (spMT (He.ga K "Line") K) := .mk' (gl (by decide +kernel)) F10.kp b10 (ok_mt F10 T)
  have SB : Def P w K mg base 1 "stays_between" ["line", "times"] (spSB (He.ga K "Line") K) := .mk' (gl (by decide +kernel)) F11.kp b11 (ok_sb F11 T)
  have GA : Def P w K mg base 2 "allowed_gap" ["line", "period", "first", "second"] (spGap (He.ga K "Line")) := .mk' (gl (by decide +kernel)) F12.kp b12 (ok_gap F12 T R)
  have MC : Def P w K mg base 3 "moves_conflict" ["line", "period", "times", "first", "second"] (spMC (He.ga K "Line") K) := .mk' (gl (by decide +kernel)) F13.kp b13 (ok_mc F13 T GA)
  have KU : Def P w K mg base 2 "hoist_keeps_up" ["line", "period"] (spKeeps (He.ga K "Line")) := .mk' (gl (by decide +kernel)) F14.kp b14 (ok_keeps F14 T R)
  have SA : Def P w K mg base 1 "stays_allowed" ["line", "period", "plan"] (spSA (He.ga K "Line") K) := .mk' (gl (by decide +kernel)) F15.kp b15 (ok_sa F15 T)
  have FC : Def P w K mg base 4 "find_first_conflict" ["line", "period", "plan"] (spFC (He.ga K "Line") K) := .mk' (gl (by decide +kernel)) F17.kp b17 (ok_fc F17 T MT MC)
  have PFe : Def P w K mg base 5 "plan_feasible" ["line", "period", "plan"] (spPF (He.ga K "Line") K) := .mk' (gl (by decide +kernel)) F16.kp b16 (ok_pf F16 KU SA FC)
  have NS : Def P w K mg base 3 "next_starts" ["line", "period", "times"] (spNS (He.ga K "Line") K) := .mk' (gl (by decide +kernel)) F18.kp b18 (ok_ns F18 T GA)
  have FT : ∀ d, Def P w K mg base (d + 4) "first_times_from" ["line", "period", "times"] (spFT (He.ga K "Line") K d) := fun d => .mk' (gl (by decide +kernel)) F19.kp b19 (ok_ft F19 T (gl (by decide +kernel)) b19 NS d)
  have CP : ∀ d, Def P w K mg base (d + 4) "count_plans_from" ["line", "period", "times"] (spCP (He.ga K "Line") d) := fun d => .mk' (gl (by decide +kernel)) F20.kp b20 (ok_cp F20 T (gl (by decide +kernel)) b20 NS d)
  have FP : Def P w K mg base 9 "find_first_plan" ["line", "period"] (spFP (He.ga K "Line")) := .mk' (gl (by decide +kernel)) F21.kp b21 (ok_fp F21 KU FT SB)
  have CO : Def P w K mg base 9 "count_plans" ["line", "period"] (spCo (He.ga K "Line")) := .mk' (gl (by decide +kernel)) F22.kp b22 (ok_co F22 KU CP)
  have SPd : Def P w K mg base 10 "find_shortest_period" ["line"] (spSP (He.ga K "Line")) := .mk' (gl (by decide +kernel)) F23.kp b23 (ok_sp F23 T FP)
  have FE : Def P w K mg base 10 "find_feasible_periods" ["line"] (spFe (He.ga K "Line")) := .mk' (gl (by decide +kernel)) F24.kp b24 (ok_fe F24 T FP)
  have TT : Def P w K mg base 2 "time_through" ["line", "plan"] (spTT (He.ga K "Line") K) := .mk' (gl (by decide +kernel)) F25.kp b25 (ok_tt F25 T MT)
  have PO : Def P w K mg base 2 "pits_occupied" ["line", "period", "plan", "minute"] (spPO (He.ga K "Line") K) := .mk' (gl (by decide +kernel)) F26.kp b26 (ok_po F26 T MT)
  have MO : Def P w K mg base 3 "most_occupied" ["line", "period", "plan"] (spMO (He.ga K "Line") K) := .mk' (gl (by decide +kernel)) F27.kp b27 (ok_mo F27 T PO)
  have CR : Def P w K mg base 3 "create" ["state", "numbers"] (spCreate (He.ga K "State") (He.ga K "Line") K (T5 K)) := .mk' (gl (by decide +kernel)) F29.kp b29 (ok_cr F29 T IS M b5 I0)
  have AB : AbOk P w K mg base (He.ga K "Line") (He.ga K "answer_by_first_plan") 10 9 := ok_ab F36 T b36 IP FP
  have mA := gl (x := "answer_by_first_plan") (by decide +kernel)
  have SHo : FnOk P w K mg base CX0 11 _ d35 ["line", "numbers"] (spShort (He.ga K "Line")) := ok_short F35 T SPd
  have SH : Def P w K mg base 11 "shortest_period" ["line", "numbers"] (spShort (He.ga K "Line")) := .mk' (gl (by decide +kernel)) F35.kp b35 SHo
  have APf : Def P w K mg base 7 "answer_on_plan" ["line", "numbers", "judge"] (spAOP (He.ga K "Line") K (He.ga K "judge_feasible") ansIF) := .mk' (gl (by decide +kernel)) F39.kp b39 (ok_aop F39 T IP IPl F40.kp b40 (ok_jf F40 PFe))
  have APc : Def P w K mg base 7 "answer_on_plan" ["line", "numbers", "judge"] (spAOP (He.ga K "Line") K (He.ga K "judge_conflict") ansFC) := .mk' (gl (by decide +kernel)) F39.kp b39 (ok_aop F39 T IP IPl F42.kp b42 ((ok_jc F42 T FC).mono (by decide)))
  have SWo : FnOk P w K mg base CX0 2 _ d32 ["line", "numbers"] (spOp (He.ga K "Line") K (T5 K) (sh3 .setWindow)) := ok_sw F32 T HP IW
  have SSo : FnOk P w K mg base CX0 2 _ d33 ["line", "numbers"] (spOp (He.ga K "Line") K (T5 K) (sh2 .setSpeed)) := ok_ss F33 T IS
  have TRw : Def P w K mg base 12 "shortest_period_with" ["line", "change", "numbers"] (spTr (He.ga K "Line") K (T5 K) (He.ga K "set_window") (sh3 .setWindow)) := .mk' (gl (by decide +kernel)) F48.kp b48 (ok_tr F48 T m7 b7 GT F32.kp b32 SWo SH)
  have TRs : Def P w K mg base 12 "shortest_period_with" ["line", "change", "numbers"] (spTr (He.ga K "Line") K (T5 K) (He.ga K "set_speed") (sh2 .setSpeed)) := .mk' (gl (by decide +kernel)) F48.kp b48 (ok_tr F48 T m7 b7 GT F33.kp b33 SSo SH)
  have OPS : OpsOk P w K mg base (He.ga K "Line") (T5 K) (He.ga K "OPERATIONS") := by
    intro k nk hs
    cases k
    case create a b => exact absurd rfl (nk a b)
    case addPit a b => exact ⟨_, sh2 .addPit, ops_ok ops (i := 0) rfl, ⟨_, _, FnOk.mono (ok_add F30 T IW) (by decide), F30.kp, b30⟩, ⟨a, b, rfl, rfl⟩⟩
    case removePit a => exact ⟨_, sh1 .removePit, ops_ok ops (i := 1) rfl, ⟨_, _, FnOk.mono (ok_rem F31 T HP) (by decide), F31.kp, b31⟩, ⟨a, rfl, rfl⟩⟩
    case setWindow a b d => exact ⟨_, sh3 .setWindow, ops_ok ops (i := 2) rfl, ⟨_, _, FnOk.mono (SWo) (by decide), F32.kp, b32⟩, ⟨a, b, d, rfl, rfl⟩⟩
    case setSpeed a b => exact ⟨_, sh2 .setSpeed, ops_ok ops (i := 3) rfl, ⟨_, _, FnOk.mono (SSo) (by decide), F33.kp, b33⟩, ⟨a, b, rfl, rfl⟩⟩
    case getPit a => exact ⟨_, sh1 .getPit, ops_ok ops (i := 4) rfl, ⟨_, _, FnOk.mono (ok_gp F34 T HP) (by decide), F34.kp, b34⟩, ⟨a, rfl, rfl⟩⟩
    case shortestPeriod  => exact ⟨_, sh0 .shortestPeriod, ops_ok ops (i := 5) rfl, ⟨_, _, FnOk.mono (short_op SHo) (by decide), F35.kp, b35⟩, ⟨rfl, rfl⟩⟩
    case firstPlan a => exact ⟨_, sh1 .firstPlan, ops_ok ops (i := 6) rfl, ⟨_, _, FnOk.mono (ok_fst C37 T (maker_of ex TB (by decide +kernel)) mA F36.kp AB) (by decide), F37.kp, b37⟩, ⟨a, rfl, rfl⟩⟩
    case startTimes a => exact ⟨_, sh1 .startTimes, ops_ok ops (i := 7) rfl, ⟨_, _, FnOk.mono (ok_st C38 T (maker_of ex TB (by decide +kernel)) mA F36.kp AB MT) (by decide), F38.kp, b38⟩, ⟨a, rfl, rfl⟩⟩
    case isFeasible a l => exact ⟨_, shP .isFeasible, ops_ok ops (i := 8) rfl, ⟨_, _, FnOk.mono (ok_if F41 (gl (by decide +kernel)) APf) (by decide), F41.kp, b41⟩, ⟨a, l, rfl, rfl, hs⟩⟩
    case firstConflict a l => exact ⟨_, shP .firstConflict, ops_ok ops (i := 9) rfl, ⟨_, _, FnOk.mono (ok_fco F43 (gl (by decide +kernel)) APc) (by decide), F43.kp, b43⟩, ⟨a, l, rfl, rfl, hs⟩⟩
    case planCount a => exact ⟨_, sh1 .planCount, ops_ok ops (i := 10) rfl, ⟨_, _, FnOk.mono (ok_pc F44 T IP CO) (by decide), F44.kp, b44⟩, ⟨a, rfl, rfl⟩⟩
    case throughputTime a => exact ⟨_, sh1 .throughputTime, ops_ok ops (i := 11) rfl, ⟨_, _, FnOk.mono (ok_thr C45 (maker_of ex TB (by decide +kernel)) mA F36.kp AB TT) (by decide), F45.kp, b45⟩, ⟨a, rfl, rfl⟩⟩
    case maxOccupied a => exact ⟨_, sh1 .maxOccupied, ops_ok ops (i := 12) rfl, ⟨_, _, FnOk.mono (ok_max C46 (maker_of ex TB (by decide +kernel)) mA F36.kp AB MO) (by decide), F46.kp, b46⟩, ⟨a, rfl, rfl⟩⟩
    case completionTime a b => exact ⟨_, sh2 .completionTime, ops_ok ops (i := 13) rfl, ⟨_, _, FnOk.mono (ok_com C47 T (maker_of ex TB (by decide +kernel)) mA F36.kp AB IL TT) (by decide), F47.kp, b47⟩, ⟨a, b, rfl, rfl⟩⟩
    case shortestPeriodWithWindow a b d => exact ⟨_, sh3 .shortestPeriodWithWindow, ops_ok ops (i := 14) rfl, ⟨_, _, FnOk.mono (ok_tw F49 (gl (by decide +kernel)) TRw) (by decide), F49.kp, b49⟩, ⟨a, b, d, rfl, rfl⟩⟩
    case shortestPeriodWithSpeed a b => exact ⟨_, sh2 .shortestPeriodWithSpeed, ops_ok ops (i := 15) rfl, ⟨_, _, FnOk.mono (ok_ts F50 (gl (by decide +kernel)) TRs) (by decide), F50.kp, b50⟩, ⟨a, b, rfl, rfl⟩⟩
    case feasiblePeriods  => exact ⟨_, sh0 .feasiblePeriods, ops_ok ops (i := 16) rfl, ⟨_, _, FnOk.mono (ok_fps F51 T FE) (by decide), F51.kp, b51⟩, ⟨rfl, rfl⟩⟩
    case status  => exact ⟨_, sh0 .status, ops_ok ops (i := 17) rfl, ⟨_, _, FnOk.mono (ok_sta F52 T m8 b8 GB) (by decide), F52.kp, b52⟩, ⟨rfl, rfl⟩⟩
  have PFm : Def P w K mg base 14 "perform" ["state", "operation", "numbers"] (spPerf (He.ga K "State") (He.ga K "Line") K (T5 K)) := .mk' (gl (by decide +kernel)) F53.kp b53 (ok_perf F53 T CR (gl (by decide +kernel)) OPS)
  exact ok_ans F54 T MS b28 (ok_si F28 T) PFm
end
end HW
set_option maxHeartbeats 4000000
/-! The end of a Spec row where some defs make lambdas: their tables are tracked from the start. -/
namespace HW
open PySem PySem.Spec PyProof.Rows L2 LamX
open PySem.W (Codec WData ReadsW WellAll OpenSpec)
section
variable {P : Program} {w : World} {K : PySem.W.Frag} {mg mb : Str → Option Value} {k : Nat} {fa : Addr} {fd : FuncData} {ps : List Str} {sp : Sp} {sh : Shared} {vals : List Value} {ds : List WData} {R : PySem.W.WRecords} {cl : Str → Option Addr} {d0 : WData} {cs : List (Addr × Addr)}
/-- what is tracked at the call: what is handed in, and the tables -/
def tabH (H : Hp) (cs : List (Addr × Addr)) : Hp := fun b => if b ∈ cs.map (·.2) then some (.tbl #[]) else H b
theorem tabH_in {H : Hp} {b : Addr} (h : b ∈ cs.map (·.2)) : tabH H cs b = some (.tbl #[]) := if_pos h
theorem tabH_out {H : Hp} {b : Addr} (h : b ∉ cs.map (·.2)) : tabH H cs b = H b := if_neg h
theorem spec_tabs (KX : K.In sh.heap) (gns : sh.heap.Ns mainGlobals mg) (bns : sh.heap.Ns builtinsNs mb) (bbs : ∀ x : Str, x ≠ "__name__" → mb x = bootBuiltins x) (lim : sh.heap.NoLimit) (gen0 : sh.gens = #[])
    (tab0 : ∀ p ∈ cs, sh.heap.get? p.2 = some { cls := .none, data := .fields #[] }) (tabK : ∀ p ∈ cs, K.lookup p.2 = none) (tabC : ∀ p ∈ cs, PySem.W.CodeHd sh.heap p.1 p.2)
    (bmn : ∃ (bm : Addr) (ob : Obj), mg "__builtins__" = some (.ref bm) ∧ bm ≠ builtinsNs ∧ sh.heap.get? bm = some ob ∧ ob.cls = .type "module" ∧ ob.dict = some builtinsNs ∧ ob.data = .plain)
    (wel : WellAll w.params sh.heap vals ds) (pl : plWs ds = true) (wt : ∀ d ∈ ds, d.weight ≤ 1048576) (hr : Room k callerA)
    (F : ∀ base : Heap, K.In base → base.Ns mainGlobals mg → (∀ p ∈ cs, TabB base mg p.1 p.2) → FnOk P w K mg base CX0 k fa fd ps sp) (bi : ∀ (s : Shared) (us : List Value), us.length = ps.length → BindsTo s fd ⟨us, []⟩ (ps.zip us)) (ln : ds.length = ps.length)
    (prom : ∀ (H0 H : Hp) (xs : List V), Same H0 H → (∀ p ∈ cs, H p.2 = some (.tbl #[])) → DwAll K H0 xs ds → sp xs H (fun v H' => Dw K H' v d0) fun _ _ _ => False) :
    codeAny (model P w) callerA (.call (.ref fa) ⟨vals, []⟩) (fun r s' => ∃ u as, r = .ok (.ret u) ∧ ReadsW R cl s'.heap u d0 as ∧ OldK sh.heap s'.heap ∧ s'.os = sh.os ∧ AllBare s'.gens) sh := by
  obtain ⟨A, okA, obA⟩ := area_all ds vals wel pl wt
  have only := argH_only (K := K) obA
  have ok0 : HOk P w (argH K sh.heap A) sh.heap := argH_ok obA
  have dw := dw_all KX obA ds vals wel pl okA
  have isArg : ∀ b u, argH K sh.heap A b = some u → K.lookup b = none ∧ ∃ (T : String) (vs : List Value), sh.heap.get? b = some { cls := .type T, data := .seq vs.toArray } := fun b u q => by
    obtain ⟨h1, vs, _, _, ⟨e, _⟩ | ⟨e, _⟩⟩ := argH_is obA q
    · exact ⟨h1, _, vs, e⟩
    · exact ⟨h1, _, vs, e⟩
  generalize argH K sh.heap A = H0 at only ok0 dw isArg
  have isTab : ∀ b, b ∈ cs.map (·.2) → sh.heap.get? b = some { cls := .none, data := .fields #[] } := fun b hb => by
    obtain ⟨p, hp, rfl⟩ := List.mem_map.mp hb
    exact tab0 p hp
  have apart : ∀ b u, H0 b = some u → b ∉ cs.map (·.2) := fun b u q hb => by
    obtain ⟨_, T, vs, e⟩ := isArg b u q
    rw [isTab b hb] at e
    have z := congrArg Obj.data (Option.some.inj e)
    cases z
  have same : Same H0 (tabH H0 cs) := fun b u q => (tabH_out (apart b u q)).trans q
  have memT : ∀ p ∈ cs, p.2 ∈ cs.map (·.2) := fun p hp => List.mem_map.mpr ⟨p, hp, rfl⟩
  have tbls : ∀ p ∈ cs, tabH H0 cs p.2 = some (.tbl #[]) := fun p hp => tabH_in (memT p hp)
  -- an object that is neither handed in nor a table is not tracked
  have untr : ∀ {b : Addr} {o : Obj}, sh.heap.get? b = some o → (∀ vs n, o.data ≠ .seq vs n) → o.data ≠ .fields #[] → tabH H0 cs b = none := fun {b o} e h1 h2 => by
    have hb : b ∉ cs.map (·.2) := fun hb => by
      rw [isTab b hb] at e
      exact h2 (congrArg Obj.data (Option.some.inj e)).symm
    rw [tabH_out hb]
    cases q : H0 b with
    | none => rfl
    | some u =>
      obtain ⟨_, T, vs, e2⟩ := isArg b u q
      rw [e] at e2
      exact (h1 _ _ (congrArg Obj.data (Option.some.inj e2))).elim
  have ok1 : HOk P w (tabH H0 cs) sh.heap := fun b u q => by
    by_cases hb : b ∈ cs.map (·.2)
    · rw [tabH_in hb] at q
      obtain rfl := Option.some.inj q
      exact isTab b hb
    · rw [tabH_out hb] at q
      have no : ∀ c x, H0 c = some (.own x) → False := fun c x z => by
        rcases only c with y | ⟨o, u, y⟩ <;> rw [y] at z <;> cases z
      have no2 : ∀ c xs, H0 c = some (.tup xs) → False := fun c xs z => by
        rcases only c with y | ⟨o, u, y⟩ <;> rw [y] at z <;> cases z
      exact (ok0 b u q).stay (fun _ _ _ z => z) (fun c z => (no c _ z).elim) fun c xs z => (no2 c xs z).elim
  have keepB : ∀ {b : Addr} {o : Obj}, sh.heap.get? b = some o → tabH H0 cs b = none → (hidT sh.heap (tabH H0 cs)).get? b = some o := fun e n => hidT_get e n
  have dictB : ∀ {b : Addr} {o : Obj} {es : Array DictEntry} {ep : Nat}, sh.heap.get? b = some o → o.data = .dict es ep → tabH H0 cs b = none := fun e d => untr e (fun vs n z => by rw [d] at z; cases z) (fun z => by rw [d] at z; cases z)
  have nsB : ∀ {b : Addr} {m : Str → Option Value}, sh.heap.Ns b m → (hidT sh.heap (tabH H0 cs)).Ns b m := fun ⟨o, es, ep, e, d, r⟩ => ⟨o, es, ep, keepB e (dictB e d), d, r⟩
  have kfree : ∀ b o, K.lookup b = some o → tabH H0 cs b = none := fun b o e => by
    by_cases hb : b ∈ cs.map (·.2)
    · obtain ⟨p, hp, rfl⟩ := List.mem_map.mp hb
      rw [tabK p hp] at e
      cases e
    · rw [tabH_out hb]
      cases q : H0 b with
      | none => rfl
      | some u =>
        rw [(isArg b u q).1] at e
        cases e
  have inB : K.In (hidT sh.heap (tabH H0 cs)) := fun b o e => keepB (KX b o e) (kfree b o e)
  have modB : L2.Mod K mg (hidT sh.heap (tabH H0 cs)) := ⟨inB, nsB gns, ⟨mb, nsB bns, bbs⟩, let ⟨mc, h1, h2⟩ := lim; ⟨mc, nsB h1, h2⟩⟩
  have tbB : ∀ p ∈ cs, TabB (hidT sh.heap (tabH H0 cs)) mg p.1 p.2 := fun p hp => by
    have t0 := tab0 p hp
    refine ⟨?_, ?_, fun z => ?_⟩
    · obtain ⟨o, us, file, tf, flags, tg, inF, text, tt, e1, r1, r2, r3, rest⟩ := tabC p hp
      refine ⟨o, us, file, tf, flags, tg, inF, text, tt, keepB e1 (untr e1 (fun vs n z => by rw [r2] at z; cases z) fun z => ?_), r1, r2, r3, rest⟩
      rw [r2] at z
      cases z
      simp at r3
    · obtain ⟨bm, ob, b1, b2, b3, b4, b5, b6⟩ := bmn
      have nG : bm ≠ mainGlobals := fun q => by
        obtain ⟨o, es, ep, e, d, _⟩ := gns
        rw [q, e] at b3
        obtain rfl := Option.some.inj b3
        rw [d] at b6
        cases b6
      have nP : bm ≠ p.2 := fun q => by
        rw [q, t0] at b3
        obtain rfl := Option.some.inj b3
        cases b6
      exact ⟨bm, ob, b1, b2, nG, nP, keepB b3 (untr b3 (fun vs n z => by rw [b6] at z; cases z) fun z => by rw [b6] at z; cases z), b4, b5, b6⟩
    · obtain ⟨o, es, ep, e, d, _⟩ := gns
      rw [z, t0] at e
      obtain rfl := Option.some.inj e
      cases d
  have e0 : Env0 P w K mg (hidT sh.heap (tabH H0 cs)) callerA [] sh (tabH H0 cs) := ⟨rfl, modB, fun b o e => of_hidT e, Nat.le_of_eq (hidT_size _ _), trivial, fun b hb => absurd (show b ∈ ([] : List Addr) from hb) (by simp), ok1, .of_eq gen0⟩
  have hl : vals.length = ps.length := by rw [wellAll_len wel]; exact ln
  refine codeAny_mono ((F _ inB (nsB gns) tbB).run callerA [] sh (tabH H0 cs) ⟨vals, []⟩ vals (vals.map toV) _ _ hr e0 (bi sh vals hl) (vals_toV okA) (prom H0 _ _ same tbls dw)) fun r s' x => ?_
  cases r with
  | error e => exact (show False from x).elim
  | ok fl =>
    cases fl with
    | next => exact False.elim x
    | brk => exact False.elim x
    | cont => exact False.elim x
    | ret u =>
      obtain ⟨v, H', os, bare, un, ok2, rv, q⟩ := x
      have kept : ∀ b o, b ∉ cs.map (·.2) → sh.heap.get? b = some o → s'.heap.get? b = some o := fun b o hb e => by
        have th := tabH_out (H := H0) hb
        rcases only b with z | ⟨ob, uu, z⟩
        · exact un.keep b o e (th.trans z) (by intro y; exact absurd (show b ∈ ([] : List Addr) from y) (by simp)) (by simp)
        · have z1 := th.trans z
          have z2 := un.frzs b ob _ z1
          obtain ⟨e1, _⟩ := ok1 b _ z1
          obtain ⟨e2, _⟩ := ok2 b _ z2
          rw [e] at e1
          obtain rfl := Option.some.inj e1
          exact e2
      have KX' : K.In s'.heap := fun b o e => kept b o (fun hb => by
        obtain ⟨p, hp, rfl⟩ := List.mem_map.mp hb
        rw [tabK p hp] at e
        cases e) (KX b o e)
      have grown : ∀ p ∈ cs, ∃ more : Array Value, s'.heap.get? p.2 = some { cls := .none, data := .fields more } := fun p hp => by
        obtain ⟨more, z⟩ := un.tbls p.2 #[] (tbls p hp)
        exact ⟨_, ok2 p.2 _ z⟩
      obtain ⟨as, hrd⟩ := Dw.reads (R := R) (cl := cl) ok2 KX' d0 v u q rv
      refine ⟨u, as, rfl, hrd, ⟨fun b o e => ?_, fun b o e => ?_⟩, os, bare⟩
      · by_cases hb : b ∈ cs.map (·.2)
        · obtain ⟨p, hp, rfl⟩ := List.mem_map.mp hb
          obtain ⟨more, hm⟩ := grown p hp
          rw [tab0 p hp] at e
          obtain rfl := Option.some.inj e
          exact .inr (.inl ⟨((tabC p hp).tab (tab0 p hp)).isCodeTable, rfl, #[], more, rfl, by rw [Array.empty_append]; exact hm⟩)
        · exact .inl (kept b o hb e)
      · by_cases hb : b ∈ cs.map (·.2)
        · obtain ⟨p, hp, rfl⟩ := List.mem_map.mp hb
          obtain ⟨more, hm⟩ := grown p hp
          exact ⟨_, hm⟩
        · exact ⟨o, kept b o hb e⟩
end
/-- the row's walk: at each world's end of the top there is a written part K, its tables, the def's promise -/
theorem walk_specT {r : OpenSpec} {k : Nat} {q : Program} {loose : List Str} {XP : (Str → Option Value) → Heap → Prop} {YP : World → Heap → Prop} {d : DefRec} {ps : List Str}
    (well : r.wellSaid = true) (dfl : d.params.defaults = []) (ln : r.args.length = ps.length) (hr : Room k callerA)
    (G : ∀ (w : World) (mg : Str → Option Value) (fa : Addr) (h : Heap), YP w h → h.Ns mainGlobals mg → mg d.name = some (.ref fa) → ∃ (K : PySem.W.Frag) (cs : List (Addr × Addr)) (fd : FuncData) (sp : Sp), K.In h ∧
      (∀ p ∈ cs, h.get? p.2 = some { cls := .none, data := .fields #[] }) ∧ (∀ p ∈ cs, K.lookup p.2 = none) ∧ (∀ p ∈ cs, PySem.W.CodeHd h p.1 p.2) ∧
      (∀ (s : Shared) (us : List Value), us.length = ps.length → BindsTo s fd ⟨us, []⟩ (ps.zip us)) ∧ (∀ base : Heap, K.In base → base.Ns mainGlobals mg → (∀ p ∈ cs, TabB base mg p.1 p.2) → FnOk r.prog w K mg base CX0 k fa fd ps sp) ∧
      ∀ (H0 H : Hp) (xs : List V) (a : Codec.denoteAll r.args), Same H0 H → (∀ p ∈ cs, H p.2 = some (.tbl #[])) → Codec.withinAll r.args a = true → Codec.app r.args r.asked a = true → DwAll K H0 xs (Codec.encAll r.args a) → sp xs H (fun v H' => Dw K H' v (r.ret.enc (Codec.app r.args r.f a))) fun _ _ _ => False) :
    PySem.W.WalkOS q loose XP YP r d [] (fun f vs => PySem.call f vs) := by
  intro w s0 s1 mg mb Gr Y fa o pm cd doc dV kV ho hd hcd hD hmg hg args vals as hpre hlay hrd hwl hlo
  obtain ⟨a, e1, e2⟩ := PySem.W.os_pre_some hpre
  obtain ⟨e3, hwi⟩ := Codec.encAll_of_decAll r.args args a e1
  subst e3
  obtain ⟨K, cs, fd, sp, KX, t1, t2, t3, hb, hF, hsp⟩ := G w mg fa _ Y Gr.T.g hmg
  refine PySem.W.enter_call (codeAny_mono (spec_tabs (R := []) (cl := classAt s0.heap) (d0 := r.ret.enc (Codec.app r.args r.f a)) KX Gr.T.g Gr.T.b Gr.T.builtins Gr.T.nolimit hg t1 t2 t3 Gr.T.bmain hwl (pl_encAll _ _) (layable_weight hlay) hr hF hb (by rw [encAll_len]; exact ln)
    (fun H0 H xs hs ht hx => hsp H0 H xs a hs ht hwi e2 hx)) fun r' s' hq => ?_)
  obtain ⟨u, as', rfl, h1, h2, h3, h4⟩ := hq
  exact ⟨.inl ⟨u, _, as', rfl, fun _ => rfl, h1, (OpenSpec.post_iff well hwi _ _).mpr rfl, fun z => Bool.noConfusion (show false = true from z)⟩, h2, h3, h4⟩
end HW
set_option maxHeartbeats 0
namespace HW
open PySem PySem.Spec PyProof.Rows L2
/-! The top's run, one answer of the one row that it asks. -/
theorem runF (w : World) : HeadRun.RunEqS RS qv hkS obS 3000 names (w.withFollow "special-get-raises" false) := by
  intro os
  kernel_rfl
end HW
set_option maxHeartbeats 0
namespace HW
open PySem PySem.Spec PyProof.Rows L2
/-! The top's run, the other answer. -/
theorem runT (w : World) : HeadRun.RunEqS RS qv hkS obS 3000 names (w.withFollow "special-get-raises" true) := by
  intro os
  kernel_rfl
end HW
set_option maxHeartbeats 8000000
/-! The row. -/
namespace HW
open PySem PySem.Spec PyProof.Rows L2 LamX
theorem runS (w : World) : HeadRun.RunEqS RS qv hkS obS 3000 names w := PySem.W.byRow2 "special-get-raises" (P := fun w => HeadRun.RunEqS RS qv hkS obS 3000 names w) runF runT w
def ansD : DefRec := match topS 70 with
  | .FunctionDef n a b _ _ _ sc _ _ pos => ⟨n, a, b, sc, pos⟩
  | _ => ⟨"answers", ⟨[], [], none, [], [], none, []⟩, [], ⟨.function, [], false, false, []⟩, ⟨0, 0, 0, 0⟩⟩
theorem tabs0 {K : PySem.W.Frag} {H : Hp} (h : ∀ p ∈ cs5 K, H p.2 = some (.tbl #[])) : Tabs (T5 K) H := fun p hp => by
  obtain ⟨q, hq, rfl⟩ := List.mem_map.mp hp
  exact TabS.nil (h (He.cT K q) (List.mem_map.mpr ⟨q, hq, rfl⟩))
end HW
open PySem PySem.W PySem.Calls PyProof.Rows
theorem PySem.Challenge.cw_hoistmoves_s01_answers_holds : PySem.Challenge.rw_hoistmoves_s01_answers.Holds := by
  w_on
  refine HeadRun.head_spec (r := PySem.Challenge.rw_hoistmoves_s01_answers) (q := HW.qv) (H := HW.hkS) (ob := HW.obS) (M := 3000) (loose := HW.names) (d := HW.ansD) (kwd := []) HW.obS_eq (by kernel_rfl) (fun s => by kernel_rfl) HW.runS (by kernel_rfl) (by kernel_rfl) (by kernel_rfl) os_shapes (by decide +kernel) (by decide +kernel) ⟨rfl, rfl, rfl, rfl, rfl, by decide +kernel⟩ ?hw ?hc
  case hw => exact ⟨[.list [.int 0, .int 2, .int 1, .int 0, .int 0]], by decide +kernel, by decide +kernel⟩
  case hc =>
    refine HW.walk_specT (k := 15) (ps := ["calls"]) (by decide +kernel) (by kernel_rfl) rfl ⟨rfl, by decide, by decide⟩ ?_
    intro w mg fa h Y G hmg0
    obtain ⟨K, KX, S⟩ := Y
    have hmg : mg ("answers" : PySem.Str) = some (.ref fa) := by
      have e : HW.ansD.name = ("answers" : PySem.Str) := by kernel_rfl
      rw [← e]
      exact hmg0
    obtain ⟨fd, hb, hF⟩ := HW.all_ok (P := PySem.Challenge.rw_hoistmoves_s01_answers.prog) (w := w) KX G S.t.d S.more
    have z := He.glo_ok KX G (S.t.d.facts (HW.fas_glo (x := "answers") (by decide +kernel)))
    have ea : fa = He.ga K "answers" := by
      rw [z] at hmg
      exact (Value.ref.inj (Option.some.inj hmg)).symm
    subst ea
    refine ⟨K, HW.cs5 K, fd, HW.spAns K (HW.T5 K), KX, fun p hp => ?_, fun p hp => ?_, fun p hp => ?_, hb, hF, ?_⟩
    · obtain ⟨q, hq, rfl⟩ := List.mem_map.mp hp
      exact S.empty q hq
    · obtain ⟨q, hq, rfl⟩ := List.mem_map.mp hp
      exact S.out q hq
    · obtain ⟨q, hq, rfl⟩ := List.mem_map.mp hp
      exact codeHd_of_K KX (S.hd q hq)
    · intro H0 H xs a hs ht hwi hask hx
      cases hx with
      | cons h1 h2 =>
        cases h2
        cases h1 with
        | lst hsq ha =>
          have e := L2.ints_dw a.1 _ ha
          subst e
          have q : ((Codec.inLen 0 600 a.1 && a.1.all (Codec.inInt 0 4294967295)) && true) = true := hwi
          rw [Bool.and_eq_true, Bool.and_eq_true] at q
          obtain ⟨cs, W⟩ := HM.asked_form (l := a.1) hask
          exact ⟨_, a.1, cs, rfl, hs.seq hsq, W, (Codec.inNat_iff.mp q.1.1).2, HW.tabs0 ht, fun H' p hp => .lst (L2.SqL.of hp) (L2.dw_ints _)⟩
#print axioms PySem.Challenge.cw_hoistmoves_s01_answers_holds
