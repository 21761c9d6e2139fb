import PyProof.Rows.All
import Wide.All
import OpenK.AllK
import Wide.FinOn
import Open.SpecLaws
import KE.OsGo
import KE.DataMinKey
import KE.DatumOrd
import HandS.ForMost
import HandS.ForSpec
import HandS.More
import HandS.Deep
import HandS.Evl
import HandS.SortKw
import PySem.Challenge.RW_wheeldraw_s01_answers
set_option Elab.async false
set_option linter.all false
set_option maxRecDepth 100000
set_option maxHeartbeats 4000000
section
namespace WD
open Mu24
/-! ### rising rows -/
def startOf (r : List Nat) : Nat := match r.getLast? with
  | none => 0
  | some x => x + 1
def ext (n : Nat) (r : List Nat) : List (List Nat) := (List.range' (startOf r) (n - startOf r)).map fun x => r ++ [x]
def rising (n : Nat) : Nat → List (List Nat)
  | 0 => [[]]
  | k + 1 => (rising n k).flatMap (ext n)
theorem startOf_cons (i : Nat) {l : List Nat} (h : l ≠ []) : startOf (i :: l) = startOf l := by
  unfold startOf
  cases l with
  | nil => exact absurd rfl h
  | cons a l => rw [List.getLast?_cons_cons]
theorem startOf_snoc (r : List Nat) (x : Nat) : startOf (r ++ [x]) = x + 1 := by
  unfold startOf
  rw [List.getLast?_append]
  rfl
theorem ext_cons (n i : Nat) {l : List Nat} (h : l ≠ []) : ext n (i :: l) = (ext n l).map fun r => i :: r := by
  unfold ext
  rw [startOf_cons i h, List.map_map]
  rfl
theorem picks_zero (n f i : Nat) : picks n f i 0 = [[]] := by
  cases f <;> rfl
theorem picks_out {n f i k : Nat} (h : n ≤ i) : picks n f i (k + 1) = [] := by
  cases f with
  | zero => rfl
  | succ f =>
    show (if k + 1 = 0 then [[]] else if n ≤ i then [] else _) = []
    rw [if_neg (by omega), if_pos h]
theorem picks_in {n f i k : Nat} (h : i < n) : picks n (f + 1) i (k + 1) = (picks n f (i + 1) k).map (fun l => i :: l) ++ picks n f (i + 1) (k + 1) := by
  show (if k + 1 = 0 then [[]] else if n ≤ i then [] else (picks n f (i + 1) (k + 1 - 1)).map (fun l => i :: l) ++ picks n f (i + 1) (k + 1)) = _
  rw [if_neg (by omega), if_neg (by omega)]
  rfl
theorem picks_one (n : Nat) : ∀ f i, n + 1 ≤ f + i → picks n f i 1 = (List.range' i (n - i)).map fun x => [x]
  | 0, i, h => by
    have e : n - i = 0 := by omega
    rw [e, picks_out (by omega)]
    rfl
  | f + 1, i, h => by
    by_cases hi : i < n
    · rw [picks_in hi, picks_zero, picks_one n f (i + 1) (by omega)]
      have e : n - i = (n - (i + 1)) + 1 := by omega
      rw [e, List.range'_succ]
      rfl
    · have e : n - i = 0 := by omega
      rw [e, picks_out (by omega)]
      rfl
theorem picks_len {n : Nat} : ∀ {f i k : Nat} {l : List Nat}, l ∈ picks n f i k → l.length = k
  | 0, i, 0, l, h => by
    have : l = [] := List.mem_singleton.mp h
    rw [this]; rfl
  | 0, i, k + 1, l, h => nomatch h
  | f + 1, i, 0, l, h => by
    have : l = [] := List.mem_singleton.mp h
    rw [this]; rfl
  | f + 1, i, k + 1, l, h => by
    by_cases hi : i < n
    · rw [picks_in hi] at h
      rcases List.mem_append.mp h with h | h
      · obtain ⟨r, hr, rfl⟩ := List.mem_map.mp h
        rw [List.length_cons, picks_len hr]
      · exact picks_len h
    · rw [picks_out (by omega)] at h
      cases h
theorem picks_lt {n : Nat} : ∀ {f i k : Nat} {l : List Nat}, l ∈ picks n f i k → ∀ x ∈ l, x < n
  | f, i, 0, l, h => by
    rw [picks_zero] at h
    have : l = [] := List.mem_singleton.mp h
    intro x hx
    rw [this] at hx
    cases hx
  | 0, i, k + 1, l, h => nomatch h
  | f + 1, i, k + 1, l, h => by
    by_cases hi : i < n
    · rw [picks_in hi] at h
      rcases List.mem_append.mp h with h | h
      · obtain ⟨r, hr, rfl⟩ := List.mem_map.mp h
        intro x hx
        rcases List.mem_cons.mp hx with rfl | hx
        · exact hi
        · exact picks_lt hr x hx
      · exact picks_lt h
    · rw [picks_out (by omega)] at h
      cases h
theorem flat_cons (n i : Nat) {rows : List (List Nat)} (h : ∀ l ∈ rows, l ≠ []) : (rows.map fun l => i :: l).flatMap (ext n) = (rows.flatMap (ext n)).map fun l => i :: l := by
  induction rows with
  | nil => rfl
  | cons r rows ih =>
    rw [List.map_cons, List.flatMap_cons, List.flatMap_cons, List.map_append, ext_cons n i (h r (.head _)), ih fun l hl => h l (.tail _ hl)]
theorem picks_next (n : Nat) : ∀ f i k, n + 1 ≤ f + i → (picks n f i (k + 1)).flatMap (ext n) = picks n f i (k + 2)
  | 0, i, k, h => rfl
  | f + 1, i, k, h => by
    by_cases hi : i < n
    · rw [picks_in hi, picks_in hi, List.flatMap_append, picks_next n f (i + 1) k (by omega)]
      congr 1
      cases k with
      | zero =>
        rw [picks_zero, picks_one n f (i + 1) (by omega)]
        show ext n [i] ++ [] = _
        rw [List.append_nil, List.map_map]
        rfl
      | succ k =>
        rw [flat_cons n i fun l hl => by
          have := picks_len hl
          intro e
          rw [e] at this
          cases this]
        rw [picks_next n f (i + 1) k (by omega)]
    · rw [picks_out (by omega), picks_out (by omega)]
      rfl
theorem rising_picks (n : Nat) : ∀ k, rising n k = picks n (n + 1) 0 k
  | 0 => rfl
  | 1 => by
    show ext n [] ++ [] = _
    rw [List.append_nil, picks_one n (n + 1) 0 (by omega)]
    rfl
  | k + 2 => by
    show (rising n (k + 1)).flatMap (ext n) = _
    rw [rising_picks n (k + 1), picks_next n (n + 1) 0 k (by omega)]
theorem rising_len {n k : Nat} {l : List Nat} (h : l ∈ rising n k) : l.length = k := by
  rw [rising_picks] at h
  exact picks_len h
theorem rising_lt {n k : Nat} {l : List Nat} (h : l ∈ rising n k) : ∀ x ∈ l, x < n := by
  rw [rising_picks] at h
  exact picks_lt h
theorem ext_count (n : Nat) (r : List Nat) : (ext n r).length ≤ n := by
  unfold ext
  rw [List.length_map, List.length_range']
  omega
theorem flat_count (n : Nat) : ∀ rows : List (List Nat), (rows.flatMap (ext n)).length ≤ rows.length * n
  | [] => by show 0 ≤ _; omega
  | r :: rows => by
    rw [List.flatMap_cons, List.length_append, List.length_cons, Nat.succ_mul]
    have h1 := ext_count n r
    have h2 := flat_count n rows
    omega
theorem rising_count (n : Nat) : ∀ k, (rising n k).length ≤ n ^ k
  | 0 => by show 1 ≤ 1; decide
  | k + 1 => by
    show ((rising n k).flatMap (ext n)).length ≤ n ^ (k + 1)
    have h1 := flat_count n (rising n k)
    have h2 := rising_count n k
    rw [Nat.pow_succ]
    exact Nat.le_trans h1 (Nat.mul_le_mul_right n h2)
/-- not more than there are sets of numbers -/
theorem picks_two (n : Nat) : ∀ f i k, (picks n f i k).length ≤ 2 ^ (n - i)
  | f, i, 0 => by
    rw [picks_zero]
    exact Nat.two_pow_pos _
  | 0, i, k + 1 => Nat.zero_le _
  | f + 1, i, k + 1 => by
    by_cases hi : i < n
    · rw [picks_in hi, List.length_append, List.length_map]
      have h1 := picks_two n f (i + 1) k
      have h2 := picks_two n f (i + 1) (k + 1)
      have e : n - i = (n - (i + 1)) + 1 := by omega
      rw [e, Nat.pow_succ]
      omega
    · rw [picks_out (by omega)]
      exact Nat.zero_le _
theorem rising_two {n k : Nat} (h : n ≤ 10) : (rising n k).length ≤ 1024 := by
  rw [rising_picks]
  exact Nat.le_trans (picks_two n (n + 1) 0 k) (Nat.pow_le_pow_right (by decide) (by omega : n - 0 ≤ 10))
/-- there is one at least -/
theorem picks_some (n : Nat) : ∀ f i k, i + k ≤ n → n + 1 ≤ f + i → 0 < (picks n f i k).length
  | 0, i, k, h, h2 => by omega
  | f + 1, i, 0, h, h2 => by rw [picks_zero]; decide
  | f + 1, i, k + 1, h, h2 => by
    rw [picks_in (by omega), List.length_append, List.length_map]
    have := picks_some n f (i + 1) k (by omega) (by omega)
    omega
theorem rising_some {n k : Nat} (h : k ≤ n) : 0 < (rising n k).length := by
  rw [rising_picks]
  exact picks_some n (n + 1) 0 k (by omega) (by omega)
/-- rows of items, by the rows of their places -/
theorem rows_of (l : List Pick) : ∀ f i k, l.length + 1 ≤ f + i → i ≤ l.length → rowsOf k (l.drop i) = (picks l.length f i k).map fun r => r.map fun j => l.getD j []
  | 0, i, k, h, h2 => by omega
  | f + 1, i, 0, h, h2 => by
    rw [picks_zero]
    cases l.drop i <;> rfl
  | f + 1, i, k + 1, h, h2 => by
    by_cases hi : i < l.length
    · rw [picks_in hi, List.drop_eq_getElem_cons hi, List.map_append, List.map_map]
      show (rowsOf k (l.drop (i + 1))).map (fun r => l[i] :: r) ++ rowsOf (k + 1) (l.drop (i + 1)) = _
      rw [rows_of l f (i + 1) k (by omega) (by omega), rows_of l f (i + 1) (k + 1) (by omega) (by omega), List.map_map]
      congr 1
      apply List.map_congr_left
      intro r _
      show l[i] :: r.map (fun j => l.getD j []) = (i :: r).map fun j => l.getD j []
      rw [List.map_cons]
      congr 1
      rw [List.getD_eq_getElem?_getD, List.getElem?_eq_getElem hi]
      rfl
    · have e : i = l.length := by omega
      rw [e, List.drop_length, picks_out (Nat.le_refl _)]
      rfl
theorem rowsOf_rising (k : Nat) (l : List Pick) : rowsOf k l = (rising l.length k).map fun r => r.map fun j => l.getD j [] := by
  have h := rows_of l (l.length + 1) 0 k (by omega) (by omega)
  rw [List.drop_zero] at h
  rw [h, rising_picks]
end WD
end
section
namespace WD
open Mu24
/-! ### bits: a set of places as the bits of a number -/
theorem two_eq {a b : Nat} (h1 : a / 2 = b / 2) (h2 : a % 2 = b % 2) : a = b := by omega
theorem mod2_or (a b : Nat) : (a ||| b) % 2 = if a % 2 = 1 ∨ b % 2 = 1 then 1 else 0 := by
  have h := @Nat.or_mod_two_eq_one a b
  split
  · rename_i h1; exact h.mpr h1
  · rename_i h1
    have : ¬ (a ||| b) % 2 = 1 := fun q => h1 (h.mp q)
    omega
theorem mod2_and (a b : Nat) : (a &&& b) % 2 = if a % 2 = 1 ∧ b % 2 = 1 then 1 else 0 := by
  have h := @Nat.and_mod_two_eq_one a b
  split
  · rename_i h1; exact h.mpr h1
  · rename_i h1
    have : ¬ (a &&& b) % 2 = 1 := fun q => h1 (h.mp q)
    omega
theorem mod2_xor (a b : Nat) : (a ^^^ b) % 2 = if (a % 2 = 1) ↔ (b % 2 = 1) then 0 else 1 := by
  have h := @Nat.xor_mod_two_eq_one a b
  split
  · rename_i h1
    have : ¬ (a ^^^ b) % 2 = 1 := fun q => (h.mp q) h1
    omega
  · rename_i h1
    exact h.mpr h1
def bt (b : Bool) : Nat := if b then 1 else 0
theorem bt_lt (b : Bool) : bt b < 2 := by cases b <;> decide
theorem or_bit (a b : Bool) (x y : Nat) : (bt a + 2 * x) ||| (bt b + 2 * y) = bt (a || b) + 2 * (x ||| y) := by
  have ha := bt_lt a
  have hb := bt_lt b
  have hc := bt_lt (a || b)
  apply two_eq
  · rw [Nat.or_div_two]
    have e1 : (bt a + 2 * x) / 2 = x := by omega
    have e2 : (bt b + 2 * y) / 2 = y := by omega
    rw [e1, e2]; omega
  · rw [mod2_or]
    have e1 : (bt a + 2 * x) % 2 = bt a := by omega
    have e2 : (bt b + 2 * y) % 2 = bt b := by omega
    have e3 : (bt (a || b) + 2 * (x ||| y)) % 2 = bt (a || b) := by omega
    rw [e1, e2, e3]
    cases a <;> cases b <;> decide
theorem and_bit (a b : Bool) (x y : Nat) : (bt a + 2 * x) &&& (bt b + 2 * y) = bt (a && b) + 2 * (x &&& y) := by
  have ha := bt_lt a
  have hb := bt_lt b
  have hc := bt_lt (a && b)
  apply two_eq
  · rw [Nat.and_div_two]
    have e1 : (bt a + 2 * x) / 2 = x := by omega
    have e2 : (bt b + 2 * y) / 2 = y := by omega
    rw [e1, e2]; omega
  · rw [mod2_and]
    have e1 : (bt a + 2 * x) % 2 = bt a := by omega
    have e2 : (bt b + 2 * y) % 2 = bt b := by omega
    have e3 : (bt (a && b) + 2 * (x &&& y)) % 2 = bt (a && b) := by omega
    rw [e1, e2, e3]
    cases a <;> cases b <;> decide
theorem xor_bit (a b : Bool) (x y : Nat) : (bt a + 2 * x) ^^^ (bt b + 2 * y) = bt (a ^^ b) + 2 * (x ^^^ y) := by
  have ha := bt_lt a
  have hb := bt_lt b
  have hc := bt_lt (a ^^ b)
  apply two_eq
  · rw [Nat.xor_div_two]
    have e1 : (bt a + 2 * x) / 2 = x := by omega
    have e2 : (bt b + 2 * y) / 2 = y := by omega
    rw [e1, e2]; omega
  · rw [mod2_xor]
    have e1 : (bt a + 2 * x) % 2 = bt a := by omega
    have e2 : (bt b + 2 * y) % 2 = bt b := by omega
    have e3 : (bt (a ^^ b) + 2 * (x ^^^ y)) % 2 = bt (a ^^ b) := by omega
    rw [e1, e2, e3]
    cases a <;> cases b <;> decide
/-- which of the items have P, as bits: bit 0 for the first -/
def mask {α : Type} (P : α → Bool) : List α → Nat
  | [] => 0
  | d :: ds => bt (P d) + 2 * mask P ds
section
variable {α : Type} {P Q : α → Bool}
theorem mask_or : ∀ ds : List α, mask P ds ||| mask Q ds = mask (fun d => P d || Q d) ds
  | [] => by show 0 ||| 0 = 0; decide
  | d :: ds => by
    show (bt (P d) + 2 * mask P ds) ||| (bt (Q d) + 2 * mask Q ds) = bt (P d || Q d) + 2 * mask (fun d => P d || Q d) ds
    rw [or_bit, mask_or ds]
theorem mask_and : ∀ ds : List α, mask P ds &&& mask Q ds = mask (fun d => P d && Q d) ds
  | [] => by show 0 &&& 0 = 0; decide
  | d :: ds => by
    show (bt (P d) + 2 * mask P ds) &&& (bt (Q d) + 2 * mask Q ds) = bt (P d && Q d) + 2 * mask (fun d => P d && Q d) ds
    rw [and_bit, mask_and ds]
theorem mask_xor : ∀ ds : List α, mask P ds ^^^ mask Q ds = mask (fun d => P d ^^ Q d) ds
  | [] => by show 0 ^^^ 0 = 0; decide
  | d :: ds => by
    show (bt (P d) + 2 * mask P ds) ^^^ (bt (Q d) + 2 * mask Q ds) = bt (P d ^^ Q d) + 2 * mask (fun d => P d ^^ Q d) ds
    rw [xor_bit, mask_xor ds]
theorem mask_lt : ∀ ds : List α, mask P ds < 2 ^ ds.length
  | [] => by show 0 < 1; decide
  | d :: ds => by
    show bt (P d) + 2 * mask P ds < 2 ^ (ds.length + 1)
    have h := mask_lt ds
    have hb := bt_lt (P d)
    rw [Nat.pow_succ]
    omega
theorem mask_all : ∀ ds : List α, mask (fun _ => true) ds = 2 ^ ds.length - 1
  | [] => rfl
  | d :: ds => by
    show bt true + 2 * mask (fun _ => true) ds = 2 ^ (ds.length + 1) - 1
    rw [mask_all ds, Nat.pow_succ]
    have h : 0 < 2 ^ ds.length := Nat.two_pow_pos _
    show 1 + 2 * (2 ^ ds.length - 1) = _
    omega
theorem mask_none : ∀ ds : List α, mask (fun _ => false) ds = 0
  | [] => rfl
  | d :: ds => by
    show bt false + 2 * mask (fun _ => false) ds = 0
    rw [mask_none ds]
    rfl
theorem mask_congr : ∀ {ds : List α}, (∀ d ∈ ds, P d = Q d) → mask P ds = mask Q ds
  | [], _ => rfl
  | d :: ds, h => by
    show bt (P d) + 2 * mask P ds = bt (Q d) + 2 * mask Q ds
    rw [h d (.head _), mask_congr fun e he => h e (.tail _ he)]
theorem mask_inj : ∀ {ds : List α}, mask P ds = mask Q ds → ∀ d ∈ ds, P d = Q d
  | [], _, d, h => nomatch h
  | e :: ds, h, d, hd => by
    have h' : bt (P e) + 2 * mask P ds = bt (Q e) + 2 * mask Q ds := h
    have h1 := bt_lt (P e)
    have h2 := bt_lt (Q e)
    rcases List.mem_cons.mp hd with rfl | hd
    · have : bt (P d) = bt (Q d) := by omega
      cases hp : P d <;> cases hq : Q d <;> rw [hp, hq] at this <;> first | rfl | (exact absurd this (by decide))
    · exact mask_inj (by omega) d hd
theorem mask_snoc : ∀ (ds : List α) (e : α), mask P (ds ++ [e]) = mask P ds ||| (if P e then 2 ^ ds.length else 0)
  | [], e => by
    show bt (P e) + 2 * 0 = 0 ||| (if P e then 1 else 0)
    cases P e <;> rfl
  | d :: ds, e => by
    show bt (P d) + 2 * mask P (ds ++ [e]) = (bt (P d) + 2 * mask P ds) ||| (if P e then 2 ^ (ds.length + 1) else 0)
    rw [mask_snoc ds e]
    have e2 : (if P e then 2 ^ (ds.length + 1) else 0) = bt false + 2 * (if P e then 2 ^ ds.length else 0) := by
      cases P e
      · rfl
      · show 2 ^ (ds.length + 1) = 0 + 2 * 2 ^ ds.length
        rw [Nat.pow_succ]; omega
    rw [e2, or_bit, Bool.or_false]
end
/-- how many bits -/
def pop (n : Nat) : Nat := if h : n = 0 then 0 else n % 2 + pop (n / 2)
termination_by n
decreasing_by omega
theorem pop_zero : pop 0 = 0 := by rw [pop]; rfl
theorem pop_bit (b : Bool) (x : Nat) : pop (bt b + 2 * x) = bt b + pop x := by
  have hb := bt_lt b
  by_cases h : bt b + 2 * x = 0
  · have h1 : x = 0 := by omega
    have h2 : bt b = 0 := by omega
    rw [h, h1, h2, pop_zero]
  · rw [pop, dif_neg h]
    have e1 : (bt b + 2 * x) % 2 = bt b := by omega
    have e2 : (bt b + 2 * x) / 2 = x := by omega
    rw [e1, e2]
theorem pop_mask {α : Type} {P : α → Bool} : ∀ ds : List α, pop (mask P ds) = (ds.filter P).length
  | [] => pop_zero
  | d :: ds => by
    show pop (bt (P d) + 2 * mask P ds) = _
    rw [pop_bit, pop_mask ds]
    cases h : P d
    · rw [List.filter_cons_of_neg (by rw [h]; decide)]
      show 0 + _ = _
      omega
    · rw [List.filter_cons_of_pos h, List.length_cons]
      show 1 + _ = _
      omega
theorem land_pred : ∀ n : Nat, 0 < n → (n &&& (n - 1)) < n ∧ pop (n &&& (n - 1)) + 1 = pop n := by
  intro n
  induction n using Nat.strongRecOn with
  | _ n ih =>
    intro hn
    by_cases h : n % 2 = 1
    · have e1 : n = bt true + 2 * (n / 2) := by show n = 1 + _; omega
      have e2 : n - 1 = bt false + 2 * (n / 2) := by show n - 1 = 0 + _; omega
      have e3 : (n &&& (n - 1)) = bt false + 2 * (n / 2) := by
        rw [e2]
        conv => lhs; lhs; rw [e1]
        rw [and_bit, Nat.and_self]
        rfl
      refine ⟨by rw [e3]; show 0 + 2 * (n / 2) < n; omega, ?_⟩
      rw [e3, pop_bit]
      conv => rhs; rw [e1]
      rw [pop_bit]
      show 0 + _ + 1 = 1 + _
      omega
    · have hk : 0 < n / 2 := by omega
      obtain ⟨i1, i2⟩ := ih (n / 2) (by omega) hk
      have e1 : n = bt false + 2 * (n / 2) := by show n = 0 + _; omega
      have e2 : n - 1 = bt true + 2 * (n / 2 - 1) := by show n - 1 = 1 + _; omega
      have e3 : (n &&& (n - 1)) = bt false + 2 * (n / 2 &&& (n / 2 - 1)) := by
        rw [e2]
        conv => lhs; lhs; rw [e1]
        rw [and_bit]
        rfl
      refine ⟨by rw [e3]; show 0 + 2 * _ < n; omega, ?_⟩
      rw [e3, pop_bit]
      conv => rhs; rw [e1]
      rw [pop_bit]
      show 0 + _ + 1 = 0 + _
      omega
end WD
end
section
namespace WD
open Mu24
/-! ### a row as it must be -/
def upFrom (n : Nat) : Nat → List Nat → Bool
  | _, [] => true
  | c, x :: l => decide (c ≤ x) && (decide (x < n) && upFrom n (x + 1) l)
theorem upFrom_cons (n : Nat) : ∀ (l : List Nat) (a c : Nat), upFrom n c (a :: l) = (decide (c ≤ a) && (rises (a :: l) && (a :: l).all fun x => decide (x < n)))
  | [], a, c => by
    show (decide (c ≤ a) && (decide (a < n) && true)) = (decide (c ≤ a) && (true && (decide (a < n) && true)))
    rw [Bool.true_and]
  | b :: l, a, c => by
    have ih := upFrom_cons n l b (a + 1)
    show (decide (c ≤ a) && (decide (a < n) && upFrom n (a + 1) (b :: l))) = (decide (c ≤ a) && ((decide (a < b) && rises (b :: l)) && (decide (a < n) && (b :: l).all fun x => decide (x < n))))
    rw [ih]
    have e : decide (a + 1 ≤ b) = decide (a < b) := rfl
    rw [e]
    generalize decide (c ≤ a) = p
    generalize decide (a < n) = q
    generalize decide (a < b) = r
    generalize rises (b :: l) = u
    generalize ((b :: l).all fun x => decide (x < n)) = v
    cases p <;> cases q <;> cases r <;> cases u <;> cases v <;> rfl
theorem upFrom_zero (n : Nat) (l : List Nat) : upFrom n 0 l = (rises l && l.all fun x => decide (x < n)) := by
  cases l with
  | nil => rfl
  | cons a l =>
    rw [upFrom_cons]
    have e : decide (0 ≤ a) = true := decide_eq_true (Nat.zero_le _)
    rw [e, Bool.true_and]
def isRow (n k : Nat) (l : List Nat) : Bool := l.length == k && upFrom n 0 l
theorem isRow_pick (s : State) (k : Nat) (l : List Nat) : isRow s.n k l = isPick s k l := by
  unfold isRow isPick
  rw [upFrom_zero]
theorem isPick_len {s : State} {k : Nat} {l : List Nat} (h : isPick s k l = true) : l.length = k := by
  unfold isPick at h
  rw [Bool.and_eq_true] at h
  exact eq_of_beq h.1
theorem isPick_lt {s : State} {k : Nat} {l : List Nat} (h : isPick s k l = true) : ∀ x ∈ l, x < s.n := by
  unfold isPick at h
  rw [Bool.and_eq_true, Bool.and_eq_true] at h
  intro x hx
  exact of_decide_eq_true (List.all_eq_true.mp h.2.2 x hx)
/-! ### how many are right -/
theorem right_snoc (a : Pick) (x : Nat) (d : Pick) : right (a ++ [x]) d = right a d + bt (d.contains x) := by
  unfold right
  rw [List.filter_append, List.length_append]
  cases h : d.contains x
  · rw [List.filter_cons_of_neg (by rw [h]; decide)]
    rfl
  · rw [List.filter_cons_of_pos h]
    rfl
theorem right_le (a d : Pick) : right a d ≤ a.length := List.length_filter_le _ _
theorem right_nil (d : Pick) : right [] d = 0 := rfl
theorem most_snoc (l : List Pick) (a : Pick) (d : Pick) : most (l ++ [a]) d = max (most l d) (right a d) := by
  unfold most
  rw [List.foldl_append]
  rfl
theorem most_nil (d : Pick) : most [] d = 0 := rfl
theorem foldl_max_le (f : Pick → Nat) (B : Nat) : ∀ (l : List Pick) (c : Nat), c ≤ B → (∀ a ∈ l, f a ≤ B) → l.foldl (fun m a => max m (f a)) c ≤ B
  | [], _, h, _ => h
  | a :: l, c, h, h2 => foldl_max_le f B l (max c (f a)) (Nat.max_le.mpr ⟨h, h2 a (.head _)⟩) fun b hb => h2 b (.tail _ hb)
theorem most_le {l : List Pick} {d : Pick} {B : Nat} (h : ∀ a ∈ l, a.length ≤ B) : most l d ≤ B :=
  foldl_max_le (fun a => right a d) B l 0 (Nat.zero_le _) fun a ha => Nat.le_trans (right_le a d) (h a ha)
/-- the greatest of them, as max(.., default=0) tells it -/
theorem foldl_max_mem (f : Pick → Nat) : ∀ (l : List Pick) (c : Nat), c ≤ l.foldl (fun m a => max m (f a)) c ∧ (∀ a ∈ l, f a ≤ l.foldl (fun m a => max m (f a)) c) ∧ (l.foldl (fun m a => max m (f a)) c = c ∨ ∃ a ∈ l, l.foldl (fun m a => max m (f a)) c = f a)
  | [], c => ⟨Nat.le_refl _, (fun _ h => nomatch h), .inl rfl⟩
  | a :: l, c => by
    obtain ⟨h1, h2, h3⟩ := foldl_max_mem f l (max c (f a))
    refine ⟨Nat.le_trans (Nat.le_max_left _ _) h1, fun b hb => ?_, ?_⟩
    · rcases List.mem_cons.mp hb with rfl | hb
      · exact Nat.le_trans (Nat.le_max_right _ _) h1
      · exact h2 b hb
    · rcases h3 with h3 | ⟨b, hb, h3⟩
      · show l.foldl (fun m a => max m (f a)) (max c (f a)) = c ∨ ∃ b ∈ a :: l, l.foldl (fun m a => max m (f a)) (max c (f a)) = f b
        rw [h3]
        rcases Nat.le_total c (f a) with h | h
        · exact .inr ⟨a, .head _, Nat.max_eq_right h⟩
        · exact .inl (Nat.max_eq_left h)
      · exact .inr ⟨b, .tail _ hb, h3⟩
theorem most_is {l : List Pick} {d : Pick} {v : Nat} (h1 : ∀ a ∈ l, right a d ≤ v) (h2 : (l = [] ∧ v = 0) ∨ ∃ a ∈ l, v = right a d) : most l d = v := by
  obtain ⟨g1, g2, g3⟩ := foldl_max_mem (fun a => right a d) l 0
  have e : most l d = l.foldl (fun m a => max m (right a d)) 0 := rfl
  rw [e]
  rcases h2 with ⟨rfl, rfl⟩ | ⟨a, ha, rfl⟩
  · rfl
  · have k1 := g2 a ha
    rcases g3 with g3 | ⟨b, hb, g3⟩
    · rw [g3] at k1
      rw [g3]
      exact (Nat.le_zero.mp k1).symm
    · rw [g3] at k1
      rw [g3]
      have := h1 b hb
      omega
/-! ### which draws are covered, as bits -/
def hitM (a : Pick) (m : Nat) : Pick → Bool := fun d => decide (m ≤ right a d)
def covM (l : List Pick) (m : Nat) : Pick → Bool := fun d => decide (m ≤ most l d)
theorem covM_snoc (l : List Pick) (a : Pick) (m : Nat) (d : Pick) : covM (l ++ [a]) m d = (covM l m d || hitM a m d) := by
  unfold covM hitM
  rw [most_snoc, Bool.eq_iff_iff, Bool.or_eq_true, decide_eq_true_eq, decide_eq_true_eq, decide_eq_true_eq]
  omega
theorem covM_nil (m : Nat) (d : Pick) : covM [] m d = decide (m = 0) := by
  unfold covM
  rw [most_nil]
  exact decide_eq_decide.mpr (by omega)
/-- one number more of the ticket -/
theorem hit_snoc (a : Pick) (x : Nat) (r : Nat) (ds : List Pick) : mask (hitM (a ++ [x]) (r + 1)) ds = mask (hitM a (r + 1)) ds ||| (mask (hitM a r) ds &&& mask (fun d => d.contains x) ds) := by
  rw [mask_and, mask_or]
  apply mask_congr
  intro d _
  unfold hitM
  rw [right_snoc]
  cases h : d.contains x
  · rw [Bool.and_false, Bool.or_false]
    exact decide_eq_decide.mpr (by show r + 1 ≤ _ + 0 ↔ _; omega)
  · rw [Bool.and_true, Bool.eq_iff_iff, Bool.or_eq_true, decide_eq_true_eq, decide_eq_true_eq, decide_eq_true_eq]
    show r + 1 ≤ _ + 1 ↔ _
    omega
theorem hit_zero (a : Pick) (ds : List Pick) : mask (hitM a 0) ds = 2 ^ ds.length - 1 := by
  rw [← mask_all]
  exact mask_congr fun d _ => decide_eq_true (Nat.zero_le _)
theorem hit_nil (r : Nat) (ds : List Pick) : mask (hitM [] (r + 1)) ds = 0 := by
  rw [← mask_none]
  exact mask_congr fun d _ => decide_eq_false (by rw [right_nil]; omega)
theorem cov_count (s : State) (l : List Pick) (m : Nat) : pop (mask (covM l m) (allDraws s)) = covered s l m := pop_mask _
theorem cov_all (s : State) (l : List Pick) (m : Nat) : (mask (covM l m) (allDraws s) = 2 ^ (allDraws s).length - 1) ↔ allCovered s l m = true := by
  rw [← mask_all]
  unfold allCovered
  rw [List.all_eq_true]
  exact ⟨fun h d hd => mask_inj h d hd, fun h => mask_congr fun d hd => h d hd⟩
theorem one_count (s : State) (a : Pick) (m : Nat) : pop (mask (hitM a m) (allDraws s)) = covered s [a] m := by
  rw [pop_mask]
  unfold covered
  have e : (allDraws s).filter (hitM a m) = (allDraws s).filter fun d => decide (m ≤ most [a] d) := by
    apply List.filter_congr
    intro d _
    unfold hitM
    have e : most [a] d = max 0 (right a d) := rfl
    rw [e]
    exact decide_eq_decide.mpr (by omega)
  rw [e]
/-! ### next -/
theorem filter_or {α : Type} (P Q : α → Bool) : ∀ l : List α, (l.filter fun d => P d || Q d).length = (l.filter P).length + (l.filter fun d => Q d && !P d).length
  | [] => rfl
  | d :: l => by
    have ih := filter_or P Q l
    cases hp : P d <;> cases hq : Q d <;> simp [hp, hq, ih] <;> omega
theorem more_is (s : State) (l : List Pick) (a : Pick) (m : Nat) :
    pop (mask (hitM a m) (allDraws s) &&& ((2 ^ (allDraws s).length - 1) ^^^ mask (covM l m) (allDraws s))) + covered s l m = covered s (l ++ [a]) m := by
  rw [← mask_all, mask_xor, mask_and, pop_mask]
  have e1 : covered s (l ++ [a]) m = ((allDraws s).filter fun d => covM l m d || hitM a m d).length := by
    unfold covered
    congr 1
    apply List.filter_congr
    intro d _
    exact covM_snoc l a m d
  have e2 : covered s l m = ((allDraws s).filter (covM l m)).length := rfl
  rw [e1, e2, filter_or, Nat.add_comm]
  congr 2
  apply List.filter_congr
  intro d _
  cases covM l m d <;> rfl
/-- the loop of next: the first that is worth the most, if it is worth anything -/
def nextOf (g : Pick → Nat) (r : Nat × Pick) (l : List Pick) : Nat × Pick := l.foldl (fun r a => if r.1 < g a then (g a, a) else r) r
theorem nextOf_snoc (g : Pick → Nat) (r : Nat × Pick) (l : List Pick) (a : Pick) : nextOf g r (l ++ [a]) = if (nextOf g r l).1 < g a then (g a, a) else nextOf g r l := by
  unfold nextOf
  rw [List.foldl_append]
  rfl
def bestStep (f : Pick → Nat) (m : Option Pick) (a : Pick) : Option Pick := match m with
  | none => some a
  | some b => if f b < f a then some a else some b
theorem next_best (f g : Pick → Nat) (c : Nat) (h : ∀ a, g a + c = f a) : ∀ (l : List Pick) (r : Nat × Pick) (o : Option Pick),
    ((o = none ∧ r = (0, [])) ∨ ∃ b, o = some b ∧ ((0 < g b ∧ r = (g b, b)) ∨ (g b = 0 ∧ r = (0, [])))) →
    ((l.foldl (bestStep f) o = none ∧ nextOf g r l = (0, [])) ∨ ∃ b, l.foldl (bestStep f) o = some b ∧ ((0 < g b ∧ nextOf g r l = (g b, b)) ∨ (g b = 0 ∧ nextOf g r l = (0, []))))
  | [], r, o, hr => hr
  | a :: l, r, o, hr => by
    refine next_best f g c h l (if r.1 < g a then (g a, a) else r) (bestStep f o a) ?_
    right
    rcases hr with ⟨rfl, rfl⟩ | ⟨b, rfl, hr⟩
    · refine ⟨a, rfl, ?_⟩
      by_cases h0 : 0 < g a
      · exact .inl ⟨h0, if_pos h0⟩
      · exact .inr ⟨by omega, if_neg h0⟩
    · have ha := h a
      have hb := h b
      rcases hr with ⟨h0, rfl⟩ | ⟨h0, rfl⟩
      · by_cases hlt : g b < g a
        · refine ⟨a, if_pos (by omega), .inl ⟨by omega, if_pos hlt⟩⟩
        · refine ⟨b, if_neg (by omega), .inl ⟨h0, if_neg hlt⟩⟩
      · by_cases hlt : 0 < g a
        · refine ⟨a, if_pos (by omega), .inl ⟨hlt, if_pos hlt⟩⟩
        · refine ⟨b, if_neg (by omega), .inr ⟨h0, if_neg hlt⟩⟩
theorem bestOf_step (f : Pick → Nat) (l : List Pick) : bestOf f l = l.foldl (bestStep f) none := by
  unfold bestOf bestStep
  rfl
def nextAns (s : State) (m : Nat) : Ans := match nextTicket s m with
  | some x => if x.2 = 0 then [-6] else nums (x.2 :: x.1)
  | none => [-6]
theorem next_ans (s : State) (m : Nat) (g : Pick → Nat) (h : ∀ a, g a + covered s s.tickets m = covered s (s.tickets ++ [a]) m) :
    nextAns s m = if 0 < (nextOf g (0, []) (allTickets s)).1 then nums ((nextOf g (0, []) (allTickets s)).1 :: (nextOf g (0, []) (allTickets s)).2) else [-6] := by
  have k := next_best (fun a => covered s (s.tickets ++ [a]) m) g (covered s s.tickets m) h (allTickets s) (0, []) none (.inl ⟨rfl, rfl⟩)
  unfold nextAns nextTicket
  rw [bestOf_step]
  rcases k with ⟨k1, k2⟩ | ⟨b, k1, k2⟩
  · rw [k1, k2]
    rfl
  · rw [k1]
    have hb := h b
    have e : covered s (s.tickets ++ [b]) m - covered s s.tickets m = g b := by omega
    dsimp only
    rw [e]
    rcases k2 with ⟨h0, k2⟩ | ⟨h0, k2⟩
    · rw [k2, if_neg (by omega), if_pos h0]
    · rw [k2, if_pos h0]
      rfl
end WD
end
section
namespace WD
open Mu24
/-! ### fewest -/
theorem draws_some {s : State} (h : s.t ≤ s.n) : 0 < (allDraws s).length := by
  unfold allDraws
  exact picks_some s.n (s.n + 1) 0 s.t (by omega) (by omega)
theorem allDraws_rising (s : State) : allDraws s = rising s.n s.t := (rising_picks _ _).symm
theorem allTickets_rising (s : State) : allTickets s = rising s.n s.k := (rising_picks _ _).symm
theorem allCovered_nil {s : State} {m : Nat} (h : s.t ≤ s.n) (hm : 0 < m) : allCovered s [] m = false := by
  unfold allCovered
  have hd := draws_some h
  cases e : allDraws s with
  | nil => rw [e] at hd; exact absurd hd (Nat.lt_irrefl _)
  | cons d ds =>
    show (decide (m ≤ most [] d) && _) = false
    have e2 : decide (m ≤ most [] d) = false := decide_eq_false (by rw [most_nil]; omega)
    rw [e2]
    rfl
def gets (l : List Pick) (r : List Nat) : List Pick := r.map fun j => l.getD j []
def rowOk (s : State) (m : Nat) (r : List Nat) : Bool := allCovered s (gets (allTickets s) r) m
def rowAt (s : State) (m k : Nat) : Option (List Nat) := (rising (allTickets s).length k).find? (rowOk s m)
theorem row_find (s : State) (m k : Nat) : ((rowsOf k (allTickets s)).find? fun l => allCovered s l m) = (rowAt s m k).map (gets (allTickets s)) := by
  rw [rowsOf_rising]
  unfold rowAt
  generalize rising (allTickets s).length k = l
  induction l with
  | nil => rfl
  | cons r l ih =>
    rw [List.map_cons, List.find?_cons, List.find?_cons]
    have e : allCovered s (r.map fun j => (allTickets s).getD j []) m = rowOk s m r := rfl
    rw [e]
    cases h : rowOk s m r
    · dsimp only
      exact ih
    · rfl
def sizesFrom (s : State) (m : Nat) : Nat → Nat → Option (List Nat)
  | 0, _ => none
  | f + 1, k => match rowAt s m k with
    | some r => some r
    | none => sizesFrom s m f (k + 1)
theorem fewest_from (s : State) (m : Nat) : ∀ f k, fewest s m f k = (sizesFrom s m f k).map (gets (allTickets s))
  | 0, _ => rfl
  | f + 1, k => by
    show (match (rowsOf k (allTickets s)).find? fun l => allCovered s l m with
      | some l => some l
      | none => fewest s m f (k + 1)) = _
    rw [row_find]
    unfold sizesFrom
    cases h : rowAt s m k with
    | none =>
      dsimp only [Option.map_none]
      exact fewest_from s m f (k + 1)
    | some r => rfl
theorem row_zero {s : State} {m : Nat} (h : s.t ≤ s.n) (hm : 0 < m) : rowAt s m 0 = none := by
  unfold rowAt
  show ([[]] : List (List Nat)).find? (rowOk s m) = none
  rw [List.find?_cons]
  have e : rowOk s m [] = false := allCovered_nil h hm
  rw [e]
  rfl
theorem fewest_is {s : State} {m : Nat} (h : s.t ≤ s.n) (hm : 0 < m) : fewest s m 4 0 = (sizesFrom s m 3 1).map (gets (allTickets s)) := by
  rw [fewest_from]
  show Option.map _ (match rowAt s m 0 with
    | some r => some r
    | none => sizesFrom s m 3 1) = _
  rw [row_zero h hm]
theorem gets_len (l : List Pick) (r : List Nat) : (gets l r).length = r.length := List.length_map _
/-- the turns of the loop over sizes: none found so far -/
theorem sizes_step (s : State) (m : Nat) {f k : Nat} : sizesFrom s m (f + 1) k = match rowAt s m k with
    | some r => some r
    | none => sizesFrom s m f (k + 1) := rfl
/-! ### places -/
theorem cut_is {α : Type} (l : List α) (i : Nat) : l.take i ++ l.drop (i + 1) = l.eraseIdx i := (List.eraseIdx_eq_take_drop_succ l i).symm
theorem needed_step {s : State} {m f i : Nat} {l : List Pick} (h : i < l.length) : needed s m (f + 1) i l = if allCovered s (l.eraseIdx i) m = true then needed s m f i (l.eraseIdx i) else needed s m f (i + 1) l := by
  show (if l.length ≤ i then l else _) = _
  rw [if_neg (by omega)]
theorem needed_end {s : State} {m f i : Nat} {l : List Pick} (h : l.length ≤ i) : needed s m f i l = l := by
  cases f with
  | zero => rfl
  | succ f =>
    show (if l.length ≤ i then l else _) = _
    rw [if_pos h]
theorem needed_sub {s : State} {m : Nat} : ∀ {f i : Nat} {l : List Pick}, (∀ a ∈ needed s m f i l, a ∈ l) ∧ (needed s m f i l).length ≤ l.length
  | 0, i, l => ⟨fun _ h => h, Nat.le_refl _⟩
  | f + 1, i, l => by
    by_cases h : i < l.length
    · rw [needed_step h]
      split
      · have ih := needed_sub (s := s) (m := m) (f := f) (i := i) (l := l.eraseIdx i)
        have hl : (l.eraseIdx i).length ≤ l.length := by rw [List.length_eraseIdx]; split <;> omega
        exact ⟨fun a ha => List.mem_of_mem_eraseIdx (ih.1 a ha), Nat.le_trans ih.2 hl⟩
      · exact needed_sub
    · rw [needed_end (by omega)]
      exact ⟨fun _ h => h, Nat.le_refl _⟩
/-! ### worst -/
def worstR (l : List Pick) (n : Nat) (ds : List Pick) : Nat × Pick := ds.foldr (fun d r => if most l d ≤ r.1 then (most l d, d) else r) (n + 1, [])
theorem worst_ge {l : List Pick} {n c : Nat} (hc : c ≤ n + 1) : ∀ {ds : List Pick}, (∀ d ∈ ds, c ≤ most l d) → c ≤ (worstR l n ds).1
  | [], _ => hc
  | d :: ds, h => by
    show c ≤ (if most l d ≤ (worstR l n ds).1 then (most l d, d) else worstR l n ds).1
    split
    · exact h d (.head _)
    · exact worst_ge hc fun e he => h e (.tail _ he)
theorem worst_first {l : List Pick} {n : Nat} : ∀ {ds : List Pick} {i : Nat} {d : Pick}, (∀ d ∈ ds, most l d ≤ n + 1) → ds[i]? = some d → (∀ j e, ds[j]? = some e → most l d ≤ most l e ∧ (j < i → most l d < most l e)) → worstR l n ds = (most l d, d)
  | [], i, d, _, h, _ => by simp at h
  | e :: ds, 0, d, hB, h, hm => by
    have ed : e = d := Option.some.inj h
    subst ed
    show (if most l e ≤ (worstR l n ds).1 then (most l e, e) else worstR l n ds) = _
    rw [if_pos]
    refine worst_ge (hB e (.head _)) fun x hx => ?_
    obtain ⟨j, hj⟩ := List.getElem?_of_mem hx
    exact (hm (j + 1) x hj).1
  | e :: ds, i + 1, d, hB, h, hm => by
    have ih := worst_first (l := l) (n := n) (ds := ds) (i := i) (d := d) (fun x hx => hB x (.tail _ hx)) h fun j x hx => by
      obtain ⟨a, b⟩ := hm (j + 1) x hx
      exact ⟨a, fun hj => b (by omega)⟩
    show (if most l e ≤ (worstR l n ds).1 then (most l e, e) else worstR l n ds) = _
    have h0 := (hm 0 e rfl).2 (by omega)
    rw [ih, if_neg (by show ¬ most l e ≤ most l d; omega)]
theorem worst_eq (s : State) (l : List Pick) : worst s l = worstR l s.n (allDraws s) := rfl
/-! ### sums -/
theorem total_sum (l : List Nat) : total l = l.sum := by
  unfold total
  have h : ∀ (l : List Nat) (c : Nat), l.foldl (fun a b => a + b) c = c + l.sum := by
    intro l
    induction l with
    | nil => intro c; rfl
    | cons a l ih =>
      intro c
      rw [List.foldl_cons, ih, List.sum_cons]
      omega
  rw [h]
  omega
theorem paid_sum (p : List Nat) (l : List Pick) (d : Pick) : paid p l d = (l.map fun x => p.getD (right x d) 0).sum := by
  unfold paid
  have h : ∀ (l : List Pick) (c : Nat), l.foldl (fun a x => a + p.getD (right x d) 0) c = c + (l.map fun x => p.getD (right x d) 0).sum := by
    intro l
    induction l with
    | nil => intro c; rfl
    | cons a l ih =>
      intro c
      rw [List.foldl_cons, ih, List.map_cons, List.sum_cons]
      omega
  rw [h]
  omega
theorem sum_le {B : Nat} : ∀ {l : List Nat}, (∀ x ∈ l, x ≤ B) → l.sum ≤ l.length * B
  | [], _ => by show 0 ≤ _; omega
  | a :: l, h => by
    rw [List.sum_cons, List.length_cons, Nat.succ_mul]
    have h1 := h a (.head _)
    have h2 := sum_le (l := l) fun x hx => h x (.tail _ hx)
    omega
theorem maxl_mem : ∀ (l : List Nat) (c : Nat), c ≤ l.foldl max c ∧ (∀ a ∈ l, a ≤ l.foldl max c) ∧ (l.foldl max c = c ∨ l.foldl max c ∈ l)
  | [], c => ⟨Nat.le_refl _, (fun _ h => nomatch h), .inl rfl⟩
  | a :: l, c => by
    obtain ⟨h1, h2, h3⟩ := maxl_mem l (max c a)
    refine ⟨Nat.le_trans (Nat.le_max_left _ _) h1, fun b hb => ?_, ?_⟩
    · rcases List.mem_cons.mp hb with rfl | hb
      · exact Nat.le_trans (Nat.le_max_right _ _) h1
      · exact h2 b hb
    · show l.foldl max (max c a) = c ∨ l.foldl max (max c a) ∈ a :: l
      rcases h3 with h3 | h3
      · rw [h3]
        rcases Nat.le_total c a with h | h
        · rw [Nat.max_eq_right h]
          exact .inr (.head _)
        · exact .inl (Nat.max_eq_left h)
      · exact .inr (.tail _ h3)
theorem maxl_is {l : List Nat} {v : Nat} (h1 : ∀ a ∈ l, a ≤ v) (h2 : v ∈ l) : l.foldl max 0 = v := by
  obtain ⟨_, g2, g3⟩ := maxl_mem l 0
  have k1 := g2 v h2
  rcases g3 with g3 | g3
  · omega
  · have := h1 _ g3
    omega
/-! ### lowest terms -/
theorem lowest_is {a b : Nat} (hb : 0 < b) : lowest a b = (a / Nat.gcd a b, b / Nat.gcd a b) := by
  unfold lowest
  have h : Nat.gcd a b ≠ 0 := by
    have := Nat.gcd_pos_of_pos_right a hb
    omega
  dsimp only
  rw [if_neg h]
/-! ### least -/
theorem one_is {s : State} {a : Pick} (h : (allTickets s)[0]? = some a) (m : Nat) : one s m = covered s [a] m := by
  unfold one
  cases e : allTickets s with
  | nil => rw [e] at h; simp at h
  | cons b l =>
    rw [e] at h
    have : b = a := Option.some.inj h
    rw [this]
end WD
end
section
namespace WD
open Mu24
/-! ### the line of calls -/
theorem whole_id (c : List (List Int)) : PyMu24.whole c = c := by
  unfold PyMu24.whole
  split <;> rfl
theorem map_whole (cs : List (List (List Int))) : cs.map PyMu24.whole = cs := by
  induction cs with
  | nil => rfl
  | cons c cs ih => rw [List.map_cons, whole_id, ih]
def isR (p : Nat) : Bool := p == 1 || (p == 4 || p == 10)
def plainN (p : Nat) : Nat := [3, 0, 1, 0, 0, 0, 1, 1, 1, 1, 0, 1].getD p 0
def mk : Nat → List Nat → Mu24.Call
  | 0, g => .begin_ (g.getD 0 0) (g.getD 1 0) (g.getD 2 0)
  | 1, g => .buy g
  | 2, g => .drop (g.getD 0 0)
  | 3, _ => .look
  | 4, g => .matches_ g
  | 5, _ => .worst
  | 6, g => .covers (g.getD 0 0)
  | 7, g => .next (g.getD 0 0)
  | 8, g => .fewest (g.getD 0 0)
  | 9, g => .needed (g.getD 0 0)
  | 10, g => .pays g
  | _, g => .least (g.getD 0 0)
structure CallOk (p : Nat) (g : List Nat) : Prop where
  lt : p < 12
  few : g.length ≤ 20
  len : isR p = false → g.length = plainN p
  low : p ≠ 2 → p ≠ 10 → ∀ x ∈ g, x ≤ 20
  low2 : p = 2 → ∀ x ∈ g, x ≤ 50
abbrev zints (l : List Nat) : List Int := l.map Int.ofNat
abbrev sh := PyMu24.shape
theorem call_eq (p : Int) (r : List Int) : PyFlat.call sh (p :: r) = match sh p with
    | none => none
    | some (n, k) => if r.length < n then none else match PyFlat.rows k (r.drop n) with
      | none => none
      | some (xs, t) => some ((p :: r.take n) :: xs, t) := rfl
theorem call_0 {p : Int} {r : List Int} {c : List (List Int)} {t : List Int} (hs : sh p = some (0, 0)) (h : PyFlat.call sh (p :: r) = some (c, t)) : c = [[p]] ∧ t = r := by
  rw [call_eq] at h
  rw [hs] at h
  have h' : (if r.length < 0 then none else some ([p :: r.take 0], r.drop 0)) = some (c, t) := h
  rw [if_neg (by omega)] at h'
  obtain ⟨e1, e2⟩ := Prod.mk.inj (Option.some.inj h')
  exact ⟨e1.symm, e2.symm⟩
theorem call_n {p : Int} {r : List Int} {c : List (List Int)} {t : List Int} {n : Nat} (hs : sh p = some (n, 0)) (h : PyFlat.call sh (p :: r) = some (c, t)) : ∃ x, x.length = n ∧ r = x ++ t ∧ c = [p :: x] := by
  rw [call_eq] at h
  rw [hs] at h
  have h' : (if r.length < n then none else some ([p :: r.take n], r.drop n)) = some (c, t) := h
  by_cases hl : r.length < n
  · rw [if_pos hl] at h'
    cases h'
  · rw [if_neg hl] at h'
    obtain ⟨e1, e2⟩ := Prod.mk.inj (Option.some.inj h')
    exact ⟨r.take n, by rw [List.length_take]; omega, by rw [← e2, List.take_append_drop], e1.symm⟩
theorem call_r {p : Int} {r : List Int} {c : List (List Int)} {t : List Int} (hs : sh p = some (0, 1)) (h : PyFlat.call sh (p :: r) = some (c, t)) : ∃ g : List Int, r = (g.length : Int) :: (g ++ t) ∧ c = [[p], g] := by
  rw [call_eq] at h
  rw [hs] at h
  have h' : (if r.length < 0 then none else match PyFlat.rows 1 r with
      | none => none
      | some (xs, t) => some ((p :: r.take 0) :: xs, t)) = some (c, t) := h
  rw [if_neg (by omega)] at h'
  cases r with
  | nil => cases h'
  | cons n r =>
    have e : PyFlat.rows 1 (n :: r) = match (if 0 ≤ n ∧ n.toNat ≤ r.length then some (r.take n.toNat, r.drop n.toNat) else none) with
      | none => none
      | some (x, s) => some ([x], s) := rfl
    rw [e] at h'
    by_cases hl : 0 ≤ n ∧ n.toNat ≤ r.length
    · rw [if_pos hl] at h'
      obtain ⟨e1, e2⟩ := Prod.mk.inj (Option.some.inj h')
      have len : (r.take n.toNat).length = n.toNat := by rw [List.length_take]; omega
      refine ⟨r.take n.toNat, ?_, e1.symm⟩
      rw [len, ← e2, List.take_append_drop]
      congr 1
      omega
    · rw [if_neg hl] at h'
      cases h'
theorem nats_back {l : List Int} (h : ∀ x ∈ l, 0 ≤ x) : zints (Mu24Neutral.nats l) = l := by
  unfold Mu24Neutral.nats zints
  rw [List.map_map]
  induction l with
  | nil => rfl
  | cons a l ih =>
    rw [List.map_cons, ih fun x hx => h x (.tail _ hx)]
    congr 1
    have := h a (.head _)
    exact Int.toNat_of_nonneg this
theorem in20 {x lo hi : Int} (h : NeutralIO.within x lo hi = true) : lo ≤ x ∧ x ≤ hi := by
  unfold NeutralIO.within at h
  rw [Bool.and_eq_true] at h
  exact ⟨of_decide_eq_true h.1, of_decide_eq_true h.2⟩
theorem nats_le {l : List Int} {B : Nat} (h : ∀ x ∈ l, 0 ≤ x ∧ x ≤ (B : Int)) : ∀ x ∈ Mu24Neutral.nats l, x ≤ B := by
  intro x hx
  obtain ⟨y, hy, rfl⟩ := List.mem_map.mp hx
  have := h y hy
  omega
/-- one call is cut off the line -/
structure Cut (p : Int) (r : List Int) (c : List (List Int)) (t : List Int) (pn : Nat) (g : List Nat) : Prop where
  ep : p = (pn : Int)
  ok : CallOk pn g
  of : Mu24Neutral.callOf c = some (mk pn g)
  row : isR pn = true → r = (g.length : Int) :: (zints g ++ t)
  plain : isR pn = false → r = zints g ++ t
theorem pick_in {l : List Int} (h : Mu24Neutral.pick l = true) : l.length ≤ 20 ∧ ∀ x ∈ l, 0 ≤ x ∧ x ≤ ((20 : Nat) : Int) := by
  unfold Mu24Neutral.pick at h
  rw [Bool.and_eq_true] at h
  exact ⟨of_decide_eq_true h.1, fun x hx => in20 (List.all_eq_true.mp h.2 x hx)⟩
theorem nats_len (l : List Int) : (Mu24Neutral.nats l).length = l.length := List.length_map _
theorem cut_row {p : Int} {pn : Nat} {r : List Int} {c : List (List Int)} {t : List Int} (ep : p = (pn : Int)) (hr : isR pn = true) (hp : pn < 12) (hs : sh p = some (0, 1)) (h : PyFlat.call sh (p :: r) = some (c, t))
    (ha : ∀ g, Mu24Neutral.asked1 [[p], g] = true → g.length ≤ 20 ∧ (∀ x ∈ g, 0 ≤ x) ∧ (pn ≠ 10 → ∀ x ∈ g, x ≤ 20)) (hc : ∀ g, Mu24Neutral.callOf [[p], g] = some (mk pn (Mu24Neutral.nats g)))
    (hk : Mu24Neutral.asked1 c = true) : ∃ g, Cut p r c t pn g := by
  obtain ⟨g, e1, e2⟩ := call_r hs h
  rw [e2] at hk
  obtain ⟨k1, k2, k3⟩ := ha g hk
  refine ⟨Mu24Neutral.nats g, ep, ⟨hp, by rw [nats_len]; exact k1, fun q => ?_, fun _ q => nats_le (B := 20) fun x hx => ⟨k2 x hx, k3 q x hx⟩, fun q => ?_⟩, by rw [e2]; exact hc g, fun _ => ?_, fun q => ?_⟩
  · rw [hr] at q
    cases q
  · rw [q] at hr
    cases hr
  · rw [nats_back k2, nats_len]
    exact e1
  · rw [hr] at q
    cases q
theorem cut_plain {p : Int} {pn n : Nat} {r : List Int} {c : List (List Int)} {t : List Int} (ep : p = (pn : Int)) (hr : isR pn = false) (hn : plainN pn = n) (hp : pn < 12) (hn2 : n ≤ 20) (hs : sh p = some (n, 0)) (h : PyFlat.call sh (p :: r) = some (c, t))
    (ha : ∀ x : List Int, x.length = n → Mu24Neutral.asked1 [p :: x] = true → (∀ y ∈ x, 0 ≤ y) ∧ (pn ≠ 2 → ∀ y ∈ x, y ≤ 20) ∧ (pn = 2 → ∀ y ∈ x, y ≤ 50)) (hc : ∀ x : List Int, x.length = n → Mu24Neutral.callOf [p :: x] = some (mk pn (Mu24Neutral.nats x)))
    (hk : Mu24Neutral.asked1 c = true) : ∃ g, Cut p r c t pn g := by
  obtain ⟨x, e1, e2, e3⟩ := call_n hs h
  rw [e3] at hk
  obtain ⟨k1, k2, k3⟩ := ha x e1 hk
  refine ⟨Mu24Neutral.nats x, ep, ⟨hp, by rw [nats_len]; omega, fun q => by rw [nats_len, hn]; exact e1, fun q _ => nats_le (B := 20) fun y hy => ⟨k1 y hy, k2 q y hy⟩, fun q => nats_le (B := 50) fun y hy => ⟨k1 y hy, k3 q y hy⟩⟩, by rw [e3]; exact hc x e1, fun q => ?_, fun q => ?_⟩
  · rw [hr] at q
    cases q
  · rw [nats_back k1]
    exact e2
theorem one_ask {p : Int} {pn : Nat} (hp : pn ≠ 2) (h : ∀ m, Mu24Neutral.asked1 [[p, m]] = Mu24Neutral.twenty m) : ∀ x : List Int, x.length = 1 → Mu24Neutral.asked1 [p :: x] = true → (∀ y ∈ x, 0 ≤ y) ∧ (pn ≠ 2 → ∀ y ∈ x, y ≤ 20) ∧ (pn = 2 → ∀ y ∈ x, y ≤ 50)
  | [m], _, ha => by
    rw [h] at ha
    have := in20 ha
    refine ⟨fun y hy => ?_, fun _ y hy => ?_, fun q => absurd q hp⟩
    · rw [List.mem_singleton.mp hy]; exact this.1
    · rw [List.mem_singleton.mp hy]; exact this.2
theorem nil_ask {p : Int} {pn : Nat} : ∀ x : List Int, x.length = 0 → Mu24Neutral.asked1 [p :: x] = true → (∀ y ∈ x, 0 ≤ y) ∧ (pn ≠ 2 → ∀ y ∈ x, y ≤ 20) ∧ (pn = 2 → ∀ y ∈ x, y ≤ 50)
  | [], _, _ => ⟨(fun _ h => nomatch h), (fun _ _ h => nomatch h), (fun _ _ h => nomatch h)⟩
theorem one_of {p : Int} {pn : Nat} (h : ∀ m, Mu24Neutral.callOf [[p, m]] = some (mk pn (Mu24Neutral.nats [m]))) : ∀ x : List Int, x.length = 1 → Mu24Neutral.callOf [p :: x] = some (mk pn (Mu24Neutral.nats x))
  | [m], _ => h m
theorem nil_of {p : Int} {pn : Nat} (h : Mu24Neutral.callOf [[p]] = some (mk pn [])) : ∀ x : List Int, x.length = 0 → Mu24Neutral.callOf [p :: x] = some (mk pn (Mu24Neutral.nats x))
  | [], _ => h
theorem pick_ask {p : Int} {pn : Nat} (h : ∀ g, Mu24Neutral.asked1 [[p], g] = Mu24Neutral.pick g) : ∀ g, Mu24Neutral.asked1 [[p], g] = true → g.length ≤ 20 ∧ (∀ x ∈ g, 0 ≤ x) ∧ (pn ≠ 10 → ∀ x ∈ g, x ≤ 20) := by
  intro g hg
  rw [h] at hg
  obtain ⟨h1, h2⟩ := pick_in hg
  exact ⟨h1, fun x hx => (h2 x hx).1, fun _ x hx => (h2 x hx).2⟩
theorem call_cut {p : Int} {r : List Int} {c : List (List Int)} {t : List Int} (h : PyFlat.call sh (p :: r) = some (c, t)) (hk : Mu24Neutral.asked1 c = true) : ∃ pn g, Cut p r c t pn g := by
  by_cases e0 : p = 0
  · subst e0
    refine ⟨0, cut_plain (n := 3) rfl rfl rfl (by decide) (by decide) rfl h ?_ ?_ hk⟩
    · intro x hx ha
      match x, hx with
      | [a, b, d], _ =>
        have ha' : (Mu24Neutral.twenty a && (Mu24Neutral.twenty b && Mu24Neutral.twenty d)) = true := ha
        rw [Bool.and_eq_true, Bool.and_eq_true] at ha'
        have h1 := in20 ha'.1
        have h2 := in20 ha'.2.1
        have h3 := in20 ha'.2.2
        refine ⟨fun y hy => ?_, fun _ y hy => ?_, fun q => absurd q (by decide)⟩
        · rcases List.mem_cons.mp hy with rfl | hy
          · exact h1.1
          · rcases List.mem_cons.mp hy with rfl | hy
            · exact h2.1
            · rw [List.mem_singleton.mp hy]; exact h3.1
        · rcases List.mem_cons.mp hy with rfl | hy
          · exact h1.2
          · rcases List.mem_cons.mp hy with rfl | hy
            · exact h2.2
            · rw [List.mem_singleton.mp hy]; exact h3.2
    · intro x hx
      match x, hx with
      | [a, b, d], _ => rfl
  by_cases e1 : p = 1
  · subst e1
    exact ⟨1, cut_row rfl rfl (by decide) rfl h (pick_ask fun _ => rfl) (fun _ => rfl) hk⟩
  by_cases e2 : p = 2
  · subst e2
    refine ⟨2, cut_plain (n := 1) rfl rfl rfl (by decide) (by decide) rfl h ?_ (one_of fun _ => rfl) hk⟩
    intro x hx ha
    match x, hx with
    | [a], _ =>
      have h1 := in20 (x := a) (lo := 0) (hi := 50) ha
      refine ⟨fun y hy => ?_, fun q => absurd rfl q, fun _ y hy => ?_⟩
      · rw [List.mem_singleton.mp hy]; exact h1.1
      · rw [List.mem_singleton.mp hy]; exact h1.2
  by_cases e3 : p = 3
  · subst e3
    exact ⟨3, cut_plain (n := 0) rfl rfl rfl (by decide) (by decide) rfl h nil_ask (nil_of rfl) hk⟩
  by_cases e4 : p = 4
  · subst e4
    exact ⟨4, cut_row rfl rfl (by decide) rfl h (pick_ask fun _ => rfl) (fun _ => rfl) hk⟩
  by_cases e5 : p = 5
  · subst e5
    exact ⟨5, cut_plain (n := 0) rfl rfl rfl (by decide) (by decide) rfl h nil_ask (nil_of rfl) hk⟩
  by_cases e6 : p = 6
  · subst e6
    exact ⟨6, cut_plain (n := 1) rfl rfl rfl (by decide) (by decide) rfl h (one_ask (by decide) fun _ => rfl) (one_of fun _ => rfl) hk⟩
  by_cases e7 : p = 7
  · subst e7
    exact ⟨7, cut_plain (n := 1) rfl rfl rfl (by decide) (by decide) rfl h (one_ask (by decide) fun _ => rfl) (one_of fun _ => rfl) hk⟩
  by_cases e8 : p = 8
  · subst e8
    exact ⟨8, cut_plain (n := 1) rfl rfl rfl (by decide) (by decide) rfl h (one_ask (by decide) fun _ => rfl) (one_of fun _ => rfl) hk⟩
  by_cases e9 : p = 9
  · subst e9
    exact ⟨9, cut_plain (n := 1) rfl rfl rfl (by decide) (by decide) rfl h (one_ask (by decide) fun _ => rfl) (one_of fun _ => rfl) hk⟩
  by_cases e10 : p = 10
  · subst e10
    refine ⟨10, cut_row rfl rfl (by decide) rfl h ?_ (fun _ => rfl) hk⟩
    intro g hg
    have hg' : (decide (g.length ≤ 20) && g.all fun (z : Int) => NeutralIO.within z 0 100000) = true := hg
    rw [Bool.and_eq_true] at hg'
    exact ⟨of_decide_eq_true hg'.1, fun x hx => (in20 (List.all_eq_true.mp hg'.2 x hx)).1, fun q => absurd rfl q⟩
  by_cases e11 : p = 11
  · subst e11
    exact ⟨11, cut_plain (n := 1) rfl rfl rfl (by decide) (by decide) rfl h (one_ask (by decide) fun _ => rfl) (one_of fun _ => rfl) hk⟩
  · exfalso
    rw [call_eq] at h
    have hs : sh p = none := by
      show PyMu24.shape p = none
      unfold PyMu24.shape
      rw [if_neg e0, if_neg e1, if_neg e2, if_neg e3, if_neg e4, if_neg e5, if_neg e6, if_neg e7, if_neg e8, if_neg e9, if_neg e10, if_neg e11]
    rw [hs] at h
    cases h
/-- the calls that are still to be read, cut one by one -/
theorem calls_cut {f : Nat} {p : Int} {r : List Int} {cs : List (List (List Int))} (h : PyFlat.calls sh f (p :: r) = some cs) : ∃ c t cs' f', cs = c :: cs' ∧ PyFlat.call sh (p :: r) = some (c, t) ∧ PyFlat.calls sh f' t = some cs' := by
  cases f with
  | zero => cases h
  | succ f =>
    have h' : (match PyFlat.call sh (p :: r) with
      | none => none
      | some (c, t) => match PyFlat.calls sh f t with
        | none => none
        | some cs => some (c :: cs)) = some cs := h
    cases e : PyFlat.call sh (p :: r) with
    | none => rw [e] at h'; cases h'
    | some q =>
      obtain ⟨c, t⟩ := q
      rw [e] at h'
      have h2 : (match PyFlat.calls sh f t with
        | none => none
        | some cs => some (c :: cs)) = some cs := h'
      cases e2 : PyFlat.calls sh f t with
      | none => rw [e2] at h2; cases h2
      | some ds =>
        rw [e2] at h2
        exact ⟨c, t, ds, f, (Option.some.inj h2).symm, rfl, e2⟩
theorem calls_end {f : Nat} {cs : List (List (List Int))} (h : PyFlat.calls sh f [] = some cs) : cs = [] := by
  cases f <;> exact (Option.some.inj h).symm
def plays (o : Mu24.Abs) (cs : List (List (List Int))) : List Int := PyFlat.told (PyFlat.played Mu24Neutral.step o cs)
theorem plays_cons {o : Mu24.Abs} {c : List (List Int)} {cs : List (List (List Int))} {x : Mu24.Call} (h : Mu24Neutral.callOf c = some x) : plays o (c :: cs) = (((Mu24.step o x).2.length : Int) :: (Mu24.step o x).2) ++ plays (Mu24.step o x).1 cs := by
  have e : Mu24Neutral.step o c = Mu24.step o x := by
    unfold Mu24Neutral.step
    rw [h]
  unfold plays PyFlat.told
  show (PyFlat.played Mu24Neutral.step o (c :: cs)).flatMap (fun a => (a.length : Int) :: a) = _
  have e2 : PyFlat.played Mu24Neutral.step o (c :: cs) = (Mu24Neutral.step o c).2 :: PyFlat.played Mu24Neutral.step (Mu24Neutral.step o c).1 cs := rfl
  rw [e2, List.flatMap_cons, e]
theorem ints_inj : ∀ {a b : List Nat}, zints a = zints b → a = b
  | [], [], _ => rfl
  | [], _ :: _, h => nomatch h
  | _ :: _, [], h => nomatch h
  | x :: a, y :: b, h => by
    obtain ⟨h1, h2⟩ := List.cons.inj h
    rw [ints_inj h2, Int.ofNat.inj h1]
theorem ints_cons {l : List Nat} {p : Nat} {r : List Int} (h : zints l = (p : Int) :: r) : ∃ l', l = p :: l' ∧ zints l' = r := by
  cases l with
  | nil => cases h
  | cons y l =>
    obtain ⟨h1, h2⟩ := List.cons.inj h
    have h3 : y = p := Int.ofNat.inj h1
    rw [h3]
    exact ⟨l, rfl, h2⟩
theorem ints_app {l g : List Nat} {t : List Int} (h : zints l = zints g ++ t) : ∃ t', l = g ++ t' ∧ zints t' = t := by
  obtain ⟨l1, l2, h1, h2, h3⟩ := List.map_eq_append_iff.mp h
  rw [ints_inj h2] at h1
  exact ⟨l2, h1, h3⟩
def stOf (p i : Nat) : Nat := if isR p = true then i + 2 else i + 1
theorem cut_at {L : List Nat} {i pn : Nat} {p : Int} {r : List Int} {c : List (List Int)} {t : List Int} {g : List Nat} (h : (zints L).drop i = p :: r) (C : Cut p r c t pn g) :
    L[i]? = some pn ∧ (isR pn = true → L[i + 1]? = some g.length) ∧ stOf pn i + g.length ≤ L.length ∧ (L.drop (stOf pn i)).take g.length = g ∧ (zints L).drop (stOf pn i + g.length) = t := by
  have h' : zints (L.drop i) = (pn : Int) :: r := by
    rw [← C.ep, ← h]
    exact List.map_drop
  obtain ⟨l1, e1, e2⟩ := ints_cons h'
  have a1 : L[i]? = some pn := by
    have e := List.getElem?_drop (xs := L) (i := i) (j := 0)
    rw [e1] at e
    exact e.symm
  have le : ∀ n, (L.drop i).length = n → L.length = n + i ∨ n = 0 := fun n hn => by
    rw [List.length_drop] at hn
    omega
  cases hr : isR pn with
  | true =>
    have e3 := C.row hr
    rw [e3] at e2
    obtain ⟨l2, e4, e5⟩ := ints_cons e2
    obtain ⟨t', e6, e7⟩ := ints_app e5
    have hd : L.drop i = pn :: g.length :: (g ++ t') := by rw [e1, e4, e6]
    have hst : stOf pn i = i + 2 := if_pos hr
    have hd2 : L.drop (i + 2) = g ++ t' := by
      have e : L.drop (i + 2) = (L.drop i).drop 2 := by rw [List.drop_drop]
      rw [e, hd]
      rfl
    refine ⟨a1, fun _ => ?_, ?_, ?_, ?_⟩
    · have e := List.getElem?_drop (xs := L) (i := i) (j := 1)
      rw [hd] at e
      exact e.symm
    · have hl := congrArg List.length hd
      rw [List.length_drop, List.length_cons, List.length_cons, List.length_append] at hl
      rw [hst]
      omega
    · rw [hst, hd2]
      exact List.take_left
    · rw [hst]
      have e : L.drop (i + 2 + g.length) = (L.drop (i + 2)).drop g.length := by rw [List.drop_drop]
      have e' : (zints L).drop (i + 2 + g.length) = zints (L.drop (i + 2 + g.length)) := List.map_drop.symm
      rw [e', e, hd2, List.drop_left]
      exact e7
  | false =>
    have e3 := C.plain hr
    rw [e3] at e2
    obtain ⟨t', e6, e7⟩ := ints_app e2
    have hd : L.drop i = pn :: (g ++ t') := by rw [e1, e6]
    have hst : stOf pn i = i + 1 := if_neg (by rw [hr]; decide)
    have hd2 : L.drop (i + 1) = g ++ t' := by
      have e : L.drop (i + 1) = (L.drop i).drop 1 := by rw [List.drop_drop]
      rw [e, hd]
      rfl
    refine ⟨a1, (fun h => nomatch h), ?_, ?_, ?_⟩
    · have hl := congrArg List.length hd
      rw [List.length_drop, List.length_cons, List.length_append] at hl
      rw [hst]
      omega
    · rw [hst, hd2]
      exact List.take_left
    · rw [hst]
      have e : L.drop (i + 1 + g.length) = (L.drop (i + 1)).drop g.length := by rw [List.drop_drop]
      have e' : (zints L).drop (i + 1 + g.length) = zints (L.drop (i + 1 + g.length)) := List.map_drop.symm
      rw [e', e, hd2, List.drop_left]
      exact e7
/-- what is asked of the line -/
theorem asked_is {l : List Int} (h : PyMu24.answers_asked l = true) : ∃ cs, PyFlat.calls sh l.length l = some cs ∧ (∀ c ∈ cs, Mu24Neutral.asked1 c = true) ∧ PyMu24.answers l = plays none cs ∧ (PyMu24.answers l).length ≤ 10000000 := by
  unfold PyMu24.answers_asked at h
  cases e : PyFlat.calls PyMu24.shape l.length l with
  | none => rw [e] at h; cases h
  | some cs =>
    rw [e] at h
    have h' : (!cs.isEmpty && PyFlat.atMost 40 cs && PyInside.calls PyMu24.bound cs && Mu24Neutral.asked (cs.map PyMu24.whole) && PyFlat.short 10000000 (PyMu24.answers l)) = true := h
    rw [map_whole] at h'
    rw [Bool.and_eq_true, Bool.and_eq_true] at h'
    obtain ⟨⟨_, h1⟩, h2⟩ := h'
    unfold Mu24Neutral.asked at h1
    rw [Bool.and_eq_true, Bool.and_eq_true] at h1
    refine ⟨cs, rfl, fun c hc => List.all_eq_true.mp h1.2.2 c hc, ?_, of_decide_eq_true h2⟩
    unfold PyMu24.answers PyMu24.calls
    rw [e]
    show PyFlat.told (PyFlat.played Mu24Neutral.step Mu24Neutral.start (cs.map PyMu24.whole)) = _
    rw [map_whole]
    rfl
end WD
end
section
namespace WM
open PySem PySem.Spec PyProof.Rows L2 Evl
theorem best_first (num : Nat → Int) : ∀ k, argBest (fun i j => decide (num i < num j)) k ≤ k ∧ ∀ j, j ≤ k → num (argBest (fun i j => decide (num i < num j)) k) ≤ num j ∧ (j < argBest (fun i j => decide (num i < num j)) k → num (argBest (fun i j => decide (num i < num j)) k) < num j)
  | 0 => ⟨Nat.le_refl _, fun j hj => by
    have e : j = 0 := Nat.le_zero.mp hj
    subst e
    exact ⟨Int.le_refl _, fun h => absurd h (Nat.lt_irrefl _)⟩⟩
  | k + 1 => by
    obtain ⟨h1, h2⟩ := best_first num k
    generalize hb : argBest (fun i j => decide (num i < num j)) k = b at h1 h2
    have e : argBest (fun i j => decide (num i < num j)) (k + 1) = if num (k + 1) < num b then k + 1 else b := by
      show (if decide (num (k + 1) < num (argBest (fun i j => decide (num i < num j)) k)) = true then k + 1 else argBest (fun i j => decide (num i < num j)) k) = _
      rw [hb]
      simp only [decide_eq_true_eq]
    rw [e]
    by_cases hlt : num (k + 1) < num b
    · rw [if_pos hlt]
      refine ⟨Nat.le_refl _, fun j hj => ?_⟩
      by_cases ej : j = k + 1
      · subst ej
        exact ⟨Int.le_refl _, fun h => absurd h (Nat.lt_irrefl _)⟩
      · obtain ⟨h3, _⟩ := h2 j (by omega)
        exact ⟨by omega, fun _ => by omega⟩
    · rw [if_neg hlt]
      refine ⟨by omega, fun j hj => ?_⟩
      by_cases ej : j = k + 1
      · subst ej
        exact ⟨by omega, fun h => by omega⟩
      · exact h2 j (by omega)

/-! ### a walk over a tracked list whose values may be read anew -/
theorem walk_vals {prog : Program} {w : World} {A : Around} (hh : A.handled = none) (I l : Addr) (hne : l ≠ I) (xs : List V) :
    WalksS prog w A I [I, l] [I] (fun a b => b = a) xs.length (fun i v => ∃ x, xs[i]? = some x ∧ RelV x v) (fun i s' => s'.heap.IsListIter I l i ∧ ∃ its : List Value, Vals xs its ∧ s'.heap.IsList l its.toArray) where
  sub := fun b hb => by simp at hb; simp [hb]
  grefl := fun _ => rfl
  gtrans := fun _ _ _ a b => b.trans a
  frame := fun i s h' tk st _ hk => by
    obtain ⟨h1, its, r, h2⟩ := st
    exact ⟨h1.at fun o e => hk I (by simp) o e, its, r, h2.at fun o e => hk l (by simp) o e⟩
  item := fun i s Q E hi st hQ => by
    obtain ⟨h1, its, r, h2⟩ := st
    have hl := r.length
    refine (Walks.list (A := A) hh I l hne its.toArray).toS.item i s Q E (by rw [List.size_toArray]; omega) ⟨h1, h2⟩ fun v s' hP hst hm => ?_
    have hv : its[i]? = some v := by simpa using hP
    obtain ⟨x, hx⟩ : ∃ x, xs[i]? = some x := ⟨_, List.getElem?_eq_getElem (by omega)⟩
    obtain ⟨u, hu, ru⟩ := Vals.get r hx
    rw [hv] at hu
    cases hu
    exact hQ v s' ⟨x, hx, ru⟩ ⟨hst.1, its, r, hst.2⟩ hm
  done := fun s Q E st hQ => by
    obtain ⟨h1, its, r, h2⟩ := st
    have hl := r.length
    refine (Walks.list (A := A) hh I l hne its.toArray).toS.done s Q E ?_ hQ
    rw [List.size_toArray, ← hl]
    exact ⟨h1, h2⟩
  self := fun i s Q E st hQ => by
    obtain ⟨h1, its, r, h2⟩ := st
    exact (Walks.list (A := A) hh I l hne its.toArray).toS.self i s Q E ⟨h1, h2⟩ hQ

section
variable {X : Cx} {pins : List (Addr × Obj)} {σ : L2.St} {H : Hp} {s s' : Shared}
/-- new objects that nobody tracks have changed -/
theorem inv_moved {ch : List Addr} (I : Inv X pins σ H s) (m : Moved ch (fun a b => b = a) s s')
    (hch : ∀ b ∈ ch, X.s_0.heap.objs.size ≤ b ∧ b ≠ X.env.locals ∧ (∀ x c, X.env.cells.lookup x = some c → c ≠ b) ∧ (∀ p ∈ X.pn ++ pins, p.1 ≠ b) ∧ H b = none) : Inv X pins σ H s' := by
  obtain ⟨hh, gg, dd, tt, oo⟩ := s'
  obtain rfl : oo = s.os := m.os
  have eg : gg = s.gens := m.gens
  have nch : ∀ b u, H b = some u → b ∉ ch := fun b u e hb => by
    have := (hch b hb).2.2.2.2
    rw [e] at this
    cases this
  refine I.step (g' := gg) (d' := dd) (t' := tt) (ch := ch) (fun b hb => ?_) (fun b o _ _ hc e _ => m.heap b o hc e) (fun b o _ _ hc e _ => ⟨o.slots, m.heap b o hc e⟩) (fun _ _ _ _ n => n)
    (fun b o hc e => ⟨o, m.heap b o hc e⟩) (fun _ _ e => e) (fun _ _ _ e => e) (fun b ps e => ⟨#[], by rw [e]; simp⟩) (fun mm hm => ?_) (fun b u e => ?_) (by rw [eg]; exact I.bare)
  · obtain ⟨h1, h2, h3, h4, _⟩ := hch b hb
    exact ⟨.inr h1, h2, h3, h4⟩
  · obtain ⟨o, es, ep, ho, r⟩ := hm
    exact ⟨o, es, ep, m.heap _ o (fun hb => (hch _ hb).2.1 rfl) ho, r⟩
  · refine (I.hok b u e).stay (fun c v hc q => m.heap c v ?_ q) (fun _ q => q) fun _ _ q => q
    rcases hc with z | z
    · rw [z]; exact nch b u e
    · exact nch c _ z
/-- a new address is none of these -/
theorem inv_new (I : Inv X pins σ H s) {b : Addr} (hb : s.heap.objs.size ≤ b) : X.s_0.heap.objs.size ≤ b ∧ b ≠ X.env.locals ∧ (∀ x c, X.env.cells.lookup x = some c → c ≠ b) ∧ (∀ p ∈ X.pn ++ pins, p.1 ≠ b) ∧ H b = none := by
  refine ⟨Nat.le_trans I.sz hb, fun e => ?_, fun x c e z => ?_, fun p hp z => ?_, I.hok.fresh hb⟩
  · have h := I.lt
    rw [← e] at h
    exact Nat.lt_irrefl _ (Nat.lt_of_lt_of_le h hb)
  · obtain ⟨v, o, ho, _⟩ := I.cell x c e
    have h := Heap.lt_size ho
    rw [z] at h
    exact Nat.lt_irrefl _ (Nat.lt_of_lt_of_le h hb)
  · have h := Heap.lt_size (I.pin p hp).1
    rw [z] at h
    exact Nat.lt_irrefl _ (Nat.lt_of_lt_of_le h hb)
def rMinKey (K : PySem.W.Frag) (g : Addr) (sp : Sp) : List V → List V → Hp → VK → Prop := fun vs zs H Q => ∃ (l a q : Addr) (xs : List V) (kf : Nat → Int), vs = [.ref l] ∧ zs = [.ref q] ∧ SqL K H l xs ∧ 0 < xs.length ∧ H q = some (.met g a) ∧
  (∀ i x, xs[i]? = some x → ∀ H1, Ex H H1 → ∀ Q1 : VK, (∀ H2, Ex H1 H2 → Q1 (.int (kf i)) H2) → sp [.ref a, x] H1 Q1 E0) ∧
  ∀ i x H', xs[i]? = some x → (∀ j, j < xs.length → kf i ≤ kf j ∧ (j < i → kf i < kf j)) → Ex H H' → Q x H'
/-- min(l, key=o.m), m a method of one's own -/
theorem cr_minKey {k : Nat} {g : Addr} {sp : Sp} (F : FnR X.prog X.w X.K X.mg X.base CX0 k g sp) (hr : Room (k + 1) X.A) : CallRK X (.builtin "min") [Str.ofString "key"] (rMinKey X.K g sp) := by
  intro pins s σ H vs zs us ws Q I r rz h
  obtain ⟨l, a, q, xs, kf, rfl, rfl, hs, hne, hq, hk, hQ⟩ := h
  obtain rfl := Vals.ref1 r
  obtain ⟨w1, rfl, e1⟩ := vals1 rz
  obtain rfl : w1 = Value.ref q := e1
  obtain ⟨its, rv, hl, _⟩ := I.list hs
  have hh : X.A.in1.handled = none := hr.hd
  have hls : s.heap.IsList l its.toArray := hl.isList
  have hll : l < s.heap.objs.size := by obtain ⟨_, e, _⟩ := hls; exact Heap.lt_size e
  have hlen := rv.length
  refine call_min_walkK ?_
  refine wpAny_pyIter_list hls ?_
  have hsz : (s.heap.push { cls := .type "list_iterator", data := .fields #[.ref l, .int 0 0] }).objs.size = s.heap.objs.size + 1 := Heap.size_push ..
  generalize hS : (s.heap.push { cls := .type "list_iterator", data := .fields #[.ref l, .int 0 0] }).objs.size = S at hsz
  have nI := inv_new I (b := s.heap.objs.size) (Nat.le_refl _)
  have nS := inv_new I (b := S) (by omega)
  have kept : ∀ b o, s.heap.get? b = some o → (s.heap.push { cls := .type "list_iterator", data := .fields #[.ref l, .int 0 0] }).get? b = some o := fun b o e => Heap.get?_push_of_some _ e
  refine ⟨s.heap.objs.size, [s.heap.objs.size, l], [s.heap.objs.size], (fun a b => b = a), xs.length, _, _, (fun s' => ∃ H1, Ex H H1 ∧ Inv X pins σ H1 s' ∧ H1 s.heap.objs.size = none ∧ H1 S = none), (fun i u _ => ∃ t, u = Value.int (kf i) t), (fun i j => decide (kf i < kf j)), rfl,
    walk_vals hh s.heap.objs.size l (Nat.ne_of_lt hll) xs, ⟨⟨_, Heap.get?_push_size _ rfl, rfl, rfl⟩, its, rv, hls.push _⟩, fun b hb => ?_, hne, ⟨?_, ?_, ?_, ?_⟩, ⟨H, Ex.refl H, I.kept kept, nI.2.2.2.2, nS.2.2.2.2⟩, ?_⟩
  · rcases List.mem_cons.mp hb with rfl | hb
    · rw [hsz]
      exact Nat.lt_succ_self _
    · rw [List.mem_singleton.mp hb, hsz]
      exact Nat.lt_succ_of_lt hll
  · -- keep
    rintro s1 s2 ⟨H1, e1, I1, n1, n2⟩ hm
    refine ⟨H1, e1, inv_moved I1 hm fun b hb => ?_, n1, n2⟩
    rcases List.mem_cons.mp hb with rfl | hb
    · exact ⟨nS.1, nS.2.1, nS.2.2.1, nS.2.2.2.1, n2⟩
    · rw [List.mem_singleton.mp hb]
      exact ⟨nI.1, nI.2.1, nI.2.2.1, nI.2.2.2.1, n1⟩
  · exact fun i u s1 s2 h _ => h
  · -- turn
    rintro i v s1 o Q1 E1 hi ⟨x, hx, rx⟩ ⟨H1, e1, I1, n1, n2⟩ ⟨⟨oI, hoI, cI, dI⟩, _⟩ hoS hQ1
    have hm := I1.hok q _ (e1 q _ hq)
    refine wpAny_call (PySem.W.method_call hm ?_)
    refine codeAny_mono (F X.A.in1 X.stack s1 H1 [.ref a, v] [.ref a, x] _ E0 hr.in1 I1.env0.in1 (.cons rfl (.cons rx .nil)) (hk i x hx H1 e1 (fun y H2 => Ex H1 H2 ∧ y = .int (kf i)) fun H2 e2 => ⟨e2, rfl⟩)) fun r s2 hr2 => ?_
    cases r with
    | error e => exact False.elim hr2
    | ok fl =>
      cases fl with
      | ret u =>
        obtain ⟨y, H2, os, bare, un, hok, ru, e2, rfl⟩ := hr2
        have nfs : ∀ b, X.s_0.heap.objs.size ≤ b → b ≠ X.env.locals → b ∉ frs X.stack := fun b h1 h2 hb => by
          rcases List.mem_cons.mp (I1.stkSub b hb) with e | hb
          · exact h2 e
          · obtain ⟨_, o, ho, _⟩ := I1.ok.funs.mem hb
            exact absurd (Nat.lt_of_lt_of_le (Heap.lt_size ho) h1) (Nat.lt_irrefl _)
        have I2 : Inv X pins σ H2 s2 := by
          obtain ⟨hh2, gg, dd, tt, oo⟩ := s2
          obtain rfl : oo = s1.os := os
          exact I1.call (h' := hh2) (g' := gg) (d' := dd) (t' := tt) (ch := []) un hok bare (fun b z => absurd z (by simp))
        have kI := un.keep _ _ hoI n1 (nfs _ nI.1 nI.2.1) (by simp)
        have kS := un.keep _ _ hoS n2 (nfs _ nS.1 nS.2.1) (by simp)
        have fI := un.free _ _ hoI n1 (by simp)
        have fS := un.free _ _ hoS n2 (by simp)
        obtain ⟨its2, rv2, hl2, _⟩ := I2.list (ex_l (e1.trans e2) hs)
        exact hQ1 u s2 ⟨H2, e1.trans e2, I2, fI, fS⟩ ⟨⟨oI, kI, cI, dI⟩, its2, rv2, hl2.isList⟩ kS ru fun _ _ h => h
      | next => exact False.elim hr2
      | brk => exact False.elim hr2
      | cont => exact False.elim hr2
  · -- cmp
    rintro i j ki kj s1 Q1 E1 _ ⟨t, rfl⟩ ⟨u, rfl⟩ hq1
    exact CmpOf.ints_lt (P := fun i v => ∃ t, v = .int (kf i) t) kf (fun i v h => h) i j _ _ s1 Q1 E1 ⟨t, rfl⟩ ⟨u, rfl⟩ hq1
  · rintro v s1 ⟨x, hx, rx⟩ ⟨H1, e1, I1, _, _⟩
    refine ⟨x, H1, I1, rx, hQ _ x H1 hx (fun j hj => ?_) e1⟩
    obtain ⟨_, h2⟩ := best_first kf (xs.length - 1)
    exact h2 j (by omega)

/-- max(l, default=d), l a list of whole numbers -/
def rMaxD (K : PySem.W.Frag) : List V → List V → Hp → VK → Prop := fun vs zs H Q => ∃ (l : Addr) (ns : List Int) (d : Int), vs = [.ref l] ∧ zs = [.int d] ∧ SqL K H l (ns.map V.int) ∧
  (ns = [] → Q (.int d) H) ∧ ∀ m, m ∈ ns → (∀ y ∈ ns, y ≤ m) → Q (.int m) H
theorem cr_maxD (hh : X.A.handled = none) : CallRK X (.builtin "max") [Str.ofString "default"] (rMaxD X.K) := by
  intro pins s σ H vs zs us ws Q I r rz h
  obtain ⟨l, ns, d, rfl, rfl, hs, h0, hQ⟩ := h
  obtain rfl := Vals.ref1 r
  obtain ⟨w1, rfl, t1, rfl⟩ := vals1 rz
  obtain ⟨its, rv, hl, _⟩ := I.list hs
  have hi := rv.ints
  have hlen := hi.length
  refine call_max_walkD (PySem.W.iter_listW (A := X.A.in1) hh hl.isList fun s₂ e W st hfp hw hk => ?_)
  refine ⟨_, _, _, _, _, _, _, s.heap, (fun i j => decide (ns.getD i 0 > ns.getD j 0)), rfl, W, st, hfp, hw, hk, fun hz s' m => ?_, fun hp => ⟨?_, fun v s' hP m => ?_⟩⟩
  · obtain ⟨h', tk, rfl, hk'⟩ := PySem.W.moved_old e rfl m
    rw [List.size_toArray] at hz
    exact ⟨.int d, H, I.kept (t' := tk) hk', ⟨t1, rfl⟩, h0 (List.eq_nil_of_length_eq_zero (by omega))⟩
  · intro i j vi vj s3 Q3 E3 _ h1 h2 hq
    have g1 : its[i]? = some vi := by simpa using h1
    have g2 : its[j]? = some vj := by simpa using h2
    have l1 := (List.getElem?_eq_some_iff.mp g1).1
    have l2 := (List.getElem?_eq_some_iff.mp g2).1
    obtain ⟨t, ht⟩ := hi.get i _ (List.getElem?_eq_getElem (by omega))
    obtain ⟨u, hu⟩ := hi.get j _ (List.getElem?_eq_getElem (by omega))
    rw [g1] at ht
    rw [g2] at hu
    cases ht
    cases hu
    have e1 : ns.getD i 0 = ns[i]'(by omega) := by rw [List.getD_eq_getElem?_getD, List.getElem?_eq_getElem (by omega)]; rfl
    have e2 : ns.getD j 0 = ns[j]'(by omega) := by rw [List.getD_eq_getElem?_getD, List.getElem?_eq_getElem (by omega)]; rfl
    exact CmpOf.ints_gt (P := fun i v => ∃ t, v = .int (ns.getD i 0) t) (fun i => ns.getD i 0) (fun i v h => h) i j _ _ s3 Q3 E3 ⟨t, by rw [e1]⟩ ⟨u, by rw [e2]⟩ hq
  · obtain ⟨h', tk, rfl, hk'⟩ := PySem.W.moved_old e rfl m
    obtain ⟨h1, h2⟩ := argBest_gt (fun i => ns.getD i 0) (its.toArray.size - 1)
    rw [List.size_toArray] at h1 h2 hp hP
    generalize hb : argBest (fun i j => decide (ns.getD i 0 > ns.getD j 0)) (its.length - 1) = b at h1 h2 hP
    have g1 : its[b]? = some v := by simpa using hP
    have hbl : b < ns.length := by omega
    obtain ⟨t, ht⟩ := hi.get b _ (List.getElem?_eq_getElem hbl)
    rw [g1] at ht
    cases ht
    have e1 : ns.getD b 0 = ns[b] := by rw [List.getD_eq_getElem?_getD, List.getElem?_eq_getElem hbl]; rfl
    refine ⟨.int ns[b], H, I.kept (t' := tk) hk', ⟨t, rfl⟩, hQ _ (List.getElem_mem hbl) fun y hy => ?_⟩
    obtain ⟨j, hj, rfl⟩ := List.getElem_of_mem hy
    have h3 := h2 j (by omega)
    have e2 : ns.getD j 0 = ns[j] := by rw [List.getD_eq_getElem?_getD, List.getElem?_eq_getElem hj]; rfl
    rw [e1, e2] at h3
    exact h3
/-- o.m as a value -/
def tBnd (C : Addr) (m : Str) (g : Addr) (ta : TE) : TE := fun σ H Q => ta σ H fun x H1 => ∃ a dx fs, x = .ref a ∧ H1 a = some (.ins C dx fs) ∧ fs.lookup m = none ∧ ∀ q, H1 q = none → Q (.ref q) (upd H1 q (.met g a))
theorem pe_bnd {C g : Addr} {m : Str} {e : Expr} {ta : TE} {pos : Pos} (he : PE X e ta) (c : Cls X.K C) (b : BMeth X.K C m g) (hb : attributeBase e m X.env (eval e X.env) = eval e X.env := by rfl) : PE X (.Attribute e m pos) (tBnd C m g ta) := by
  refine ⟨fun pins s σ H Q I h => ?_⟩
  refine attr_of hb (thn (he.run pins s σ H _ I h) fun u s1 ⟨x, H1, I1, rx, a, dx, fs, ex, ea, l, q⟩ => ?_)
  subst ex
  exact op_getbound I1 ea c b l rx q
end
end WM
end
section
namespace WP
open PySem PySem.Spec PyProof.Rows L2 Evl
/-! ### the text -/
def top (i : Nat) : Stmt := PySem.Challenge.pw_wheeldraw_s01_answers.main.body.getD i (.Pass ⟨0, 0, 0, 0⟩)
abbrev s_rising_rows : Stmt := top 5
abbrev s_is_rising_row : Stmt := top 6
abbrev s_is_size : Stmt := top 7
abbrev s_count_right : Stmt := top 8
abbrev s_count_bits : Stmt := top 9
abbrev s_draws_with : Stmt := top 10
abbrev s_lowest_terms : Stmt := top 11
abbrev s_answers : Stmt := top 27
abbrev s_start_of_given : Stmt := top 28
abbrev s_count_of_given : Stmt := top 29
abbrev s_answer_call : Stmt := top 30
abbrev s_init : Stmt := inClass (top 12) 0
abbrev s_begin : Stmt := inClass (top 12) 1
abbrev s_buy : Stmt := inClass (top 12) 2
abbrev s_drop : Stmt := inClass (top 12) 3
abbrev s_look : Stmt := inClass (top 12) 4
abbrev s_matches : Stmt := inClass (top 12) 5
abbrev s_worst : Stmt := inClass (top 12) 6
abbrev s_best : Stmt := inClass (top 12) 7
abbrev s_covers : Stmt := inClass (top 12) 8
abbrev s_next_ticket : Stmt := inClass (top 12) 9
abbrev s_fewest : Stmt := inClass (top 12) 10
abbrev s_needed : Stmt := inClass (top 12) 11
abbrev s_pays : Stmt := inClass (top 12) 12
abbrev s_least : Stmt := inClass (top 12) 13
abbrev s_is_wanted : Stmt := inClass (top 12) 14
abbrev s_covered_by : Stmt := inClass (top 12) 15
abbrev s_covered : Stmt := inClass (top 12) 16
abbrev s_numbers_of : Stmt := inClass (top 12) 17
abbrev s_paid : Stmt := inClass (top 12) 18
/-! ### defs that keep a promise, as they stand behind the top -/
def GoodD (P : Program) (w : World) (K : PySem.W.Frag) (mg : Str → Option Value) (base : Heap) (k : Nat) (x : Str) (ps : List Str) (sp : Sp) : Prop :=
  ∃ (f : Addr) (fd : FuncData), FnOk P w K mg base CX0 k f fd ps sp ∧ mg x = some (.ref f) ∧ PySem.W.keepIn K (.ref f) = true ∧ Binds K fd ps []
def GoodM (P : Program) (w : World) (K : PySem.W.Frag) (mg : Str → Option Value) (base : Heap) (C : Addr) (k : Nat) (m : Str) (ps : List Str) (sp : Sp) : Prop :=
  ∃ (f : Addr) (fd : FuncData), FnOk P w K mg base CX0 k f fd ps sp ∧ Meth K C m f ∧ Binds K fd ps []
/-- where the text's def stands -/
def DefAt (K : PySem.W.Frag) (mg : Str → Option Value) (x : Str) (st : Stmt) (ps : List Str) : Prop :=
  ∃ (f : Addr) (fd : FuncData), Fun K x x st f fd ∧ mg x = some (.ref f) ∧ Binds K fd ps []
def MethAt (K : PySem.W.Frag) (C : Addr) (m qual : Str) (st : Stmt) (ps : List Str) : Prop :=
  ∃ (f : Addr) (fd : FuncData), Fun K m qual st f fd ∧ Meth K C m f ∧ Binds K fd ps []
section
variable {P : Program} {w : World} {K : PySem.W.Frag} {mg : Str → Option Value} {base : Heap} {C : Addr} {N ps : List Str} {sp : Sp} {st : Stmt} {x qual : Str} {k : Nat}
theorem DefAt.ok (D : DefAt K mg x st ps) (S : FnScope N ps (defScope st)) (len : ∀ vs H Q E, sp vs H Q E → vs.length = ps.length)
    (hbody : ∀ (f : Addr) (cdv : Value) (A : Around) (outer : List Env) (s : Shared) (H : Hp) (vs : List V) (Q : VK) (E : XK), Room k (A.deeper (envOfC x (defScope st) s.heap.objs.size f cdv)) → sp vs H Q E →
      ∃ t, PSs (cxOf CX0 P w K mg base N x (defScope st) f cdv A outer s H E).nox (defBody st) t ∧ t { nx := fun _ H' => Q .non H', rt := Q } (start N vs) H) : GoodD P w K mg base (k + 1) x ps sp := by
  obtain ⟨f, fd, F, hm, hb⟩ := D
  exact ⟨f, fd, F.ok S len (hbody f), hm, F.kp, hb⟩
theorem MethAt.ok (D : MethAt K C x qual st ps) (S : FnScope N ps (defScope st)) (len : ∀ vs H Q E, sp vs H Q E → vs.length = ps.length)
    (hbody : ∀ (f : Addr) (cdv : Value) (A : Around) (outer : List Env) (s : Shared) (H : Hp) (vs : List V) (Q : VK) (E : XK), Room k (A.deeper (envOfC qual (defScope st) s.heap.objs.size f cdv)) → sp vs H Q E →
      ∃ t, PSs (cxOf CX0 P w K mg base N qual (defScope st) f cdv A outer s H E).nox (defBody st) t ∧ t { nx := fun _ H' => Q .non H', rt := Q } (start N vs) H) : GoodM P w K mg base C (k + 1) x ps sp := by
  obtain ⟨f, fd, F, hm, hb⟩ := D
  exact ⟨f, fd, F.ok S len (hbody f), hm, hb⟩
end
section
variable {X : Cx} {k : Nat} {C : Addr} {x m : Str} {ps : List Str} {sp : Sp} {e o : Expr} {es : List Expr} {ta : TE} {t : TA} {p apos pos : Pos}
theorem pe_callG (G : GoodD X.prog X.w X.K X.mg X.base k x ps sp) (hr : Room k X.A) (hg : Gl X x) (ha : PA X (e :: es) t)
    (hdb : (x == ("__debug__" : Str)) = false := by decide)
    (he : starEach (e :: es) X.env = (false, eval e X.env) :: starEach es X.env := by rfl) (hpl : (backTo pos (starEach es X.env)).any (·.1) = false := by rfl) : PE X (.Call (.Name x p) (e :: es) [] pos) (tCall sp [] E0 t) := by
  obtain ⟨f, fd, F, hm, hk, hb⟩ := G
  exact pe_call F hr hg hm hk hb .nil pass0 ha hdb he hpl
theorem pe_methG {pl : Sem Bool} (he : PE X o ta) (c : Cls X.K C) (G : GoodM X.prog X.w X.K X.mg X.base C k m ps sp) (hr : Room k X.A) (ha : PA X (e :: es) t)
    (hst : starEach (e :: es) X.env = (false, eval e X.env) :: starEach es X.env := by rfl) (hpl : (backTo pos (starEach es X.env)).any (·.1) = false := by rfl)
    (ht : eval (.Call (.Attribute o m apos) (e :: es) [] pos) X.env = (do
      let ov ← eval o X.env
      standAt apos.atName
      let (f, first) ← holding [ov] (getMethod ov m pl)
      callWith pos f first (backTo pos (starEach (e :: es) X.env)) (backToKw pos (keywordEach [] X.env))) := by rfl) :
    PE X (.Call (.Attribute o m apos) (e :: es) [] pos) (tMeth C m sp [] E0 ta t) := by
  obtain ⟨f, fd, F, hm, hb⟩ := G
  exact pe_meth he c hm F hr hb .nil pass0 ha hst hpl ht
theorem pe_methG0 {pl : Sem Bool} (he : PE X o ta) (c : Cls X.K C) (G : GoodM X.prog X.w X.K X.mg X.base C k m ps sp) (hr : Room k X.A)
    (ht : eval (.Call (.Attribute o m apos) [] [] pos) X.env = (do
      let ov ← eval o X.env
      standAt apos.atName
      let (f, first) ← holding [ov] (getMethod ov m pl)
      callWith pos f first (backTo pos (starEach [] X.env)) (backToKw pos (keywordEach [] X.env))) := by rfl) :
    PE X (.Call (.Attribute o m apos) [] [] pos) (tMeth C m sp [] E0 ta tNil) := by
  obtain ⟨f, fd, F, hm, hb⟩ := G
  exact pe_meth0 he c hm F hr hb .nil pass0 ht
theorem pe_globE {v : V} (hg : Gl X x) (h : ∃ u, X.mg x = some u ∧ RelV v u) (hd : (x == ("__debug__" : Str)) = false := by decide) : PE X (.Name x pos) (tC v) := by
  obtain ⟨u, hm, r⟩ := h
  exact pe_glob hg hm r hd
end
/-! ### what the top has written -/
/-- a tuple of whole numbers that the top has written -/
def TupAt (K : PySem.W.Frag) (mg : Str → Option Value) (x : Str) (a : Addr) (xs : List V) : Prop := mg x = some (.ref a) ∧
    ∃ (o : Obj) (its : Array Value) (n : Nat), K.lookup a = some o ∧ o.cls = .type "tuple" ∧ o.data = .seq its n ∧ its.size ≤ sizeLine ∧ Vals xs its.toList
def cRow : List V := [.int 1, .int 4, .int 10]
def cPlain : List V := [.int 3, .int 0, .int 1, .int 0, .int 0, .int 0, .int 1, .int 1, .int 1, .int 1, .int 0, .int 1]
structure Txt (K : PySem.W.Frag) (mg : Str → Option Value) (C aR aP : Addr) : Prop where
  cl : Cls K C
  a_begun : NoAttr K C "begun"
  a_n : NoAttr K C "n"
  a_k : NoAttr K C "k"
  a_t : NoAttr K C "t"
  a_tickets : NoAttr K C "tickets"
  a_choices : NoAttr K C "choices"
  a_draws : NoAttr K C "draws"
  a_all_draws : NoAttr K C "all_draws"
  a_drawn_with : NoAttr K C "drawn_with"
  m_len : mg "len" = none
  m_range : mg "range" = none
  m_list : mg "list" = none
  m_sum : mg "sum" = none
  m_max : mg "max" = none
  m_min : mg "min" = none
  m_enumerate : mg "enumerate" = none
  c_MOST_TICKETS : ∃ u, mg "MOST_TICKETS" = some u ∧ RelV (.int 30) u
  c_LONGEST_ROW : ∃ u, mg "LONGEST_ROW" = some u ∧ RelV (.int 3) u
  c_MOST_DIFFERENT : ∃ u, mg "MOST_DIFFERENT" = some u ∧ RelV (.int 60) u
  c_MOST_PRIZE : ∃ u, mg "MOST_PRIZE" = some u ∧ RelV (.int 99999) u
  c_BEGIN : ∃ u, mg "BEGIN" = some u ∧ RelV (.int 0) u
  c_BUY : ∃ u, mg "BUY" = some u ∧ RelV (.int 1) u
  c_DROP : ∃ u, mg "DROP" = some u ∧ RelV (.int 2) u
  c_LOOK : ∃ u, mg "LOOK" = some u ∧ RelV (.int 3) u
  c_MATCHES : ∃ u, mg "MATCHES" = some u ∧ RelV (.int 4) u
  c_WORST : ∃ u, mg "WORST" = some u ∧ RelV (.int 5) u
  c_COVERS : ∃ u, mg "COVERS" = some u ∧ RelV (.int 6) u
  c_NEXT : ∃ u, mg "NEXT" = some u ∧ RelV (.int 7) u
  c_FEWEST : ∃ u, mg "FEWEST" = some u ∧ RelV (.int 8) u
  c_NEEDED : ∃ u, mg "NEEDED" = some u ∧ RelV (.int 9) u
  c_PAYS : ∃ u, mg "PAYS" = some u ∧ RelV (.int 10) u
  rowc : TupAt K mg "ROW_CALLS" aR cRow
  plain : TupAt K mg "PLAIN_COUNTS" aP cPlain
  gC : mg "Wheel" = some (.ref C)
theorem TupAt.g {K : PySem.W.Frag} {mg : Str → Option Value} {x : Str} {a : Addr} {xs : List V} (h : TupAt K mg x a xs) : ∃ u, mg x = some u ∧ RelV (.ref a) u := ⟨_, h.1, rfl⟩
theorem TupAt.sq {K : PySem.W.Frag} {mg : Str → Option Value} {x : Str} {a : Addr} {xs : List V} {H : Hp} (h : TupAt K mg x a xs) : SqT K H a xs := .inr h.2
/-! ### the wheel in the heap -/
theorem lk_here {k : Str} {v : V} {r : List (Str × V)} : List.lookup k ((k, v) :: r) = some v := by
  have e : (k == k) = true := beq_self_eq_true k
  simp only [List.lookup, e]
theorem lk_past {k g : Str} {v : V} {r : List (Str × V)} (h : (k == g) = false) : List.lookup k ((g, v) :: r) = List.lookup k r := by
  simp only [List.lookup, h]
theorem put_here {f : Str} {v x : V} {r : List (Str × V)} : putF f v ((f, x) :: r) = (f, v) :: r := if_pos rfl
theorem put_past {f g : Str} {v x : V} {r : List (Str × V)} (h : ¬ g = f) : putF f v ((g, x) :: r) = (g, x) :: putF f v r := if_neg h
structure WR where
  b : Bool
  n : Int
  k : Int
  t : Int
  tl : Addr
  lc : Addr
  ld : Addr
  al : Int
  lw : Addr
def wF (r : WR) : List (Str × V) := [("begun", .bl r.b), ("n", .int r.n), ("k", .int r.k), ("t", .int r.t), ("tickets", .ref r.tl), ("choices", .ref r.lc), ("draws", .ref r.ld), ("all_draws", .int r.al), ("drawn_with", .ref r.lw)]
theorem l_begun (r : WR) : (wF r).lookup ("begun" : Str) = some (.bl r.b) := lk_here
theorem l_n (r : WR) : (wF r).lookup ("n" : Str) = some (.int r.n) := (lk_past (by decide +kernel)).trans (lk_here)
theorem l_k (r : WR) : (wF r).lookup ("k" : Str) = some (.int r.k) := (lk_past (by decide +kernel)).trans ((lk_past (by decide +kernel)).trans (lk_here))
theorem l_t (r : WR) : (wF r).lookup ("t" : Str) = some (.int r.t) := (lk_past (by decide +kernel)).trans ((lk_past (by decide +kernel)).trans ((lk_past (by decide +kernel)).trans (lk_here)))
theorem l_tickets (r : WR) : (wF r).lookup ("tickets" : Str) = some (.ref r.tl) := (lk_past (by decide +kernel)).trans ((lk_past (by decide +kernel)).trans ((lk_past (by decide +kernel)).trans ((lk_past (by decide +kernel)).trans (lk_here))))
theorem l_choices (r : WR) : (wF r).lookup ("choices" : Str) = some (.ref r.lc) := (lk_past (by decide +kernel)).trans ((lk_past (by decide +kernel)).trans ((lk_past (by decide +kernel)).trans ((lk_past (by decide +kernel)).trans ((lk_past (by decide +kernel)).trans (lk_here)))))
theorem l_draws (r : WR) : (wF r).lookup ("draws" : Str) = some (.ref r.ld) := (lk_past (by decide +kernel)).trans ((lk_past (by decide +kernel)).trans ((lk_past (by decide +kernel)).trans ((lk_past (by decide +kernel)).trans ((lk_past (by decide +kernel)).trans ((lk_past (by decide +kernel)).trans (lk_here))))))
theorem l_all_draws (r : WR) : (wF r).lookup ("all_draws" : Str) = some (.int r.al) := (lk_past (by decide +kernel)).trans ((lk_past (by decide +kernel)).trans ((lk_past (by decide +kernel)).trans ((lk_past (by decide +kernel)).trans ((lk_past (by decide +kernel)).trans ((lk_past (by decide +kernel)).trans ((lk_past (by decide +kernel)).trans (lk_here)))))))
theorem l_drawn_with (r : WR) : (wF r).lookup ("drawn_with" : Str) = some (.ref r.lw) := (lk_past (by decide +kernel)).trans ((lk_past (by decide +kernel)).trans ((lk_past (by decide +kernel)).trans ((lk_past (by decide +kernel)).trans ((lk_past (by decide +kernel)).trans ((lk_past (by decide +kernel)).trans ((lk_past (by decide +kernel)).trans ((lk_past (by decide +kernel)).trans (lk_here))))))))
theorem l_begin (r : WR) : (wF r).lookup ("begin" : Str) = none := (lk_past (by decide +kernel)).trans ((lk_past (by decide +kernel)).trans ((lk_past (by decide +kernel)).trans ((lk_past (by decide +kernel)).trans ((lk_past (by decide +kernel)).trans ((lk_past (by decide +kernel)).trans ((lk_past (by decide +kernel)).trans ((lk_past (by decide +kernel)).trans ((lk_past (by decide +kernel)).trans (rfl)))))))))
theorem l_buy (r : WR) : (wF r).lookup ("buy" : Str) = none := (lk_past (by decide +kernel)).trans ((lk_past (by decide +kernel)).trans ((lk_past (by decide +kernel)).trans ((lk_past (by decide +kernel)).trans ((lk_past (by decide +kernel)).trans ((lk_past (by decide +kernel)).trans ((lk_past (by decide +kernel)).trans ((lk_past (by decide +kernel)).trans ((lk_past (by decide +kernel)).trans (rfl)))))))))
theorem l_drop (r : WR) : (wF r).lookup ("drop" : Str) = none := (lk_past (by decide +kernel)).trans ((lk_past (by decide +kernel)).trans ((lk_past (by decide +kernel)).trans ((lk_past (by decide +kernel)).trans ((lk_past (by decide +kernel)).trans ((lk_past (by decide +kernel)).trans ((lk_past (by decide +kernel)).trans ((lk_past (by decide +kernel)).trans ((lk_past (by decide +kernel)).trans (rfl)))))))))
theorem l_look (r : WR) : (wF r).lookup ("look" : Str) = none := (lk_past (by decide +kernel)).trans ((lk_past (by decide +kernel)).trans ((lk_past (by decide +kernel)).trans ((lk_past (by decide +kernel)).trans ((lk_past (by decide +kernel)).trans ((lk_past (by decide +kernel)).trans ((lk_past (by decide +kernel)).trans ((lk_past (by decide +kernel)).trans ((lk_past (by decide +kernel)).trans (rfl)))))))))
theorem l_matches (r : WR) : (wF r).lookup ("matches" : Str) = none := (lk_past (by decide +kernel)).trans ((lk_past (by decide +kernel)).trans ((lk_past (by decide +kernel)).trans ((lk_past (by decide +kernel)).trans ((lk_past (by decide +kernel)).trans ((lk_past (by decide +kernel)).trans ((lk_past (by decide +kernel)).trans ((lk_past (by decide +kernel)).trans ((lk_past (by decide +kernel)).trans (rfl)))))))))
theorem l_worst (r : WR) : (wF r).lookup ("worst" : Str) = none := (lk_past (by decide +kernel)).trans ((lk_past (by decide +kernel)).trans ((lk_past (by decide +kernel)).trans ((lk_past (by decide +kernel)).trans ((lk_past (by decide +kernel)).trans ((lk_past (by decide +kernel)).trans ((lk_past (by decide +kernel)).trans ((lk_past (by decide +kernel)).trans ((lk_past (by decide +kernel)).trans (rfl)))))))))
theorem l_best (r : WR) : (wF r).lookup ("best" : Str) = none := (lk_past (by decide +kernel)).trans ((lk_past (by decide +kernel)).trans ((lk_past (by decide +kernel)).trans ((lk_past (by decide +kernel)).trans ((lk_past (by decide +kernel)).trans ((lk_past (by decide +kernel)).trans ((lk_past (by decide +kernel)).trans ((lk_past (by decide +kernel)).trans ((lk_past (by decide +kernel)).trans (rfl)))))))))
theorem l_covers (r : WR) : (wF r).lookup ("covers" : Str) = none := (lk_past (by decide +kernel)).trans ((lk_past (by decide +kernel)).trans ((lk_past (by decide +kernel)).trans ((lk_past (by decide +kernel)).trans ((lk_past (by decide +kernel)).trans ((lk_past (by decide +kernel)).trans ((lk_past (by decide +kernel)).trans ((lk_past (by decide +kernel)).trans ((lk_past (by decide +kernel)).trans (rfl)))))))))
theorem l_next_ticket (r : WR) : (wF r).lookup ("next_ticket" : Str) = none := (lk_past (by decide +kernel)).trans ((lk_past (by decide +kernel)).trans ((lk_past (by decide +kernel)).trans ((lk_past (by decide +kernel)).trans ((lk_past (by decide +kernel)).trans ((lk_past (by decide +kernel)).trans ((lk_past (by decide +kernel)).trans ((lk_past (by decide +kernel)).trans ((lk_past (by decide +kernel)).trans (rfl)))))))))
theorem l_fewest (r : WR) : (wF r).lookup ("fewest" : Str) = none := (lk_past (by decide +kernel)).trans ((lk_past (by decide +kernel)).trans ((lk_past (by decide +kernel)).trans ((lk_past (by decide +kernel)).trans ((lk_past (by decide +kernel)).trans ((lk_past (by decide +kernel)).trans ((lk_past (by decide +kernel)).trans ((lk_past (by decide +kernel)).trans ((lk_past (by decide +kernel)).trans (rfl)))))))))
theorem l_needed (r : WR) : (wF r).lookup ("needed" : Str) = none := (lk_past (by decide +kernel)).trans ((lk_past (by decide +kernel)).trans ((lk_past (by decide +kernel)).trans ((lk_past (by decide +kernel)).trans ((lk_past (by decide +kernel)).trans ((lk_past (by decide +kernel)).trans ((lk_past (by decide +kernel)).trans ((lk_past (by decide +kernel)).trans ((lk_past (by decide +kernel)).trans (rfl)))))))))
theorem l_pays (r : WR) : (wF r).lookup ("pays" : Str) = none := (lk_past (by decide +kernel)).trans ((lk_past (by decide +kernel)).trans ((lk_past (by decide +kernel)).trans ((lk_past (by decide +kernel)).trans ((lk_past (by decide +kernel)).trans ((lk_past (by decide +kernel)).trans ((lk_past (by decide +kernel)).trans ((lk_past (by decide +kernel)).trans ((lk_past (by decide +kernel)).trans (rfl)))))))))
theorem l_least (r : WR) : (wF r).lookup ("least" : Str) = none := (lk_past (by decide +kernel)).trans ((lk_past (by decide +kernel)).trans ((lk_past (by decide +kernel)).trans ((lk_past (by decide +kernel)).trans ((lk_past (by decide +kernel)).trans ((lk_past (by decide +kernel)).trans ((lk_past (by decide +kernel)).trans ((lk_past (by decide +kernel)).trans ((lk_past (by decide +kernel)).trans (rfl)))))))))
theorem l_is_wanted (r : WR) : (wF r).lookup ("is_wanted" : Str) = none := (lk_past (by decide +kernel)).trans ((lk_past (by decide +kernel)).trans ((lk_past (by decide +kernel)).trans ((lk_past (by decide +kernel)).trans ((lk_past (by decide +kernel)).trans ((lk_past (by decide +kernel)).trans ((lk_past (by decide +kernel)).trans ((lk_past (by decide +kernel)).trans ((lk_past (by decide +kernel)).trans (rfl)))))))))
theorem l_covered_by (r : WR) : (wF r).lookup ("covered_by" : Str) = none := (lk_past (by decide +kernel)).trans ((lk_past (by decide +kernel)).trans ((lk_past (by decide +kernel)).trans ((lk_past (by decide +kernel)).trans ((lk_past (by decide +kernel)).trans ((lk_past (by decide +kernel)).trans ((lk_past (by decide +kernel)).trans ((lk_past (by decide +kernel)).trans ((lk_past (by decide +kernel)).trans (rfl)))))))))
theorem l_covered (r : WR) : (wF r).lookup ("covered" : Str) = none := (lk_past (by decide +kernel)).trans ((lk_past (by decide +kernel)).trans ((lk_past (by decide +kernel)).trans ((lk_past (by decide +kernel)).trans ((lk_past (by decide +kernel)).trans ((lk_past (by decide +kernel)).trans ((lk_past (by decide +kernel)).trans ((lk_past (by decide +kernel)).trans ((lk_past (by decide +kernel)).trans (rfl)))))))))
theorem l_numbers_of (r : WR) : (wF r).lookup ("numbers_of" : Str) = none := (lk_past (by decide +kernel)).trans ((lk_past (by decide +kernel)).trans ((lk_past (by decide +kernel)).trans ((lk_past (by decide +kernel)).trans ((lk_past (by decide +kernel)).trans ((lk_past (by decide +kernel)).trans ((lk_past (by decide +kernel)).trans ((lk_past (by decide +kernel)).trans ((lk_past (by decide +kernel)).trans (rfl)))))))))
theorem l_paid (r : WR) : (wF r).lookup ("paid" : Str) = none := (lk_past (by decide +kernel)).trans ((lk_past (by decide +kernel)).trans ((lk_past (by decide +kernel)).trans ((lk_past (by decide +kernel)).trans ((lk_past (by decide +kernel)).trans ((lk_past (by decide +kernel)).trans ((lk_past (by decide +kernel)).trans ((lk_past (by decide +kernel)).trans ((lk_past (by decide +kernel)).trans (rfl)))))))))
theorem p_begun (r : WR) (y : Bool) : putF "begun" (.bl y) (wF r) = wF { r with b := y } := put_here
theorem p_n (r : WR) (y : Int) : putF "n" (.int y) (wF r) = wF { r with n := y } := (put_past (by decide +kernel)).trans (congrArg _ (put_here))
theorem p_k (r : WR) (y : Int) : putF "k" (.int y) (wF r) = wF { r with k := y } := (put_past (by decide +kernel)).trans (congrArg _ ((put_past (by decide +kernel)).trans (congrArg _ (put_here))))
theorem p_t (r : WR) (y : Int) : putF "t" (.int y) (wF r) = wF { r with t := y } := (put_past (by decide +kernel)).trans (congrArg _ ((put_past (by decide +kernel)).trans (congrArg _ ((put_past (by decide +kernel)).trans (congrArg _ (put_here))))))
theorem p_tickets (r : WR) (y : Addr) : putF "tickets" (.ref y) (wF r) = wF { r with tl := y } := (put_past (by decide +kernel)).trans (congrArg _ ((put_past (by decide +kernel)).trans (congrArg _ ((put_past (by decide +kernel)).trans (congrArg _ ((put_past (by decide +kernel)).trans (congrArg _ (put_here))))))))
theorem p_choices (r : WR) (y : Addr) : putF "choices" (.ref y) (wF r) = wF { r with lc := y } := (put_past (by decide +kernel)).trans (congrArg _ ((put_past (by decide +kernel)).trans (congrArg _ ((put_past (by decide +kernel)).trans (congrArg _ ((put_past (by decide +kernel)).trans (congrArg _ ((put_past (by decide +kernel)).trans (congrArg _ (put_here))))))))))
theorem p_draws (r : WR) (y : Addr) : putF "draws" (.ref y) (wF r) = wF { r with ld := y } := (put_past (by decide +kernel)).trans (congrArg _ ((put_past (by decide +kernel)).trans (congrArg _ ((put_past (by decide +kernel)).trans (congrArg _ ((put_past (by decide +kernel)).trans (congrArg _ ((put_past (by decide +kernel)).trans (congrArg _ ((put_past (by decide +kernel)).trans (congrArg _ (put_here))))))))))))
theorem p_all_draws (r : WR) (y : Int) : putF "all_draws" (.int y) (wF r) = wF { r with al := y } := (put_past (by decide +kernel)).trans (congrArg _ ((put_past (by decide +kernel)).trans (congrArg _ ((put_past (by decide +kernel)).trans (congrArg _ ((put_past (by decide +kernel)).trans (congrArg _ ((put_past (by decide +kernel)).trans (congrArg _ ((put_past (by decide +kernel)).trans (congrArg _ ((put_past (by decide +kernel)).trans (congrArg _ (put_here))))))))))))))
theorem p_drawn_with (r : WR) (y : Addr) : putF "drawn_with" (.ref y) (wF r) = wF { r with lw := y } := (put_past (by decide +kernel)).trans (congrArg _ ((put_past (by decide +kernel)).trans (congrArg _ ((put_past (by decide +kernel)).trans (congrArg _ ((put_past (by decide +kernel)).trans (congrArg _ ((put_past (by decide +kernel)).trans (congrArg _ ((put_past (by decide +kernel)).trans (congrArg _ ((put_past (by decide +kernel)).trans (congrArg _ ((put_past (by decide +kernel)).trans (congrArg _ (put_here))))))))))))))))
theorem put_new {f : Str} {v : V} : putF f v [] = [(f, v)] := rfl
theorem n_begun (r : WR) : putF "begun" (.bl r.b) [] = [(("begun" : Str), .bl r.b)] := put_new
theorem n_n (r : WR) : putF "n" (.int r.n) [(("begun" : Str), .bl r.b)] = [(("begun" : Str), .bl r.b), (("n" : Str), .int r.n)] := (put_past (by decide +kernel)).trans (congrArg _ (put_new))
theorem n_k (r : WR) : putF "k" (.int r.k) [(("begun" : Str), .bl r.b), (("n" : Str), .int r.n)] = [(("begun" : Str), .bl r.b), (("n" : Str), .int r.n), (("k" : Str), .int r.k)] := (put_past (by decide +kernel)).trans (congrArg _ ((put_past (by decide +kernel)).trans (congrArg _ (put_new))))
theorem n_t (r : WR) : putF "t" (.int r.t) [(("begun" : Str), .bl r.b), (("n" : Str), .int r.n), (("k" : Str), .int r.k)] = [(("begun" : Str), .bl r.b), (("n" : Str), .int r.n), (("k" : Str), .int r.k), (("t" : Str), .int r.t)] := (put_past (by decide +kernel)).trans (congrArg _ ((put_past (by decide +kernel)).trans (congrArg _ ((put_past (by decide +kernel)).trans (congrArg _ (put_new))))))
theorem n_tickets (r : WR) : putF "tickets" (.ref r.tl) [(("begun" : Str), .bl r.b), (("n" : Str), .int r.n), (("k" : Str), .int r.k), (("t" : Str), .int r.t)] = [(("begun" : Str), .bl r.b), (("n" : Str), .int r.n), (("k" : Str), .int r.k), (("t" : Str), .int r.t), (("tickets" : Str), .ref r.tl)] := (put_past (by decide +kernel)).trans (congrArg _ ((put_past (by decide +kernel)).trans (congrArg _ ((put_past (by decide +kernel)).trans (congrArg _ ((put_past (by decide +kernel)).trans (congrArg _ (put_new))))))))
theorem n_choices (r : WR) : putF "choices" (.ref r.lc) [(("begun" : Str), .bl r.b), (("n" : Str), .int r.n), (("k" : Str), .int r.k), (("t" : Str), .int r.t), (("tickets" : Str), .ref r.tl)] = [(("begun" : Str), .bl r.b), (("n" : Str), .int r.n), (("k" : Str), .int r.k), (("t" : Str), .int r.t), (("tickets" : Str), .ref r.tl), (("choices" : Str), .ref r.lc)] := (put_past (by decide +kernel)).trans (congrArg _ ((put_past (by decide +kernel)).trans (congrArg _ ((put_past (by decide +kernel)).trans (congrArg _ ((put_past (by decide +kernel)).trans (congrArg _ ((put_past (by decide +kernel)).trans (congrArg _ (put_new))))))))))
theorem n_draws (r : WR) : putF "draws" (.ref r.ld) [(("begun" : Str), .bl r.b), (("n" : Str), .int r.n), (("k" : Str), .int r.k), (("t" : Str), .int r.t), (("tickets" : Str), .ref r.tl), (("choices" : Str), .ref r.lc)] = [(("begun" : Str), .bl r.b), (("n" : Str), .int r.n), (("k" : Str), .int r.k), (("t" : Str), .int r.t), (("tickets" : Str), .ref r.tl), (("choices" : Str), .ref r.lc), (("draws" : Str), .ref r.ld)] := (put_past (by decide +kernel)).trans (congrArg _ ((put_past (by decide +kernel)).trans (congrArg _ ((put_past (by decide +kernel)).trans (congrArg _ ((put_past (by decide +kernel)).trans (congrArg _ ((put_past (by decide +kernel)).trans (congrArg _ ((put_past (by decide +kernel)).trans (congrArg _ (put_new))))))))))))
theorem n_all_draws (r : WR) : putF "all_draws" (.int r.al) [(("begun" : Str), .bl r.b), (("n" : Str), .int r.n), (("k" : Str), .int r.k), (("t" : Str), .int r.t), (("tickets" : Str), .ref r.tl), (("choices" : Str), .ref r.lc), (("draws" : Str), .ref r.ld)] = [(("begun" : Str), .bl r.b), (("n" : Str), .int r.n), (("k" : Str), .int r.k), (("t" : Str), .int r.t), (("tickets" : Str), .ref r.tl), (("choices" : Str), .ref r.lc), (("draws" : Str), .ref r.ld), (("all_draws" : Str), .int r.al)] := (put_past (by decide +kernel)).trans (congrArg _ ((put_past (by decide +kernel)).trans (congrArg _ ((put_past (by decide +kernel)).trans (congrArg _ ((put_past (by decide +kernel)).trans (congrArg _ ((put_past (by decide +kernel)).trans (congrArg _ ((put_past (by decide +kernel)).trans (congrArg _ ((put_past (by decide +kernel)).trans (congrArg _ (put_new))))))))))))))
theorem n_drawn_with (r : WR) : putF "drawn_with" (.ref r.lw) [(("begun" : Str), .bl r.b), (("n" : Str), .int r.n), (("k" : Str), .int r.k), (("t" : Str), .int r.t), (("tickets" : Str), .ref r.tl), (("choices" : Str), .ref r.lc), (("draws" : Str), .ref r.ld), (("all_draws" : Str), .int r.al)] = [(("begun" : Str), .bl r.b), (("n" : Str), .int r.n), (("k" : Str), .int r.k), (("t" : Str), .int r.t), (("tickets" : Str), .ref r.tl), (("choices" : Str), .ref r.lc), (("draws" : Str), .ref r.ld), (("all_draws" : Str), .int r.al), (("drawn_with" : Str), .ref r.lw)] := (put_past (by decide +kernel)).trans (congrArg _ ((put_past (by decide +kernel)).trans (congrArg _ ((put_past (by decide +kernel)).trans (congrArg _ ((put_past (by decide +kernel)).trans (congrArg _ ((put_past (by decide +kernel)).trans (congrArg _ ((put_past (by decide +kernel)).trans (congrArg _ ((put_past (by decide +kernel)).trans (congrArg _ ((put_past (by decide +kernel)).trans (congrArg _ (put_new))))))))))))))))
end WP
end
section
namespace WP
open PySem PySem.Spec PyProof.Rows L2 Evl
/-! ### rows in the heap, within a footprint F -/
def nI (n : Nat) : V := .int (n : Int)
def nL (l : List Nat) : HO := .lst (l.map nI)
def RowAt (F : Addr → Prop) (H : Hp) (v : V) (r : List Nat) : Prop := ∃ p, v = .ref p ∧ F p ∧ H p = some (nL r)
def RowsAt (F : Addr → Prop) (H : Hp) (l : Addr) (rows : List (List Nat)) : Prop := ∃ vs, F l ∧ H l = some (.lst vs) ∧ Paired (RowAt F H) vs rows
def All (_ : Addr) : Prop := True
theorem paired_get {α β : Type} {R : α → β → Prop} : ∀ {xs : List α} {ys : List β}, Paired R xs ys → ∀ {i : Nat} {x : α}, xs[i]? = some x → ∃ y, ys[i]? = some y ∧ R x y
  | _, _, .nil, i, x, h => by simp at h
  | _, _, .cons r t, 0, x, h => by
    obtain rfl := Option.some.inj h
    exact ⟨_, rfl, r⟩
  | _, _, .cons r t, i + 1, x, h => paired_get t (i := i) h
theorem paired_getB {α β : Type} {R : α → β → Prop} : ∀ {xs : List α} {ys : List β}, Paired R xs ys → ∀ {i : Nat} {y : β}, ys[i]? = some y → ∃ x, xs[i]? = some x ∧ R x y
  | _, _, .nil, i, x, h => by simp at h
  | _, _, .cons r t, 0, x, h => by
    obtain rfl := Option.some.inj h
    exact ⟨_, rfl, r⟩
  | _, _, .cons r t, i + 1, x, h => paired_getB t (i := i) h
theorem paired_snoc {α β : Type} {R : α → β → Prop} {x : α} {y : β} (h : R x y) : ∀ {xs : List α} {ys : List β}, Paired R xs ys → Paired R (xs ++ [x]) (ys ++ [y])
  | _, _, .nil => .cons h .nil
  | _, _, .cons r t => .cons r (paired_snoc h t)
theorem paired_append {α β : Type} {R : α → β → Prop} {xs' : List α} {ys' : List β} (h : Paired R xs' ys') : ∀ {xs : List α} {ys : List β}, Paired R xs ys → Paired R (xs ++ xs') (ys ++ ys')
  | _, _, .nil => h
  | _, _, .cons r t => .cons r (paired_append h t)
theorem paired_erase {α β : Type} {R : α → β → Prop} : ∀ {xs : List α} {ys : List β} (i : Nat), Paired R xs ys → Paired R (xs.eraseIdx i) (ys.eraseIdx i)
  | _, _, _, .nil => .nil
  | _, _, 0, .cons r t => t
  | _, _, i + 1, .cons r t => .cons r (paired_erase i t)
theorem paired_mono {α β : Type} {R S : α → β → Prop} (h : ∀ a b, R a b → S a b) : ∀ {xs : List α} {ys : List β}, Paired R xs ys → Paired S xs ys
  | _, _, .nil => .nil
  | _, _, .cons r t => .cons (h _ _ r) (paired_mono h t)
theorem paired_mono2 {α β : Type} {R S : α → β → Prop} : ∀ {xs : List α} {ys : List β}, (∀ a b, b ∈ ys → R a b → S a b) → Paired R xs ys → Paired S xs ys
  | _, _, _, .nil => .nil
  | _, _, h, .cons r t => .cons (h _ _ (.head _) r) (paired_mono2 (fun a b m q => h a b (.tail _ m) q) t)
section
variable {F F' : Addr → Prop} {H H' : Hp} {l : Addr} {rows : List (List Nat)}
theorem RowsAt.mono (hF : ∀ x, F x → F' x) (hH : ∀ x o, F x → H x = some o → H' x = some o) (h : RowsAt F H l rows) : RowsAt F' H' l rows := by
  obtain ⟨vs, h1, h2, h3⟩ := h
  exact ⟨vs, hF l h1, hH l _ h1 h2, paired_mono (fun v r ⟨p, e, f, q⟩ => ⟨p, e, hF p f, hH p _ f q⟩) h3⟩
theorem RowsAt.ex (e : Ex H H') (h : RowsAt F H l rows) : RowsAt F H' l rows := h.mono (fun _ f => f) fun x o _ q => e x o q
theorem RowAt.ex {v : V} {r : List Nat} (e : Ex H H') (h : RowAt F H v r) : RowAt F H' v r := let ⟨p, a, b, c⟩ := h; ⟨p, a, b, e p _ c⟩
end
/-! ### the wheel -/
structure Good (s : Mu24.State) : Prop where
  n2 : 2 ≤ s.n
  n10 : s.n ≤ 10
  k1 : 1 ≤ s.k
  k6 : s.k ≤ 6
  kn : s.k ≤ s.n
  t1 : 1 ≤ s.t
  t6 : s.t ≤ 6
  tn : s.t ≤ s.n
  tk : ∀ a ∈ s.tickets, Mu24.isPick s s.k a = true
  len : s.tickets.length ≤ 30
def Rec (C : Addr) (H : Hp) (a : Addr) (r : WR) : Prop := ∃ dx, H a = some (.ins C dx (wF r))
def dwL (s : Mu24.State) : List Nat := (List.range s.n).map fun i => WD.mask (fun d => d.contains i) (Mu24.allDraws s)
def allD (s : Mu24.State) : Nat := 2 ^ (Mu24.allDraws s).length - 1
structure WSt (C : Addr) (F : Addr → Prop) (H : Hp) (a : Addr) (r : WR) (s : Mu24.State) : Prop where
  rc : Rec C H a r
  fa : F a
  eb : r.b = true
  en : r.n = s.n
  ek : r.k = s.k
  et : r.t = s.t
  ea : r.al = allD s
  tick : RowsAt F H r.tl s.tickets
  ch : RowsAt F H r.lc (Mu24.allTickets s)
  dr : RowsAt F H r.ld (Mu24.allDraws s)
  fw : F r.lw
  dw : H r.lw = some (nL (dwL s))
  good : Good s
  ne1 : r.tl ≠ r.lc
  ne2 : r.tl ≠ r.ld
  ne3 : r.tl ≠ r.lw
def WA (C : Addr) (F : Addr → Prop) (H : Hp) (a : Addr) : Mu24.Abs → Prop
  | none => F a ∧ ∃ r, Rec C H a r ∧ r.b = false
  | some s => ∃ r, WSt C F H a r s
section
variable {C a : Addr} {F F' : Addr → Prop} {H H' : Hp} {r : WR} {s : Mu24.State} {o : Mu24.Abs}
theorem WSt.mono (hF : ∀ x, F x → F' x) (hH : ∀ x o, F x → H x = some o → H' x = some o) (w : WSt C F H a r s) : WSt C F' H' a r s :=
  { rc := let ⟨dx, e⟩ := w.rc; ⟨dx, hH _ _ w.fa e⟩, fa := hF _ w.fa, eb := w.eb, en := w.en, ek := w.ek, et := w.et, ea := w.ea, tick := w.tick.mono hF hH, ch := w.ch.mono hF hH, dr := w.dr.mono hF hH,
    fw := hF _ w.fw, dw := hH _ _ w.fw w.dw, good := w.good, ne1 := w.ne1, ne2 := w.ne2, ne3 := w.ne3 }
theorem WSt.ex (e : Ex H H') (w : WSt C F H a r s) : WSt C F H' a r s := w.mono (fun _ f => f) fun x o _ q => e x o q
theorem WA.mono (hF : ∀ x, F x → F' x) (hH : ∀ x o, F x → H x = some o → H' x = some o) (w : WA C F H a o) : WA C F' H' a o := by
  cases o with
  | none =>
    obtain ⟨fa, r, ⟨dx, e⟩, b⟩ := w
    exact ⟨hF _ fa, r, ⟨dx, hH _ _ fa e⟩, b⟩
  | some s =>
    obtain ⟨r, w⟩ := w
    exact ⟨r, w.mono hF hH⟩
theorem WA.ex (e : Ex H H') (w : WA C F H a o) : WA C F H' a o := w.mono (fun _ f => f) fun x o _ q => e x o q
end
/-- what a call answers, and what it leaves -/
def Post (C a : Addr) (F : Addr → Prop) (H : Hp) (res : Mu24.Abs × Mu24.Ans) (Q : VK) : Prop :=
  ∀ (H' : Hp) (p : Addr) (F' : Addr → Prop), H p = none → H' p = some (.lst (res.2.map V.int)) → WA C F' H' a res.1 → (∀ x, F' x → F x ∨ H x = none) → (∀ b o, H b = some o → ¬ F b → H' b = some o) → Q (.ref p) H'
theorem Post.ro {C a : Addr} {F : Addr → Prop} {H : Hp} {o : Mu24.Abs} {ans : Mu24.Ans} {Q : VK} (w : WA C F H a o) (k : Post C a F H (o, ans) Q) : RetL (ans.map V.int) H Q :=
  fun p H2 hp e h => k H2 p F hp h (w.ex e) (fun _ f => .inl f) fun b o hb _ => e b o hb
/-! ### evaluation: fields, methods, calls -/
section
variable {K : PySem.W.Frag} {σ : L2.St} {H : Hp} {ta tb te : TE} {t : TA} {C a dx : Addr} {fs : List (Str × V)} {f m : Str} {v z : V} {vs xs : List V} {sp : Sp} {D : Ends} {tz : TS}
theorem ev_fld (ha : Ev ta σ H (.ref a)) (hw : H a = some (.ins C dx fs)) (c : Cls K C) (n : NoAttr K C f) (l : fs.lookup f = some v) : Ev (tFld K ta f) σ H v := fun H1 e Q q =>
  ha H1 e _ fun H2 e2 => ⟨a, C, dx, fs, v, rfl, e2 _ _ (e _ _ hw), c, n, l, q H2 e2⟩
theorem ev_meth (ha : Ev ta σ H (.ref a)) (hw : H a = some (.ins C dx fs)) (l : fs.lookup m = none) (hv : EvA t σ H vs) (hs : SpV sp (.ref a :: (vs ++ [])) H z) : Ev (tMeth C m sp [] E0 ta t) σ H z := fun H1 e Q q =>
  ha H1 e _ fun H2 e2 => ⟨a, dx, fs, rfl, e2 _ _ (e _ _ hw), l, hv H2 (e.trans e2) _ fun H3 e3 => hs H3 ((e.trans e2).trans e3) Q (fun H4 e4 => q H4 ((e2.trans e3).trans e4)) E0⟩
theorem el_meth (ha : Ev ta σ H (.ref a)) (hw : H a = some (.ins C dx fs)) (l : fs.lookup m = none) (hv : EvA t σ H vs) (hs : SpL sp (.ref a :: (vs ++ [])) H xs) : EvL (tMeth C m sp [] E0 ta t) σ H xs := fun H1 e Q q =>
  ha H1 e _ fun H2 e2 => ⟨a, dx, fs, rfl, e2 _ _ (e _ _ hw), l, hv H2 (e.trans e2) _ fun H3 e3 => hs H3 ((e.trans e2).trans e3) Q (fun p H4 hp e4 h4 => q p H4 (fresh_back (e2.trans e3) hp) ((e2.trans e3).trans e4) h4) E0⟩
theorem ea_one (h : Ev ta σ H v) : EvA (tCons ta tNil) σ H [v] := ea_cons h ea_nil
/-- xs + ys, both new -/
theorem el_cat {xs ys : List V} (ha : EvL ta σ H xs) (hb : EvL tb σ H ys) (hz : xs.length + ys.length ≤ sizeLine) : EvL (tOp rCat ta tb) σ H (xs ++ ys) := fun H1 e Q q =>
  ha H1 e _ fun p H2 hp e2 h2 => hb H2 (e.trans e2) _ fun p' H3 hp' e3 h3 => ⟨p, p', xs, ys, rfl, rfl, e3 _ _ h2, h3, hz, fun l hl => q l _ (fresh_back (e2.trans e3) hl) ((e2.trans e3).trans (Ex.new hl)) upd_same⟩
/-- xs + ys, the second one stands -/
theorem el_catV {xs ys : List V} {b : Addr} (ha : EvL ta σ H xs) (hb : Ev tb σ H (.ref b)) (hy : H b = some (.lst ys)) (hz : xs.length + ys.length ≤ sizeLine) : EvL (tOp rCat ta tb) σ H (xs ++ ys) := fun H1 e Q q =>
  ha H1 e _ fun p H2 hp e2 h2 => hb H2 (e.trans e2) _ fun H3 e3 => ⟨p, b, xs, ys, rfl, rfl, e3 _ _ h2, ((e.trans e2).trans e3) _ _ hy, hz, fun l hl => q l _ (fresh_back (e2.trans e3) hl) ((e2.trans e3).trans (Ex.new hl)) upd_same⟩
/-- xs + ys, the first one stands -/
theorem el_catW {xs ys : List V} {b : Addr} (ha : Ev ta σ H (.ref b)) (hx : H b = some (.lst xs)) (hb : EvL tb σ H ys) (hz : xs.length + ys.length ≤ sizeLine) : EvL (tOp rCat ta tb) σ H (xs ++ ys) := fun H1 e Q q =>
  ha H1 e _ fun H2 e2 => hb H2 (e.trans e2) _ fun p H3 hp e3 h3 => ⟨b, p, xs, ys, rfl, rfl, ((e.trans e2).trans e3) _ _ hx, h3, hz, fun l hl => q l _ (fresh_back (e2.trans e3) hl) ((e2.trans e3).trans (Ex.new hl)) upd_same⟩
/-- xs.append(e), as long as a list may be -/
theorem s_append {l : Addr} {xs : List V} (hl : H l = some (.lst xs)) (ha : Ev ta σ H (.ref l)) (h : Ev te σ H v) (hz : xs.length < sizeLine) (k : ∀ H1, Ex H H1 → D.nx σ (upd H1 l (.lst (xs ++ [v])))) :
    tDrop (tBM K "list" rAppend ta (tCons te tNil)) D σ H := ha H (Ex.refl H) _ fun H1 e1 =>
  ⟨Or.inl ⟨rfl, xs, sq_of (e1 l _ hl)⟩, h H1 e1 _ fun H2 e2 => ⟨l, xs, v, rfl, rfl, e2 l _ (e1 l _ hl), hz, k H2 (e1.trans e2)⟩⟩
theorem s_appendL {l : Addr} {xs ys : List V} (hl : H l = some (.lst xs)) (ha : Ev ta σ H (.ref l)) (h : EvL te σ H ys) (hz : xs.length < sizeLine) (k : ∀ p H1, H p = none → Ex H H1 → H1 p = some (.lst ys) → D.nx σ (upd H1 l (.lst (xs ++ [.ref p])))) :
    tDrop (tBM K "list" rAppend ta (tCons te tNil)) D σ H := ha H (Ex.refl H) _ fun H1 e1 =>
  ⟨Or.inl ⟨rfl, xs, sq_of (e1 l _ hl)⟩, h H1 e1 _ fun p H2 hp e2 h2 => ⟨l, xs, .ref p, rfl, rfl, e2 l _ (e1 l _ hl), hz, k p H2 (fresh_back e1 hp) (e1.trans e2) h2⟩⟩
theorem q_append {l : Addr} {xs : List V} (hl : H l = some (.lst xs)) (ha : Ev ta σ H (.ref l)) (h : Ev te σ H v) (hz : xs.length < sizeLine) (k : ∀ H1, Ex H H1 → tz D σ (upd H1 l (.lst (xs ++ [v])))) :
    tSeq (tDrop (tBM K "list" rAppend ta (tCons te tNil))) tz D σ H := s_append (D := { D with nx := tz D }) hl ha h hz k
/-- xs.extend(ys) -/
theorem s_extend {l b : Addr} {xs ys : List V} (hl : H l = some (.lst xs)) (hb : H b = some (.lst ys)) (ha : Ev ta σ H (.ref l)) (h : Ev te σ H (.ref b)) (hz : xs.length + ys.length ≤ sizeLine) (k : ∀ H1, Ex H H1 → D.nx σ (upd H1 l (.lst (xs ++ ys)))) :
    tDrop (tBM K "list" rExtend ta (tCons te tNil)) D σ H := ha H (Ex.refl H) _ fun H1 e1 =>
  ⟨Or.inl ⟨rfl, xs, sq_of (e1 l _ hl)⟩, h H1 e1 _ fun H2 e2 => ⟨l, b, xs, ys, rfl, rfl, e2 l _ (e1 l _ hl), e2 b _ (e1 b _ hb), hz, k H2 (e1.trans e2)⟩⟩
theorem q_extend {l b : Addr} {xs ys : List V} (hl : H l = some (.lst xs)) (hb : H b = some (.lst ys)) (ha : Ev ta σ H (.ref l)) (h : Ev te σ H (.ref b)) (hz : xs.length + ys.length ≤ sizeLine) (k : ∀ H1, Ex H H1 → tz D σ (upd H1 l (.lst (xs ++ ys)))) :
    tSeq (tDrop (tBM K "list" rExtend ta (tCons te tNil))) tz D σ H := s_extend (D := { D with nx := tz D }) hl hb ha h hz k
theorem ev_if2 {b : Bool} {tt : TT} {v1 v2 : V} (h : EvT tt σ H b) (h1 : b = true → Ev ta σ H v1) (h2 : b = false → Ev tb σ H v2) : Ev (tIf tt ta tb) σ H (if b = true then v1 else v2) := ev_if h (fun e => by rw [if_pos e]; exact h1 e) (fun e => by rw [if_neg (by rw [e]; decide)]; exact h2 e)
theorem el_if {b : Bool} {tt : TT} {xs : List V} (h : EvT tt σ H b) (h1 : b = true → EvL ta σ H xs) (h2 : b = false → EvL tb σ H xs) : EvL (tIf tt ta tb) σ H xs := fun H1 e Q q => h H1 e _ fun H2 e2 => by
  cases b with
  | true => exact h1 rfl H2 (e.trans e2) Q fun p H3 hp e3 h3 => q p H3 (fresh_back e2 hp) (e2.trans e3) h3
  | false => exact h2 rfl H2 (e.trans e2) Q fun p H3 hp e3 h3 => q p H3 (fresh_back e2 hp) (e2.trans e3) h3
end
/-- what a comprehension gives, by the list it walks -/
theorem range_getD {α : Type} (d : α) : ∀ l : List α, (List.range l.length).map (fun i => l.getD i d) = l := by
  intro l
  apply List.ext_getElem
  · rw [List.length_map, List.length_range]
  · intro i h1 h2
    rw [List.getElem_map, List.getElem_range, List.getD_eq_getElem?_getD, List.getElem?_eq_getElem h2]
    rfl
theorem filter_map_getD {α β : Type} (d : α) (P : α → Bool) (g : α → β) (l : List α) : ((List.range l.length).filter fun i => P (l.getD i d)).map (fun i => g (l.getD i d)) = (l.filter P).map g := by
  have h := range_getD d l
  have e : (l.filter P).map g = (((List.range l.length).map fun i => l.getD i d).filter P).map g := by rw [h]
  rw [e, List.filter_map, List.map_map]
  rfl
theorem given_map {α : Type} (d : α) (P : α → Bool) (g : α → V) (l : List α) : given l.length (fun i => P (l.getD i d)) (fun i => g (l.getD i d)) = (l.filter P).map g := filter_map_getD d P g l
theorem given_all {α : Type} (d : α) (g : α → V) (l : List α) : given l.length (fun _ => true) (fun i => g (l.getD i d)) = l.map g := by
  have h := given_map d (fun _ => true) g l
  rw [List.filter_eq_self.mpr fun _ _ => rfl] at h
  exact h
theorem map_at {α β : Type} {g : α → β} {l : List α} {i : Nat} {x : β} (h : (l.map g)[i]? = some x) : ∃ y, l[i]? = some y ∧ x = g y := by
  rw [List.getElem?_map] at h
  cases e : l[i]? with
  | none => rw [e] at h; cases h
  | some y => rw [e] at h; exact ⟨y, rfl, (Option.some.inj h).symm⟩
theorem getD_at {α : Type} {l : List α} {i : Nat} {x d : α} (h : l[i]? = some x) : l.getD i d = x := by
  rw [List.getD_eq_getElem?_getD, h]
  rfl
end WP
end
section
namespace WP
open PySem PySem.Spec PyProof.Rows L2 Evl WM
variable {P : Program} {w : World} {K : PySem.W.Frag} {mg : Str → Option Value} {base : Heap} {C aR aP : Addr}
/-! ### count_right -/
def spCount : Sp := fun vs H Q _ => ∃ (p q : Addr) (t d : List Nat), vs = [.ref p, .ref q] ∧ H p = some (nL t) ∧ H q = some (nL d) ∧ t.length ≤ 1000 ∧ RetV (nI (Mu24.right t d)) H Q
theorem spCount_go {p q : Addr} {t d : List Nat} {H : Hp} (h1 : H p = some (nL t)) (h2 : H q = some (nL d)) (h3 : t.length ≤ 1000) : SpV spCount [.ref p, .ref q] H (nI (Mu24.right t d)) :=
  fun H1 e Q k _ => ⟨p, q, t, d, rfl, e _ _ h1, e _ _ h2, h3, k⟩
theorem sc_count_right : FnScope ["ticket", "draw", "number"] ["ticket", "draw"] (defScope s_count_right) := ⟨rfl, rfl, rfl, by decide +kernel, rfl, by decide +kernel, by decide +kernel⟩
theorem inV_nI (x : Nat) (d : List Nat) : inV (nI x) (d.map nI) = d.contains x := by
  unfold inV
  rw [List.any_map, Bool.eq_iff_iff, List.any_eq_true, List.contains_iff_mem]
  constructor
  · rintro ⟨y, hy, e⟩
    have e' : ((y : Int) == (x : Int)) = true := e
    have e2 : (y : Int) = (x : Int) := eq_of_beq e'
    have e3 : y = x := by omega
    rw [← e3]
    exact hy
  · intro h
    exact ⟨x, h, (beq_self_eq_true (x : Int) : ((x : Int) == (x : Int)) = true)⟩
theorem flat_nI (d : List Nat) : (d.map nI).all flatV = true := by
  rw [List.all_map, List.all_eq_true]
  intro x _
  rfl
theorem ok_count_right (D : DefAt K mg "count_right" s_count_right ["ticket", "draw"]) (T : Txt K mg C aR aP) : GoodD P w K mg base 1 "count_right" ["ticket", "draw"] spCount := by
  refine D.ok (N := ["ticket", "draw", "number"]) (k := 0) sc_count_right (fun vs H Q E h => ?_) (fun f cdv A outer s H vs Q E hr h => ⟨_, (pss_one (ps_ret (pe_callB call_len_seq (by rfl) T.m_len PySem.boot_len (pa_cons (pe_lc (own := [("number", 2)]) (g := gName 2) rfl sc_count_right.nd (pi_list (pv 0)) (blkOk_by (own := [("number", 2)]) (N := ["ticket", "draw", "number"]) (sc := defScope s_count_right) (by decide +kernel)) (fun _ _ _ _ _ => pg_name (i := 2) sc_count_right.nd rfl (Or.inl rfl)) (fun _ _ _ _ _ => (pts_one (pt_cmpR (r := rIn K false) op_in_seq (pv 2) (pv 1) (by rfl)))) (fun _ _ _ _ _ => (pv 2))) pa_nil)))), ?_⟩)
  · obtain ⟨p, q, t, d, rfl, _⟩ := h
    rfl
  · obtain ⟨p, q, t, d, rfl, h1, h2, h3, k⟩ := h
    refine s_ret (v := nI (Mu24.right t d)) ?_ k
    have hl : (t.map nI).length = t.length := List.length_map _
    have e : EvL (tLc (iList K (tVar 0)) (gName 2) (tTest (tOp (rIn K false) (tVar 2) (tVar 1))) (tVar 2) [2]) (start ["ticket", "draw", "number"] [.ref p, .ref q]) H (given (t.map nI).length (fun i => d.contains (t.getD i 0)) fun i => nI (t.getD i 0)) := by
      refine el_lcL (xs := t.map nI) (fun i => d.contains (t.getD i 0)) (fun i => nI (t.getD i 0)) (ev_var rfl) (sq_of h1) (by rw [hl]; omega) (fun x => rfl) (fun i x H1 e hx => ?_) (fun i x H1 e hx _ => ?_)
      · obtain ⟨y, ht, rfl⟩ := map_at hx
        rw [getD_at ht]
        refine et_test (ev_op (ev_var rfl) (ev_var rfl) ?_)
        rw [← inV_nI]
        exact rv_isL (sq_of (e _ _ h2)) rfl (flat_nI d)
      · obtain ⟨y, ht, rfl⟩ := map_at hx
        rw [getD_at ht]
        exact ev_var rfl
    rw [hl] at e
    have r := ev_lenN (K := K) e
    have e2 := given_map (α := Nat) 0 (fun x => d.contains x) nI t
    rw [e2, List.length_map] at r
    exact r
/-! ### is_size -/
def spSize : Sp := fun vs H Q _ => ∃ (k n : Int), vs = [.int k, .int n] ∧ RetV (.bl (decide (1 ≤ k) && (decide (k ≤ 6) && decide (k ≤ n)))) H Q
theorem sc_is_size : FnScope ["size", "n"] ["size", "n"] (defScope s_is_size) := ⟨rfl, rfl, rfl, by decide +kernel, rfl, by decide +kernel, by decide +kernel⟩
theorem ok_is_size (D : DefAt K mg "is_size" s_is_size ["size", "n"]) : GoodD P w K mg base 1 "is_size" ["size", "n"] spSize := by
  refine D.ok (N := ["size", "n"]) (k := 0) sc_is_size (fun vs H Q E h => ?_) (fun f cdv A outer s H vs Q E hr h => ⟨_, (pss_one (ps_ret (pe_and (pe_cmpR op_le pe_int (pv 0) (nomark _)) (pe_and (pe_cmpR op_le (pv 0) pe_int (nomark _)) (pe_one (pe_cmpR op_le (pv 0) (pv 1) (nomark _))))))), ?_⟩)
  · obtain ⟨k, n, rfl, _⟩ := h
    rfl
  · obtain ⟨k, n, rfl, q⟩ := h
    refine s_ret ?_ q
    exact ev_andV (ev_op ev_c (ev_var rfl) rv_I0) fun _ => ev_andV (ev_op (ev_var rfl) ev_c rv_I0) fun _ => ev_op (ev_var rfl) (ev_var rfl) rv_I0
/-! ### is_rising_row -/
def spRow : Sp := fun vs H Q _ => ∃ (p : Addr) (l : List Nat) (k n : Nat), vs = [.ref p, nI k, nI n] ∧ H p = some (nL l) ∧ RetV (.bl (WD.isRow n k l)) H Q
theorem sc_is_rising_row : FnScope ["row", "size", "n", "least", "number"] ["row", "size", "n"] (defScope s_is_rising_row) := ⟨rfl, rfl, rfl, by decide +kernel, rfl, by decide +kernel, by decide +kernel⟩
theorem ok_is_rising_row (D : DefAt K mg "is_rising_row" s_is_rising_row ["row", "size", "n"]) (T : Txt K mg C aR aP) : GoodD P w K mg base 1 "is_rising_row" ["row", "size", "n"] spRow := by
  refine D.ok (N := ["row", "size", "n", "least", "number"]) (k := 0) sc_is_rising_row (fun vs H Q E h => ?_) (fun f cdv A outer s H vs Q E hr h => ⟨_, (pss_cons (ps_if (pt_cmpR op_ne (pe_callB call_len_seq (by rfl) T.m_len PySem.boot_len (pa_cons (pv 0) pa_nil)) (pv 1) (nomark _)) (pss_one (ps_ret pe_bl)) pss_nil)
      (pss_cons (ps_set (i := 3) sc_is_rising_row.nd rfl (Or.inl rfl) pe_int)
      (pss_cons (ps_for PassesOwn.never rfl (pi_list (pv 0)) (pg_name (i := 4) sc_is_rising_row.nd rfl (Or.inl rfl)) (pss_cons (ps_if (PW.pt (pw_or (pt_cmpR op_lt (pv 4) (pv 3) (nomark _)) (pw_or1 (pt_cmpR op_ge (pv 4) (pv 2) (nomark _))))) (pss_one (ps_ret pe_bl)) pss_nil)
      (pss_one (ps_set (i := 3) sc_is_rising_row.nd rfl (Or.inl rfl) (pe_op op_add (pv 4) pe_int)))))
      (pss_one (ps_ret pe_bl))))), ?_⟩)
  · obtain ⟨p, l, k, n, rfl, _⟩ := h
    rfl
  · obtain ⟨p, l, k, n, rfl, h1, q⟩ := h
    refine q_when (b := !decide (nI l.length = nI k)) (et_test (ev_op (ev_is (ev_len (ev_var rfl) (sq_of h1)) (by rw [List.length_map]; rfl)) (ev_var rfl) (rv_ne rfl))) (fun hb H1 e1 => ?_) (fun hb H1 e1 => ?_)
    · refine s_ret ev_c fun H2 e2 => ?_
      have hne : l.length ≠ k := by
        intro e
        rw [e, decide_eq_true rfl] at hb
        cases hb
      have e : WD.isRow n k l = false := by
        unfold WD.isRow
        rw [beq_eq_false_iff_ne.mpr hne]
        rfl
      rw [e] at q
      exact q _ (e1.trans e2)
    · have hk : l.length = k := by
        by_cases e : (nI l.length) = nI k
        · have e' : (l.length : Int) = k := V.int.inj e
          omega
        · rw [decide_eq_false e] at hb
          cases hb
      have e : WD.isRow n k l = WD.upFrom n 0 l := by
        unfold WD.isRow
        rw [hk, beq_self_eq_true]
        rfl
      rw [e] at q
      refine q_asg ev_c fun H2 e2 => ?_
      have e12 := e1.trans e2
      refine q_forLn (xs := l.map nI) (a := p) (ev_var rfl) (sq_of (e12 _ _ h1))
        (fun i σ H' => Ex H H' ∧ ∃ (c : Nat) (v : Option V), σ = [some (.ref p), some (nI k), some (nI n), some (nI c), v] ∧ WD.upFrom n 0 l = WD.upFrom n c (l.drop i))
        (fun H3 e3 => ⟨e12.trans e3, 0, none, rfl, rfl⟩) (fun i σ H' _ hh => sq_of (hh.1 _ _ h1)) ?_ ?_
      · rintro i x σ H' hx ⟨e3, c, v, rfl, hu⟩
        obtain ⟨y, hy, rfl⟩ := map_at hx
        obtain ⟨hi, ey⟩ := List.getElem?_eq_some_iff.mp hy
        have hd : l.drop i = y :: l.drop (i + 1) := by rw [List.drop_eq_getElem_cons hi, ey]
        rw [hd] at hu
        have hu' : WD.upFrom n 0 l = (decide (c ≤ y) && (decide (y < n) && WD.upFrom n (y + 1) (l.drop (i + 1)))) := hu
        refine q_when (b := decide ((y : Int) < c) || decide ((n : Int) ≤ y)) (et_or (et_test (ev_op (ev_var rfl) (ev_var rfl) rv_I0)) fun _ => et_test (ev_op (ev_var rfl) (ev_var rfl) rv_I0)) (fun hb H3 e4 => ?_) (fun hb H3 e4 => ?_)
        · refine s_ret ev_c fun H4 e5 => ?_
          rw [Bool.or_eq_true, decide_eq_true_eq, decide_eq_true_eq] at hb
          have ef : WD.upFrom n 0 l = false := by
            rw [hu']
            rcases hb with hb | hb
            · rw [decide_eq_false (by omega : ¬ c ≤ y)]
              rfl
            · rw [decide_eq_false (by omega : ¬ y < n)]
              cases decide (c ≤ y) <;> rfl
          rw [ef] at q
          exact q _ ((e3.trans e4).trans e5)
        · rw [Bool.or_eq_false_iff, decide_eq_false_iff_not, decide_eq_false_iff_not] at hb
          refine s_asg (v := nI (y + 1)) (ev_op (ev_var rfl) ev_c rv_I0) fun H4 e5 => ⟨(e3.trans e4).trans e5, y + 1, _, rfl, ?_⟩
          rw [hu', decide_eq_true (by omega : c ≤ y), decide_eq_true (by omega : y < n)]
          rfl
      · rintro σ H' ⟨e3, c, v, rfl, hu⟩
        rw [List.length_map, List.drop_length] at hu
        have hu' : WD.upFrom n 0 l = true := hu
        rw [hu'] at q
        exact s_ret ev_c fun H4 e5 => q _ (e3.trans e5)

end WP
end
section
namespace WP
open PySem PySem.Spec PyProof.Rows L2 Evl WM
variable {P : Program} {w : World} {K : PySem.W.Frag} {mg : Str → Option Value} {base : Heap} {C aR aP : Addr}
/-! ### rising_rows -/
def New (H : Hp) (x : Addr) : Prop := H x = none
def spRising : Sp := fun vs H Q _ => ∃ (n k : Nat), vs = [nI n, nI k] ∧ 1 ≤ n ∧ n ≤ 1000 ∧ k ≤ 100 ∧ n ^ k ≤ 1000000 ∧ ∀ p H', H p = none → Ex H H' → RowsAt (New H) H' p (WD.rising n k) → Q (.ref p) H'
theorem lt_size {n : Nat} (h : n ≤ 10000000) : n < sizeLine := Nat.lt_of_le_of_lt h (by decide)
theorem take_more {α : Type} {l : List α} {i : Nat} {x : α} (h : l[i]? = some x) : l.take (i + 1) = l.take i ++ [x] := by
  rw [List.take_succ, h]
  rfl
theorem ext_take {n : Nat} (r : List Nat) (m : Nat) (x : Nat) (hm : WD.startOf r + m < n) (hx : x = WD.startOf r + m) : (WD.ext n r).take (m + 1) = (WD.ext n r).take m ++ [r ++ [x]] := by
  apply take_more
  unfold WD.ext
  rw [List.getElem?_map, List.getElem?_range' (by omega), hx]
  simp
theorem ext_len (n : Nat) (r : List Nat) : (WD.ext n r).length = n - WD.startOf r := by
  unfold WD.ext
  rw [List.length_map, List.length_range']
theorem startOf_lt {n k : Nat} {r : List Nat} (h : r ∈ WD.rising n k) : WD.startOf r ≤ n := by
  unfold WD.startOf
  cases e : r.getLast? with
  | none => exact Nat.zero_le _
  | some x =>
    have hx : x ∈ r := List.mem_of_getLast? e
    have := WD.rising_lt h x hx
    show x + 1 ≤ n
    omega
theorem flat_take {α β : Type} (f : α → List β) {l : List α} {j : Nat} {x : α} (h : l[j]? = some x) : (l.take (j + 1)).flatMap f = (l.take j).flatMap f ++ f x := by
  obtain ⟨hj, e⟩ := List.getElem?_eq_some_iff.mp h
  rw [List.take_succ_eq_append_getElem hj, List.flatMap_append, e]
  simp
theorem et_truL {σ : L2.St} {H : Hp} {ta : TE} {a : Addr} {xs : List V} (ha : Ev ta σ H (.ref a)) (h : SqL K H a xs) : EvT (fun σ H Q => ta σ H fun x H' => ∃ k, TruV K x H' k ∧ Q k H') σ H (!xs.isEmpty) :=
  fun H1 e Q q => ha H1 e _ fun H2 e2 => ⟨!xs.isEmpty, .inl ⟨xs, ex_l (e.trans e2) h, rfl⟩, q H2 e2⟩
theorem sc_rising_rows : FnScope ["n", "size", "rows", "length", "longer", "row", "start", "number"] ["n", "size"] (defScope s_rising_rows) := ⟨rfl, rfl, rfl, by decide +kernel, rfl, by decide +kernel, by decide +kernel⟩
theorem ok_rising_rows (D : DefAt K mg "rising_rows" s_rising_rows ["n", "size"]) (T : Txt K mg C aR aP) : GoodD P w K mg base 1 "rising_rows" ["n", "size"] spRising := by
  refine D.ok (N := ["n", "size", "rows", "length", "longer", "row", "start", "number"]) (k := 0) sc_rising_rows (fun vs H Q E h => ?_) (fun f cdv A outer s H vs Q E hr h => ⟨_, (pss_cons (ps_set (i := 2) sc_rising_rows.nd rfl (Or.inl rfl) (pe_lst (pa_cons (pe_lst pa_nil) pa_nil)))
      (pss_cons (ps_for PassesOwn.never rfl (pi_range1 (by rfl) T.m_range (pa_cons (pv 1) pa_nil)) (pg_name (i := 3) sc_rising_rows.nd rfl (Or.inl rfl)) (pss_cons (ps_set (i := 4) sc_rising_rows.nd rfl (Or.inl rfl) (pe_lst pa_nil))
      (pss_cons (ps_for PassesOwn.never rfl (pi_list (pv 2)) (pg_name (i := 5) sc_rising_rows.nd rfl (Or.inl rfl)) (pss_cons (ps_set (i := 6) sc_rising_rows.nd rfl (Or.inl rfl) (pe_ifExp (pt_truth (pv 5) (by intro _; rfl)) (pe_op op_add (pe_ix ix_list (pv 5) (pe_un un_neg pe_int) (fun _ _ => rfl)) pe_int) pe_int))
      (pss_one (ps_for PassesOwn.never rfl (pi_range2 (by rfl) T.m_range (pa_cons (pv 6) (pa_cons (pv 0) pa_nil))) (pg_name (i := 7) sc_rising_rows.nd rfl (Or.inl rfl)) (pss_one (ps_expr (pe_bm PySem.F.plainAttrs_list PySem.F.slot_list_append PySem.F.type_list_append mt_append (pv 4) (pa_cons (pe_op op_cat (pv 5) (pe_lst (pa_cons (pv 7) pa_nil))) pa_nil))))))))
      (pss_one (ps_set (i := 2) sc_rising_rows.nd rfl (Or.inl rfl) (pv 4))))))
      (pss_one (ps_ret (pv 2))))), ?_⟩)
  · obtain ⟨n, k, rfl, _⟩ := h
    rfl
  · obtain ⟨n, k, rfl, hn1, hn2, hk, hp, q⟩ := h
    -- rows = [[]]
    refine ⟨(by decide : 0 ≤ sizeLine), fun p0 np0 => ⟨(by decide : 1 ≤ sizeLine), fun l0 nl0 => ?_⟩⟩
    have e0 : Ex H (upd (upd H p0 (.lst [])) l0 (.lst [.ref p0])) := (Ex.new np0).trans (Ex.new nl0)
    have hpl : p0 ≠ l0 := ne_of_none upd_same nl0
    have hl0 : H l0 = none := fresh_back (Ex.new np0) nl0
    refine q_forR1 (ea_one (ev_var rfl)) ⟨by omega, by omega⟩
      (fun i σ H' => ∃ (l : Addr) (v3 v4 v5 v6 v7 : Option V), σ = [some (nI n), some (nI k), some (.ref l), v3, v4, v5, v6, v7] ∧ H l = none ∧ Ex H H' ∧ RowsAt (New H) H' l (WD.rising n i))
      (fun H1 e1 => ⟨l0, none, none, none, none, none, rfl, hl0, e0.trans e1, [.ref p0], hl0, e1 _ _ upd_same, .cons ⟨p0, rfl, np0, e1 _ _ (by rw [upd_ne hpl]; exact upd_same)⟩ .nil⟩) ?_ ?_
    · rintro i σ H1 hi ⟨l, v3, v4, v5, v6, v7, rfl, nl, e1, rows, _, hl, hrows⟩
      have hi' : i < k := by
        have : (i : Int) < (k : Int) := hi
        omega
      have hpow : n ^ (i + 1) ≤ 1000000 := Nat.le_trans (Nat.pow_le_pow_right hn1 hi') hp
      have hpl := Paired.length hrows
      -- longer = []
      refine q_asgL (el_lst (vs := []) ea_nil (by decide)) fun g H2 ng e2 hg => ?_
      have nlg : l ≠ g := ne_of_none hl ng
      refine q_forLn (a := l) (xs := rows) (ev_var rfl) (sq_of (e2 _ _ hl))
        (fun j σ H' => ∃ (v5 v6 v7 : Option V) (acc : List V), σ = [some (nI n), some (nI k), some (.ref l), some (.int (i : Int)), some (.ref g), v5, v6, v7] ∧ Ex H1 H' ∧ H' g = some (.lst acc) ∧ Paired (RowAt (fun x => H x = none ∧ x ≠ g) H') acc (((WD.rising n i).take j).flatMap (WD.ext n)))
        (fun H3 e3 => ⟨v5, v6, v7, [], rfl, e2.trans e3, e3 _ _ hg, .nil⟩) (fun j σ H' _ hh => ?_) ?_ ?_
      · obtain ⟨_, _, _, _, _, ex, _, _⟩ := hh
        exact sq_of (ex _ _ hl)
      · rintro j x σ H3 hx ⟨v5, v6, v7, acc, rfl, e3, hacc, hpair⟩
        obtain ⟨r, hr, p, rfl, np, hp⟩ := paired_get hrows hx
        have hmem : r ∈ WD.rising n i := List.mem_of_getElem? hr
        have hst := startOf_lt hmem
        have hjl : j < (WD.rising n i).length := (List.getElem?_eq_some_iff.mp hr).1
        have hcount := WD.rising_count n i
        -- start
        refine q_asg (v := nI (WD.startOf r)) ?_ fun H4 e4 => ?_
        · have hs : SqL K H3 p (r.map nI) := sq_of (e3 _ _ hp)
          have hti := et_truL (K := K) (σ := [some (nI n), some (nI k), some (.ref l), some (.int (i : Int)), some (.ref g), some (V.ref p), v6, v7]) (ta := tVar 5) (ev_var rfl) hs
          rcases List.eq_nil_or_concat r with rfl | ⟨r, y, rfl⟩
          · exact ev_if hti (fun hb => nomatch hb) fun _ => ev_c
          · rw [List.concat_eq_append] at hs hti ⊢
            rw [WD.startOf_snoc]
            refine ev_if hti (fun _ => ?_) (fun hb => ?_)
            · refine ev_op (ev_op (ev_var rfl) (ev_un ev_c ru_neg) (rv_ixL hs (v := nI y) ?_)) ev_c rv_I0
              rw [List.map_append]
              exact atI_last _ _
            · rw [List.map_append] at hb
              simp at hb
        · -- for number in range(start, n)
          have e34 := e3.trans e4
          have hlen2 : ((WD.rising n i).take j).length = j := by rw [List.length_take]; omega
          have hfl := WD.flat_count n ((WD.rising n i).take j)
          rw [hlen2] at hfl
          have hmul : (j + 1) * n ≤ n ^ (i + 1) := by
            rw [Nat.pow_succ]
            exact Nat.mul_le_mul_right n (by omega)
          have hmul2 : (j + 1) * n = j * n + n := Nat.succ_mul j n
          refine s_forR2 (ea_cons (ev_var rfl) (ea_one (ev_var rfl))) ⟨by omega, by omega, by omega, by omega⟩
            (fun m σ H' => ∃ (v7 : Option V) (acc : List V), σ = [some (nI n), some (nI k), some (.ref l), some (.int (i : Int)), some (.ref g), some (.ref p), some (nI (WD.startOf r)), v7] ∧ Ex H1 H' ∧ H' g = some (.lst acc) ∧ Paired (RowAt (fun x => H x = none ∧ x ≠ g) H') acc (((WD.rising n i).take j).flatMap (WD.ext n) ++ (WD.ext n r).take m))
            (fun H5 e5 => ⟨v7, acc, rfl, e34.trans e5, (e4.trans e5) _ _ hacc, by
              rw [List.take_zero, List.append_nil]
              exact paired_mono (fun v r h => h.ex (e4.trans e5)) hpair⟩) ?_ ?_
          · rintro m σ H5 hm ⟨v7, acc, rfl, e5, hacc, hpair⟩
            have hm' : WD.startOf r + m < n := by omega
            have hal := Paired.length hpair
            rw [List.length_append, List.length_take] at hal
            have hpg : p ≠ g := ne_of_none hp ng
            refine s_appendL (xs := acc) (ys := (r ++ [WD.startOf r + m]).map nI) hacc (ev_var rfl) ?_ (lt_size (by omega)) fun p' H6 np' e6 hp' => ?_
            · rw [List.map_append]
              refine el_catW (b := p) (ev_var rfl) (e5 _ _ hp) (el_lst (vs := [nI (WD.startOf r + m)]) (ea_one (ev_var rfl)) (by show 1 ≤ 100000; decide)) ?_
              have hrl := WD.rising_len hmem
              show (r.map nI).length + 1 ≤ _
              rw [List.length_map, hrl]
              exact Nat.le_trans (by omega : i + 1 ≤ 1000) (by decide)
            · have hp'g : p' ≠ g := fun e => by
                rw [e, hacc] at np'
                cases np'
              have hx6 : H p' = none := fresh_back (e1.trans e5) np'
              refine ⟨_, acc ++ [.ref p'], rfl, Ex.mut (e5.trans e6) ng, upd_same, ?_⟩
              rw [ext_take r m _ hm' rfl, ← List.append_assoc]
              refine paired_snoc ⟨p', rfl, ⟨hx6, hp'g⟩, by rw [upd_ne hp'g]; exact hp'⟩ (paired_mono (fun v r ⟨p, a, b, c⟩ => ⟨p, a, b, by rw [upd_ne b.2]; exact e6 _ _ c⟩) hpair)
          · rintro σ H5 ⟨v7, acc, rfl, e5, hacc, hpair⟩
            refine ⟨_, _, _, acc, rfl, e5, hacc, ?_⟩
            rw [flat_take (WD.ext n) hr]
            have e : (WD.ext n r).take ((n : Int) - (WD.startOf r : Int)).toNat = WD.ext n r := List.take_of_length_le (by rw [ext_len]; omega)
            rw [e] at hpair
            exact hpair
      · rintro σ H3 ⟨v5, v6, v7, acc, rfl, e3, hacc, hpair⟩
        refine s_asg (v := .ref g) (ev_var rfl) fun H4 e4 => ⟨g, _, _, _, _, _, rfl, fresh_back e1 ng, (e1.trans e3).trans e4, acc, fresh_back e1 ng, e4 _ _ hacc, ?_⟩
        rw [hpl, List.take_length] at hpair
        exact paired_mono (fun v r ⟨p, a, b, c⟩ => ⟨p, a, b.1, e4 _ _ c⟩) hpair
    · rintro σ H1 ⟨l, v3, v4, v5, v6, v7, rfl, nl, e1, hrows⟩
      exact s_ret (v := .ref l) (ev_var rfl) fun H2 e2 => q l H2 nl (e1.trans e2) (hrows.ex e2)

end WP
end
section
namespace WP
open PySem PySem.Spec PyProof.Rows L2 Evl WM
variable {P : Program} {w : World} {K : PySem.W.Frag} {mg : Str → Option Value} {base : Heap} {C aR aP : Addr}
/-! ### whole numbers that are not negative -/
theorem and_nat (a b : Nat) : Builtin.bitAnd (a : Int) (b : Int) = ((a &&& b : Nat) : Int) := by
  rw [bitAnd_pp (Int.natCast_nonneg _) (Int.natCast_nonneg _), Int.toNat_natCast, Int.toNat_natCast]
theorem or_nat (a b : Nat) : Builtin.bitOr (a : Int) (b : Int) = ((a ||| b : Nat) : Int) := by
  rw [Bits.bitOr_pp (Int.natCast_nonneg _) (Int.natCast_nonneg _), Int.toNat_natCast, Int.toNat_natCast]
theorem xor_nat (a b : Nat) : Builtin.bitXor (a : Int) (b : Int) = ((a ^^^ b : Nat) : Int) := by
  rw [Bits.bitXor_pp (Int.natCast_nonneg _) (Int.natCast_nonneg _), Int.toNat_natCast, Int.toNat_natCast]
theorem fmod_nat (a b : Nat) : Int.fmod (a : Int) (b : Int) = ((a % b : Nat) : Int) := by
  rw [Int.fmod_eq_emod_of_nonneg _ (Int.natCast_nonneg _), Int.natCast_emod]
theorem fdiv_nat (a b : Nat) : Int.fdiv (a : Int) (b : Int) = ((a / b : Nat) : Int) := by
  rw [Int.fdiv_eq_ediv_of_nonneg _ (Int.natCast_nonneg _), Int.natCast_ediv]
section
variable {σ : L2.St} {H : Hp} {ta tb : TE} {a b : Nat}
theorem ev_and (ha : Ev ta σ H (nI a)) (hb : Ev tb σ H (nI b)) : Ev (tOp (rI0 fun i j => .int (Builtin.bitAnd i j)) ta tb) σ H (nI (a &&& b)) := ev_is (ev_op ha hb rv_I0) (congrArg V.int (and_nat a b))
theorem ev_or (ha : Ev ta σ H (nI a)) (hb : Ev tb σ H (nI b)) : Ev (tOp (rI0 fun i j => .int (Builtin.bitOr i j)) ta tb) σ H (nI (a ||| b)) := ev_is (ev_op ha hb rv_I0) (congrArg V.int (or_nat a b))
theorem ev_xor (ha : Ev ta σ H (nI a)) (hb : Ev tb σ H (nI b)) : Ev (tOp (rI0 fun i j => .int (Builtin.bitXor i j)) ta tb) σ H (nI (a ^^^ b)) := ev_is (ev_op ha hb rv_I0) (congrArg V.int (xor_nat a b))
theorem ev_mod (ha : Ev ta σ H (nI a)) (hb : Ev tb σ H (nI b)) (h : b ≠ 0) : Ev (tOp (rI (fun _ j => j ≠ 0) fun i j => .int (i.fmod j)) ta tb) σ H (nI (a % b)) :=
  ev_is (ev_op ha hb (rv_I (by show (b : Int) ≠ 0; omega))) (congrArg V.int (fmod_nat a b))
theorem ev_fdiv (ha : Ev ta σ H (nI a)) (hb : Ev tb σ H (nI b)) (h : b ≠ 0) (h2 : b < 1073741824) : Ev (tOp (rI CDivN fun i j => .int (i.fdiv j)) ta tb) σ H (nI (a / b)) :=
  ev_is (ev_op ha hb (rv_I ⟨by show (b : Int) ≠ 0; omega, by omega⟩)) (congrArg V.int (fdiv_nat a b))
theorem ev_addN (ha : Ev ta σ H (nI a)) (hb : Ev tb σ H (nI b)) : Ev (tOp (rI0 fun i j => .int (i + j)) ta tb) σ H (nI (a + b)) := ev_op ha hb rv_I0
theorem ev_subN (ha : Ev ta σ H (nI a)) (hb : Ev tb σ H (nI b)) (h : b ≤ a) : Ev (tOp (rI0 fun i j => .int (i - j)) ta tb) σ H (nI (a - b)) := ev_is (ev_op ha hb rv_I0) (congrArg V.int (by omega))
end
/-! ### count_bits -/
def spBits : Sp := fun vs H Q _ => ∃ (x : Nat), vs = [nI x] ∧ RetV (nI (WD.pop x)) H Q
theorem spBits_go {x : Nat} {H : Hp} : SpV spBits [nI x] H (nI (WD.pop x)) := fun H1 e Q k _ => ⟨x, rfl, k⟩
theorem sc_count_bits : FnScope ["draws", "count"] ["draws"] (defScope s_count_bits) := ⟨rfl, rfl, rfl, by decide +kernel, rfl, by decide +kernel, by decide +kernel⟩
theorem ok_count_bits (D : DefAt K mg "count_bits" s_count_bits ["draws"]) : GoodD P w K mg base 1 "count_bits" ["draws"] spBits := by
  refine D.ok (N := ["draws", "count"]) (k := 0) sc_count_bits (fun vs H Q E h => ?_) (fun f cdv A outer s H vs Q E hr h => ⟨_, (pss_cons (ps_set (i := 1) sc_count_bits.nd rfl (Or.inl rfl) pe_int)
      (pss_cons (ps_while PassesOwn.never (pt_cmpR op_gt (pv 0) pe_int (nomark _)) (pss_cons (ps_set (i := 0) sc_count_bits.nd rfl (Or.inl rfl) (pe_op op_and (pv 0) (pe_op op_sub (pv 0) pe_int)))
      (pss_one (ps_set (i := 1) sc_count_bits.nd rfl (Or.inl rfl) (pe_op op_add (pv 1) pe_int)))))
      (pss_one (ps_ret (pv 1))))), ?_⟩)
  · obtain ⟨x, rfl, _⟩ := h
    rfl
  · obtain ⟨x, rfl, q⟩ := h
    refine q_asg (v := nI 0) ev_c fun H1 e1 => ?_
    refine q_while (fun m σ H' => ∃ c, σ = [some (nI m), some (nI c)] ∧ Ex H H' ∧ c + WD.pop m = WD.pop x) x ⟨0, rfl, e1, Nat.zero_add _⟩ ?_
    rintro m σ H2 ⟨c, rfl, e2, hc⟩
    refine ⟨decide ((0 : Int) < m), et_test (ev_op (ev_var rfl) ev_c rv_I0), fun hb H3 e3 => ?_, fun hb H3 e3 => ?_⟩
    · have hm : 0 < m := by
        have := of_decide_eq_true hb
        omega
      obtain ⟨h1, h2⟩ := WD.land_pred m hm
      refine ⟨fun σ2 H4 => σ2 = [some (nI (m &&& (m - 1))), some (nI (c + 1))] ∧ Ex H H4, fun σ2 H4 ⟨e, ex⟩ => ⟨_, h1, c + 1, e, ex, by omega⟩, ?_⟩
      refine q_asg (ev_and (ev_var rfl) (ev_subN (b := 1) (ev_var rfl) ev_c hm)) fun H4 e4 => ?_
      exact s_asg (ev_addN (b := 1) (ev_var rfl) ev_c) fun H5 e5 => ⟨rfl, ((e2.trans e3).trans e4).trans e5⟩
    · have hm : m = 0 := by
        have := of_decide_eq_false hb
        omega
      subst hm
      rw [WD.pop_zero] at hc
      have hc' : c = WD.pop x := hc
      rw [← hc'] at q
      exact s_ret (ev_var rfl) fun H4 e4 => q _ ((e2.trans e3).trans e4)
/-! ### draws_with -/
theorem for_enum {K : PySem.W.Frag} {a : Addr} {xs : List V} {g : TG} {tb : TS} {D : Ends} {σ : L2.St} {H : Hp} (Pv : Nat → L2.St → Hp → Prop) (h0 : Pv 0 σ H) (hl : ∀ i σ H, i ≤ xs.length → Pv i σ H → SqL K H a xs)
    (hs : ∀ i x T σ H, xs[i]? = some x → Pv i σ H → H T = none → g (.ref T) σ (upd H T (.tup [.int (i : Nat), x])) fun σ2 H2 => tb { D with nx := Pv (i + 1), ct := Pv (i + 1), bk := D.nx } σ2 H2) (hd : ∀ σ H, Pv xs.length σ H → D.nx σ H) :
    ∃ W : Nat → Nat → L2.St → Hp → Prop, (∃ m, W 0 m σ H) ∧ ∀ i m σ H, W i m σ H →
      ((Ite K a).stop i H ∧ D.nx σ H) ∨ ((Ite K a).go i H ∧ ∃ N : L2.St → Hp → Prop, (∀ σ' H', N σ' H' → ∃ m', m' < m ∧ W (i + 1) m' σ' H') ∧ ∀ x H', (Ite K a).yld i H x H' → g x σ H' fun σ2 H2 => tb { D with nx := N, ct := N, bk := D.nx } σ2 H2) := by
  refine ⟨fun i m σ H => m = xs.length - i ∧ i ≤ xs.length ∧ Pv i σ H, ⟨xs.length, by simp, Nat.zero_le _, h0⟩, ?_⟩
  rintro i m σ H ⟨rfl, hi, p⟩
  have q := hl i σ H hi p
  by_cases hlt : i < xs.length
  · refine .inr ⟨⟨xs, xs[i], q, by simp [hlt]⟩, Pv (i + 1), fun σ' H' p' => ⟨xs.length - (i + 1), by omega, rfl, hlt, p'⟩, fun v H' y => ?_⟩
    obtain ⟨T, x, rfl, hT, rfl, hx⟩ := y
    exact hs i x T σ H (hx xs q) p hT
  · have e : i = xs.length := by omega
    subst e
    exact .inl ⟨⟨xs, q, Nat.le_refl _⟩, hd σ H p⟩
def spWith : Sp := fun vs H Q _ => ∃ (i : Nat) (l : Addr) (F : Addr → Prop) (rows : List (List Nat)), vs = [nI i, .ref l] ∧ RowsAt F H l rows ∧ rows.length ≤ 100000 ∧ RetV (nI (WD.mask (fun d => d.contains i) rows)) H Q
theorem spWith_go {i : Nat} {l : Addr} {F : Addr → Prop} {rows : List (List Nat)} {H : Hp} (h : RowsAt F H l rows) (hl : rows.length ≤ 100000) : SpV spWith [nI i, .ref l] H (nI (WD.mask (fun d => d.contains i) rows)) :=
  fun H1 e Q k _ => ⟨i, l, F, rows, rfl, h.ex e, hl, k⟩
theorem sc_draws_with : FnScope ["number", "draws", "found", "place", "draw"] ["number", "draws"] (defScope s_draws_with) := ⟨rfl, rfl, rfl, by decide +kernel, rfl, by decide +kernel, by decide +kernel⟩
theorem ok_draws_with (D : DefAt K mg "draws_with" s_draws_with ["number", "draws"]) (T : Txt K mg C aR aP) : GoodD P w K mg base 1 "draws_with" ["number", "draws"] spWith := by
  refine D.ok (N := ["number", "draws", "found", "place", "draw"]) (k := 0) sc_draws_with (fun vs H Q E h => ?_) (fun f cdv A outer s H vs Q E hr h => ⟨_, (pss_cons (ps_set (i := 2) sc_draws_with.nd rfl (Or.inl rfl) pe_int)
      (pss_cons (ps_for PassesOwn.never rfl (pi_enum (by rfl) T.m_enumerate (pa_cons (pv 1) pa_nil)) (pg_tup rfl (pgs_cons (pg_name (i := 3) sc_draws_with.nd rfl (Or.inl rfl)) (pgs_cons (pg_name (i := 4) sc_draws_with.nd rfl (Or.inl rfl)) pgs_nil))) (pss_one (ps_if (pt_cmpR op_in_seq (pv 0) (pv 4) (by rfl)) (pss_one (ps_set (i := 2) sc_draws_with.nd rfl (Or.inl rfl) (pe_op op_or (pv 2) (pe_op op_shl pe_int (pv 3))))) pss_nil)))
      (pss_one (ps_ret (pv 2))))), ?_⟩)
  · obtain ⟨i, l, F, rows, rfl, _⟩ := h
    rfl
  · obtain ⟨i, l, F, rows, rfl, ⟨vs, fl, hl, hrows⟩, hlen, q⟩ := h
    have hvl := Paired.length hrows
    refine q_asg (v := nI 0) ev_c fun H1 e1 => ?_
    refine ⟨.ref l, rfl, l, vs, rfl, sq_of (e1 _ _ hl), ?_⟩
    refine for_enum (K := K) (a := l) (xs := vs) (fun j σ H' => ∃ v3 v4 : Option V, σ = [some (nI i), some (.ref l), some (nI (WD.mask (fun d => d.contains i) (rows.take j))), v3, v4] ∧ Ex H H') ⟨none, none, rfl, e1⟩
      (fun j σ H' _ hh => let ⟨_, _, _, ex⟩ := hh; sq_of (ex _ _ hl)) ?_ ?_
    · rintro j x U σ H2 hx ⟨v3, v4, rfl, e2⟩ hU
      obtain ⟨r, hr, p, rfl, fp, hp⟩ := paired_get hrows hx
      have hjl : j < rows.length := (List.getElem?_eq_some_iff.mp hr).1
      have e3 : Ex H (upd H2 U (.tup [.int (j : Nat), .ref p])) := e2.trans (Ex.new hU)
      refine ⟨U, _, rfl, SqT.of upd_same, rfl, _, _, rfl, _, _, rfl, rfl, ?_⟩
      have htl : (rows.take j).length = j := by rw [List.length_take]; omega
      have hm := WD.mask_snoc (P := fun d : List Nat => d.contains i) (rows.take j) r
      rw [← take_more hr, htl] at hm
      refine s_when (b := r.contains i) (et_test (ev_op (ev_var rfl) (ev_var rfl) ?_)) (fun hb H3 e4 => ?_) (fun hb H3 e4 => ?_)
      · rw [← inV_nI]
        exact rv_isL (sq_of (e3 _ _ hp)) rfl (flat_nI r)
      · refine s_asg (ev_or (b := 2 ^ j) (ev_var rfl) ?_) fun H4 e5 => ⟨some (.int (j : Int)), some (.ref p), ?_, (e3.trans e4).trans e5⟩
        · refine ev_is (ev_op ev_c (ev_var rfl) (rv_I (i := 1) (j := (j : Int)) ⟨by omega, by omega, by decide⟩)) ?_
          show V.int (1 * 2 ^ ((j : Int)).toNat) = V.int ((2 ^ j : Nat) : Int)
          rw [Int.toNat_natCast, Int.one_mul, Int.natCast_pow]
          rfl
        · rw [hm, hb]
          rfl
      · refine ⟨some (.int (j : Int)), some (.ref p), ?_, e3.trans e4⟩
        rw [hm, hb]
        show _ = [some (nI i), some (V.ref l), some (nI (WD.mask (fun d => d.contains i) (rows.take j) ||| 0)), some (V.int (j : Int)), some (V.ref p)]
        rw [Nat.or_zero]
        rfl
    · rintro σ H2 ⟨v3, v4, rfl, e2⟩
      rw [hvl, List.take_length]
      exact s_ret (ev_var rfl) fun H3 e3 => q _ (e2.trans e3)
/-! ### lowest_terms -/
def spLow : Sp := fun vs H Q _ => ∃ (a b : Nat), vs = [nI a, nI b] ∧ 0 < b ∧ b < 1073741824 ∧ RetL [nI (a / Nat.gcd a b), nI (b / Nat.gcd a b)] H Q
theorem spLow_go {a b : Nat} {H : Hp} (h : 0 < b) (h2 : b < 1073741824) : SpL spLow [nI a, nI b] H [nI (a / Nat.gcd a b), nI (b / Nat.gcd a b)] := fun H1 e Q k _ => ⟨a, b, rfl, h, h2, k⟩
theorem sc_lowest_terms : FnScope ["above", "below", "divisor", "rest", "smaller"] ["above", "below"] (defScope s_lowest_terms) := ⟨rfl, rfl, rfl, by decide +kernel, rfl, by decide +kernel, by decide +kernel⟩
theorem ok_lowest_terms (D : DefAt K mg "lowest_terms" s_lowest_terms ["above", "below"]) : GoodD P w K mg base 1 "lowest_terms" ["above", "below"] spLow := by
  refine D.ok (N := ["above", "below", "divisor", "rest", "smaller"]) (k := 0) sc_lowest_terms (fun vs H Q E h => ?_) (fun f cdv A outer s H vs Q E hr h => ⟨_, (pss_cons (ps_set (i := 2) sc_lowest_terms.nd rfl (Or.inl rfl) (pv 1))
      (pss_cons (ps_set (i := 3) sc_lowest_terms.nd rfl (Or.inl rfl) (pv 0))
      (pss_cons (ps_while PassesOwn.never (pt_cmpR op_gt (pv 3) pe_int (nomark _)) (pss_cons (ps_set (i := 4) sc_lowest_terms.nd rfl (Or.inl rfl) (pe_op op_modN (pv 2) (pv 3)))
      (pss_cons (ps_set (i := 2) sc_lowest_terms.nd rfl (Or.inl rfl) (pv 3))
      (pss_one (ps_set (i := 3) sc_lowest_terms.nd rfl (Or.inl rfl) (pv 4))))))
      (pss_one (ps_ret (pe_lst (pa_cons (pe_op op_fdivN (pv 0) (pv 2)) (pa_cons (pe_op op_fdivN (pv 1) (pv 2)) pa_nil)))))))), ?_⟩)
  · obtain ⟨a, b, rfl, _⟩ := h
    rfl
  · obtain ⟨a, b, rfl, hb, hb2, q⟩ := h
    refine q_asg (ev_var rfl) fun H1 e1 => ?_
    refine q_asg (ev_var rfl) fun H2 e2 => ?_
    refine q_while (fun m σ H' => ∃ (d : Nat) (v : Option V), σ = [some (nI a), some (nI b), some (nI d), some (nI m), v] ∧ Ex H H' ∧ 0 < d ∧ Nat.gcd m d = Nat.gcd a b) a ⟨b, none, rfl, e1.trans e2, hb, rfl⟩ ?_
    rintro m σ H3 ⟨d, v, rfl, e3, hd, hg⟩
    refine ⟨decide ((0 : Int) < m), et_test (ev_op (ev_var rfl) ev_c rv_I0), fun hc H4 e4 => ?_, fun hc H4 e4 => ?_⟩
    · have hm : 0 < m := by
        have := of_decide_eq_true hc
        omega
      refine ⟨fun σ2 H5 => σ2 = [some (nI a), some (nI b), some (nI m), some (nI (d % m)), some (nI (d % m))] ∧ Ex H H5, fun σ2 H5 ⟨e, ex⟩ => ⟨d % m, Nat.mod_lt _ hm, m, _, e, ex, hm, by rw [← hg, Nat.gcd_rec m d]⟩, ?_⟩
      refine q_asg (ev_mod (ev_var rfl) (ev_var rfl) (by omega)) fun H5 e5 => ?_
      refine q_asg (v := nI m) (ev_var rfl) fun H6 e6 => ?_
      exact s_asg (v := nI (d % m)) (ev_var rfl) fun H7 e7 => ⟨rfl, (((e3.trans e4).trans e5).trans e6).trans e7⟩
    · have hm : m = 0 := by
        have := of_decide_eq_false hc
        omega
      subst hm
      rw [Nat.gcd_zero_left] at hg
      have hdb : d ≤ b := by
        rw [hg]
        exact Nat.le_of_dvd hb (Nat.gcd_dvd_right a b)
      rw [← hg] at q
      exact s_retL (el_lst (ea_cons (ev_fdiv (a := a) (b := d) (ev_var rfl) (ev_var rfl) (by omega) (by omega)) (ea_one (ev_fdiv (a := b) (b := d) (ev_var rfl) (ev_var rfl) (by omega) (by omega)))) (by show 2 ≤ 100000; decide)) fun p H5 hp e5 h5 => q p H5 (fresh_back (e3.trans e4) hp) ((e3.trans e4).trans e5) h5

end WP
end
section
namespace WP
open PySem PySem.Spec PyProof.Rows L2 Evl WM
variable {P : Program} {w : World} {K : PySem.W.Frag} {mg : Str → Option Value} {base : Heap} {C aR aP : Addr}
section
variable {σ : L2.St} {H : Hp} {ta tv : TE} {a dx : Addr} {fs : List (Str × V)} {f : Str} {y : V} {D : Ends} {tz : TS}
theorem q_fld (hv : Ev tv σ H y) (ha : Ev ta σ H (.ref a)) (hw : H a = some (.ins C dx fs)) (c : Cls K C) (n : NoAttr K C f) (hl : fs.length < 1000) (k : ∀ H1, Ex H H1 → tz D σ (upd H1 a (.ins C dx (putF f y fs)))) :
    tSeq (sFld K ta tv f) tz D σ H := hv H (Ex.refl H) _ fun H1 e1 => ha H1 e1 _ fun H2 e2 => ⟨a, C, dx, fs, rfl, (e1.trans e2) _ _ hw, c, n, hl, k H2 (e1.trans e2)⟩
theorem s_fldE (hv : Ev tv σ H y) (ha : Ev ta σ H (.ref a)) (hw : H a = some (.ins C dx fs)) (c : Cls K C) (n : NoAttr K C f) (hl : fs.length < 1000) (k : ∀ H1, Ex H H1 → D.nx σ (upd H1 a (.ins C dx (putF f y fs)))) :
    sFld K ta tv f D σ H := hv H (Ex.refl H) _ fun H1 e1 => ha H1 e1 _ fun H2 e2 => ⟨a, C, dx, fs, rfl, (e1.trans e2) _ _ hw, c, n, hl, k H2 (e1.trans e2)⟩
theorem q_fldL {xs : List V} (hv : EvL tv σ H xs) (ha : Ev ta σ H (.ref a)) (hw : H a = some (.ins C dx fs)) (c : Cls K C) (n : NoAttr K C f) (hl : fs.length < 1000) (k : ∀ p H1, H p = none → Ex H H1 → H1 p = some (.lst xs) → tz D σ (upd H1 a (.ins C dx (putF f (.ref p) fs)))) :
    tSeq (sFld K ta tv f) tz D σ H := hv H (Ex.refl H) _ fun p H1 hp e1 h1 => ha H1 e1 _ fun H2 e2 => ⟨a, C, dx, fs, rfl, (e1.trans e2) _ _ hw, c, n, hl, k p H2 hp (e1.trans e2) (e2 _ _ h1)⟩
theorem s_fldLE {xs : List V} (hv : EvL tv σ H xs) (ha : Ev ta σ H (.ref a)) (hw : H a = some (.ins C dx fs)) (c : Cls K C) (n : NoAttr K C f) (hl : fs.length < 1000) (k : ∀ p H1, H p = none → Ex H H1 → H1 p = some (.lst xs) → D.nx σ (upd H1 a (.ins C dx (putF f (.ref p) fs)))) :
    sFld K ta tv f D σ H := hv H (Ex.refl H) _ fun p H1 hp e1 h1 => ha H1 e1 _ fun H2 e2 => ⟨a, C, dx, fs, rfl, (e1.trans e2) _ _ hw, c, n, hl, k p H2 hp (e1.trans e2) (e2 _ _ h1)⟩
end
theorem few (r : WR) : (wF r).length < 1000 := by show 9 < 1000; decide
/-! ### is_wanted -/
def wanted (s : Mu24.State) (m : Nat) : Bool := decide (1 ≤ m) && decide (m ≤ s.k)
def spWanted (C : Addr) : Sp := fun vs H Q _ => ∃ (a : Addr) (F : Addr → Prop) (r : WR) (s : Mu24.State) (m : Nat), vs = [.ref a, nI m] ∧ WSt C F H a r s ∧ RetV (.bl (wanted s m)) H Q
theorem spWanted_go {a : Addr} {F : Addr → Prop} {r : WR} {s : Mu24.State} {m : Nat} {H : Hp} (h : WSt C F H a r s) : SpV (spWanted C) [.ref a, nI m] H (.bl (wanted s m)) := fun H1 e Q k _ => ⟨a, F, r, s, m, rfl, h.ex e, k⟩
theorem sc_is_wanted : FnScope ["self", "m"] ["self", "m"] (defScope s_is_wanted) := ⟨rfl, rfl, rfl, by decide +kernel, rfl, by decide +kernel, by decide +kernel⟩
theorem ok_is_wanted (D : MethAt K C "is_wanted" "Wheel.is_wanted" s_is_wanted ["self", "m"]) (T : Txt K mg C aR aP) : GoodM P w K mg base C 1 "is_wanted" ["self", "m"] (spWanted C) := by
  refine D.ok (N := ["self", "m"]) (k := 0) sc_is_wanted (fun vs H Q E h => ?_) (fun f cdv A outer s H vs Q E hr h => ⟨_, (pss_one (ps_ret (pe_and (pe_cmpR op_le pe_int (pv 1) (nomark _)) (pe_one (pe_cmpR op_le (pv 1) (pe_fld (pv 0) rfl) (nomark _)))))), ?_⟩)
  · obtain ⟨a, F, r, s, m, rfl, _⟩ := h
    rfl
  · obtain ⟨a, F, r, s, m, rfl, ws, q⟩ := h
    obtain ⟨dx, hw⟩ := ws.rc
    refine s_ret ?_ q
    refine ev_is (ev_andV (a := decide ((1 : Int) ≤ m)) (b := decide ((m : Int) ≤ r.k)) (ev_op ev_c (ev_var rfl) rv_I0) fun _ => ev_op (ev_var rfl) (ev_fld (ev_var rfl) hw T.cl T.a_k (l_k r)) rv_I0) ?_
    rw [ws.ek]
    congr 1
    unfold wanted
    congr 1
    · exact decide_eq_decide.mpr (by omega)
    · exact decide_eq_decide.mpr (by omega)
/-! ### covered_by -/
def reach (tk : List Nat) (m : Nat) (ds : List (List Nat)) : List Nat := (List.range (m + 1)).map fun j => WD.mask (WD.hitM tk j) ds
def midL (tk : List Nat) (x m : Nat) (ds : List (List Nat)) (j : Nat) : List Nat := (List.range (m + 1)).map fun q => if m < q + j then WD.mask (WD.hitM (tk ++ [x]) q) ds else WD.mask (WD.hitM tk q) ds
theorem mid_zero (tk : List Nat) (x m : Nat) (ds : List (List Nat)) : midL tk x m ds 0 = reach tk m ds := by
  unfold midL reach
  apply List.map_congr_left
  intro q hq
  rw [List.mem_range] at hq
  rw [if_neg (by omega)]
theorem mid_end (tk : List Nat) (x m : Nat) (ds : List (List Nat)) : midL tk x m ds m = reach (tk ++ [x]) m ds := by
  unfold midL reach
  apply List.map_congr_left
  intro q hq
  cases q with
  | zero =>
    rw [if_neg (by omega), WD.hit_zero, WD.hit_zero]
  | succ q => rw [if_pos (by omega)]
theorem mid_at {tk : List Nat} {x m : Nat} {ds : List (List Nat)} {j q : Nat} (hq : q ≤ m) : (midL tk x m ds j)[q]? = some (if m < q + j then WD.mask (WD.hitM (tk ++ [x]) q) ds else WD.mask (WD.hitM tk q) ds) := by
  unfold midL
  rw [List.getElem?_map, List.getElem?_range (by omega)]
  rfl
theorem mid_len (tk : List Nat) (x m : Nat) (ds : List (List Nat)) (j : Nat) : (midL tk x m ds j).length = m + 1 := by
  unfold midL
  rw [List.length_map, List.length_range]
theorem mid_set {tk : List Nat} {x m : Nat} {ds : List (List Nat)} {j : Nat} (hj : j < m) :
    (midL tk x m ds j).set (m - j) (WD.mask (WD.hitM tk (m - j)) ds ||| (WD.mask (WD.hitM tk (m - j - 1)) ds &&& WD.mask (fun d => d.contains x) ds)) = midL tk x m ds (j + 1) := by
  obtain ⟨r, hr⟩ : ∃ r, m - j = r + 1 := ⟨m - j - 1, by omega⟩
  rw [hr]
  have e : r + 1 - 1 = r := by omega
  rw [e, ← WD.hit_snoc]
  apply List.ext_getElem?
  intro q
  rw [List.getElem?_set, mid_len]
  by_cases hq : q ≤ m
  · rw [mid_at hq, mid_at hq]
    by_cases h : r + 1 = q
    · subst h
      rw [if_pos rfl, if_pos (by omega), if_pos (by omega)]
    · rw [if_neg h]
      congr 1
      by_cases h2 : m < q + j
      · rw [if_pos h2, if_pos (by omega)]
      · rw [if_neg h2, if_neg (by omega)]
  · have e1 : (midL tk x m ds j)[q]? = none := List.getElem?_eq_none (by rw [mid_len]; omega)
    have e2 : (midL tk x m ds (j + 1))[q]? = none := List.getElem?_eq_none (by rw [mid_len]; omega)
    rw [e1, e2, if_neg (by omega)]
theorem s_forDown {σ : L2.St} {H : Hp} {D : Ends} {tu : TS} {ta : TA} {j m : Nat} (h : EvA ta σ H [nI m, .int 0, .int (-1)]) (hm : m ≤ 100000) (Pv : Nat → L2.St → Hp → Prop) (h0 : ∀ H1, Ex H H1 → Pv 0 σ H1)
    (hs : ∀ (i : Nat) σ' H', i < m → Pv i σ' H' → tu { D with nx := Pv (i + 1), ct := Pv (i + 1), bk := D.nx } (σ'.set j (some (nI (m - i)))) H') (hd : ∀ σ' H', Pv m σ' H' → D.nx σ' H') : tFor (iRng3 ta) (gName j) tu D σ H :=
  h H (Ex.refl H) _ fun H1 e => ⟨(m : Int), 0, -1, ((m : Int) - 0).toNat, rfl, RgC.neg (by omega) (by omega) (by omega) (by omega), for_rangeC (lo := (m : Int)) (c := -1) (n := ((m : Int) - 0).toNat) Pv (h0 H1 e) (fun i σ' H' hi p => by
    have hi' : i < m := by omega
    have e0 : (m : Int) + (i : Nat) * (-1) = ((m - i : Nat) : Int) := by omega
    show tu { D with nx := Pv (i + 1), ct := Pv (i + 1), bk := D.nx } (σ'.set j (some (.int ((m : Int) + (i : Nat) * (-1))))) H'
    rw [e0]
    exact hs i σ' H' hi' p) (fun σ' H' p => hd σ' H' (by
      have e : ((m : Int) - 0).toNat = m := by omega
      rw [e] at p
      exact p))⟩
theorem el_rep {σ : L2.St} {H : Hp} {ta tb : TE} {v : V} {m : Nat} (ha : EvL ta σ H [v]) (hb : Ev tb σ H (nI m)) (hm : m ≤ 100000) : EvL (tOp rRep ta tb) σ H (List.replicate m v) := fun H1 e Q q =>
  ha H1 e _ fun p H2 hp e2 h2 => hb H2 (e.trans e2) _ fun H3 e3 => ⟨p, (m : Int), [v], rfl, rfl, e3 _ _ h2, by omega, by omega, by
    rw [Int.toNat_natCast]
    show 1 * m ≤ _
    rw [Nat.one_mul]
    exact Nat.le_trans hm (by decide), fun l hl => by
    rw [Int.toNat_natCast, List.flatten_replicate_singleton]
    exact q l _ (fresh_back (e2.trans e3) hl) ((e2.trans e3).trans (Ex.new hl)) upd_same⟩
theorem dw_at {s : Mu24.State} {x : Nat} (h : x < s.n) : ((dwL s).map nI)[x]? = some (nI (WD.mask (fun d => d.contains x) (Mu24.allDraws s))) := by
  unfold dwL
  rw [List.getElem?_map, List.getElem?_map, List.getElem?_range h]
  rfl
def spBy (C : Addr) : Sp := fun vs H Q _ => ∃ (a p : Addr) (F : Addr → Prop) (r : WR) (s : Mu24.State) (t : List Nat) (m : Nat), vs = [.ref a, .ref p, nI m] ∧ WSt C F H a r s ∧ H p = some (nL t) ∧ (∀ x ∈ t, x < s.n) ∧ m ≤ 100 ∧ RetV (nI (WD.mask (WD.hitM t m) (Mu24.allDraws s))) H Q
theorem spBy_go {a p : Addr} {F : Addr → Prop} {r : WR} {s : Mu24.State} {t : List Nat} {m : Nat} {H : Hp} (h : WSt C F H a r s) (hp : H p = some (nL t)) (ht : ∀ x ∈ t, x < s.n) (hm : m ≤ 100) :
    SpV (spBy C) [.ref a, .ref p, nI m] H (nI (WD.mask (WD.hitM t m) (Mu24.allDraws s))) := fun H1 e Q k _ => ⟨a, p, F, r, s, t, m, rfl, h.ex e, e _ _ hp, ht, hm, k⟩
theorem sc_covered_by : FnScope ["self", "ticket", "m", "reached", "number", "right"] ["self", "ticket", "m"] (defScope s_covered_by) := ⟨rfl, rfl, rfl, by decide +kernel, rfl, by decide +kernel, by decide +kernel⟩
theorem ok_covered_by (D : MethAt K C "covered_by" "Wheel.covered_by" s_covered_by ["self", "ticket", "m"]) (T : Txt K mg C aR aP) : GoodM P w K mg base C 1 "covered_by" ["self", "ticket", "m"] (spBy C) := by
  refine D.ok (N := ["self", "ticket", "m", "reached", "number", "right"]) (k := 0) sc_covered_by (fun vs H Q E h => ?_) (fun f cdv A outer s H vs Q E hr h => ⟨_, (pss_cons (ps_set (i := 3) sc_covered_by.nd rfl (Or.inl rfl) (pe_op op_cat (pe_lst (pa_cons (pe_fld (pv 0) rfl) pa_nil)) (pe_op op_rep (pe_lst (pa_cons pe_int pa_nil)) (pv 2))))
      (pss_cons (ps_for PassesOwn.never rfl (pi_list (pv 1)) (pg_name (i := 4) sc_covered_by.nd rfl (Or.inl rfl)) (pss_one (ps_for PassesOwn.never rfl (pi_range3 (by rfl) T.m_range (pa_cons (pv 2) (pa_cons pe_int (pa_cons (pe_un un_neg pe_int) pa_nil)))) (pg_name (i := 5) sc_covered_by.nd rfl (Or.inl rfl)) (pss_one (ps_asg (pe_op op_or (pe_ix ix_list (pv 3) (pv 5) (fun _ _ => rfl)) (pe_op op_and (pe_ix ix_list (pv 3) (pe_op op_sub (pv 5) pe_int) (fun _ _ => rfl)) (pe_ix ix_list (pe_fld (pv 0) rfl) (pv 4) (fun _ _ => rfl)))) (pg_sub (pv 3) (pv 5) set_list))))))
      (pss_one (ps_ret (pe_ix ix_list (pv 3) (pv 2) (fun _ _ => rfl)))))), ?_⟩)
  · obtain ⟨a, p, F, r, s, t, m, rfl, _⟩ := h
    rfl
  · obtain ⟨a, p, F, r, s, t, m, rfl, ws, hp, ht, hm, q⟩ := h
    obtain ⟨dx, hw⟩ := ws.rc
    have e0 : [nI (allD s)] ++ List.replicate m (nI 0) = (reach [] m (Mu24.allDraws s)).map nI := by
      apply List.ext_getElem?
      intro i
      unfold reach
      rw [List.getElem?_map, List.getElem?_map]
      cases i with
      | zero =>
        rw [List.getElem?_range (by omega)]
        show some (nI (allD s)) = some (nI (WD.mask (WD.hitM [] 0) (Mu24.allDraws s)))
        rw [WD.hit_zero]
        rfl
      | succ i =>
        show (List.replicate m (nI 0))[i]? = _
        rw [List.getElem?_replicate]
        by_cases h : i < m
        · rw [if_pos h, List.getElem?_range (by omega)]
          show some (nI 0) = some (nI (WD.mask (WD.hitM [] (i + 1)) (Mu24.allDraws s)))
          rw [WD.hit_nil]
        · rw [if_neg h, List.getElem?_eq_none (by rw [List.length_range]; omega)]
          rfl
    have hfl : Ev (tFld K (tVar 0) "all_draws") (start ["self", "ticket", "m", "reached", "number", "right"] [V.ref a, V.ref p, nI m]) H (nI (allD s)) := by
      have h := ev_fld (σ := start ["self", "ticket", "m", "reached", "number", "right"] [V.ref a, V.ref p, nI m]) (ta := tVar 0) (ev_var rfl) hw T.cl T.a_all_draws (l_all_draws r)
      rw [ws.ea] at h
      exact h
    have hrep : EvL (tOp rRep (tLst (tCons (tC (.int 0)) tNil)) (tVar 2)) (start ["self", "ticket", "m", "reached", "number", "right"] [V.ref a, V.ref p, nI m]) H (List.replicate m (nI 0)) :=
      el_rep (el_lst (vs := [nI 0]) (ea_one ev_c) (by show 1 ≤ 100000; decide)) (ev_var rfl) (by omega)
    refine q_asgL (xs := (reach [] m (Mu24.allDraws s)).map nI) (by
      rw [← e0]
      refine el_cat (el_lst (vs := [nI (allD s)]) (ea_one hfl) (by show 1 ≤ 100000; decide)) hrep ?_
      show 1 + (List.replicate m (nI 0)).length ≤ _
      rw [List.length_replicate]
      exact Nat.le_trans (by omega : 1 + m ≤ 1000) (by decide)) fun g H1 ng e1 hg => ?_
    refine q_forLn (a := p) (xs := t.map nI) (ev_var rfl) (sq_of (e1 _ _ hp))
      (fun i σ H' => ∃ v4 v5 : Option V, σ = [some (.ref a), some (.ref p), some (nI m), some (.ref g), v4, v5] ∧ Ex H H' ∧ H' g = some (nL (reach (t.take i) m (Mu24.allDraws s))))
      (fun H2 e2 => ⟨none, none, rfl, e1.trans e2, e2 _ _ hg⟩) (fun i σ H' _ hh => let ⟨_, _, _, ex, _⟩ := hh; sq_of (ex _ _ hp)) ?_ ?_
    · rintro i x σ H2 hx ⟨v4, v5, rfl, e2, hg2⟩
      obtain ⟨y, hy, rfl⟩ := map_at hx
      have hyn : y < s.n := ht y (List.mem_of_getElem? hy)
      refine s_forDown (m := m) (ea_cons (ev_var rfl) (ea_cons ev_c (ea_one (ev_un ev_c (ru_neg (i := 1)))))) (by omega)
        (fun j σ H' => ∃ v5 : Option V, σ = [some (.ref a), some (.ref p), some (nI m), some (.ref g), some (nI y), v5] ∧ Ex H H' ∧ H' g = some (nL (midL (t.take i) y m (Mu24.allDraws s) j)))
        (fun H3 e3 => ⟨v5, rfl, e2.trans e3, by rw [mid_zero]; exact e3 _ _ hg2⟩) ?_ ?_
      · rintro j σ H3 hj ⟨v5, rfl, e3, hg3⟩
        have hgs : SqL K H3 g ((midL (t.take i) y m (Mu24.allDraws s) j).map nI) := sq_of hg3
        have e4 := mid_at (tk := t.take i) (x := y) (m := m) (ds := Mu24.allDraws s) (j := j) (q := m - j) (by omega)
        rw [if_neg (by omega)] at e4
        have e5 := mid_at (tk := t.take i) (x := y) (m := m) (ds := Mu24.allDraws s) (j := j) (q := m - j - 1) (by omega)
        rw [if_neg (by omega)] at e5
        have f4 : ((midL (t.take i) y m (Mu24.allDraws s) j).map nI)[m - j]? = some (nI (WD.mask (WD.hitM (t.take i) (m - j)) (Mu24.allDraws s))) := by rw [List.getElem?_map, e4]; rfl
        have f5 : ((midL (t.take i) y m (Mu24.allDraws s) j).map nI)[m - j - 1]? = some (nI (WD.mask (WD.hitM (t.take i) (m - j - 1)) (Mu24.allDraws s))) := by rw [List.getElem?_map, e5]; rfl
        refine s_setL (j := m - j) (v := nI (WD.mask (WD.hitM (t.take i) (m - j)) (Mu24.allDraws s) ||| (WD.mask (WD.hitM (t.take i) (m - j - 1)) (Mu24.allDraws s) &&& WD.mask (fun d => d.contains y) (Mu24.allDraws s)))) hg3 ?_ (ev_var rfl) (ev_var rfl) (by rw [List.length_map, mid_len]; omega) fun H4 e6 => ?_
        · refine ev_or (ev_op (ev_var rfl) (ev_var rfl) (rv_ixL hgs (atI_nat f4))) (ev_and (ev_op (ev_var rfl) (ev_subN (a := m - j) (b := 1) (ev_var rfl) ev_c (by omega)) (rv_ixL hgs (atI_nat f5))) ?_)
          exact ev_op (ev_fld (ev_var rfl) (e3 _ _ hw) T.cl T.a_drawn_with (l_drawn_with r)) (ev_var rfl) (rv_ixL (sq_of (e3 _ _ ws.dw)) (atI_nat (dw_at hyn)))
        · refine ⟨_, rfl, Ex.mut (e3.trans e6) ng, ?_⟩
          rw [upd_same]
          show some (HO.lst _) = some (HO.lst _)
          rw [← mid_set hj, List.map_set]
      · rintro σ H3 ⟨v5, rfl, e3, hg3⟩
        refine ⟨_, _, rfl, e3, ?_⟩
        rw [take_more hy, ← mid_end]
        exact hg3
    · rintro σ H2 ⟨v4, v5, rfl, e2, hg2⟩
      rw [List.length_map, List.take_length] at hg2
      refine s_ret (v := nI (WD.mask (WD.hitM t m) (Mu24.allDraws s))) (ev_op (ev_var rfl) (ev_var rfl) (rv_ixL (sq_of hg2) (atI_nat ?_))) fun H3 e3 => q _ (e2.trans e3)
      unfold reach
      rw [List.getElem?_map, List.getElem?_map, List.getElem?_range (by omega)]
      rfl
/-! ### covered -/
def spCovered (C : Addr) : Sp := fun vs H Q _ => ∃ (a l : Addr) (F F' : Addr → Prop) (r : WR) (s : Mu24.State) (tk : List Mu24.Pick) (m : Nat), vs = [.ref a, .ref l, nI m] ∧ WSt C F H a r s ∧ RowsAt F' H l tk ∧ (∀ t ∈ tk, ∀ x ∈ t, x < s.n) ∧ m ≤ 100 ∧ RetV (nI (WD.mask (WD.covM tk m) (Mu24.allDraws s))) H Q
theorem spCovered_go {a l : Addr} {F F' : Addr → Prop} {r : WR} {s : Mu24.State} {tk : List Mu24.Pick} {m : Nat} {H : Hp} (h : WSt C F H a r s) (hl : RowsAt F' H l tk) (ht : ∀ t ∈ tk, ∀ x ∈ t, x < s.n) (hm : m ≤ 100) :
    SpV (spCovered C) [.ref a, .ref l, nI m] H (nI (WD.mask (WD.covM tk m) (Mu24.allDraws s))) := fun H1 e Q k _ => ⟨a, l, F, F', r, s, tk, m, rfl, h.ex e, hl.ex e, ht, hm, k⟩
theorem sc_covered : FnScope ["self", "tickets", "m", "found", "ticket"] ["self", "tickets", "m"] (defScope s_covered) := ⟨rfl, rfl, rfl, by decide +kernel, rfl, by decide +kernel, by decide +kernel⟩
theorem ok_covered (D : MethAt K C "covered" "Wheel.covered" s_covered ["self", "tickets", "m"]) (T : Txt K mg C aR aP) (G_covered_by : GoodM P w K mg base C 1 "covered_by" ["self", "ticket", "m"] (spBy C)) : GoodM P w K mg base C 2 "covered" ["self", "tickets", "m"] (spCovered C) := by
  refine D.ok (N := ["self", "tickets", "m", "found", "ticket"]) (k := 1) sc_covered (fun vs H Q E h => ?_) (fun f cdv A outer s H vs Q E hr h => ⟨_, (pss_cons (ps_set (i := 3) sc_covered.nd rfl (Or.inl rfl) (pe_ifExp (pt_cmpR op_eq (pv 2) pe_int (nomark _)) (pe_fld (pv 0) rfl) pe_int))
      (pss_cons (ps_for PassesOwn.never rfl (pi_list (pv 1)) (pg_name (i := 4) sc_covered.nd rfl (Or.inl rfl)) (pss_one (ps_set (i := 3) sc_covered.nd rfl (Or.inl rfl) (pe_op op_or (pv 3) (pe_methG (pv 0) T.cl G_covered_by (hr.mono (by decide)) (pa_cons (pv 4) (pa_cons (pv 2) pa_nil)))))))
      (pss_one (ps_ret (pv 3))))), ?_⟩)
  · obtain ⟨a, l, F, F', r, s, tk, m, rfl, _⟩ := h
    rfl
  · obtain ⟨a, l, F, F', r, s, tk, m, rfl, ws, ⟨vs, fl, hl, hrows⟩, ht, hm, q⟩ := h
    obtain ⟨dx, hw⟩ := ws.rc
    have hvl := Paired.length hrows
    refine q_asg (v := nI (WD.mask (WD.covM [] m) (Mu24.allDraws s))) ?_ fun H1 e1 => ?_
    · refine ev_if (b := decide (nI m = nI 0)) (et_test (ev_op (ev_var rfl) ev_c (rv_eq rfl))) (fun hb => ?_) (fun hb => ?_)
      · have hm0 : m = 0 := by
          have h1 : nI m = nI 0 := of_decide_eq_true hb
          have h2 : (m : Int) = ((0 : Nat) : Int) := V.int.inj h1
          omega
        subst hm0
        have e : WD.mask (WD.covM [] 0) (Mu24.allDraws s) = allD s := by
          unfold allD
          rw [← WD.mask_all]
          exact WD.mask_congr fun d _ => by rw [WD.covM_nil]; rfl
        rw [e]
        have h := ev_fld (σ := start ["self", "tickets", "m", "found", "ticket"] [V.ref a, V.ref l, nI 0]) (ta := tVar 0) (ev_var rfl) hw T.cl T.a_all_draws (l_all_draws r)
        rw [ws.ea] at h
        exact h
      · have hm0 : m ≠ 0 := by
          intro e
          subst e
          rw [decide_eq_true rfl] at hb
          cases hb
        have e : WD.mask (WD.covM [] m) (Mu24.allDraws s) = 0 := by
          rw [← WD.mask_none (Mu24.allDraws s)]
          exact WD.mask_congr fun d _ => by rw [WD.covM_nil]; exact decide_eq_false hm0
        rw [e]
        exact ev_c
    · refine q_forLn (a := l) (xs := vs) (ev_var rfl) (sq_of (e1 _ _ hl))
        (fun i σ H' => ∃ v4 : Option V, σ = [some (.ref a), some (.ref l), some (nI m), some (nI (WD.mask (WD.covM (tk.take i) m) (Mu24.allDraws s))), v4] ∧ Ex H H')
        (fun H2 e2 => ⟨none, rfl, e1.trans e2⟩) (fun i σ H' _ hh => let ⟨_, _, ex⟩ := hh; sq_of (ex _ _ hl)) ?_ ?_
      · rintro i x σ H2 hx ⟨v4, rfl, e2⟩
        obtain ⟨t, hti, p, rfl, fp, hp⟩ := paired_get hrows hx
        refine s_asg (v := nI (WD.mask (WD.covM (tk.take (i + 1)) m) (Mu24.allDraws s))) ?_ fun H3 e3 => ⟨_, rfl, e2.trans e3⟩
        have e : WD.mask (WD.covM (tk.take (i + 1)) m) (Mu24.allDraws s) = WD.mask (WD.covM (tk.take i) m) (Mu24.allDraws s) ||| WD.mask (WD.hitM t m) (Mu24.allDraws s) := by
          rw [WD.mask_or, take_more hti]
          exact WD.mask_congr fun d _ => WD.covM_snoc _ _ _ _
        rw [e]
        exact ev_or (ev_var rfl) (ev_meth (ev_var rfl) (e2 _ _ hw) (l_covered_by r) (ea_cons (ev_var rfl) (ea_one (ev_var rfl))) (spBy_go (ws.ex e2) (e2 _ _ hp) (ht t (List.mem_of_getElem? hti)) hm))
      · rintro σ H2 ⟨v4, rfl, e2⟩
        rw [hvl, List.take_length]
        exact s_ret (ev_var rfl) fun H3 e3 => q _ (e2.trans e3)

end WP
end
section
namespace WP
open PySem PySem.Spec PyProof.Rows L2 Evl WM
variable {P : Program} {w : World} {K : PySem.W.Frag} {mg : Str → Option Value} {base : Heap} {C aR aP : Addr}
/-! ### promises of the wheel's calls -/
def sp0 (C : Addr) (c : Mu24.Call) : Sp := fun vs H Q _ => ∃ (a : Addr) (F : Addr → Prop) (s : Mu24.State), vs = [.ref a] ∧ WA C F H a (some s) ∧ Post C a F H (Mu24.step (some s) c) Q
def sp1 (C : Addr) (B : Nat) (c : Nat → Mu24.Call) : Sp := fun vs H Q _ => ∃ (a : Addr) (F : Addr → Prop) (s : Mu24.State) (m : Nat), vs = [.ref a, nI m] ∧ m ≤ B ∧ WA C F H a (some s) ∧ Post C a F H (Mu24.step (some s) (c m)) Q
def spL (C : Addr) (c : List Nat → Mu24.Call) : Sp := fun vs H Q _ => ∃ (a : Addr) (F : Addr → Prop) (s : Mu24.State) (p : Addr) (l : List Nat), vs = [.ref a, .ref p] ∧ H p = some (nL l) ∧ l.length ≤ 20 ∧ WA C F H a (some s) ∧ Post C a F H (Mu24.step (some s) (c l)) Q
theorem nums_V (l : List Nat) : (Mu24.nums l).map V.int = l.map nI := by
  unfold Mu24.nums
  rw [List.map_map]
  rfl
theorem et_yes {σ : L2.St} {H : Hp} : EvT tYes σ H true := fun H1 e Q q => q H1 (Ex.refl H1)
/-- [f(t) for t in l], l a list of rows -/
theorem el_rows {σ : L2.St} {H : Hp} {tl te : TE} {F : Addr → Prop} {l : Addr} {rows : List (List Nat)} {j : Nat} {vs : List Nat} (g : List Nat → V) (h : Ev tl σ H (.ref l)) (hr : RowsAt F H l rows) (hz : rows.length ≤ 40000)
    (hw : ∀ x, wipe ((wipe σ vs).set j (some x)) vs = wipe σ vs) (he : ∀ p t H1, Ex H H1 → t ∈ rows → H p = some (nL t) → Ev te ((wipe σ vs).set j (some (.ref p))) H1 (g t)) :
    EvL (tLc (iList K tl) (gName j) tYes te vs) σ H (rows.map g) := by
  obtain ⟨xs, _, hl, hrows⟩ := hr
  have hlen := Paired.length hrows
  have e := el_lcL (K := K) (tl := tl) (te := te) (t := tYes) (σ := σ) (H := H) (j := j) (vs := vs) (fun _ => true) (fun i => g (rows.getD i [])) h (sq_of hl) (by omega) hw (fun i x H1 e hx => et_yes) (fun i x H1 e hx _ => by
    obtain ⟨t, ht, p, rfl, _, hp⟩ := paired_get hrows hx
    rw [getD_at ht]
    exact he p t H1 e (List.mem_of_getElem? ht) hp)
  rw [hlen, given_all] at e
  exact e
theorem tk_lt {s : Mu24.State} (g : Good s) : ∀ t ∈ s.tickets, ∀ x ∈ t, x < s.n := fun t ht => WD.isPick_lt (g.tk t ht)
theorem tk_len {s : Mu24.State} (g : Good s) : ∀ t ∈ s.tickets, t.length = s.k := fun t ht => WD.isPick_len (g.tk t ht)
theorem all_len {s : Mu24.State} {t : Mu24.Pick} (h : t ∈ Mu24.allTickets s) : t.length = s.k := WD.picks_len h
theorem all_lt {s : Mu24.State} {t : Mu24.Pick} (h : t ∈ Mu24.allTickets s) : ∀ x ∈ t, x < s.n := WD.picks_lt h
theorem dr_len {s : Mu24.State} {t : Mu24.Pick} (h : t ∈ Mu24.allDraws s) : t.length = s.t := WD.picks_len h
theorem pow_bound {n k : Nat} (hn : n ≤ 10) (hk : k ≤ 6) : n ^ k ≤ 1000000 :=
  Nat.le_trans (Nat.pow_le_pow_left hn k) (Nat.le_trans (Nat.pow_le_pow_right (by decide) hk) (by decide))
theorem cast_V (l : List Nat) : (l.map fun n : Nat => (n : Int)).map V.int = l.map nI := by
  rw [List.map_map]
  rfl
theorem sum_cast : ∀ l : List Nat, (l.map fun n : Nat => (n : Int)).sum = ((l.sum : Nat) : Int)
  | [] => rfl
  | a :: l => by
    rw [List.map_cons, List.sum_cons, List.sum_cons, sum_cast l]
    omega
section
variable {σ : L2.St} {H : Hp} {te : TE} {l : List Nat} {v : Nat} {a : Addr}
theorem max_nat {m : Int} (hm : m ∈ l.map fun n : Nat => (n : Int)) (hle : ∀ y ∈ l.map (fun n : Nat => (n : Int)), y ≤ m) (hv : v ∈ l) (h : ∀ x ∈ l, x ≤ v) : m = (v : Int) := by
  obtain ⟨x, hx, rfl⟩ := List.mem_map.mp hm
  have h1 := hle _ (List.mem_map.mpr ⟨v, hv, rfl⟩)
  have h2 := h x hx
  omega
theorem ev_maxD (h : EvL te σ H (l.map nI)) (hv : (l = [] ∧ v = 0) ∨ v ∈ l) (hle : ∀ x ∈ l, x ≤ v) : Ev (tCKw (rMaxD K) (tCons te tNil) (tCons (tC (.int 0)) tNil)) σ H (nI v) := by
  intro H1 e Q q
  refine h H1 e _ fun p H2 hp e2 h2 => ⟨p, l.map fun n : Nat => (n : Int), 0, rfl, rfl, sq_of (by rw [cast_V]; exact h2), ?_, ?_⟩
  · intro hn
    have hn' : l = [] := List.map_eq_nil_iff.mp hn
    rcases hv with ⟨_, rfl⟩ | hv
    · exact q H2 e2
    · rw [hn'] at hv
      cases hv
  · intro m hm hl
    rcases hv with ⟨rfl, _⟩ | hv
    · cases hm
    · rw [max_nat hm hl hv hle]
      exact q H2 e2
theorem ev_max (ha : Ev te σ H (.ref a)) (hs : SqL K H a (l.map nI)) (hv : v ∈ l) (hle : ∀ x ∈ l, x ≤ v) : Ev (tCB (rMax K) (tCons te tNil)) σ H (nI v) := fun H1 e Q q =>
  ha H1 e _ fun H2 e2 => ⟨a, l.map fun n : Nat => (n : Int), rfl, by rw [cast_V]; exact ex_l (e.trans e2) hs, by rw [List.length_map]; exact List.length_pos_of_mem hv, fun m hm hl => by
    rw [max_nat hm hl hv hle]
    exact q H2 e2⟩
theorem ev_sumL (h : EvL te σ H (l.map nI)) : Ev (tCB (rSum K) (tCons te tNil)) σ H (nI l.sum) := fun H1 e Q q =>
  h H1 e _ fun p H2 hp e2 h2 => ⟨p, l.map fun n : Nat => (n : Int), rfl, sq_of (by rw [cast_V]; exact h2), by
    rw [sum_cast]
    exact q H2 e2⟩
theorem ev_sum (ha : Ev te σ H (.ref a)) (hs : SqL K H a (l.map nI)) : Ev (tCB (rSum K) (tCons te tNil)) σ H (nI l.sum) := fun H1 e Q q =>
  ha H1 e _ fun H2 e2 => ⟨a, l.map fun n : Nat => (n : Int), rfl, by rw [cast_V]; exact ex_l (e.trans e2) hs, by
    rw [sum_cast]
    exact q H2 e2⟩
end
theorem most_mem (l : List Mu24.Pick) (d : Mu24.Pick) : ((l.map fun t => Mu24.right t d) = [] ∧ Mu24.most l d = 0) ∨ Mu24.most l d ∈ l.map fun t => Mu24.right t d := by
  obtain ⟨g1, g2, g3⟩ := WD.foldl_max_mem (fun a => Mu24.right a d) l 0
  rcases g3 with g3 | ⟨b, hb, g3⟩
  · cases l with
    | nil => exact .inl ⟨rfl, rfl⟩
    | cons a l =>
      right
      have h := g2 a (.head _)
      rw [g3] at h
      have e : Mu24.most (a :: l) d = 0 := g3
      rw [e]
      exact List.mem_map.mpr ⟨a, .head _, Nat.le_zero.mp h⟩
  · exact .inr (List.mem_map.mpr ⟨b, hb, g3.symm⟩)
theorem most_ge (l : List Mu24.Pick) (d : Mu24.Pick) : ∀ x ∈ l.map (fun t => Mu24.right t d), x ≤ Mu24.most l d := by
  intro x hx
  obtain ⟨t, ht, rfl⟩ := List.mem_map.mp hx
  exact (WD.foldl_max_mem (fun a => Mu24.right a d) l 0).2.1 t ht
/-! ### best -/
def spBest (C : Addr) : Sp := fun vs H Q _ => ∃ (a p : Addr) (F : Addr → Prop) (r : WR) (s : Mu24.State) (d : List Nat), vs = [.ref a, .ref p] ∧ WSt C F H a r s ∧ H p = some (nL d) ∧ RetV (nI (Mu24.most s.tickets d)) H Q
theorem spBest_go {a p : Addr} {F : Addr → Prop} {r : WR} {s : Mu24.State} {d : List Nat} {H : Hp} (h : WSt C F H a r s) (hp : H p = some (nL d)) : SpV (spBest C) [.ref a, .ref p] H (nI (Mu24.most s.tickets d)) :=
  fun H1 e Q k _ => ⟨a, p, F, r, s, d, rfl, h.ex e, e _ _ hp, k⟩
theorem sc_best : FnScope ["self", "draw", "ticket"] ["self", "draw"] (defScope s_best) := ⟨rfl, rfl, rfl, by decide +kernel, rfl, by decide +kernel, by decide +kernel⟩
theorem ok_best (D : MethAt K C "best" "Wheel.best" s_best ["self", "draw"]) (T : Txt K mg C aR aP) (G_count_right : GoodD P w K mg base 1 "count_right" ["ticket", "draw"] spCount) : GoodM P w K mg base C 2 "best" ["self", "draw"] (spBest C) := by
  refine D.ok (N := ["self", "draw", "ticket"]) (k := 1) sc_best (fun vs H Q E h => ?_) (fun f cdv A outer s H vs Q E hr h => ⟨_, (pss_one (ps_ret (pe_callBK (cr_maxD hr.hd) (by rfl) T.m_max boot_max (pa_cons (pe_lc (own := [("ticket", 2)]) (g := gName 2) rfl sc_best.nd (pi_list (pe_fld (pv 0) rfl)) (blkOk_by (own := [("ticket", 2)]) (N := ["self", "draw", "ticket"]) (sc := defScope s_best) (by decide +kernel)) (fun _ _ _ _ _ => pg_name (i := 2) sc_best.nd rfl (Or.inl rfl)) (fun _ _ _ _ _ => pts_nil) (fun _ _ _ _ _ => (pe_callG G_count_right (hr.mono (by decide)) (by rfl) (pa_cons (pv 2) (pa_cons (pv 1) pa_nil))))) pa_nil) (pk_cons pe_int pk_nil)))), ?_⟩)
  · obtain ⟨a, p, F, r, s, d, rfl, _⟩ := h
    rfl
  · obtain ⟨a, p, F, r, s, d, rfl, ws, hp, q⟩ := h
    obtain ⟨dx, hw⟩ := ws.rc
    refine s_ret (ev_maxD (l := s.tickets.map fun t => Mu24.right t d) ?_ (most_mem _ _) (most_ge _ _)) q
    rw [List.map_map]
    refine el_rows (K := K) (rows := s.tickets) (fun t => nI (Mu24.right t d)) (ev_fld (ev_var rfl) hw T.cl T.a_tickets (l_tickets r)) ws.tick (by have := ws.good.len; omega) (fun x => rfl) (fun p' t H1 e ht hp' => ?_)
    exact ev_call (ea_cons (ev_var rfl) (ea_one (ev_var rfl))) (spCount_go (e _ _ hp') (e _ _ hp) (by rw [tk_len ws.good t ht]; have := ws.good.k6; omega))
/-! ### paid -/
def spPaid (C : Addr) : Sp := fun vs H Q _ => ∃ (a p p' : Addr) (F : Addr → Prop) (r : WR) (s : Mu24.State) (d z : List Nat), vs = [.ref a, .ref p, .ref p'] ∧ WSt C F H a r s ∧ H p = some (nL d) ∧ H p' = some (nL z) ∧ z.length = s.k + 1 ∧ RetV (nI (Mu24.paid z s.tickets d)) H Q
theorem spPaid_go {a p p' : Addr} {F : Addr → Prop} {r : WR} {s : Mu24.State} {d z : List Nat} {H : Hp} (h : WSt C F H a r s) (hp : H p = some (nL d)) (hp' : H p' = some (nL z)) (hz : z.length = s.k + 1) : SpV (spPaid C) [.ref a, .ref p, .ref p'] H (nI (Mu24.paid z s.tickets d)) :=
  fun H1 e Q k _ => ⟨a, p, p', F, r, s, d, z, rfl, h.ex e, e _ _ hp, e _ _ hp', hz, k⟩
theorem sc_paid : FnScope ["self", "draw", "prizes", "ticket"] ["self", "draw", "prizes"] (defScope s_paid) := ⟨rfl, rfl, rfl, by decide +kernel, rfl, by decide +kernel, by decide +kernel⟩
theorem ok_paid (D : MethAt K C "paid" "Wheel.paid" s_paid ["self", "draw", "prizes"]) (T : Txt K mg C aR aP) (G_count_right : GoodD P w K mg base 1 "count_right" ["ticket", "draw"] spCount) : GoodM P w K mg base C 2 "paid" ["self", "draw", "prizes"] (spPaid C) := by
  refine D.ok (N := ["self", "draw", "prizes", "ticket"]) (k := 1) sc_paid (fun vs H Q E h => ?_) (fun f cdv A outer s H vs Q E hr h => ⟨_, (pss_one (ps_ret (pe_callB (cr_sum rfl) (by rfl) T.m_sum boot_sum (pa_cons (pe_lc (own := [("ticket", 3)]) (g := gName 3) rfl sc_paid.nd (pi_list (pe_fld (pv 0) rfl)) (blkOk_by (own := [("ticket", 3)]) (N := ["self", "draw", "prizes", "ticket"]) (sc := defScope s_paid) (by decide +kernel)) (fun _ _ _ _ _ => pg_name (i := 3) sc_paid.nd rfl (Or.inl rfl)) (fun _ _ _ _ _ => pts_nil) (fun _ _ _ _ _ => (pe_ix (r := rIxL K) ix_list (pv 2) (pe_callG G_count_right (hr.mono (by decide)) (by rfl) (pa_cons (pv 3) (pa_cons (pv 1) pa_nil))) (fun _ _ => rfl)))) pa_nil)))), ?_⟩)
  · obtain ⟨a, p, p', F, r, s, d, z, rfl, _⟩ := h
    rfl
  · obtain ⟨a, p, p', F, r, s, d, z, rfl, ws, hp, hp', hz, q⟩ := h
    obtain ⟨dx, hw⟩ := ws.rc
    rw [WD.paid_sum] at q
    refine s_ret (ev_sumL (l := s.tickets.map fun t => z.getD (Mu24.right t d) 0) ?_) q
    rw [List.map_map]
    refine el_rows (K := K) (rows := s.tickets) (fun t => nI (z.getD (Mu24.right t d) 0)) (ev_fld (ev_var rfl) hw T.cl T.a_tickets (l_tickets r)) ws.tick (by have := ws.good.len; omega) (fun x => rfl) (fun p2 t H1 e ht hp2 => ?_)
    have hle := WD.right_le t d
    rw [tk_len ws.good t ht] at hle
    refine ev_op (ev_var rfl) (ev_call (ea_cons (ev_var rfl) (ea_one (ev_var rfl))) (spCount_go (e _ _ hp2) (e _ _ hp) (by rw [tk_len ws.good t ht]; have := ws.good.k6; omega))) (rv_ixL (sq_of (e _ _ hp')) (atI_nat ?_))
    rw [List.getElem?_map, List.getElem?_eq_getElem (by omega), List.getD_eq_getElem?_getD, List.getElem?_eq_getElem (by omega)]
    rfl
/-! ### numbers_of -/
def spNums (C : Addr) : Sp := fun vs H Q _ => ∃ (a p : Addr) (F : Addr → Prop) (r : WR) (s : Mu24.State) (row : List Nat), vs = [.ref a, .ref p] ∧ WSt C F H a r s ∧ H p = some (nL row) ∧ (∀ j ∈ row, j < (Mu24.allTickets s).length) ∧ row.length ≤ 100 ∧ RetL (((WD.gets (Mu24.allTickets s) row).flatMap fun t => t).map nI) H Q
theorem spNums_go {a p : Addr} {F : Addr → Prop} {r : WR} {s : Mu24.State} {row : List Nat} {H : Hp} (h : WSt C F H a r s) (hp : H p = some (nL row)) (hj : ∀ j ∈ row, j < (Mu24.allTickets s).length) (hl : row.length ≤ 100) :
    SpL (spNums C) [.ref a, .ref p] H (((WD.gets (Mu24.allTickets s) row).flatMap fun t => t).map nI) := fun H1 e Q k _ => ⟨a, p, F, r, s, row, rfl, h.ex e, e _ _ hp, hj, hl, k⟩
theorem sc_numbers_of : FnScope ["self", "row", "numbers", "place"] ["self", "row"] (defScope s_numbers_of) := ⟨rfl, rfl, rfl, by decide +kernel, rfl, by decide +kernel, by decide +kernel⟩
theorem ok_numbers_of (D : MethAt K C "numbers_of" "Wheel.numbers_of" s_numbers_of ["self", "row"]) (T : Txt K mg C aR aP) : GoodM P w K mg base C 1 "numbers_of" ["self", "row"] (spNums C) := by
  refine D.ok (N := ["self", "row", "numbers", "place"]) (k := 0) sc_numbers_of (fun vs H Q E h => ?_) (fun f cdv A outer s H vs Q E hr h => ⟨_, (pss_cons (ps_set (i := 2) sc_numbers_of.nd rfl (Or.inl rfl) (pe_lst pa_nil))
      (pss_cons (ps_for PassesOwn.never rfl (pi_list (pv 1)) (pg_name (i := 3) sc_numbers_of.nd rfl (Or.inl rfl)) (pss_one (ps_expr (pe_bm PySem.F.plainAttrs_list PySem.F.slot_list_extend PySem.F.type_list_extend mt_extend (pv 2) (pa_cons (pe_ix ix_list (pe_fld (pv 0) rfl) (pv 3) (fun _ _ => rfl)) pa_nil)))))
      (pss_one (ps_ret (pv 2))))), ?_⟩)
  · obtain ⟨a, p, F, r, s, row, rfl, _⟩ := h
    rfl
  · obtain ⟨a, p, F, r, s, row, rfl, ws, hp, hj, hrl, q⟩ := h
    obtain ⟨dx, hw⟩ := ws.rc
    obtain ⟨cs, fc, hc, hch⟩ := ws.ch
    refine q_asgL (el_lst (vs := []) ea_nil (by decide)) fun g H1 ng e1 hg => ?_
    refine q_forLn (a := p) (xs := row.map nI) (ev_var rfl) (sq_of (e1 _ _ hp))
      (fun i σ H' => ∃ v3 : Option V, σ = [some (.ref a), some (.ref p), some (.ref g), v3] ∧ Ex H H' ∧ H' g = some (nL ((WD.gets (Mu24.allTickets s) (row.take i)).flatMap fun t => t)) ∧ ((WD.gets (Mu24.allTickets s) (row.take i)).flatMap fun t => t).length ≤ i * 6)
      (fun H2 e2 => ⟨none, rfl, e1.trans e2, e2 _ _ hg, Nat.le_refl _⟩) (fun i σ H' _ hh => let ⟨_, _, ex, _⟩ := hh; sq_of (ex _ _ hp)) ?_ ?_
    · rintro i x σ H2 hx ⟨v3, rfl, e2, hg2, hlen⟩
      obtain ⟨j, hji, rfl⟩ := map_at hx
      have hjl := hj j (List.mem_of_getElem? hji)
      have htj : (Mu24.allTickets s)[j]? = some (Mu24.allTickets s)[j] := List.getElem?_eq_getElem hjl
      obtain ⟨v, hv, b, rfl, fb, hb⟩ := paired_getB hch htj
      have hbl : ((Mu24.allTickets s)[j]).length = s.k := all_len (List.getElem_mem hjl)
      have hi : i < row.length := (List.getElem?_eq_some_iff.mp hji).1
      have e3 : (WD.gets (Mu24.allTickets s) (row.take (i + 1))).flatMap (fun t => t) = (WD.gets (Mu24.allTickets s) (row.take i)).flatMap (fun t => t) ++ (Mu24.allTickets s)[j] := by
        rw [take_more hji]
        unfold WD.gets
        rw [List.map_append, List.flatMap_append, List.map_cons, List.map_nil, getD_at htj]
        simp
      have hk6 := ws.good.k6
      refine s_extend (xs := ((WD.gets (Mu24.allTickets s) (row.take i)).flatMap fun t => t).map nI) (ys := ((Mu24.allTickets s)[j]).map nI) (b := b) hg2 (e2 _ _ hb) (ev_var rfl) (ev_op (ev_fld (ev_var rfl) (e2 _ _ hw) T.cl T.a_choices (l_choices r)) (ev_var rfl) (rv_ixL (sq_of (e2 _ _ hc)) (atI_nat hv))) ?_ fun H3 e4 => ?_
      · rw [List.length_map, List.length_map, hbl]
        exact Nat.le_trans (by omega : _ ≤ 10000) (by decide)
      · refine ⟨_, rfl, Ex.mut (e2.trans e4) ng, ?_, ?_⟩
        · rw [upd_same, e3]
          show some (HO.lst _) = some (HO.lst _)
          rw [List.map_append]
        · rw [e3, List.length_append, hbl]
          omega
    · rintro σ H2 ⟨v3, rfl, e2, hg2, _⟩
      rw [List.length_map, List.take_length] at hg2
      exact s_ret (v := .ref g) (ev_var rfl) fun H3 e3 => q g H3 ng (e2.trans e3) (e3 _ _ hg2)

end WP
end
section
namespace WP
open PySem PySem.Spec PyProof.Rows L2 Evl WM
variable {P : Program} {w : World} {K : PySem.W.Frag} {mg : Str → Option Value} {base : Heap} {C aR aP : Addr}
section
variable {σ : L2.St} {H : Hp} {te : TE} {F : Addr → Prop} {l : Addr} {rows : List (List Nat)}
theorem el_neg {z : Int} : EvL (tLst (tCons (tUn (rU fun i => .int (-i)) (tC (.int z))) tNil)) σ H [.int (-z)] := el_lst (vs := [.int (-z)]) (ea_one (ev_un ev_c ru_neg)) (by show 1 ≤ 100000; decide)
theorem ev_lenR (h : Ev te σ H (.ref l)) (hr : RowsAt F H l rows) : Ev (tCB (rLenS K) (tCons te tNil)) σ H (nI rows.length) := by
  obtain ⟨vs, _, hl, hp⟩ := hr
  have e := ev_len (K := K) h (sq_of hl)
  rw [Paired.length hp] at e
  exact e
end
theorem wanted_no {s : Mu24.State} {m : Nat} (h : wanted s m = false) : m = 0 ∨ s.k < m := by
  unfold wanted at h
  rw [Bool.and_eq_false_iff, decide_eq_false_iff_not, decide_eq_false_iff_not] at h
  omega
theorem wanted_yes {s : Mu24.State} {m : Nat} (h : wanted s m = true) : 0 < m ∧ m ≤ s.k := by
  unfold wanted at h
  rw [Bool.and_eq_true, decide_eq_true_eq, decide_eq_true_eq] at h
  omega
theorem spRow_go {p : Addr} {l : List Nat} {k n : Nat} {H : Hp} (h : H p = some (nL l)) : SpV spRow [.ref p, nI k, nI n] H (.bl (WD.isRow n k l)) := fun H1 e Q q _ => ⟨p, l, k, n, rfl, e _ _ h, q⟩
/-! ### matches -/
theorem sc_matches : FnScope ["self", "draw", "ticket"] ["self", "draw"] (defScope s_matches) := ⟨rfl, rfl, rfl, by decide +kernel, rfl, by decide +kernel, by decide +kernel⟩
theorem ok_matches (D : MethAt K C "matches" "Wheel.matches" s_matches ["self", "draw"]) (T : Txt K mg C aR aP) (G_count_right : GoodD P w K mg base 1 "count_right" ["ticket", "draw"] spCount)
    (G_is_rising_row : GoodD P w K mg base 1 "is_rising_row" ["row", "size", "n"] spRow) (G_best : GoodM P w K mg base C 2 "best" ["self", "draw"] (spBest C)) : GoodM P w K mg base C 3 "matches" ["self", "draw"] (spL C .matches_) := by
  refine D.ok (N := ["self", "draw", "ticket"]) (k := 2) sc_matches (fun vs H Q E h => ?_) (fun f cdv A outer s H vs Q E hr h => ⟨_, (pss_cons (ps_if (pt_not (pt_val (pe_callG G_is_rising_row (hr.mono (by decide)) (by rfl) (pa_cons (pv 1) (pa_cons (pe_fld (pv 0) rfl) (pa_cons (pe_fld (pv 0) rfl) pa_nil)))))) (pss_one (ps_ret (pe_lst (pa_cons (pe_un un_neg pe_int) pa_nil)))) pss_nil)
      (pss_one (ps_ret (pe_op op_cat (pe_lst (pa_cons (pe_methG (pv 0) T.cl G_best (hr.mono (by decide)) (pa_cons (pv 1) pa_nil)) pa_nil)) (pe_lc (own := [("ticket", 2)]) (g := gName 2) rfl sc_matches.nd (pi_list (pe_fld (pv 0) rfl)) (blkOk_by (own := [("ticket", 2)]) (N := ["self", "draw", "ticket"]) (sc := defScope s_matches) (by decide +kernel)) (fun _ _ _ _ _ => pg_name (i := 2) sc_matches.nd rfl (Or.inl rfl)) (fun _ _ _ _ _ => pts_nil) (fun _ _ _ _ _ => (pe_callG G_count_right (hr.mono (by decide)) (by rfl) (pa_cons (pv 2) (pa_cons (pv 1) pa_nil))))))))), ?_⟩)
  · obtain ⟨a, F, s, p, d, rfl, _⟩ := h
    rfl
  · obtain ⟨a, F, s, p, d, rfl, hp, hd, wa, k⟩ := h
    obtain ⟨r, ws⟩ := id wa
    obtain ⟨dx, hw⟩ := ws.rc
    have k := Post.ro (ans := if Mu24.isPick s s.t d = false then [-1] else Mu24.nums (Mu24.most s.tickets d :: s.tickets.map fun a => Mu24.right a d)) wa k
    have ft := ev_fld (σ := start ["self", "draw", "ticket"] [V.ref a, V.ref p]) (ta := tVar 0) (ev_var rfl) hw T.cl T.a_t (l_t r)
    have fn := ev_fld (σ := start ["self", "draw", "ticket"] [V.ref a, V.ref p]) (ta := tVar 0) (ev_var rfl) hw T.cl T.a_n (l_n r)
    rw [ws.et] at ft
    rw [ws.en] at fn
    refine q_when (b := !WD.isRow s.n s.t d) (et_not (et_B (ev_call (ea_cons (ev_var rfl) (ea_cons ft (ea_one fn))) (spRow_go hp)))) (fun hb H1 e1 => ?_) (fun hb H1 e1 => ?_)
    · rw [WD.isRow_pick] at hb
      rw [if_pos (by cases h : Mu24.isPick s s.t d; rfl; rw [h] at hb; cases hb)] at k
      exact s_retL el_neg fun q H2 hq e2 h2 => k q H2 (fresh_back e1 hq) (e1.trans e2) h2
    · rw [WD.isRow_pick] at hb
      rw [if_neg (by intro h; rw [h] at hb; cases hb), nums_V] at k
      have ex : EvL (tLc (iList K (tFld K (tVar 0) "tickets")) (gName 2) tYes (tCall spCount [] E0 (tCons (tVar 2) (tCons (tVar 1) tNil))) [2]) (start ["self", "draw", "ticket"] [V.ref a, V.ref p]) H1 (s.tickets.map fun t => nI (Mu24.right t d)) :=
        el_rows (K := K) (rows := s.tickets) (fun t => nI (Mu24.right t d)) (ev_fld (ev_var rfl) (e1 _ _ hw) T.cl T.a_tickets (l_tickets r)) (ws.ex e1).tick (by have := ws.good.len; omega) (fun x => rfl) fun p' t H2 e ht hp' =>
          ev_call (ea_cons (ev_var rfl) (ea_one (ev_var rfl))) (spCount_go (e _ _ hp') ((e1.trans e) _ _ hp) (by rw [tk_len ws.good t ht]; have := ws.good.k6; omega))
      have eb : EvL (tLst (tCons (tMeth C "best" (spBest C) [] E0 (tVar 0) (tCons (tVar 1) tNil)) tNil)) (start ["self", "draw", "ticket"] [V.ref a, V.ref p]) H1 [nI (Mu24.most s.tickets d)] :=
        el_lst (ea_one (ev_meth (ev_var rfl) (e1 _ _ hw) (l_best r) (ea_one (ev_var rfl)) (spBest_go (ws.ex e1) (e1 _ _ hp)))) (by show 1 ≤ 100000; decide)
      have hc := el_cat eb ex (by
        rw [List.length_map]
        have := ws.good.len
        show 1 + s.tickets.length ≤ _
        exact Nat.le_trans (by omega : _ ≤ 100) (by decide))
      refine s_retL hc fun q H2 hq e2 h2 => k q H2 (fresh_back e1 hq) (e1.trans e2) ?_
      rw [h2, List.map_cons, List.map_map]
      rfl
/-! ### look -/
theorem flat_nums (l : List Mu24.Pick) : (l.flatMap Mu24.nums).map V.int = (l.flatMap fun t => t).map nI := by
  induction l with
  | nil => rfl
  | cons a l ih => rw [List.flatMap_cons, List.flatMap_cons, List.map_append, List.map_append, ih, nums_V]
theorem sc_look : FnScope ["self", "told", "ticket"] ["self"] (defScope s_look) := ⟨rfl, rfl, rfl, by decide +kernel, rfl, by decide +kernel, by decide +kernel⟩
theorem ok_look (D : MethAt K C "look" "Wheel.look" s_look ["self"]) (T : Txt K mg C aR aP) : GoodM P w K mg base C 1 "look" ["self"] (sp0 C .look) := by
  refine D.ok (N := ["self", "told", "ticket"]) (k := 0) sc_look (fun vs H Q E h => ?_) (fun f cdv A outer s H vs Q E hr h => ⟨_, (pss_cons (ps_set (i := 1) sc_look.nd rfl (Or.inl rfl) (pe_lst (pa_cons (pe_callB call_len_seq (by rfl) T.m_len PySem.boot_len (pa_cons (pe_fld (pv 0) rfl) pa_nil)) pa_nil)))
      (pss_cons (ps_for PassesOwn.never rfl (pi_list (pe_fld (pv 0) rfl)) (pg_name (i := 2) sc_look.nd rfl (Or.inl rfl)) (pss_one (ps_expr (pe_bm PySem.F.plainAttrs_list PySem.F.slot_list_extend PySem.F.type_list_extend mt_extend (pv 1) (pa_cons (pv 2) pa_nil)))))
      (pss_one (ps_ret (pv 1))))), ?_⟩)
  · obtain ⟨a, F, s, rfl, _⟩ := h
    rfl
  · obtain ⟨a, F, s, rfl, wa, k⟩ := h
    obtain ⟨r, ws⟩ := id wa
    obtain ⟨dx, hw⟩ := ws.rc
    have k := Post.ro (ans := (s.tickets.length : Int) :: s.tickets.flatMap Mu24.nums) wa k
    rw [List.map_cons, flat_nums] at k
    obtain ⟨ts, ft, hts, hrows⟩ := ws.tick
    have hvl := Paired.length hrows
    refine q_asgL (el_lst (vs := [nI s.tickets.length]) (ea_one (ev_lenR (ev_fld (ev_var rfl) hw T.cl T.a_tickets (l_tickets r)) ws.tick)) (by show 1 ≤ 100000; decide)) fun g H1 ng e1 hg => ?_
    refine q_forLn (a := r.tl) (xs := ts) (ev_fld (ev_var rfl) (e1 _ _ hw) T.cl T.a_tickets (l_tickets r)) (sq_of (e1 _ _ hts))
      (fun i σ H' => ∃ v2 : Option V, σ = [some (.ref a), some (.ref g), v2] ∧ Ex H H' ∧ H' g = some (.lst (nI s.tickets.length :: ((s.tickets.take i).flatMap fun t => t).map nI)) ∧ ((s.tickets.take i).flatMap fun t => t).length ≤ i * 6)
      (fun H2 e2 => ⟨none, rfl, e1.trans e2, e2 _ _ hg, Nat.le_refl _⟩) (fun i σ H' _ hh => let ⟨_, _, ex, _⟩ := hh; sq_of (ex _ _ hts)) ?_ ?_
    · rintro i x σ H2 hx ⟨v2, rfl, e2, hg2, hlen⟩
      obtain ⟨t, ht, b, rfl, fb, hb⟩ := paired_get hrows hx
      have htl : t.length = s.k := tk_len ws.good t (List.mem_of_getElem? ht)
      have hi : i < s.tickets.length := (List.getElem?_eq_some_iff.mp ht).1
      have hk6 := ws.good.k6
      have hl30 := ws.good.len
      have e3 : (s.tickets.take (i + 1)).flatMap (fun t => t) = (s.tickets.take i).flatMap (fun t => t) ++ t := flat_take (fun t => t) ht
      refine s_extend (xs := nI s.tickets.length :: ((s.tickets.take i).flatMap fun t => t).map nI) (ys := t.map nI) (b := b) hg2 (e2 _ _ hb) (ev_var rfl) (ev_var rfl) ?_ fun H3 e4 => ?_
      · rw [List.length_cons, List.length_map, List.length_map, htl]
        exact Nat.le_trans (by omega : _ ≤ 10000) (by decide)
      · refine ⟨_, rfl, Ex.mut (e2.trans e4) ng, ?_, ?_⟩
        · rw [upd_same, e3, List.map_append]
          rfl
        · rw [e3, List.length_append, htl]
          omega
    · rintro σ H2 ⟨v2, rfl, e2, hg2, _⟩
      rw [hvl, List.take_length] at hg2
      exact s_ret (v := .ref g) (ev_var rfl) fun H3 e3 => k g H3 ng (e2.trans e3) (e3 _ _ hg2)
/-! ### covers -/
theorem spLow_is {a b : Nat} {H : Hp} (h : 0 < b) (h2 : b < 1073741824) : SpL spLow [nI a, nI b] H [nI (Mu24.lowest a b).1, nI (Mu24.lowest a b).2] := by
  rw [WD.lowest_is h]
  exact spLow_go h h2
theorem draws_le {s : Mu24.State} (g : Good s) : (Mu24.allDraws s).length ≤ 1000000 := by
  rw [WD.allDraws_rising]
  exact Nat.le_trans (WD.rising_count _ _) (pow_bound g.n10 g.t6)
theorem sc_covers : FnScope ["self", "m", "count"] ["self", "m"] (defScope s_covers) := ⟨rfl, rfl, rfl, by decide +kernel, rfl, by decide +kernel, by decide +kernel⟩
theorem ok_covers (D : MethAt K C "covers" "Wheel.covers" s_covers ["self", "m"]) (T : Txt K mg C aR aP) (G_count_bits : GoodD P w K mg base 1 "count_bits" ["draws"] spBits)
    (G_lowest_terms : GoodD P w K mg base 1 "lowest_terms" ["above", "below"] spLow) (G_covered : GoodM P w K mg base C 2 "covered" ["self", "tickets", "m"] (spCovered C)) : GoodM P w K mg base C 3 "covers" ["self", "m"] (sp1 C 20 .covers) := by
  refine D.ok (N := ["self", "m", "count"]) (k := 2) sc_covers (fun vs H Q E h => ?_) (fun f cdv A outer s H vs Q E hr h => ⟨_, (pss_cons (ps_if (pt_cmpR op_gt (pv 1) (pe_fld (pv 0) rfl) (nomark _)) (pss_one (ps_ret (pe_lst (pa_cons (pe_un un_neg pe_int) pa_nil)))) pss_nil)
      (pss_cons (ps_set (i := 2) sc_covers.nd rfl (Or.inl rfl) (pe_callG G_count_bits (hr.mono (by decide)) (by rfl) (pa_cons (pe_methG (pv 0) T.cl G_covered (hr.mono (by decide)) (pa_cons (pe_fld (pv 0) rfl) (pa_cons (pv 1) pa_nil))) pa_nil)))
      (pss_one (ps_ret (pe_op op_cat (pe_lst (pa_cons (pv 2) (pa_cons (pe_callB call_len_seq (by rfl) T.m_len PySem.boot_len (pa_cons (pe_fld (pv 0) rfl) pa_nil)) pa_nil))) (pe_callG G_lowest_terms (hr.mono (by decide)) (by rfl) (pa_cons (pv 2) (pa_cons (pe_callB call_len_seq (by rfl) T.m_len PySem.boot_len (pa_cons (pe_fld (pv 0) rfl) pa_nil)) pa_nil)))))))), ?_⟩)
  · obtain ⟨a, F, s, m, rfl, _⟩ := h
    rfl
  · obtain ⟨a, F, s, m, rfl, hm, wa, k⟩ := h
    obtain ⟨r, ws⟩ := id wa
    obtain ⟨dx, hw⟩ := ws.rc
    have k := Post.ro (ans := if s.k < m then [-1] else Mu24.nums [Mu24.covered s s.tickets m, Mu24.draws s, (Mu24.lowest (Mu24.covered s s.tickets m) (Mu24.draws s)).1, (Mu24.lowest (Mu24.covered s s.tickets m) (Mu24.draws s)).2]) wa k
    refine q_when (b := decide (r.k < (m : Int))) (et_test (ev_op (ev_var rfl) (ev_fld (ev_var rfl) hw T.cl T.a_k (l_k r)) rv_I0)) (fun hb H1 e1 => ?_) (fun hb H1 e1 => ?_)
    · have hlt := of_decide_eq_true hb
      rw [ws.ek] at hlt
      rw [if_pos (by omega)] at k
      exact s_retL el_neg fun q H2 hq e2 h2 => k q H2 (fresh_back e1 hq) (e1.trans e2) h2
    · have hlt := of_decide_eq_false hb
      rw [ws.ek] at hlt
      rw [if_neg (by omega), nums_V] at k
      have hd0 : 0 < Mu24.draws s := WD.draws_some ws.good.tn
      have hd1 : Mu24.draws s ≤ 1000000 := draws_le ws.good
      refine q_asg (v := nI (Mu24.covered s s.tickets m)) ?_ fun H2 e2 => ?_
      · rw [← WD.cov_count]
        exact ev_call (ea_one (ev_meth (ev_var rfl) (e1 _ _ hw) (l_covered r) (ea_cons (ev_fld (ev_var rfl) (e1 _ _ hw) T.cl T.a_tickets (l_tickets r)) (ea_one (ev_var rfl))) (spCovered_go (ws.ex e1) (ws.ex e1).tick (tk_lt ws.good) (by omega)))) spBits_go
      · have e12 := e1.trans e2
        have hld : ∀ σ : L2.St, σ[0]? = some (some (V.ref a)) → Ev (tCB (rLenS K) (tCons (tFld K (tVar 0) "draws") tNil)) σ H2 (nI (Mu24.draws s)) := fun σ h0 => ev_lenR (ev_fld (ev_var h0) (e12 _ _ hw) T.cl T.a_draws (l_draws r)) (ws.ex e12).dr
        have hc := el_cat (el_lst (ea_cons (ev_var (σ := [some (V.ref a), some (nI m), some (nI (Mu24.covered s s.tickets m))]) (H := H2) (i := 2) rfl) (ea_one (hld _ rfl))) (by show 2 ≤ 100000; decide))
          (el_call (E := E0) (dvs := []) (ea_cons (ev_var (σ := [some (V.ref a), some (nI m), some (nI (Mu24.covered s s.tickets m))]) (i := 2) rfl) (ea_one (hld _ rfl))) (spLow_is hd0 (by omega))) (by show 2 + 2 ≤ sizeLine; decide)
        exact s_retL hc fun q H3 hq e3 h3 => k q H3 (fresh_back e12 hq) (e12.trans e3) h3
/-! ### least -/
theorem sc_least : FnScope ["self", "m", "count"] ["self", "m"] (defScope s_least) := ⟨rfl, rfl, rfl, by decide +kernel, rfl, by decide +kernel, by decide +kernel⟩
theorem ok_least (D : MethAt K C "least" "Wheel.least" s_least ["self", "m"]) (T : Txt K mg C aR aP) (G_count_bits : GoodD P w K mg base 1 "count_bits" ["draws"] spBits)
    (G_is_wanted : GoodM P w K mg base C 1 "is_wanted" ["self", "m"] (spWanted C)) (G_covered_by : GoodM P w K mg base C 1 "covered_by" ["self", "ticket", "m"] (spBy C)) : GoodM P w K mg base C 2 "least" ["self", "m"] (sp1 C 20 .least) := by
  refine D.ok (N := ["self", "m", "count"]) (k := 1) sc_least (fun vs H Q E h => ?_) (fun f cdv A outer s H vs Q E hr h => ⟨_, (pss_cons (ps_if (pt_not (pt_val (pe_methG (pv 0) T.cl G_is_wanted (hr.mono (by decide)) (pa_cons (pv 1) pa_nil)))) (pss_one (ps_ret (pe_lst (pa_cons (pe_un un_neg pe_int) pa_nil)))) pss_nil)
      (pss_cons (ps_set (i := 2) sc_least.nd rfl (Or.inl rfl) (pe_callG G_count_bits (hr.mono (by decide)) (by rfl) (pa_cons (pe_methG (pv 0) T.cl G_covered_by (hr.mono (by decide)) (pa_cons (pe_ix ix_list (pe_fld (pv 0) rfl) pe_int (fun _ _ => rfl)) (pa_cons (pv 1) pa_nil))) pa_nil)))
      (pss_cons (ps_if (pt_cmpR op_eq (pv 2) pe_int (nomark _)) (pss_one (ps_ret (pe_lst (pa_cons (pe_un un_neg pe_int) pa_nil)))) pss_nil)
      (pss_one (ps_ret (pe_lst (pa_cons (pe_op op_fdivN (pe_op op_sub (pe_op op_add (pe_callB call_len_seq (by rfl) T.m_len PySem.boot_len (pa_cons (pe_fld (pv 0) rfl) pa_nil)) (pv 2)) pe_int) (pv 2)) pa_nil))))))), ?_⟩)
  · obtain ⟨a, F, s, m, rfl, _⟩ := h
    rfl
  · obtain ⟨a, F, s, m, rfl, hm, wa, k⟩ := h
    obtain ⟨r, ws⟩ := id wa
    obtain ⟨dx, hw⟩ := ws.rc
    have k := Post.ro (ans := if m = 0 ∨ s.k < m then [-1] else if Mu24.one s m = 0 then [-6] else [(((Mu24.draws s + Mu24.one s m - 1) / Mu24.one s m : Nat) : Int)]) wa k
    refine q_when (b := !wanted s m) (et_not (et_B (ev_meth (ev_var rfl) hw (l_is_wanted r) (ea_one (ev_var rfl)) (spWanted_go ws)))) (fun hb H1 e1 => ?_) (fun hb H1 e1 => ?_)
    · rw [if_pos (wanted_no (by cases h : wanted s m; rfl; rw [h] at hb; cases hb))] at k
      exact s_retL el_neg fun q H2 hq e2 h2 => k q H2 (fresh_back e1 hq) (e1.trans e2) h2
    · obtain ⟨hm0, hmk⟩ := wanted_yes (s := s) (m := m) (by cases h : wanted s m; rw [h] at hb; cases hb; rfl)
      rw [if_neg (by omega)] at k
      have hn : 0 < (Mu24.allTickets s).length := by
        rw [WD.allTickets_rising]
        exact WD.rising_some ws.good.kn
      have ht0 : (Mu24.allTickets s)[0]? = some (Mu24.allTickets s)[0] := List.getElem?_eq_getElem hn
      obtain ⟨cs, fc, hc, hch⟩ := ws.ch
      obtain ⟨v, hv, b, rfl, fb, hb0⟩ := paired_getB hch ht0
      have hone := WD.one_is ht0 m
      refine q_asg (v := nI (Mu24.one s m)) ?_ fun H2 e2 => ?_
      · rw [hone, ← WD.one_count]
        exact ev_call (ea_one (ev_meth (ev_var rfl) (e1 _ _ hw) (l_covered_by r) (ea_cons (ev_op (ev_fld (ev_var rfl) (e1 _ _ hw) T.cl T.a_choices (l_choices r)) ev_c (rv_ixL (i := ((0 : Nat) : Int)) (sq_of (e1 _ _ hc)) (atI_nat hv))) (ea_one (ev_var rfl)))
          (spBy_go (ws.ex e1) (e1 _ _ hb0) (all_lt (List.getElem_mem hn)) (by omega)))) spBits_go
      · have e12 := e1.trans e2
        have hd1 : Mu24.draws s ≤ 1000000 := draws_le ws.good
        have ho1 : Mu24.one s m ≤ Mu24.draws s := by
          rw [hone]
          exact List.length_filter_le _ _
        refine q_when (b := decide (nI (Mu24.one s m) = nI 0)) (et_test (ev_op (ev_var rfl) ev_c (rv_eq rfl))) (fun hb H3 e3 => ?_) (fun hb H3 e3 => ?_)
        · have h0 : Mu24.one s m = 0 := by
            have h1 : nI (Mu24.one s m) = nI 0 := of_decide_eq_true hb
            have h2 : ((Mu24.one s m : Nat) : Int) = ((0 : Nat) : Int) := V.int.inj h1
            omega
          rw [if_pos h0] at k
          exact s_retL el_neg fun q H4 hq e4 h4 => k q H4 (fresh_back (e12.trans e3) hq) ((e12.trans e3).trans e4) h4
        · have h0 : Mu24.one s m ≠ 0 := by
            intro h0
            rw [h0, decide_eq_true rfl] at hb
            cases hb
          rw [if_neg h0] at k
          have e123 := e12.trans e3
          refine s_retL (el_lst (vs := [nI ((Mu24.draws s + Mu24.one s m - 1) / Mu24.one s m)]) (ea_one ?_) (by show 1 ≤ 100000; decide)) fun q H4 hq e4 h4 => k q H4 (fresh_back e123 hq) (e123.trans e4) h4
          exact ev_fdiv (ev_subN (b := 1) (ev_addN (ev_lenR (ev_fld (ev_var rfl) (e123 _ _ hw) T.cl T.a_draws (l_draws r)) (ws.ex e123).dr) (ev_var rfl)) ev_c (by omega)) (ev_var rfl) h0 (by omega)

end WP
end
section
namespace WP
open PySem PySem.Spec PyProof.Rows L2 Evl WM
variable {P : Program} {w : World} {K : PySem.W.Frag} {mg : Str → Option Value} {base : Heap} {C aR aP : Addr}
/-! ### worst -/
theorem q_minKey {σ : L2.St} {H : Hp} {D : Ends} {tz : TS} {tl to : TE} {l a dx g : Addr} {fs : List (Str × V)} {m : Str} {xs : List V} {sp : Sp} {j0 : Nat} (kf : Nat → Int) (hl : Ev tl σ H (.ref l)) (hs : SqL K H l xs) (hne : 0 < xs.length)
    (ho : Ev to σ H (.ref a)) (hw : H a = some (.ins C dx fs)) (lk : fs.lookup m = none) (hk : ∀ i x, xs[i]? = some x → ∀ H1, Ex H H1 → ∀ Q1 : VK, (∀ H2, Ex H1 H2 → Q1 (.int (kf i)) H2) → sp [.ref a, x] H1 Q1 E0)
    (k : ∀ i x H1, xs[i]? = some x → (∀ j, j < xs.length → kf i ≤ kf j ∧ (j < i → kf i < kf j)) → Ex H H1 → tz D (σ.set j0 (some x)) H1) :
    tSeq (tAsg (tCKw (rMinKey K g sp) (tCons tl tNil) (tCons (tBnd C m g to) tNil)) (gName j0)) tz D σ H :=
  hl H (Ex.refl H) _ fun H1 e1 => ho H1 e1 _ fun H2 e2 => ⟨a, dx, fs, rfl, (e1.trans e2) _ _ hw, lk, fun q hq =>
    ⟨l, a, q, xs, kf, rfl, rfl, ex_l ((e1.trans e2).trans (Ex.new hq)) hs, hne, upd_same, fun i x hx H3 e3 => hk i x hx H3 (((e1.trans e2).trans (Ex.new hq)).trans e3), fun i x H3 hx hb e3 => k i x H3 hx hb (((e1.trans e2).trans (Ex.new hq)).trans e3)⟩⟩
theorem sc_worst : FnScope ["self", "draw"] ["self"] (defScope s_worst) := ⟨rfl, rfl, rfl, by decide +kernel, rfl, by decide +kernel, by decide +kernel⟩
theorem ok_worst (D : MethAt K C "worst" "Wheel.worst" s_worst ["self"]) (T : Txt K mg C aR aP) (G_best : GoodM P w K mg base C 2 "best" ["self", "draw"] (spBest C)) (hB : ∃ g, BMeth K C "best" g) : GoodM P w K mg base C 4 "worst" ["self"] (sp0 C .worst) := by
  obtain ⟨g, fdB, FB0, hmB, hbB⟩ := id G_best
  obtain ⟨g', BM⟩ := hB
  have eg : g' = g := by
    have h := BM.mt.at_.symm.trans hmB.at_
    injection h with h
    injection h with h
    injection h
  subst eg
  have FB := FB0.raw hbB .nil
  refine D.ok (N := ["self", "draw"]) (k := 3) sc_worst (fun vs H Q E h => ?_) (fun f cdv A outer s H vs Q E hr h => ⟨_, (pss_cons (ps_set (i := 1) sc_worst.nd rfl (Or.inl rfl) (pe_callBK (cr_minKey FB hr) (by rfl) T.m_min boot_min (pa_cons (pe_fld (pv 0) rfl) pa_nil) (pk_cons (pe_bnd (pv 0) T.cl BM) pk_nil)))
      (pss_one (ps_ret (pe_op op_cat (pe_lst (pa_cons (pe_methG (pv 0) T.cl G_best (hr.mono (by decide)) (pa_cons (pv 1) pa_nil)) pa_nil)) (pv 1))))), ?_⟩)
  · obtain ⟨a, F, s, rfl, _⟩ := h
    rfl
  · obtain ⟨a, F, s, rfl, wa, k⟩ := h
    obtain ⟨r, ws⟩ := id wa
    obtain ⟨dx, hw⟩ := ws.rc
    have k := Post.ro (ans := Mu24.nums ((Mu24.worst s s.tickets).1 :: (Mu24.worst s s.tickets).2)) wa k
    obtain ⟨ds, fd, hds, hrows⟩ := ws.dr
    have hdl := Paired.length hrows
    have hd0 : 0 < (Mu24.allDraws s).length := WD.draws_some ws.good.tn
    refine q_minKey (xs := ds) (fun i => ((Mu24.most s.tickets ((Mu24.allDraws s).getD i []) : Nat) : Int)) (ev_fld (ev_var rfl) hw T.cl T.a_draws (l_draws r)) (sq_of hds) (by omega) (ev_var rfl) hw (l_best r) (fun i x hx H1 e1 Q1 q1 => ?_) fun i x H1 hx hmin e1 => ?_
    · obtain ⟨d, hd, p, rfl, fp, hp⟩ := paired_get hrows hx
      rw [getD_at hd] at q1
      exact ⟨a, p, F, r, s, d, rfl, ws.ex e1, e1 _ _ hp, q1⟩
    · obtain ⟨d, hd, p, rfl, fp, hp⟩ := paired_get hrows hx
      rw [getD_at hd] at hmin
      have hB1 : ∀ d ∈ Mu24.allDraws s, Mu24.most s.tickets d ≤ s.n + 1 := fun d _ => WD.most_le fun t ht => by
        rw [tk_len ws.good t ht]
        have := ws.good.kn
        omega
      have hwst : Mu24.worst s s.tickets = (Mu24.most s.tickets d, d) := by
        rw [WD.worst_eq]
        refine WD.worst_first hB1 hd fun j e hj => ?_
        have hj' : j < ds.length := by
          have := (List.getElem?_eq_some_iff.mp hj).1
          omega
        obtain ⟨h1, h2⟩ := hmin j hj'
        rw [getD_at hj] at h1 h2
        exact ⟨by omega, fun h => by have := h2 h; omega⟩
      rw [hwst, nums_V] at k
      have hc := el_catV (ys := d.map nI) (b := p) (el_lst (vs := [nI (Mu24.most s.tickets d)]) (ea_one (ev_meth (σ := [some (V.ref a), some (V.ref p)]) (t := tCons (tVar 1) tNil) (ta := tVar 0) (ev_var rfl) (e1 _ _ hw) (l_best r) (ea_one (ev_var rfl)) (spBest_go (ws.ex e1) (e1 _ _ hp)))) (by show 1 ≤ 100000; decide))
        (ev_var (i := 1) rfl) (e1 _ _ hp) (by
          rw [List.length_map, dr_len (List.mem_of_getElem? hd)]
          have := ws.good.t6
          show 1 + s.t ≤ _
          exact Nat.le_trans (by omega : _ ≤ 100) (by decide))
      exact s_retL hc fun q H2 hq e2 h2 => k q H2 (fresh_back e1 hq) (e1.trans e2) h2
/-! ### next -/
theorem sc_next_ticket : FnScope ["self", "m", "missing", "most", "found", "ticket", "more"] ["self", "m"] (defScope s_next_ticket) := ⟨rfl, rfl, rfl, by decide +kernel, rfl, by decide +kernel, by decide +kernel⟩
theorem ok_next (D : MethAt K C "next_ticket" "Wheel.next_ticket" s_next_ticket ["self", "m"]) (T : Txt K mg C aR aP) (G_count_bits : GoodD P w K mg base 1 "count_bits" ["draws"] spBits)
    (G_is_wanted : GoodM P w K mg base C 1 "is_wanted" ["self", "m"] (spWanted C)) (G_covered_by : GoodM P w K mg base C 1 "covered_by" ["self", "ticket", "m"] (spBy C)) (G_covered : GoodM P w K mg base C 2 "covered" ["self", "tickets", "m"] (spCovered C)) :
    GoodM P w K mg base C 3 "next_ticket" ["self", "m"] (sp1 C 20 .next) := by
  refine D.ok (N := ["self", "m", "missing", "most", "found", "ticket", "more"]) (k := 2) sc_next_ticket (fun vs H Q E h => ?_) (fun f cdv A outer s H vs Q E hr h => ⟨_, (pss_cons (ps_if (pt_not (pt_val (pe_methG (pv 0) T.cl G_is_wanted (hr.mono (by decide)) (pa_cons (pv 1) pa_nil)))) (pss_one (ps_ret (pe_lst (pa_cons (pe_un un_neg pe_int) pa_nil)))) pss_nil)
      (pss_cons (ps_set (i := 2) sc_next_ticket.nd rfl (Or.inl rfl) (pe_op op_xor (pe_fld (pv 0) rfl) (pe_methG (pv 0) T.cl G_covered (hr.mono (by decide)) (pa_cons (pe_fld (pv 0) rfl) (pa_cons (pv 1) pa_nil)))))
      (pss_cons (ps_set (i := 3) sc_next_ticket.nd rfl (Or.inl rfl) pe_int)
      (pss_cons (ps_set (i := 4) sc_next_ticket.nd rfl (Or.inl rfl) (pe_lst pa_nil))
      (pss_cons (ps_for PassesOwn.never rfl (pi_list (pe_fld (pv 0) rfl)) (pg_name (i := 5) sc_next_ticket.nd rfl (Or.inl rfl)) (pss_cons (ps_set (i := 6) sc_next_ticket.nd rfl (Or.inl rfl) (pe_callG G_count_bits (hr.mono (by decide)) (by rfl) (pa_cons (pe_op op_and (pe_methG (pv 0) T.cl G_covered_by (hr.mono (by decide)) (pa_cons (pv 5) (pa_cons (pv 1) pa_nil))) (pv 2)) pa_nil)))
      (pss_one (ps_if (pt_cmpR op_gt (pv 6) (pv 3) (nomark _)) (pss_cons (ps_set (i := 3) sc_next_ticket.nd rfl (Or.inl rfl) (pv 6))
      (pss_one (ps_set (i := 4) sc_next_ticket.nd rfl (Or.inl rfl) (pv 5)))) pss_nil))))
      (pss_one (ps_ret (pe_ifExp (pt_cmpR op_gt (pv 3) pe_int (nomark _)) (pe_op op_cat (pe_lst (pa_cons (pv 3) pa_nil)) (pv 4)) (pe_lst (pa_cons (pe_un un_neg pe_int) pa_nil)))))))))), ?_⟩)
  · obtain ⟨a, F, s, m, rfl, _⟩ := h
    rfl
  · obtain ⟨a, F, s, m, rfl, hm, wa, k⟩ := h
    obtain ⟨r, ws⟩ := id wa
    obtain ⟨dx, hw⟩ := ws.rc
    have k := Post.ro (ans := if m = 0 ∨ s.k < m then [-1] else WD.nextAns s m) wa k
    refine q_when (b := !wanted s m) (et_not (et_B (ev_meth (ev_var rfl) hw (l_is_wanted r) (ea_one (ev_var rfl)) (spWanted_go ws)))) (fun hb H1 e1 => ?_) (fun hb H1 e1 => ?_)
    · rw [if_pos (wanted_no (by cases h : wanted s m; rfl; rw [h] at hb; cases hb))] at k
      exact s_retL el_neg fun q H2 hq e2 h2 => k q H2 (fresh_back e1 hq) (e1.trans e2) h2
    · obtain ⟨hm0, hmk⟩ := wanted_yes (s := s) (m := m) (by cases h : wanted s m; rw [h] at hb; cases hb; rfl)
      rw [if_neg (by omega), WD.next_ans s m (fun t => WD.pop (WD.mask (WD.hitM t m) (Mu24.allDraws s) &&& ((2 ^ (Mu24.allDraws s).length - 1) ^^^ WD.mask (WD.covM s.tickets m) (Mu24.allDraws s)))) (fun t => WD.more_is s s.tickets t m)] at k
      generalize hg : (fun t => WD.pop (WD.mask (WD.hitM t m) (Mu24.allDraws s) &&& ((2 ^ (Mu24.allDraws s).length - 1) ^^^ WD.mask (WD.covM s.tickets m) (Mu24.allDraws s)))) = g at k
      have hgt : ∀ t, g t = WD.pop (WD.mask (WD.hitM t m) (Mu24.allDraws s) &&& (allD s ^^^ WD.mask (WD.covM s.tickets m) (Mu24.allDraws s))) := fun t => by
        rw [← hg]
        rfl
      have hfl := fun (σ : L2.St) (h0 : σ[0]? = some (some (V.ref a))) => ev_fld (K := K) (σ := σ) (ta := tVar 0) (ev_var h0) (e1 _ _ hw) T.cl T.a_all_draws (l_all_draws r)
      rw [ws.ea] at hfl
      obtain ⟨cs, fc, hc, hch⟩ := ws.ch
      have hcl := Paired.length hch
      refine q_asg (v := nI (allD s ^^^ WD.mask (WD.covM s.tickets m) (Mu24.allDraws s))) (ev_xor (hfl _ rfl) (ev_meth (ev_var rfl) (e1 _ _ hw) (l_covered r) (ea_cons (ev_fld (ev_var rfl) (e1 _ _ hw) T.cl T.a_tickets (l_tickets r)) (ea_one (ev_var rfl))) (spCovered_go (ws.ex e1) (ws.ex e1).tick (tk_lt ws.good) (by omega)))) fun H2 e2 => ?_
      refine q_asg (v := nI 0) ev_c fun H3 e3 => ?_
      have e13 := (e1.trans e2).trans e3
      refine q_asgL (el_lst (vs := []) ea_nil (by decide)) fun g0 H4 ng e4 hg0 => ?_
      have e14 := e13.trans e4
      refine q_forLn (a := r.lc) (xs := cs) (ev_fld (ev_var rfl) (e14 _ _ hw) T.cl T.a_choices (l_choices r)) (sq_of (e14 _ _ hc))
        (fun i σ H' => ∃ (fp : Addr) (v5 v6 : Option V), σ = [some (.ref a), some (nI m), some (nI (allD s ^^^ WD.mask (WD.covM s.tickets m) (Mu24.allDraws s))), some (nI (WD.nextOf g (0, []) ((Mu24.allTickets s).take i)).1), some (.ref fp), v5, v6] ∧ Ex H H' ∧ H' fp = some (nL (WD.nextOf g (0, []) ((Mu24.allTickets s).take i)).2) ∧ (WD.nextOf g (0, []) ((Mu24.allTickets s).take i)).2.length ≤ 6)
        (fun H5 e5 => ⟨g0, none, none, rfl, e14.trans e5, e5 _ _ hg0, by show 0 ≤ 6; decide⟩) (fun i σ H' _ hh => let ⟨_, _, _, _, ex, _⟩ := hh; sq_of (ex _ _ hc)) ?_ ?_
      · rintro i x σ H5 hx ⟨fp, v5, v6, rfl, e5, hfp, hlen⟩
        obtain ⟨t, ht, b, rfl, fb, hb⟩ := paired_get hch hx
        have hmem := List.mem_of_getElem? ht
        have hsn := WD.nextOf_snoc g (0, []) ((Mu24.allTickets s).take i) t
        rw [← take_more ht] at hsn
        refine q_asg (v := nI (g t)) ?_ fun H6 e6 => ?_
        · rw [hgt]
          exact ev_call (ea_one (ev_and (ev_meth (ev_var rfl) (e5 _ _ hw) (l_covered_by r) (ea_cons (ev_var rfl) (ea_one (ev_var rfl))) (spBy_go (ws.ex e5) (e5 _ _ hb) (all_lt hmem) (by omega))) (ev_var rfl))) spBits_go
        · have e56 := e5.trans e6
          refine s_when (b := decide (((WD.nextOf g (0, []) ((Mu24.allTickets s).take i)).1 : Int) < (g t : Int))) (et_test (ev_op (ev_var rfl) (ev_var rfl) rv_I0)) (fun hb2 H7 e7 => ?_) (fun hb2 H7 e7 => ?_)
          · have hlt : (WD.nextOf g (0, []) ((Mu24.allTickets s).take i)).1 < g t := by
              have := of_decide_eq_true hb2
              omega
            rw [if_pos hlt] at hsn
            refine q_asg (v := nI (g t)) (ev_var rfl) fun H8 e8 => ?_
            refine s_asg (v := .ref b) (ev_var rfl) fun H9 e9 => ?_
            have e59 := ((e56.trans e7).trans e8).trans e9
            refine ⟨b, some (.ref b), some (nI (g t)), ?_, e59, ?_, ?_⟩
            · rw [hsn]
              rfl
            · rw [hsn]
              exact e59 _ _ hb
            · rw [hsn]
              have h6 := ws.good.k6
              show t.length ≤ 6
              rw [all_len hmem]
              exact h6
          · have hlt : ¬ (WD.nextOf g (0, []) ((Mu24.allTickets s).take i)).1 < g t := by
              have := of_decide_eq_false hb2
              omega
            rw [if_neg hlt] at hsn
            refine ⟨fp, some (.ref b), some (nI (g t)), ?_, e56.trans e7, ?_, ?_⟩
            · rw [hsn]
              rfl
            · rw [hsn]
              exact (e6.trans e7) _ _ hfp
            · rw [hsn]
              exact hlen
      · rintro σ H5 ⟨fp, v5, v6, rfl, e5, hfp, hlen⟩
        rw [hcl, List.take_length] at hfp hlen ⊢
        generalize WD.nextOf g (0, []) (Mu24.allTickets s) = R at k hfp hlen ⊢
        obtain ⟨R1, R2⟩ := R
        by_cases hp : 0 < R1
        · rw [if_pos hp, nums_V] at k
          have hc := el_if (b := decide ((0 : Int) < (R1 : Int))) (tt := tTest (tOp (rI0 fun i j => .bl (decide (j < i))) (tVar 3) (tC (.int 0)))) (ta := tOp rCat (tLst (tCons (tVar 3) tNil)) (tVar 4)) (tb := tLst (tCons (tUn (rU fun i => .int (-i)) (tC (.int 6))) tNil))
            (σ := [some (.ref a), some (nI m), some (nI (allD s ^^^ WD.mask (WD.covM s.tickets m) (Mu24.allDraws s))), some (nI R1), some (.ref fp), v5, v6]) (H := H5) (xs := [nI R1] ++ R2.map nI) (et_test (ev_op (ev_var rfl) ev_c rv_I0))
            (fun _ => el_catV (el_lst (vs := [nI R1]) (ea_one (ev_var rfl)) (by show 1 ≤ 100000; decide)) (ev_var rfl) hfp (by
              rw [List.length_map]
              have hlen' : R2.length ≤ 6 := hlen
              show 1 + R2.length ≤ _
              exact Nat.le_trans (by omega : _ ≤ 100) (by decide))) (fun hb => by
              have := of_decide_eq_false hb
              omega)
          exact s_retL hc fun q H6 hq e6 h6 => k q H6 (fresh_back e5 hq) (e5.trans e6) h6
        · rw [if_neg hp] at k
          have hc := el_if (b := decide ((0 : Int) < (R1 : Int))) (tt := tTest (tOp (rI0 fun i j => .bl (decide (j < i))) (tVar 3) (tC (.int 0)))) (ta := tOp rCat (tLst (tCons (tVar 3) tNil)) (tVar 4)) (tb := tLst (tCons (tUn (rU fun i => .int (-i)) (tC (.int 6))) tNil))
            (σ := [some (.ref a), some (nI m), some (nI (allD s ^^^ WD.mask (WD.covM s.tickets m) (Mu24.allDraws s))), some (nI R1), some (.ref fp), v5, v6]) (H := H5) (xs := [.int (-6)]) (et_test (ev_op (ev_var rfl) ev_c rv_I0))
            (fun hb => by
              have := of_decide_eq_true hb
              omega) (fun _ => el_neg)
          exact s_retL hc fun q H6 hq e6 h6 => k q H6 (fresh_back e5 hq) (e5.trans e6) h6
/-! ### pays -/
theorem sc_pays : FnScope ["self", "prizes", "sums", "draw"] ["self", "prizes"] (defScope s_pays) := ⟨rfl, rfl, rfl, by decide +kernel, rfl, by decide +kernel, by decide +kernel⟩
theorem ok_pays (D : MethAt K C "pays" "Wheel.pays" s_pays ["self", "prizes"]) (T : Txt K mg C aR aP) (G_lowest_terms : GoodD P w K mg base 1 "lowest_terms" ["above", "below"] spLow) (G_paid : GoodM P w K mg base C 2 "paid" ["self", "draw", "prizes"] (spPaid C)) :
    GoodM P w K mg base C 3 "pays" ["self", "prizes"] (spL C .pays) := by
  refine D.ok (N := ["self", "prizes", "sums", "draw"]) (k := 2) sc_pays (fun vs H Q E h => ?_) (fun f cdv A outer s H vs Q E hr h => ⟨_, (pss_cons (ps_if (PW.pt (pw_or (pt_cmpR op_ne (pe_callB call_len_seq (by rfl) T.m_len PySem.boot_len (pa_cons (pv 1) pa_nil)) (pe_op op_add (pe_fld (pv 0) rfl) pe_int) (nomark _)) (pw_or1 (pt_cmpR op_gt (pe_callB (cr_max rfl) (by rfl) T.m_max boot_max (pa_cons (pv 1) pa_nil)) (pe_globE (by rfl) T.c_MOST_PRIZE) (nomark _))))) (pss_one (ps_ret (pe_lst (pa_cons (pe_un un_neg pe_int) pa_nil)))) pss_nil)
      (pss_cons (ps_setLc (i := 2) (own := [("draw", 3)]) (g := gName 3) rfl sc_pays.nd rfl rfl (sw_true rfl rfl rfl (by decide +kernel))  (pi_list (pe_fld (pv 0) rfl)) (blkOk_by (own := [("draw", 3)]) (N := ["self", "prizes", "sums", "draw"]) (sc := defScope s_pays) (by decide +kernel)) (fun _ _ _ _ _ => pg_name (i := 3) sc_pays.nd rfl (Or.inl rfl)) (fun _ _ _ _ _ => pts_nil) (fun _ _ _ _ _ => (pe_methG (pv 0) T.cl G_paid (hr.mono (by decide)) (pa_cons (pv 3) (pa_cons (pv 1) pa_nil)))))
      (pss_one (ps_ret (pe_op op_cat (pe_callG G_lowest_terms (hr.mono (by decide)) (by rfl) (pa_cons (pe_callB (cr_sum rfl) (by rfl) T.m_sum boot_sum (pa_cons (pv 2) pa_nil)) (pa_cons (pe_callB call_len_seq (by rfl) T.m_len PySem.boot_len (pa_cons (pv 2) pa_nil)) pa_nil))) (pe_lst (pa_cons (pe_callB (cr_max rfl) (by rfl) T.m_max boot_max (pa_cons (pv 2) pa_nil)) pa_nil))))))), ?_⟩)
  · obtain ⟨a, F, s, p, d, rfl, _⟩ := h
    rfl
  · obtain ⟨a, F, s, p, z, rfl, hp, hzl, wa, k⟩ := h
    obtain ⟨r, ws⟩ := id wa
    obtain ⟨dx, hw⟩ := ws.rc
    have k := Post.ro (ans := if z.length ≠ s.k + 1 ∨ z.any (fun (x : Nat) => decide (99999 < x)) = true then [-1] else Mu24.nums [(Mu24.lowest (Mu24.total ((Mu24.allDraws s).map (Mu24.paid z s.tickets))) (Mu24.draws s)).1, (Mu24.lowest (Mu24.total ((Mu24.allDraws s).map (Mu24.paid z s.tickets))) (Mu24.draws s)).2, ((Mu24.allDraws s).map (Mu24.paid z s.tickets)).foldl max 0]) wa k
    have fk := ev_fld (K := K) (σ := start ["self", "prizes", "sums", "draw"] [V.ref a, V.ref p]) (ta := tVar 0) (ev_var rfl) hw T.cl T.a_k (l_k r)
    rw [ws.ek] at fk
    have hlen1 : Ev (tCB (rLenS K) (tCons (tVar 1) tNil)) (start ["self", "prizes", "sums", "draw"] [V.ref a, V.ref p]) H (nI z.length) := ev_is (ev_len (ev_var rfl) (sq_of hp)) (by rw [List.length_map]; rfl)
    refine q_when (b := (!decide (nI z.length = nI (s.k + 1))) || decide ((99999 : Int) < ((z.foldl max 0 : Nat) : Int))) (et_or (et_test (ev_op hlen1 (ev_addN (b := 1) fk ev_c) (rv_ne rfl))) fun hb => et_test (ev_op (x := nI (z.foldl max 0)) (ev_max (l := z) (ev_var rfl) (sq_of hp) ?_ (WD.maxl_mem z 0).2.1) ev_c rv_I0)) (fun hb H1 e1 => ?_) (fun hb H1 e1 => ?_)
    · have hz : z.length = s.k + 1 := by
        by_cases e : nI z.length = nI (s.k + 1)
        · have e' : ((z.length : Nat) : Int) = ((s.k + 1 : Nat) : Int) := V.int.inj e
          omega
        · rw [decide_eq_false e] at hb
          cases hb
      rcases (WD.maxl_mem z 0).2.2 with h | h
      · cases z with
        | nil => cases hz
        | cons x z =>
          have h2 := (WD.maxl_mem (x :: z) 0).2.1 x (.head _)
          rw [h] at h2 ⊢
          rw [Nat.le_zero.mp h2]
          exact .head _
      · exact h
    · rw [if_pos] at k
      · exact s_retL el_neg fun q H2 hq e2 h2 => k q H2 (fresh_back e1 hq) (e1.trans e2) h2
      · by_cases e : z.length = s.k + 1
        · right
          rw [e, decide_eq_true rfl, Bool.not_true, Bool.false_or] at hb
          have hlt := of_decide_eq_true hb
          rcases (WD.maxl_mem z 0).2.2 with h | h
          · rw [h] at hlt
            omega
          · exact List.any_eq_true.mpr ⟨_, h, decide_eq_true (by omega)⟩
        · exact .inl e
    · have hz : z.length = s.k + 1 := by
        by_cases e : nI z.length = nI (s.k + 1)
        · have e' : ((z.length : Nat) : Int) = ((s.k + 1 : Nat) : Int) := V.int.inj e
          omega
        · rw [decide_eq_false e] at hb
          cases hb
      rw [Bool.or_eq_false_iff] at hb
      have hmx := of_decide_eq_false hb.2
      rw [if_neg (by
        rintro (h | h)
        · exact h hz
        · obtain ⟨x, hx, h⟩ := List.any_eq_true.mp h
          have h1 := of_decide_eq_true h
          have h2 := (WD.maxl_mem z 0).2.1 x hx
          omega), nums_V] at k
      have hd0 : 0 < Mu24.draws s := WD.draws_some ws.good.tn
      have hd1 : Mu24.draws s ≤ 1000000 := draws_le ws.good
      have hd2 : (Mu24.allDraws s).length ≤ 40000 := by
        rw [WD.allDraws_rising]
        exact Nat.le_trans (WD.rising_two ws.good.n10) (by decide)
      refine q_asgL (xs := (Mu24.allDraws s).map fun d => nI (Mu24.paid z s.tickets d)) (el_rows (K := K) (rows := Mu24.allDraws s) (fun d => nI (Mu24.paid z s.tickets d)) (ev_fld (ev_var rfl) (e1 _ _ hw) T.cl T.a_draws (l_draws r)) (ws.ex e1).dr hd2 (fun x => rfl) fun p' d H2 e hd hp' =>
        ev_meth (ev_var rfl) ((e1.trans e) _ _ hw) (l_paid r) (ea_cons (ev_var rfl) (ea_one (ev_var rfl))) (spPaid_go (ws.ex (e1.trans e)) (e _ _ hp') ((e1.trans e) _ _ hp) hz)) fun g H2 ng e2 hg => ?_
      have e12 := e1.trans e2
      have hg' : H2 g = some (nL ((Mu24.allDraws s).map (Mu24.paid z s.tickets))) := by
        rw [hg]
        show some (HO.lst _) = some (HO.lst _)
        rw [List.map_map]
        rfl
      generalize hS : (Mu24.allDraws s).map (Mu24.paid z s.tickets) = S at hg' k
      have hSl : S.length = Mu24.draws s := by
        rw [← hS, List.length_map]
        rfl
      have hmem : S.foldl max 0 ∈ S := by
        rcases (WD.maxl_mem S 0).2.2 with h | h
        · cases S with
          | nil =>
            rw [← hSl] at hd0
            exact absurd hd0 (Nat.lt_irrefl _)
          | cons x S =>
            have h2 := (WD.maxl_mem (x :: S) 0).2.1 x (.head _)
            rw [h] at h2 ⊢
            rw [Nat.le_zero.mp h2]
            exact .head _
        · exact h
      have hlS : Ev (tCB (rLenS K) (tCons (tVar 2) tNil)) [some (V.ref a), some (V.ref p), some (V.ref g), none] H2 (nI (Mu24.draws s)) := ev_is (ev_len (ev_var rfl) (sq_of hg')) (by rw [List.length_map, hSl]; rfl)
      rw [WD.total_sum] at k
      have hc := el_cat (el_call (E := E0) (dvs := []) (ea_cons (ev_sum (K := K) (σ := [some (V.ref a), some (V.ref p), some (V.ref g), none]) (te := tVar 2) (ev_var rfl) (sq_of hg')) (ea_one hlS)) (spLow_is hd0 (by omega)))
        (el_lst (ea_one (ev_max (K := K) (σ := [some (V.ref a), some (V.ref p), some (V.ref g), none]) (te := tVar 2) (ev_var rfl) (sq_of hg') hmem (WD.maxl_mem S 0).2.1)) (by show 1 ≤ 100000; decide)) (by show 2 + 1 ≤ sizeLine; decide)
      exact s_retL hc fun q H3 hq e3 h3 => k q H3 (fresh_back e12 hq) (e12.trans e3) h3

end WP
end
section
namespace WP
open PySem PySem.Spec PyProof.Rows L2 Evl WM
variable {P : Program} {w : World} {K : PySem.W.Frag} {mg : Str → Option Value} {base : Heap} {C aR aP : Addr}
/-! ### fewest -/
theorem s_forRows {σ : L2.St} {H : Hp} {D : Ends} {tu : TS} {ta : TA} {n k j : Nat} (h : EvA ta σ H [nI n, nI k]) (hn1 : 1 ≤ n) (hn : n ≤ 1000) (hk : k ≤ 100) (hp : n ^ k ≤ 1000000)
    (k0 : ∀ (p : Addr) (H1 : Hp) (vs : List V), H p = none → Ex H H1 → H1 p = some (.lst vs) → Paired (RowAt (New H) H1) vs (WD.rising n k) →
      ∃ Pv : Nat → L2.St → Hp → Prop, Pv 0 σ H1 ∧ (∀ i σ' H', i ≤ vs.length → Pv i σ' H' → SqL K H' p vs) ∧
        (∀ i x σ' H', vs[i]? = some x → Pv i σ' H' → tu { D with nx := Pv (i + 1), ct := Pv (i + 1), bk := D.nx } (σ'.set j (some x)) H') ∧ ∀ σ' H', Pv vs.length σ' H' → D.nx σ' H') :
    tFor (iList K (tCall spRising [] E0 ta)) (gName j) tu D σ H := h H (Ex.refl H) _ fun H1 e1 => ⟨n, k, rfl, hn1, hn, hk, hp, fun p H2 np e2 ⟨vs, _, hl, hrows⟩ => by
  obtain ⟨Pv, h0, h1, h2, h3⟩ := k0 p H2 vs (fresh_back e1 np) (e1.trans e2) hl (paired_mono (fun v r ⟨p, a, b, c⟩ => ⟨p, a, fresh_back e1 b, c⟩) hrows)
  exact ⟨p, rfl, ⟨vs, sq_of hl⟩, for_list Pv h0 h1 h2 h3⟩⟩
theorem cov_is (s : Mu24.State) (l : List Mu24.Pick) (m : Nat) : decide (nI (WD.mask (WD.covM l m) (Mu24.allDraws s)) = nI (allD s)) = Mu24.allCovered s l m := by
  rw [Bool.eq_iff_iff, decide_eq_true_eq]
  constructor
  · intro h
    have h1 : ((WD.mask (WD.covM l m) (Mu24.allDraws s) : Nat) : Int) = ((allD s : Nat) : Int) := V.int.inj h
    exact (WD.cov_all s l m).mp (by unfold allD at h1; omega)
  · intro h
    have h1 := (WD.cov_all s l m).mpr h
    unfold allD
    rw [h1]
theorem find_none {α : Type} {P : α → Bool} {l : List α} (h : ∀ x ∈ l, P x = false) : l.find? P = none := by
  rw [List.find?_eq_none]
  intro x hx
  rw [h x hx]
  decide
theorem find_at {α : Type} {P : α → Bool} : ∀ {l : List α} {i : Nat} {x : α}, l[i]? = some x → P x = true → (∀ y ∈ l.take i, P y = false) → l.find? P = some x
  | [], i, x, h, _, _ => by simp at h
  | a :: l, 0, x, h, hp, _ => by
    have e : a = x := Option.some.inj h
    rw [List.find?_cons, e, hp]
  | a :: l, i + 1, x, h, hp, hn => by
    have ha : P a = false := hn a (.head _)
    rw [List.find?_cons, ha]
    exact find_at (l := l) (i := i) h hp fun y hy => hn y (.tail _ hy)
theorem flat_gets (l : List Mu24.Pick) (row : List Nat) : ((WD.gets l row).flatMap Mu24.nums).map V.int = ((WD.gets l row).flatMap fun t => t).map nI := flat_nums _
theorem all_le {s : Mu24.State} (g : Good s) : (Mu24.allTickets s).length ≤ 1024 := by
  rw [WD.allTickets_rising]
  exact WD.rising_two g.n10
theorem all_pos {s : Mu24.State} (g : Good s) : 0 < (Mu24.allTickets s).length := by
  rw [WD.allTickets_rising]
  exact WD.rising_some g.kn
def fewestAns (s : Mu24.State) (m : Nat) : Mu24.Ans := match Mu24.fewest s m 4 0 with
  | some l => (l.length : Int) :: l.flatMap Mu24.nums
  | none => [-6]
theorem sc_fewest : FnScope ["self", "m", "by_choice", "size", "row", "found", "place", "ticket"] ["self", "m"] (defScope s_fewest) := ⟨rfl, rfl, rfl, by decide +kernel, rfl, by decide +kernel, by decide +kernel⟩
theorem ok_fewest (D : MethAt K C "fewest" "Wheel.fewest" s_fewest ["self", "m"]) (T : Txt K mg C aR aP) (G_rising_rows : GoodD P w K mg base 1 "rising_rows" ["n", "size"] spRising)
    (G_is_wanted : GoodM P w K mg base C 1 "is_wanted" ["self", "m"] (spWanted C)) (G_covered_by : GoodM P w K mg base C 1 "covered_by" ["self", "ticket", "m"] (spBy C)) (G_numbers_of : GoodM P w K mg base C 1 "numbers_of" ["self", "row"] (spNums C)) :
    GoodM P w K mg base C 2 "fewest" ["self", "m"] (sp1 C 20 .fewest) := by
  refine D.ok (N := ["self", "m", "by_choice", "size", "row", "found", "place", "ticket"]) (k := 1) sc_fewest (fun vs H Q E h => ?_) (fun f cdv A outer s H vs Q E hr h => ⟨_, (pss_cons (ps_if (pt_not (pt_val (pe_methG (pv 0) T.cl G_is_wanted (hr.mono (by decide)) (pa_cons (pv 1) pa_nil)))) (pss_one (ps_ret (pe_lst (pa_cons (pe_un un_neg pe_int) pa_nil)))) pss_nil)
      (pss_cons (ps_if (pt_cmpR op_gt (pe_callB call_len_seq (by rfl) T.m_len PySem.boot_len (pa_cons (pe_fld (pv 0) rfl) pa_nil)) (pe_globE (by rfl) T.c_MOST_DIFFERENT) (nomark _)) (pss_one (ps_ret (pe_lst (pa_cons (pe_un un_neg pe_int) pa_nil)))) pss_nil)
      (pss_cons (ps_setLc (i := 2) (own := [("ticket", 7)]) (g := gName 7) rfl sc_fewest.nd rfl rfl (sw_true rfl rfl rfl (by decide +kernel))  (pi_list (pe_fld (pv 0) rfl)) (blkOk_by (own := [("ticket", 7)]) (N := ["self", "m", "by_choice", "size", "row", "found", "place", "ticket"]) (sc := defScope s_fewest) (by decide +kernel)) (fun _ _ _ _ _ => pg_name (i := 7) sc_fewest.nd rfl (Or.inl rfl)) (fun _ _ _ _ _ => pts_nil) (fun _ _ _ _ _ => (pe_methG (pv 0) T.cl G_covered_by (hr.mono (by decide)) (pa_cons (pv 7) (pa_cons (pv 1) pa_nil)))))
      (pss_cons (ps_for PassesOwn.never rfl (pi_range2 (by rfl) T.m_range (pa_cons pe_int (pa_cons (pe_op op_add (pe_globE (by rfl) T.c_LONGEST_ROW) pe_int) pa_nil))) (pg_name (i := 3) sc_fewest.nd rfl (Or.inl rfl)) (pss_one (ps_for PassesOwn.never rfl (pi_list (pe_callG G_rising_rows (hr.mono (by decide)) (by rfl) (pa_cons (pe_callB call_len_seq (by rfl) T.m_len PySem.boot_len (pa_cons (pv 2) pa_nil)) (pa_cons (pv 3) pa_nil)))) (pg_name (i := 4) sc_fewest.nd rfl (Or.inl rfl)) (pss_cons (ps_set (i := 5) sc_fewest.nd rfl (Or.inl rfl) pe_int)
      (pss_cons (ps_for PassesOwn.never rfl (pi_list (pv 4)) (pg_name (i := 6) sc_fewest.nd rfl (Or.inl rfl)) (pss_one (ps_set (i := 5) sc_fewest.nd rfl (Or.inl rfl) (pe_op op_or (pv 5) (pe_ix ix_list (pv 2) (pv 6) (fun _ _ => rfl))))))
      (pss_one (ps_if (pt_cmpR op_eq (pv 5) (pe_fld (pv 0) rfl) (nomark _)) (pss_one (ps_ret (pe_op op_cat (pe_lst (pa_cons (pv 3) pa_nil)) (pe_methG (pv 0) T.cl G_numbers_of (hr.mono (by decide)) (pa_cons (pv 4) pa_nil))))) pss_nil)))))))
      (pss_one (ps_ret (pe_lst (pa_cons (pe_un un_neg pe_int) pa_nil)))))))), ?_⟩)
  · obtain ⟨a, F, s, m, rfl, _⟩ := h
    rfl
  · obtain ⟨a, F, s, m, rfl, hm, wa, k⟩ := h
    obtain ⟨r, ws⟩ := id wa
    obtain ⟨dx, hw⟩ := ws.rc
    have k := Post.ro (ans := if m = 0 ∨ s.k < m then [-1] else if 60 < (Mu24.allTickets s).length then [-7] else fewestAns s m) wa k
    refine q_when (b := !wanted s m) (et_not (et_B (ev_meth (ev_var rfl) hw (l_is_wanted r) (ea_one (ev_var rfl)) (spWanted_go ws)))) (fun hb H1 e1 => ?_) (fun hb H1 e1 => ?_)
    · rw [if_pos (wanted_no (by cases h : wanted s m; rfl; rw [h] at hb; cases hb))] at k
      exact s_retL el_neg fun q H2 hq e2 h2 => k q H2 (fresh_back e1 hq) (e1.trans e2) h2
    · obtain ⟨hm0, hmk⟩ := wanted_yes (s := s) (m := m) (by cases h : wanted s m; rw [h] at hb; cases hb; rfl)
      rw [if_neg (by omega)] at k
      refine q_when (b := decide ((60 : Int) < ((Mu24.allTickets s).length : Int))) (et_test (ev_op (x := nI (Mu24.allTickets s).length) (ev_lenR (ev_fld (ev_var rfl) (e1 _ _ hw) T.cl T.a_choices (l_choices r)) (ws.ex e1).ch) ev_c rv_I0)) (fun hb2 H2 e2 => ?_) (fun hb2 H2 e2 => ?_)
      · have hgt := of_decide_eq_true hb2
        rw [if_pos (by omega)] at k
        exact s_retL el_neg fun q H3 hq e3 h3 => k q H3 (fresh_back (e1.trans e2) hq) ((e1.trans e2).trans e3) h3
      · have hgt := of_decide_eq_false hb2
        rw [if_neg (by omega)] at k
        have e12 := e1.trans e2
        have hN1 := all_pos ws.good
        generalize hN : (Mu24.allTickets s).length = N at hgt hN1
        have hby : EvL (tLc (iList K (tFld K (tVar 0) "choices")) (gName 7) tYes (tMeth C "covered_by" (spBy C) [] E0 (tVar 0) (tCons (tVar 7) (tCons (tVar 1) tNil))) [7]) (start ["self", "m", "by_choice", "size", "row", "found", "place", "ticket"] [V.ref a, nI m]) H2 ((Mu24.allTickets s).map fun t => nI (WD.mask (WD.hitM t m) (Mu24.allDraws s))) :=
          el_rows (K := K) (rows := Mu24.allTickets s) (fun t => nI (WD.mask (WD.hitM t m) (Mu24.allDraws s))) (ev_fld (ev_var rfl) (e12 _ _ hw) T.cl T.a_choices (l_choices r)) (ws.ex e12).ch (by omega) (fun x => rfl) fun p' t H3 e ht hp' =>
            ev_meth (ev_var rfl) ((e12.trans e) _ _ hw) (l_covered_by r) (ea_cons (ev_var rfl) (ea_one (ev_var rfl))) (spBy_go (ws.ex (e12.trans e)) (e _ _ hp') (all_lt ht) (by omega))
        refine q_asgL hby fun g H3 ng e3 hg => ?_
        have e13 := e12.trans e3
        have hgl : ((Mu24.allTickets s).map fun t => nI (WD.mask (WD.hitM t m) (Mu24.allDraws s))).length = N := by rw [List.length_map]; exact hN
        have hfew := WD.fewest_is (s := s) ws.good.tn hm0
        refine q_forR2 (lo := 1) (n := 3 + 1) (ea_cons ev_c (ea_one (ev_op ev_c ev_c rv_I0))) (by omega)
          (fun i σ H' => ∃ v3 v4 v5 v6 v7 : Option V, σ = [some (.ref a), some (nI m), some (.ref g), v3, v4, v5, v6, v7] ∧ Ex H3 H' ∧ WD.sizesFrom s m 3 1 = WD.sizesFrom s m (3 - i) (1 + i))
          (fun H4 e4 => ⟨none, none, none, none, none, rfl, e4, rfl⟩) ?_ ?_
        · rintro i σ H4 hi ⟨v3, v4, v5, v6, v7, rfl, e4, hsz⟩
          have hi3 : i < 3 := by omega
          obtain ⟨f, hf⟩ : ∃ f, 3 - i = f + 1 := ⟨3 - i - 1, by omega⟩
          rw [hf] at hsz
          have hsz := hsz.trans (WD.sizes_step s m (f := f) (k := 1 + i))
          have hf2 : 3 - (i + 1) = f := by omega
          have hsize : V.int ((1 : Int) + (i : Int)) = nI (1 + i) := congrArg V.int (by omega)
          rw [hsize]
          have hlenB : Ev (tCB (rLenS K) (tCons (tVar 2) tNil)) ([some (.ref a), some (nI m), some (.ref g), some (nI (1 + i)), v4, v5, v6, v7] : L2.St) H4 (nI N) := ev_is (ev_len (ev_var rfl) (sq_of (e4 _ _ hg))) (by rw [hgl]; rfl)
          refine s_forRows (K := K) (n := N) (k := 1 + i) (ea_cons hlenB (ea_one (ev_var rfl))) hN1 (by omega) (by omega) ?_ fun p H5 vs np e5 hp hrows => ?_
          · exact Nat.le_trans (Nat.pow_le_pow_left (by omega : N ≤ 60) (1 + i)) (Nat.le_trans (Nat.pow_le_pow_right (by decide) (by omega : 1 + i ≤ 3)) (by decide))
          · have hvl := Paired.length hrows
            have e45 := e4.trans e5
            refine ⟨fun j σ H' => ∃ v4 v5 v6 v7 : Option V, σ = [some (.ref a), some (nI m), some (.ref g), some (nI (1 + i)), v4, v5, v6, v7] ∧ Ex H5 H' ∧ ∀ y ∈ (WD.rising N (1 + i)).take j, WD.rowOk s m y = false,
              ⟨v4, v5, v6, v7, rfl, Ex.refl H5, fun y hy => by rw [List.take_zero] at hy; cases hy⟩, fun j σ' H' _ hh => let ⟨_, _, _, _, _, ex, _⟩ := hh; sq_of (ex _ _ hp), ?_, ?_⟩
            · rintro j x σ H6 hx ⟨v4, v5, v6, v7, rfl, e6, hno⟩
              obtain ⟨row, hrow, b, rfl, nb, hb⟩ := paired_get hrows hx
              have hmem := List.mem_of_getElem? hrow
              have hrl : row.length = 1 + i := WD.rising_len hmem
              have hrlt : ∀ x ∈ row, x < (Mu24.allTickets s).length := by
                rw [hN]
                exact WD.rising_lt hmem
              refine q_asg (v := nI (WD.mask (WD.covM (WD.gets (Mu24.allTickets s) []) m) (Mu24.allDraws s))) ?_ fun H7 e7 => ?_
              · have e0 : WD.mask (WD.covM (WD.gets (Mu24.allTickets s) []) m) (Mu24.allDraws s) = 0 := by
                  rw [← WD.mask_none (Mu24.allDraws s)]
                  exact WD.mask_congr fun d _ => by
                    show WD.covM [] m d = false
                    rw [WD.covM_nil]
                    exact decide_eq_false (by omega)
                rw [e0]
                exact ev_c
              · have e67 := e6.trans e7
                refine q_forLn (a := b) (xs := row.map nI) (ev_var rfl) (sq_of (e67 _ _ hb))
                  (fun q σ H' => ∃ v6 v7 : Option V, σ = [some (.ref a), some (nI m), some (.ref g), some (nI (1 + i)), some (.ref b), some (nI (WD.mask (WD.covM (WD.gets (Mu24.allTickets s) (row.take q)) m) (Mu24.allDraws s))), v6, v7] ∧ Ex H5 H')
                  (fun H8 e8 => ⟨v6, v7, rfl, e67.trans e8⟩) (fun q σ H' _ hh => let ⟨_, _, _, ex⟩ := hh; sq_of (ex _ _ hb)) ?_ ?_
                · rintro q x σ H8 hx8 ⟨v6, v7, rfl, e8⟩
                  obtain ⟨j2, hj2, rfl⟩ := map_at hx8
                  have hj2l := hrlt j2 (List.mem_of_getElem? hj2)
                  have htj : (Mu24.allTickets s)[j2]? = some (Mu24.allTickets s)[j2] := List.getElem?_eq_getElem hj2l
                  have e3' : WD.gets (Mu24.allTickets s) (row.take (q + 1)) = WD.gets (Mu24.allTickets s) (row.take q) ++ [(Mu24.allTickets s)[j2]] := by
                    rw [take_more hj2]
                    unfold WD.gets
                    rw [List.map_append, List.map_cons, List.map_nil, getD_at htj]
                  have e9 : WD.mask (WD.covM (WD.gets (Mu24.allTickets s) (row.take (q + 1))) m) (Mu24.allDraws s) = WD.mask (WD.covM (WD.gets (Mu24.allTickets s) (row.take q)) m) (Mu24.allDraws s) ||| WD.mask (WD.hitM (Mu24.allTickets s)[j2] m) (Mu24.allDraws s) := by
                    rw [WD.mask_or, e3']
                    exact WD.mask_congr fun d _ => WD.covM_snoc _ _ _ _
                  refine s_asg (v := nI (WD.mask (WD.covM (WD.gets (Mu24.allTickets s) (row.take (q + 1))) m) (Mu24.allDraws s))) ?_ fun H9 e10 => ⟨_, _, rfl, e8.trans e10⟩
                  rw [e9]
                  refine ev_or (ev_var rfl) (ev_op (ev_var rfl) (ev_var rfl) (rv_ixL (sq_of ((e45.trans e8) _ _ hg)) (atI_nat ?_)))
                  rw [List.getElem?_map, htj]
                  rfl
                · rintro σ H8 ⟨v6, v7, rfl, e8⟩
                  rw [List.length_map, List.take_length]
                  have e38 := e45.trans e8
                  have e18 := e13.trans e38
                  have hfl := ev_fld (K := K) (σ := [some (V.ref a), some (nI m), some (V.ref g), some (nI (1 + i)), some (V.ref b), some (nI (WD.mask (WD.covM (WD.gets (Mu24.allTickets s) row) m) (Mu24.allDraws s))), v6, v7]) (ta := tVar 0) (ev_var rfl) (e18 _ _ hw) T.cl T.a_all_draws (l_all_draws r)
                  rw [ws.ea] at hfl
                  refine s_when (b := decide (nI (WD.mask (WD.covM (WD.gets (Mu24.allTickets s) row) m) (Mu24.allDraws s)) = nI (allD s))) (et_test (ev_op (ev_var rfl) hfl (rv_eq rfl))) (fun hb3 H9 e9 => ?_) (fun hb3 H9 e9 => ?_)
                  · rw [cov_is] at hb3
                    have hfind : WD.rowAt s m (1 + i) = some row := by
                      unfold WD.rowAt
                      rw [hN]
                      exact find_at hrow hb3 hno
                    rw [hfind] at hsz
                    have hsz' : WD.sizesFrom s m 3 1 = some row := hsz
                    have hans : fewestAns s m = ((1 + i : Nat) : Int) :: (WD.gets (Mu24.allTickets s) row).flatMap Mu24.nums := by
                      unfold fewestAns
                      rw [hfew, hsz']
                      show ((WD.gets (Mu24.allTickets s) row).length : Int) :: _ = _
                      rw [WD.gets_len, hrl]
                    rw [hans, List.map_cons, flat_gets] at k
                    have e19 := e18.trans e9
                    have hb9 : H9 b = some (nL row) := (e8.trans e9) _ _ hb
                    have hc := el_cat (el_lst (vs := [nI (1 + i)]) (ea_one (ev_var (σ := [some (V.ref a), some (nI m), some (V.ref g), some (nI (1 + i)), some (V.ref b), some (nI (WD.mask (WD.covM (WD.gets (Mu24.allTickets s) row) m) (Mu24.allDraws s))), v6, v7]) (H := H9) (i := 3) rfl)) (by show 1 ≤ 100000; decide))
                      (el_meth (ta := tVar 0) (t := tCons (tVar 4) tNil) (ev_var rfl) (e19 _ _ hw) (l_numbers_of r) (ea_one (ev_var rfl)) (spNums_go (ws.ex e19) hb9 hrlt (by omega))) ?_
                    · exact s_retL hc fun q H10 hq e10 h10 => k q H10 (fresh_back e19 hq) (e19.trans e10) h10
                    · have hfl6 : ∀ l : List Nat, (∀ x ∈ l, x < (Mu24.allTickets s).length) → ((WD.gets (Mu24.allTickets s) l).flatMap fun t => t).length ≤ l.length * 6 := by
                        intro l
                        induction l with
                        | nil => intro _; exact Nat.le_refl _
                        | cons x l ih =>
                          intro hl
                          have hx := hl x (.head _)
                          have e1 : (WD.gets (Mu24.allTickets s) (x :: l)).flatMap (fun t => t) = (Mu24.allTickets s).getD x [] ++ (WD.gets (Mu24.allTickets s) l).flatMap fun t => t := rfl
                          have htx : (Mu24.allTickets s)[x]? = some (Mu24.allTickets s)[x] := List.getElem?_eq_getElem hx
                          rw [e1, List.length_append, getD_at htx, all_len (List.getElem_mem hx), List.length_cons, Nat.succ_mul]
                          have := ih fun y hy => hl y (.tail _ hy)
                          have := ws.good.k6
                          omega
                      have h6 := hfl6 row hrlt
                      rw [List.length_map]
                      show 1 + _ ≤ _
                      exact Nat.le_trans (by omega : _ ≤ 10000) (by decide)
                  · rw [cov_is] at hb3
                    refine ⟨_, _, _, _, rfl, e8.trans e9, fun y hy => ?_⟩
                    rw [take_more hrow] at hy
                    rcases List.mem_append.mp hy with hy | hy
                    · exact hno y hy
                    · rw [List.mem_singleton.mp hy]
                      exact hb3
            · rintro σ H6 ⟨v4, v5, v6, v7, rfl, e6, hno⟩
              rw [hvl, List.take_length] at hno
              have hfind : WD.rowAt s m (1 + i) = none := by
                unfold WD.rowAt
                rw [hN]
                exact find_none hno
              rw [hfind] at hsz
              refine ⟨_, _, _, _, _, rfl, e45.trans e6, ?_⟩
              rw [hf2]
              exact hsz
        · rintro σ H4 ⟨v3, v4, v5, v6, v7, rfl, e4, hsz⟩
          have hsz' : WD.sizesFrom s m 3 1 = none := hsz
          have hans : fewestAns s m = [-6] := by
            unfold fewestAns
            rw [hfew, hsz']
            rfl
          rw [hans] at k
          exact s_retL el_neg fun q H5 hq e5 h5 => k q H5 (fresh_back (e13.trans e4) hq) ((e13.trans e4).trans e5) h5

end WP
end
section
namespace WP
open PySem PySem.Spec PyProof.Rows L2 Evl WM
variable {P : Program} {w : World} {K : PySem.W.Frag} {mg : Str → Option Value} {base : Heap} {C aR aP : Addr}
/-! ### frames -/
structure Fr (F : Addr → Prop) (H H' : Hp) : Prop where
  keep : ∀ b o, H b = some o → ¬ F b → H' b = some o
  dom : ∀ b, H' b = none → H b = none
theorem Fr.ex {F : Addr → Prop} {H H1 H2 : Hp} (f : Fr F H H1) (e : Ex H1 H2) : Fr F H H2 := ⟨fun b o h n => e b o (f.keep b o h n), fun b h => f.dom b (fresh_back e h)⟩
theorem Fr.of {F : Addr → Prop} {H H1 : Hp} (e : Ex H H1) : Fr F H H1 := ⟨fun b o h _ => e b o h, fun b h => fresh_back e h⟩
/-- the footprint grows by what is new -/
def Grow (F : Addr → Prop) (H : Hp) (x : Addr) : Prop := F x ∨ H x = none
theorem Fr.upd {F : Addr → Prop} {H H1 : Hp} {a : Addr} {o : HO} (f : Fr F H H1) (ha : Grow F H a) : Fr F H (upd H1 a o) := ⟨fun b u h n => by
  have hne : b ≠ a := fun e => by
    subst e
    rcases ha with ha | ha
    · exact n ha
    · rw [ha] at h
      cases h
  rw [upd_ne hne]
  exact f.keep b u h n, fun b h => by
  by_cases e : b = a
  · subst e
    rw [upd_same] at h
    cases h
  · rw [upd_ne e] at h
    exact f.dom b h⟩
theorem Fr.new {F : Addr → Prop} {H H1 : Hp} {p : Addr} (f : Fr F H H1) (hp : H1 p = none) : Grow F H p := .inr (f.dom p hp)
theorem post_of {a : Addr} {F : Addr → Prop} {H : Hp} {res : Mu24.Abs × Mu24.Ans} {Q : VK} (k : Post C a F H res Q) {H1 : Hp} {st : Mu24.Abs} {ans : Mu24.Ans} (hr : res = (st, ans)) (wa : WA C (Grow F H) H1 a st) (f : Fr F H H1) :
    ∀ (p : Addr) (H2 : Hp), H1 p = none → Ex H1 H2 → H2 p = some (.lst (ans.map V.int)) → Q (.ref p) H2 := fun p H2 hp e h => by
  subst hr
  exact k H2 p (Grow F H) (f.dom p hp) h (wa.ex e) (fun _ q => q) fun b o hb n => e b o (f.keep b o hb n)
/-! ### slices -/
theorem cut_take (xs : List V) (i : Nat) : cutV xs none (some (i : Int)) = xs.take i := by
  unfold cutV
  rw [HT.sIx_none, HT.sIx_nat, List.drop_zero, Nat.sub_zero]
  apply List.ext_getElem?
  intro j
  rw [List.getElem?_take, List.getElem?_take]
  by_cases h : j < i
  · by_cases h2 : j < xs.length
    · rw [if_pos (by omega), if_pos h]
    · rw [if_neg (by omega), if_pos h, List.getElem?_eq_none (by omega)]
  · rw [if_neg (by omega), if_neg h]
theorem cut_drop (xs : List V) (i : Nat) : cutV xs (some (i : Int)) none = xs.drop i := by
  unfold cutV
  rw [HT.sIx_none, HT.sIx_nat]
  by_cases h : i ≤ xs.length
  · rw [Nat.min_eq_left h]
    exact List.take_of_length_le (by rw [List.length_drop]; omega)
  · rw [Nat.min_eq_right (by omega), Nat.sub_self, List.take_zero, List.drop_eq_nil_of_le (by omega)]
theorem cut_mid (xs : List V) (i j : Nat) (h : i ≤ j) (h2 : j ≤ xs.length) : cutV xs (some (i : Int)) (some (j : Int)) = (xs.drop i).take (j - i) := by
  unfold cutV
  rw [HT.sIx_nat, HT.sIx_nat, Nat.min_eq_left h2, Nat.min_eq_left (by omega)]
/-! ### the wheel, its tickets anew -/
theorem RowsAt.updI {F : Addr → Prop} {H : Hp} {l a dx : Addr} {rows : List (List Nat)} {fs : List (Str × V)} {o : HO} (ha : H a = some (.ins C dx fs)) (h : RowsAt F H l rows) : RowsAt F (upd H a o) l rows := by
  obtain ⟨vs, h1, h2, h3⟩ := h
  have ne : ∀ (x : Addr) (ys : List V), H x = some (.lst ys) → x ≠ a := fun x ys hx e => by
    subst e
    rw [ha] at hx
    cases hx
  refine ⟨vs, h1, by rw [upd_ne (ne l _ h2)]; exact h2, paired_mono (fun v r ⟨p, e, f, q⟩ => ⟨p, e, f, ?_⟩) h3⟩
  rw [upd_ne (ne p _ q)]
  exact q
theorem Good.tick {s : Mu24.State} (g : Good s) {l : List Mu24.Pick} (h : ∀ a ∈ l, Mu24.isPick s s.k a = true) (h2 : l.length ≤ 30) : Good { s with tickets := l } := ⟨g.n2, g.n10, g.k1, g.k6, g.kn, g.t1, g.t6, g.tn, h, h2⟩
theorem WSt.set {F : Addr → Prop} {H : Hp} {a p dx : Addr} {r : WR} {s : Mu24.State} {l : List Mu24.Pick} (ws : WSt C F H a r s) (hw : H a = some (.ins C dx (wF r))) (hp : RowsAt F H p l) (n1 : p ≠ r.lc) (n2 : p ≠ r.ld) (n3 : p ≠ r.lw)
    (hl : ∀ a ∈ l, Mu24.isPick s s.k a = true) (hl2 : l.length ≤ 30) : WSt C F (upd H a (.ins C dx (wF { r with tl := p }))) a { r with tl := p } { s with tickets := l } :=
  { rc := ⟨dx, upd_same⟩, fa := ws.fa, eb := ws.eb, en := ws.en, ek := ws.ek, et := ws.et, ea := ws.ea, tick := hp.updI hw, ch := ws.ch.updI hw, dr := ws.dr.updI hw, fw := ws.fw
    dw := by
      have e : r.lw ≠ a := fun e => by
        have h := ws.dw
        rw [e, hw] at h
        cases h
      show upd H a _ r.lw = _
      rw [upd_ne e]
      exact ws.dw
    good := ws.good.tick hl hl2, ne1 := n1, ne2 := n2, ne3 := n3 }
/-! ### needed -/
theorem needed_all {s : Mu24.State} {m : Nat} {f i : Nat} {l : List Mu24.Pick} (h : ∀ a ∈ l, Mu24.isPick s s.k a = true) : ∀ a ∈ l.eraseIdx i, Mu24.isPick s s.k a = true := fun a ha => h a (List.mem_of_mem_eraseIdx ha)
theorem erase_len {α : Type} {l : List α} {i : Nat} (h : i < l.length) : (l.eraseIdx i).length = l.length - 1 := by
  rw [List.length_eraseIdx, if_pos h]
theorem sc_needed : FnScope ["self", "m", "before", "place", "others"] ["self", "m"] (defScope s_needed) := ⟨rfl, rfl, rfl, by decide +kernel, rfl, by decide +kernel, by decide +kernel⟩
theorem ok_needed (D : MethAt K C "needed" "Wheel.needed" s_needed ["self", "m"]) (T : Txt K mg C aR aP)
    (G_is_wanted : GoodM P w K mg base C 1 "is_wanted" ["self", "m"] (spWanted C)) (G_covered : GoodM P w K mg base C 2 "covered" ["self", "tickets", "m"] (spCovered C)) :
    GoodM P w K mg base C 3 "needed" ["self", "m"] (sp1 C 20 .needed) := by
  refine D.ok (N := ["self", "m", "before", "place", "others"]) (k := 2) sc_needed (fun vs H Q E h => ?_) (fun f cdv A outer s H vs Q E hr h => ⟨_, (pss_cons (ps_if (pt_not (pt_val (pe_methG (pv 0) T.cl G_is_wanted (hr.mono (by decide)) (pa_cons (pv 1) pa_nil)))) (pss_one (ps_ret (pe_lst (pa_cons (pe_un un_neg pe_int) pa_nil)))) pss_nil)
      (pss_cons (ps_if (pt_cmpR op_ne (pe_methG (pv 0) T.cl G_covered (hr.mono (by decide)) (pa_cons (pe_fld (pv 0) rfl) (pa_cons (pv 1) pa_nil))) (pe_fld (pv 0) rfl) (nomark _)) (pss_one (ps_ret (pe_lst (pa_cons (pe_un un_neg pe_int) pa_nil)))) pss_nil)
      (pss_cons (ps_set (i := 2) sc_needed.nd rfl (Or.inl rfl) (pe_callB call_len_seq (by rfl) T.m_len PySem.boot_len (pa_cons (pe_fld (pv 0) rfl) pa_nil)))
      (pss_cons (ps_set (i := 3) sc_needed.nd rfl (Or.inl rfl) pe_int)
      (pss_cons (ps_while PassesOwn.never (pt_cmpR op_lt (pv 3) (pe_callB call_len_seq (by rfl) T.m_len PySem.boot_len (pa_cons (pe_fld (pv 0) rfl) pa_nil)) (nomark _)) (pss_cons (ps_set (i := 4) sc_needed.nd rfl (Or.inl rfl) (pe_op op_cat (pe_slice sl_list (pe_fld (pv 0) rfl) po_none (po_some (pv 3))) (pe_slice sl_list (pe_fld (pv 0) rfl) (po_some (pe_op op_add (pv 3) pe_int)) po_none)))
      (pss_one (ps_if (pt_cmpR op_eq (pe_methG (pv 0) T.cl G_covered (hr.mono (by decide)) (pa_cons (pv 4) (pa_cons (pv 1) pa_nil))) (pe_fld (pv 0) rfl) (nomark _)) (pss_one (ps_fld (pv 0) (pv 4) rfl)) (pss_one (ps_set (i := 3) sc_needed.nd rfl (Or.inl rfl) (pe_op op_add (pv 3) pe_int)))))))
      (pss_one (ps_ret (pe_lst (pa_cons (pe_op op_sub (pv 2) (pe_callB call_len_seq (by rfl) T.m_len PySem.boot_len (pa_cons (pe_fld (pv 0) rfl) pa_nil))) (pa_cons (pe_callB call_len_seq (by rfl) T.m_len PySem.boot_len (pa_cons (pe_fld (pv 0) rfl) pa_nil)) pa_nil)))))))))), ?_⟩)
  · obtain ⟨a, F, s, m, rfl, _⟩ := h
    rfl
  · obtain ⟨a, F, s, m, rfl, hm, wa, k⟩ := h
    obtain ⟨r, ws⟩ := id wa
    obtain ⟨dx, hw⟩ := ws.rc
    have hst : Mu24.step (some s) (.needed m) = if m = 0 ∨ s.k < m then (some s, [-1]) else if Mu24.allCovered s s.tickets m = false then (some s, [-6]) else (some { s with tickets := Mu24.needed s m (s.tickets.length + 1) 0 s.tickets }, [((s.tickets.length - (Mu24.needed s m (s.tickets.length + 1) 0 s.tickets).length : Nat) : Int), ((Mu24.needed s m (s.tickets.length + 1) 0 s.tickets).length : Int)]) := rfl
    rw [hst] at k
    refine q_when (b := !wanted s m) (et_not (et_B (ev_meth (ev_var rfl) hw (l_is_wanted r) (ea_one (ev_var rfl)) (spWanted_go ws)))) (fun hb H1 e1 => ?_) (fun hb H1 e1 => ?_)
    · rw [if_pos (wanted_no (by cases h : wanted s m; rfl; rw [h] at hb; cases hb))] at k
      have k := Post.ro wa k
      exact s_retL el_neg fun q H2 hq e2 h2 => k q H2 (fresh_back e1 hq) (e1.trans e2) h2
    · obtain ⟨hm0, hmk⟩ := wanted_yes (s := s) (m := m) (by cases h : wanted s m; rw [h] at hb; cases hb; rfl)
      rw [if_neg (by omega)] at k
      have hfl := ev_fld (K := K) (σ := start ["self", "m", "before", "place", "others"] [V.ref a, nI m]) (ta := tVar 0) (ev_var rfl) (e1 _ _ hw) T.cl T.a_all_draws (l_all_draws r)
      rw [ws.ea] at hfl
      refine q_when (b := !decide (nI (WD.mask (WD.covM s.tickets m) (Mu24.allDraws s)) = nI (allD s))) (et_test (ev_op (ev_meth (ev_var rfl) (e1 _ _ hw) (l_covered r) (ea_cons (ev_fld (ev_var rfl) (e1 _ _ hw) T.cl T.a_tickets (l_tickets r)) (ea_one (ev_var rfl))) (spCovered_go (ws.ex e1) (ws.ex e1).tick (tk_lt ws.good) (by omega))) hfl (rv_ne rfl))) (fun hb2 H2 e2 => ?_) (fun hb2 H2 e2 => ?_)
      · rw [cov_is] at hb2
        rw [if_pos (by cases h : Mu24.allCovered s s.tickets m; rfl; rw [h] at hb2; cases hb2)] at k
        have k := Post.ro wa k
        exact s_retL el_neg fun q H3 hq e3 h3 => k q H3 (fresh_back (e1.trans e2) hq) ((e1.trans e2).trans e3) h3
      · rw [cov_is] at hb2
        rw [if_neg (by intro h; rw [h] at hb2; cases hb2)] at k
        have e12 := e1.trans e2
        refine q_asg (v := nI s.tickets.length) (ev_lenR (ev_fld (ev_var rfl) (e12 _ _ hw) T.cl T.a_tickets (l_tickets r)) (ws.ex e12).tick) fun H3 e3 => ?_
        refine q_asg (v := nI 0) ev_c fun H4 e4 => ?_
        have e14 := (e12.trans e3).trans e4
        have ws4 : WSt C (Grow F H) H4 a r s := (ws.ex e14).mono (fun _ f => .inl f) fun _ _ _ h => h
        refine q_while (fun q σ H' => ∃ (l : List Mu24.Pick) (i : Nat) (r' : WR) (v4 : Option V), σ = [some (.ref a), some (nI m), some (nI s.tickets.length), some (nI i), v4] ∧ q + i = l.length ∧ WSt C (Grow F H) H' a r' { s with tickets := l } ∧ Fr F H H' ∧
            Mu24.needed s m (q + 1) i l = Mu24.needed s m (s.tickets.length + 1) 0 s.tickets) s.tickets.length
          ⟨s.tickets, 0, r, none, rfl, rfl, ws4, Fr.of e14, rfl⟩ ?_
        rintro q σ H5 ⟨l, i, r', v4, rfl, hq, ws5, fr5, hn⟩
        obtain ⟨dx5, hw5⟩ := ws5.rc
        have hll := ws5.good.len
        have hll' : l.length ≤ 30 := hll
        have hlen5 : ∀ σ : L2.St, σ[0]? = some (some (V.ref a)) → Ev (tCB (rLenS K) (tCons (tFld K (tVar 0) "tickets") tNil)) σ H5 (nI l.length) := fun σ h0 => ev_lenR (ev_fld (ev_var h0) hw5 T.cl T.a_tickets (l_tickets r')) ws5.tick
        refine ⟨decide ((i : Int) < (l.length : Int)), et_test (ev_op (ev_var rfl) (hlen5 _ rfl) rv_I0), fun hb3 H6 e6 => ?_, fun hb3 H6 e6 => ?_⟩
        · have hi : i < l.length := by
            have := of_decide_eq_true hb3
            omega
          obtain ⟨q', rfl⟩ : ∃ q', q = q' + 1 := ⟨q - 1, by omega⟩
          rw [WD.needed_step hi] at hn
          refine ⟨fun σ2 H2 => ∃ (l : List Mu24.Pick) (i : Nat) (r' : WR) (v4 : Option V), σ2 = [some (.ref a), some (nI m), some (nI s.tickets.length), some (nI i), v4] ∧ q' + i = l.length ∧ WSt C (Grow F H) H2 a r' { s with tickets := l } ∧ Fr F H H2 ∧
            Mu24.needed s m (q' + 1) i l = Mu24.needed s m (s.tickets.length + 1) 0 s.tickets, fun σ2 H2 h => ⟨q', Nat.lt_succ_self _, h⟩, ?_⟩
          obtain ⟨ts, fts, hts, hrows⟩ := ws5.tick
          have htl := Paired.length hrows
          have htl' : ts.length = l.length := htl
          have hcat : EvL (tOp rCat (tSl (rSlL K) (tFld K (tVar 0) "tickets") tNoPart (tPart (tVar 3))) (tSl (rSlL K) (tFld K (tVar 0) "tickets") (tPart (tOp (rI0 fun i j => .int (i + j)) (tVar 3) (tC (.int 1)))) tNoPart)) [some (V.ref a), some (nI m), some (nI s.tickets.length), some (nI i), v4] H6 (ts.eraseIdx i) := by
            have h1 := el_sl (K := K) (σ := [some (V.ref a), some (nI m), some (nI s.tickets.length), some (nI i), v4]) (ev_fld (ta := tVar 0) (ev_var rfl) (e6 _ _ hw5) T.cl T.a_tickets (l_tickets r')) eo_none (eo_some (te := tVar 3) (i := (i : Int)) (ev_var rfl)) (sq_of (e6 _ _ hts))
            have h2 := el_sl (K := K) (σ := [some (V.ref a), some (nI m), some (nI s.tickets.length), some (nI i), v4]) (ev_fld (ta := tVar 0) (ev_var rfl) (e6 _ _ hw5) T.cl T.a_tickets (l_tickets r')) (eo_some (i := ((i + 1 : Nat) : Int)) (ev_addN (a := i) (b := 1) (ta := tVar 3) (ev_var rfl) ev_c)) eo_none (sq_of (e6 _ _ hts))
            rw [cut_take] at h1
            rw [cut_drop] at h2
            rw [← WD.cut_is]
            refine el_cat h1 h2 ?_
            rw [List.length_take, List.length_drop]
            exact Nat.le_trans (by omega : _ ≤ 100) (by decide)
          refine q_asgL hcat fun p H7 np e7 hp => ?_
          have e57 := e6.trans e7
          have hp5 : H5 p = none := fresh_back e6 np
          have hgp : Grow F H p := fr5.new hp5
          have hrp : RowsAt (Grow F H) H7 p (l.eraseIdx i) := ⟨_, hgp, hp, paired_erase i (paired_mono (fun v r h => h.ex e57) hrows)⟩
          have ws7 := ws5.ex e57
          have hpk : ∀ a ∈ l, Mu24.isPick s s.k a = true := ws5.good.tk
          have hpe := needed_all (s := s) (m := m) (f := 0) (i := i) hpk
          have hle := erase_len hi
          have hn1 : p ≠ r'.lc := fun e => by
            obtain ⟨_, _, h, _⟩ := ws5.ch
            rw [← e, hp5] at h
            cases h
          have hn2 : p ≠ r'.ld := fun e => by
            obtain ⟨_, _, h, _⟩ := ws5.dr
            rw [← e, hp5] at h
            cases h
          have hn3 : p ≠ r'.lw := fun e => by
            have h := ws5.dw
            rw [← e, hp5] at h
            cases h
          have hfl7 := ev_fld (K := K) (σ := [some (V.ref a), some (nI m), some (nI s.tickets.length), some (nI i), some (V.ref p)]) (ta := tVar 0) (ev_var rfl) (e57 _ _ hw5) T.cl T.a_all_draws (l_all_draws r')
          rw [ws5.ea] at hfl7
          have hcov : Ev (tMeth C "covered" (spCovered C) [] E0 (tVar 0) (tCons (tVar 4) (tCons (tVar 1) tNil))) [some (V.ref a), some (nI m), some (nI s.tickets.length), some (nI i), some (V.ref p)] H7 (nI (WD.mask (WD.covM (l.eraseIdx i) m) (Mu24.allDraws s))) :=
            ev_meth (ev_var rfl) (e57 _ _ hw5) (l_covered r') (ea_cons (ev_var rfl) (ea_one (ev_var rfl))) (spCovered_go (s := { s with tickets := l }) ws7 hrp (fun t ht => WD.isPick_lt (hpe t ht)) (by omega))
          refine s_if (b := decide (nI (WD.mask (WD.covM (l.eraseIdx i) m) (Mu24.allDraws s)) = nI (allD s))) (et_test (ev_op hcov hfl7 (rv_eq rfl))) (fun hb4 H8 e8 => ?_) (fun hb4 H8 e8 => ?_)
          · rw [cov_is] at hb4
            rw [if_pos hb4] at hn
            refine s_fldE (y := .ref p) (ev_var rfl) (ev_var rfl) ((e57.trans e8) _ _ hw5) T.cl T.a_tickets (few r') fun H9 e9 => ?_
            rw [p_tickets]
            have e59 := (e57.trans e8).trans e9
            have e79 := e8.trans e9
            exact ⟨l.eraseIdx i, i, { r' with tl := p }, some (.ref p), rfl, by omega, (ws5.ex e59).set (e59 _ _ hw5) (hrp.ex e79) hn1 hn2 hn3 hpe (by omega), (fr5.ex e59).upd ws5.fa, hn⟩
          · rw [cov_is] at hb4
            rw [if_neg (by rw [hb4]; decide)] at hn
            exact s_asg (v := nI (i + 1)) (ev_addN (b := 1) (ev_var rfl) ev_c) fun H9 e9 => ⟨l, i + 1, r', some (.ref p), rfl, by omega, (ws7.ex e8).ex e9, ((fr5.ex e57).ex e8).ex e9, hn⟩
        · have hi : l.length ≤ i := by
            have := of_decide_eq_false hb3
            omega
          rw [WD.needed_end hi] at hn
          rw [← hn] at k
          have hsub : l.length ≤ s.tickets.length := by
            rw [hn]
            exact WD.needed_sub.2
          have hlen6 : ∀ σ : L2.St, σ[0]? = some (some (V.ref a)) → Ev (tCB (rLenS K) (tCons (tFld K (tVar 0) "tickets") tNil)) σ H6 (nI l.length) := fun σ h0 => (hlen5 σ h0).mono e6
          exact s_retL (el_lst (ea_cons (ev_subN (a := s.tickets.length) (b := l.length) (ta := tVar 2) (ev_var rfl) (hlen6 _ rfl) hsub) (ea_one (hlen6 _ rfl))) (by show 2 ≤ 100000; decide)) (post_of k rfl ⟨r', ws5.ex e6⟩ (fr5.ex e6))

end WP
end
section
namespace WP
open PySem PySem.Spec PyProof.Rows L2 Evl WM
variable {P : Program} {w : World} {K : PySem.W.Frag} {mg : Str → Option Value} {base : Heap} {C aR aP : Addr}
/-! ### rows as data -/
def intD (n : Nat) : PyData := .int (n : Int)
def rowD (l : List Nat) : PyData := .list (l.map intD)
theorem ints_dp {H : Hp} : ∀ l : List Nat, DpAll K H (l.map nI) (l.map intD)
  | [] => .nil
  | a :: l => .cons (.int _) (ints_dp l)
theorem row_dp {H : Hp} {p : Addr} {l : List Nat} (h : H p = some (nL l)) : Dp K H (.ref p) (rowD l) := .lst (sq_of h) (ints_dp l)
theorem rows_dp {F : Addr → Prop} {H : Hp} : ∀ {vs : List V} {rows : List (List Nat)}, Paired (RowAt F H) vs rows → DpAll K H vs (rows.map rowD)
  | _, _, .nil => .nil
  | _, _, .cons ⟨_, e, _, h⟩ t => by
    subst e
    exact .cons (row_dp h) (rows_dp t)
theorem ints_lay : ∀ l : List Nat, PyData.canLayAll0 (l.map intD) = true
  | [] => by simp [PyData.canLayAll0]
  | a :: l => by simp [PyData.canLayAll0, PyData.canLay0, intD, ints_lay l]
theorem ints_depth : ∀ l : List Nat, PyData.depthAll (l.map intD) = 0
  | [] => by simp [PyData.depthAll]
  | a :: l => by simp [PyData.depthAll, PyData.depth, intD, ints_depth l]
theorem row_lay (l : List Nat) : (rowD l).canLay0 = true := by simp [rowD, PyData.canLay0, ints_lay l]
theorem row_depth (l : List Nat) : (rowD l).depth = 1 := by simp [rowD, PyData.depth, ints_depth l]
theorem rows_lay : ∀ rows : List (List Nat), PyData.canLayAll0 (rows.map rowD) = true
  | [] => by simp [PyData.canLayAll0]
  | a :: l => by simp [PyData.canLayAll0, row_lay a, rows_lay l]
theorem rows_depth : ∀ rows : List (List Nat), PyData.depthAll (rows.map rowD) ≤ 1
  | [] => by simp [PyData.depthAll]
  | a :: l => by
    have h1 := rows_depth l
    have h2 := row_depth a
    simp only [List.map_cons, PyData.depthAll]
    omega
theorem row_shaped (l : List Nat) : SeqAt.shaped (rowD l) = true := by
  show ((rowD l).canLay0 && decide ((rowD l).depth ≤ 64)) = true
  rw [row_lay, row_depth]
  rfl
theorem rows_shaped (rows : List (List Nat)) : SeqAt.shaped (.list (rows.map rowD)) = true := by
  have h1 := rows_depth rows
  have h2 : PyData.depth (.list (rows.map rowD)) ≤ 64 := by
    simp only [PyData.depth]
    omega
  show (PyData.canLay0 (.list (rows.map rowD)) && decide (PyData.depth (.list (rows.map rowD)) ≤ 64)) = true
  rw [Bool.and_eq_true]
  exact ⟨by simp only [PyData.canLay0]; exact rows_lay rows, decide_eq_true h2⟩
theorem ints_eqv : ∀ a b : List Nat, PyData.eqvAll (a.map intD) (b.map intD) = decide (a = b)
  | [], [] => by simp [PyData.eqvAll]
  | [], y :: b => by simp [PyData.eqvAll]
  | x :: a, [] => by simp [PyData.eqvAll]
  | x :: a, y :: b => by
    have e : PyData.eqvAll ((x :: a).map intD) ((y :: b).map intD) = (((x : Int) == (y : Int)) && PyData.eqvAll (a.map intD) (b.map intD)) := by
      simp only [List.map_cons, PyData.eqvAll, intD, PyData.eqv]
    rw [e, ints_eqv a b, Bool.eq_iff_iff, Bool.and_eq_true, beq_iff_eq, decide_eq_true_eq, decide_eq_true_eq, List.cons.injEq]
    exact and_congr (by omega) Iff.rfl
theorem row_eqv (a b : List Nat) : PyData.eqv (rowD a) (rowD b) = decide (a = b) := by
  have e : PyData.eqv (rowD a) (rowD b) = PyData.eqvAll (a.map intD) (b.map intD) := by simp only [rowD, PyData.eqv]
  rw [e, ints_eqv]
theorem rows_any (rows : List (List Nat)) (l : List Nat) : ((rows.map rowD).any fun z => PyData.eqv z (rowD l)) = rows.contains l := by
  rw [List.any_map, Bool.eq_iff_iff, List.any_eq_true, List.contains_iff_mem]
  constructor
  · rintro ⟨x, hx, h⟩
    have h' : PyData.eqv (rowD x) (rowD l) = true := h
    rw [row_eqv] at h'
    rw [← of_decide_eq_true h']
    exact hx
  · intro h
    refine ⟨l, h, ?_⟩
    show PyData.eqv (rowD l) (rowD l) = true
    rw [row_eqv]
    exact decide_eq_true rfl
theorem rv_inRows {F : Addr → Prop} {H : Hp} {p l : Addr} {t : List Nat} {rows : List (List Nat)} (hp : H p = some (nL t)) (hr : RowsAt F H l rows) : RV (rInD K) (.ref p) (.ref l) H (.bl (rows.contains t)) := fun H1 e Q q => by
  obtain ⟨vs, _, hl, hrows⟩ := hr.ex e
  refine ⟨rowD t, rows.map rowD, row_dp (e _ _ hp), .lst (sq_of hl) (rows_dp hrows), row_shaped t, rows_shaped rows, ?_⟩
  rw [rows_any]
  exact q H1 (Ex.refl H1)
theorem hu_D {X : Cx} {k : Nat} (hr : Room k X.A) : X.A.units + 65 < cLine := by have := hr.un; omega
/-! ### the tickets' list changes -/
theorem row_off {F F2 : Addr → Prop} {H : Hp} {l p : Addr} {v : V} {r : List Nat} {rows : List (List Nat)} (ht : RowsAt F H l rows) (hr : RowAt F2 H v r) (hn : r ≠ []) (hv : v = .ref p) : p ≠ l := fun e => by
  obtain ⟨q, e2, _, hq⟩ := hr
  rw [hv] at e2
  injection e2 with e2
  subst e2
  obtain ⟨vs, _, hl, hp⟩ := ht
  rw [e, hl] at hq
  injection hq with hq
  injection hq with hq
  cases r with
  | nil => exact hn rfl
  | cons x r =>
    cases hp with
    | nil => cases hq
    | cons h t =>
      obtain ⟨q, e3, _, _⟩ := h
      subst e3
      injection hq with h1 h2
      cases h1
theorem rows_off {F F2 : Addr → Prop} {H : Hp} {l l2 : Addr} {o : HO} {rows rows2 : List (List Nat)} (ht : RowsAt F H l rows) (hr : RowsAt F2 H l2 rows2) (hn : ∀ r ∈ rows2, r ≠ []) (hl : l ≠ l2) : RowsAt F2 (upd H l o) l2 rows2 := by
  obtain ⟨vs, f2, h2, hp⟩ := hr
  refine ⟨vs, f2, by rw [upd_ne (fun e => hl e.symm)]; exact h2, paired_mono2 (fun v r hm h => ?_) hp⟩
  obtain ⟨p, e, f, q⟩ := h
  exact ⟨p, e, f, by rw [upd_ne (row_off ht ⟨p, e, f, q⟩ (hn r hm) e)]; exact q⟩
theorem ne_nil {l : List Nat} {k : Nat} (h : l.length = k) (hk : 1 ≤ k) : l ≠ [] := fun e => by
  rw [e] at h
  have : (0 : Nat) = k := h
  omega
theorem WSt.ntl {F : Addr → Prop} {H : Hp} {a : Addr} {r : WR} {s : Mu24.State} (ws : WSt C F H a r s) : a ≠ r.tl := fun e => by
  obtain ⟨dx, hw⟩ := ws.rc
  obtain ⟨vs, _, h, _⟩ := ws.tick
  rw [← e, hw] at h
  cases h
theorem WSt.chg {F : Addr → Prop} {H : Hp} {a : Addr} {r : WR} {s : Mu24.State} {xs : List V} {l : List Mu24.Pick} (ws : WSt C F H a r s) (hl : ∀ a ∈ l, Mu24.isPick s s.k a = true) (hl2 : l.length ≤ 30)
    (hp : Paired (RowAt F H) xs l) : WSt C F (upd H r.tl (.lst xs)) a r { s with tickets := l } :=
  { rc := let ⟨dx, h⟩ := ws.rc; ⟨dx, by rw [upd_ne ws.ntl]; exact h⟩
    fa := ws.fa, eb := ws.eb, en := ws.en, ek := ws.ek, et := ws.et, ea := ws.ea
    tick := by
      obtain ⟨vs, f, h, _⟩ := ws.tick
      refine ⟨xs, f, upd_same, paired_mono2 (fun v t hm q => ?_) hp⟩
      obtain ⟨p, e, f, h⟩ := q
      exact ⟨p, e, f, by rw [upd_ne (row_off ws.tick ⟨p, e, f, h⟩ (ne_nil (WD.isPick_len (hl t hm)) ws.good.k1) e)]; exact h⟩
    ch := rows_off ws.tick ws.ch (fun t ht => ne_nil (all_len ht) ws.good.k1) ws.ne1
    dr := rows_off ws.tick ws.dr (fun t ht => ne_nil (dr_len ht) ws.good.t1) ws.ne2
    fw := ws.fw
    dw := by
      show upd H r.tl _ r.lw = _
      rw [upd_ne fun e => ws.ne3 e.symm]
      exact ws.dw
    good := ws.good.tick hl hl2, ne1 := ws.ne1, ne2 := ws.ne2, ne3 := ws.ne3 }
theorem WSt.grow {F : Addr → Prop} {H H1 : Hp} {a : Addr} {r : WR} {s : Mu24.State} (ws : WSt C F H a r s) (e : Ex H H1) : WSt C (Grow F H) H1 a r s := (ws.ex e).mono (fun _ f => .inl f) fun _ _ _ h => h
/-! ### buy -/
theorem sc_buy : FnScope ["self", "ticket"] ["self", "ticket"] (defScope s_buy) := ⟨rfl, rfl, rfl, by decide +kernel, rfl, by decide +kernel, by decide +kernel⟩
theorem ok_buy (D : MethAt K C "buy" "Wheel.buy" s_buy ["self", "ticket"]) (T : Txt K mg C aR aP) (G_is_rising_row : GoodD P w K mg base 1 "is_rising_row" ["row", "size", "n"] spRow) : GoodM P w K mg base C 2 "buy" ["self", "ticket"] (spL C .buy) := by
  refine D.ok (N := ["self", "ticket"]) (k := 1) sc_buy (fun vs H Q E h => ?_) (fun f cdv A outer s H vs Q E hr h => ⟨_, (pss_cons (ps_if (pt_not (pt_val (pe_callG G_is_rising_row (hr.mono (by decide)) (by rfl) (pa_cons (pv 1) (pa_cons (pe_fld (pv 0) rfl) (pa_cons (pe_fld (pv 0) rfl) pa_nil)))))) (pss_one (ps_ret (pe_lst (pa_cons (pe_un un_neg pe_int) pa_nil)))) pss_nil)
      (pss_cons (ps_if (pt_cmpR (op_inD (hu_D hr)) (pv 1) (pe_fld (pv 0) rfl) (by rfl)) (pss_one (ps_ret (pe_lst (pa_cons (pe_un un_neg pe_int) pa_nil)))) pss_nil)
      (pss_cons (ps_if (pt_cmpR op_ge (pe_callB call_len_seq (by rfl) T.m_len PySem.boot_len (pa_cons (pe_fld (pv 0) rfl) pa_nil)) (pe_globE (by rfl) T.c_MOST_TICKETS) (nomark _)) (pss_one (ps_ret (pe_lst (pa_cons (pe_un un_neg pe_int) pa_nil)))) pss_nil)
      (pss_cons (ps_expr (pe_bm PySem.F.plainAttrs_list PySem.F.slot_list_append PySem.F.type_list_append mt_append (pe_fld (pv 0) rfl) (pa_cons (pe_callTy call_list_of (by rfl) T.m_list PyProof.Rows.boot_list (pa_cons (pv 1) pa_nil)) pa_nil)))
      (pss_one (ps_ret (pe_lst (pa_cons (pe_op op_sub (pe_callB call_len_seq (by rfl) T.m_len PySem.boot_len (pa_cons (pe_fld (pv 0) rfl) pa_nil)) pe_int) pa_nil)))))))), ?_⟩)
  · obtain ⟨a, F, s, p, l, rfl, _⟩ := h
    rfl
  · obtain ⟨a, F, s, p, l, rfl, hp, hl, wa, k⟩ := h
    obtain ⟨r, ws⟩ := id wa
    obtain ⟨dx, hw⟩ := ws.rc
    have hst : Mu24.step (some s) (.buy l) = if Mu24.isPick s s.k l = false then (some s, [-1]) else if s.tickets.contains l = true then (some s, [-4]) else if 30 ≤ s.tickets.length then (some s, [-5]) else (some { s with tickets := s.tickets ++ [l] }, [(s.tickets.length : Int)]) := rfl
    rw [hst] at k
    have fk := ev_fld (K := K) (σ := start ["self", "ticket"] [V.ref a, V.ref p]) (ta := tVar 0) (ev_var rfl) hw T.cl T.a_k (l_k r)
    have fn := ev_fld (K := K) (σ := start ["self", "ticket"] [V.ref a, V.ref p]) (ta := tVar 0) (ev_var rfl) hw T.cl T.a_n (l_n r)
    rw [ws.ek] at fk
    rw [ws.en] at fn
    refine q_when (b := !WD.isRow s.n s.k l) (et_not (et_B (ev_call (ea_cons (ev_var rfl) (ea_cons fk (ea_one fn))) (spRow_go hp)))) (fun hb H1 e1 => ?_) (fun hb H1 e1 => ?_)
    · rw [WD.isRow_pick] at hb
      rw [if_pos (by cases h : Mu24.isPick s s.k l; rfl; rw [h] at hb; cases hb)] at k
      have k := Post.ro wa k
      exact s_retL el_neg fun q H2 hq e2 h2 => k q H2 (fresh_back e1 hq) (e1.trans e2) h2
    · rw [WD.isRow_pick] at hb
      have hpick : Mu24.isPick s s.k l = true := by cases h : Mu24.isPick s s.k l; rw [h] at hb; cases hb; rfl
      rw [if_neg (by rw [hpick]; decide)] at k
      refine q_when (b := s.tickets.contains l) (et_test (ev_op (ev_var rfl) (ev_fld (ev_var rfl) (e1 _ _ hw) T.cl T.a_tickets (l_tickets r)) (rv_inRows (e1 _ _ hp) (ws.ex e1).tick))) (fun hb2 H2 e2 => ?_) (fun hb2 H2 e2 => ?_)
      · rw [if_pos hb2] at k
        have k := Post.ro wa k
        exact s_retL el_neg fun q H3 hq e3 h3 => k q H3 (fresh_back (e1.trans e2) hq) ((e1.trans e2).trans e3) h3
      · rw [if_neg (by rw [hb2]; decide)] at k
        have e12 := e1.trans e2
        have hlen2 : ∀ (H' : Hp), Ex H2 H' → Ev (tCB (rLenS K) (tCons (tFld K (tVar 0) "tickets") tNil)) (start ["self", "ticket"] [V.ref a, V.ref p]) H' (nI s.tickets.length) := fun H' e => ev_lenR (ev_fld (ev_var rfl) ((e12.trans e) _ _ hw) T.cl T.a_tickets (l_tickets r)) (ws.ex (e12.trans e)).tick
        refine q_when (b := decide ((30 : Int) ≤ (s.tickets.length : Int))) (et_test (ev_op (hlen2 _ (Ex.refl H2)) ev_c rv_I0)) (fun hb3 H3 e3 => ?_) (fun hb3 H3 e3 => ?_)
        · have h30 := of_decide_eq_true hb3
          rw [if_pos (by omega)] at k
          have k := Post.ro wa k
          exact s_retL el_neg fun q H4 hq e4 h4 => k q H4 (fresh_back (e12.trans e3) hq) ((e12.trans e3).trans e4) h4
        · have h30 := of_decide_eq_false hb3
          rw [if_neg (by omega)] at k
          have e13 := e12.trans e3
          obtain ⟨ts, ft, hts, hrows⟩ := ws.tick
          have htl := Paired.length hrows
          refine q_appL (xs := ts) (ys := l.map nI) (e13 _ _ hts) (ev_fld (ev_var rfl) (e13 _ _ hw) T.cl T.a_tickets (l_tickets r)) (el_list (ev_var rfl) (sq_of (e13 _ _ hp))) (by omega) fun p2 H4 np2 e4 hp2 => ?_
          have e14 := e13.trans e4
          have fr := Fr.of (F := F) e14
          have ws4 := ws.grow e14
          have hgp : Grow F H p2 := .inr (fresh_back e13 np2)
          have ws5 := ws4.chg (xs := ts ++ [.ref p2]) (l := s.tickets ++ [l]) (fun t ht => by
            rcases List.mem_append.mp ht with ht | ht
            · exact ws.good.tk t ht
            · rw [List.mem_singleton.mp ht]
              exact hpick) (by rw [List.length_append]; show s.tickets.length + 1 ≤ 30; omega) (paired_snoc ⟨p2, rfl, hgp, hp2⟩ (paired_mono (fun v t ⟨p, a, b, c⟩ => ⟨p, a, .inl b, e14 _ _ c⟩) hrows))
          obtain ⟨dx5, hw5⟩ := ws5.rc
          have hlen5 : Ev (tCB (rLenS K) (tCons (tFld K (tVar 0) "tickets") tNil)) (start ["self", "ticket"] [V.ref a, V.ref p]) (upd H4 r.tl (.lst (ts ++ [.ref p2]))) (nI (s.tickets.length + 1)) := by
            have h := ev_lenR (K := K) (σ := start ["self", "ticket"] [V.ref a, V.ref p]) (te := tFld K (tVar 0) "tickets") (ev_fld (ev_var rfl) hw5 T.cl T.a_tickets (l_tickets r)) ws5.tick
            have e : ({ s with tickets := s.tickets ++ [l] } : Mu24.State).tickets.length = s.tickets.length + 1 := by
              show (s.tickets ++ [l]).length = _
              rw [List.length_append]
              rfl
            rw [e] at h
            exact h
          exact s_retL (el_lst (vs := [nI s.tickets.length]) (ea_one (ev_subN (a := s.tickets.length + 1) (b := 1) hlen5 ev_c (by omega))) (by show 1 ≤ 100000; decide)) (post_of k rfl ⟨r, ws5⟩ (fr.upd (.inl ft)))
/-! ### drop -/
theorem seq_at {i n : Nat} (h : i < n) : seqIndex? (i : Int) n = some i := by
  unfold seqIndex?
  have h1 : ¬ ((i : Int) < 0) := by omega
  simp [h1, h]
theorem q_popAt {σ : L2.St} {H : Hp} {D : Ends} {tz : TS} {ta te : TE} {l : Addr} {xs : List V} {i : Nat} (hl : H l = some (.lst xs)) (ha : Ev ta σ H (.ref l)) (h : Ev te σ H (nI i)) (hi : i < xs.length) (hz : xs.length ≤ 100000) (k : ∀ H1, Ex H H1 → tz D σ (upd H1 l (.lst (xs.eraseIdx i)))) :
    tSeq (tDrop (tBM K "list" rPopAt ta (tCons te tNil))) tz D σ H := ha H (Ex.refl H) _ fun H1 e1 =>
  ⟨Or.inl ⟨rfl, xs, sq_of (e1 l _ hl)⟩, h H1 e1 _ fun H2 e2 => ⟨l, xs, (i : Int), i, xs[i], rfl, rfl, e2 l _ (e1 l _ hl), by omega, by omega, seq_at hi, List.getElem?_eq_getElem hi, k H2 (e1.trans e2)⟩⟩
theorem sc_drop : FnScope ["self", "place"] ["self", "place"] (defScope s_drop) := ⟨rfl, rfl, rfl, by decide +kernel, rfl, by decide +kernel, by decide +kernel⟩
theorem ok_drop (D : MethAt K C "drop" "Wheel.drop" s_drop ["self", "place"]) (T : Txt K mg C aR aP) : GoodM P w K mg base C 1 "drop" ["self", "place"] (sp1 C 50 .drop) := by
  refine D.ok (N := ["self", "place"]) (k := 0) sc_drop (fun vs H Q E h => ?_) (fun f cdv A outer s H vs Q E hr h => ⟨_, (pss_cons (ps_if (pt_cmpR op_ge (pv 1) (pe_callB call_len_seq (by rfl) T.m_len PySem.boot_len (pa_cons (pe_fld (pv 0) rfl) pa_nil)) (nomark _)) (pss_one (ps_ret (pe_lst (pa_cons (pe_un un_neg pe_int) pa_nil)))) pss_nil)
      (pss_cons (ps_expr (pe_bm PySem.F.plainAttrs_list PySem.F.slot_list_pop PySem.F.type_list_pop mt_popAt (pe_fld (pv 0) rfl) (pa_cons (pv 1) pa_nil)))
      (pss_one (ps_ret (pe_lst (pa_cons (pe_callB call_len_seq (by rfl) T.m_len PySem.boot_len (pa_cons (pe_fld (pv 0) rfl) pa_nil)) pa_nil)))))), ?_⟩)
  · obtain ⟨a, F, s, m, rfl, _⟩ := h
    rfl
  · obtain ⟨a, F, s, i, rfl, hm, wa, k⟩ := h
    obtain ⟨r, ws⟩ := id wa
    obtain ⟨dx, hw⟩ := ws.rc
    have hst : Mu24.step (some s) (.drop i) = if s.tickets.length ≤ i then (some s, [-2]) else (some { s with tickets := s.tickets.eraseIdx i }, [((s.tickets.length - 1 : Nat) : Int)]) := rfl
    rw [hst] at k
    refine q_when (b := decide ((s.tickets.length : Int) ≤ (i : Int))) (et_test (ev_op (ev_var rfl) (ev_lenR (ev_fld (ev_var rfl) hw T.cl T.a_tickets (l_tickets r)) ws.tick) rv_I0)) (fun hb H1 e1 => ?_) (fun hb H1 e1 => ?_)
    · have hb' := of_decide_eq_true hb
      rw [if_pos (by omega)] at k
      have k := Post.ro wa k
      exact s_retL el_neg fun q H2 hq e2 h2 => k q H2 (fresh_back e1 hq) (e1.trans e2) h2
    · have hb' := of_decide_eq_false hb
      rw [if_neg (by omega)] at k
      obtain ⟨ts, ft, hts, hrows⟩ := ws.tick
      have htl := Paired.length hrows
      have h30 := ws.good.len
      refine q_popAt (xs := ts) (i := i) (e1 _ _ hts) (ev_fld (ev_var rfl) (e1 _ _ hw) T.cl T.a_tickets (l_tickets r)) (ev_var rfl) (by omega) (by omega) fun H2 e2 => ?_
      have e12 := e1.trans e2
      have fr := Fr.of (F := F) e12
      have hle : (s.tickets.eraseIdx i).length = s.tickets.length - 1 := erase_len (by omega)
      have ws3 := (ws.grow e12).chg (xs := ts.eraseIdx i) (l := s.tickets.eraseIdx i) (fun t ht => ws.good.tk t (List.mem_of_mem_eraseIdx ht)) (by omega) (paired_erase i (paired_mono (fun v t ⟨p, a, b, c⟩ => ⟨p, a, .inl b, e12 _ _ c⟩) hrows))
      obtain ⟨dx3, hw3⟩ := ws3.rc
      have hlen3 : Ev (tCB (rLenS K) (tCons (tFld K (tVar 0) "tickets") tNil)) (start ["self", "place"] [V.ref a, nI i]) (upd H2 r.tl (.lst (ts.eraseIdx i))) (nI (s.tickets.length - 1)) := by
        have h := ev_lenR (K := K) (σ := start ["self", "place"] [V.ref a, nI i]) (te := tFld K (tVar 0) "tickets") (ev_fld (ev_var rfl) hw3 T.cl T.a_tickets (l_tickets r)) ws3.tick
        have e : ({ s with tickets := s.tickets.eraseIdx i } : Mu24.State).tickets.length = s.tickets.length - 1 := hle
        rw [e] at h
        exact h
      exact s_retL (el_lst (vs := [nI (s.tickets.length - 1)]) (ea_one hlen3) (by show 1 ≤ 100000; decide)) (post_of k rfl ⟨r, ws3⟩ (fr.upd (.inl ft)))

end WP
end
section
namespace WP
open PySem PySem.Spec PyProof.Rows L2 Evl WM
variable {P : Program} {w : World} {K : PySem.W.Frag} {mg : Str → Option Value} {base : Heap} {C aR aP : Addr}
/-! ### the new wheel -/
def r0 : WR := ⟨false, 0, 0, 0, 0, 0, 0, 0, 0⟩
def spInit (C : Addr) : Sp := fun vs H Q _ => ∃ (p dx : Addr), vs = [.ref p] ∧ H p = some (.ins C dx []) ∧ ∀ (H' : Hp) (r : WR), Rec C H' p r → r.b = false → (∀ b o, H b = some o → b ≠ p → H' b = some o) → (∀ b, H' b = none → H b = none) → Q .non H'
section
variable {H H1 H2 : Hp} {a : Addr}
def Fa (a : Addr) (x : Addr) : Prop := x = a
end
theorem sc_init : FnScope ["self"] ["self"] (defScope s_init) := ⟨rfl, rfl, rfl, by decide +kernel, rfl, by decide +kernel, by decide +kernel⟩
theorem ok_init (D : MethAt K C "__init__" "Wheel.__init__" s_init ["self"]) (T : Txt K mg C aR aP) : GoodM P w K mg base C 1 "__init__" ["self"] (spInit C) := by
  refine D.ok (N := ["self"]) (k := 0) sc_init (fun vs H Q E h => ?_) (fun f cdv A outer s H vs Q E hr h => ⟨_, (pss_cons (ps_fld (pv 0) pe_bl rfl)
      (pss_cons (ps_fld (pv 0) pe_int rfl)
      (pss_cons (ps_fld (pv 0) pe_int rfl)
      (pss_cons (ps_fld (pv 0) pe_int rfl)
      (pss_cons (ps_fld (pv 0) (pe_lst pa_nil) rfl)
      (pss_cons (ps_fld (pv 0) (pe_lst pa_nil) rfl)
      (pss_cons (ps_fld (pv 0) (pe_lst pa_nil) rfl)
      (pss_cons (ps_fld (pv 0) pe_int rfl)
      (pss_one (ps_fld (pv 0) (pe_lst pa_nil) rfl)))))))))), ?_⟩)
  · obtain ⟨a, dx, rfl, _⟩ := h
    rfl
  · obtain ⟨a, dx, rfl, hw, k⟩ := h
    have fa : ∀ {H : Hp}, Grow (Fa a) H a := .inl rfl
    refine q_fld (y := .bl false) ev_c (ev_var rfl) hw T.cl T.a_begun (by show 0 < 1000; decide) fun H1 e1 => ?_
    have f1 := (Fr.of (F := Fa a) e1).upd (o := .ins C dx (putF "begun" (.bl false) [])) fa
    rw [n_begun ⟨false, 0, 0, 0, 0, 0, 0, 0, 0⟩] at f1 ⊢
    refine q_fld (y := .int 0) ev_c (ev_var rfl) upd_same T.cl T.a_n (by show 1 < 1000; decide) fun H2 e2 => ?_
    have f2 := (f1.ex e2).upd (o := .ins C dx (putF "n" (.int 0) [(("begun" : Str), .bl false)])) fa
    rw [n_n ⟨false, 0, 0, 0, 0, 0, 0, 0, 0⟩] at f2 ⊢
    refine q_fld (y := .int 0) ev_c (ev_var rfl) upd_same T.cl T.a_k (by show 2 < 1000; decide) fun H3 e3 => ?_
    have f3 := (f2.ex e3).upd (o := .ins C dx (putF "k" (.int 0) [(("begun" : Str), .bl false), (("n" : Str), .int 0)])) fa
    rw [n_k ⟨false, 0, 0, 0, 0, 0, 0, 0, 0⟩] at f3 ⊢
    refine q_fld (y := .int 0) ev_c (ev_var rfl) upd_same T.cl T.a_t (by show 3 < 1000; decide) fun H4 e4 => ?_
    have f4 := (f3.ex e4).upd (o := .ins C dx (putF "t" (.int 0) [(("begun" : Str), .bl false), (("n" : Str), .int 0), (("k" : Str), .int 0)])) fa
    rw [n_t ⟨false, 0, 0, 0, 0, 0, 0, 0, 0⟩] at f4 ⊢
    refine q_fldL (xs := []) (el_lst (vs := []) ea_nil (by decide)) (ev_var rfl) upd_same T.cl T.a_tickets (by show 4 < 1000; decide) fun p5 H5 np5 e5 hp5 => ?_
    have f5 := (f4.ex e5).upd (o := .ins C dx (putF "tickets" (.ref p5) [(("begun" : Str), .bl false), (("n" : Str), .int 0), (("k" : Str), .int 0), (("t" : Str), .int 0)])) fa
    rw [n_tickets ⟨false, 0, 0, 0, p5, 0, 0, 0, 0⟩] at f5 ⊢
    refine q_fldL (xs := []) (el_lst (vs := []) ea_nil (by decide)) (ev_var rfl) upd_same T.cl T.a_choices (by show 5 < 1000; decide) fun p6 H6 np6 e6 hp6 => ?_
    have f6 := (f5.ex e6).upd (o := .ins C dx (putF "choices" (.ref p6) [(("begun" : Str), .bl false), (("n" : Str), .int 0), (("k" : Str), .int 0), (("t" : Str), .int 0), (("tickets" : Str), .ref p5)])) fa
    rw [n_choices ⟨false, 0, 0, 0, p5, p6, 0, 0, 0⟩] at f6 ⊢
    refine q_fldL (xs := []) (el_lst (vs := []) ea_nil (by decide)) (ev_var rfl) upd_same T.cl T.a_draws (by show 6 < 1000; decide) fun p7 H7 np7 e7 hp7 => ?_
    have f7 := (f6.ex e7).upd (o := .ins C dx (putF "draws" (.ref p7) [(("begun" : Str), .bl false), (("n" : Str), .int 0), (("k" : Str), .int 0), (("t" : Str), .int 0), (("tickets" : Str), .ref p5), (("choices" : Str), .ref p6)])) fa
    rw [n_draws ⟨false, 0, 0, 0, p5, p6, p7, 0, 0⟩] at f7 ⊢
    refine q_fld (y := .int 0) ev_c (ev_var rfl) upd_same T.cl T.a_all_draws (by show 7 < 1000; decide) fun H8 e8 => ?_
    have f8 := (f7.ex e8).upd (o := .ins C dx (putF "all_draws" (.int 0) [(("begun" : Str), .bl false), (("n" : Str), .int 0), (("k" : Str), .int 0), (("t" : Str), .int 0), (("tickets" : Str), .ref p5), (("choices" : Str), .ref p6), (("draws" : Str), .ref p7)])) fa
    rw [n_all_draws ⟨false, 0, 0, 0, p5, p6, p7, 0, 0⟩] at f8 ⊢
    refine s_fldLE (xs := []) (el_lst (vs := []) ea_nil (by decide)) (ev_var rfl) upd_same T.cl T.a_drawn_with (by show 8 < 1000; decide) fun p9 H9 np9 e9 hp9 => ?_
    have f9 := (f8.ex e9).upd (o := .ins C dx (putF "drawn_with" (.ref p9) [(("begun" : Str), .bl false), (("n" : Str), .int 0), (("k" : Str), .int 0), (("t" : Str), .int 0), (("tickets" : Str), .ref p5), (("choices" : Str), .ref p6), (("draws" : Str), .ref p7), (("all_draws" : Str), .int 0)])) fa
    rw [n_drawn_with ⟨false, 0, 0, 0, p5, p6, p7, 0, p9⟩] at f9 ⊢
    exact k _ ⟨false, 0, 0, 0, p5, p6, p7, 0, p9⟩ ⟨dx, upd_same⟩ rfl (fun b o hb hn => f9.keep b o hb hn) f9.dom
/-! ### begin -/
theorem q_fldR {σ : L2.St} {H : Hp} {D : Ends} {tz : TS} {ta : TE} {targs : TA} {a dx : Addr} {fs : List (Str × V)} {f : Str} {n k : Nat} (h : EvA targs σ H [nI n, nI k]) (hn1 : 1 ≤ n) (hn : n ≤ 1000) (hk : k ≤ 100) (hp : n ^ k ≤ 1000000) (ha : Ev ta σ H (.ref a)) (hw : H a = some (.ins C dx fs)) (c : Cls K C) (na : NoAttr K C f) (hl : fs.length < 1000)
    (k0 : ∀ (p : Addr) (H1 : Hp), H p = none → Ex H H1 → RowsAt (New H) H1 p (WD.rising n k) → tz D σ (upd H1 a (.ins C dx (putF f (.ref p) fs)))) : tSeq (sFld K ta (tCall spRising [] E0 targs) f) tz D σ H :=
  h H (Ex.refl H) _ fun H1 e1 => ⟨n, k, rfl, hn1, hn, hk, hp, fun p H2 np e2 hr => ha H2 (e1.trans e2) _ fun H3 e3 => ⟨a, C, dx, fs, rfl, ((e1.trans e2).trans e3) _ _ hw, c, na, hl, k0 p H3 (fresh_back e1 np) ((e1.trans e2).trans e3)
    ((hr.ex e3).mono (fun _ q => fresh_back e1 q) fun _ _ _ q => q)⟩⟩
theorem step_begin (o : Mu24.Abs) (n k t : Nat) : Mu24.step o (.begin_ n k t) = if n < 2 ∨ (10 < n ∨ (k = 0 ∨ (n < k ∨ (6 < k ∨ (t = 0 ∨ (n < t ∨ 6 < t)))))) then (o, [-1]) else (some ⟨n, k, t, []⟩, [0, ((Mu24.allTickets ⟨n, k, t, []⟩).length : Int), ((Mu24.allDraws ⟨n, k, t, []⟩).length : Int)]) := by
  cases o <;> rfl
theorem spSize_go {k n : Int} {H : Hp} : SpV spSize [.int k, .int n] H (.bl (decide (1 ≤ k) && (decide (k ≤ 6) && decide (k ≤ n)))) := fun H1 e Q q _ => ⟨k, n, rfl, q⟩
def spBegin (C : Addr) : Sp := fun vs H Q _ => ∃ (a : Addr) (F : Addr → Prop) (o : Mu24.Abs) (n k t : Nat), vs = [.ref a, nI n, nI k, nI t] ∧ WA C F H a o ∧ Post C a F H (Mu24.step o (.begin_ n k t)) Q
theorem wa_rec {F : Addr → Prop} {H : Hp} {a : Addr} {o : Mu24.Abs} (h : WA C F H a o) : F a ∧ ∃ r, Rec C H a r := by
  cases o with
  | none =>
    obtain ⟨h1, r, h2, _⟩ := h
    exact ⟨h1, r, h2⟩
  | some s =>
    obtain ⟨r, ws⟩ := h
    exact ⟨ws.fa, r, ws.rc⟩
theorem rows_upd {F : Addr → Prop} {H : Hp} {l a : Addr} {rows : List (List Nat)} {o : HO} (h : RowsAt F H l rows) (hF : ∀ x, F x → x ≠ a) : RowsAt F (upd H a o) l rows := by
  obtain ⟨vs, f, h2, h3⟩ := h
  exact ⟨vs, f, by rw [upd_ne (hF l f)]; exact h2, paired_mono (fun v r ⟨p, e, f, q⟩ => ⟨p, e, f, by rw [upd_ne (hF p f)]; exact q⟩) h3⟩
theorem new_ne {H : Hp} {a : Addr} {o : HO} (h : H a = some o) : ∀ x, New H x → x ≠ a := fun x hx e => by
  have hx' : H x = none := hx
  rw [e, h] at hx'
  cases hx'
theorem sc_begin : FnScope ["self", "n", "k", "t", "number"] ["self", "n", "k", "t"] (defScope s_begin) := ⟨rfl, rfl, rfl, by decide +kernel, rfl, by decide +kernel, by decide +kernel⟩
theorem ok_begin (D : MethAt K C "begin" "Wheel.begin" s_begin ["self", "n", "k", "t"]) (T : Txt K mg C aR aP) (G_is_size : GoodD P w K mg base 1 "is_size" ["size", "n"] spSize) (G_rising_rows : GoodD P w K mg base 1 "rising_rows" ["n", "size"] spRising)
    (G_draws_with : GoodD P w K mg base 1 "draws_with" ["number", "draws"] spWith) : GoodM P w K mg base C 2 "begin" ["self", "n", "k", "t"] (spBegin C) := by
  refine D.ok (N := ["self", "n", "k", "t", "number"]) (k := 1) sc_begin (fun vs H Q E h => ?_) (fun f cdv A outer s H vs Q E hr h => ⟨_, (pss_cons (ps_if (PW.pt (pw_or (pt_cmpR op_lt (pv 1) pe_int (nomark _)) (pw_or (pt_cmpR op_gt (pv 1) pe_int (nomark _)) (pw_or (pt_not (pt_val (pe_callG G_is_size (hr.mono (by decide)) (by rfl) (pa_cons (pv 2) (pa_cons (pv 1) pa_nil))))) (pw_or1 (pt_not (pt_val (pe_callG G_is_size (hr.mono (by decide)) (by rfl) (pa_cons (pv 3) (pa_cons (pv 1) pa_nil)))))))))) (pss_one (ps_ret (pe_lst (pa_cons (pe_un un_neg pe_int) pa_nil)))) pss_nil)
      (pss_cons (ps_fld (pv 0) pe_bl rfl)
      (pss_cons (ps_fld (pv 0) (pv 1) rfl)
      (pss_cons (ps_fld (pv 0) (pv 2) rfl)
      (pss_cons (ps_fld (pv 0) (pv 3) rfl)
      (pss_cons (ps_fld (pv 0) (pe_lst pa_nil) rfl)
      (pss_cons (ps_fld (pv 0) (pe_callG G_rising_rows (hr.mono (by decide)) (by rfl) (pa_cons (pv 1) (pa_cons (pv 2) pa_nil))) rfl)
      (pss_cons (ps_fld (pv 0) (pe_callG G_rising_rows (hr.mono (by decide)) (by rfl) (pa_cons (pv 1) (pa_cons (pv 3) pa_nil))) rfl)
      (pss_cons (ps_fld (pv 0) (pe_op op_sub (pe_op op_shl pe_int (pe_callB call_len_seq (by rfl) T.m_len PySem.boot_len (pa_cons (pe_fld (pv 0) rfl) pa_nil))) pe_int) rfl)
      (pss_cons (ps_fld (pv 0) (pe_lc (own := [("number", 4)]) (g := gName 4) rfl sc_begin.nd (pi_range1 (by rfl) T.m_range (pa_cons (pv 1) pa_nil)) (blkOk_by (own := [("number", 4)]) (N := ["self", "n", "k", "t", "number"]) (sc := defScope s_begin) (by decide +kernel)) (fun _ _ _ _ _ => pg_name (i := 4) sc_begin.nd rfl (Or.inl rfl)) (fun _ _ _ _ _ => pts_nil) (fun _ _ _ _ _ => (pe_callG G_draws_with (hr.mono (by decide)) (by rfl) (pa_cons (pv 4) (pa_cons (show PE _ _ (tFld K (tVar 0) "draws") from pe_fld (pv 0) rfl) pa_nil))))) rfl)
      (pss_one (ps_ret (pe_lst (pa_cons pe_int (pa_cons (pe_callB call_len_seq (by rfl) T.m_len PySem.boot_len (pa_cons (pe_fld (pv 0) rfl) pa_nil)) (pa_cons (pe_callB call_len_seq (by rfl) T.m_len PySem.boot_len (pa_cons (pe_fld (pv 0) rfl) pa_nil)) pa_nil)))))))))))))))), ?_⟩)
  · obtain ⟨a, F, o, n, k, t, rfl, _⟩ := h
    rfl
  · obtain ⟨a, F, o, n, k, t, rfl, wa, q⟩ := h
    rw [step_begin] at q
    obtain ⟨fa, ⟨b0, n0, k0, t0, tl0, lc0, ld0, al0, lw0⟩, dx, hw⟩ := wa_rec wa
    refine q_when (b := decide ((n : Int) < 2) || (decide ((10 : Int) < n) || ((!(decide ((1 : Int) ≤ k) && (decide ((k : Int) ≤ 6) && decide ((k : Int) ≤ n)))) || (!(decide ((1 : Int) ≤ t) && (decide ((t : Int) ≤ 6) && decide ((t : Int) ≤ n)))))))
      (et_or (et_test (ev_op (ev_var rfl) ev_c rv_I0)) fun _ => et_or (et_test (ev_op (ev_var rfl) ev_c rv_I0)) fun _ => et_or (et_not (et_B (ev_call (ea_cons (ev_var rfl) (ea_one (ev_var rfl))) spSize_go))) fun _ => et_not (et_B (ev_call (ea_cons (ev_var rfl) (ea_one (ev_var rfl))) spSize_go))) (fun hb H1 e1 => ?_) (fun hb H1 e1 => ?_)
    · rw [if_pos (by
        simp only [Bool.or_eq_true, Bool.not_eq_true', Bool.and_eq_false_iff, decide_eq_true_eq, decide_eq_false_iff_not] at hb
        omega)] at q
      have k := Post.ro wa q
      exact s_retL el_neg fun p H2 hp e2 h2 => k p H2 (fresh_back e1 hp) (e1.trans e2) h2
    · simp only [Bool.or_eq_false_iff, Bool.not_eq_false', Bool.and_eq_true, decide_eq_true_eq, decide_eq_false_iff_not] at hb
      rw [if_neg (by omega)] at q
      obtain ⟨hb1, hb2, ⟨hb3, hb4, hb5⟩, hb6, hb7, hb8⟩ := hb
      have g : Good ⟨n, k, t, []⟩ := ⟨by show 2 ≤ n; omega, by show n ≤ 10; omega, by show 1 ≤ k; omega, by show k ≤ 6; omega, by show k ≤ n; omega, by show 1 ≤ t; omega, by show t ≤ 6; omega, by show t ≤ n; omega, (fun _ h => nomatch h), by show 0 ≤ 30; decide⟩
      have e1' := Fr.of (F := F) e1
      refine q_fld (y := .bl true) ev_c (ev_var rfl) (e1 _ _ hw) T.cl T.a_begun (few _) fun H2 e2 => ?_
      rw [show putF "begun" (.bl true) (wF (WR.mk b0 n0 k0 t0 tl0 lc0 ld0 al0 lw0)) = wF (WR.mk true n0 k0 t0 tl0 lc0 ld0 al0 lw0) from p_begun _ _]
      have f2 := (e1'.ex e2).upd (o := .ins C dx (wF (WR.mk true n0 k0 t0 tl0 lc0 ld0 al0 lw0))) (.inl fa)
      refine q_fld (y := .int n) (ev_var rfl) (ev_var rfl) upd_same T.cl T.a_n (few _) fun H3 e3 => ?_
      rw [show putF "n" (.int (n : Int)) (wF (WR.mk true n0 k0 t0 tl0 lc0 ld0 al0 lw0)) = wF (WR.mk true (n : Int) k0 t0 tl0 lc0 ld0 al0 lw0) from p_n _ _]
      have f3 := (f2.ex e3).upd (o := .ins C dx (wF (WR.mk true (n : Int) k0 t0 tl0 lc0 ld0 al0 lw0))) (.inl fa)
      refine q_fld (y := .int k) (ev_var rfl) (ev_var rfl) upd_same T.cl T.a_k (few _) fun H4 e4 => ?_
      rw [show putF "k" (.int (k : Int)) (wF (WR.mk true (n : Int) k0 t0 tl0 lc0 ld0 al0 lw0)) = wF (WR.mk true (n : Int) (k : Int) t0 tl0 lc0 ld0 al0 lw0) from p_k _ _]
      have f4 := (f3.ex e4).upd (o := .ins C dx (wF (WR.mk true (n : Int) (k : Int) t0 tl0 lc0 ld0 al0 lw0))) (.inl fa)
      refine q_fld (y := .int t) (ev_var rfl) (ev_var rfl) upd_same T.cl T.a_t (few _) fun H5 e5 => ?_
      rw [show putF "t" (.int (t : Int)) (wF (WR.mk true (n : Int) (k : Int) t0 tl0 lc0 ld0 al0 lw0)) = wF (WR.mk true (n : Int) (k : Int) (t : Int) tl0 lc0 ld0 al0 lw0) from p_t _ _]
      have f5 := (f4.ex e5).upd (o := .ins C dx (wF (WR.mk true (n : Int) (k : Int) (t : Int) tl0 lc0 ld0 al0 lw0))) (.inl fa)
      refine q_fldL (xs := []) (el_lst (vs := []) ea_nil (by decide)) (ev_var rfl) upd_same T.cl T.a_tickets (few _) fun p6 H6 np6 e6 hp6 => ?_
      rw [show putF "tickets" (.ref p6) (wF (WR.mk true (n : Int) (k : Int) (t : Int) tl0 lc0 ld0 al0 lw0)) = wF (WR.mk true (n : Int) (k : Int) (t : Int) p6 lc0 ld0 al0 lw0) from p_tickets _ _]
      have f6 := (f5.ex e6).upd (o := .ins C dx (wF (WR.mk true (n : Int) (k : Int) (t : Int) p6 lc0 ld0 al0 lw0))) (.inl fa)
      have g6 : Grow F H p6 := f5.new np6
      have n6 : p6 ≠ a := fun e => by
        rw [e, upd_same] at np6
        cases np6
      have h6 : upd H6 a (.ins C dx (wF (WR.mk true (n : Int) (k : Int) (t : Int) p6 lc0 ld0 al0 lw0))) p6 = some (.lst []) := by
        rw [upd_ne n6]
        exact hp6
      generalize hG6 : upd H6 a (.ins C dx (wF (WR.mk true (n : Int) (k : Int) (t : Int) p6 lc0 ld0 al0 lw0))) = G6 at f6 h6 ⊢
      have a6 : G6 a = some (.ins C dx (wF (WR.mk true (n : Int) (k : Int) (t : Int) p6 lc0 ld0 al0 lw0))) := by rw [← hG6]; exact upd_same
      refine q_fldR (n := n) (k := k) (ea_cons (ev_var rfl) (ea_one (ev_var rfl))) (by omega) (by omega) (by omega) (pow_bound (by omega) (by omega)) (ev_var rfl) a6 T.cl T.a_choices (few _) fun p7 H7 np7 e7 hr7 => ?_
      rw [show putF "choices" (.ref p7) (wF (WR.mk true (n : Int) (k : Int) (t : Int) p6 lc0 ld0 al0 lw0)) = wF (WR.mk true (n : Int) (k : Int) (t : Int) p6 p7 ld0 al0 lw0) from p_choices _ _]
      have f7 := (f6.ex e7).upd (o := .ins C dx (wF (WR.mk true (n : Int) (k : Int) (t : Int) p6 p7 ld0 al0 lw0))) (.inl fa)
      have r7 := rows_upd (o := .ins C dx (wF (WR.mk true (n : Int) (k : Int) (t : Int) p6 p7 ld0 al0 lw0))) hr7 (new_ne a6)
      have m67 : p6 ≠ p7 := ne_of_none h6 np7
      have h67 : upd H7 a (.ins C dx (wF (WR.mk true (n : Int) (k : Int) (t : Int) p6 p7 ld0 al0 lw0))) p6 = some (.lst []) := by
        rw [upd_ne n6]
        exact e7 _ _ h6
      generalize hG7 : upd H7 a (.ins C dx (wF (WR.mk true (n : Int) (k : Int) (t : Int) p6 p7 ld0 al0 lw0))) = G7 at f7 r7 h67 ⊢
      have a7 : G7 a = some (.ins C dx (wF (WR.mk true (n : Int) (k : Int) (t : Int) p6 p7 ld0 al0 lw0))) := by rw [← hG7]; exact upd_same
      refine q_fldR (n := n) (k := t) (ea_cons (ev_var rfl) (ea_one (ev_var rfl))) (by omega) (by omega) (by omega) (pow_bound (by omega) (by omega)) (ev_var rfl) a7 T.cl T.a_draws (few _) fun p8 H8 np8 e8 hr8 => ?_
      rw [show putF "draws" (.ref p8) (wF (WR.mk true (n : Int) (k : Int) (t : Int) p6 p7 ld0 al0 lw0)) = wF (WR.mk true (n : Int) (k : Int) (t : Int) p6 p7 p8 al0 lw0) from p_draws _ _]
      have f8 := (f7.ex e8).upd (o := .ins C dx (wF (WR.mk true (n : Int) (k : Int) (t : Int) p6 p7 p8 al0 lw0))) (.inl fa)
      have r8 := rows_upd (o := .ins C dx (wF (WR.mk true (n : Int) (k : Int) (t : Int) p6 p7 p8 al0 lw0))) hr8 (new_ne a7)
      have r78 := rows_upd (o := .ins C dx (wF (WR.mk true (n : Int) (k : Int) (t : Int) p6 p7 p8 al0 lw0))) (r7.ex e8) (new_ne a6)
      have m68 : p6 ≠ p8 := ne_of_none h67 np8
      have h68 : upd H8 a (.ins C dx (wF (WR.mk true (n : Int) (k : Int) (t : Int) p6 p7 p8 al0 lw0))) p6 = some (.lst []) := by
        rw [upd_ne n6]
        exact e8 _ _ h67
      generalize hG8 : upd H8 a (.ins C dx (wF (WR.mk true (n : Int) (k : Int) (t : Int) p6 p7 p8 al0 lw0))) = G8 at f8 r8 r78 h68 ⊢
      have a8 : G8 a = some (.ins C dx (wF (WR.mk true (n : Int) (k : Int) (t : Int) p6 p7 p8 al0 lw0))) := by rw [← hG8]; exact upd_same
      -- all_draws
      have hds : WD.rising n t = Mu24.allDraws ⟨n, k, t, []⟩ := (WD.allDraws_rising ⟨n, k, t, []⟩).symm
      have hcs : WD.rising n k = Mu24.allTickets ⟨n, k, t, []⟩ := (WD.allTickets_rising ⟨n, k, t, []⟩).symm
      rw [hds] at r8
      rw [hcs] at r78
      have hdl : (Mu24.allDraws ⟨n, k, t, []⟩).length ≤ 1024 := by
        rw [← hds]
        exact WD.rising_two (by omega)
      have hld8 : ∀ (σ : L2.St), σ[0]? = some (some (V.ref a)) → Ev (tCB (rLenS K) (tCons (tFld K (tVar 0) "draws") tNil)) σ G8 (nI (Mu24.allDraws ⟨n, k, t, []⟩).length) := fun σ h0 => ev_lenR (ev_fld (ev_var h0) a8 T.cl T.a_draws (l_draws _)) r8
      refine q_fld (y := nI (allD ⟨n, k, t, []⟩)) ?_ (ev_var rfl) a8 T.cl T.a_all_draws (few _) fun H9 e9 => ?_
      · refine ev_subN (a := 2 ^ (Mu24.allDraws ⟨n, k, t, []⟩).length) (b := 1) ?_ ev_c (Nat.two_pow_pos _)
        refine ev_is (ev_op ev_c (hld8 _ rfl) (rv_I (i := 1) (j := ((Mu24.allDraws ⟨n, k, t, []⟩).length : Int)) ⟨by omega, by omega, by decide⟩)) ?_
        show V.int (1 * 2 ^ (((Mu24.allDraws ⟨n, k, t, []⟩).length : Int)).toNat) = V.int ((2 ^ (Mu24.allDraws ⟨n, k, t, []⟩).length : Nat) : Int)
        rw [Int.toNat_natCast, Int.one_mul, Int.natCast_pow]
        rfl
      · rw [show putF "all_draws" (nI (allD ⟨n, k, t, []⟩)) (wF (WR.mk true (n : Int) (k : Int) (t : Int) p6 p7 p8 al0 lw0)) = wF (WR.mk true (n : Int) (k : Int) (t : Int) p6 p7 p8 (allD ⟨n, k, t, []⟩ : Int) lw0) from p_all_draws _ _]
        have f9 := (f8.ex e9).upd (o := .ins C dx (wF (WR.mk true (n : Int) (k : Int) (t : Int) p6 p7 p8 (allD ⟨n, k, t, []⟩ : Int) lw0))) (.inl fa)
        have r89 := rows_upd (o := .ins C dx (wF (WR.mk true (n : Int) (k : Int) (t : Int) p6 p7 p8 (allD ⟨n, k, t, []⟩ : Int) lw0))) (r8.ex e9) (new_ne a7)
        have r79 := rows_upd (o := .ins C dx (wF (WR.mk true (n : Int) (k : Int) (t : Int) p6 p7 p8 (allD ⟨n, k, t, []⟩ : Int) lw0))) (r78.ex e9) (new_ne a6)
        have h69 : upd H9 a (.ins C dx (wF (WR.mk true (n : Int) (k : Int) (t : Int) p6 p7 p8 (allD ⟨n, k, t, []⟩ : Int) lw0))) p6 = some (.lst []) := by
          rw [upd_ne n6]
          exact e9 _ _ h68
        generalize hG9 : upd H9 a (.ins C dx (wF (WR.mk true (n : Int) (k : Int) (t : Int) p6 p7 p8 (allD ⟨n, k, t, []⟩ : Int) lw0))) = G9 at f9 r89 r79 h69 ⊢
        have a9 : G9 a = some (.ins C dx (wF (WR.mk true (n : Int) (k : Int) (t : Int) p6 p7 p8 (allD ⟨n, k, t, []⟩ : Int) lw0))) := by rw [← hG9]; exact upd_same
        have hlc : EvL (tLc (iRng1 (tCons (tVar 1) tNil)) (gName 4) tYes (tCall spWith [] E0 (tCons (tVar 4) (tCons (tFld K (tVar 0) "draws") tNil))) [4]) (start ["self", "n", "k", "t", "number"] [V.ref a, nI n, nI k, nI t]) G9 ((dwL ⟨n, k, t, []⟩).map nI) := by
          have h := el_lcR1 (ta := tCons (tVar 1) tNil) (t := tYes) (te := tCall spWith [] E0 (tCons (tVar 4) (tCons (tFld K (tVar 0) "draws") tNil))) (j := 4) (vs := [4]) (n := (n : Int)) (σ := start ["self", "n", "k", "t", "number"] [V.ref a, nI n, nI k, nI t]) (H := G9) (fun _ => true) (fun i : Nat => nI (WD.mask (fun d : List Nat => d.contains i) (Mu24.allDraws ⟨n, k, t, []⟩)))
            (ea_one (ev_var rfl)) (by omega) (fun x => rfl) (fun i H1 e hi => et_yes) fun i H1 e hi _ =>
              ev_call (ea_cons (ev_var rfl) (ea_one (ev_fld (ev_var rfl) (e _ _ a9) T.cl T.a_draws (l_draws _)))) (spWith_go (i := i) (r89.ex e) (by omega))
          have e : given ((n : Int)).toNat (fun _ => true) (fun i : Nat => nI (WD.mask (fun d : List Nat => d.contains i) (Mu24.allDraws ⟨n, k, t, []⟩))) = (dwL ⟨n, k, t, []⟩).map nI := by
            unfold given dwL
            rw [Int.toNat_natCast, List.filter_eq_self.mpr fun _ _ => rfl, List.map_map]
            rfl
          rw [e] at h
          exact h
        refine q_fldL hlc (ev_var rfl) a9 T.cl T.a_drawn_with (few _) fun p10 H10 np10 e10 hp10 => ?_
        rw [show putF "drawn_with" (.ref p10) (wF (WR.mk true (n : Int) (k : Int) (t : Int) p6 p7 p8 (allD ⟨n, k, t, []⟩ : Int) lw0)) = wF (WR.mk true (n : Int) (k : Int) (t : Int) p6 p7 p8 (allD ⟨n, k, t, []⟩ : Int) p10) from p_drawn_with _ _]
        have fA := (f9.ex e10).upd (o := .ins C dx (wF (WR.mk true (n : Int) (k : Int) (t : Int) p6 p7 p8 (allD ⟨n, k, t, []⟩ : Int) p10))) (.inl fa)
        have r8A := rows_upd (o := .ins C dx (wF (WR.mk true (n : Int) (k : Int) (t : Int) p6 p7 p8 (allD ⟨n, k, t, []⟩ : Int) p10))) (r89.ex e10) (new_ne a7)
        have r7A := rows_upd (o := .ins C dx (wF (WR.mk true (n : Int) (k : Int) (t : Int) p6 p7 p8 (allD ⟨n, k, t, []⟩ : Int) p10))) (r79.ex e10) (new_ne a6)
        have n10 : p10 ≠ a := fun e => by
          rw [e, a9] at np10
          cases np10
        have ws : WSt C (Grow F H) (upd H10 a (.ins C dx (wF (WR.mk true (n : Int) (k : Int) (t : Int) p6 p7 p8 (allD ⟨n, k, t, []⟩ : Int) p10)))) a (WR.mk true (n : Int) (k : Int) (t : Int) p6 p7 p8 (allD ⟨n, k, t, []⟩ : Int) p10) ⟨n, k, t, []⟩ :=
          { rc := ⟨dx, upd_same⟩, fa := .inl fa, eb := rfl, en := rfl, ek := rfl, et := rfl, ea := rfl
            tick := ⟨[], g6, by show upd H10 a _ p6 = _; rw [upd_ne n6]; exact e10 _ _ h69, .nil⟩
            ch := r7A.mono (fun x hx => f6.new hx) fun _ _ _ h => h
            dr := r8A.mono (fun x hx => f7.new hx) fun _ _ _ h => h
            fw := f9.new np10
            dw := by
              show upd H10 a _ p10 = _
              rw [upd_ne n10]
              exact hp10
            good := g
            ne1 := m67, ne2 := m68
            ne3 := ne_of_none h69 np10 }
        obtain ⟨dxA, hwA⟩ := ws.rc
        have hl1 : Ev (tCB (rLenS K) (tCons (tFld K (tVar 0) "choices") tNil)) (start ["self", "n", "k", "t", "number"] [V.ref a, nI n, nI k, nI t]) _ (nI (Mu24.allTickets ⟨n, k, t, []⟩).length) := ev_lenR (ev_fld (ev_var rfl) hwA T.cl T.a_choices (l_choices _)) ws.ch
        have hl2 : Ev (tCB (rLenS K) (tCons (tFld K (tVar 0) "draws") tNil)) (start ["self", "n", "k", "t", "number"] [V.ref a, nI n, nI k, nI t]) _ (nI (Mu24.allDraws ⟨n, k, t, []⟩).length) := ev_lenR (ev_fld (ev_var rfl) hwA T.cl T.a_draws (l_draws _)) ws.dr
        exact s_retL (el_lst (vs := [.int 0, nI (Mu24.allTickets ⟨n, k, t, []⟩).length, nI (Mu24.allDraws ⟨n, k, t, []⟩).length]) (ea_cons ev_c (ea_cons hl1 (ea_one hl2))) (by show 3 ≤ 100000; decide)) (post_of q rfl ⟨_, ws⟩ fA)

end WP
end
section
namespace WP
open PySem PySem.Spec PyProof.Rows L2 Evl WM
variable {P : Program} {w : World} {K : PySem.W.Frag} {mg : Str → Option Value} {base : Heap} {C aR aP : Addr}
/-! ### where a call's numbers stand -/
theorem row_in (p : Nat) : inV (nI p) cRow = WD.isR p := by
  have e : cRow = [1, 4, 10].map nI := rfl
  rw [e, inV_nI]
  unfold WD.isR
  show (p == 1 || (p == 4 || (p == 10 || false))) = _
  rw [Bool.or_false]
theorem plain_at : ∀ p, p < 12 → cPlain[p]? = some (nI (WD.plainN p)) := by
  intro p hp
  match p, hp with
  | 0, _ => rfl
  | 1, _ => rfl
  | 2, _ => rfl
  | 3, _ => rfl
  | 4, _ => rfl
  | 5, _ => rfl
  | 6, _ => rfl
  | 7, _ => rfl
  | 8, _ => rfl
  | 9, _ => rfl
  | 10, _ => rfl
  | 11, _ => rfl
theorem at_L {L : List Nat} {i p : Nat} (h : L[i]? = some p) : atI (L.map nI) (i : Int) = some (nI p) := atI_nat (by rw [List.getElem?_map, h]; rfl)
def spStart (K : PySem.W.Frag) : Sp := fun vs H Q _ => ∃ (ca : Addr) (L : List Nat) (i p : Nat), vs = [.ref ca, nI i] ∧ SqL K H ca (L.map nI) ∧ L[i]? = some p ∧ RetV (nI (WD.stOf p i)) H Q
theorem spStart_go {ca : Addr} {L : List Nat} {i p : Nat} {H : Hp} (h : SqL K H ca (L.map nI)) (hp : L[i]? = some p) : SpV (spStart K) [.ref ca, nI i] H (nI (WD.stOf p i)) := fun H1 e Q k _ => ⟨ca, L, i, p, rfl, ex_l e h, hp, k⟩
theorem sc_start_of_given : FnScope ["calls", "at"] ["calls", "at"] (defScope s_start_of_given) := ⟨rfl, rfl, rfl, by decide +kernel, rfl, by decide +kernel, by decide +kernel⟩
theorem ok_start_of_given (D : DefAt K mg "start_of_given" s_start_of_given ["calls", "at"]) (T : Txt K mg C aR aP) : GoodD P w K mg base 1 "start_of_given" ["calls", "at"] (spStart K) := by
  refine D.ok (N := ["calls", "at"]) (k := 0) sc_start_of_given (fun vs H Q E h => ?_) (fun f cdv A outer s H vs Q E hr h => ⟨_, (pss_one (ps_ret (pe_ifExp (pt_cmpR op_in_seq (pe_ix ix_list (pv 0) (pv 1) (fun _ _ => rfl)) (pe_globE (by rfl) T.rowc.g) (by rfl)) (pe_op op_add (pv 1) pe_int) (pe_op op_add (pv 1) pe_int)))), ?_⟩)
  · obtain ⟨ca, L, i, p, rfl, _⟩ := h
    rfl
  · obtain ⟨ca, L, i, p, rfl, hL, hp, q⟩ := h
    refine s_ret (v := nI (WD.stOf p i)) ?_ q
    refine ev_if (b := inV (nI p) cRow) (et_test (ev_op (ev_op (ev_var rfl) (ev_var rfl) (rv_ixL hL (at_L hp))) ev_c (rv_isT T.rowc.sq rfl rfl))) (fun hb => ?_) (fun hb => ?_)
    · rw [row_in] at hb
      have e : WD.stOf p i = i + 2 := if_pos hb
      rw [e]
      exact ev_addN (b := 2) (ev_var rfl) ev_c
    · rw [row_in] at hb
      have e : WD.stOf p i = i + 1 := if_neg (by rw [hb]; decide)
      rw [e]
      exact ev_addN (b := 1) (ev_var rfl) ev_c
def cnt (p n : Nat) : Nat := if WD.isR p = true then n else WD.plainN p
def spHow (K : PySem.W.Frag) : Sp := fun vs H Q _ => ∃ (ca : Addr) (L : List Nat) (i p n : Nat), vs = [.ref ca, nI i] ∧ SqL K H ca (L.map nI) ∧ L[i]? = some p ∧ p < 12 ∧ (WD.isR p = true → L[i + 1]? = some n) ∧ RetV (nI (cnt p n)) H Q
theorem spHow_go {ca : Addr} {L : List Nat} {i p n : Nat} {H : Hp} (h : SqL K H ca (L.map nI)) (hp : L[i]? = some p) (h12 : p < 12) (hn : WD.isR p = true → L[i + 1]? = some n) : SpV (spHow K) [.ref ca, nI i] H (nI (cnt p n)) := fun H1 e Q k _ => ⟨ca, L, i, p, n, rfl, ex_l e h, hp, h12, hn, k⟩
theorem sc_count_of_given : FnScope ["calls", "at"] ["calls", "at"] (defScope s_count_of_given) := ⟨rfl, rfl, rfl, by decide +kernel, rfl, by decide +kernel, by decide +kernel⟩
theorem ok_count_of_given (D : DefAt K mg "count_of_given" s_count_of_given ["calls", "at"]) (T : Txt K mg C aR aP) : GoodD P w K mg base 1 "count_of_given" ["calls", "at"] (spHow K) := by
  refine D.ok (N := ["calls", "at"]) (k := 0) sc_count_of_given (fun vs H Q E h => ?_) (fun f cdv A outer s H vs Q E hr h => ⟨_, (pss_one (ps_ret (pe_ifExp (pt_cmpR op_in_seq (pe_ix ix_list (pv 0) (pv 1) (fun _ _ => rfl)) (pe_globE (by rfl) T.rowc.g) (by rfl)) (pe_ix ix_list (pv 0) (pe_op op_add (pv 1) pe_int) (fun _ _ => rfl)) (pe_ix ix_tup (pe_globE (by rfl) T.plain.g) (pe_ix ix_list (pv 0) (pv 1) (fun _ _ => rfl)) (fun _ _ => rfl))))), ?_⟩)
  · obtain ⟨ca, L, i, p, n, rfl, _⟩ := h
    rfl
  · obtain ⟨ca, L, i, p, n, rfl, hL, hp, h12, hn, q⟩ := h
    refine s_ret (v := nI (cnt p n)) ?_ q
    refine ev_if (b := inV (nI p) cRow) (et_test (ev_op (ev_op (ev_var rfl) (ev_var rfl) (rv_ixL hL (at_L hp))) ev_c (rv_isT T.rowc.sq rfl rfl))) (fun hb => ?_) (fun hb => ?_)
    · rw [row_in] at hb
      have e : cnt p n = n := if_pos hb
      rw [e]
      exact ev_op (ev_var rfl) (ev_addN (a := i) (b := 1) (ev_var rfl) ev_c) (rv_ixL hL (at_L (hn hb)))
    · rw [row_in] at hb
      have e : cnt p n = WD.plainN p := if_neg (by rw [hb]; decide)
      rw [e]
      exact ev_op ev_c (ev_op (ev_var rfl) (ev_var rfl) (rv_ixL hL (at_L hp))) (rv_ixT T.plain.sq (atI_nat (plain_at p h12)))
/-! ### one call -/
theorem Post.ex {a : Addr} {F : Addr → Prop} {H H1 : Hp} {res : Mu24.Abs × Mu24.Ans} {Q : VK} (k : Post C a F H res Q) (e : Ex H H1) : Post C a F H1 res Q := fun H' p F' np hp wa hF hk =>
  k H' p F' (fresh_back e np) hp wa (fun x hx => (hF x hx).imp id fun h => fresh_back e h) fun b o hb n => hk b o (e b o hb) n
theorem s_retM {σ : L2.St} {H : Hp} {D : Ends} {ta : TE} {t : TA} {a dx : Addr} {fs : List (Str × V)} {m : Str} {vs : List V} {sp : Sp} (ha : Ev ta σ H (.ref a)) (hw : H a = some (.ins C dx fs)) (l : fs.lookup m = none) (hv : EvA t σ H vs)
    (k : ∀ H1, Ex H H1 → sp (.ref a :: (vs ++ [])) H1 D.rt E0) : tRet (tMeth C m sp [] E0 ta t) D σ H := ha H (Ex.refl H) _ fun H1 e1 => ⟨a, dx, fs, rfl, e1 _ _ hw, l, hv H1 e1 _ fun H2 e2 => k H2 (e1.trans e2)⟩
theorem q_ne {σ : L2.St} {H : Hp} {D : Ends} {tu tz : TS} {p j : Nat} (h1 : σ[1]? = some (some (nI p))) (hne : p ≠ j) (k : ∀ H1, Ex H H1 → tz D σ H1) : tSeq (tIfS (tTest (tOp rEq (tVar 1) (tC (nI j)))) tu tNext) tz D σ H :=
  q_when (b := decide (nI p = nI j)) (et_test (ev_op (ev_var h1) ev_c (rv_eq rfl))) (fun hb => by
    have h := of_decide_eq_true hb
    have h2 : ((p : Nat) : Int) = ((j : Nat) : Int) := V.int.inj h
    exact absurd (by omega) hne) fun _ => k
theorem q_eq {σ : L2.St} {H : Hp} {D : Ends} {tu tz : TS} {j : Nat} (h1 : σ[1]? = some (some (nI j))) (k : ∀ H1, Ex H H1 → tu { D with nx := tz D } σ H1) : tSeq (tIfS (tTest (tOp rEq (tVar 1) (tC (nI j)))) tu tNext) tz D σ H :=
  q_when (b := decide (nI j = nI j)) (et_test (ev_op (ev_var h1) ev_c (rv_eq rfl))) (fun _ => k) fun hb => by
    rw [decide_eq_true rfl] at hb
    cases hb
def spCall (C : Addr) : Sp := fun vs H Q _ => ∃ (a q : Addr) (F : Addr → Prop) (o : Mu24.Abs) (p : Nat) (g : List Nat), vs = [.ref a, nI p, .ref q] ∧ H q = some (nL g) ∧ WD.CallOk p g ∧ WA C F H a o ∧ Post C a F H (Mu24.step o (WD.mk p g)) Q
theorem step_none {p : Nat} {g : List Nat} (hp : p ≠ 0) : Mu24.step none (WD.mk p g) = (none, [-9]) := by
  match p, hp with
  | 1, _ => rfl
  | 2, _ => rfl
  | 3, _ => rfl
  | 4, _ => rfl
  | 5, _ => rfl
  | 6, _ => rfl
  | 7, _ => rfl
  | 8, _ => rfl
  | 9, _ => rfl
  | 10, _ => rfl
  | _ + 11, _ => rfl
theorem one_g {g : List Nat} (h : g.length = 1) : g = [g.getD 0 0] := by
  match g, h with
  | [x], _ => rfl
theorem three_g {g : List Nat} (h : g.length = 3) : g = [g.getD 0 0, g.getD 1 0, g.getD 2 0] := by
  match g, h with
  | [x, y, z], _ => rfl
theorem g_at {g : List Nat} {j : Nat} (h : j < g.length) : g[j]? = some (g.getD j 0) := by
  rw [List.getD_eq_getElem?_getD, List.getElem?_eq_getElem h]
  rfl
theorem ev_g {σ : L2.St} {H : Hp} {q : Addr} {g : List Nat} {j : Nat} (h2 : σ[2]? = some (some (.ref q))) (hq : H q = some (nL g)) (hj : j < g.length) : Ev (tOp (rIxL K) (tVar 2) (tC (.int (j : Int)))) σ H (nI (g.getD j 0)) :=
  ev_op (ev_var h2) ev_c (rv_ixL (sq_of hq) (at_L (g_at hj)))
theorem g_mem {g : List Nat} {j B : Nat} (h : ∀ x ∈ g, x ≤ B) : g.getD j 0 ≤ B := by
  rw [List.getD_eq_getElem?_getD]
  cases e : g[j]? with
  | none => exact Nat.zero_le _
  | some x => exact h x (List.mem_of_getElem? e)
theorem sc_answer_call : FnScope ["wheel", "call", "given"] ["wheel", "call", "given"] (defScope s_answer_call) := ⟨rfl, rfl, rfl, by decide +kernel, rfl, by decide +kernel, by decide +kernel⟩
theorem ok_answer_call (D : DefAt K mg "answer_call" s_answer_call ["wheel", "call", "given"]) (T : Txt K mg C aR aP)
    (G_begin : GoodM P w K mg base C 2 "begin" ["self", "n", "k", "t"] (spBegin C)) (G_buy : GoodM P w K mg base C 2 "buy" ["self", "ticket"] (spL C .buy)) (G_drop : GoodM P w K mg base C 1 "drop" ["self", "place"] (sp1 C 50 .drop))
    (G_look : GoodM P w K mg base C 1 "look" ["self"] (sp0 C .look)) (G_matches : GoodM P w K mg base C 3 "matches" ["self", "draw"] (spL C .matches_)) (G_worst : GoodM P w K mg base C 4 "worst" ["self"] (sp0 C .worst))
    (G_covers : GoodM P w K mg base C 3 "covers" ["self", "m"] (sp1 C 20 .covers)) (G_next_ticket : GoodM P w K mg base C 3 "next_ticket" ["self", "m"] (sp1 C 20 .next)) (G_fewest : GoodM P w K mg base C 2 "fewest" ["self", "m"] (sp1 C 20 .fewest))
    (G_needed : GoodM P w K mg base C 3 "needed" ["self", "m"] (sp1 C 20 .needed)) (G_pays : GoodM P w K mg base C 3 "pays" ["self", "prizes"] (spL C .pays)) (G_least : GoodM P w K mg base C 2 "least" ["self", "m"] (sp1 C 20 .least)) :
    GoodD P w K mg base 5 "answer_call" ["wheel", "call", "given"] (spCall C) := by
  refine D.ok (N := ["wheel", "call", "given"]) (k := 4) sc_answer_call (fun vs H Q E h => ?_) (fun f cdv A outer s H vs Q E hr h => ⟨_, (pss_cons (ps_if (pt_cmpR op_eq (pv 1) (pe_globE (by rfl) T.c_BEGIN) (nomark _)) (pss_one (ps_ret (pe_methG (pv 0) T.cl G_begin (hr.mono (by decide)) (pa_cons (pe_ix ix_list (pv 2) pe_int (fun _ _ => rfl)) (pa_cons (pe_ix ix_list (pv 2) pe_int (fun _ _ => rfl)) (pa_cons (pe_ix ix_list (pv 2) pe_int (fun _ _ => rfl)) pa_nil)))))) pss_nil)
      (pss_cons (ps_if (pt_not (pt_val (pe_fld (pv 0) rfl))) (pss_one (ps_ret (pe_lst (pa_cons (pe_un un_neg pe_int) pa_nil)))) pss_nil)
      (pss_cons (ps_if (pt_cmpR op_eq (pv 1) (pe_globE (by rfl) T.c_BUY) (nomark _)) (pss_one (ps_ret (pe_methG (pv 0) T.cl G_buy (hr.mono (by decide)) (pa_cons (pv 2) pa_nil)))) pss_nil)
      (pss_cons (ps_if (pt_cmpR op_eq (pv 1) (pe_globE (by rfl) T.c_DROP) (nomark _)) (pss_one (ps_ret (pe_methG (pv 0) T.cl G_drop (hr.mono (by decide)) (pa_cons (pe_ix ix_list (pv 2) pe_int (fun _ _ => rfl)) pa_nil)))) pss_nil)
      (pss_cons (ps_if (pt_cmpR op_eq (pv 1) (pe_globE (by rfl) T.c_LOOK) (nomark _)) (pss_one (ps_ret (pe_methG0 (pv 0) T.cl G_look (hr.mono (by decide))))) pss_nil)
      (pss_cons (ps_if (pt_cmpR op_eq (pv 1) (pe_globE (by rfl) T.c_MATCHES) (nomark _)) (pss_one (ps_ret (pe_methG (pv 0) T.cl G_matches (hr.mono (by decide)) (pa_cons (pv 2) pa_nil)))) pss_nil)
      (pss_cons (ps_if (pt_cmpR op_eq (pv 1) (pe_globE (by rfl) T.c_WORST) (nomark _)) (pss_one (ps_ret (pe_methG0 (pv 0) T.cl G_worst (hr.mono (by decide))))) pss_nil)
      (pss_cons (ps_if (pt_cmpR op_eq (pv 1) (pe_globE (by rfl) T.c_COVERS) (nomark _)) (pss_one (ps_ret (pe_methG (pv 0) T.cl G_covers (hr.mono (by decide)) (pa_cons (pe_ix ix_list (pv 2) pe_int (fun _ _ => rfl)) pa_nil)))) pss_nil)
      (pss_cons (ps_if (pt_cmpR op_eq (pv 1) (pe_globE (by rfl) T.c_NEXT) (nomark _)) (pss_one (ps_ret (pe_methG (pv 0) T.cl G_next_ticket (hr.mono (by decide)) (pa_cons (pe_ix ix_list (pv 2) pe_int (fun _ _ => rfl)) pa_nil)))) pss_nil)
      (pss_cons (ps_if (pt_cmpR op_eq (pv 1) (pe_globE (by rfl) T.c_FEWEST) (nomark _)) (pss_one (ps_ret (pe_methG (pv 0) T.cl G_fewest (hr.mono (by decide)) (pa_cons (pe_ix ix_list (pv 2) pe_int (fun _ _ => rfl)) pa_nil)))) pss_nil)
      (pss_cons (ps_if (pt_cmpR op_eq (pv 1) (pe_globE (by rfl) T.c_NEEDED) (nomark _)) (pss_one (ps_ret (pe_methG (pv 0) T.cl G_needed (hr.mono (by decide)) (pa_cons (pe_ix ix_list (pv 2) pe_int (fun _ _ => rfl)) pa_nil)))) pss_nil)
      (pss_cons (ps_if (pt_cmpR op_eq (pv 1) (pe_globE (by rfl) T.c_PAYS) (nomark _)) (pss_one (ps_ret (pe_methG (pv 0) T.cl G_pays (hr.mono (by decide)) (pa_cons (pv 2) pa_nil)))) pss_nil)
      (pss_one (ps_ret (pe_methG (pv 0) T.cl G_least (hr.mono (by decide)) (pa_cons (pe_ix ix_list (pv 2) pe_int (fun _ _ => rfl)) pa_nil)))))))))))))))), ?_⟩)
  · obtain ⟨a, q, F, o, p, g, rfl, _⟩ := h
    rfl
  · obtain ⟨a, q, F, o, p, g, rfl, hq, ok, wa, k⟩ := h
    obtain ⟨fa, r1, dx1, hw1⟩ := wa_rec wa
    by_cases h0 : p = 0
    · subst h0
      have hl : g.length = 3 := ok.len rfl
      refine q_eq (j := 0) rfl fun H1 e1 => ?_
      exact s_retM (ev_var rfl) (e1 _ _ hw1) (l_begin r1) (ea_cons (ev_g (j := 0) rfl (e1 _ _ hq) (by omega)) (ea_cons (ev_g (j := 1) rfl (e1 _ _ hq) (by omega)) (ea_one (ev_g (j := 2) rfl (e1 _ _ hq) (by omega))))) fun H2 e2 => ⟨a, F, o, _, _, _, rfl, (wa.ex e1).ex e2, (k.ex e1).ex e2⟩
    refine q_ne (j := 0) rfl h0 fun H1 e1 => ?_
    cases o with
    | none =>
      obtain ⟨_, r, ⟨dx, hw⟩, hb0⟩ := id wa
      rw [step_none h0] at k
      refine q_when (b := !r.b) (et_not (et_B (ev_fld (ev_var rfl) (e1 _ _ hw) T.cl T.a_begun (l_begun r)))) (fun hb H2 e2 => ?_) (fun hb H2 e2 => ?_)
      · have k := Post.ro wa k
        exact s_retL el_neg fun p H3 hp e3 h3 => k p H3 (fresh_back (e1.trans e2) hp) ((e1.trans e2).trans e3) h3
      · rw [hb0] at hb
        cases hb
    | some st =>
      obtain ⟨r, ws⟩ := id wa
      obtain ⟨dx, hw⟩ := ws.rc
      refine q_when (b := !r.b) (et_not (et_B (ev_fld (ev_var rfl) (e1 _ _ hw) T.cl T.a_begun (l_begun r)))) (fun hb H2 e2 => ?_) (fun hb H2 e2 => ?_)
      · rw [ws.eb] at hb
        cases hb
      · have e12 := e1.trans e2
        have low : ∀ j, p ≠ 2 → p ≠ 10 → g.getD j 0 ≤ 20 := fun j h2 h10 => g_mem (ok.low h2 h10)
        by_cases h1 : p = 1
        · subst h1
          refine q_eq (j := 1) rfl fun H3 e3 => ?_
          have e13 := e12.trans e3
          exact s_retM (ev_var rfl) (e13 _ _ hw) (l_buy r) (ea_one (ev_var rfl)) fun H4 e4 => ⟨a, F, st, q, g, rfl, (e13.trans e4) _ _ hq, ok.few, (wa.ex e13).ex e4, (k.ex e13).ex e4⟩
        refine q_ne (j := 1) rfl h1 fun H3 e3 => ?_
        by_cases h2 : p = 2
        · subst h2
          have hl : g.length = 1 := ok.len rfl
          refine q_eq (j := 2) rfl fun H4 e4 => ?_
          have e14 := (e12.trans e3).trans e4
          exact s_retM (ev_var rfl) (e14 _ _ hw) (l_drop r) (ea_one (ev_g (j := 0) rfl (e14 _ _ hq) (by omega))) fun H5 e5 => ⟨a, F, st, _, rfl, g_mem (ok.low2 rfl), (wa.ex e14).ex e5, (k.ex e14).ex e5⟩
        refine q_ne (j := 2) rfl h2 fun H4 e4 => ?_
        have e14 := (e12.trans e3).trans e4
        by_cases h3 : p = 3
        · subst h3
          refine q_eq (j := 3) rfl fun H5 e5 => ?_
          have e15 := e14.trans e5
          exact s_retM (ev_var rfl) (e15 _ _ hw) (l_look r) ea_nil fun H6 e6 => ⟨a, F, st, rfl, (wa.ex e15).ex e6, (k.ex e15).ex e6⟩
        refine q_ne (j := 3) rfl h3 fun H5 e5 => ?_
        have e15 := e14.trans e5
        by_cases h4 : p = 4
        · subst h4
          refine q_eq (j := 4) rfl fun H6 e6 => ?_
          have e16 := e15.trans e6
          exact s_retM (ev_var rfl) (e16 _ _ hw) (l_matches r) (ea_one (ev_var rfl)) fun H7 e7 => ⟨a, F, st, q, g, rfl, (e16.trans e7) _ _ hq, ok.few, (wa.ex e16).ex e7, (k.ex e16).ex e7⟩
        refine q_ne (j := 4) rfl h4 fun H6 e6 => ?_
        have e16 := e15.trans e6
        by_cases h5 : p = 5
        · subst h5
          refine q_eq (j := 5) rfl fun H7 e7 => ?_
          have e17 := e16.trans e7
          exact s_retM (ev_var rfl) (e17 _ _ hw) (l_worst r) ea_nil fun H8 e8 => ⟨a, F, st, rfl, (wa.ex e17).ex e8, (k.ex e17).ex e8⟩
        refine q_ne (j := 5) rfl h5 fun H7 e7 => ?_
        have e17 := e16.trans e7
        by_cases h6 : p = 6
        · subst h6
          have hl : g.length = 1 := ok.len rfl
          refine q_eq (j := 6) rfl fun H8 e8 => ?_
          have e18 := e17.trans e8
          exact s_retM (ev_var rfl) (e18 _ _ hw) (l_covers r) (ea_one (ev_g (j := 0) rfl (e18 _ _ hq) (by omega))) fun H9 e9 => ⟨a, F, st, _, rfl, low 0 (by decide) (by decide), (wa.ex e18).ex e9, (k.ex e18).ex e9⟩
        refine q_ne (j := 6) rfl h6 fun H8 e8 => ?_
        have e18 := e17.trans e8
        by_cases h7 : p = 7
        · subst h7
          have hl : g.length = 1 := ok.len rfl
          refine q_eq (j := 7) rfl fun H9 e9 => ?_
          have e19 := e18.trans e9
          exact s_retM (ev_var rfl) (e19 _ _ hw) (l_next_ticket r) (ea_one (ev_g (j := 0) rfl (e19 _ _ hq) (by omega))) fun HA eA => ⟨a, F, st, _, rfl, low 0 (by decide) (by decide), (wa.ex e19).ex eA, (k.ex e19).ex eA⟩
        refine q_ne (j := 7) rfl h7 fun H9 e9 => ?_
        have e19 := e18.trans e9
        by_cases h8 : p = 8
        · subst h8
          have hl : g.length = 1 := ok.len rfl
          refine q_eq (j := 8) rfl fun HA eA => ?_
          have e1A := e19.trans eA
          exact s_retM (ev_var rfl) (e1A _ _ hw) (l_fewest r) (ea_one (ev_g (j := 0) rfl (e1A _ _ hq) (by omega))) fun HB eB => ⟨a, F, st, _, rfl, low 0 (by decide) (by decide), (wa.ex e1A).ex eB, (k.ex e1A).ex eB⟩
        refine q_ne (j := 8) rfl h8 fun HA eA => ?_
        have e1A := e19.trans eA
        by_cases h9 : p = 9
        · subst h9
          have hl : g.length = 1 := ok.len rfl
          refine q_eq (j := 9) rfl fun HB eB => ?_
          have e1B := e1A.trans eB
          exact s_retM (ev_var rfl) (e1B _ _ hw) (l_needed r) (ea_one (ev_g (j := 0) rfl (e1B _ _ hq) (by omega))) fun HC eC => ⟨a, F, st, _, rfl, low 0 (by decide) (by decide), (wa.ex e1B).ex eC, (k.ex e1B).ex eC⟩
        refine q_ne (j := 9) rfl h9 fun HB eB => ?_
        have e1B := e1A.trans eB
        by_cases h10 : p = 10
        · subst h10
          refine q_eq (j := 10) rfl fun HC eC => ?_
          have e1C := e1B.trans eC
          exact s_retM (ev_var rfl) (e1C _ _ hw) (l_pays r) (ea_one (ev_var rfl)) fun HD eD => ⟨a, F, st, q, g, rfl, (e1C.trans eD) _ _ hq, ok.few, (wa.ex e1C).ex eD, (k.ex e1C).ex eD⟩
        refine q_ne (j := 10) rfl h10 fun HC eC => ?_
        have e1C := e1B.trans eC
        have h11 : p = 11 := by
          have := ok.lt
          omega
        subst h11
        have hl : g.length = 1 := ok.len rfl
        exact s_retM (ev_var rfl) (e1C _ _ hw) (l_least r) (ea_one (ev_g (j := 0) rfl (e1C _ _ hq) (by omega))) fun HD eD => ⟨a, F, st, _, rfl, low 0 (by decide) (by decide), (wa.ex e1C).ex eD, (k.ex e1C).ex eD⟩

end WP
end
section
namespace WP
open PySem PySem.Spec PyProof.Rows L2 Evl WM
variable {P : Program} {w : World} {K : PySem.W.Frag} {mg : Str → Option Value} {base : Heap} {C aR aP : Addr}
/-! ### the whole line -/
theorem WA.off {F : Addr → Prop} {H : Hp} {a g : Addr} {o : Mu24.Abs} {u : HO} (wa : WA C F H a o) (hF : ∀ y, F y → y ≠ g) : WA C F (upd H g u) a o := wa.mono (fun _ f => f) fun x v fx hx => by
  rw [upd_ne (hF x fx)]
  exact hx
theorem spCall_go {a q : Addr} {F : Addr → Prop} {o : Mu24.Abs} {p : Nat} {g : List Nat} {H : Hp} {Q : VK} (hq : H q = some (nL g)) (ok : WD.CallOk p g) (wa : WA C F H a o) (k : Post C a F H (Mu24.step o (WD.mk p g)) Q) : spCall C [.ref a, nI p, .ref q] H Q E0 := ⟨a, q, F, o, p, g, rfl, hq, ok, wa, k⟩
/-- numbers = answer_call(wheel, calls[at], calls[start:end]) -/
theorem q_call {σ : L2.St} {H : Hp} {D : Ends} {tz : TS} {ta tb tc : TE} {tl th : TO} {j : Nat} {a ca : Addr} {F : Addr → Prop} {o : Mu24.Abs} {p st en : Nat} {L g : List Nat} (ha : Ev ta σ H (.ref a)) (hb : Ev tb σ H (nI p)) (hc : Ev tc σ H (.ref ca)) (hl : EvO tl σ H (some (st : Int))) (hh : EvO th σ H (some (en : Int)))
    (hL : SqL K H ca (L.map nI)) (h1 : st ≤ en) (h2 : en ≤ L.length) (hg : (L.drop st).take (en - st) = g) (ok : WD.CallOk p g) (wa : WA C F H a o)
    (k : ∀ (H1 H' : Hp) (r : Addr) (F' : Addr → Prop), Ex H H1 → H1 r = none → H' r = some (.lst ((Mu24.step o (WD.mk p g)).2.map V.int)) → WA C F' H' a (Mu24.step o (WD.mk p g)).1 → (∀ x, F' x → F x ∨ H1 x = none) → (∀ b u, H1 b = some u → ¬ F b → H' b = some u) → tz D (σ.set j (some (.ref r))) H') :
    tSeq (tAsg (tCall (spCall C) [] E0 (tCons ta (tCons tb (tCons (tSl (rSlL K) tc tl th) tNil)))) (gName j)) tz D σ H := by
  refine ha H (Ex.refl H) _ fun H1 e1 => hb H1 e1 _ fun H2 e2 => el_sl hc hl hh hL H2 (e1.trans e2) _ fun q H3 hq e3 h3 => ?_
  have e13 := (e1.trans e2).trans e3
  have hcut : cutV (L.map nI) (some (st : Int)) (some (en : Int)) = g.map nI := by
    rw [cut_mid _ _ _ h1 (by rw [List.length_map]; exact h2), ← hg, List.map_take, List.map_drop]
  rw [hcut] at h3
  exact spCall_go h3 ok (wa.ex e13) fun H' r F' np hr wa' hF hk => k H3 H' r F' e13 np hr wa' hF hk
def spAnswers (K : PySem.W.Frag) : Sp := fun vs H Q _ => ∃ (ca : Addr) (L : List Nat), vs = [.ref ca] ∧ SqL K H ca (L.map nI) ∧ L.length ≤ 1000 ∧ PyMu24.answers_asked (WD.zints L) = true ∧
  ∀ (H' : Hp) (p : Addr), H' p = some (.lst ((PyMu24.answers (WD.zints L)).map V.int)) → Q (.ref p) H'
theorem sc_answers : FnScope ["calls", "wheel", "told", "at", "start", "end", "numbers"] ["calls"] (defScope s_answers) := ⟨rfl, rfl, rfl, by decide +kernel, rfl, by decide +kernel, by decide +kernel⟩
theorem ok_answers {f : Addr} {fd : FuncData} (Fn : Fun K "answers" "answers" s_answers f fd) (T : Txt K mg C aR aP) (mkC : PySem.W.makesIn K C = true) (kpC : PySem.W.keepIn K (.ref C) = true) (G_init : GoodM P w K mg base C 1 "__init__" ["self"] (spInit C))
    (G_start_of_given : GoodD P w K mg base 1 "start_of_given" ["calls", "at"] (spStart K)) (G_count_of_given : GoodD P w K mg base 1 "count_of_given" ["calls", "at"] (spHow K)) (G_answer_call : GoodD P w K mg base 5 "answer_call" ["wheel", "call", "given"] (spCall C)) :
    FnOk P w K mg base CX0 6 f fd ["calls"] (spAnswers K) := by
  obtain ⟨fi, fdi, FI, mi, bi⟩ := G_init
  have M : Mk K C fi := ⟨mkC, mi.at_, mi.fn, kpC⟩
  refine Fn.ok (N := ["calls", "wheel", "told", "at", "start", "end", "numbers"]) (k := 5) sc_answers (fun vs H Q E h => ?_) (fun cdv A outer s H vs Q E hr h => ⟨_, (pss_cons (ps_set (i := 1) sc_answers.nd rfl (Or.inl rfl) (pe_make0 M FI (hr.mono (by decide)) (by rfl) T.gC bi .nil pass0))
      (pss_cons (ps_set (i := 2) sc_answers.nd rfl (Or.inl rfl) (pe_lst pa_nil))
      (pss_cons (ps_set (i := 3) sc_answers.nd rfl (Or.inl rfl) pe_int)
      (pss_cons (ps_while PassesOwn.never (pt_cmpR op_lt (pv 3) (pe_callB call_len_seq (by rfl) T.m_len PySem.boot_len (pa_cons (pv 0) pa_nil)) (nomark _)) (pss_cons (ps_set (i := 4) sc_answers.nd rfl (Or.inl rfl) (pe_callG G_start_of_given (hr.mono (by decide)) (by rfl) (pa_cons (pv 0) (pa_cons (pv 3) pa_nil))))
      (pss_cons (ps_set (i := 5) sc_answers.nd rfl (Or.inl rfl) (pe_op op_add (pv 4) (pe_callG G_count_of_given (hr.mono (by decide)) (by rfl) (pa_cons (pv 0) (pa_cons (pv 3) pa_nil)))))
      (pss_cons (ps_set (i := 6) sc_answers.nd rfl (Or.inl rfl) (pe_callG G_answer_call (hr.mono (by decide)) (by rfl) (pa_cons (pv 1) (pa_cons (pe_ix ix_list (pv 0) (pv 3) (fun _ _ => rfl)) (pa_cons (pe_slice sl_list (pv 0) (po_some (pv 4)) (po_some (pv 5))) pa_nil)))))
      (pss_cons (ps_expr (pe_bm PySem.F.plainAttrs_list PySem.F.slot_list_append PySem.F.type_list_append mt_append (pv 2) (pa_cons (pe_callB call_len_seq (by rfl) T.m_len PySem.boot_len (pa_cons (pv 6) pa_nil)) pa_nil)))
      (pss_cons (ps_expr (pe_bm PySem.F.plainAttrs_list PySem.F.slot_list_extend PySem.F.type_list_extend mt_extend (pv 2) (pa_cons (pv 6) pa_nil)))
      (pss_one (ps_set (i := 3) sc_answers.nd rfl (Or.inl rfl) (pv 5)))))))))
      (pss_one (ps_ret (pv 2))))))), ?_⟩)
  · obtain ⟨ca, L, rfl, _⟩ := h
    rfl
  · obtain ⟨ca, L, rfl, hL, hlen, hask, q⟩ := h
    obtain ⟨cs, hcs, hall, hans, hshort⟩ := WD.asked_is hask
    -- wheel = Wheel()
    refine fun x dx nx ndx hne => ⟨x, dx, rfl, upd_same, fun H1 r hrec hb fr dom => ⟨rfl, ?_⟩⟩
    have eH1 : Ex H H1 := fun b o hb => by
      have n1 : b ≠ x := ne_of_none hb nx
      have n2 : b ≠ dx := ne_of_none hb ndx
      refine fr b o ?_ n1
      rw [upd_ne n1, upd_ne n2]
      exact hb
    have wa1 : WA C (fun y => y = x) H1 x none := ⟨rfl, r, hrec, hb⟩
    -- told = []
    refine q_asgL (σ := [some (.ref ca), some (.ref x), none, none, none, none, none]) (xs := []) (el_lst (vs := []) ea_nil (by decide)) fun g H2 ng e2 hg => ?_
    refine q_asg (v := nI 0) ev_c fun H3 e3 => ?_
    have nxg : x ≠ g := fun e => by
      obtain ⟨dx, h⟩ := hrec
      rw [e, ng] at h
      cases h
    have e13 := e2.trans e3
    refine q_while (fun m σ H' => ∃ (i : Nat) (o : Mu24.Abs) (F : Addr → Prop) (Tl : List Int) (rest : List (List (List Int))) (fu : Nat) (v4 v5 v6 : Option V), σ = [some (.ref ca), some (.ref x), some (.ref g), some (nI i), v4, v5, v6] ∧ m + i = L.length ∧ Ex H H' ∧ WA C F H' x o ∧
        (∀ y, F y → H y = none ∧ y ≠ g) ∧ H' g = some (.lst (Tl.map V.int)) ∧ PyFlat.calls WD.sh fu ((WD.zints L).drop i) = some rest ∧ (∀ c ∈ rest, Mu24Neutral.asked1 c = true) ∧ Tl ++ WD.plays o rest = PyMu24.answers (WD.zints L)) L.length
      ⟨0, none, fun y => y = x, [], cs, (WD.zints L).length, none, none, none, rfl, rfl, eH1.trans e13, wa1.ex e13, fun y hy => by rw [hy]; exact ⟨nx, nxg⟩, e3 _ _ hg, hcs, hall, hans.symm⟩ ?_
    rintro m σ H4 ⟨i, o, F, Tl, rest, fu, v4, v5, v6, rfl, hm, e4, wa, hF, hg4, hrest, hasks, heq⟩
    have hngF : ¬ F g := fun h => (hF g h).2 rfl
    have hHg : H g = none := fresh_back eH1 ng
    have hLl : (L.map nI).length = L.length := List.length_map _
    refine ⟨decide ((i : Int) < (L.length : Int)), et_test (ev_op (ev_var rfl) (ev_is (ev_len (ev_var rfl) (ex_l e4 hL)) (congrArg (fun n : Nat => V.int (n : Int)) hLl)) rv_I0), fun hb H5 e5 => ?_, fun hb H5 e5 => ?_⟩
    · have hi : i < L.length := by
        have := of_decide_eq_true hb
        omega
      have e45 := e4.trans e5
      have hLi : (WD.zints L).length = L.length := List.length_map _
      have hdi := List.drop_eq_getElem_cons (l := WD.zints L) (i := i) (by omega)
      rw [hdi] at hrest
      obtain ⟨c, t, cs', fu', rfl, hcall, hcalls⟩ := WD.calls_cut hrest
      obtain ⟨pn, gv, CT⟩ := WD.call_cut hcall (hasks c (.head _))
      obtain ⟨hpi, hpn, hend, hgv, htl⟩ := WD.cut_at hdi CT
      have hcnt : cnt pn gv.length = gv.length := by
        unfold cnt
        cases h : WD.isR pn with
        | true => rfl
        | false => exact (CT.ok.len h).symm
      rw [WD.plays_cons CT.of] at heq
      obtain ⟨m', rfl⟩ : ∃ m', m = m' + 1 := ⟨m - 1, by omega⟩
      refine ⟨fun σ H' => ∃ (i' : Nat) (o : Mu24.Abs) (F : Addr → Prop) (Tl : List Int) (rest : List (List (List Int))) (fu : Nat) (v4 v5 v6 : Option V), σ = [some (.ref ca), some (.ref x), some (.ref g), some (nI i'), v4, v5, v6] ∧ (i < i' ∧ i' ≤ L.length) ∧ Ex H H' ∧ WA C F H' x o ∧
        (∀ y, F y → H y = none ∧ y ≠ g) ∧ H' g = some (.lst (Tl.map V.int)) ∧ PyFlat.calls WD.sh fu ((WD.zints L).drop i') = some rest ∧ (∀ c ∈ rest, Mu24Neutral.asked1 c = true) ∧ Tl ++ WD.plays o rest = PyMu24.answers (WD.zints L), fun σ2 H2 ⟨i', o, F, Tl, rest, fu, v4, v5, v6, h1, h2, h3⟩ =>
          ⟨L.length - i', by omega, i', o, F, Tl, rest, fu, v4, v5, v6, h1, by omega, h3⟩, ?_⟩
      refine q_asg (v := nI (WD.stOf pn i)) (ev_call (ea_cons (ev_var rfl) (ea_one (ev_var rfl))) (spStart_go (ex_l e45 hL) hpi)) fun H6 e6 => ?_
      have e46 := e45.trans e6
      refine q_asg (v := nI (WD.stOf pn i + gv.length)) ?_ fun H7 e7 => ?_
      · have h := ev_addN (a := WD.stOf pn i) (b := cnt pn gv.length) (ta := tVar 4) (tb := tCall (spHow K) [] E0 (tCons (tVar 0) (tCons (tVar 3) tNil))) (σ := [some (.ref ca), some (.ref x), some (.ref g), some (nI i), some (nI (WD.stOf pn i)), v5, v6]) (H := H6) (ev_var rfl) (ev_call (ea_cons (ev_var rfl) (ea_one (ev_var rfl))) (spHow_go (ex_l e46 hL) hpi CT.ok.lt hpn))
        rw [hcnt] at h
        exact h
      have e47 := e46.trans e7
      have e57 := (e5.trans e6).trans e7
      refine q_call (st := WD.stOf pn i) (en := WD.stOf pn i + gv.length) (g := gv) (p := pn) (L := L) (ca := ca) (a := x) (o := o) (F := F) (ev_var rfl) (ev_op (ev_var rfl) (ev_var rfl) (rv_ixL (ex_l e47 hL) (at_L hpi))) (ev_var rfl) (eo_some (ev_var rfl)) (eo_some (ev_var rfl)) (ex_l e47 hL) (by omega) hend (by
        rw [show WD.stOf pn i + gv.length - WD.stOf pn i = gv.length by omega]
        exact hgv) CT.ok (wa.ex e57) fun H8 H9 p F' e8 np hp wa' hF' hk => ?_
      generalize hS : Mu24.step o (WD.mk pn gv) = S at hp wa' heq
      obtain ⟨o', ans⟩ := S
      have hg8 : H8 g = some (.lst (Tl.map V.int)) := (e57.trans e8) _ _ hg4
      have hg9 : H9 g = some (.lst (Tl.map V.int)) := hk g _ hg8 hngF
      have hpg : p ≠ g := fun e => by
        rw [e, hg8] at np
        cases np
      have eH8 : Ex H H8 := e47.trans e8
      have eH9 : Ex H H9 := fun b u hb => hk b u (eH8 b u hb) fun hf => by
        rw [(hF b hf).1] at hb
        cases hb
      have hF9 : ∀ y, F' y → H y = none ∧ y ≠ g := fun y hy => by
        rcases hF' y hy with h | h
        · exact hF y h
        · exact ⟨fresh_back eH8 h, fun e => by
            rw [e, hg8] at h
            cases h⟩
      have hbound : Tl.length + (1 + ans.length) ≤ 10000000 := by
        have h := congrArg List.length heq
        rw [List.length_append, List.length_append, List.length_cons] at h
        have h' : Tl.length + (ans.length + 1 + (WD.plays o' cs').length) = (PyMu24.answers (WD.zints L)).length := h
        omega
      refine q_append (xs := Tl.map V.int) (v := .int (ans.length : Int)) hg9 (ev_var rfl) (ev_is (ev_len (ev_var rfl) (sq_of hp)) (by rw [List.length_map])) (by rw [List.length_map]; exact lt_size (by omega)) fun H10 e10 => ?_
      have hp10 : (upd H10 g (.lst (Tl.map V.int ++ [.int (ans.length : Int)]))) p = some (.lst (ans.map V.int)) := by
        rw [upd_ne hpg]
        exact e10 _ _ hp
      refine q_extend (xs := Tl.map V.int ++ [.int (ans.length : Int)]) (ys := ans.map V.int) (b := p) upd_same hp10 (ev_var rfl) (ev_var rfl) (by
        rw [List.length_append, List.length_map, List.length_map]
        show Tl.length + 1 + ans.length ≤ _
        exact Nat.le_of_lt (lt_size (by omega))) fun H11 e11 => ?_
      refine s_asg (v := nI (WD.stOf pn i + gv.length)) (ev_var rfl) fun H12 e12 => ?_
      have hst : i < WD.stOf pn i := by
        unfold WD.stOf
        split <;> omega
      refine ⟨WD.stOf pn i + gv.length, o', F', Tl ++ ((ans.length : Int) :: ans), cs', fu', _, _, _, rfl, ⟨by omega, hend⟩, ?_, ?_, hF9, ?_, ?_, fun c hc => hasks c (.tail _ hc), ?_⟩
      · exact (Ex.mut ((Ex.mut (eH9.trans e10) hHg).trans e11) hHg).trans e12
      · exact ((((wa'.ex e10).off fun y hy => (hF9 y hy).2).ex e11).off fun y hy => (hF9 y hy).2).ex e12
      · refine e12 _ _ ?_
        rw [upd_same]
        show some (HO.lst _) = some (HO.lst _)
        rw [List.map_append, List.map_cons, List.append_assoc]
        rfl
      · rw [htl]
        exact hcalls
      · rw [List.append_assoc]
        exact heq
    · have hi : L.length ≤ i := by
        have := of_decide_eq_false hb
        omega
      have hLi : (WD.zints L).length = L.length := List.length_map _
      rw [List.drop_eq_nil_of_le (by omega)] at hrest
      have hr0 := WD.calls_end hrest
      subst hr0
      have hT : Tl = PyMu24.answers (WD.zints L) := by
        rw [← heq]
        exact (List.append_nil _).symm
      rw [hT] at hg4
      exact s_ret (v := .ref g) (ev_var rfl) fun H6 e6 => q H6 g ((e5.trans e6) _ _ hg4)

end WP
end
section
namespace WP
open PySem PySem.Spec PyProof.Rows L2 Evl WM
variable {P : Program} {w : World} {K : PySem.W.Frag}
/-! ### the end: what the top has left -/
theorem all_mk {mg : Str → Option Value} {h : Heap} {fa : Addr} {C aR aP f0 f1 f2 f3 f4 f5 f6 f7 f8 f9 f10 f11 f12 f13 f14 f15 f16 f17 f18 f19 f20 f21 f22 f23 f24 f25 f26 f27 f28 f29 : Addr} (X : K.In h) (G : h.Ns mainGlobals mg) (hfa : mg "answers" = some (.ref fa))
    {od0 an0 : Option Addr} {sl0 : Array (Option Value)} {oc0 kV0 dc0 pm0 cd0 ct0 : Value}
    {od1 an1 : Option Addr} {sl1 : Array (Option Value)} {oc1 kV1 dc1 pm1 cd1 ct1 : Value}
    {od2 an2 : Option Addr} {sl2 : Array (Option Value)} {oc2 kV2 dc2 pm2 cd2 ct2 : Value}
    {od3 an3 : Option Addr} {sl3 : Array (Option Value)} {oc3 kV3 dc3 pm3 cd3 ct3 : Value}
    {od4 an4 : Option Addr} {sl4 : Array (Option Value)} {oc4 kV4 dc4 pm4 cd4 ct4 : Value}
    {od5 an5 : Option Addr} {sl5 : Array (Option Value)} {oc5 kV5 dc5 pm5 cd5 ct5 : Value}
    {od6 an6 : Option Addr} {sl6 : Array (Option Value)} {oc6 kV6 dc6 pm6 cd6 ct6 : Value}
    {od7 an7 : Option Addr} {sl7 : Array (Option Value)} {oc7 kV7 dc7 pm7 cd7 ct7 : Value}
    {od8 an8 : Option Addr} {sl8 : Array (Option Value)} {oc8 kV8 dc8 pm8 cd8 ct8 : Value}
    {od9 an9 : Option Addr} {sl9 : Array (Option Value)} {oc9 kV9 dc9 pm9 cd9 ct9 : Value}
    {od10 an10 : Option Addr} {sl10 : Array (Option Value)} {oc10 kV10 dc10 pm10 cd10 ct10 : Value}
    {od11 an11 : Option Addr} {sl11 : Array (Option Value)} {oc11 kV11 dc11 pm11 cd11 ct11 : Value}
    {od12 an12 : Option Addr} {sl12 : Array (Option Value)} {oc12 kV12 dc12 pm12 cd12 ct12 : Value}
    {od13 an13 : Option Addr} {sl13 : Array (Option Value)} {oc13 kV13 dc13 pm13 cd13 ct13 : Value}
    {od14 an14 : Option Addr} {sl14 : Array (Option Value)} {oc14 kV14 dc14 pm14 cd14 ct14 : Value}
    {od15 an15 : Option Addr} {sl15 : Array (Option Value)} {oc15 kV15 dc15 pm15 cd15 ct15 : Value}
    {od16 an16 : Option Addr} {sl16 : Array (Option Value)} {oc16 kV16 dc16 pm16 cd16 ct16 : Value}
    {od17 an17 : Option Addr} {sl17 : Array (Option Value)} {oc17 kV17 dc17 pm17 cd17 ct17 : Value}
    {od18 an18 : Option Addr} {sl18 : Array (Option Value)} {oc18 kV18 dc18 pm18 cd18 ct18 : Value}
    {od19 an19 : Option Addr} {sl19 : Array (Option Value)} {oc19 kV19 dc19 pm19 cd19 ct19 : Value}
    {od20 an20 : Option Addr} {sl20 : Array (Option Value)} {oc20 kV20 dc20 pm20 cd20 ct20 : Value}
    {od21 an21 : Option Addr} {sl21 : Array (Option Value)} {oc21 kV21 dc21 pm21 cd21 ct21 : Value}
    {od22 an22 : Option Addr} {sl22 : Array (Option Value)} {oc22 kV22 dc22 pm22 cd22 ct22 : Value}
    {od23 an23 : Option Addr} {sl23 : Array (Option Value)} {oc23 kV23 dc23 pm23 cd23 ct23 : Value}
    {od24 an24 : Option Addr} {sl24 : Array (Option Value)} {oc24 kV24 dc24 pm24 cd24 ct24 : Value}
    {od25 an25 : Option Addr} {sl25 : Array (Option Value)} {oc25 kV25 dc25 pm25 cd25 ct25 : Value}
    {od26 an26 : Option Addr} {sl26 : Array (Option Value)} {oc26 kV26 dc26 pm26 cd26 ct26 : Value}
    {od27 an27 : Option Addr} {sl27 : Array (Option Value)} {oc27 kV27 dc27 pm27 cd27 ct27 : Value}
    {od28 an28 : Option Addr} {sl28 : Array (Option Value)} {oc28 kV28 dc28 pm28 cd28 ct28 : Value}
    {od29 an29 : Option Addr} {sl29 : Array (Option Value)} {oc29 kV29 dc29 pm29 cd29 ct29 : Value}
    {tdR tdP : Option Addr} {tiR tiP : Array Value} {tnR tnP : Nat} {tsR tsP : Array (Option Value)}
    {t_MOST_TICKETS t_LONGEST_ROW t_MOST_DIFFERENT t_MOST_PRIZE t_BEGIN t_BUY t_DROP t_LOOK t_MATCHES t_WORST t_COVERS t_NEXT t_FEWEST t_NEEDED t_PAYS : PySem.Tok}
    (aC : PySem.W.nsIn K mainGlobals "Wheel" = some (some (.ref C)))
    (a0 : PySem.W.nsIn K mainGlobals "rising_rows" = some (some (.ref f0)))
    (l0 : K.lookup f0 = some ⟨oc0, od0, .func (PySem.W.fnOf "rising_rows" "rising_rows" (defArgs s_rising_rows) (defBody s_rising_rows) (defScope s_rising_rows) .none kV0 dc0 pm0 an0 cd0 ct0), sl0⟩) (c0 : PySem.W.codeIn K cd0 "rising_rows" = true) (k0 : PySem.W.keepIn K (.ref f0) = true)
    (a1 : PySem.W.nsIn K mainGlobals "is_rising_row" = some (some (.ref f1)))
    (l1 : K.lookup f1 = some ⟨oc1, od1, .func (PySem.W.fnOf "is_rising_row" "is_rising_row" (defArgs s_is_rising_row) (defBody s_is_rising_row) (defScope s_is_rising_row) .none kV1 dc1 pm1 an1 cd1 ct1), sl1⟩) (c1 : PySem.W.codeIn K cd1 "is_rising_row" = true) (k1 : PySem.W.keepIn K (.ref f1) = true)
    (a2 : PySem.W.nsIn K mainGlobals "is_size" = some (some (.ref f2)))
    (l2 : K.lookup f2 = some ⟨oc2, od2, .func (PySem.W.fnOf "is_size" "is_size" (defArgs s_is_size) (defBody s_is_size) (defScope s_is_size) .none kV2 dc2 pm2 an2 cd2 ct2), sl2⟩) (c2 : PySem.W.codeIn K cd2 "is_size" = true) (k2 : PySem.W.keepIn K (.ref f2) = true)
    (a3 : PySem.W.nsIn K mainGlobals "count_right" = some (some (.ref f3)))
    (l3 : K.lookup f3 = some ⟨oc3, od3, .func (PySem.W.fnOf "count_right" "count_right" (defArgs s_count_right) (defBody s_count_right) (defScope s_count_right) .none kV3 dc3 pm3 an3 cd3 ct3), sl3⟩) (c3 : PySem.W.codeIn K cd3 "count_right" = true) (k3 : PySem.W.keepIn K (.ref f3) = true)
    (a4 : PySem.W.nsIn K mainGlobals "count_bits" = some (some (.ref f4)))
    (l4 : K.lookup f4 = some ⟨oc4, od4, .func (PySem.W.fnOf "count_bits" "count_bits" (defArgs s_count_bits) (defBody s_count_bits) (defScope s_count_bits) .none kV4 dc4 pm4 an4 cd4 ct4), sl4⟩) (c4 : PySem.W.codeIn K cd4 "count_bits" = true) (k4 : PySem.W.keepIn K (.ref f4) = true)
    (a5 : PySem.W.nsIn K mainGlobals "draws_with" = some (some (.ref f5)))
    (l5 : K.lookup f5 = some ⟨oc5, od5, .func (PySem.W.fnOf "draws_with" "draws_with" (defArgs s_draws_with) (defBody s_draws_with) (defScope s_draws_with) .none kV5 dc5 pm5 an5 cd5 ct5), sl5⟩) (c5 : PySem.W.codeIn K cd5 "draws_with" = true) (k5 : PySem.W.keepIn K (.ref f5) = true)
    (a6 : PySem.W.nsIn K mainGlobals "lowest_terms" = some (some (.ref f6)))
    (l6 : K.lookup f6 = some ⟨oc6, od6, .func (PySem.W.fnOf "lowest_terms" "lowest_terms" (defArgs s_lowest_terms) (defBody s_lowest_terms) (defScope s_lowest_terms) .none kV6 dc6 pm6 an6 cd6 ct6), sl6⟩) (c6 : PySem.W.codeIn K cd6 "lowest_terms" = true) (k6 : PySem.W.keepIn K (.ref f6) = true)
    (a7 : PySem.W.nsIn K mainGlobals "answers" = some (some (.ref f7)))
    (l7 : K.lookup f7 = some ⟨oc7, od7, .func (PySem.W.fnOf "answers" "answers" (defArgs s_answers) (defBody s_answers) (defScope s_answers) .none kV7 dc7 pm7 an7 cd7 ct7), sl7⟩) (c7 : PySem.W.codeIn K cd7 "answers" = true) (k7 : PySem.W.keepIn K (.ref f7) = true)
    (a8 : PySem.W.nsIn K mainGlobals "start_of_given" = some (some (.ref f8)))
    (l8 : K.lookup f8 = some ⟨oc8, od8, .func (PySem.W.fnOf "start_of_given" "start_of_given" (defArgs s_start_of_given) (defBody s_start_of_given) (defScope s_start_of_given) .none kV8 dc8 pm8 an8 cd8 ct8), sl8⟩) (c8 : PySem.W.codeIn K cd8 "start_of_given" = true) (k8 : PySem.W.keepIn K (.ref f8) = true)
    (a9 : PySem.W.nsIn K mainGlobals "count_of_given" = some (some (.ref f9)))
    (l9 : K.lookup f9 = some ⟨oc9, od9, .func (PySem.W.fnOf "count_of_given" "count_of_given" (defArgs s_count_of_given) (defBody s_count_of_given) (defScope s_count_of_given) .none kV9 dc9 pm9 an9 cd9 ct9), sl9⟩) (c9 : PySem.W.codeIn K cd9 "count_of_given" = true) (k9 : PySem.W.keepIn K (.ref f9) = true)
    (a10 : PySem.W.nsIn K mainGlobals "answer_call" = some (some (.ref f10)))
    (l10 : K.lookup f10 = some ⟨oc10, od10, .func (PySem.W.fnOf "answer_call" "answer_call" (defArgs s_answer_call) (defBody s_answer_call) (defScope s_answer_call) .none kV10 dc10 pm10 an10 cd10 ct10), sl10⟩) (c10 : PySem.W.codeIn K cd10 "answer_call" = true) (k10 : PySem.W.keepIn K (.ref f10) = true)
    (a11 : PySem.W.findIn K (.ref C) "__init__" = some (some (.ref f11))) (i11 : PySem.W.isFn K (.ref f11) = true)
    (l11 : K.lookup f11 = some ⟨oc11, od11, .func (PySem.W.fnOf "__init__" "Wheel.__init__" (defArgs s_init) (defBody s_init) (defScope s_init) .none kV11 dc11 pm11 an11 cd11 ct11), sl11⟩) (c11 : PySem.W.codeIn K cd11 "Wheel.__init__" = true) (k11 : PySem.W.keepIn K (.ref f11) = true)
    (a12 : PySem.W.findIn K (.ref C) "begin" = some (some (.ref f12))) (i12 : PySem.W.isFn K (.ref f12) = true)
    (l12 : K.lookup f12 = some ⟨oc12, od12, .func (PySem.W.fnOf "begin" "Wheel.begin" (defArgs s_begin) (defBody s_begin) (defScope s_begin) .none kV12 dc12 pm12 an12 cd12 ct12), sl12⟩) (c12 : PySem.W.codeIn K cd12 "Wheel.begin" = true) (k12 : PySem.W.keepIn K (.ref f12) = true)
    (a13 : PySem.W.findIn K (.ref C) "buy" = some (some (.ref f13))) (i13 : PySem.W.isFn K (.ref f13) = true)
    (l13 : K.lookup f13 = some ⟨oc13, od13, .func (PySem.W.fnOf "buy" "Wheel.buy" (defArgs s_buy) (defBody s_buy) (defScope s_buy) .none kV13 dc13 pm13 an13 cd13 ct13), sl13⟩) (c13 : PySem.W.codeIn K cd13 "Wheel.buy" = true) (k13 : PySem.W.keepIn K (.ref f13) = true)
    (a14 : PySem.W.findIn K (.ref C) "drop" = some (some (.ref f14))) (i14 : PySem.W.isFn K (.ref f14) = true)
    (l14 : K.lookup f14 = some ⟨oc14, od14, .func (PySem.W.fnOf "drop" "Wheel.drop" (defArgs s_drop) (defBody s_drop) (defScope s_drop) .none kV14 dc14 pm14 an14 cd14 ct14), sl14⟩) (c14 : PySem.W.codeIn K cd14 "Wheel.drop" = true) (k14 : PySem.W.keepIn K (.ref f14) = true)
    (a15 : PySem.W.findIn K (.ref C) "look" = some (some (.ref f15))) (i15 : PySem.W.isFn K (.ref f15) = true)
    (l15 : K.lookup f15 = some ⟨oc15, od15, .func (PySem.W.fnOf "look" "Wheel.look" (defArgs s_look) (defBody s_look) (defScope s_look) .none kV15 dc15 pm15 an15 cd15 ct15), sl15⟩) (c15 : PySem.W.codeIn K cd15 "Wheel.look" = true) (k15 : PySem.W.keepIn K (.ref f15) = true)
    (a16 : PySem.W.findIn K (.ref C) "matches" = some (some (.ref f16))) (i16 : PySem.W.isFn K (.ref f16) = true)
    (l16 : K.lookup f16 = some ⟨oc16, od16, .func (PySem.W.fnOf "matches" "Wheel.matches" (defArgs s_matches) (defBody s_matches) (defScope s_matches) .none kV16 dc16 pm16 an16 cd16 ct16), sl16⟩) (c16 : PySem.W.codeIn K cd16 "Wheel.matches" = true) (k16 : PySem.W.keepIn K (.ref f16) = true)
    (a17 : PySem.W.findIn K (.ref C) "worst" = some (some (.ref f17))) (i17 : PySem.W.isFn K (.ref f17) = true)
    (l17 : K.lookup f17 = some ⟨oc17, od17, .func (PySem.W.fnOf "worst" "Wheel.worst" (defArgs s_worst) (defBody s_worst) (defScope s_worst) .none kV17 dc17 pm17 an17 cd17 ct17), sl17⟩) (c17 : PySem.W.codeIn K cd17 "Wheel.worst" = true) (k17 : PySem.W.keepIn K (.ref f17) = true)
    (a18 : PySem.W.findIn K (.ref C) "best" = some (some (.ref f18))) (i18 : PySem.W.isFn K (.ref f18) = true)
    (l18 : K.lookup f18 = some ⟨oc18, od18, .func (PySem.W.fnOf "best" "Wheel.best" (defArgs s_best) (defBody s_best) (defScope s_best) .none kV18 dc18 pm18 an18 cd18 ct18), sl18⟩) (c18 : PySem.W.codeIn K cd18 "Wheel.best" = true) (k18 : PySem.W.keepIn K (.ref f18) = true)
    (a19 : PySem.W.findIn K (.ref C) "covers" = some (some (.ref f19))) (i19 : PySem.W.isFn K (.ref f19) = true)
    (l19 : K.lookup f19 = some ⟨oc19, od19, .func (PySem.W.fnOf "covers" "Wheel.covers" (defArgs s_covers) (defBody s_covers) (defScope s_covers) .none kV19 dc19 pm19 an19 cd19 ct19), sl19⟩) (c19 : PySem.W.codeIn K cd19 "Wheel.covers" = true) (k19 : PySem.W.keepIn K (.ref f19) = true)
    (a20 : PySem.W.findIn K (.ref C) "next_ticket" = some (some (.ref f20))) (i20 : PySem.W.isFn K (.ref f20) = true)
    (l20 : K.lookup f20 = some ⟨oc20, od20, .func (PySem.W.fnOf "next_ticket" "Wheel.next_ticket" (defArgs s_next_ticket) (defBody s_next_ticket) (defScope s_next_ticket) .none kV20 dc20 pm20 an20 cd20 ct20), sl20⟩) (c20 : PySem.W.codeIn K cd20 "Wheel.next_ticket" = true) (k20 : PySem.W.keepIn K (.ref f20) = true)
    (a21 : PySem.W.findIn K (.ref C) "fewest" = some (some (.ref f21))) (i21 : PySem.W.isFn K (.ref f21) = true)
    (l21 : K.lookup f21 = some ⟨oc21, od21, .func (PySem.W.fnOf "fewest" "Wheel.fewest" (defArgs s_fewest) (defBody s_fewest) (defScope s_fewest) .none kV21 dc21 pm21 an21 cd21 ct21), sl21⟩) (c21 : PySem.W.codeIn K cd21 "Wheel.fewest" = true) (k21 : PySem.W.keepIn K (.ref f21) = true)
    (a22 : PySem.W.findIn K (.ref C) "needed" = some (some (.ref f22))) (i22 : PySem.W.isFn K (.ref f22) = true)
    (l22 : K.lookup f22 = some ⟨oc22, od22, .func (PySem.W.fnOf "needed" "Wheel.needed" (defArgs s_needed) (defBody s_needed) (defScope s_needed) .none kV22 dc22 pm22 an22 cd22 ct22), sl22⟩) (c22 : PySem.W.codeIn K cd22 "Wheel.needed" = true) (k22 : PySem.W.keepIn K (.ref f22) = true)
    (a23 : PySem.W.findIn K (.ref C) "pays" = some (some (.ref f23))) (i23 : PySem.W.isFn K (.ref f23) = true)
    (l23 : K.lookup f23 = some ⟨oc23, od23, .func (PySem.W.fnOf "pays" "Wheel.pays" (defArgs s_pays) (defBody s_pays) (defScope s_pays) .none kV23 dc23 pm23 an23 cd23 ct23), sl23⟩) (c23 : PySem.W.codeIn K cd23 "Wheel.pays" = true) (k23 : PySem.W.keepIn K (.ref f23) = true)
    (a24 : PySem.W.findIn K (.ref C) "least" = some (some (.ref f24))) (i24 : PySem.W.isFn K (.ref f24) = true)
    (l24 : K.lookup f24 = some ⟨oc24, od24, .func (PySem.W.fnOf "least" "Wheel.least" (defArgs s_least) (defBody s_least) (defScope s_least) .none kV24 dc24 pm24 an24 cd24 ct24), sl24⟩) (c24 : PySem.W.codeIn K cd24 "Wheel.least" = true) (k24 : PySem.W.keepIn K (.ref f24) = true)
    (a25 : PySem.W.findIn K (.ref C) "is_wanted" = some (some (.ref f25))) (i25 : PySem.W.isFn K (.ref f25) = true)
    (l25 : K.lookup f25 = some ⟨oc25, od25, .func (PySem.W.fnOf "is_wanted" "Wheel.is_wanted" (defArgs s_is_wanted) (defBody s_is_wanted) (defScope s_is_wanted) .none kV25 dc25 pm25 an25 cd25 ct25), sl25⟩) (c25 : PySem.W.codeIn K cd25 "Wheel.is_wanted" = true) (k25 : PySem.W.keepIn K (.ref f25) = true)
    (a26 : PySem.W.findIn K (.ref C) "covered_by" = some (some (.ref f26))) (i26 : PySem.W.isFn K (.ref f26) = true)
    (l26 : K.lookup f26 = some ⟨oc26, od26, .func (PySem.W.fnOf "covered_by" "Wheel.covered_by" (defArgs s_covered_by) (defBody s_covered_by) (defScope s_covered_by) .none kV26 dc26 pm26 an26 cd26 ct26), sl26⟩) (c26 : PySem.W.codeIn K cd26 "Wheel.covered_by" = true) (k26 : PySem.W.keepIn K (.ref f26) = true)
    (a27 : PySem.W.findIn K (.ref C) "covered" = some (some (.ref f27))) (i27 : PySem.W.isFn K (.ref f27) = true)
    (l27 : K.lookup f27 = some ⟨oc27, od27, .func (PySem.W.fnOf "covered" "Wheel.covered" (defArgs s_covered) (defBody s_covered) (defScope s_covered) .none kV27 dc27 pm27 an27 cd27 ct27), sl27⟩) (c27 : PySem.W.codeIn K cd27 "Wheel.covered" = true) (k27 : PySem.W.keepIn K (.ref f27) = true)
    (a28 : PySem.W.findIn K (.ref C) "numbers_of" = some (some (.ref f28))) (i28 : PySem.W.isFn K (.ref f28) = true)
    (l28 : K.lookup f28 = some ⟨oc28, od28, .func (PySem.W.fnOf "numbers_of" "Wheel.numbers_of" (defArgs s_numbers_of) (defBody s_numbers_of) (defScope s_numbers_of) .none kV28 dc28 pm28 an28 cd28 ct28), sl28⟩) (c28 : PySem.W.codeIn K cd28 "Wheel.numbers_of" = true) (k28 : PySem.W.keepIn K (.ref f28) = true)
    (a29 : PySem.W.findIn K (.ref C) "paid" = some (some (.ref f29))) (i29 : PySem.W.isFn K (.ref f29) = true)
    (l29 : K.lookup f29 = some ⟨oc29, od29, .func (PySem.W.fnOf "paid" "Wheel.paid" (defArgs s_paid) (defBody s_paid) (defScope s_paid) .none kV29 dc29 pm29 an29 cd29 ct29), sl29⟩) (c29 : PySem.W.codeIn K cd29 "Wheel.paid" = true) (k29 : PySem.W.keepIn K (.ref f29) = true)
    (pg : PySem.W.plainGet K C Str.empty = true)
    (hd : PySem.W.hasDictIn K C = true)
    (po : PySem.W.plainOver K C = true)
    (sa : PySem.W.findIn K (.ref C) "__setattr__" = some (some (.builtin "object.__setattr__")))
    (mk : PySem.W.makesIn K C = true)
    (kc : PySem.W.keepIn K (.ref C) = true)
    (n_begun : PySem.W.findIn K (.ref C) "begun" = some none)
    (n_n : PySem.W.findIn K (.ref C) "n" = some none)
    (n_k : PySem.W.findIn K (.ref C) "k" = some none)
    (n_t : PySem.W.findIn K (.ref C) "t" = some none)
    (n_tickets : PySem.W.findIn K (.ref C) "tickets" = some none)
    (n_choices : PySem.W.findIn K (.ref C) "choices" = some none)
    (n_draws : PySem.W.findIn K (.ref C) "draws" = some none)
    (n_all_draws : PySem.W.findIn K (.ref C) "all_draws" = some none)
    (n_drawn_with : PySem.W.findIn K (.ref C) "drawn_with" = some none)
    (z_len : PySem.W.nsIn K mainGlobals "len" = some none)
    (z_range : PySem.W.nsIn K mainGlobals "range" = some none)
    (z_list : PySem.W.nsIn K mainGlobals "list" = some none)
    (z_sum : PySem.W.nsIn K mainGlobals "sum" = some none)
    (z_max : PySem.W.nsIn K mainGlobals "max" = some none)
    (z_min : PySem.W.nsIn K mainGlobals "min" = some none)
    (z_enumerate : PySem.W.nsIn K mainGlobals "enumerate" = some none)
    (q_MOST_TICKETS : PySem.W.nsIn K mainGlobals "MOST_TICKETS" = some (some (.int 30 t_MOST_TICKETS)))
    (q_LONGEST_ROW : PySem.W.nsIn K mainGlobals "LONGEST_ROW" = some (some (.int 3 t_LONGEST_ROW)))
    (q_MOST_DIFFERENT : PySem.W.nsIn K mainGlobals "MOST_DIFFERENT" = some (some (.int 60 t_MOST_DIFFERENT)))
    (q_MOST_PRIZE : PySem.W.nsIn K mainGlobals "MOST_PRIZE" = some (some (.int 99999 t_MOST_PRIZE)))
    (q_BEGIN : PySem.W.nsIn K mainGlobals "BEGIN" = some (some (.int 0 t_BEGIN)))
    (q_BUY : PySem.W.nsIn K mainGlobals "BUY" = some (some (.int 1 t_BUY)))
    (q_DROP : PySem.W.nsIn K mainGlobals "DROP" = some (some (.int 2 t_DROP)))
    (q_LOOK : PySem.W.nsIn K mainGlobals "LOOK" = some (some (.int 3 t_LOOK)))
    (q_MATCHES : PySem.W.nsIn K mainGlobals "MATCHES" = some (some (.int 4 t_MATCHES)))
    (q_WORST : PySem.W.nsIn K mainGlobals "WORST" = some (some (.int 5 t_WORST)))
    (q_COVERS : PySem.W.nsIn K mainGlobals "COVERS" = some (some (.int 6 t_COVERS)))
    (q_NEXT : PySem.W.nsIn K mainGlobals "NEXT" = some (some (.int 7 t_NEXT)))
    (q_FEWEST : PySem.W.nsIn K mainGlobals "FEWEST" = some (some (.int 8 t_FEWEST)))
    (q_NEEDED : PySem.W.nsIn K mainGlobals "NEEDED" = some (some (.int 9 t_NEEDED)))
    (q_PAYS : PySem.W.nsIn K mainGlobals "PAYS" = some (some (.int 10 t_PAYS)))
    (gB : PySem.W.specialIn K (.ref f18) "__get__" = some (some (.builtin "function.__get__"))) (tB : PySem.W.takesIn K (.ref f18) = some false) (fB : PySem.W.fnIn K f18 = true)
    (rR : PySem.W.nsIn K mainGlobals "ROW_CALLS" = some (some (.ref aR))) (uR : K.lookup aR = some ⟨.type "tuple", tdR, .seq tiR tnR, tsR⟩) (wR : tiR.size ≤ sizeLine) (vR : Vals cRow tiR.toList)
    (rP : PySem.W.nsIn K mainGlobals "PLAIN_COUNTS" = some (some (.ref aP))) (uP : K.lookup aP = some ⟨.type "tuple", tdP, .seq tiP tnP, tsP⟩) (wP : tiP.size ≤ sizeLine) (vP : Vals cPlain tiP.toList) :
    ∃ fd : FuncData, (∀ (s : Shared) (us : List Value), us.length = (["calls"] : List Str).length → BindsTo s fd ⟨us, []⟩ ((["calls"] : List Str).zip us)) ∧ ∀ base : Heap, K.In base → base.Ns mainGlobals mg → FnOk P w K mg base CX0 6 fa fd ["calls"] (spAnswers K) := by
  have e := hfa.symm.trans (PySem.W.mg_of X G a7)
  cases e
  have T : Txt K mg C aR aP := { cl := ⟨pg, hd, po, sa⟩, a_begun := n_begun, a_n := n_n, a_k := n_k, a_t := n_t, a_tickets := n_tickets, a_choices := n_choices, a_draws := n_draws, a_all_draws := n_all_draws, a_drawn_with := n_drawn_with, m_len := PySem.W.mg_none_of X G z_len, m_range := PySem.W.mg_none_of X G z_range, m_list := PySem.W.mg_none_of X G z_list, m_sum := PySem.W.mg_none_of X G z_sum, m_max := PySem.W.mg_none_of X G z_max, m_min := PySem.W.mg_none_of X G z_min, m_enumerate := PySem.W.mg_none_of X G z_enumerate, c_MOST_TICKETS := ⟨_, PySem.W.mg_of X G q_MOST_TICKETS, ⟨_, rfl⟩⟩, c_LONGEST_ROW := ⟨_, PySem.W.mg_of X G q_LONGEST_ROW, ⟨_, rfl⟩⟩, c_MOST_DIFFERENT := ⟨_, PySem.W.mg_of X G q_MOST_DIFFERENT, ⟨_, rfl⟩⟩, c_MOST_PRIZE := ⟨_, PySem.W.mg_of X G q_MOST_PRIZE, ⟨_, rfl⟩⟩, c_BEGIN := ⟨_, PySem.W.mg_of X G q_BEGIN, ⟨_, rfl⟩⟩, c_BUY := ⟨_, PySem.W.mg_of X G q_BUY, ⟨_, rfl⟩⟩, c_DROP := ⟨_, PySem.W.mg_of X G q_DROP, ⟨_, rfl⟩⟩, c_LOOK := ⟨_, PySem.W.mg_of X G q_LOOK, ⟨_, rfl⟩⟩, c_MATCHES := ⟨_, PySem.W.mg_of X G q_MATCHES, ⟨_, rfl⟩⟩, c_WORST := ⟨_, PySem.W.mg_of X G q_WORST, ⟨_, rfl⟩⟩, c_COVERS := ⟨_, PySem.W.mg_of X G q_COVERS, ⟨_, rfl⟩⟩, c_NEXT := ⟨_, PySem.W.mg_of X G q_NEXT, ⟨_, rfl⟩⟩, c_FEWEST := ⟨_, PySem.W.mg_of X G q_FEWEST, ⟨_, rfl⟩⟩, c_NEEDED := ⟨_, PySem.W.mg_of X G q_NEEDED, ⟨_, rfl⟩⟩, c_PAYS := ⟨_, PySem.W.mg_of X G q_PAYS, ⟨_, rfl⟩⟩, rowc := ⟨PySem.W.mg_of X G rR, _, tiR, tnR, uR, rfl, rfl, wR, vR⟩, plain := ⟨PySem.W.mg_of X G rP, _, tiP, tnP, uP, rfl, rfl, wP, vP⟩, gC := PySem.W.mg_of X G aC }
  have F0 := fun_mk (st := s_rising_rows) l0 c0 k0
  have b0 := F0.binds (ps := ["n", "size"]) fun _ _ _ _ _ _ us hl => match us, hl with | [_, _], _ => rfl
  have F1 := fun_mk (st := s_is_rising_row) l1 c1 k1
  have b1 := F1.binds (ps := ["row", "size", "n"]) fun _ _ _ _ _ _ us hl => match us, hl with | [_, _, _], _ => rfl
  have F2 := fun_mk (st := s_is_size) l2 c2 k2
  have b2 := F2.binds (ps := ["size", "n"]) fun _ _ _ _ _ _ us hl => match us, hl with | [_, _], _ => rfl
  have F3 := fun_mk (st := s_count_right) l3 c3 k3
  have b3 := F3.binds (ps := ["ticket", "draw"]) fun _ _ _ _ _ _ us hl => match us, hl with | [_, _], _ => rfl
  have F4 := fun_mk (st := s_count_bits) l4 c4 k4
  have b4 := F4.binds (ps := ["draws"]) fun _ _ _ _ _ _ us hl => match us, hl with | [_], _ => rfl
  have F5 := fun_mk (st := s_draws_with) l5 c5 k5
  have b5 := F5.binds (ps := ["number", "draws"]) fun _ _ _ _ _ _ us hl => match us, hl with | [_, _], _ => rfl
  have F6 := fun_mk (st := s_lowest_terms) l6 c6 k6
  have b6 := F6.binds (ps := ["above", "below"]) fun _ _ _ _ _ _ us hl => match us, hl with | [_, _], _ => rfl
  have F7 := fun_mk (st := s_answers) l7 c7 k7
  have b7 := F7.binds (ps := ["calls"]) fun _ _ _ _ _ _ us hl => match us, hl with | [_], _ => rfl
  have F8 := fun_mk (st := s_start_of_given) l8 c8 k8
  have b8 := F8.binds (ps := ["calls", "at"]) fun _ _ _ _ _ _ us hl => match us, hl with | [_, _], _ => rfl
  have F9 := fun_mk (st := s_count_of_given) l9 c9 k9
  have b9 := F9.binds (ps := ["calls", "at"]) fun _ _ _ _ _ _ us hl => match us, hl with | [_, _], _ => rfl
  have F10 := fun_mk (st := s_answer_call) l10 c10 k10
  have b10 := F10.binds (ps := ["wheel", "call", "given"]) fun _ _ _ _ _ _ us hl => match us, hl with | [_, _, _], _ => rfl
  have F11 := fun_mk (st := s_init) l11 c11 k11
  have b11 := F11.binds (ps := ["self"]) fun _ _ _ _ _ _ us hl => match us, hl with | [_], _ => rfl
  have F12 := fun_mk (st := s_begin) l12 c12 k12
  have b12 := F12.binds (ps := ["self", "n", "k", "t"]) fun _ _ _ _ _ _ us hl => match us, hl with | [_, _, _, _], _ => rfl
  have F13 := fun_mk (st := s_buy) l13 c13 k13
  have b13 := F13.binds (ps := ["self", "ticket"]) fun _ _ _ _ _ _ us hl => match us, hl with | [_, _], _ => rfl
  have F14 := fun_mk (st := s_drop) l14 c14 k14
  have b14 := F14.binds (ps := ["self", "place"]) fun _ _ _ _ _ _ us hl => match us, hl with | [_, _], _ => rfl
  have F15 := fun_mk (st := s_look) l15 c15 k15
  have b15 := F15.binds (ps := ["self"]) fun _ _ _ _ _ _ us hl => match us, hl with | [_], _ => rfl
  have F16 := fun_mk (st := s_matches) l16 c16 k16
  have b16 := F16.binds (ps := ["self", "draw"]) fun _ _ _ _ _ _ us hl => match us, hl with | [_, _], _ => rfl
  have F17 := fun_mk (st := s_worst) l17 c17 k17
  have b17 := F17.binds (ps := ["self"]) fun _ _ _ _ _ _ us hl => match us, hl with | [_], _ => rfl
  have F18 := fun_mk (st := s_best) l18 c18 k18
  have b18 := F18.binds (ps := ["self", "draw"]) fun _ _ _ _ _ _ us hl => match us, hl with | [_, _], _ => rfl
  have F19 := fun_mk (st := s_covers) l19 c19 k19
  have b19 := F19.binds (ps := ["self", "m"]) fun _ _ _ _ _ _ us hl => match us, hl with | [_, _], _ => rfl
  have F20 := fun_mk (st := s_next_ticket) l20 c20 k20
  have b20 := F20.binds (ps := ["self", "m"]) fun _ _ _ _ _ _ us hl => match us, hl with | [_, _], _ => rfl
  have F21 := fun_mk (st := s_fewest) l21 c21 k21
  have b21 := F21.binds (ps := ["self", "m"]) fun _ _ _ _ _ _ us hl => match us, hl with | [_, _], _ => rfl
  have F22 := fun_mk (st := s_needed) l22 c22 k22
  have b22 := F22.binds (ps := ["self", "m"]) fun _ _ _ _ _ _ us hl => match us, hl with | [_, _], _ => rfl
  have F23 := fun_mk (st := s_pays) l23 c23 k23
  have b23 := F23.binds (ps := ["self", "prizes"]) fun _ _ _ _ _ _ us hl => match us, hl with | [_, _], _ => rfl
  have F24 := fun_mk (st := s_least) l24 c24 k24
  have b24 := F24.binds (ps := ["self", "m"]) fun _ _ _ _ _ _ us hl => match us, hl with | [_, _], _ => rfl
  have F25 := fun_mk (st := s_is_wanted) l25 c25 k25
  have b25 := F25.binds (ps := ["self", "m"]) fun _ _ _ _ _ _ us hl => match us, hl with | [_, _], _ => rfl
  have F26 := fun_mk (st := s_covered_by) l26 c26 k26
  have b26 := F26.binds (ps := ["self", "ticket", "m"]) fun _ _ _ _ _ _ us hl => match us, hl with | [_, _, _], _ => rfl
  have F27 := fun_mk (st := s_covered) l27 c27 k27
  have b27 := F27.binds (ps := ["self", "tickets", "m"]) fun _ _ _ _ _ _ us hl => match us, hl with | [_, _, _], _ => rfl
  have F28 := fun_mk (st := s_numbers_of) l28 c28 k28
  have b28 := F28.binds (ps := ["self", "row"]) fun _ _ _ _ _ _ us hl => match us, hl with | [_, _], _ => rfl
  have F29 := fun_mk (st := s_paid) l29 c29 k29
  have b29 := F29.binds (ps := ["self", "draw", "prizes"]) fun _ _ _ _ _ _ us hl => match us, hl with | [_, _, _], _ => rfl
  have D0 : DefAt K mg "rising_rows" s_rising_rows ["n", "size"] := ⟨_, _, F0, PySem.W.mg_of X G a0, b0⟩
  have D1 : DefAt K mg "is_rising_row" s_is_rising_row ["row", "size", "n"] := ⟨_, _, F1, PySem.W.mg_of X G a1, b1⟩
  have D2 : DefAt K mg "is_size" s_is_size ["size", "n"] := ⟨_, _, F2, PySem.W.mg_of X G a2, b2⟩
  have D3 : DefAt K mg "count_right" s_count_right ["ticket", "draw"] := ⟨_, _, F3, PySem.W.mg_of X G a3, b3⟩
  have D4 : DefAt K mg "count_bits" s_count_bits ["draws"] := ⟨_, _, F4, PySem.W.mg_of X G a4, b4⟩
  have D5 : DefAt K mg "draws_with" s_draws_with ["number", "draws"] := ⟨_, _, F5, PySem.W.mg_of X G a5, b5⟩
  have D6 : DefAt K mg "lowest_terms" s_lowest_terms ["above", "below"] := ⟨_, _, F6, PySem.W.mg_of X G a6, b6⟩
  have D7 : DefAt K mg "answers" s_answers ["calls"] := ⟨_, _, F7, PySem.W.mg_of X G a7, b7⟩
  have D8 : DefAt K mg "start_of_given" s_start_of_given ["calls", "at"] := ⟨_, _, F8, PySem.W.mg_of X G a8, b8⟩
  have D9 : DefAt K mg "count_of_given" s_count_of_given ["calls", "at"] := ⟨_, _, F9, PySem.W.mg_of X G a9, b9⟩
  have D10 : DefAt K mg "answer_call" s_answer_call ["wheel", "call", "given"] := ⟨_, _, F10, PySem.W.mg_of X G a10, b10⟩
  have D11 : MethAt K C "__init__" "Wheel.__init__" s_init ["self"] := ⟨_, _, F11, ⟨a11, i11, k11⟩, b11⟩
  have D12 : MethAt K C "begin" "Wheel.begin" s_begin ["self", "n", "k", "t"] := ⟨_, _, F12, ⟨a12, i12, k12⟩, b12⟩
  have D13 : MethAt K C "buy" "Wheel.buy" s_buy ["self", "ticket"] := ⟨_, _, F13, ⟨a13, i13, k13⟩, b13⟩
  have D14 : MethAt K C "drop" "Wheel.drop" s_drop ["self", "place"] := ⟨_, _, F14, ⟨a14, i14, k14⟩, b14⟩
  have D15 : MethAt K C "look" "Wheel.look" s_look ["self"] := ⟨_, _, F15, ⟨a15, i15, k15⟩, b15⟩
  have D16 : MethAt K C "matches" "Wheel.matches" s_matches ["self", "draw"] := ⟨_, _, F16, ⟨a16, i16, k16⟩, b16⟩
  have D17 : MethAt K C "worst" "Wheel.worst" s_worst ["self"] := ⟨_, _, F17, ⟨a17, i17, k17⟩, b17⟩
  have D18 : MethAt K C "best" "Wheel.best" s_best ["self", "draw"] := ⟨_, _, F18, ⟨a18, i18, k18⟩, b18⟩
  have D19 : MethAt K C "covers" "Wheel.covers" s_covers ["self", "m"] := ⟨_, _, F19, ⟨a19, i19, k19⟩, b19⟩
  have D20 : MethAt K C "next_ticket" "Wheel.next_ticket" s_next_ticket ["self", "m"] := ⟨_, _, F20, ⟨a20, i20, k20⟩, b20⟩
  have D21 : MethAt K C "fewest" "Wheel.fewest" s_fewest ["self", "m"] := ⟨_, _, F21, ⟨a21, i21, k21⟩, b21⟩
  have D22 : MethAt K C "needed" "Wheel.needed" s_needed ["self", "m"] := ⟨_, _, F22, ⟨a22, i22, k22⟩, b22⟩
  have D23 : MethAt K C "pays" "Wheel.pays" s_pays ["self", "prizes"] := ⟨_, _, F23, ⟨a23, i23, k23⟩, b23⟩
  have D24 : MethAt K C "least" "Wheel.least" s_least ["self", "m"] := ⟨_, _, F24, ⟨a24, i24, k24⟩, b24⟩
  have D25 : MethAt K C "is_wanted" "Wheel.is_wanted" s_is_wanted ["self", "m"] := ⟨_, _, F25, ⟨a25, i25, k25⟩, b25⟩
  have D26 : MethAt K C "covered_by" "Wheel.covered_by" s_covered_by ["self", "ticket", "m"] := ⟨_, _, F26, ⟨a26, i26, k26⟩, b26⟩
  have D27 : MethAt K C "covered" "Wheel.covered" s_covered ["self", "tickets", "m"] := ⟨_, _, F27, ⟨a27, i27, k27⟩, b27⟩
  have D28 : MethAt K C "numbers_of" "Wheel.numbers_of" s_numbers_of ["self", "row"] := ⟨_, _, F28, ⟨a28, i28, k28⟩, b28⟩
  have D29 : MethAt K C "paid" "Wheel.paid" s_paid ["self", "draw", "prizes"] := ⟨_, _, F29, ⟨a29, i29, k29⟩, b29⟩
  refine ⟨PySem.W.fnOf "answers" "answers" (defArgs s_answers) (defBody s_answers) (defScope s_answers) .none kV7 dc7 pm7 an7 cd7 ct7, (fun s us hu => match us, hu with | [_], _ => .of_eq rfl), fun base hb1 hb2 => ?_⟩
  have G_rising_rows := ok_rising_rows (P := P) (w := w) (base := base) D0 T
  have G_is_rising_row := ok_is_rising_row (P := P) (w := w) (base := base) D1 T
  have G_is_size := ok_is_size (P := P) (w := w) (base := base) D2
  have G_count_right := ok_count_right (P := P) (w := w) (base := base) D3 T
  have G_count_bits := ok_count_bits (P := P) (w := w) (base := base) D4
  have G_draws_with := ok_draws_with (P := P) (w := w) (base := base) D5 T
  have G_lowest_terms := ok_lowest_terms (P := P) (w := w) (base := base) D6
  have G_is_wanted := ok_is_wanted (P := P) (w := w) (base := base) D25 T
  have G_covered_by := ok_covered_by (P := P) (w := w) (base := base) D26 T
  have G_covered := ok_covered (P := P) (w := w) (base := base) D27 T G_covered_by
  have G_best := ok_best (P := P) (w := w) (base := base) D18 T G_count_right
  have G_paid := ok_paid (P := P) (w := w) (base := base) D29 T G_count_right
  have G_numbers_of := ok_numbers_of (P := P) (w := w) (base := base) D28 T
  have G_matches := ok_matches (P := P) (w := w) (base := base) D16 T G_count_right G_is_rising_row G_best
  have G_look := ok_look (P := P) (w := w) (base := base) D15 T
  have G_covers := ok_covers (P := P) (w := w) (base := base) D19 T G_count_bits G_lowest_terms G_covered
  have G_least := ok_least (P := P) (w := w) (base := base) D24 T G_count_bits G_is_wanted G_covered_by
  have G_worst := ok_worst (P := P) (w := w) (base := base) D17 T G_best ⟨_, ⟨⟨a18, i18, k18⟩, gB, tB, by decide +kernel, fB⟩⟩
  have G_next := ok_next (P := P) (w := w) (base := base) D20 T G_count_bits G_is_wanted G_covered_by G_covered
  have G_pays := ok_pays (P := P) (w := w) (base := base) D23 T G_lowest_terms G_paid
  have G_fewest := ok_fewest (P := P) (w := w) (base := base) D21 T G_rising_rows G_is_wanted G_covered_by G_numbers_of
  have G_needed := ok_needed (P := P) (w := w) (base := base) D22 T G_is_wanted G_covered
  have G_buy := ok_buy (P := P) (w := w) (base := base) D13 T G_is_rising_row
  have G_drop := ok_drop (P := P) (w := w) (base := base) D14 T
  have G_begin := ok_begin (P := P) (w := w) (base := base) D12 T G_is_size G_rising_rows G_draws_with
  have G_init := ok_init (P := P) (w := w) (base := base) D11 T
  have G_start := ok_start_of_given (P := P) (w := w) (base := base) D8 T
  have G_count := ok_count_of_given (P := P) (w := w) (base := base) D9 T
  have G_call := ok_answer_call (P := P) (w := w) (base := base) D10 T G_begin G_buy G_drop G_look G_matches G_worst G_covers G_next G_fewest G_needed G_pays G_least
  exact ok_answers (P := P) (w := w) (base := base) F7 T mk kc G_init G_start G_count G_call

end WP
end
section
namespace WP
open PySem PySem.Spec PyProof.Rows L2 Evl WM
end WP
open PySem PySem.W PyProof.Rows
set_option maxRecDepth 100000 in
set_option maxHeartbeats 16000000 in
theorem PySem.Challenge.cw_wheeldraw_s01_answers_holds : PySem.Challenge.rw_wheeldraw_s01_answers.Holds := by
  w_on; k_headS; (case hw => exact ⟨[.list [.int 3]], by decide +kernel, by decide +kernel⟩)
  k_fillS
  refine L2.walk_specK (r := PySem.Challenge.rw_wheeldraw_s01_answers) (k := 6) (CX := L2.CX0) (ps := ["calls"]) (sp := WP.spAnswers) (by decide +kernel) rfl rfl ⟨rfl, by decide, by decide⟩ (fun w h Y => PySem.W.kIn_of Y) ?F ?S (fun _ _ _ _ z => z)
  case F =>
    intro w mg fa h Y KX G hmg
    refine' WP.all_mk KX G hmg ?aC ?a0 ?l0 ?c0 ?k0 ?a1 ?l1 ?c1 ?k1 ?a2 ?l2 ?c2 ?k2 ?a3 ?l3 ?c3 ?k3 ?a4 ?l4 ?c4 ?k4 ?a5 ?l5 ?c5 ?k5 ?a6 ?l6 ?c6 ?k6 ?a7 ?l7 ?c7 ?k7 ?a8 ?l8 ?c8 ?k8 ?a9 ?l9 ?c9 ?k9 ?a10 ?l10 ?c10 ?k10 ?a11 ?i11 ?l11 ?c11 ?k11 ?a12 ?i12 ?l12 ?c12 ?k12 ?a13 ?i13 ?l13 ?c13 ?k13 ?a14 ?i14 ?l14 ?c14 ?k14 ?a15 ?i15 ?l15 ?c15 ?k15 ?a16 ?i16 ?l16 ?c16 ?k16 ?a17 ?i17 ?l17 ?c17 ?k17 ?a18 ?i18 ?l18 ?c18 ?k18 ?a19 ?i19 ?l19 ?c19 ?k19 ?a20 ?i20 ?l20 ?c20 ?k20 ?a21 ?i21 ?l21 ?c21 ?k21 ?a22 ?i22 ?l22 ?c22 ?k22 ?a23 ?i23 ?l23 ?c23 ?k23 ?a24 ?i24 ?l24 ?c24 ?k24 ?a25 ?i25 ?l25 ?c25 ?k25 ?a26 ?i26 ?l26 ?c26 ?k26 ?a27 ?i27 ?l27 ?c27 ?k27 ?a28 ?i28 ?l28 ?c28 ?k28 ?a29 ?i29 ?l29 ?c29 ?k29 ?pg ?hd ?po ?sa ?mk ?kc ?n_begun ?n_n ?n_k ?n_t ?n_tickets ?n_choices ?n_draws ?n_all_draws ?n_drawn_with ?z_len ?z_range ?z_list ?z_sum ?z_max ?z_min ?z_enumerate ?q_MOST_TICKETS ?q_LONGEST_ROW ?q_MOST_DIFFERENT ?q_MOST_PRIZE ?q_BEGIN ?q_BUY ?q_DROP ?q_LOOK ?q_MATCHES ?q_WORST ?q_COVERS ?q_NEXT ?q_FEWEST ?q_NEEDED ?q_PAYS ?gB ?tB ?fB ?rR ?uR ?wR ?vR ?rP ?uP ?wP ?vP
    (case aC => k_is)
    (case a0 => k_is)
    (case l0 => k_is)
    (case c0 => k_is)
    (case k0 => k_is)
    (case a1 => k_is)
    (case l1 => k_is)
    (case c1 => k_is)
    (case k1 => k_is)
    (case a2 => k_is)
    (case l2 => k_is)
    (case c2 => k_is)
    (case k2 => k_is)
    (case a3 => k_is)
    (case l3 => k_is)
    (case c3 => k_is)
    (case k3 => k_is)
    (case a4 => k_is)
    (case l4 => k_is)
    (case c4 => k_is)
    (case k4 => k_is)
    (case a5 => k_is)
    (case l5 => k_is)
    (case c5 => k_is)
    (case k5 => k_is)
    (case a6 => k_is)
    (case l6 => k_is)
    (case c6 => k_is)
    (case k6 => k_is)
    (case a7 => k_is)
    (case l7 => k_is)
    (case c7 => k_is)
    (case k7 => k_is)
    (case a8 => k_is)
    (case l8 => k_is)
    (case c8 => k_is)
    (case k8 => k_is)
    (case a9 => k_is)
    (case l9 => k_is)
    (case c9 => k_is)
    (case k9 => k_is)
    (case a10 => k_is)
    (case l10 => k_is)
    (case c10 => k_is)
    (case k10 => k_is)
    (case a11 => k_is)
    (case i11 => k_is)
    (case l11 => k_is)
    (case c11 => k_is)
    (case k11 => k_is)
    (case a12 => k_is)
    (case i12 => k_is)
    (case l12 => k_is)
    (case c12 => k_is)
    (case k12 => k_is)
    (case a13 => k_is)
    (case i13 => k_is)
    (case l13 => k_is)
    (case c13 => k_is)
    (case k13 => k_is)
    (case a14 => k_is)
    (case i14 => k_is)
    (case l14 => k_is)
    (case c14 => k_is)
    (case k14 => k_is)
    (case a15 => k_is)
    (case i15 => k_is)
    (case l15 => k_is)
    (case c15 => k_is)
    (case k15 => k_is)
    (case a16 => k_is)
    (case i16 => k_is)
    (case l16 => k_is)
    (case c16 => k_is)
    (case k16 => k_is)
    (case a17 => k_is)
    (case i17 => k_is)
    (case l17 => k_is)
    (case c17 => k_is)
    (case k17 => k_is)
    (case a18 => k_is)
    (case i18 => k_is)
    (case l18 => k_is)
    (case c18 => k_is)
    (case k18 => k_is)
    (case a19 => k_is)
    (case i19 => k_is)
    (case l19 => k_is)
    (case c19 => k_is)
    (case k19 => k_is)
    (case a20 => k_is)
    (case i20 => k_is)
    (case l20 => k_is)
    (case c20 => k_is)
    (case k20 => k_is)
    (case a21 => k_is)
    (case i21 => k_is)
    (case l21 => k_is)
    (case c21 => k_is)
    (case k21 => k_is)
    (case a22 => k_is)
    (case i22 => k_is)
    (case l22 => k_is)
    (case c22 => k_is)
    (case k22 => k_is)
    (case a23 => k_is)
    (case i23 => k_is)
    (case l23 => k_is)
    (case c23 => k_is)
    (case k23 => k_is)
    (case a24 => k_is)
    (case i24 => k_is)
    (case l24 => k_is)
    (case c24 => k_is)
    (case k24 => k_is)
    (case a25 => k_is)
    (case i25 => k_is)
    (case l25 => k_is)
    (case c25 => k_is)
    (case k25 => k_is)
    (case a26 => k_is)
    (case i26 => k_is)
    (case l26 => k_is)
    (case c26 => k_is)
    (case k26 => k_is)
    (case a27 => k_is)
    (case i27 => k_is)
    (case l27 => k_is)
    (case c27 => k_is)
    (case k27 => k_is)
    (case a28 => k_is)
    (case i28 => k_is)
    (case l28 => k_is)
    (case c28 => k_is)
    (case k28 => k_is)
    (case a29 => k_is)
    (case i29 => k_is)
    (case l29 => k_is)
    (case c29 => k_is)
    (case k29 => k_is)
    (case pg => k_is)
    (case hd => k_is)
    (case po => k_is)
    (case sa => k_is)
    (case mk => k_is)
    (case kc => k_is)
    (case n_begun => k_is)
    (case n_n => k_is)
    (case n_k => k_is)
    (case n_t => k_is)
    (case n_tickets => k_is)
    (case n_choices => k_is)
    (case n_draws => k_is)
    (case n_all_draws => k_is)
    (case n_drawn_with => k_is)
    (case z_len => k_is)
    (case z_range => k_is)
    (case z_list => k_is)
    (case z_sum => k_is)
    (case z_max => k_is)
    (case z_min => k_is)
    (case z_enumerate => k_is)
    (case q_MOST_TICKETS => k_is)
    (case q_LONGEST_ROW => k_is)
    (case q_MOST_DIFFERENT => k_is)
    (case q_MOST_PRIZE => k_is)
    (case q_BEGIN => k_is)
    (case q_BUY => k_is)
    (case q_DROP => k_is)
    (case q_LOOK => k_is)
    (case q_MATCHES => k_is)
    (case q_WORST => k_is)
    (case q_COVERS => k_is)
    (case q_NEXT => k_is)
    (case q_FEWEST => k_is)
    (case q_NEEDED => k_is)
    (case q_PAYS => k_is)
    (case gB => first | rfl | k_is)
    (case tB => first | rfl | k_is)
    (case fB => first | rfl | k_is)
    (case rR => k_is)
    (case uR => k_is)
    (case wR => first | decide | (show _ ≤ _; decide))
    (case vR => exact .cons ⟨_, rfl⟩ (.cons ⟨_, rfl⟩ (.cons ⟨_, rfl⟩ (.nil))))
    (case rP => k_is)
    (case uP => k_is)
    (case wP => first | decide | (show _ ≤ _; decide))
    (case vP => exact .cons ⟨_, rfl⟩ (.cons ⟨_, rfl⟩ (.cons ⟨_, rfl⟩ (.cons ⟨_, rfl⟩ (.cons ⟨_, rfl⟩ (.cons ⟨_, rfl⟩ (.cons ⟨_, rfl⟩ (.cons ⟨_, rfl⟩ (.cons ⟨_, rfl⟩ (.cons ⟨_, rfl⟩ (.cons ⟨_, rfl⟩ (.cons ⟨_, rfl⟩ (.nil)))))))))))))
  case S =>
    intro K H xs a hO hwi hask hx
    cases hx with
    | cons h1 h2 =>
      cases h2
      cases h1 with
      | lst hs ha =>
        have e := L2.ints_dw a.1 _ ha
        subst e
        have q : ((Codec.inLen 0 1000 a.1 && a.1.all (Codec.inInt 0 100000)) && true) = true := hwi
        rw [Bool.and_eq_true, Bool.and_eq_true] at q
        have hz : ∀ x ∈ a.1, 0 ≤ x := fun x hx => (Codec.inInt_iff.mp (List.all_eq_true.mp q.1.2 x hx)).1
        have hb : WD.zints (Mu24Neutral.nats a.1) = a.1 := WD.nats_back hz
        have hV : (Mu24Neutral.nats a.1).map WP.nI = a.1.map L2.V.int := by
          have e : (Mu24Neutral.nats a.1).map WP.nI = (WD.zints (Mu24Neutral.nats a.1)).map L2.V.int := by
            unfold WD.zints
            rw [List.map_map]
            rfl
          rw [e, hb]
        refine ⟨_, Mu24Neutral.nats a.1, rfl, by rw [hV]; exact hs, by rw [WD.nats_len]; exact (Codec.inNat_iff.mp q.1.1).2, by rw [hb]; exact hask, fun H' p hp => ?_⟩
        rw [hb] at hp
        exact .lst (L2.SqL.of hp) (L2.dw_ints _)
#print axioms PySem.Challenge.cw_wheeldraw_s01_answers_holds
end
