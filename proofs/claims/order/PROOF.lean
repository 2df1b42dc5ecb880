import PyProof.Rows.All
import EbOrder
import Wide.All
import OpenK.AllK
import Wide.FinOn
import Open.SpecLaws
import KE.OsHead
import KE.OsGo
import HandS.ForSpec
import HandS.Comp
import HandS.Iter
import HandS.Walk
import HandS.Conv
import HandS.Zip
import KE.OsArith
import PySem.Challenge.RW_threadrow_s03_order
set_option linter.all false
namespace TO
open Eb
/-! ### the table of the fewest changes still to come, told by its own equation -/
theorem from_congr {v : Wants} {t u : Array Nat} {m i : Nat} (h : ∀ j, j < v.threads.length → t.getD ((m + 2 ^ j) * v.threads.length + j) FAR_ = u.getD ((m + 2 ^ j) * v.threads.length + j) FAR_) :
    stillFrom v t m i = stillFrom v u m i := by
  have e : ((List.range v.threads.length).filter (mayNext v m)).map (fun (j : Nat) => differ v i j + t.getD ((m + 2 ^ j) * v.threads.length + j) FAR_) = ((List.range v.threads.length).filter (mayNext v m)).map (fun (j : Nat) => differ v i j + u.getD ((m + 2 ^ j) * v.threads.length + j) FAR_) := by
    refine List.map_congr_left fun j hj => ?_
    rw [h j (List.mem_range.mp (List.mem_filter.mp hj).1)]
  unfold stillFrom
  simp only []
  rw [e]
/-- one row's first k places written -/
def rowTo (v : Wants) (m : Nat) (t : Array Nat) (k : Nat) : Array Nat :=
  (List.range k).foldl (fun (t : Array Nat) (i : Nat) => t.setIfInBounds (m * v.threads.length + i) (stillFrom v t m i)) t
theorem rowTo_succ (v : Wants) (m : Nat) (t : Array Nat) (k : Nat) : rowTo v m t (k + 1) = (rowTo v m t k).setIfInBounds (m * v.threads.length + k) (stillFrom v (rowTo v m t k) m k) := by
  unfold rowTo
  rw [List.range_succ, List.foldl_append]
  rfl
theorem getD_set_ne {t : Array Nat} {a b x d : Nat} (h : a ≠ b) : (t.setIfInBounds a x).getD b d = t.getD b d := by
  rw [Array.getD_eq_getD_getElem?, Array.getD_eq_getD_getElem?, Array.getElem?_setIfInBounds_ne h]
theorem getD_set_self {t : Array Nat} {a x d : Nat} (h : a < t.size) : (t.setIfInBounds a x).getD a d = x := by
  rw [Array.getD_eq_getD_getElem?, Array.getElem?_setIfInBounds_self_of_lt h]
  rfl
theorem rowTo_spec (v : Wants) (m : Nat) (t : Array Nat) : ∀ k, k ≤ v.threads.length → (m + 1) * v.threads.length ≤ t.size →
    (rowTo v m t k).size = t.size ∧ (∀ b d, (b < m * v.threads.length ∨ m * v.threads.length + k ≤ b) → (rowTo v m t k).getD b d = t.getD b d) ∧
    ∀ i, i < k → (rowTo v m t k).getD (m * v.threads.length + i) FAR_ = stillFrom v t m i
  | 0, _, _ => ⟨rfl, fun _ _ _ => rfl, fun i h => absurd h (Nat.not_lt_zero i)⟩
  | k + 1, hk, hs => by
    obtain ⟨h1, h2, h3⟩ := rowTo_spec v m t k (by omega) hs
    have ex : (m + 1) * v.threads.length = m * v.threads.length + v.threads.length := Nat.succ_mul ..
    rw [rowTo_succ]
    refine ⟨by rw [Array.size_setIfInBounds, h1], fun b d hb => ?_, fun i hi => ?_⟩
    · rw [getD_set_ne (by omega)]
      exact h2 b d (by omega)
    · by_cases e : i = k
      · subst e
        rw [getD_set_self (by rw [h1]; omega)]
        refine from_congr fun j hj => h2 _ _ (.inr ?_)
        have : (m + 1) * v.threads.length ≤ (m + 2 ^ j) * v.threads.length := Nat.mul_le_mul_right _ (by have := Nat.two_pow_pos j; omega)
        omega
      · rw [getD_set_ne (by omega)]
        exact h3 i (by omega)
/-- from numbers M on the table keeps its equation -/
def Kept (v : Wants) (t : Array Nat) (M : Nat) : Prop := t.size = 2 ^ v.threads.length * v.threads.length ∧
  ∀ m i, M ≤ m → m < 2 ^ v.threads.length → i < v.threads.length → t.getD (m * v.threads.length + i) FAR_ = stillFrom v t m i
theorem kept_step {v : Wants} {t : Array Nat} {M : Nat} (hM : M + 1 ≤ 2 ^ v.threads.length) (h : Kept v t (M + 1)) : Kept v (rowTo v M t v.threads.length) M := by
  obtain ⟨hs, hk⟩ := h
  have ex : (M + 1) * v.threads.length = M * v.threads.length + v.threads.length := Nat.succ_mul ..
  obtain ⟨h1, h2, h3⟩ := rowTo_spec v M t v.threads.length (Nat.le_refl _) (by rw [hs]; exact Nat.mul_le_mul_right _ hM)
  have hc : ∀ m i, M ≤ m → stillFrom v (rowTo v M t v.threads.length) m i = stillFrom v t m i := fun m i hm => by
    refine from_congr fun j hj => h2 _ _ (.inr ?_)
    have : (M + 1) * v.threads.length ≤ (m + 2 ^ j) * v.threads.length := Nat.mul_le_mul_right _ (by have := Nat.two_pow_pos j; omega)
    omega
  refine ⟨by rw [h1, hs], fun m i hm hm2 hi => ?_⟩
  rw [hc m i hm]
  by_cases e : m = M
  · subst e
    exact h3 i hi
  · have : (M + 1) * v.threads.length ≤ m * v.threads.length := Nat.mul_le_mul_right _ (by omega)
    rw [h2 _ _ (.inr (by omega))]
    exact hk m i (by omega) hm2 hi
theorem kept_all {v : Wants} : ∀ (M : Nat) (t : Array Nat), M ≤ 2 ^ v.threads.length → Kept v t M → Kept v ((List.range M).reverse.foldl (fun (t : Array Nat) (m : Nat) => rowTo v m t v.threads.length) t) 0
  | 0, t, _, h => h
  | M + 1, t, hM, h => by
    rw [List.range_succ, List.reverse_append]
    exact kept_all M _ (by omega) (kept_step hM h)
theorem still_kept (v : Wants) : Kept v (still v) 0 := by
  refine kept_all (2 ^ v.threads.length) _ (Nat.le_refl _) ⟨Array.size_replicate .., fun m i h1 h2 => by omega⟩
/-- the fewest changes still to come -/
def rem (v : Wants) (m i : Nat) : Nat := (still v).getD (m * v.threads.length + i) FAR_
/-- the numbers that may come next -/
def nexts (v : Wants) (m : Nat) : List Nat := (List.range v.threads.length).filter (mayNext v m)
theorem rem_eq (v : Wants) {m i : Nat} (hm : m < 2 ^ v.threads.length) (hi : i < v.threads.length) :
    rem v m i = if (nexts v m).isEmpty = true then (if m = 2 ^ v.threads.length - 1 then 0 else FAR_) else ((nexts v m).map fun (j : Nat) => differ v i j + rem v (m + 2 ^ j) j).foldl min FAR_ :=
  (still_kept v).2 m i (Nat.zero_le _) hm hi
end TO

namespace TO
open Eb
/-! ### numbers as sets of bits -/
theorem low_of {m j : Nat} (h : m.testBit j = false) : m % 2 ^ (j + 1) < 2 ^ j := by
  have e : (m % 2 ^ (j + 1)).testBit j = false := by
    rw [Nat.testBit_mod_two_pow, h]
    simp
  have l : m % 2 ^ (j + 1) < 2 ^ (j + 1) := Nat.mod_lt _ (Nat.two_pow_pos _)
  by_cases c : m % 2 ^ (j + 1) < 2 ^ j
  · exact c
  · have e2 : m % 2 ^ (j + 1) = 2 ^ j + (m % 2 ^ (j + 1) - 2 ^ j) := by omega
    rw [Nat.pow_succ] at l
    have e3 : (m % 2 ^ (j + 1) - 2 ^ j).testBit j = false := Nat.testBit_lt_two_pow (by rw [Nat.pow_succ]; omega)
    rw [e2, Nat.testBit_two_pow_add_eq, e3] at e
    cases e
theorem bit_set {m j : Nat} (h : m.testBit j = false) (i : Nat) : (m + 2 ^ j).testBit i = (m.testBit i || decide (i = j)) := by
  rw [Nat.add_comm]
  rcases Nat.lt_trichotomy i j with c | c | c
  · rw [Nat.testBit_two_pow_add_gt c]
    simp [show i ≠ j by omega]
  · subst c
    rw [Nat.testBit_two_pow_add_eq, h]
    simp
  · have l := low_of h
    have e : (2 ^ j + m) / 2 ^ (j + 1) = m / 2 ^ (j + 1) := by
      have e1 : 2 ^ j + m = (2 ^ j + m % 2 ^ (j + 1)) + m / 2 ^ (j + 1) * 2 ^ (j + 1) := by
        have d := Nat.mod_add_div m (2 ^ (j + 1))
        rw [Nat.mul_comm] at d
        have e0 : ∀ A B C M : Nat, B + A = M → C + M = (C + B) + A := by omega
        exact e0 _ _ _ _ d
      rw [e1, Nat.add_mul_div_right _ _ (Nat.two_pow_pos _), Nat.div_eq_of_lt (by generalize m % 2 ^ (j + 1) = B at l; rw [Nat.pow_succ]; omega)]
      omega
    have s : ∀ x : Nat, x.testBit i = (x / 2 ^ (j + 1)).testBit (i - (j + 1)) := fun x => by
      rw [Nat.testBit_div_two_pow]
      congr 1
      omega
    rw [s, e, ← s]
    simp [show i ≠ j by omega]
theorem set_lt {n m j : Nat} (hm : m < 2 ^ n) (hj : j < n) (h : m.testBit j = false) : m + 2 ^ j < 2 ^ n := by
  refine Nat.lt_pow_two_of_testBit _ fun i hi => ?_
  rw [bit_set h, Nat.testBit_lt_two_pow (Nat.lt_of_lt_of_le hm (Nat.pow_le_pow_right (by decide) hi))]
  simp
  omega
theorem full_iff {n m : Nat} (hm : m < 2 ^ n) : m = 2 ^ n - 1 ↔ ∀ j, j < n → m.testBit j = true := by
  constructor
  · intro e j hj
    rw [e, Nat.testBit_two_pow_sub_one]
    exact decide_eq_true hj
  · intro h
    refine Nat.eq_of_testBit_eq fun i => ?_
    rw [Nat.testBit_two_pow_sub_one]
    by_cases c : i < n
    · rw [h i c, decide_eq_true c]
    · rw [Nat.testBit_lt_two_pow (Nat.lt_of_lt_of_le hm (Nat.pow_le_pow_right (by decide) (by omega)))]
      simp [c]
theorem least_clear {n m : Nat} (hm : m < 2 ^ n) (h : m ≠ 2 ^ n - 1) : ∃ j, j < n ∧ m.testBit j = false ∧ ∀ i, i < j → m.testBit i = true := by
  have h2 : ∃ j, j < n ∧ m.testBit j = false := by
    refine Classical.byContradiction fun c => h ((full_iff hm).mpr fun j hj => ?_)
    cases e : m.testBit j with
    | true => rfl
    | false => exact absurd ⟨j, hj, e⟩ c
  obtain ⟨j, hj, e⟩ := h2
  induction j using Nat.strongRecOn with
  | _ j ih =>
    by_cases c : ∃ i, i < j ∧ m.testBit i = false
    · obtain ⟨i, h1, h2⟩ := c
      exact ih i h1 (by omega) h2
    · refine ⟨j, hj, e, fun i hi => ?_⟩
      cases e2 : m.testBit i with
      | true => rfl
      | false => exact absurd ⟨i, hi, e2⟩ c
/-! ### what may come next -/
theorem mem_nexts {v : Wants} {m j : Nat} : j ∈ nexts v m ↔ j < v.threads.length ∧ m.testBit j = false ∧ ∀ i, i < j → v.before i j = true → m.testBit i = true := by
  unfold nexts mayNext
  rw [List.mem_filter, List.mem_range, Bool.and_eq_true, List.all_eq_true]
  simp only [List.mem_range, Bool.or_eq_true, Bool.not_eq_true']
  constructor
  · rintro ⟨h1, h2, h3⟩
    refine ⟨h1, h2, fun i hi hb => ?_⟩
    rcases h3 i hi with c | c
    · rw [hb] at c
      cases c
    · exact c
  · rintro ⟨h1, h2, h3⟩
    refine ⟨h1, h2, fun i hi => ?_⟩
    cases e : v.before i j with
    | false => exact .inl rfl
    | true => exact .inr (h3 i hi e)
theorem nexts_full {v : Wants} {m : Nat} (h : ∀ j, j < v.threads.length → m.testBit j = true) : nexts v m = [] := by
  refine List.eq_nil_iff_forall_not_mem.mpr fun j hj => ?_
  obtain ⟨h1, h2, _⟩ := mem_nexts.mp hj
  rw [h j h1] at h2
  cases h2
theorem nexts_ne {v : Wants} {m : Nat} (hm : m < 2 ^ v.threads.length) (h : m ≠ 2 ^ v.threads.length - 1) : nexts v m ≠ [] := by
  obtain ⟨j, h1, h2, h3⟩ := least_clear hm h
  exact List.ne_nil_of_mem (mem_nexts.mpr ⟨h1, h2, fun i hi _ => h3 i hi⟩)
theorem next_lt {v : Wants} {m j : Nat} (hm : m < 2 ^ v.threads.length) (h : j ∈ nexts v m) : m + 2 ^ j < 2 ^ v.threads.length := by
  obtain ⟨h1, h2, _⟩ := mem_nexts.mp h
  exact set_lt hm h1 h2
/-! ### rows of numbers that go on from numbers m to all of them -/
def Suf (v : Wants) : Nat → List Nat → Prop
  | m, [] => m = 2 ^ v.threads.length - 1
  | m, j :: r => j ∈ nexts v m ∧ Suf v (m + 2 ^ j) r
/-- the changes of a row behind i -/
def chg (v : Wants) : Nat → List Nat → Nat
  | _, [] => 0
  | i, j :: r => differ v i j + chg v j r
theorem suf_mem {v : Wants} : ∀ {q : List Nat} {m : Nat}, Suf v m q → ∀ j ∈ q, j < v.threads.length ∧ m.testBit j = false
  | [], _, _, j, hj => by simp at hj
  | k :: q, m, ⟨h1, h2⟩, j, hj => by
    obtain ⟨a1, a2, _⟩ := mem_nexts.mp h1
    rcases List.mem_cons.mp hj with e | hj
    · subst e
      exact ⟨a1, a2⟩
    · obtain ⟨b1, b2⟩ := suf_mem h2 j hj
      rw [bit_set a2, Bool.or_eq_false_iff] at b2
      exact ⟨b1, b2.1⟩
theorem suf_nodup {v : Wants} : ∀ {q : List Nat} {m : Nat}, Suf v m q → q.Nodup
  | [], _, _ => List.nodup_nil
  | k :: q, m, ⟨h1, h2⟩ => by
    obtain ⟨a1, a2, _⟩ := mem_nexts.mp h1
    refine List.nodup_cons.mpr ⟨fun hk => ?_, suf_nodup h2⟩
    obtain ⟨_, b2⟩ := suf_mem h2 k hk
    rw [bit_set a2] at b2
    simp at b2
theorem suf_len {v : Wants} {q : List Nat} {m : Nat} (h : Suf v m q) : q.length ≤ v.threads.length := by
  have := (suf_nodup h).length_le_of_subset (l₂ := List.range v.threads.length) fun j hj => List.mem_range.mpr (suf_mem h j hj).1
  rwa [List.length_range] at this
theorem differ_le (v : Wants) (i j : Nat) : differ v i j ≤ 1 := by
  unfold differ
  split <;> omega
theorem chg_le (v : Wants) : ∀ (q : List Nat) (i : Nat), chg v i q ≤ q.length
  | [], _ => Nat.le_refl _
  | j :: q, i => by
    have h1 := differ_le v i j
    have h2 := chg_le v q j
    show differ v i j + chg v j q ≤ q.length + 1
    omega
theorem suf_some {v : Wants} : ∀ (k m : Nat), 2 ^ v.threads.length ≤ m + k → m < 2 ^ v.threads.length → ∃ q, Suf v m q
  | 0, m, h, hm => by omega
  | k + 1, m, h, hm => by
    by_cases e : m = 2 ^ v.threads.length - 1
    · exact ⟨[], e⟩
    · obtain ⟨j, hj⟩ := List.exists_mem_of_ne_nil _ (nexts_ne hm e)
      have p := Nat.two_pow_pos j
      obtain ⟨q, hq⟩ := suf_some k (m + 2 ^ j) (by omega) (next_lt hm hj)
      exact ⟨j :: q, hj, hq⟩
/-! ### the least of some numbers -/
theorem min_le : ∀ (l : List Nat) (d : Nat), l.foldl min d ≤ d ∧ ∀ x ∈ l, l.foldl min d ≤ x
  | [], d => ⟨Nat.le_refl _, by simp⟩
  | a :: l, d => by
    obtain ⟨h1, h2⟩ := min_le l (min d a)
    rw [List.foldl_cons]
    refine ⟨by omega, fun x hx => ?_⟩
    rcases List.mem_cons.mp hx with e | hx
    · subst e
      omega
    · exact h2 x hx
theorem min_mem : ∀ (l : List Nat) (d : Nat), l.foldl min d = d ∨ l.foldl min d ∈ l
  | [], d => .inl rfl
  | a :: l, d => by
    rw [List.foldl_cons]
    rcases min_mem l (min d a) with h | h
    · by_cases c : d ≤ a
      · exact .inl (by rw [h]; omega)
      · refine .inr ?_
        rw [h, show min d a = a by omega]
        exact List.mem_cons_self
    · exact .inr (List.mem_cons_of_mem _ h)
/-! ### rem is the fewest -/
theorem rem_le {v : Wants} : ∀ (q : List Nat) (m i : Nat), m < 2 ^ v.threads.length → i < v.threads.length → Suf v m q → rem v m i ≤ chg v i q
  | [], m, i, hm, hi, h => by
    have h : m = 2 ^ v.threads.length - 1 := h
    rw [rem_eq v hm hi, nexts_full ((full_iff hm).mp h), if_pos (show ([] : List Nat).isEmpty = true from rfl), if_pos h]
    exact Nat.zero_le _
  | j :: q, m, i, hm, hi, ⟨h1, h2⟩ => by
    have ne : (nexts v m).isEmpty = false := by
      cases e : nexts v m with
      | nil => rw [e] at h1; simp at h1
      | cons => rfl
    have ih := rem_le q (m + 2 ^ j) j (next_lt hm h1) (mem_nexts.mp h1).1 h2
    rw [rem_eq v hm hi, ne, if_neg Bool.false_ne_true]
    have := (min_le ((nexts v m).map fun (j : Nat) => differ v i j + rem v (m + 2 ^ j) j) FAR_).2 (differ v i j + rem v (m + 2 ^ j) j) (List.mem_map.mpr ⟨j, h1, rfl⟩)
    show _ ≤ differ v i j + chg v j q
    omega
theorem rem_small {v : Wants} (hn : v.threads.length ≤ 12) {m i : Nat} (hm : m < 2 ^ v.threads.length) (hi : i < v.threads.length) : rem v m i ≤ 12 := by
  obtain ⟨q, hq⟩ := suf_some (2 ^ v.threads.length) m (by omega) hm
  have h1 := rem_le q m i hm hi hq
  have h2 := chg_le v q i
  have h3 := suf_len hq
  omega
/-- the costs of the next numbers, of which the least is the fewest -/
theorem rem_next {v : Wants} (hn : v.threads.length ≤ 12) {m i : Nat} (hm : m < 2 ^ v.threads.length) (hi : i < v.threads.length) (hf : m ≠ 2 ^ v.threads.length - 1) :
    (∀ j ∈ nexts v m, rem v m i ≤ differ v i j + rem v (m + 2 ^ j) j) ∧ ∃ j ∈ nexts v m, rem v m i = differ v i j + rem v (m + 2 ^ j) j := by
  have ne := nexts_ne hm hf
  have e := rem_eq v hm hi
  rw [if_neg (by rw [List.isEmpty_iff]; exact ne)] at e
  refine ⟨fun j hj => ?_, ?_⟩
  · rw [e]
    exact (min_le _ FAR_).2 _ (List.mem_map.mpr ⟨j, hj, rfl⟩)
  · rcases min_mem ((nexts v m).map fun (j : Nat) => differ v i j + rem v (m + 2 ^ j) j) FAR_ with h | h
    · have := rem_small hn hm hi
      rw [e, h] at this
      exact absurd this (by decide)
    · rw [← e] at h
      obtain ⟨j, hj, h2⟩ := List.mem_map.mp h
      exact ⟨j, hj, h2.symm⟩
theorem rem_full {v : Wants} {m i : Nat} (hm : m < 2 ^ v.threads.length) (hi : i < v.threads.length) (hf : m = 2 ^ v.threads.length - 1) : rem v m i = 0 := by
  rw [rem_eq v hm hi, nexts_full ((full_iff hm).mp hf), if_pos (show ([] : List Nat).isEmpty = true from rfl), if_pos hf]
end TO

namespace TO
open Eb
/-! ### all rows from m have one length -/
theorem suf_all {v : Wants} : ∀ {q : List Nat} {m : Nat}, Suf v m q → ∀ j, j < v.threads.length → m.testBit j = false → j ∈ q
  | [], m, h, j, hj, hb => by
    have h : m = 2 ^ v.threads.length - 1 := h
    rw [h, Nat.testBit_two_pow_sub_one, decide_eq_true hj] at hb
    cases hb
  | k :: q, m, ⟨h1, h2⟩, j, hj, hb => by
    obtain ⟨a1, a2, _⟩ := mem_nexts.mp h1
    by_cases e : j = k
    · rw [e]
      exact List.mem_cons_self
    · refine List.mem_cons_of_mem _ (suf_all h2 j hj ?_)
      rw [bit_set a2, hb]
      simp [e]
theorem suf_lens {v : Wants} {q r : List Nat} {m : Nat} (hq : Suf v m q) (hr : Suf v m r) : q.length = r.length :=
  Nat.le_antisymm ((suf_nodup hq).length_le_of_subset fun j hj => suf_all hr j (suf_mem hq j hj).1 (suf_mem hq j hj).2)
    ((suf_nodup hr).length_le_of_subset fun j hj => suf_all hq j (suf_mem hr j hj).1 (suf_mem hr j hj).2)
theorem rem_att {v : Wants} (hn : v.threads.length ≤ 12) : ∀ (k m i : Nat), 2 ^ v.threads.length ≤ m + k → m < 2 ^ v.threads.length → i < v.threads.length → ∃ q, Suf v m q ∧ chg v i q = rem v m i
  | 0, m, i, h, hm, _ => by omega
  | k + 1, m, i, h, hm, hi => by
    by_cases e : m = 2 ^ v.threads.length - 1
    · exact ⟨[], e, (rem_full hm hi e).symm⟩
    · obtain ⟨j, hj, e2⟩ := (rem_next hn hm hi e).2
      have p := Nat.two_pow_pos j
      obtain ⟨q, hq, e3⟩ := rem_att hn k (m + 2 ^ j) j (by omega) (next_lt hm hj) (mem_nexts.mp hj).1
      exact ⟨j :: q, ⟨hj, hq⟩, by rw [e2, ← e3]; rfl⟩
/-! ### the first of the least -/
def pick (cost : Nat → Nat) (j : Nat) (l : List Nat) : Nat := l.foldl (fun (b i : Nat) => if cost i < cost b then i else b) j
theorem pick_spec (cost : Nat → Nat) : ∀ (l : List Nat) (j : Nat), (j :: l).Pairwise (· < ·) →
    pick cost j l ∈ j :: l ∧ (∀ y ∈ j :: l, cost (pick cost j l) ≤ cost y) ∧ ∀ y ∈ j :: l, y < pick cost j l → cost (pick cost j l) < cost y
  | [], j, _ => ⟨List.mem_cons_self, fun y hy => by rw [List.mem_singleton.mp hy]; exact Nat.le_refl _, fun y hy h => by
      have e := List.mem_singleton.mp hy
      subst e
      exact absurd h (Nat.lt_irrefl _)⟩
  | a :: l, j, hp => by
    have hja : j < a := (List.pairwise_cons.mp hp).1 a List.mem_cons_self
    have hjl : ∀ y ∈ l, j < y := fun y hy => (List.pairwise_cons.mp hp).1 y (List.mem_cons_of_mem _ hy)
    have hal := (List.pairwise_cons.mp hp).2
    have hjl2 : (j :: l).Pairwise (· < ·) := List.pairwise_cons.mpr ⟨hjl, (List.pairwise_cons.mp hal).2⟩
    have e : pick cost j (a :: l) = pick cost (if cost a < cost j then a else j) l := rfl
    rw [e]
    by_cases c : cost a < cost j
    · rw [if_pos c]
      obtain ⟨h1, h2, h3⟩ := pick_spec cost l a hal
      refine ⟨List.mem_cons_of_mem _ h1, fun y hy => ?_, fun y hy hlt => ?_⟩
      · rcases List.mem_cons.mp hy with e | hy
        · subst e
          have := h2 a List.mem_cons_self
          omega
        · exact h2 y hy
      · rcases List.mem_cons.mp hy with e | hy
        · subst e
          have := h2 a List.mem_cons_self
          omega
        · exact h3 y hy hlt
    · rw [if_neg c]
      obtain ⟨h1, h2, h3⟩ := pick_spec cost l j hjl2
      have hm : ∀ y, y ∈ j :: a :: l → y = a ∨ y ∈ j :: l := fun y hy => by
        rcases List.mem_cons.mp hy with e | hy
        · exact .inr (by rw [e]; exact List.mem_cons_self)
        · rcases List.mem_cons.mp hy with e | hy
          · exact .inl e
          · exact .inr (List.mem_cons_of_mem _ hy)
      refine ⟨?_, fun y hy => ?_, fun y hy hlt => ?_⟩
      · rcases List.mem_cons.mp h1 with e | h1
        · rw [e]
          exact List.mem_cons_self
        · exact List.mem_cons_of_mem _ (List.mem_cons_of_mem _ h1)
      · rcases hm y hy with e | hy
        · subst e
          have := h2 j List.mem_cons_self
          omega
        · exact h2 y hy
      · rcases hm y hy with e | hy
        · subst e
          -- j is below it, so it isn't j, nor of less cost than j
          have hj : j < pick cost j l := by omega
          have := h3 j List.mem_cons_self hj
          omega
        · exact h3 y hy hlt
theorem nexts_sorted (v : Wants) (m : Nat) : (nexts v m).Pairwise (· < ·) := List.Pairwise.filter _ List.pairwise_lt_range
/-! ### the greedy walk -/
/-- by the first number that differs, the lesser first -/
def Lx : List Nat → List Nat → Prop
  | [], _ => True
  | _ :: _, [] => False
  | a :: p, b :: q => a < b ∨ (a = b ∧ Lx p q)
theorem Lx.antisymm : ∀ {p q : List Nat}, p.length = q.length → Lx p q → Lx q p → p = q
  | [], [], _, _, _ => rfl
  | [], _ :: _, h, _, _ => by simp at h
  | _ :: _, [], h, _, _ => by simp at h
  | a :: p, b :: q, h, h1, h2 => by
    rcases h1 with c | ⟨c, h1⟩
    · rcases h2 with d | ⟨d, _⟩ <;> omega
    · rcases h2 with d | ⟨_, h2⟩
      · omega
      · subst c
        rw [Lx.antisymm (by simpa using h) h1 h2]
def dif (v : Wants) : Option Nat → Nat → Nat
  | some i, j => differ v i j
  | none, _ => 0
/-- the changes of a row behind what came last -/
def cst (v : Wants) : Option Nat → List Nat → Nat
  | _, [] => 0
  | o, j :: r => dif v o j + chg v j r
def cost (v : Wants) (m : Nat) (o : Option Nat) (j : Nat) : Nat := dif v o j + rem v (m + 2 ^ j) j
/-- the told one of the rows from m behind what came last -/
structure Told (v : Wants) (m : Nat) (o : Option Nat) (p : List Nat) : Prop where
  suf : Suf v m p
  few : ∀ q, Suf v m q → cst v o p ≤ cst v o q
  first : ∀ q, Suf v m q → cst v o q = cst v o p → Lx p q
theorem goOn_succ (v : Wants) (k m : Nat) (o : Option Nat) : goOn v (still v) (k + 1) m o = match nexts v m with
    | [] => []
    | j :: l => pick (cost v m o) j l :: goOn v (still v) k (m + 2 ^ pick (cost v m o) j l) (some (pick (cost v m o) j l)) := by
  have e : ∀ o, (fun (j : Nat) => (match o with
      | some i => differ v i j
      | none => 0) + (still v).getD ((m + 2 ^ j) * v.threads.length + j) FAR_) = cost v m o := by
    intro o
    funext j
    cases o <;> rfl
  show (match nexts v m with
    | [] => []
    | j :: l => _) = _
  cases hn : nexts v m with
  | nil => rfl
  | cons j l =>
    show (fun c : Nat → Nat => (pick c j l :: goOn v (still v) k (m + 2 ^ pick c j l) (some (pick c j l)) : List Nat)) (fun (j : Nat) => (match o with
      | some i => differ v i j
      | none => 0) + (still v).getD ((m + 2 ^ j) * v.threads.length + j) FAR_) = _
    rw [e o]
theorem told_chg {v : Wants} (hn : v.threads.length ≤ 12) {m i : Nat} {p : List Nat} (hm : m < 2 ^ v.threads.length) (hi : i < v.threads.length) (h : Told v m (some i) p) : chg v i p = rem v m i := by
  have e : ∀ q, cst v (some i) q = chg v i q := fun q => by cases q <;> rfl
  obtain ⟨q, hq, e2⟩ := rem_att hn (2 ^ v.threads.length) m i (by omega) hm hi
  have h1 := h.few q hq
  rw [e, e] at h1
  have h2 := rem_le p m i hm hi h.suf
  omega
/-- a number of least cost, the first of these, and behind it what is told -/
theorem told_cons {v : Wants} (hn : v.threads.length ≤ 12) {m x : Nat} {o : Option Nat} {p : List Nat} (hm : m < 2 ^ v.threads.length) (hx : x ∈ nexts v m)
    (hmin : ∀ y ∈ nexts v m, cost v m o x ≤ cost v m o y) (hfst : ∀ y ∈ nexts v m, y < x → cost v m o x < cost v m o y) (hp : Told v (m + 2 ^ x) (some x) p) : Told v m o (x :: p) := by
  have e : ∀ i q, cst v (some i) q = chg v i q := fun i q => by cases q <;> rfl
  have hc : cst v o (x :: p) = cost v m o x := by
    show dif v o x + chg v x p = _
    rw [told_chg hn (next_lt hm hx) (mem_nexts.mp hx).1 hp]
    rfl
  have nf : m ≠ 2 ^ v.threads.length - 1 := fun z => by
    rw [nexts_full ((full_iff hm).mp z)] at hx
    simp at hx
  refine ⟨⟨hx, hp.suf⟩, fun q hq => ?_, fun q hq he => ?_⟩
  · cases q with
    | nil => exact absurd hq nf
    | cons y r =>
      have h1 := rem_le r (m + 2 ^ y) y (next_lt hm hq.1) (mem_nexts.mp hq.1).1 hq.2
      have h2 := hmin y hq.1
      rw [hc]
      show _ ≤ dif v o y + chg v y r
      have h3 : cost v m o y = dif v o y + rem v (m + 2 ^ y) y := rfl
      omega
  · cases q with
    | nil => exact absurd hq nf
    | cons y r =>
      have h1 := rem_le r (m + 2 ^ y) y (next_lt hm hq.1) (mem_nexts.mp hq.1).1 hq.2
      have h2 := hmin y hq.1
      rw [hc] at he
      have he2 : dif v o y + chg v y r = cost v m o x := he
      have h3 : cost v m o y = dif v o y + rem v (m + 2 ^ y) y := rfl
      rcases Nat.lt_trichotomy x y with c | c | c
      · exact .inl c
      · subst c
        refine .inr ⟨rfl, hp.first r hq.2 ?_⟩
        rw [e, e, told_chg hn (next_lt hm hx) (mem_nexts.mp hx).1 hp]
        omega
      · have := hfst y hq.1 c
        omega
theorem goOn_told {v : Wants} (hn : v.threads.length ≤ 12) : ∀ (k m : Nat) (o : Option Nat), m < 2 ^ v.threads.length → (∃ q, Suf v m q ∧ q.length = k) → Told v m o (goOn v (still v) k m o)
  | 0, m, o, hm, ⟨q, hq, hl⟩ => by
    have e : q = [] := List.length_eq_zero_iff.mp hl
    subst e
    refine ⟨hq, fun r _ => ?_, fun r _ _ => ?_⟩
    · show cst v o [] ≤ _
      cases o <;> exact Nat.zero_le _
    · exact True.intro
  | k + 1, m, o, hm, ⟨q, hq, hl⟩ => by
    rw [goOn_succ]
    cases q with
    | nil => simp at hl
    | cons a r =>
      have hs := nexts_sorted v m
      cases he : nexts v m with
      | nil =>
        have := hq.1
        rw [he] at this
        simp at this
      | cons j l =>
        rw [he] at hs
        obtain ⟨h1, h2, h3⟩ := pick_spec (cost v m o) l j hs
        rw [← he] at h1 h2 h3
        show Told v m o (pick (cost v m o) j l :: _)
        generalize pick (cost v m o) j l = x at h1 h2 h3
        have hx := next_lt hm h1
        obtain ⟨r2, hr2⟩ := suf_some (2 ^ v.threads.length) (m + 2 ^ x) (Nat.le_add_left _ _) hx
        have hl2 := suf_lens (r := x :: r2) hq ⟨h1, hr2⟩
        rw [hl] at hl2
        exact told_cons hn hm h1 h2 h3 (goOn_told hn k (m + 2 ^ x) (some x) hx ⟨r2, hr2, by simpa using hl2.symm⟩)
theorem suf_zero_len {v : Wants} {q : List Nat} (h : Suf v 0 q) : q.length = v.threads.length := by
  refine Nat.le_antisymm (suf_len h) ?_
  have := (List.nodup_range (n := v.threads.length)).length_le_of_subset (l₂ := q) fun j hj => suf_all h j (List.mem_range.mp hj) (Nat.zero_testBit j)
  rwa [List.length_range] at this
theorem least_told {v : Wants} (hn : v.threads.length ≤ 12) : Told v 0 none (leastOrder v) := by
  have h0 : 0 < 2 ^ v.threads.length := Nat.two_pow_pos _
  obtain ⟨q, hq⟩ := suf_some (v := v) (2 ^ v.threads.length) 0 (by omega) h0
  exact goOn_told hn _ 0 none h0 ⟨q, hq, suf_zero_len hq⟩
theorem Told.unique {v : Wants} {m : Nat} {o : Option Nat} {p q : List Nat} (hp : Told v m o p) (hq : Told v m o q) : p = q := by
  have h1 := hp.few q hq.suf
  have h2 := hq.few p hp.suf
  exact Lx.antisymm (suf_lens hp.suf hq.suf) (hp.first q hq.suf (by omega)) (hq.first p hp.suf (by omega))
/-! ### changes, and what an order is -/
theorem changes_cons (v : Wants) : ∀ (q : List Nat) (i : Nat), changes v (i :: q) = chg v i q
  | [], i => rfl
  | j :: q, i => by
    have ih := changes_cons v q j
    have e : changes v (i :: j :: q) = (if (v.threads.getD i 0 != v.threads.getD j 0) = true then 1 else 0) + changes v (j :: q) := by
      show (List.filter (fun (x : Nat × Nat) => v.threads.getD x.1 0 != v.threads.getD x.2 0) ((i, j) :: ((j :: q).zip ((j :: q).drop 1)))).length = _
      rw [List.filter_cons]
      split
      · rw [List.length_cons, Nat.add_comm]
        rfl
      · rw [Nat.zero_add]
        rfl
    rw [e, ih]
    show _ = differ v i j + chg v j q
    congr 1
    unfold differ
    by_cases c : v.threads.getD i 0 = v.threads.getD j 0
    · rw [if_pos c, if_neg (by rw [c]; simp)]
    · rw [if_neg c, if_pos (bne_iff_ne.mpr c)]
theorem changes_cst (v : Wants) (q : List Nat) : changes v q = cst v none q := by
  cases q with
  | nil => rfl
  | cons i q =>
    rw [changes_cons]
    show _ = 0 + chg v i q
    omega
/-- each number behind those that must come before it, P being ahead -/
def Prec (v : Wants) : List Nat → List Nat → Prop
  | _, [] => True
  | P, j :: r => (∀ i, i < v.threads.length → v.before i j = true → i ∈ P) ∧ Prec v (P ++ [j]) r
/-- only lower numbers must come before one -/
def Low (v : Wants) : Prop := ∀ i j, v.before i j = true → i < j
theorem suf_iff {v : Wants} (hl : Low v) : ∀ (q P : List Nat) (m : Nat), m < 2 ^ v.threads.length → (∀ i, m.testBit i = true ↔ i ∈ P) →
    (Suf v m q ↔ q.Nodup ∧ (∀ j ∈ q, j < v.threads.length ∧ j ∉ P) ∧ (∀ j, j < v.threads.length → j ∈ P ∨ j ∈ q) ∧ Prec v P q)
  | [], P, m, hm, hP => by
    show m = 2 ^ v.threads.length - 1 ↔ _
    rw [full_iff hm]
    constructor
    · intro h
      exact ⟨List.nodup_nil, by simp, fun j hj => .inl ((hP j).mp (h j hj)), True.intro⟩
    · rintro ⟨_, _, h, _⟩ j hj
      rcases h j hj with c | c
      · exact (hP j).mpr c
      · simp at c
  | j :: q, P, m, hm, hP => by
    have key : ∀ h : j < v.threads.length ∧ j ∉ P, m.testBit j = false := fun h => by
      cases e : m.testBit j with
      | false => rfl
      | true => exact absurd ((hP j).mp e) h.2
    have hP2 : m.testBit j = false → ∀ i, (m + 2 ^ j).testBit i = true ↔ i ∈ P ++ [j] := fun hb i => by
      rw [bit_set hb, Bool.or_eq_true, decide_eq_true_eq, List.mem_append, List.mem_singleton, hP i]
    show (j ∈ nexts v m ∧ Suf v (m + 2 ^ j) q) ↔ _
    constructor
    · rintro ⟨h1, h2⟩
      obtain ⟨a1, a2, a3⟩ := mem_nexts.mp h1
      obtain ⟨b1, b2, b3, b4⟩ := (suf_iff hl q (P ++ [j]) (m + 2 ^ j) (set_lt hm a1 a2) (hP2 a2)).mp h2
      have hjP : j ∉ P := fun z => by
        rw [(hP j).mpr z] at a2
        cases a2
      refine ⟨List.nodup_cons.mpr ⟨fun z => (b2 j z).2 (by simp), b1⟩, fun k hk => ?_, fun k hk => ?_, fun i hi hb => ?_, b4⟩
      · rcases List.mem_cons.mp hk with e | hk
        · subst e
          exact ⟨a1, hjP⟩
        · exact ⟨(b2 k hk).1, fun z => (b2 k hk).2 (List.mem_append.mpr (.inl z))⟩
      · rcases b3 k hk with c | c
        · rcases List.mem_append.mp c with c | c
          · exact .inl c
          · exact .inr (by rw [List.mem_singleton.mp c]; exact List.mem_cons_self)
        · exact .inr (List.mem_cons_of_mem _ c)
      · exact (hP i).mp (a3 i (hl i j hb) hb)
    · rintro ⟨h1, h2, h3, h4, h5⟩
      obtain ⟨n1, n2⟩ := List.nodup_cons.mp h1
      have hj := h2 j List.mem_cons_self
      have hb := key hj
      refine ⟨mem_nexts.mpr ⟨hj.1, hb, fun i hi hb => (hP i).mpr (h4 i (by omega) hb)⟩, (suf_iff hl q (P ++ [j]) (m + 2 ^ j) (set_lt hm hj.1 hb) (hP2 hb)).mpr ⟨n2, fun k hk => ?_, fun k hk => ?_, h5⟩⟩
      · refine ⟨(h2 k (List.mem_cons_of_mem _ hk)).1, fun z => ?_⟩
        rcases List.mem_append.mp z with z | z
        · exact (h2 k (List.mem_cons_of_mem _ hk)).2 z
        · rw [List.mem_singleton.mp z] at hk
          exact n1 hk
      · rcases h3 k hk with c | c
        · exact .inl (List.mem_append.mpr (.inl c))
        · rcases List.mem_cons.mp c with c | c
          · exact .inl (by rw [c]; simp)
          · exact .inr c
theorem perm_of_len : ∀ (p L : List Nat), L.Nodup → L ⊆ p → p.length ≤ L.length → p.Nodup ∧ p ⊆ L
  | [], L, _, _, _ => ⟨List.nodup_nil, fun x hx => by simp at hx⟩
  | a :: r, L, hd, hs, hl => by
    have ha : a ∉ r := fun z => by
      have : L ⊆ r := fun x hx => by
        rcases List.mem_cons.mp (hs hx) with e | h
        · rw [e]; exact z
        · exact h
      have := hd.length_le_of_subset this
      simp at hl
      omega
    have hL : a ∈ L := Classical.byContradiction fun z => by
      have : L ⊆ r := fun x hx => by
        rcases List.mem_cons.mp (hs hx) with e | h
        · subst e
          exact absurd hx z
        · exact h
      have := hd.length_le_of_subset this
      simp at hl
      omega
    obtain ⟨h1, h2⟩ := perm_of_len r (L.erase a) (hd.erase a) (fun x hx => by
      rcases List.mem_cons.mp (hs (List.mem_of_mem_erase hx)) with e | h
      · subst e
        exact absurd hx hd.not_mem_erase
      · exact h) (by
        rw [List.length_erase_of_mem hL]
        simp at hl
        omega)
    refine ⟨List.nodup_cons.mpr ⟨ha, h1⟩, fun x hx => ?_⟩
    rcases List.mem_cons.mp hx with e | h
    · rw [e]; exact hL
    · exact List.mem_of_mem_erase (h2 h)
theorem prec_iff {v : Wants} : ∀ (q P : List Nat), Prec v P q ↔ ∀ b, b < q.length → ∀ i, i < v.threads.length → v.before i (q.getD b 0) = true → i ∈ P ++ q.take b
  | [], P => by
    show True ↔ _
    simp
  | j :: q, P => by
    show (_ ∧ Prec v (P ++ [j]) q) ↔ _
    rw [prec_iff q (P ++ [j])]
    constructor
    · rintro ⟨h1, h2⟩ b hb i hi h
      match b, hb, h with
      | 0, _, h => simpa using h1 i hi h
      | b + 1, hb, h =>
        have := h2 b (by simpa using hb) i hi h
        simpa [List.append_assoc] using this
    · intro h
      refine ⟨fun i hi hb => by simpa using h 0 (by simp) i hi hb, fun b hb i hi hh => ?_⟩
      have := h (b + 1) (by simpa using hb) i hi hh
      simpa [List.append_assoc] using this
theorem order_prec {v : Wants} {p : List Nat} : isOrder v p = true ↔ p.length = v.threads.length ∧ (∀ j, j < v.threads.length → j ∈ p) ∧ Prec v [] p := by
  unfold isOrder
  rw [Bool.and_eq_true, Bool.and_eq_true, List.all_eq_true, List.all_eq_true, beq_iff_eq, prec_iff]
  refine and_congr_right fun hl => and_congr ?_ ?_
  · constructor
    · intro h j hj
      exact List.contains_iff_mem.mp (h j (List.mem_range.mpr hj))
    · intro h j hj
      exact List.contains_iff_mem.mpr (h j (List.mem_range.mp hj))
  · constructor
    · intro h b hb i hi hh
      have h1 := h b (List.mem_range.mpr hb)
      rw [List.all_eq_true] at h1
      have h2 := h1 i (List.mem_range.mpr hi)
      rw [hh] at h2
      exact List.contains_iff_mem.mp (by simpa using h2)
    · intro h b hb
      rw [List.all_eq_true]
      intro i hi
      cases e : v.before i (p.getD b 0) with
      | false => rfl
      | true =>
        have := h b (List.mem_range.mp hb) i (List.mem_range.mp hi) e
        simpa using this
theorem order_iff {v : Wants} (hl : Low v) {p : List Nat} : isOrder v p = true ↔ Suf v 0 p := by
  rw [order_prec, suf_iff hl p [] 0 (Nat.two_pow_pos _) (by simp)]
  constructor
  · rintro ⟨h1, h2, h3⟩
    obtain ⟨h4, h5⟩ := perm_of_len p (List.range v.threads.length) List.nodup_range (fun j hj => h2 j (List.mem_range.mp hj)) (by rw [List.length_range, h1]; exact Nat.le_refl _)
    exact ⟨h4, fun j hj => ⟨List.mem_range.mp (h5 hj), by simp⟩, fun j hj => .inr (h2 j hj), h3⟩
  · rintro ⟨h1, h2, h3, h4⟩
    have h3' : ∀ j, j < v.threads.length → j ∈ p := fun j hj => by
      rcases h3 j hj with c | c
      · simp at c
      · exact c
    refine ⟨Nat.le_antisymm ?_ ?_, h3', h4⟩
    · have := h1.length_le_of_subset (l₂ := List.range v.threads.length) fun j hj => List.mem_range.mpr (h2 j hj).1
      rwa [List.length_range] at this
    · have := (List.nodup_range (n := v.threads.length)).length_le_of_subset (l₂ := p) fun j hj => h3' j (List.mem_range.mp hj)
      rwa [List.length_range] at this
theorem ok_low {v : Wants} (h : v.ok = true) : Low v ∧ 1 ≤ v.threads.length ∧ v.threads.length ≤ 12 ∧ v.over.length = v.threads.length ∧ ∀ j x, v.over[j]? = some x → x < 2 ^ j := by
  unfold Wants.ok at h
  rw [Bool.and_eq_true, Bool.and_eq_true, Bool.and_eq_true, decide_eq_true_eq, decide_eq_true_eq, beq_iff_eq, List.all_eq_true] at h
  obtain ⟨h1, h2, h3, h4⟩ := h
  have h5 : ∀ j x, v.over[j]? = some x → x < 2 ^ j := fun j x hx => by
    have := h4 (x, j) (List.mk_mem_zipIdx_iff_getElem?.mpr hx)
    simpa using this
  refine ⟨fun i j hb => ?_, h1, h2, h3, h5⟩
  unfold Wants.before at hb
  refine Classical.byContradiction fun c => ?_
  cases e : v.over[j]? with
  | none =>
    rw [List.getD_eq_getElem?_getD, e] at hb
    simp at hb
  | some x =>
    rw [List.getD_eq_getElem?_getD, e] at hb
    have := h5 j x e
    have h6 : (x).testBit i = false := Nat.testBit_lt_two_pow (Nat.lt_of_lt_of_le this (Nat.pow_le_pow_right (by decide) (by omega)))
    rw [show (some x).getD 0 = x from rfl, h6] at hb
    cases hb
end TO

namespace TO
open Eb
/-! ### what is due of order and judge, by lists of whole numbers -/
def nn (l : List Int) : List Nat := l.map Int.toNat
theorem nats_some : ∀ {l : List Int}, (∀ x ∈ l, 0 ≤ x) → YqstfaNeutral.nats? l = some (nn l)
  | [], _ => rfl
  | x :: l, h => by
    have ih := nats_some (l := l) fun y hy => h y (List.mem_cons_of_mem _ hy)
    have e : YqstfaNeutral.nat? x = some x.toNat := if_pos (h x List.mem_cons_self)
    unfold YqstfaNeutral.nats? at *
    rw [List.mapM_cons, e, ih]
    rfl
/-- threads and numbers -/
def wants (xs ys : List Int) : Wants := ⟨nn xs, nn ys⟩
def ofNats (l : List Nat) : List Int := l.map fun (k : Nat) => Int.ofNat k
theorem order_due {xs ys : List Int} (hx : ∀ x ∈ xs, 0 ≤ x) (hy : ∀ y ∈ ys, 0 ≤ y) :
    PyYqstfa.order xs ys = if (wants xs ys).ok = true then ((changes (wants xs ys) (leastOrder (wants xs ys)) : Nat) : Int) :: ofNats (leastOrder (wants xs ys)) else [-1] := by
  have e : YqstfaNeutral.callOf [[3], xs, ys] = some (.order (wants xs ys)) := by
    show (YqstfaNeutral.nats? xs).bind (fun t => (YqstfaNeutral.nats? ys).map fun o => Yqstfa.Call.order ⟨t, o⟩) = _
    rw [nats_some hx, nats_some hy]
    rfl
  show (match YqstfaNeutral.callOf [[3], xs, ys] with
    | some x => YqstfaNeutral.told (Yqstfa.answer x)
    | none => []) = _
  rw [e]
  show YqstfaNeutral.told (if (wants xs ys).ok = true then .numbers (changes (wants xs ys) (leastOrder (wants xs ys))) (leastOrder (wants xs ys)) else .no (-1)) = _
  split <;> rfl
theorem judge_due {xs ys ps : List Int} (hx : ∀ x ∈ xs, 0 ≤ x) (hy : ∀ y ∈ ys, 0 ≤ y) (hp : ∀ p ∈ ps, 0 ≤ p) :
    PyYqstfa.judge xs ys ps = if (wants xs ys).ok = true then (if isOrder (wants xs ys) (nn ps) = true then [((changes (wants xs ys) (nn ps) : Nat) : Int)] else [-3]) else [-1] := by
  have e : YqstfaNeutral.callOf [[4], xs, ys, ps] = some (.judge (wants xs ys) (nn ps)) := by
    show (YqstfaNeutral.nats? xs).bind (fun t => (YqstfaNeutral.nats? ys).bind fun o => (YqstfaNeutral.nats? ps).map fun p => Yqstfa.Call.judge ⟨t, o⟩ p) = _
    rw [nats_some hx, nats_some hy, nats_some hp]
    rfl
  show (match YqstfaNeutral.callOf [[4], xs, ys, ps] with
    | some x => YqstfaNeutral.told (Yqstfa.answer x)
    | none => []) = _
  rw [e]
  show YqstfaNeutral.told (if (wants xs ys).ok = true then (if isOrder (wants xs ys) (nn ps) = true then .count (changes (wants xs ys) (nn ps)) else .no (-3)) else .no (-1)) = _
  split
  · split <;> rfl
  · rfl
/-- the refusal, by the numbers themselves -/
theorem ok_ints {xs ys : List Int} (hy : ∀ y ∈ ys, 0 ≤ y) : (wants xs ys).ok = true ↔ 1 ≤ xs.length ∧ xs.length ≤ 12 ∧ ys.length = xs.length ∧ ∀ (j : Nat) (y : Int), ys[j]? = some y → y < ((2 ^ j : Nat) : Int) := by
  have e1 : (nn xs).length = xs.length := List.length_map ..
  have e2 : (nn ys).length = ys.length := List.length_map ..
  unfold Wants.ok
  rw [Bool.and_eq_true, Bool.and_eq_true, Bool.and_eq_true, decide_eq_true_eq, decide_eq_true_eq, beq_iff_eq, List.all_eq_true]
  show 1 ≤ (nn xs).length ∧ (nn xs).length ≤ 12 ∧ (nn ys).length = (nn xs).length ∧ _ ↔ _
  rw [e1, e2]
  refine and_congr_right fun _ => and_congr_right fun _ => and_congr_right fun _ => ⟨fun h j y hj => ?_, fun h x hx => ?_⟩
  · have hm : (nn ys)[j]? = some y.toNat := by
      unfold nn
      rw [List.getElem?_map, hj]
      rfl
    have := h (y.toNat, j) (List.mk_mem_zipIdx_iff_getElem?.mpr hm)
    have h2 := of_decide_eq_true this
    have h3 := hy y (List.mem_of_getElem? hj)
    show y < _
    have h2 : y.toNat < 2 ^ j := h2
    omega
  · obtain ⟨x, j⟩ := x
    have hm := List.mk_mem_zipIdx_iff_getElem?.mp hx
    have hm : (nn ys)[j]? = some x := hm
    unfold nn at hm
    rw [List.getElem?_map] at hm
    cases e : ys[j]? with
    | none => rw [e] at hm; cases hm
    | some y =>
      rw [e] at hm
      have e3 : y.toNat = x := Option.some.inj hm
      have := h j y e
      have h3 := hy y (List.mem_of_getElem? e)
      refine decide_eq_true ?_
      show x < 2 ^ j
      omega
end TO

namespace TO
open Eb
/-! ### the program's ways of telling the same -/
def rdy (x m : Nat) : Bool := decide (x &&& m = x)
theorem rdy_iff {x m : Nat} : rdy x m = true ↔ ∀ i, x.testBit i = true → m.testBit i = true := by
  unfold rdy
  rw [decide_eq_true_eq]
  constructor
  · intro h i hi
    rw [← h, Nat.testBit_and, Bool.and_eq_true] at hi
    exact hi.2
  · intro h
    refine Nat.eq_of_testBit_eq fun i => ?_
    rw [Nat.testBit_and]
    cases e : x.testBit i with
    | false => rfl
    | true => rw [h i e]; rfl
theorem next_rdy {v : Wants} (hl : Low v) (m j : Nat) : mayNext v m j = (!m.testBit j && rdy (v.over.getD j 0) m) := by
  unfold mayNext
  congr 1
  rw [Bool.eq_iff_iff, rdy_iff, List.all_eq_true]
  constructor
  · intro h i hi
    have h1 := h i (List.mem_range.mpr (hl i j hi))
    rw [Bool.or_eq_true, Bool.not_eq_true'] at h1
    rcases h1 with h1 | h1
    · rw [show v.before i j = true from hi] at h1
      cases h1
    · exact h1
  · intro h i _
    rw [Bool.or_eq_true, Bool.not_eq_true']
    cases e : v.before i j with
    | false => exact .inl rfl
    | true => exact .inr (h i e)
theorem or_bit {m j : Nat} (h : m.testBit j = false) : m ||| 2 ^ j = m + 2 ^ j := by
  refine Nat.eq_of_testBit_eq fun i => ?_
  rw [bit_set h, Nat.testBit_or, Nat.testBit_two_pow]
  congr 1
  rw [Bool.eq_iff_iff, decide_eq_true_eq, decide_eq_true_eq]
  exact eq_comm
theorem bit_clear {m j : Nat} : decide (m / 2 ^ j % 2 = 0) = !m.testBit j := by
  rw [Nat.testBit_eq_decide_div_mod_eq]
  have : m / 2 ^ j % 2 < 2 := Nat.mod_lt _ (by decide)
  rw [Bool.eq_iff_iff, decide_eq_true_eq, Bool.not_eq_true', decide_eq_false_iff_not]
  omega
/-- changes by places -/
def chgK (v : Wants) (p : List Nat) (k : Nat) : Bool := v.threads.getD (p.getD k 0) 0 != v.threads.getD (p.getD (k + 1) 0) 0
theorem chg_count (v : Wants) : ∀ p : List Nat, ((List.range (p.length - 1)).filter (chgK v p)).length = changes v p
  | [] => rfl
  | [a] => rfl
  | a :: b :: r => by
    have ih := chg_count v (b :: r)
    have e : (a :: b :: r).length - 1 = ((b :: r).length - 1) + 1 := by simp
    rw [e, List.range_succ_eq_map, List.filter_cons]
    have e2 : ((List.range ((b :: r).length - 1)).map Nat.succ).filter (chgK v (a :: b :: r)) = ((List.range ((b :: r).length - 1)).filter (chgK v (b :: r))).map Nat.succ := by
      rw [List.filter_map]
      rfl
    rw [e2]
    have e3 : changes v (a :: b :: r) = (if chgK v (a :: b :: r) 0 = true then 1 else 0) + changes v (b :: r) := by
      show (List.filter (fun (x : Nat × Nat) => v.threads.getD x.1 0 != v.threads.getD x.2 0) ((a, b) :: ((b :: r).zip ((b :: r).drop 1)))).length = _
      rw [List.filter_cons]
      split
      · rename_i h
        rw [List.length_cons, if_pos (show chgK v (a :: b :: r) 0 = true from h), Nat.add_comm]
        rfl
      · rename_i h
        rw [if_neg (show ¬ chgK v (a :: b :: r) 0 = true from h), Nat.zero_add]
        rfl
    rw [e3, ← ih]
    split
    · rename_i h
      rw [List.length_cons, List.length_map, Nat.add_comm]
    · rename_i h
      rw [List.length_map, Nat.zero_add]
/-- the first place of one of some numbers -/
theorem first_at : ∀ {ns : List Int} {m : Int}, m ∈ ns → ∃ k : Nat, ns[k]? = some m ∧ ∀ (i : Nat) (z : Int), i < k → ns[i]? = some z → z ≠ m
  | [], m, h => by simp at h
  | a :: ns, m, h => by
    by_cases e : a = m
    · subst e
      exact ⟨0, rfl, fun i z hi => absurd hi (Nat.not_lt_zero _)⟩
    · rcases List.mem_cons.mp h with h | h
      · exact absurd h.symm e
      · obtain ⟨k, h1, h2⟩ := first_at h
        refine ⟨k + 1, h1, fun i z hi hz => ?_⟩
        match i, hi, hz with
        | 0, _, hz => exact (Option.some.inj hz) ▸ e
        | i + 1, hi, hz => exact h2 i z (by omega) hz
/-- the fewest, by threads -/
theorem rem_by {v : Wants} (hn : v.threads.length ≤ 12) {m i x mc : Nat} (hm : m < 2 ^ v.threads.length) (hi : i < v.threads.length) (hf : m ≠ 2 ^ v.threads.length - 1)
    (h1 : ∃ j ∈ nexts v m, mc = rem v (m + 2 ^ j) j) (h2 : ∀ j ∈ nexts v m, mc ≤ rem v (m + 2 ^ j) j)
    (h3 : x ≤ mc + 1) (h4 : ∀ j ∈ nexts v m, v.threads.getD j 0 = v.threads.getD i 0 → x ≤ rem v (m + 2 ^ j) j)
    (h5 : x = mc + 1 ∨ ∃ j ∈ nexts v m, v.threads.getD j 0 = v.threads.getD i 0 ∧ x = rem v (m + 2 ^ j) j) : x = rem v m i := by
  obtain ⟨r1, j, hj, r2⟩ := rem_next hn hm hi hf
  have dd : ∀ k, v.threads.getD k 0 = v.threads.getD i 0 → differ v i k = 0 := fun k hk => by
    unfold differ
    rw [if_pos hk.symm]
  have dn : ∀ k, ¬ v.threads.getD k 0 = v.threads.getD i 0 → differ v i k = 1 := fun k hk => by
    unfold differ
    rw [if_neg fun z => hk z.symm]
  refine Nat.le_antisymm ?_ ?_
  · rw [r2]
    by_cases c : v.threads.getD j 0 = v.threads.getD i 0
    · have := h4 j hj c
      rw [dd j c]
      omega
    · have := h2 j hj
      rw [dn j c]
      omega
  · rcases h5 with h5 | ⟨k, hk, c, h5⟩
    · obtain ⟨k, hk, e⟩ := h1
      have a := r1 k hk
      have b := differ_le v i k
      omega
    · have a := r1 k hk
      rw [dd k c] at a
      omega
/-- the walk's word: what is told on from m, told from the start -/
def Goes (v : Wants) (p : List Nat) (m : Nat) : Prop := ∀ r, Told v m p.getLast? r → Told v 0 none (p ++ r)
theorem Goes.start (v : Wants) : Goes v [] 0 := fun r h => h
theorem Goes.step {v : Wants} (hn : v.threads.length ≤ 12) {p : List Nat} {m x : Nat} (g : Goes v p m) (hm : m < 2 ^ v.threads.length) (hx : x ∈ nexts v m)
    (hmin : ∀ y ∈ nexts v m, cost v m p.getLast? x ≤ cost v m p.getLast? y) (hfst : ∀ y ∈ nexts v m, y < x → cost v m p.getLast? x < cost v m p.getLast? y) : Goes v (p ++ [x]) (m + 2 ^ x) := fun r h => by
  have e : (p ++ [x]).getLast? = some x := by simp
  rw [e] at h
  have := g (x :: r) (told_cons hn hm hx hmin hfst h)
  rwa [List.append_assoc]
theorem Goes.done {v : Wants} (hn : v.threads.length ≤ 12) {p : List Nat} {m : Nat} (g : Goes v p m) (hm : m = 2 ^ v.threads.length - 1) : p = leastOrder v := by
  have t : Told v 0 none (p ++ []) := g [] ⟨hm, fun q _ => by cases p.getLast? <;> exact Nat.zero_le _, fun q _ _ => True.intro⟩
  rw [List.append_nil] at t
  exact t.unique (least_told hn)
/-- the set of what has been taken -/
structure Taken (v : Wants) (p : List Nat) (m : Nat) : Prop where
  lt : m < 2 ^ v.threads.length
  bit : ∀ i, m.testBit i = true ↔ i ∈ p
  nd : p.Nodup
  all : ∀ j ∈ p, j < v.threads.length
theorem Taken.start (v : Wants) : Taken v [] 0 := ⟨Nat.two_pow_pos _, fun i => by simp, List.nodup_nil, fun j h => by simp at h⟩
theorem Taken.step {v : Wants} {p : List Nat} {m x : Nat} (t : Taken v p m) (hx : x < v.threads.length) (hb : m.testBit x = false) : Taken v (p ++ [x]) (m + 2 ^ x) := by
  have hxp : x ∉ p := fun z => by
    rw [(t.bit x).mpr z] at hb
    cases hb
  refine ⟨set_lt t.lt hx hb, fun i => ?_, ?_, fun j hj => ?_⟩
  · rw [bit_set hb, Bool.or_eq_true, decide_eq_true_eq, List.mem_append, List.mem_singleton, t.bit i]
  · rw [List.nodup_append]
    refine ⟨t.nd, by simp, fun a ha b hb => ?_⟩
    rw [List.mem_singleton.mp hb]
    exact fun z => hxp (z ▸ ha)
  · rcases List.mem_append.mp hj with h | h
    · exact t.all j h
    · rw [List.mem_singleton.mp h]
      exact hx
theorem Taken.full {v : Wants} {p : List Nat} {m : Nat} (t : Taken v p m) : m = 2 ^ v.threads.length - 1 ↔ p.length = v.threads.length := by
  rw [full_iff t.lt]
  constructor
  · intro h
    refine Nat.le_antisymm ?_ ?_
    · have := t.nd.length_le_of_subset (l₂ := List.range v.threads.length) fun j hj => List.mem_range.mpr (t.all j hj)
      rwa [List.length_range] at this
    · have := (List.nodup_range (n := v.threads.length)).length_le_of_subset (l₂ := p) fun j hj => (t.bit j).mp (h j (List.mem_range.mp hj))
      rwa [List.length_range] at this
  · intro h j hj
    refine (t.bit j).mpr ?_
    exact (perm_of_len (List.range v.threads.length) p t.nd (fun x hx => List.mem_range.mpr (t.all x hx)) (by rw [List.length_range, h]; exact Nat.le_refl _)).2 (List.mem_range.mpr hj)
end TO

namespace TO
open Eb
/-! ### the refusal -/
def cntR (n : Int) : Bool := decide (n < 1) || decide (12 < n)
def bigR (ys : List Int) (j : Nat) : Bool := decide (1 * 2 ^ ((j : Nat) : Int).toNat ≤ ys.getD j 0)
def tskR (xs ys : List Int) : Bool := (cntR (xs.length : Nat) || !decide (ys.length = xs.length)) || (List.range ys.length).any (bigR ys)
theorem ok_tsk {xs ys : List Int} (hy : ∀ y ∈ ys, 0 ≤ y) : tskR xs ys = !(wants xs ys).ok := by
  rw [Bool.eq_iff_iff, Bool.not_eq_true']
  have k := ok_ints (xs := xs) hy
  have e : tskR xs ys = true ↔ ¬ (1 ≤ xs.length ∧ xs.length ≤ 12 ∧ ys.length = xs.length ∧ ∀ (j : Nat) (y : Int), ys[j]? = some y → y < ((2 ^ j : Nat) : Int)) := by
    unfold tskR cntR
    rw [Bool.or_eq_true, Bool.or_eq_true, Bool.or_eq_true, decide_eq_true_eq, decide_eq_true_eq, Bool.not_eq_true', decide_eq_false_iff_not, List.any_eq_true]
    constructor
    · rintro ((h | h) | ⟨j, hj, h⟩) ⟨h1, h2, h3, h4⟩
      · omega
      · exact h h3
      · have hj := List.mem_range.mp hj
        have h5 := h4 j ys[j] (List.getElem?_eq_getElem hj)
        have h6 : 1 * 2 ^ ((j : Nat) : Int).toNat ≤ ys.getD j 0 := of_decide_eq_true h
        rw [List.getD_eq_getElem?_getD, List.getElem?_eq_getElem hj, Int.toNat_natCast] at h6
        have h7 : (((2 ^ j : Nat)) : Int) = 2 ^ j := by simp
        rw [h7] at h5
        have h6 : 1 * 2 ^ j ≤ ys[j] := h6
        omega
    · intro h
      refine Classical.byContradiction fun c => h ?_
      refine ⟨Classical.byContradiction fun z => c (.inl (.inl (.inl (by omega)))), Classical.byContradiction fun z => c (.inl (.inl (.inr (by omega)))), Classical.byContradiction fun z => c (.inl (.inr z)), fun j y hj => Classical.byContradiction fun z => c (.inr ⟨j, List.mem_range.mpr (List.getElem?_eq_some_iff.mp hj).1, decide_eq_true ?_⟩)⟩
      rw [List.getD_eq_getElem?_getD, hj, Int.toNat_natCast]
      have h7 : (((2 ^ j : Nat)) : Int) = 2 ^ j := by simp
      rw [h7] at z
      show 1 * 2 ^ j ≤ y
      omega
  rw [e, ← k]
  cases (wants xs ys).ok <;> simp
/-! ### numbers as whole numbers -/
def natsI (l : List Nat) : List Int := l.map fun (i : Nat) => (i : Int)
theorem natsI_nn {l : List Int} (h : ∀ x ∈ l, 0 ≤ x) : natsI (nn l) = l := by
  unfold natsI nn
  rw [List.map_map]
  refine (List.map_congr_left fun x hx => ?_).trans (List.map_id l)
  have := h x hx
  show ((x.toNat : Nat) : Int) = x
  omega
theorem natsI_inj : ∀ {l m : List Nat}, natsI l = natsI m → l = m
  | [], [], _ => rfl
  | [], _ :: _, h => by cases h
  | _ :: _, [], h => by cases h
  | a :: l, b :: m, h => by
    have h1 : (a : Int) = (b : Int) := List.head_eq_of_cons_eq h
    have h2 := natsI_inj (List.tail_eq_of_cons_eq h)
    have : a = b := by omega
    rw [this, h2]
theorem nn_natsI (l : List Nat) : nn (natsI l) = l := by
  unfold natsI nn
  rw [List.map_map]
  refine (List.map_congr_left fun x hx => ?_).trans (List.map_id l)
  show ((x : Nat) : Int).toNat = x
  omega
theorem natsI_len (l : List Nat) : (natsI l).length = l.length := List.length_map ..
theorem natsI_at {l : List Nat} {i k : Nat} (h : l[i]? = some k) : (natsI l)[i]? = some (k : Int) := by
  unfold natsI
  rw [List.getElem?_map, h]
  rfl
theorem at_natsI {l : List Nat} {i : Nat} {z : Int} (h : (natsI l)[i]? = some z) : ∃ k : Nat, l[i]? = some k ∧ z = (k : Int) := by
  unfold natsI at h
  rw [List.getElem?_map] at h
  cases e : l[i]? with
  | none => rw [e] at h; cases h
  | some k => rw [e] at h; exact ⟨k, rfl, (Option.some.inj h).symm⟩
theorem nn_at {l : List Int} (hl : ∀ x ∈ l, 0 ≤ x) {i : Nat} (h : i < l.length) : ∃ k : Nat, l[i]? = some (k : Int) ∧ (nn l)[i]? = some k := by
  have e : l[i]? = some l[i] := List.getElem?_eq_getElem h
  have p := hl _ (List.getElem_mem h)
  refine ⟨l[i].toNat, ?_, ?_⟩
  · rw [e]
    congr 1
    omega
  · unfold nn
    rw [List.getElem?_map, e]
    rfl
theorem nn_len (l : List Int) : (nn l).length = l.length := List.length_map ..
theorem get_d {l : List Nat} {i k : Nat} (h : l[i]? = some k) : l.getD i 0 = k := by
  rw [List.getD_eq_getElem?_getD, h]
  rfl
/-! ### an order, by sorting and walking -/
theorem rising_range (n : Nat) : (natsI (List.range n)).Pairwise (· ≤ ·) := by
  unfold natsI
  refine List.Pairwise.map _ (fun a b h => ?_) (List.pairwise_lt_range (n := n))
  omega
theorem sorted_is {ns' ps : List Int} {n : Nat} (hp : ns'.Perm ps) (hs : ns'.Pairwise (· ≤ ·)) (h : ps.Perm (natsI (List.range n))) : ns' = natsI (List.range n) :=
  List.Perm.eq_of_pairwise (le := fun (a b : Int) => a ≤ b) (fun a b _ _ h1 h2 => by omega) hs (rising_range n) (hp.trans h)
theorem order_perm {v : Wants} {p : List Nat} (hl : Low v) (h : isOrder v p = true) : p.Perm (List.range v.threads.length) := by
  have s := (order_iff hl).mp h
  have nd := suf_nodup s
  have hlen := suf_zero_len s
  refine (List.perm_ext_iff_of_nodup nd List.nodup_range).mpr fun j => ⟨fun hj => List.mem_range.mpr (suf_mem s j hj).1, fun hj => suf_all s j (List.mem_range.mp hj) (Nat.zero_testBit j)⟩
theorem not_sorted {v : Wants} {ns' : List Int} {p : List Nat} (hl : Low v) (hp : ns'.Perm (natsI p)) (hs : ns'.Pairwise (· ≤ ·)) (h : ¬ ns' = natsI (List.range v.threads.length)) : isOrder v p = false := by
  cases e : isOrder v p with
  | false => rfl
  | true => exact absurd (sorted_is hp hs ((order_perm hl e).map _)) h
/-- a row of all the numbers, each once -/
theorem is_sorted {v : Wants} {ns' : List Int} {p : List Nat} (hp : ns'.Perm (natsI p)) (h : ns' = natsI (List.range v.threads.length)) : p.Perm (List.range v.threads.length) := by
  rw [h] at hp
  have := hp.symm.map Int.toNat
  have e1 := nn_natsI p
  have e2 := nn_natsI (List.range v.threads.length)
  unfold nn at e1 e2
  rwa [e1, e2] at this
theorem next_iff {v : Wants} (hl : Low v) {m j : Nat} (hj : j < v.threads.length) (hb : m.testBit j = false) : j ∈ nexts v m ↔ rdy (v.over.getD j 0) m = true := by
  unfold nexts
  rw [List.mem_filter, List.mem_range, next_rdy hl, hb]
  simp [hj]
/-- the walk through it: the rest tells -/
def Tells (v : Wants) (p : List Nat) (k m : Nat) : Prop := Taken v (p.take k) m ∧ (isOrder v p = true ↔ Suf v m (p.drop k))
theorem Tells.start {v : Wants} (hl : Low v) (p : List Nat) : Tells v p 0 0 := ⟨Taken.start v, order_iff hl⟩
theorem Tells.bit {v : Wants} {p : List Nat} {k m j : Nat} (t : Tells v p k m) (hp : p.Perm (List.range v.threads.length)) (hj : p[k]? = some j) : j < v.threads.length ∧ m.testBit j = false := by
  have nd : p.Nodup := hp.nodup_iff.mpr List.nodup_range
  refine ⟨List.mem_range.mp (hp.mem_iff.mp (List.mem_of_getElem? hj)), ?_⟩
  cases e : m.testBit j with
  | false => rfl
  | true =>
    have h := (t.1.bit j).mp e
    obtain ⟨i, hi, e2⟩ := List.mem_take_iff_getElem.mp h
    obtain ⟨hk, e3⟩ := List.getElem?_eq_some_iff.mp hj
    have hlt : i < k := by omega
    have := List.pairwise_iff_getElem.mp nd i k (by omega) hk hlt
    exact absurd (e2.trans e3.symm) this
theorem Tells.drop {p : List Nat} {k j : Nat} (hj : p[k]? = some j) : p.drop k = j :: p.drop (k + 1) := by
  obtain ⟨h, e⟩ := List.getElem?_eq_some_iff.mp hj
  rw [List.drop_eq_getElem_cons h, e]
theorem Tells.no {v : Wants} (hl : Low v) {p : List Nat} {k m j : Nat} (t : Tells v p k m) (hp : p.Perm (List.range v.threads.length)) (hj : p[k]? = some j) (h : rdy (v.over.getD j 0) m = false) : isOrder v p = false := by
  obtain ⟨b1, b2⟩ := t.bit hp hj
  cases e : isOrder v p with
  | false => rfl
  | true =>
    have s := t.2.mp e
    rw [Tells.drop hj] at s
    have := (next_iff hl b1 b2).mp s.1
    rw [h] at this
    cases this
theorem Tells.go {v : Wants} (hl : Low v) {p : List Nat} {k m j : Nat} (t : Tells v p k m) (hp : p.Perm (List.range v.threads.length)) (hj : p[k]? = some j) (h : rdy (v.over.getD j 0) m = true) : Tells v p (k + 1) (m + 2 ^ j) := by
  obtain ⟨b1, b2⟩ := t.bit hp hj
  have e : p.take (k + 1) = p.take k ++ [j] := by
    obtain ⟨h, e⟩ := List.getElem?_eq_some_iff.mp hj
    rw [List.take_succ, hj]
    rfl
  refine ⟨by rw [e]; exact t.1.step b1 b2, t.2.trans ?_⟩
  rw [Tells.drop hj]
  show (j ∈ nexts v m ∧ Suf v (m + 2 ^ j) _) ↔ _
  rw [next_iff hl b1 b2]
  exact ⟨fun z => z.2, fun z => ⟨h, z⟩⟩
theorem Tells.yes {v : Wants} {p : List Nat} {m : Nat} (t : Tells v p p.length m) (hp : p.Perm (List.range v.threads.length)) : isOrder v p = true := by
  refine t.2.mpr ?_
  rw [List.drop_length]
  have h := t.1.full
  rw [List.take_length] at h
  refine h.mpr ?_
  rw [hp.length_eq, List.length_range]
end TO

namespace TO
open Eb
/-! ### the walk's choice -/
theorem chg_last (v : Wants) (o : Option Nat) (j : Nat) : changes v (o.toList ++ [j]) = dif v o j := by
  cases o with
  | none => rfl
  | some i =>
    show changes v [i, j] = differ v i j
    rw [changes_cons]
    show differ v i j + 0 = _
    rw [Nat.add_zero]
theorem pick_first {v : Wants} {m k mn : Nat} {o : Option Nat} (hk : ((nexts v m).map (cost v m o))[k]? = some mn) (hmin : ∀ c ∈ (nexts v m).map (cost v m o), mn ≤ c)
    (hfst : ∀ (i c : Nat), i < k → ((nexts v m).map (cost v m o))[i]? = some c → c ≠ mn) :
    ∃ x, (nexts v m)[k]? = some x ∧ (∀ y ∈ nexts v m, cost v m o x ≤ cost v m o y) ∧ ∀ y ∈ nexts v m, y < x → cost v m o x < cost v m o y := by
  rw [List.getElem?_map] at hk
  cases e : (nexts v m)[k]? with
  | none => rw [e] at hk; cases hk
  | some x =>
    rw [e] at hk
    have hx : cost v m o x = mn := Option.some.inj hk
    have hm : ∀ y ∈ nexts v m, cost v m o x ≤ cost v m o y := fun y hy => by
      rw [hx]
      exact hmin _ (List.mem_map.mpr ⟨y, hy, rfl⟩)
    refine ⟨x, rfl, hm, fun y hy hlt => ?_⟩
    obtain ⟨i, hi, ei⟩ := List.mem_iff_getElem.mp hy
    obtain ⟨hk', ek⟩ := List.getElem?_eq_some_iff.mp e
    have s := List.pairwise_iff_getElem.mp (nexts_sorted v m)
    have hik : i < k := by
      rcases Nat.lt_trichotomy i k with c | c | c
      · exact c
      · subst c
        rw [ek] at ei
        omega
      · have := s k i hk' hi c
        rw [ek, ei] at this
        omega
    have h1 := hfst i (cost v m o y) hik (by rw [List.getElem?_map, List.getElem?_eq_getElem hi, ei]; rfl)
    have h2 := hm y hy
    omega
theorem last_of (p : List Nat) : (p.drop (p.length - 1)).take (p.length - (p.length - 1)) = p.getLast?.toList := by
  rcases List.eq_nil_or_concat p with e | ⟨q, x, e⟩
  · subst e
    rfl
  · subst e
    simp
end TO

set_option Elab.async false
set_option maxRecDepth 100000
set_option maxHeartbeats 2000000
namespace Tr
open PySem PySem.Spec PyProof.Rows L2
open PySem.W (Codec)
/-! ### the text by places -/
def top (i : Nat) : Stmt := PySem.Challenge.pw_threadrow_s03_order.main.body.getD i (.Pass ⟨0, 0, 0, 0⟩)
abbrev sOrd : Stmt := top 2
abbrev sTsk : Stmt := top 3
abbrev sCnt : Stmt := top 4
abbrev sTold : Stmt := top 5
abbrev sFew : Stmt := top 6
abbrev sByt : Stmt := top 7
abbrev sFree : Stmt := top 8
abbrev sRdy : Stmt := top 9
abbrev sChg : Stmt := top 10
theorem scOrd : FnScope ["threads", "numbers", "told"] ["threads", "numbers"] (defScope sOrd) := ⟨rfl, rfl, rfl, by decide +kernel, rfl, by decide +kernel, by decide +kernel⟩
theorem scTsk : FnScope ["threads", "numbers", "j", "number"] ["threads", "numbers"] (defScope sTsk) := ⟨rfl, rfl, rfl, by decide +kernel, rfl, by decide +kernel, by decide +kernel⟩
theorem scCnt : FnScope ["count"] ["count"] (defScope sCnt) := ⟨rfl, rfl, rfl, by decide +kernel, rfl, by decide +kernel, by decide +kernel⟩
theorem scTold : FnScope ["threads", "numbers", "to_come", "told", "taken", "place", "free", "counts", "j", "chosen"] ["threads", "numbers"] (defScope sTold) := ⟨rfl, rfl, rfl, by decide +kernel, rfl, by decide +kernel, by decide +kernel⟩
theorem scFew : FnScope ["threads", "numbers", "full", "to_come", "taken", "free", "counts", "j", "fewest", "count"] ["threads", "numbers"] (defScope sFew) := ⟨rfl, rfl, rfl, by decide +kernel, rfl, by decide +kernel, by decide +kernel⟩
theorem scByt : FnScope ["threads", "count", "counts", "thread"] ["threads", "count"] (defScope sByt) := ⟨rfl, rfl, rfl, by decide +kernel, rfl, by decide +kernel, by decide +kernel⟩
theorem scFree : FnScope ["taken", "numbers", "j"] ["taken", "numbers"] (defScope sFree) := ⟨rfl, rfl, rfl, by decide +kernel, rfl, by decide +kernel, by decide +kernel⟩
theorem scRdy : FnScope ["number", "taken"] ["number", "taken"] (defScope sRdy) := ⟨rfl, rfl, rfl, by decide +kernel, rfl, by decide +kernel, by decide +kernel⟩
theorem scChg : FnScope ["row", "threads", "k"] ["row", "threads"] (defScope sChg) := ⟨rfl, rfl, rfl, by decide +kernel, rfl, by decide +kernel, by decide +kernel⟩
end Tr

namespace Tr
open PySem PySem.Spec PyProof.Rows L2
open PySem.W (Codec)
abbrev Pl := Eb.Place
abbrev Sti := Eb.Stitch
/-! ### what lies in the heap -/
theorem same_upd {H : Hp} {p : Addr} {o : HO} (h : H p = none) : Same H (upd H p o) := fun b x e => by
  rw [upd_ne (ne_of_none e h)]
  exact e
def PlAt (H : Hp) (a : Addr) (p : Pl) : Prop := H a = some (.tup [.int p.x, .int p.y])
def StAt (H : Hp) (a : Addr) (s : Sti) : Prop := ∃ u v, H a = some (.tup [.ref u, .ref v]) ∧ PlAt H u s.1 ∧ PlAt H v s.2
/-- a list at l of things that stand for xs -/
def LsAt {A : Type} (R : Hp → Addr → A → Prop) (H : Hp) (l : Addr) (xs : List A) : Prop :=
  ∃ as : List Addr, H l = some (.lst (as.map V.ref)) ∧ as.length = xs.length ∧ ∀ (i : Nat) (a : Addr) (x : A), as[i]? = some a → xs[i]? = some x → R H a x
def Keeps {A : Type} (R : Hp → Addr → A → Prop) : Prop := ∀ {H H' : Hp} {a : Addr} {x : A}, Same H H' → R H a x → R H' a x
theorem PlAt.keeps : Keeps PlAt := fun e h => e _ _ h
theorem StAt.keeps : Keeps StAt := fun e ⟨u, v, h, h1, h2⟩ => ⟨u, v, e _ _ h, PlAt.keeps e h1, PlAt.keeps e h2⟩
theorem LsAt.keeps {A : Type} {R : Hp → Addr → A → Prop} (k : Keeps R) : Keeps (LsAt R) := fun e ⟨as, h, hl, hr⟩ => ⟨as, e _ _ h, hl, fun i a x h1 h2 => k e (hr i a x h1 h2)⟩
/-- the items, once the list is there -/
theorem LsAt.item {A : Type} {R : Hp → Addr → A → Prop} {H : Hp} {as : List Addr} {xs : List A} {i : Nat} (hl : as.length = xs.length) (h : i < xs.length) : ∃ a x, as[i]? = some a ∧ xs[i]? = some x :=
  ⟨as[i]'(by omega), xs[i], by simp [show i < as.length by omega], by simp [h]⟩
theorem ref_at {as : List Addr} {i : Nat} {a : Addr} (h : as[i]? = some a) : (as.map V.ref)[i]? = some (V.ref a) := by
  rw [List.getElem?_map, h]
  rfl
/-- one more item at a list that grows (the address D), the item at a -/
theorem take_more {A : Type} : ∀ {l : List A} {i : Nat} {x : A}, l[i]? = some x → l.take (i + 1) = l.take i ++ [x]
  | [], i, x, h => by simp at h
  | a :: l, 0, x, h => by
    have e : a = x := Option.some.inj h
    subst e
    rfl
  | a :: l, i + 1, x, h => by
    have ih := take_more (l := l) (i := i) (x := x) h
    show a :: l.take (i + 1) = a :: l.take i ++ [x]
    rw [ih]
    rfl
/-- the things of a growing list D: as stands for xs, D none of them -/
structure Grow {A : Type} (R : Hp → Addr → A → Prop) (H0 H : Hp) (D : Addr) (xs : List A) (as : List Addr) : Prop where
  lst : H D = some (.lst (as.map V.ref))
  same : Same H0 H
  len : as.length = xs.length
  at_ : ∀ (i : Nat) (a : Addr) (x : A), as[i]? = some a → xs[i]? = some x → a ≠ D ∧ R H a x
/-- a list's store leaves R at any other address -/
def Firm {A : Type} (R : Hp → Addr → A → Prop) : Prop := ∀ {H : Hp} {a : Addr} {x : A} {D : Addr} {ys zs : List V}, H D = some (.lst ys) → a ≠ D → R H a x → R (upd H D (.lst zs)) a x
/-- R speaks of tuples alone: a list's store leaves it -/
def FirmT {A : Type} (R : Hp → Addr → A → Prop) : Prop := ∀ {H : Hp} {a : Addr} {x : A} {D : Addr} {ys zs : List V}, H D = some (.lst ys) → R H a x → R (upd H D (.lst zs)) a x
theorem firm_ne {H : Hp} {a D : Addr} {ys ws zs : List V} (hD : H D = some (.lst ys)) (h : H a = some (.tup ws)) : (upd H D (.lst zs)) a = some (.tup ws) := by
  rw [upd_ne (ne_of h hD (by intro z; cases z))]
  exact h
theorem FirmT.firm {A : Type} {R : Hp → Addr → A → Prop} (f : FirmT R) : Firm R := fun hD _ h => f hD h
theorem PlAt.firmT : FirmT PlAt := fun hD h => firm_ne hD h
theorem StAt.firmT : FirmT StAt := fun hD ⟨u, v, h, h1, h2⟩ => ⟨u, v, firm_ne hD h, firm_ne hD h1, firm_ne hD h2⟩
theorem LsAt.firm {A : Type} {R : Hp → Addr → A → Prop} (f : FirmT R) : Firm (LsAt R) := fun {H a x D ys zs} hD n ⟨as, h, hl, hr⟩ => ⟨as, by rw [upd_ne n]; exact h, hl, fun i b y h1 h2 => f hD (hr i b y h1 h2)⟩
/-- a list of whole numbers, tracked -/
def NsAt (H : Hp) (a : Addr) (ns : List Int) : Prop := H a = some (.lst (ns.map V.int))
theorem NsAt.keeps : Keeps NsAt := fun e h => e _ _ h
theorem NsAt.firm : Firm NsAt := fun {H a x D ys zs} _ n h => by
  show upd H D (.lst zs) a = _
  rw [upd_ne n]
  exact h
theorem Grow.start {A : Type} {R : Hp → Addr → A → Prop} {H0 : Hp} {D : Addr} (nD : H0 D = none) : Grow R H0 (upd H0 D (.lst [])) D [] [] := ⟨upd_same, same_upd nD, rfl, fun i a x h => by simp at h⟩
theorem Grow.more {A : Type} {R : Hp → Addr → A → Prop} (fR : Firm R) (kR : Keeps R) {H0 H H' : Hp} {D : Addr} {xs : List A} {as : List Addr} {a : Addr} {x : A} (G : Grow R H0 H D xs as) (nD : H0 D = none) (s : Same H H') (na : H a = none) (hx : R H' a x) :
    Grow R H0 (upd H' D (.lst (as.map V.ref ++ [V.ref a]))) D (xs ++ [x]) (as ++ [a]) := by
  have hD := s _ _ G.lst
  have nn : a ≠ D := (ne_of_none G.lst na).symm
  refine ⟨?_, fun b o e => ?_, by simp [G.len], fun i b y hb hy => ?_⟩
  · rw [upd_same, List.map_append]
    rfl
  · rw [upd_ne (ne_of_none e nD)]
    exact s _ _ (G.same _ _ e)
  · by_cases hi : i < as.length
    · rw [List.getElem?_append_left hi] at hb
      rw [List.getElem?_append_left (by rw [← G.len]; exact hi)] at hy
      obtain ⟨n, r⟩ := G.at_ i b y hb hy
      exact ⟨n, fR hD n (kR s r)⟩
    · have e1 : i = as.length := by
        have := (List.getElem?_eq_some_iff.mp hb).1
        simp at this
        omega
      subst e1
      rw [List.getElem?_append_right (Nat.le_refl _), Nat.sub_self] at hb
      rw [G.len, List.getElem?_append_right (Nat.le_refl _), Nat.sub_self] at hy
      have e2 : a = b := Option.some.inj hb
      have e3 : x = y := Option.some.inj hy
      subst e2 e3
      exact ⟨nn, fR hD nn hx⟩
theorem Grow.done {A : Type} {R : Hp → Addr → A → Prop} {H0 H : Hp} {D : Addr} {xs : List A} {as : List Addr} (G : Grow R H0 H D xs as) : LsAt R H D xs := ⟨as, G.lst, G.len, fun i a x h1 h2 => (G.at_ i a x h1 h2).2⟩
end Tr

namespace Tr
open PySem PySem.Spec PyProof.Rows L2
open PySem.W (Codec)
/-! ### is_shape_count_refused -/
def cntS12 (n : Int) : Bool := decide (n < 1) || decide (12 < n)
def spCnt : Sp := fun vs H Q _ => ∃ n : Int, vs = [.int n] ∧ Q (.bl (cntS12 n)) H
section
variable {P : Program} {w : World} {K : PySem.W.Frag} {mg : Str → Option Value} {base : Heap}
theorem ok_cnt {f : Addr} {fd : FuncData} {tM : Tok} (F : Fun K "is_shape_count_refused" "is_shape_count_refused" sCnt f fd) (mS : mg "MOST_SHAPES" = some (.int 12 tM)) : FnOk P w K mg base CX0 1 f fd ["count"] spCnt := by
  refine F.ok scCnt (fun vs H Q E h => ?_) (fun cdv A outer s H vs Q E hr h => ?_)
  · obtain ⟨n, rfl, _⟩ := h
    rfl
  · obtain ⟨n, rfl, q⟩ := h
    refine ⟨_, pss_one (ps_ret (pe_or (pe_cmpR op_lt (pv 0) pe_int (nomark _)) (pe_one (pe_cmpR op_gt (pv 0) (pe_glob (v := .int 12) rfl mS ⟨_, rfl⟩) (nomark _))))), ?_⟩
    refine ⟨_, rfl, _, _, rfl, rfl, _, rfl, ?_⟩
    unfold cntS12 at q
    cases e1 : decide (n < 1) with
    | true =>
      rw [e1] at q
      exact iteT q
    | false =>
      rw [e1] at q
      exact iteF ⟨_, rfl, _, _, rfl, rfl, q⟩
end
end Tr

namespace Tr
open PySem PySem.Spec PyProof.Rows L2
open PySem.W (Codec)
open TO
/-! ### is_task_refused, is_ready, changes_of -/
theorem int_at {ns : List Int} {i : Nat} {y : V} (hi : (ns.map V.int)[i]? = some y) : ∃ z, ns[i]? = some z ∧ y = V.int z := by
  rw [List.getElem?_map] at hi
  cases e : ns[i]? with
  | none =>
    rw [e] at hi
    cases hi
  | some z =>
    rw [e] at hi
    exact ⟨z, rfl, (Option.some.inj hi).symm⟩
theorem int_of {ns : List Int} {i : Nat} {z : Int} (h : ns[i]? = some z) : (ns.map V.int)[i]? = some (V.int z) := by
  rw [List.getElem?_map, h]
  rfl
def rLenK (K : PySem.W.Frag) : List V → Hp → (V → Hp → Prop) → Prop := fun xs H Q => ∃ p ys, xs = [V.ref p] ∧ (SqL K H p ys ∨ SqT K H p ys) ∧ Q (V.int ((ys.length : Nat) : Int)) H
def spTsk (K : PySem.W.Frag) : Sp := fun vs H Q _ => ∃ (a b : Addr) (xs ys : List Int), vs = [.ref a, .ref b] ∧ SqL K H a (xs.map V.int) ∧ SqL K H b (ys.map V.int) ∧ xs.length ≤ 1000 ∧ ys.length ≤ 1000 ∧ (∀ y ∈ ys, 0 ≤ y) ∧
  ∀ H', Same H H' → Q (.bl (!(wants xs ys).ok)) H'
def spRdy : Sp := fun vs H Q _ => ∃ x m : Nat, vs = [.int (x : Nat), .int (m : Nat)] ∧ Q (.bl (rdy x m)) H
def spChg (K : PySem.W.Frag) : Sp := fun vs H Q _ => ∃ (a b : Addr) (p : List Nat) (xs : List Int) (v : Eb.Wants), vs = [.ref a, .ref b] ∧ SqL K H a ((natsI p).map V.int) ∧ SqL K H b (xs.map V.int) ∧ (∀ x ∈ xs, 0 ≤ x) ∧ v.threads = nn xs ∧ p.length ≤ 1000 ∧ (∀ j ∈ p, j < xs.length) ∧
  ∀ H', Same H H' → Q (.int ((Eb.changes v p : Nat) : Int)) H'
section
variable {P : Program} {w : World} {K : PySem.W.Frag} {mg : Str → Option Value} {base : Heap}
theorem ok_tsk_ {f fC : Addr} {fd fdC : FuncData} {tM : Tok} (F : Fun K "is_task_refused" "is_task_refused" sTsk f fd)
    (FC : Fun K "is_shape_count_refused" "is_shape_count_refused" sCnt fC fdC) (bC : Binds K fdC ["count"] []) (gC : mg "is_shape_count_refused" = some (.ref fC))
    (ml : mg "len" = none) (my : mg "any" = none) (me : mg "enumerate" = none) (mS : mg "MOST_SHAPES" = some (.int 12 tM)) : FnOk P w K mg base CX0 2 f fd ["threads", "numbers"] (spTsk K) := by
  have GC : FnOk P w K mg base CX0 1 fC fdC ["count"] spCnt := ok_cnt FC mS
  refine F.ok scTsk (fun vs H Q E h => ?_) (fun cdv A outer s H vs Q E hr h => ?_)
  · obtain ⟨a, b, xs, ys, rfl, _⟩ := h
    rfl
  · obtain ⟨a, b, xs, ys, rfl, hA, hB, lx, ly, hy, q⟩ := h
    refine ⟨_, pss_cons (ps_if (PW.pt (pw_or (pt_val (pe_call GC hr (by rfl) gC FC.kp bC .nil pass0 (pa_cons (pe_callB call_len_seq (by rfl) ml PySem.boot_len (pa_cons (pv 0) pa_nil)) pa_nil)))
        (pw_or1 (pt_cmpR op_ne (pe_callB call_len_seq (by rfl) ml PySem.boot_len (pa_cons (pv 1) pa_nil)) (pe_callB call_len_seq (by rfl) ml PySem.boot_len (pa_cons (pv 0) pa_nil)) (nomark _))))) (pss_one (ps_ret pe_bl)) pss_nil)
      (pss_one (ps_ret (pe_callB (cr_any rfl) (by rfl) my (by decide +kernel) (pa_cons
        (pe_lc (own := [("j", 2), ("number", 3)]) (g := gTup K 2 (gCons (gName 2) (gCons (gName 3) gNil))) (tt := tYes) rfl scTsk.nd (pi_enum (by rfl) me (pa_cons (pv 1) pa_nil)) (blkOk_by (N := ["threads", "numbers", "j", "number"]) (sc := defScope sTsk) (by decide +kernel))
          (fun _ _ _ _ _ => pg_tup rfl (pgs_cons (pg_name (i := 2) scTsk.nd rfl (Or.inl rfl)) (pgs_cons (pg_name (i := 3) scTsk.nd rfl (Or.inl rfl)) pgs_nil)))
          (fun _ _ _ _ _ => pts_nil) (fun _ _ _ _ _ => pe_cmpR op_ge (pv 3) (pe_op op_shl pe_int (pv 2)) (nomark _))) pa_nil)))), ?_⟩
    rw [← ok_tsk hy] at q
    unfold tskR at q
    refine ⟨_, rfl, a, _, rfl, .inl hA, _, rfl, _, rfl, ?_⟩
    rw [List.length_map]
    show if cntR ((xs.length : Nat) : Int) = true then _ else _
    cases e1 : cntR ((xs.length : Nat) : Int) with
    | true =>
      rw [e1] at q
      exact iteT (iteT (q H (Same.refl H)))
    | false =>
    rw [e1] at q
    refine iteF ⟨_, rfl, b, _, rfl, .inl hB, _, rfl, a, _, rfl, .inl hA, rfl, _, rfl, ?_⟩
    rw [List.length_map, List.length_map]
    have eqd : decide (V.int ((ys.length : Nat) : Int) = V.int ((xs.length : Nat) : Int)) = decide (ys.length = xs.length) := by
      rw [Bool.eq_iff_iff, decide_eq_true_eq, decide_eq_true_eq]
      constructor
      · intro h
        injection h with h
        omega
      · intro h
        rw [h]
    rw [eqd]
    cases e2 : decide (ys.length = xs.length) with
    | false =>
      rw [e2] at q
      exact iteT (q H (Same.refl H))
    | true =>
    rw [e2] at q
    refine iteF ?_
    refine ⟨_, rfl, b, _, rfl, hB, fun D nD => lc_it (walk_enum (K := K) (a := b) (xs := ys.map V.int)) (fun i H' => Same H H' ∧ H' D = some (.lst (((List.range i).map (bigR ys)).map V.bl)))
      ⟨same_upd nD, upd_same⟩ (fun i H' _ h => h.1.seq hB) ?_ ?_⟩
    · rintro i x H1 H' hi ⟨sm, hD⟩ ⟨T, x1, y1, rfl, nT, rfl, e3, e4⟩
      obtain rfl : V.int (i : Nat) = x1 := Option.some.inj e3
      obtain ⟨z, hz, rfl⟩ := int_at e4
      have sT : Same H1 (upd H1 T (.tup [.int (i : Nat), .int z])) := same_upd nT
      refine ⟨T, _, rfl, SqT.of upd_same, rfl, _, _, rfl, _, _, rfl, rfl, ?_⟩
      have hi' : i < ys.length := (List.getElem?_eq_some_iff.mp hz).1
      refine ⟨rfl, ?_⟩
      refine ⟨_, rfl, _, rfl, _, _, rfl, rfl, ⟨by omega, by omega, by decide⟩, _, _, rfl, rfl, _, sT _ _ hD, ?_, fun c o e => ?_, ?_⟩
      · rw [List.length_map, List.length_map, List.length_range]
        exact small1000 (by omega)
      · rw [upd_ne (ne_of_none e nD)]
        exact sT _ _ (sm _ _ e)
      · rw [upd_same, List.range_succ, List.map_append, List.map_append]
        have eb : bigR ys i = decide (1 * 2 ^ ((i : Nat) : Int).toNat ≤ z) := by
          unfold bigR
          rw [List.getD_eq_getElem?_getD, hz]
          rfl
        rw [List.map_cons, eb]
        rfl
    · rintro H' ⟨sm, hD⟩
      rw [List.length_map] at hD
      refine ⟨D, _, rfl, SqL.of hD, ?_⟩
      rw [List.any_map]
      exact q H' sm
theorem ok_rdy {f : Addr} {fd : FuncData} (F : Fun K "is_ready" "is_ready" sRdy f fd) : FnOk P w K mg base CX0 1 f fd ["number", "taken"] spRdy := by
  refine F.ok scRdy (fun vs H Q E h => ?_) (fun cdv A outer s H vs Q E hr h => ?_)
  · obtain ⟨x, m, rfl, _⟩ := h
    rfl
  · obtain ⟨x, m, rfl, q⟩ := h
    refine ⟨_, pss_one (ps_ret (pe_cmpR op_eq (pe_op op_and (pv 0) (pv 1)) (pv 0) (nomark _))), ?_⟩
    refine ⟨_, rfl, _, rfl, _, _, rfl, rfl, _, rfl, rfl, ?_⟩
    show Q (.bl (decide (V.int (Builtin.bitAnd ((x : Nat) : Int) ((m : Nat) : Int)) = V.int ((x : Nat) : Int)))) H
    rw [PySem.W.os_band]
    have e : decide (V.int ((x &&& m : Nat) : Int) = V.int ((x : Nat) : Int)) = rdy x m := by
      unfold rdy
      rw [Bool.eq_iff_iff, decide_eq_true_eq, decide_eq_true_eq]
      constructor
      · intro h
        injection h with h
        omega
      · intro h
        rw [h]
    rw [e]
    exact q
theorem ok_chg {f : Addr} {fd : FuncData} (F : Fun K "changes_of" "changes_of" sChg f fd) (ml : mg "len" = none) (mr : mg "range" = none) : FnOk P w K mg base CX0 1 f fd ["row", "threads"] (spChg K) := by
  refine F.ok scChg (fun vs H Q E h => ?_) (fun cdv A outer s H vs Q E hr h => ?_)
  · obtain ⟨a, b, p, xs, v, rfl, _⟩ := h
    rfl
  · obtain ⟨a, b, p, xs, v, rfl, hA, hB, hx, hv, lp, hp, q⟩ := h
    refine ⟨_, pss_one (ps_ret (pe_callB call_len_seq (by rfl) ml PySem.boot_len (pa_cons
      (pe_lc (own := [("k", 2)]) (g := gName 2) rfl scChg.nd (pi_range1 rfl mr (pa_cons (pe_op op_sub (pe_callB call_len_seq (by rfl) ml PySem.boot_len (pa_cons (pv 0) pa_nil)) pe_int) pa_nil)) (blkOk_by (N := ["row", "threads", "k"]) (sc := defScope sChg) (by decide +kernel)) (fun _ _ _ _ _ => pg_name (i := 2) scChg.nd rfl (Or.inl rfl))
        (fun _ _ _ _ _ => pts_one (pt_cmpR op_ne (pe_ix (r := rIxL K) ix_list (pv 1) (pe_ix (r := rIxL K) ix_list (pv 0) (pv 2) (fun _ _ => rfl)) (fun _ _ => rfl)) (pe_ix (r := rIxL K) ix_list (pv 1) (pe_ix (r := rIxL K) ix_list (pv 0) (pe_op op_add (pv 2) pe_int) (fun _ _ => rfl)) (fun _ _ => rfl)) (nomark _)))
        (fun _ _ _ _ _ => pv 2)) pa_nil))), ?_⟩
    refine ⟨_, rfl, a, _, rfl, .inl hA, _, _, rfl, rfl, _, rfl, ?_⟩
    rw [List.length_map, natsI_len]
    refine ⟨by omega, by omega, ?_⟩
    rw [show (((p.length : Nat) : Int) - 1).toNat = p.length - 1 by omega]
    refine fun D nD => lc_it (walk_range (lo := 0) (n := p.length - 1)) (fun i H' => Same H H' ∧ ∃ acc : List V, H' D = some (.lst acc) ∧ acc.length = ((List.range i).filter (chgK v p)).length)
      ⟨same_upd nD, [], upd_same, rfl⟩ (fun i H' _ _ => trivial) ?_ ?_
    · rintro i x H1 H' hi ⟨sm, acc, hD, hl⟩ ⟨rfl, e2⟩
      have e2 : x = V.int (0 + (i : Nat)) := e2
      subst e2
      have at_ : ∀ {k : Nat}, k < p.length → ∃ j t : Nat, p[k]? = some j ∧ xs[j]? = some (t : Int) ∧ v.threads.getD (p.getD k 0) 0 = t := fun {k} hk => by
        have h1 : p[k]? = some p[k] := List.getElem?_eq_getElem hk
        obtain ⟨t, t1, t2⟩ := nn_at hx (hp _ (List.getElem_mem hk))
        refine ⟨_, t, h1, t1, ?_⟩
        rw [get_d h1, hv, get_d t2]
      obtain ⟨j, t, j1, j2, j3⟩ := at_ (k := i) (by omega)
      obtain ⟨j', t', j1', j2', j3'⟩ := at_ (k := i + 1) (by omega)
      have hA' := sm.seq hA
      have hB' := sm.seq hB
      refine ⟨rfl, ?_⟩
      refine ⟨_, rfl, _, rfl, _, rfl, a, _, _, .int (j : Nat), rfl, rfl, hA', at_of (j := i) (by omega) (int_of (natsI_at j1)), b, _, _, .int (t : Nat), rfl, rfl, hB', at_of (j := j) rfl (int_of j2), ?_⟩
      refine ⟨_, rfl, _, rfl, _, rfl, _, _, rfl, rfl, a, _, _, .int (j' : Nat), rfl, rfl, hA', at_of (j := i + 1) (by omega) (int_of (natsI_at j1')), b, _, _, .int (t' : Nat), rfl, rfl, hB', at_of (j := j') rfl (int_of j2'), ?_⟩
      refine ⟨rfl, _, rfl, ?_⟩
      have ec : (!decide (V.int ((t : Nat) : Int) = V.int ((t' : Nat) : Int))) = chgK v p i := by
        unfold chgK
        rw [j3, j3']
        by_cases e : t = t'
        · subst e
          simp
        · have n : ¬ V.int ((t : Nat) : Int) = V.int ((t' : Nat) : Int) := fun h => by
            injection h with h
            exact e (by omega)
          rw [decide_eq_false n]
          simp [e]
      rw [ec, List.range_succ, List.filter_append, List.length_append]
      cases e : chgK v p i with
      | true =>
        refine ⟨_, rfl, acc, hD, ?_, fun c o hc => ?_, acc ++ [_], upd_same, ?_⟩
        · rw [hl]
          have := List.length_filter_le (chgK v p) (List.range i)
          rw [List.length_range] at this
          exact small1000 (by omega)
        · rw [upd_ne (ne_of_none hc nD)]
          exact sm _ _ hc
        · rw [List.length_append, hl]
          simp [e]
      | false =>
        refine ⟨sm, acc, hD, ?_⟩
        rw [hl]
        simp [e]
    · rintro H' ⟨sm, acc, hD, hl⟩
      refine ⟨D, _, rfl, .inl (SqL.of hD), ?_⟩
      rw [hl, chg_count]
      exact q H' sm
end
end Tr

namespace Tr
open PySem PySem.Spec PyProof.Rows L2
open PySem.W (Codec)
open TO
/-! ### bits -/
theorem small5000 {n : Nat} (h : n ≤ 5000) : n < sizeLine := Nat.lt_of_le_of_lt h (by decide)
theorem or_int_bit {m j : Nat} (h : m.testBit j = false) : Builtin.bitOr ((m : Nat) : Int) (1 * 2 ^ ((j : Nat) : Int).toNat) = ((m + 2 ^ j : Nat) : Int) := by
  have e : (1 * 2 ^ ((j : Nat) : Int).toNat : Int) = ((2 ^ j : Nat) : Int) := by
    rw [Int.toNat_natCast]
    simp
  rw [e, bitOr_and, PySem.W.os_band]
  have z : m &&& 2 ^ j = 0 := by
    refine Nat.eq_of_testBit_eq fun i => ?_
    rw [Nat.testBit_and, Nat.testBit_two_pow, Nat.zero_testBit]
    by_cases c : j = i
    · subst c
      rw [h]
      rfl
    · simp [c]
  rw [z]
  omega
end Tr

namespace Tr
open PySem PySem.Spec PyProof.Rows L2
open PySem.W (Codec)
open TO
/-! ### free_ones, by_thread -/
/-- a dict that holds g of each thread -/
def ThAt (N : Nat) (H : Hp) (e : Addr) (xs : List Int) (g : Nat → Nat) : Prop :=
  ∃ kvs : List (Key × V), H e = some (.dK kvs) ∧ kvs.length ≤ N ∧ ∀ (i : Nat) (t : Int), xs[i]? = some t → valV kvs (Sum.inl t) = some (.int (g i : Nat))
theorem ThAt.keeps {N : Nat} {H H' : Hp} {e : Addr} {xs : List Int} {g : Nat → Nat} (s : Same H H') (h : ThAt N H e xs g) : ThAt N H' e xs g :=
  let ⟨kvs, h1, h2, h3⟩ := h
  ⟨kvs, s _ _ h1, h2, h3⟩
def spFree (K : PySem.W.Frag) : Sp := fun vs H Q _ => ∃ (m : Nat) (b : Addr) (ys : List Int) (v : Eb.Wants), vs = [.int (m : Nat), .ref b] ∧ SqL K H b (ys.map V.int) ∧ (∀ y ∈ ys, 0 ≤ y) ∧ v.over = nn ys ∧ v.ok = true ∧
  ∀ H' D, Same H H' → H D = none → NsAt H' D (natsI (nexts v m)) → Q (.ref D) H'
def spByt (K : PySem.W.Frag) : Sp := fun vs H Q _ => ∃ (a : Addr) (xs : List Int) (c : Nat), vs = [.ref a, .int (c : Nat)] ∧ SqL K H a (xs.map V.int) ∧ xs.length ≤ 1000 ∧
  ∀ H' e, Same H H' → H e = none → ThAt xs.length H' e xs (fun _ => c) → Q (.ref e) H'
section
variable {P : Program} {w : World} {K : PySem.W.Frag} {mg : Str → Option Value} {base : Heap}
theorem ok_free {f fR : Addr} {fd fdR : FuncData} (F : Fun K "free_ones" "free_ones" sFree f fd)
    (FR : Fun K "is_ready" "is_ready" sRdy fR fdR) (bR : Binds K fdR ["number", "taken"] []) (gR : mg "is_ready" = some (.ref fR)) (ml : mg "len" = none) (mr : mg "range" = none) : FnOk P w K mg base CX0 2 f fd ["taken", "numbers"] (spFree K) := by
  have GR : FnOk P w K mg base CX0 1 fR fdR ["number", "taken"] spRdy := ok_rdy FR
  refine F.ok scFree (fun vs H Q E h => ?_) (fun cdv A outer s H vs Q E hr h => ?_)
  · obtain ⟨m, b, ys, v, rfl, _⟩ := h
    rfl
  · obtain ⟨m, b, ys, v, rfl, hB, hy, hv, hok, q⟩ := h
    obtain ⟨hl, n1, n12, hlen, _⟩ := ok_low hok
    have yl : ys.length = v.threads.length := by
      rw [← hlen, hv, nn_len]
    refine ⟨_, pss_one (ps_ret (pe_lc (own := [("j", 2)]) (g := gName 2) rfl scFree.nd (pi_range1 rfl mr (pa_cons (pe_callB call_len_seq (by rfl) ml PySem.boot_len (pa_cons (pv 1) pa_nil)) pa_nil)) (blkOk_by (N := ["taken", "numbers", "j"]) (sc := defScope sFree) (by decide +kernel)) (fun _ _ _ _ _ => pg_name (i := 2) scFree.nd rfl (Or.inl rfl))
      (fun _ _ _ _ _ => pts_one (PW.pt (pw_and (pt_cmpR op_eq (pe_op op_and (pe_op op_shr (pv 0) (pv 2)) pe_int) pe_int (nomark _))
        (pw_and1 (pt_val (pe_call GR hr (by rfl) gR FR.kp bR .nil pass0 (pa_cons (pe_ix (r := rIxL K) ix_list (pv 1) (pv 2) (fun _ _ => rfl)) (pa_cons (pv 0) pa_nil)))))))) (fun _ _ _ _ _ => pv 2))), ?_⟩
    refine ⟨_, rfl, b, _, rfl, .inl hB, _, rfl, ?_⟩
    rw [List.length_map, yl]
    refine ⟨by omega, by omega, ?_⟩
    rw [show ((v.threads.length : Nat) : Int).toNat = v.threads.length by omega]
    refine fun D nD => lc_it (walk_range (lo := 0) (n := v.threads.length)) (fun i H' => Same H H' ∧ NsAt H' D (natsI ((List.range i).filter (Eb.mayNext v m))))
      ⟨same_upd nD, upd_same⟩ (fun i H' _ _ => trivial) ?_ ?_
    · rintro i x H1 H' hi ⟨sm, hD⟩ ⟨rfl, e2⟩
      have e2 : x = V.int (0 + (i : Nat)) := e2
      rw [Int.zero_add] at e2
      subst e2
      obtain ⟨y, y1, y2⟩ := nn_at hy (i := i) (by omega)
      have ey : v.over.getD i 0 = y := by rw [hv, get_d y2]
      rw [List.range_succ, List.filter_append]
      refine ⟨rfl, ?_⟩
      refine ⟨_, rfl, _, rfl, _, _, rfl, rfl, by omega, _, _, rfl, rfl, rfl, _, rfl, ?_⟩
      have e1 : decide (V.int (Builtin.bitAnd (((m : Nat) : Int) / 2 ^ ((i : Nat) : Int).toNat) 1) = V.int 0) = !m.testBit i := by
        rw [← bit_clear, bitAnd_m1, Int.toNat_natCast, Bool.eq_iff_iff, decide_eq_true_eq, decide_eq_true_eq]
        have e3 : (((m : Nat) : Int) / 2 ^ i % 2) = ((m / 2 ^ i % 2 : Nat) : Int) := by simp
        rw [e3]
        constructor
        · intro h
          injection h with h
          omega
        · intro h
          rw [h]
          rfl
      rw [e1]
      have fin : Eb.mayNext v m i = (!m.testBit i && rdy y m) := by rw [next_rdy hl, ey]
      cases e4 : m.testBit i with
      | true =>
        have ef : [i].filter (Eb.mayNext v m) = [] := by
          rw [List.filter_cons, if_neg (by rw [fin, e4]; simp), List.filter_nil]
        rw [ef, List.append_nil]
        exact iteF ⟨sm, hD⟩
      | false =>
      refine iteT ⟨_, rfl, _, rfl, b, _, _, .int (y : Nat), rfl, rfl, sm.seq hB, at_of (j := i) rfl (int_of y1), _, rfl, y, m, rfl, _, rfl, ?_⟩
      cases e5 : rdy y m with
      | false =>
        have ef : [i].filter (Eb.mayNext v m) = [] := by
          rw [List.filter_cons, if_neg (by rw [fin, e5]; simp), List.filter_nil]
        rw [ef, List.append_nil]
        exact iteF ⟨sm, hD⟩
      | true =>
        have ef : [i].filter (Eb.mayNext v m) = [i] := by
          rw [List.filter_cons, if_pos (by rw [fin, e4, e5]; rfl), List.filter_nil]
        rw [ef]
        refine iteT ⟨_, rfl, _, hD, ?_, fun c o hc => ?_, ?_⟩
        · rw [List.length_map, natsI_len]
          have := List.length_filter_le (Eb.mayNext v m) (List.range i)
          rw [List.length_range] at this
          exact small1000 (by omega)
        · rw [upd_ne (ne_of_none hc nD)]
          exact sm _ _ hc
        · show upd H' D _ D = _
          rw [upd_same]
          unfold natsI
          rw [List.map_append, List.map_append]
          rfl
    · rintro H' ⟨sm, hD⟩
      exact q H' D sm nD hD
theorem ok_byt {f : Addr} {fd : FuncData} (F : Fun K "by_thread" "by_thread" sByt f fd) : FnOk P w K mg base CX0 1 f fd ["threads", "count"] (spByt K) := by
  refine F.ok scByt (fun vs H Q E h => ?_) (fun cdv A outer s H vs Q E hr h => ?_)
  · obtain ⟨a, xs, c, rfl, _⟩ := h
    rfl
  · obtain ⟨a, xs, c, rfl, hA, lx, q⟩ := h
    refine ⟨_, pss_cons (ps_set (i := 2) scByt.nd rfl (.inl rfl) pe_dnewK)
      (pss_cons (ps_for PassesOwn.never rfl (pi_list (pv 0)) (pg_name (i := 3) scByt.nd rfl (Or.inl rfl)) (pss_one (ps_dput (hu_of hr) (pv 2) (pv 3) (pv 1) rfl)))
      (pss_one (ps_ret (pv 2)))), ?_⟩
    refine fun d nd => ?_
    have s0 : Same H (upd H d (.dK [])) := same_upd nd
    refine ⟨_, rfl, a, rfl, ⟨_, s0.seq hA⟩, for_list (K := K) (a := a) (xs := xs.map V.int) (fun i σ H' => ∃ y : Option V, σ = [some (.ref a), some (.int (c : Nat)), some (.ref d), y] ∧ Same H H' ∧
        ∃ kvs : List (Key × V), H' d = some (.dK kvs) ∧ kvs.length ≤ i ∧ ∀ (k : Nat) (t : Int), k < i → xs[k]? = some t → valV kvs (Sum.inl t) = some (.int (c : Nat)))
      ⟨none, rfl, s0, [], upd_same, Nat.le_refl _, fun k t hk => absurd hk (Nat.not_lt_zero _)⟩ (fun i σ H' _ ⟨_, _, sm, _⟩ => sm.seq hA) ?_ ?_⟩
    · rintro i y σ H' hi ⟨y0, rfl, sm, kvs, hd, hl, hk⟩
      obtain ⟨z, hz, rfl⟩ := int_at hi
      have hi' := (List.getElem?_eq_some_iff.mp hz).1
      refine ⟨_, rfl, _, rfl, _, rfl, d, _, rfl, DPut.k (k := Sum.inl z) hd (small1000 (by omega)), ?_⟩
      refine ⟨some (.int z), rfl, fun b o e => ?_, _, upd_same, ?_, fun k t hk' ht => ?_⟩
      · rw [upd_ne (ne_of_none e nd)]
        exact sm _ _ e
      · have := length_putK kvs (Sum.inl z) (V.int (c : Nat))
        omega
      · rw [valV_put]
        by_cases e : t = z
        · rw [if_pos (by rw [e])]
        · rw [if_neg (fun h => e (Sum.inl.inj h))]
          refine hk k t ?_ ht
          refine Classical.byContradiction fun n => e ?_
          have : k = i := by omega
          rw [this] at ht
          exact Option.some.inj (ht.symm.trans hz)
    · rintro σ H' ⟨y0, rfl, sm, kvs, hd, hl, hk⟩
      rw [List.length_map] at hl hk
      exact ⟨_, rfl, q H' d sm nd ⟨kvs, hd, hl, fun i t ht => hk i t (List.getElem?_eq_some_iff.mp ht).1 ht⟩⟩
end
end Tr

namespace Tr
open PySem PySem.Spec PyProof.Rows L2
open PySem.W (Codec)
open TO
/-! ### fewest_to_come -/
/-- from numbers M on the dict at D holds a dict of each set's fewest, by threads -/
def TabAt (v : Eb.Wants) (xs : List Int) (M : Nat) (H : Hp) (D : Addr) : Prop :=
  ∃ kvs : List (Key × V), H D = some (.dK kvs) ∧ kvs.length ≤ 2 ^ v.threads.length - M ∧
    ∀ m, M ≤ m → m < 2 ^ v.threads.length → ∃ e, valV kvs (Sum.inl (m : Int)) = some (.ref e) ∧ e ≠ D ∧ ThAt 24 H e xs (rem v m)
theorem TabAt.keeps {v : Eb.Wants} {xs : List Int} {M : Nat} {H H' : Hp} {D : Addr} (s : Same H H') (h : TabAt v xs M H D) : TabAt v xs M H' D :=
  let ⟨kvs, h1, h2, h3⟩ := h
  ⟨kvs, s _ _ h1, h2, fun m a b => let ⟨e, e1, e2, e3⟩ := h3 m a b; ⟨e, e1, e2, e3.keeps s⟩⟩
/-- one more set -/
theorem TabAt.more {v : Eb.Wants} {xs : List Int} {M : Nat} {H : Hp} {D e : Addr} {kvs : List (Key × V)} (hM : M < 2 ^ v.threads.length) (hD : H D = some (.dK kvs)) (hl : kvs.length ≤ 2 ^ v.threads.length - (M + 1))
    (h : ∀ m, M + 1 ≤ m → m < 2 ^ v.threads.length → ∃ e, valV kvs (Sum.inl (m : Int)) = some (.ref e) ∧ e ≠ D ∧ ThAt 24 H e xs (rem v m)) (ne : e ≠ D) (he : ThAt 24 H e xs (rem v M)) :
    TabAt v xs M (upd H D (.dK (putK kvs (Sum.inl (M : Int)) (.ref e)))) D := by
  have th : ∀ {b : Addr} {g : Nat → Nat}, b ≠ D → ThAt 24 H b xs g → ThAt 24 (upd H D (.dK (putK kvs (Sum.inl (M : Int)) (.ref e)))) b xs g := fun n ⟨k2, h1, h2, h3⟩ => ⟨k2, by rw [upd_ne n]; exact h1, h2, h3⟩
  refine ⟨_, upd_same, ?_, fun m h1 h2 => ?_⟩
  · have := length_putK kvs (Sum.inl (M : Int)) (V.ref e)
    omega
  · rw [valV_put]
    by_cases c : m = M
    · subst c
      exact ⟨e, if_pos rfl, ne, th ne he⟩
    · rw [if_neg (fun z => c (by have := Sum.inl.inj z; omega))]
      obtain ⟨b, b1, b2, b3⟩ := h m (by omega) h2
      exact ⟨b, b1, b2, th b2 b3⟩
def spFew (K : PySem.W.Frag) : Sp := fun vs H Q _ => ∃ (a b : Addr) (xs ys : List Int) (v : Eb.Wants), vs = [.ref a, .ref b] ∧ SqL K H a (xs.map V.int) ∧ SqL K H b (ys.map V.int) ∧ (∀ x ∈ xs, 0 ≤ x) ∧ (∀ y ∈ ys, 0 ≤ y) ∧
  v.threads = nn xs ∧ v.over = nn ys ∧ v.ok = true ∧ ∀ H' D, Same H H' → H D = none → TabAt v xs 0 H' D → Q (.ref D) H'
/-- one thread's count within the zip: x of thread q after i of the free ones -/
structure Part (v : Eb.Wants) (m mc i q x : Nat) : Prop where
  le : x ≤ mc + 1
  lo : ∀ j ∈ (nexts v m).take i, v.threads.getD j 0 = v.threads.getD q 0 → x ≤ rem v (m + 2 ^ j) j
  at_ : x = mc + 1 ∨ ∃ j ∈ (nexts v m).take i, v.threads.getD j 0 = v.threads.getD q 0 ∧ x = rem v (m + 2 ^ j) j
theorem Part.other {v : Eb.Wants} {m mc i q x j : Nat} (h : Part v m mc i q x) (hj : (nexts v m)[i]? = some j) (n : ¬ v.threads.getD j 0 = v.threads.getD q 0) : Part v m mc (i + 1) q x := by
  refine ⟨h.le, fun k hk e => ?_, ?_⟩
  · rw [take_more hj] at hk
    rcases List.mem_append.mp hk with hk | hk
    · exact h.lo k hk e
    · rw [List.mem_singleton.mp hk] at e
      exact absurd e n
  · rcases h.at_ with c | ⟨k, hk, e⟩
    · exact .inl c
    · exact .inr ⟨k, by rw [take_more hj]; exact List.mem_append.mpr (.inl hk), e⟩
theorem Part.same {v : Eb.Wants} {m mc i q x j : Nat} (h : Part v m mc i q x) (hj : (nexts v m)[i]? = some j) (e : v.threads.getD j 0 = v.threads.getD q 0) : Part v m mc (i + 1) q (if rem v (m + 2 ^ j) j < x then rem v (m + 2 ^ j) j else x) := by
  have hle : (if rem v (m + 2 ^ j) j < x then rem v (m + 2 ^ j) j else x) ≤ x ∧ (if rem v (m + 2 ^ j) j < x then rem v (m + 2 ^ j) j else x) ≤ rem v (m + 2 ^ j) j := by
    split <;> omega
  refine ⟨Nat.le_trans hle.1 h.le, fun k hk ek => ?_, ?_⟩
  · rw [take_more hj] at hk
    rcases List.mem_append.mp hk with hk | hk
    · exact Nat.le_trans hle.1 (h.lo k hk ek)
    · rw [List.mem_singleton.mp hk]
      exact hle.2
  · split
    · exact .inr ⟨j, by rw [take_more hj]; exact List.mem_append.mpr (.inr (List.mem_singleton.mpr rfl)), e, rfl⟩
    · rcases h.at_ with c | ⟨k, hk, e⟩
      · exact .inl c
      · exact .inr ⟨k, by rw [take_more hj]; exact List.mem_append.mpr (.inl hk), e⟩
section
variable {P : Program} {w : World} {K : PySem.W.Frag} {mg : Str → Option Value} {base : Heap}
theorem ok_few {f fF fB fR : Addr} {fd fdF fdB fdR : FuncData} (F : Fun K "fewest_to_come" "fewest_to_come" sFew f fd)
    (FB : Fun K "by_thread" "by_thread" sByt fB fdB) (bB : Binds K fdB ["threads", "count"] []) (gB : mg "by_thread" = some (.ref fB))
    (FF : Fun K "free_ones" "free_ones" sFree fF fdF) (bF : Binds K fdF ["taken", "numbers"] []) (gF : mg "free_ones" = some (.ref fF))
    (FR : Fun K "is_ready" "is_ready" sRdy fR fdR) (bR : Binds K fdR ["number", "taken"] []) (gR : mg "is_ready" = some (.ref fR)) (ml : mg "len" = none) (mn : mg "min" = none) (mr : mg "range" = none) (mz : mg "zip" = none) : FnOk P w K mg base CX0 3 f fd ["threads", "numbers"] (spFew K) := by
  have GF : FnOk P w K mg base CX0 2 fF fdF ["taken", "numbers"] (spFree K) := ok_free FF FR bR gR ml mr
  have GB : FnOk P w K mg base CX0 1 fB fdB ["threads", "count"] (spByt K) := ok_byt FB
  refine F.ok scFew (fun vs H Q E h => ?_) (fun cdv A outer s H vs Q E hr h => ?_)
  · obtain ⟨a, b, xs, ys, v, rfl, _⟩ := h
    rfl
  · obtain ⟨a, b, xs, ys, v, rfl, hA, hB, hx, hy, hv, hw, hok, q⟩ := h
    obtain ⟨hl, n1, n12, hlen, _⟩ := ok_low hok
    have xl : xs.length = v.threads.length := by rw [hv, nn_len]
    have hr1 : Room 1 _ := hr.mono (by decide)
    have hu := hu_of hr
    have p2 : 2 ^ v.threads.length ≤ 4096 := Nat.pow_le_pow_right (by decide) n12
    have p1 : 1 ≤ 2 ^ v.threads.length := Nat.two_pow_pos _
    have thr : ∀ {j : Nat}, j < v.threads.length → ∃ t : Nat, xs[j]? = some (t : Int) ∧ v.threads.getD j 0 = t := fun {j} hj => by
      obtain ⟨t, t1, t2⟩ := nn_at hx (i := j) (by omega)
      exact ⟨t, t1, by rw [hv, get_d t2]⟩
    refine ⟨_, pss_cons (ps_set (i := 2) scFew.nd rfl (.inl rfl) (pe_op op_sub (pe_op op_shl pe_int (pe_callB call_len_seq (by rfl) ml PySem.boot_len (pa_cons (pv 0) pa_nil))) pe_int))
      (pss_cons (ps_set (i := 3) scFew.nd rfl (.inr rfl) (pe_disp (pps_cons (pv 2) (pe_call GB hr1 (by rfl) gB FB.kp bB .nil pass0 (pa_cons (pv 0) (pa_cons pe_int pa_nil))) pps_nil) (by rfl) (by rfl) (fun z => by cases z) (by decide)))
      (pss_cons (ps_for PassesOwn.never rfl (pi_range3 rfl mr (pa_cons (pe_op op_sub (pv 2) pe_int) (pa_cons (pe_un un_neg pe_int) (pa_cons (pe_un un_neg pe_int) pa_nil)))) (pg_name (i := 4) scFew.nd rfl (Or.inr rfl))
        (pss_cons (ps_set (i := 5) scFew.nd rfl (.inl rfl) (pe_call GF hr (by rfl) gF FF.kp bF .nil pass0 (pa_cons (pv 4) (pa_cons (pv 1) pa_nil))))
        (pss_cons (ps_setLc (i := 6) (own := [("j", 7)]) (g := gName 7) (tt := tYes) rfl scFew.nd rfl rfl (sw_true rfl rfl rfl (by decide +kernel)) (pi_list (pv 5)) (blkOk_by (N := ["threads", "numbers", "full", "to_come", "taken", "free", "counts", "j", "fewest", "count"]) (sc := defScope sFew) (by decide +kernel)) (fun _ _ _ _ _ => pg_name (i := 7) scFew.nd rfl (Or.inl rfl)) (fun _ _ _ _ _ => pts_nil)
            (fun _ _ _ _ _ => pe_dget hu (pe_dget hu (pv 3) (pe_op op_or (pv 4) (pe_op op_shl pe_int (pv 7))) (fun _ _ => rfl)) (pe_ix (r := rIxL K) ix_list (pv 0) (pv 7) (fun _ _ => rfl)) (fun _ _ => rfl)))
        (pss_cons (ps_set (i := 8) scFew.nd rfl (.inl rfl) (pe_call GB hr1 (by rfl) gB FB.kp bB .nil pass0 (pa_cons (pv 0) (pa_cons (pe_op op_add (pe_callB (cr_min rfl) (by rfl) mn (by decide +kernel) (pa_cons (pv 6) pa_nil)) pe_int) pa_nil))))
        (pss_cons (ps_for PassesOwn.never rfl (pi_zip (by rfl) mz (pa_cons (pv 5) (pa_cons (pv 6) pa_nil))) (pg_tup rfl (pgs_cons (pg_name (i := 7) scFew.nd rfl (Or.inl rfl)) (pgs_cons (pg_name (i := 9) scFew.nd rfl (Or.inl rfl)) pgs_nil)))
          (pss_one (ps_dput hu (pv 8) (pe_ix ix_list (pv 0) (pv 7) (fun _ _ => rfl)) (pe_callB (call_min2 rfl) (by rfl) mn (by decide +kernel) (pa_cons (pe_dget hu (pv 8) (pe_ix ix_list (pv 0) (pv 7) (fun _ _ => rfl)) (fun _ _ => rfl)) (pa_cons (pv 9) pa_nil))) rfl)))
        (pss_one (ps_dput hu (pv 3) (pv 4) (pv 8) rfl)))))))
      (pss_one (ps_ret (pv 3))))), ?_⟩
    refine ⟨_, rfl, a, _, rfl, .inl hA, _, _, rfl, rfl, ⟨by omega, by rw [List.length_map]; omega, by decide⟩, _, _, rfl, rfl, ?_⟩
    rw [List.length_map, xl, Int.toNat_natCast]
    have efull : ((1 : Int) * 2 ^ v.threads.length - 1) = ((2 ^ v.threads.length - 1 : Nat) : Int) := by
      have e0 : ((2 ^ v.threads.length : Nat) : Int) = 2 ^ v.threads.length := by simp
      omega
    dsimp only
    rw [efull]
    refine fun D nD => ?_
    have sD : Same H (upd H D (.dK [])) := same_upd nD
    refine ⟨_, rfl, _, rfl, a, xs, 0, rfl, sD.seq hA, by omega, fun H1 e s1 ne he => ?_⟩
    refine ⟨s1 _ _ upd_same, [(Sum.inl ((2 ^ v.threads.length - 1 : Nat) : Int), .ref e)], rfl, (by show 1 ≤ 15; decide), ?_⟩
    have hD1 : H1 D = some (.dK []) := s1 _ _ upd_same
    have eD : e ≠ D := (ne_of_none upd_same ne).symm
    have sH2 : Same H (upd H1 D (.dK (mergeK [] [(Sum.inl ((2 ^ v.threads.length - 1 : Nat) : Int), V.ref e)]))) := fun b o h => by
      rw [upd_ne (ne_of_none h nD)]
      exact s1 _ _ (sD _ _ h)
    have tab0 : TabAt v xs (2 ^ v.threads.length - 1) (upd H1 D (.dK (mergeK [] [(Sum.inl ((2 ^ v.threads.length - 1 : Nat) : Int), V.ref e)]))) D := by
      refine TabAt.more (by omega) hD1 (Nat.zero_le _) (fun m h1 h2 => by omega) eD ?_
      obtain ⟨k2, h1, h2, h3⟩ := he
      refine ⟨k2, h1, by omega, fun i t ht => ?_⟩
      have hi := (List.getElem?_eq_some_iff.mp ht).1
      rw [rem_full (by omega) (by omega) rfl]
      exact h3 i t ht
    generalize upd H1 D (.dK (mergeK [] [(Sum.inl ((2 ^ v.threads.length - 1 : Nat) : Int), V.ref e)])) = H2 at sH2 tab0
    refine ⟨_, rfl, _, _, rfl, rfl, _, rfl, _, rfl, _, _, _, _, rfl, RgC.neg (by omega) (by omega) (by omega) (by omega), ?_⟩
    have en : (((2 ^ v.threads.length - 1 : Nat) : Int) - 1 - -1).toNat = 2 ^ v.threads.length - 1 := by omega
    refine for_it (walk_rangeC (lo := ((2 ^ v.threads.length - 1 : Nat) : Int) - 1) (c := -1) (n := _)) (fun i σ H' => ∃ y4 y5 y6 y7 y8 y9 : Option V, σ = [some (.ref a), some (.ref b), some (.int ((2 ^ v.threads.length - 1 : Nat) : Int)), some (.ref D), y4, y5, y6, y7, y8, y9] ∧ Same H H' ∧ TabAt v xs (2 ^ v.threads.length - 1 - i) H' D)
      ⟨none, none, none, none, none, none, rfl, sH2, tab0⟩ (fun i σ H' _ _ => trivial) ?_ ?_
    · rintro i x σ H3 H4 hi ⟨y4, y5, y6, y7, y8, y9, rfl, sm, tab⟩ ⟨rfl, ex⟩
      rw [en] at hi
      have ex : x = V.int (((2 ^ v.threads.length - 1 : Nat) : Int) - 1 + (i : Nat) * -1) := ex
      obtain ⟨m, em, em2⟩ : ∃ m : Nat, m + 1 = 2 ^ v.threads.length - 1 - i ∧ ((2 ^ v.threads.length - 1 : Nat) : Int) - 1 + (i : Nat) * -1 = (m : Int) := ⟨2 ^ v.threads.length - 1 - i - 1, by omega, by omega⟩
      rw [em2] at ex
      subst ex
      rw [← em] at tab
      have mlt : m < 2 ^ v.threads.length := by omega
      have mnf : m ≠ 2 ^ v.threads.length - 1 := by omega
      refine ⟨_, rfl, _, rfl, m, b, ys, v, rfl, sm.seq hB, hy, hw, hok, fun H5 C5 s5 n5 h5 => ?_⟩
      have sm5 := sm.trans s5
      have tab5 := tab.keeps s5
      have hF : SqL K H5 C5 ((natsI (nexts v m)).map V.int) := SqL.of h5
      have nl : (nexts v m).length ≤ 12 := by
        unfold nexts
        have := List.length_filter_le (Eb.mayNext v m) (List.range v.threads.length)
        rw [List.length_range] at this
        omega
      have npos : 0 < (nexts v m).length := List.length_pos_iff.mpr (nexts_ne mlt mnf)
      refine ⟨_, rfl, C5, rfl, ⟨_, hF⟩, fun C6 n6 => lc_list (K := K) (a := C5) (xs := (natsI (nexts v m)).map V.int) (fun i H' => Same H5 H' ∧ NsAt H' C6 (natsI (((nexts v m).take i).map fun j => rem v (m + 2 ^ j) j))) ⟨same_upd n6, upd_same⟩ (fun i H' _ h => h.1.seq hF) ?_ ?_⟩
      · rintro i2 y H' hi2 ⟨s6, hC⟩
        obtain ⟨z, hz, rfl⟩ := int_at hi2
        obtain ⟨j, hj, rfl⟩ := at_natsI hz
        have hjm := List.mem_of_getElem? hj
        obtain ⟨j1, j2, _⟩ := mem_nexts.mp hjm
        obtain ⟨t, t1, t2⟩ := thr j1
        obtain ⟨kvs, k1, k2, k3⟩ := tab5.keeps s6
        have lt2 := next_lt mlt hjm
        have pj := Nat.two_pow_pos j
        obtain ⟨e2, e3, e4, kv2, e5, e6, e7⟩ := k3 (m + 2 ^ j) (by omega) lt2
        refine ⟨rfl, ?_⟩
        refine ⟨_, rfl, _, rfl, _, rfl, _, _, rfl, rfl, ⟨by omega, by omega, by decide⟩, _, _, rfl, rfl, ?_⟩
        dsimp only
        rw [or_int_bit j2]
        refine ⟨D, .ref e2, rfl, by have := DGet.k (k := Sum.inl ((m + 2 ^ j : Nat) : Int)) k1; rwa [e3] at this, ?_⟩
        refine ⟨_, rfl, _, rfl, a, _, _, .int (t : Nat), rfl, rfl, s6.seq (sm5.seq hA), at_of (j := j) rfl (int_of t1), ?_⟩
        refine ⟨e2, .int (rem v (m + 2 ^ j) j : Nat), rfl, by have := DGet.k (k := Sum.inl ((t : Nat) : Int)) e5; rwa [e7 j t t1] at this, ?_⟩
        refine ⟨_, hC, ?_, fun c o hc => ?_, ?_⟩
        · rw [List.length_map, natsI_len, List.length_map, List.length_take]
          exact small1000 (by omega)
        · rw [upd_ne (ne_of_none hc n6)]
          exact s6 _ _ hc
        · show upd H' C6 _ C6 = _
          rw [upd_same, take_more hj]
          unfold natsI
          rw [List.map_append, List.map_append, List.map_append]
          rfl
      · rintro H6 ⟨s6, hC⟩
        rw [List.length_map, natsI_len, List.take_length] at hC
        have hCs : SqL K H6 C6 ((natsI ((nexts v m).map fun j => rem v (m + 2 ^ j) j)).map V.int) := SqL.of hC
        refine ⟨_, rfl, _, rfl, C6, _, rfl, hCs, by rw [natsI_len, List.length_map]; exact npos, fun mc hm hle => ⟨_, _, rfl, rfl, ?_⟩⟩
        obtain ⟨mc', hmc, rfl⟩ : ∃ k : Nat, k ∈ (nexts v m).map (fun j => rem v (m + 2 ^ j) j) ∧ mc = (k : Int) := by
          unfold natsI at hm
          obtain ⟨k, hk, e⟩ := List.mem_map.mp hm
          exact ⟨k, hk, e.symm⟩
        have hle' : ∀ j ∈ nexts v m, mc' ≤ rem v (m + 2 ^ j) j := fun j hj => by
          have := hle ((rem v (m + 2 ^ j) j : Nat) : Int) (List.mem_map.mpr ⟨_, List.mem_map.mpr ⟨j, hj, rfl⟩, rfl⟩)
          omega
        have hmc' : ∃ j ∈ nexts v m, mc' = rem v (m + 2 ^ j) j := by
          obtain ⟨j, hj, e⟩ := List.mem_map.mp hmc
          exact ⟨j, hj, e.symm⟩
        have sm6 := sm5.trans s6
        refine ⟨a, xs, mc' + 1, rfl, sm6.seq hA, by omega, fun H7 e s7 n7 h7 => ?_⟩
        have sm7 := sm6.trans s7
        have hF7 : SqL K H7 C5 ((natsI (nexts v m)).map V.int) := s7.seq (s6.seq hF)
        have hC7 := s7.seq hCs
        refine ⟨_, rfl, _, rfl, C5, C6, _, _, rfl, hF7, hC7, RZ.for_zipL (K := K) (by rw [List.length_map, List.length_map, natsI_len, natsI_len, List.length_map])
          (fun i2 σ H' => ∃ y7 y9 : Option V, σ = [some (.ref a), some (.ref b), some (.int ((2 ^ v.threads.length - 1 : Nat) : Int)), some (.ref D), some (.int (m : Nat)), some (.ref C5), some (.ref C6), y7, some (.ref e), y9] ∧ Same H6 H' ∧
            ∃ kvs : List (Key × V), H' e = some (.dK kvs) ∧ kvs.length ≤ xs.length + i2 ∧ ∀ (p : Nat) (t : Int), xs[p]? = some t → ∃ x : Nat, valV kvs (Sum.inl t) = some (.int (x : Nat)) ∧ Part v m mc' i2 p x)
          ?_ (fun i2 σ H' ⟨_, _, _, s8, _⟩ => ⟨s8.seq (s6.seq hF), s8.seq hCs⟩) ?_ ?_⟩
        · obtain ⟨kvs, k1, k2, k3⟩ := h7
          exact ⟨_, _, rfl, s7, kvs, k1, k2, fun p t hp => ⟨mc' + 1, k3 p t hp, Nat.le_refl _, fun j hj => by simp at hj, .inl rfl⟩⟩
        · rintro i2 x y T σ H8 hxi hyi ⟨y7, y9, rfl, s8, kvs, k1, k2, k3⟩ nT
          obtain ⟨z, hz, rfl⟩ := int_at hxi
          obtain ⟨j, hj, rfl⟩ := at_natsI hz
          obtain ⟨z2, hz2, rfl⟩ := int_at hyi
          obtain ⟨c, hc, rfl⟩ := at_natsI hz2
          rw [List.getElem?_map, hj] at hc
          obtain rfl : rem v (m + 2 ^ j) j = c := Option.some.inj hc
          obtain ⟨j1, j2, _⟩ := mem_nexts.mp (List.mem_of_getElem? hj)
          obtain ⟨t, t1, t2⟩ := thr j1
          obtain ⟨x, x1, x2⟩ := k3 j t t1
          have sT := same_upd (o := .tup [.int (j : Nat), .int ((rem v (m + 2 ^ j) j : Nat) : Int)]) nT
          have k1' := sT _ _ k1
          have hA8 := sT.seq (s8.seq (sm6.seq hA))
          refine ⟨T, _, rfl, SqT.of upd_same, rfl, _, _, rfl, _, _, rfl, rfl, ?_⟩
          refine ⟨_, rfl, _, rfl, _, rfl, a, _, _, .int (t : Nat), rfl, rfl, hA8, at_of (j := j) rfl (int_of t1), ?_⟩
          refine ⟨e, .int (x : Nat), rfl, by have := DGet.k (k := Sum.inl ((t : Nat) : Int)) k1'; rwa [x1] at this, ?_⟩
          refine ⟨_, rfl, _, _, rfl, _, rfl, _, rfl, _, rfl, a, _, _, .int (t : Nat), rfl, rfl, hA8, at_of (j := j) rfl (int_of t1), ?_⟩
          have emin : (if ((rem v (m + 2 ^ j) j : Nat) : Int) < ((x : Nat) : Int) then ((rem v (m + 2 ^ j) j : Nat) : Int) else ((x : Nat) : Int)) = ((if rem v (m + 2 ^ j) j < x then rem v (m + 2 ^ j) j else x : Nat) : Int) := by
            by_cases c : rem v (m + 2 ^ j) j < x
            · rw [if_pos c, if_pos (by omega)]
            · rw [if_neg c, if_neg (by omega)]
          dsimp only
          rw [emin]
          refine ⟨e, _, rfl, DPut.k (k := Sum.inl ((t : Nat) : Int)) k1' (small1000 (by
            have hi3 := (List.getElem?_eq_some_iff.mp hj).1
            omega)), ?_⟩
          refine ⟨_, _, rfl, fun c o hc => ?_, _, upd_same, ?_, fun p t' hp => ?_⟩
          · have hne : c ≠ e := fun z => by
              rw [z, n7] at hc
              cases hc
            rw [upd_ne hne]
            exact sT _ _ (s8 _ _ hc)
          · have := length_putK kvs (Sum.inl ((t : Nat) : Int)) (V.int ((if rem v (m + 2 ^ j) j < x then rem v (m + 2 ^ j) j else x : Nat) : Int))
            omega
          · obtain ⟨x', x1', x2'⟩ := k3 p t' hp
            have hpl := (List.getElem?_eq_some_iff.mp hp).1
            obtain ⟨tp, tp1, tp2⟩ := thr (j := p) (by omega)
            rw [hp] at tp1
            have etp : t' = (tp : Int) := Option.some.inj tp1
            rw [valV_put]
            by_cases c : t' = (t : Int)
            · rw [if_pos (by rw [c])]
              rw [c, x1] at x1'
              have exx : x = x' := by
                have := Option.some.inj x1'
                injection this with this
                omega
              subst exx
              exact ⟨_, rfl, x2'.same hj (by rw [t2, tp2]; omega)⟩
            · rw [if_neg (fun h => c (Sum.inl.inj h))]
              exact ⟨x', x1', x2'.other hj (by rw [t2, tp2]; omega)⟩
        · rintro σ H8 ⟨y7, y9, rfl, s8, kvs, k1, k2, k3⟩
          rw [List.length_map, natsI_len] at k2 k3
          have hth : ThAt 24 H8 e xs (rem v m) := by
            refine ⟨kvs, k1, by omega, fun p t hp => ?_⟩
            obtain ⟨x, x1, x2⟩ := k3 p t hp
            have hpl := (List.getElem?_eq_some_iff.mp hp).1
            have e1 := x2.lo
            have e2 := x2.at_
            rw [List.take_length] at e1 e2
            rw [x1, rem_by n12 mlt (i := p) (by omega) mnf hmc' hle' x2.le e1 e2]
          obtain ⟨kt, kt1, kt2, kt3⟩ := (tab5.keeps s6).keeps s8
          have neD : e ≠ D := fun z => by
            have := (tab5.keeps s6)
            obtain ⟨ku, ku1, _⟩ := this
            rw [← z, n7] at ku1
            cases ku1
          refine ⟨_, rfl, _, rfl, _, rfl, D, _, rfl, DPut.k (k := Sum.inl ((m : Nat) : Int)) kt1 (Nat.lt_of_le_of_lt kt2 (small5000 (by omega))), ?_⟩
          refine ⟨_, _, _, _, _, _, rfl, fun c o hc => ?_, ?_⟩
          · rw [upd_ne (ne_of_none hc nD)]
            exact s8 _ _ (sm6 _ _ hc)
          · have := TabAt.more mlt kt1 kt2 kt3 neD hth
            rwa [show 2 ^ v.threads.length - 1 - (i + 1) = m by omega]
    · rintro σ H' ⟨y4, y5, y6, y7, y8, y9, rfl, sm, tab⟩
      rw [en, Nat.sub_self] at tab
      exact ⟨_, rfl, q H' D sm nD tab⟩
end
end Tr

namespace Tr
open PySem PySem.Spec PyProof.Rows L2
open PySem.W (Codec)
open TO
/-! ### told_order -/
theorem cut_last (p : List Nat) : cutV ((natsI p).map V.int) (some (-1)) none = (natsI p.getLast?.toList).map V.int := by
  have e : cutV ((natsI p).map V.int) (some (-1)) none = (((natsI p).map V.int).drop (p.length - 1)).take (p.length - (p.length - 1)) := by
    unfold cutV
    have h1 : ((natsI p).map V.int).length = p.length := by rw [List.length_map, natsI_len]
    rw [h1]
    have h2 : HT.sIx p.length 0 (some (-1)) = p.length - 1 := by
      show (if (-1 : Int) < 0 then ((-1 : Int) + (p.length : Int)).toNat else min (-1 : Int).toNat p.length) = _
      rw [if_pos (by decide)]
      omega
    rw [h2]
    rfl
  rw [e, ← last_of p]
  unfold natsI
  rw [List.map_map, List.map_map, ← List.map_drop, ← List.map_take]
def spTold (K : PySem.W.Frag) : Sp := fun vs H Q _ => ∃ (a b : Addr) (xs ys : List Int) (v : Eb.Wants), vs = [.ref a, .ref b] ∧ SqL K H a (xs.map V.int) ∧ SqL K H b (ys.map V.int) ∧ (∀ x ∈ xs, 0 ≤ x) ∧ (∀ y ∈ ys, 0 ≤ y) ∧
  v.threads = nn xs ∧ v.over = nn ys ∧ v.ok = true ∧ ∀ H' D, Same H H' → H D = none → NsAt H' D (natsI (Eb.leastOrder v)) → Q (.ref D) H'
section
variable {P : Program} {w : World} {K : PySem.W.Frag} {mg : Str → Option Value} {base : Heap}
theorem ok_told {f fW fF fB fR fG : Addr} {fd fdW fdF fdB fdR fdG : FuncData} (F : Fun K "told_order" "told_order" sTold f fd)
    (FW : Fun K "fewest_to_come" "fewest_to_come" sFew fW fdW) (bW : Binds K fdW ["threads", "numbers"] []) (gW : mg "fewest_to_come" = some (.ref fW))
    (FB : Fun K "by_thread" "by_thread" sByt fB fdB) (bB : Binds K fdB ["threads", "count"] []) (gB : mg "by_thread" = some (.ref fB))
    (FF : Fun K "free_ones" "free_ones" sFree fF fdF) (bF : Binds K fdF ["taken", "numbers"] []) (gF : mg "free_ones" = some (.ref fF))
    (FR : Fun K "is_ready" "is_ready" sRdy fR fdR) (bR : Binds K fdR ["number", "taken"] []) (gR : mg "is_ready" = some (.ref fR))
    (FG : Fun K "changes_of" "changes_of" sChg fG fdG) (bG : Binds K fdG ["row", "threads"] []) (gG : mg "changes_of" = some (.ref fG))
    (ml : mg "len" = none) (mn : mg "min" = none) (mr : mg "range" = none) (mz : mg "zip" = none) : FnOk P w K mg base CX0 4 f fd ["threads", "numbers"] (spTold K) := by
  have GW : FnOk P w K mg base CX0 3 fW fdW ["threads", "numbers"] (spFew K) := ok_few FW FB bB gB FF bF gF FR bR gR ml mn mr mz
  have GF : FnOk P w K mg base CX0 2 fF fdF ["taken", "numbers"] (spFree K) := ok_free FF FR bR gR ml mr
  have GG : FnOk P w K mg base CX0 1 fG fdG ["row", "threads"] (spChg K) := ok_chg FG ml mr
  refine F.ok scTold (fun vs H Q E h => ?_) (fun cdv A outer s H vs Q E hr h => ?_)
  · obtain ⟨a, b, xs, ys, v, rfl, _⟩ := h
    rfl
  · obtain ⟨a, b, xs, ys, v, rfl, hA, hB, hx, hy, hv, hw, hok, q⟩ := h
    obtain ⟨hl, n1, n12, hlen, _⟩ := ok_low hok
    have xl : xs.length = v.threads.length := by rw [hv, nn_len]
    have hr2 : Room 2 _ := hr.mono (by decide)
    have hr1 : Room 1 _ := hr.mono (by decide)
    have hu := hu_of hr
    have thr : ∀ {j : Nat}, j < v.threads.length → ∃ t : Nat, xs[j]? = some (t : Int) ∧ v.threads.getD j 0 = t := fun {j} hj => by
      obtain ⟨t, t1, t2⟩ := nn_at hx (i := j) (by omega)
      exact ⟨t, t1, by rw [hv, get_d t2]⟩
    refine ⟨_, pss_cons (ps_set (i := 2) scTold.nd rfl (.inr rfl) (pe_call GW hr (by rfl) gW FW.kp bW .nil pass0 (pa_cons (pv 0) (pa_cons (pv 1) pa_nil))))
      (pss_cons (ps_set (i := 3) scTold.nd rfl (.inr rfl) (pe_lst pa_nil))
      (pss_cons (ps_set (i := 4) scTold.nd rfl (.inr rfl) pe_int)
      (pss_cons (ps_for PassesOwn.never rfl (pi_range1 rfl mr (pa_cons (pe_callB call_len_seq (by rfl) ml PySem.boot_len (pa_cons (pv 0) pa_nil)) pa_nil)) (pg_name (i := 5) scTold.nd rfl (Or.inl rfl))
        (pss_cons (ps_set (i := 6) scTold.nd rfl (.inl rfl) (pe_call GF hr2 (by rfl) gF FF.kp bF .nil pass0 (pa_cons (pv 4) (pa_cons (pv 1) pa_nil))))
        (pss_cons (ps_setLc (i := 7) (own := [("j", 8)]) (g := gName 8) (tt := tYes) rfl scTold.nd rfl rfl (sw_true rfl rfl rfl (by decide +kernel)) (pi_list (pv 6)) (blkOk_by (N := ["threads", "numbers", "to_come", "told", "taken", "place", "free", "counts", "j", "chosen"]) (sc := defScope sTold) (by decide +kernel)) (fun _ _ _ _ _ => pg_name (i := 8) scTold.nd rfl (Or.inl rfl)) (fun _ _ _ _ _ => pts_nil)
            (fun _ _ _ _ _ => pe_op op_add (pe_call GG hr1 (by rfl) gG FG.kp bG .nil pass0 (pa_cons (pe_op op_cat (pe_slice (r := rSlL K) sl_list (pv 3) (po_some (pe_un un_neg pe_int)) po_none) (pe_lst (pa_cons (pv 8) pa_nil))) (pa_cons (pv 0) pa_nil)))
              (pe_dget hu (pe_dget hu (pv 2) (pe_op op_or (pv 4) (pe_op op_shl pe_int (pv 8))) (fun _ _ => rfl)) (pe_ix (r := rIxL K) ix_list (pv 0) (pv 8) (fun _ _ => rfl)) (fun _ _ => rfl))))
        (pss_cons (ps_set (i := 9) scTold.nd rfl (.inl rfl) (pe_ix ix_list (pv 6) (pe_bm PySem.F.plainAttrs_list PySem.F.slot_list_index PySem.F.type_list_index mt_index (pv 7) (pa_cons (pe_callB (cr_min rfl) (by rfl) mn (by decide +kernel) (pa_cons (pv 7) pa_nil)) pa_nil)) (fun _ _ => rfl)))
        (pss_cons (ps_expr (pe_bm PySem.F.plainAttrs_list PySem.F.slot_list_append PySem.F.type_list_append mt_append (pv 3) (pa_cons (pv 9) pa_nil)))
        (pss_one (ps_set (i := 4) scTold.nd rfl (.inr rfl) (pe_op op_or (pv 4) (pe_op op_shl pe_int (pv 9))))))))))
      (pss_one (ps_ret (pv 3)))))), ?_⟩
    refine ⟨_, rfl, _, rfl, a, b, xs, ys, v, rfl, hA, hB, hx, hy, hv, hw, hok, fun H1 D s1 nD tab => ?_⟩
    refine ⟨(by show 0 ≤ sizeLine; decide), fun L nL => ?_⟩
    refine ⟨_, rfl, a, _, rfl, .inl ((same_upd nL).seq (s1.seq hA)), _, rfl, ?_⟩
    rw [List.length_map, xl]
    refine ⟨by omega, by omega, ?_⟩
    rw [show ((v.threads.length : Nat) : Int).toNat = v.threads.length by omega]
    refine for_it (walk_range (lo := 0) (n := v.threads.length)) (fun i σ H' => ∃ (y5 y6 y7 y8 y9 : Option V) (p : List Nat) (m : Nat), σ = [some (.ref a), some (.ref b), some (.ref D), some (.ref L), some (.int (m : Nat)), y5, y6, y7, y8, y9] ∧ Same H1 H' ∧
        H' L = some (.lst ((natsI p).map V.int)) ∧ p.length = i ∧ Taken v p m ∧ Goes v p m)
      ⟨none, none, none, none, none, [], 0, rfl, same_upd nL, upd_same, rfl, Taken.start v, Goes.start v⟩ (fun i σ H' _ _ => trivial) ?_ ?_
    · rintro i x σ H2 H3 hi ⟨y5, y6, y7, y8, y9, p, m, rfl, sm, hL, pl, tk, go⟩ ⟨rfl, ex⟩
      have ex : x = V.int (0 + (i : Nat)) := ex
      subst ex
      have mlt := tk.lt
      have mnf : m ≠ 2 ^ v.threads.length - 1 := fun z => by
        have := tk.full.mp z
        omega
      refine ⟨_, rfl, _, rfl, m, b, ys, v, rfl, sm.seq (s1.seq hB), hy, hw, hok, fun H5 C5 s5 n5 h5 => ?_⟩
      have sm5 := sm.trans s5
      have sH5 := s1.trans sm5
      have hL5 := s5 _ _ hL
      have tab5 := tab.keeps sm5
      have hF : SqL K H5 C5 ((natsI (nexts v m)).map V.int) := SqL.of h5
      have nl : (nexts v m).length ≤ 12 := by
        unfold nexts
        have := List.length_filter_le (Eb.mayNext v m) (List.range v.threads.length)
        rw [List.length_range] at this
        omega
      have npos : 0 < (nexts v m).length := List.length_pos_iff.mpr (nexts_ne mlt mnf)
      refine ⟨_, rfl, C5, rfl, ⟨_, hF⟩, fun C6 n6 => lc_list (K := K) (a := C5) (xs := (natsI (nexts v m)).map V.int) (fun i H' => Same H5 H' ∧ NsAt H' C6 (natsI (((nexts v m).take i).map (cost v m p.getLast?)))) ⟨same_upd n6, upd_same⟩ (fun i H' _ h => h.1.seq hF) ?_ ?_⟩
      · rintro i2 y H' hi2 ⟨s6, hC⟩
        obtain ⟨z, hz, rfl⟩ := int_at hi2
        obtain ⟨j, hj, rfl⟩ := at_natsI hz
        have hjm := List.mem_of_getElem? hj
        obtain ⟨j1, j2, _⟩ := mem_nexts.mp hjm
        obtain ⟨t, t1, t2⟩ := thr j1
        have lt2 := next_lt mlt hjm
        refine ⟨rfl, ?_⟩
        refine ⟨_, rfl, _, rfl, _, rfl, L, _, rfl, SqL.of (s6 _ _ hL5), fun S1 nS1 => ?_⟩
        have q1 := same_upd (o := .lst (cutV ((natsI p).map V.int) (some (-1)) none)) nS1
        refine ⟨_, rfl, (by show 1 ≤ sizeLine; decide), fun S2 nS2 => ?_⟩
        have q2 := same_upd (o := .lst [V.int ((j : Nat) : Int)]) nS2
        have ol : p.getLast?.toList.length ≤ 1 := by cases p.getLast? <;> simp
        refine ⟨S1, S2, _, _, rfl, rfl, q2 _ _ upd_same, upd_same, ?_, fun S3 nS3 => ?_⟩
        · rw [cut_last, List.length_map, natsI_len]
          exact Nat.le_trans (Nat.add_le_add_right ol _) (by show 2 ≤ sizeLine; decide)
        have q3 := same_upd (o := .lst (cutV ((natsI p).map V.int) (some (-1)) none ++ [V.int ((j : Nat) : Int)])) nS3
        have s63 := s6.trans (q1.trans (q2.trans q3))
        refine ⟨_, rfl, S3, a, p.getLast?.toList ++ [j], xs, v, rfl, ?_, s63.seq (sH5.seq hA), hx, hv, ?_, ?_, fun H7 s7 => ?_⟩
        · refine SqL.of ?_
          rw [upd_same, cut_last]
          unfold natsI
          rw [List.map_append, List.map_append]
          rfl
        · rw [List.length_append]
          simp only [List.length_cons, List.length_nil]
          omega
        · intro k hk
          rcases List.mem_append.mp hk with hk | hk
          · rw [xl]
            refine tk.all k ?_
            cases e : p.getLast? with
            | none => rw [e] at hk; simp at hk
            | some z =>
              rw [e] at hk
              have : k = z := by simpa using hk
              rw [this]
              exact List.mem_of_getLast? e
          · rw [List.mem_singleton.mp hk, xl]
            exact j1
        have s67 := s63.trans s7
        have sM : Same H' H7 := (q1.trans (q2.trans q3)).trans s7
        obtain ⟨kvs, k1, k2, k3⟩ := tab5.keeps s67
        obtain ⟨e2, e3, e4, kv2, e5, e6, e7⟩ := k3 (m + 2 ^ j) (Nat.zero_le _) lt2
        refine ⟨_, rfl, _, rfl, _, rfl, _, _, rfl, rfl, ⟨by omega, by omega, by decide⟩, _, _, rfl, rfl, ?_⟩
        dsimp only
        rw [or_int_bit j2]
        refine ⟨D, .ref e2, rfl, by have := DGet.k (k := Sum.inl ((m + 2 ^ j : Nat) : Int)) k1; rwa [e3] at this, ?_⟩
        refine ⟨_, rfl, _, rfl, a, _, _, .int (t : Nat), rfl, rfl, s67.seq (sH5.seq hA), at_of (j := j) rfl (int_of t1), ?_⟩
        refine ⟨e2, .int (rem v (m + 2 ^ j) j : Nat), rfl, by have := DGet.k (k := Sum.inl ((t : Nat) : Int)) e5; rwa [e7 j t t1] at this, ?_⟩
        refine ⟨_, _, rfl, rfl, _, sM _ _ hC, ?_, fun c o hc => ?_, ?_⟩
        · rw [List.length_map, natsI_len, List.length_map, List.length_take]
          exact small1000 (by omega)
        · rw [upd_ne (ne_of_none hc n6)]
          exact s67 _ _ hc
        · show upd H7 C6 _ C6 = _
          rw [upd_same, take_more hj, chg_last]
          unfold natsI
          rw [List.map_append, List.map_append, List.map_append]
          rfl
      · rintro H6 ⟨s6, hC⟩
        rw [List.length_map, natsI_len, List.take_length] at hC
        have hCs : SqL K H6 C6 ((natsI ((nexts v m).map (cost v m p.getLast?))).map V.int) := SqL.of hC
        refine ⟨_, rfl, _, rfl, .inl ⟨rfl, _, hCs⟩, _, rfl, C6, _, rfl, hCs, by rw [natsI_len, List.length_map]; exact npos, fun mn' hm hle => ?_⟩
        obtain ⟨k, hk, hno⟩ := first_at hm
        obtain ⟨mc, hmc, rfl⟩ := at_natsI hk
        obtain ⟨x, x1, x2, x3⟩ := pick_first (v := v) (m := m) (k := k) (mn := mc) (o := p.getLast?) hmc (fun c hc => by
          have := hle (c : Int) (List.mem_map.mpr ⟨c, hc, rfl⟩)
          omega) (fun i c hi hc z => hno i c hi (natsI_at hc) (by rw [z]))
        have hxm := List.mem_of_getElem? x1
        obtain ⟨xj1, xj2, _⟩ := mem_nexts.mp hxm
        refine ⟨C6, _, .int (mc : Nat), k, .int (mc : Nat), rfl, rfl, hCs, rfl, ?_, int_of (natsI_at hmc), by show ((mc : Int) == (mc : Int)) = true; simp, fun i z hi hz => ?_, ?_⟩
        · rw [List.all_map, List.all_eq_true]
          intro _ _
          rfl
        · obtain ⟨c, hc, rfl⟩ := int_at hz
          have := hno i c hi hc
          show (c == (mc : Int)) = false
          simpa using this
        refine ⟨C5, _, _, .int (x : Nat), rfl, rfl, s6.seq hF, at_of (j := k) rfl (int_of (natsI_at x1)), ?_⟩
        have hL6 := s6 _ _ hL5
        refine ⟨_, rfl, .inl ⟨rfl, _, SqL.of hL6⟩, _, rfl, L, _, _, rfl, rfl, hL6, ?_, ?_⟩
        · rw [List.length_map, natsI_len, pl]
          exact small1000 (by omega)
        refine ⟨_, rfl, _, rfl, _, _, rfl, rfl, ⟨by omega, by omega, by decide⟩, _, _, rfl, rfl, ?_⟩
        dsimp only
        rw [or_int_bit xj2]
        refine ⟨_, _, _, _, _, p ++ [x], m + 2 ^ x, rfl, fun c o hc => ?_, ?_, ?_, tk.step xj1 xj2, go.step n12 mlt hxm x2 x3⟩
        · rw [upd_ne (ne_of_none hc nL)]
          exact s6 _ _ (sm5 _ _ hc)
        · rw [upd_same]
          unfold natsI
          rw [List.map_append, List.map_append]
          rfl
        · rw [List.length_append, pl]
          rfl
    · rintro σ H' ⟨y5, y6, y7, y8, y9, p, m, rfl, sm, hL, pl, tk, go⟩
      have e := go.done n12 (tk.full.mpr pl)
      rw [e] at hL
      exact ⟨_, rfl, q H' L (s1.trans sm) (s1.free nL) hL⟩
end
end Tr

namespace Tr
open PySem PySem.Spec PyProof.Rows L2
open PySem.W (Codec)
open TO
/-! ### order -/
def dueR (xs ys : List Int) : List Int := if (wants xs ys).ok = true then ((Eb.changes (wants xs ys) (Eb.leastOrder (wants xs ys)) : Nat) : Int) :: ofNats (Eb.leastOrder (wants xs ys)) else [-1]
def spOrd (K : PySem.W.Frag) : Sp := fun vs H Q _ => ∃ (a b : Addr) (xs ys : List Int), vs = [.ref a, .ref b] ∧ SqL K H a (xs.map V.int) ∧ SqL K H b (ys.map V.int) ∧ xs.length ≤ 30 ∧ ys.length ≤ 30 ∧
  (∀ x ∈ xs, 0 ≤ x) ∧ (∀ y ∈ ys, 0 ≤ y) ∧ ∀ (H' : Hp) (p : Addr), H' p = some (.lst ((dueR xs ys).map V.int)) → Q (.ref p) H'
section
variable {P : Program} {w : World} {K : PySem.W.Frag} {mg : Str → Option Value} {base : Heap}
theorem ok_ord {f fT fC fD fW fF fB fR fG : Addr} {fd fdT fdC fdD fdW fdF fdB fdR fdG : FuncData} {tM : Tok} (F : Fun K "order" "order" sOrd f fd)
    (FT : Fun K "is_task_refused" "is_task_refused" sTsk fT fdT) (bT : Binds K fdT ["threads", "numbers"] []) (gT : mg "is_task_refused" = some (.ref fT))
    (FC : Fun K "is_shape_count_refused" "is_shape_count_refused" sCnt fC fdC) (bC : Binds K fdC ["count"] []) (gC : mg "is_shape_count_refused" = some (.ref fC))
    (FD : Fun K "told_order" "told_order" sTold fD fdD) (bD : Binds K fdD ["threads", "numbers"] []) (gD : mg "told_order" = some (.ref fD))
    (FW : Fun K "fewest_to_come" "fewest_to_come" sFew fW fdW) (bW : Binds K fdW ["threads", "numbers"] []) (gW : mg "fewest_to_come" = some (.ref fW))
    (FB : Fun K "by_thread" "by_thread" sByt fB fdB) (bB : Binds K fdB ["threads", "count"] []) (gB : mg "by_thread" = some (.ref fB))
    (FF : Fun K "free_ones" "free_ones" sFree fF fdF) (bF : Binds K fdF ["taken", "numbers"] []) (gF : mg "free_ones" = some (.ref fF))
    (FR : Fun K "is_ready" "is_ready" sRdy fR fdR) (bR : Binds K fdR ["number", "taken"] []) (gR : mg "is_ready" = some (.ref fR))
    (FG : Fun K "changes_of" "changes_of" sChg fG fdG) (bG : Binds K fdG ["row", "threads"] []) (gG : mg "changes_of" = some (.ref fG))
    (my : mg "any" = none) (me : mg "enumerate" = none) (ml : mg "len" = none) (mn : mg "min" = none) (mr : mg "range" = none) (mz : mg "zip" = none)
    (mS : mg "MOST_SHAPES" = some (.int 12 tM)) : FnOk P w K mg base CX0 5 f fd ["threads", "numbers"] (spOrd K) := by
  have GT : FnOk P w K mg base CX0 2 fT fdT ["threads", "numbers"] (spTsk K) := ok_tsk_ FT FC bC gC ml my me mS
  have GD : FnOk P w K mg base CX0 4 fD fdD ["threads", "numbers"] (spTold K) := ok_told FD FW bW gW FB bB gB FF bF gF FR bR gR FG bG gG ml mn mr mz
  have GG : FnOk P w K mg base CX0 1 fG fdG ["row", "threads"] (spChg K) := ok_chg FG ml mr
  refine F.ok scOrd (fun vs H Q E h => ?_) (fun cdv A outer s H vs Q E hr h => ?_)
  · obtain ⟨a, b, xs, ys, rfl, _⟩ := h
    rfl
  · obtain ⟨a, b, xs, ys, rfl, hA, hB, lx, ly, hx, hy, q⟩ := h
    have hr2 : Room 2 _ := hr.mono (by decide)
    have hr1 : Room 1 _ := hr.mono (by decide)
    refine ⟨_, pss_cons (ps_if (pt_val (pe_call GT hr2 (by rfl) gT FT.kp bT .nil pass0 (pa_cons (pv 0) (pa_cons (pv 1) pa_nil)))) (pss_one (ps_ret (pe_lst (pa_cons (pe_un un_neg pe_int) pa_nil)))) pss_nil)
      (pss_cons (ps_set (i := 2) scOrd.nd rfl (.inl rfl) (pe_call GD hr (by rfl) gD FD.kp bD .nil pass0 (pa_cons (pv 0) (pa_cons (pv 1) pa_nil))))
      (pss_one (ps_ret (pe_op op_cat (pe_lst (pa_cons (pe_call GG hr1 (by rfl) gG FG.kp bG .nil pass0 (pa_cons (pv 2) (pa_cons (pv 0) pa_nil))) pa_nil)) (pv 2))))), ?_⟩
    refine ⟨_, rfl, _, rfl, a, b, xs, ys, rfl, hA, hB, by omega, by omega, hy, fun H1 s1 => ⟨_, rfl, ?_⟩⟩
    unfold dueR at q
    cases e1 : (wants xs ys).ok with
    | false =>
      rw [e1] at q
      refine iteT ⟨_, rfl, (by show 1 ≤ sizeLine; decide), fun p hp => ?_⟩
      exact q _ p upd_same
    | true =>
    rw [e1] at q
    have hok := e1
    obtain ⟨hl, n1, n12, hlen, _⟩ := ok_low hok
    have xl : (wants xs ys).threads.length = xs.length := nn_len xs
    have told := least_told n12
    have tl := suf_zero_len told.suf
    refine iteF ⟨_, rfl, _, rfl, a, b, xs, ys, wants xs ys, rfl, s1.seq hA, s1.seq hB, hx, hy, rfl, rfl, hok, fun H2 D s2 nD hD => ?_⟩
    refine ⟨_, rfl, _, rfl, D, a, Eb.leastOrder (wants xs ys), xs, wants xs ys, rfl, SqL.of hD, s2.seq (s1.seq hA), hx, rfl, by omega, fun j hj => by rw [← xl]; exact (suf_mem told.suf j hj).1, fun H3 s3 => ?_⟩
    refine ⟨(by show 1 ≤ sizeLine; decide), fun S nS => ?_⟩
    refine ⟨_, rfl, S, D, _, _, rfl, rfl, upd_same, same_upd nS _ _ (s3 _ _ hD), ?_, fun p np => ?_⟩
    · rw [List.length_map, natsI_len, tl]
      exact line_of (by simp only [List.length_cons, List.length_nil]; omega)
    · exact q _ p upd_same
end
end Tr

/-! ### the end: what the top has written, and the row's head -/
namespace Tr
open PySem PySem.Spec PyProof.Rows L2
open PySem.W (Codec)
theorem all_mk {P : Program} {w : World} {K : PySem.W.Frag} {h : Heap} {mg : Str → Option Value} {fa f1 f2 f3 f4 f5 f6 f7 f8 f9 : Addr} (X : K.In h) (G : h.Ns mainGlobals mg) (hfa : mg "order" = some (.ref fa))
    {od1 an1 od2 an2 od3 an3 od4 an4 od5 an5 od6 an6 od7 an7 od8 an8 od9 an9 : Option Addr} {sl1 sl2 sl3 sl4 sl5 sl6 sl7 sl8 sl9 : Array (Option Value)} {oc1 kV1 dc1 pm1 cd1 ct1 oc2 kV2 dc2 pm2 cd2 ct2 oc3 kV3 dc3 pm3 cd3 ct3 oc4 kV4 dc4 pm4 cd4 ct4 oc5 kV5 dc5 pm5 cd5 ct5 oc6 kV6 dc6 pm6 cd6 ct6 oc7 kV7 dc7 pm7 cd7 ct7 oc8 kV8 dc8 pm8 cd8 ct8 oc9 kV9 dc9 pm9 cd9 ct9 : Value} {tM : Tok}
    (a1 : PySem.W.nsIn K mainGlobals "order" = some (some (.ref f1))) (l1 : K.lookup f1 = some ⟨oc1, od1, .func (PySem.W.fnOf "order" "order" (defArgs sOrd) (defBody sOrd) (defScope sOrd) .none kV1 dc1 pm1 an1 cd1 ct1), sl1⟩) (c1 : PySem.W.codeIn K cd1 "order" = true) (k1 : PySem.W.keepIn K (.ref f1) = true)
    (a2 : PySem.W.nsIn K mainGlobals "is_task_refused" = some (some (.ref f2))) (l2 : K.lookup f2 = some ⟨oc2, od2, .func (PySem.W.fnOf "is_task_refused" "is_task_refused" (defArgs sTsk) (defBody sTsk) (defScope sTsk) .none kV2 dc2 pm2 an2 cd2 ct2), sl2⟩) (c2 : PySem.W.codeIn K cd2 "is_task_refused" = true) (k2 : PySem.W.keepIn K (.ref f2) = true)
    (a3 : PySem.W.nsIn K mainGlobals "is_shape_count_refused" = some (some (.ref f3))) (l3 : K.lookup f3 = some ⟨oc3, od3, .func (PySem.W.fnOf "is_shape_count_refused" "is_shape_count_refused" (defArgs sCnt) (defBody sCnt) (defScope sCnt) .none kV3 dc3 pm3 an3 cd3 ct3), sl3⟩) (c3 : PySem.W.codeIn K cd3 "is_shape_count_refused" = true) (k3 : PySem.W.keepIn K (.ref f3) = true)
    (a4 : PySem.W.nsIn K mainGlobals "told_order" = some (some (.ref f4))) (l4 : K.lookup f4 = some ⟨oc4, od4, .func (PySem.W.fnOf "told_order" "told_order" (defArgs sTold) (defBody sTold) (defScope sTold) .none kV4 dc4 pm4 an4 cd4 ct4), sl4⟩) (c4 : PySem.W.codeIn K cd4 "told_order" = true) (k4 : PySem.W.keepIn K (.ref f4) = true)
    (a5 : PySem.W.nsIn K mainGlobals "fewest_to_come" = some (some (.ref f5))) (l5 : K.lookup f5 = some ⟨oc5, od5, .func (PySem.W.fnOf "fewest_to_come" "fewest_to_come" (defArgs sFew) (defBody sFew) (defScope sFew) .none kV5 dc5 pm5 an5 cd5 ct5), sl5⟩) (c5 : PySem.W.codeIn K cd5 "fewest_to_come" = true) (k5 : PySem.W.keepIn K (.ref f5) = true)
    (a6 : PySem.W.nsIn K mainGlobals "by_thread" = some (some (.ref f6))) (l6 : K.lookup f6 = some ⟨oc6, od6, .func (PySem.W.fnOf "by_thread" "by_thread" (defArgs sByt) (defBody sByt) (defScope sByt) .none kV6 dc6 pm6 an6 cd6 ct6), sl6⟩) (c6 : PySem.W.codeIn K cd6 "by_thread" = true) (k6 : PySem.W.keepIn K (.ref f6) = true)
    (a7 : PySem.W.nsIn K mainGlobals "free_ones" = some (some (.ref f7))) (l7 : K.lookup f7 = some ⟨oc7, od7, .func (PySem.W.fnOf "free_ones" "free_ones" (defArgs sFree) (defBody sFree) (defScope sFree) .none kV7 dc7 pm7 an7 cd7 ct7), sl7⟩) (c7 : PySem.W.codeIn K cd7 "free_ones" = true) (k7 : PySem.W.keepIn K (.ref f7) = true)
    (a8 : PySem.W.nsIn K mainGlobals "is_ready" = some (some (.ref f8))) (l8 : K.lookup f8 = some ⟨oc8, od8, .func (PySem.W.fnOf "is_ready" "is_ready" (defArgs sRdy) (defBody sRdy) (defScope sRdy) .none kV8 dc8 pm8 an8 cd8 ct8), sl8⟩) (c8 : PySem.W.codeIn K cd8 "is_ready" = true) (k8 : PySem.W.keepIn K (.ref f8) = true)
    (a9 : PySem.W.nsIn K mainGlobals "changes_of" = some (some (.ref f9))) (l9 : K.lookup f9 = some ⟨oc9, od9, .func (PySem.W.fnOf "changes_of" "changes_of" (defArgs sChg) (defBody sChg) (defScope sChg) .none kV9 dc9 pm9 an9 cd9 ct9), sl9⟩) (c9 : PySem.W.codeIn K cd9 "changes_of" = true) (k9 : PySem.W.keepIn K (.ref f9) = true)
    (z1 : PySem.W.nsIn K mainGlobals "any" = some none) (z2 : PySem.W.nsIn K mainGlobals "enumerate" = some none) (z3 : PySem.W.nsIn K mainGlobals "len" = some none) (z4 : PySem.W.nsIn K mainGlobals "min" = some none) (z5 : PySem.W.nsIn K mainGlobals "range" = some none) (z6 : PySem.W.nsIn K mainGlobals "zip" = some none)
    (y1 : PySem.W.nsIn K mainGlobals "MOST_SHAPES" = some (some (.int 12 tM))) :
    ∃ fd : FuncData, (∀ (s : Shared) (us : List Value), us.length = (["threads", "numbers"] : List Str).length → BindsTo s fd ⟨us, []⟩ ((["threads", "numbers"] : List Str).zip us)) ∧ ∀ base : Heap, K.In base → base.Ns mainGlobals mg → FnOk P w K mg base CX0 5 fa fd ["threads", "numbers"] (spOrd K) := by
  have e := hfa.symm.trans (PySem.W.mg_of X G a1)
  cases e
  have F1 := fun_mk (st := sOrd) l1 c1 k1
  have F2 := fun_mk (st := sTsk) l2 c2 k2
  have F3 := fun_mk (st := sCnt) l3 c3 k3
  have F4 := fun_mk (st := sTold) l4 c4 k4
  have F5 := fun_mk (st := sFew) l5 c5 k5
  have F6 := fun_mk (st := sByt) l6 c6 k6
  have F7 := fun_mk (st := sFree) l7 c7 k7
  have F8 := fun_mk (st := sRdy) l8 c8 k8
  have F9 := fun_mk (st := sChg) l9 c9 k9
  have b2 := F2.binds (ps := ["threads", "numbers"]) fun _ _ _ _ _ _ us hl => match us, hl with | [_, _], _ => rfl
  have b3 := F3.binds (ps := ["count"]) fun _ _ _ _ _ _ us hl => match us, hl with | [_], _ => rfl
  have b4 := F4.binds (ps := ["threads", "numbers"]) fun _ _ _ _ _ _ us hl => match us, hl with | [_, _], _ => rfl
  have b5 := F5.binds (ps := ["threads", "numbers"]) fun _ _ _ _ _ _ us hl => match us, hl with | [_, _], _ => rfl
  have b6 := F6.binds (ps := ["threads", "count"]) fun _ _ _ _ _ _ us hl => match us, hl with | [_, _], _ => rfl
  have b7 := F7.binds (ps := ["taken", "numbers"]) fun _ _ _ _ _ _ us hl => match us, hl with | [_, _], _ => rfl
  have b8 := F8.binds (ps := ["number", "taken"]) fun _ _ _ _ _ _ us hl => match us, hl with | [_, _], _ => rfl
  have b9 := F9.binds (ps := ["row", "threads"]) fun _ _ _ _ _ _ us hl => match us, hl with | [_, _], _ => rfl
  exact ⟨PySem.W.fnOf "order" "order" (defArgs sOrd) (defBody sOrd) (defScope sOrd) .none kV1 dc1 pm1 an1 cd1 ct1, fun s us hu => match us, hu with | [_, _], _ => .of_eq rfl, fun base _ _ => ok_ord F1 F2 b2 (PySem.W.mg_of X G a2) F3 b3 (PySem.W.mg_of X G a3) F4 b4 (PySem.W.mg_of X G a4) F5 b5 (PySem.W.mg_of X G a5) F6 b6 (PySem.W.mg_of X G a6) F7 b7 (PySem.W.mg_of X G a7) F8 b8 (PySem.W.mg_of X G a8) F9 b9 (PySem.W.mg_of X G a9) (PySem.W.mg_none_of X G z1) (PySem.W.mg_none_of X G z2) (PySem.W.mg_none_of X G z3) (PySem.W.mg_none_of X G z4) (PySem.W.mg_none_of X G z5) (PySem.W.mg_none_of X G z6) (PySem.W.mg_of X G y1)⟩
theorem in_nonneg {x hi : Int} (h : Codec.inInt 0 hi x = true) : 0 ≤ x := by
  unfold Codec.inInt at h
  simp at h
  omega
end Tr
open PySem PySem.W PyProof.Rows
set_option maxRecDepth 100000 in
set_option maxHeartbeats 0 in
theorem PySem.Challenge.cw_threadrow_s03_order_holds : PySem.Challenge.rw_threadrow_s03_order.Holds := by
  w_on; k_headS; (case hw => exact ⟨[.list [], .list []], by decide +kernel, by decide +kernel⟩)
  k_fillS
  refine L2.walk_specK (r := PySem.Challenge.rw_threadrow_s03_order) (k := 5) (CX := L2.CX0) (ps := ["threads", "numbers"]) (sp := Tr.spOrd) (by decide +kernel) rfl rfl ⟨rfl, by decide, by decide⟩ (fun w h Y => PySem.W.kIn_of Y) ?F ?S (fun _ _ _ _ z => z)
  case F =>
    intro w mg fa h Y KX G hmg
    refine' Tr.all_mk KX G hmg ?a1 ?l1 ?c1 ?k1 ?a2 ?l2 ?c2 ?k2 ?a3 ?l3 ?c3 ?k3 ?a4 ?l4 ?c4 ?k4 ?a5 ?l5 ?c5 ?k5 ?a6 ?l6 ?c6 ?k6 ?a7 ?l7 ?c7 ?k7 ?a8 ?l8 ?c8 ?k8 ?a9 ?l9 ?c9 ?k9 ?z1 ?z2 ?z3 ?z4 ?z5 ?z6 ?y1
    (case a1 => k_is)
    (case l1 => k_is)
    (case c1 => k_is)
    (case k1 => k_is)
    (case a2 => k_is)
    (case l2 => k_is)
    (case c2 => k_is)
    (case k2 => k_is)
    (case a3 => k_is)
    (case l3 => k_is)
    (case c3 => k_is)
    (case k3 => k_is)
    (case a4 => k_is)
    (case l4 => k_is)
    (case c4 => k_is)
    (case k4 => k_is)
    (case a5 => k_is)
    (case l5 => k_is)
    (case c5 => k_is)
    (case k5 => k_is)
    (case a6 => k_is)
    (case l6 => k_is)
    (case c6 => k_is)
    (case k6 => k_is)
    (case a7 => k_is)
    (case l7 => k_is)
    (case c7 => k_is)
    (case k7 => k_is)
    (case a8 => k_is)
    (case l8 => k_is)
    (case c8 => k_is)
    (case k8 => k_is)
    (case a9 => k_is)
    (case l9 => k_is)
    (case c9 => k_is)
    (case k9 => k_is)
    (case z1 => k_is)
    (case z2 => k_is)
    (case z3 => k_is)
    (case z4 => k_is)
    (case z5 => k_is)
    (case z6 => k_is)
    (case y1 => k_is)
  case S =>
    intro K H xs a hO hwi hask hx
    cases hx with
    | cons h1 g1 =>
    cases g1 with
    | cons h2 g2 =>
    cases g2
    cases h1 with
    | lst s1 d1 =>
    cases h2 with
    | lst s2 d2 =>
    have e1 := L2.ints_dw a.1 _ d1
    subst e1
    have e2 := L2.ints_dw a.2.1 _ d2
    subst e2
    have q : ((Codec.inLen 0 30 a.1 && a.1.all (Codec.inInt 0 4294967295)) && ((Codec.inLen 0 30 a.2.1 && a.2.1.all (Codec.inInt 0 4294967295)) && true)) = true := hwi
    rw [Bool.and_eq_true, Bool.and_eq_true, Bool.and_eq_true, Bool.and_eq_true] at q
    have nn : ∀ l : List Int, l.all (Codec.inInt 0 4294967295) = true → ∀ x ∈ l, 0 ≤ x := fun l h x hx => Tr.in_nonneg (List.all_eq_true.mp h x hx)
    have due := TO.order_due (nn _ q.1.2) (nn _ q.2.1.2)
    refine ⟨_, _, a.1, a.2.1, rfl, s1, s2, (Codec.inNat_iff.mp q.1.1).2, (Codec.inNat_iff.mp q.2.1.1).2, nn _ q.1.2, nn _ q.2.1.2, fun H' p hp => ?_⟩
    exact .lst (L2.SqL.of (show H' p = some (.lst ((PyYqstfa.order a.1 a.2.1).map L2.V.int)) by rw [due]; exact hp)) (L2.dw_ints _)
#print axioms PySem.Challenge.cw_threadrow_s03_order_holds
