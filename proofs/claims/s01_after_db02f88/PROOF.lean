import PyProof.Rows.All
import Wide.All
import OpenK.AllK
import Wide.FinOn
import Open.SpecLaws
import KE.OsHead
import KE.OsGo
import HandS.ForSpec
import HandS.Comp
import HandS.Iter
import HandS.Text
import HandS.Evl
import PySem.Challenge.RW_introduced_s01_after
set_option Elab.async false
set_option linter.all false
set_option maxRecDepth 100000
set_option maxHeartbeats 2000000
namespace G
open Kzf1 (Net knows bits pairsOf pairs net okNet)
open Kzf5 (can cans round after rowOf)

/-! ### masks -/
def maskP (n : Nat) (p : Nat → Bool) : Nat := bits ((List.range n).filter p)
theorem bits_append (l m : List Nat) : bits (l ++ m) = m.foldl (fun s i => s + 2 ^ i) (bits l) := by
  unfold bits
  rw [List.foldl_append]
theorem maskP_succ (n : Nat) (p : Nat → Bool) : maskP (n + 1) p = maskP n p + if p n = true then 2 ^ n else 0 := by
  unfold maskP
  rw [List.range_succ, List.filter_append, bits_append]
  by_cases h : p n = true
  · rw [if_pos h, List.filter_cons, if_pos h]
    rfl
  · rw [if_neg h, List.filter_cons, if_neg h]
    rfl
theorem maskP_lt (n : Nat) (p : Nat → Bool) : maskP n p < 2 ^ n := by
  induction n with
  | zero => exact Nat.zero_lt_one
  | succ n ih =>
    rw [maskP_succ, Nat.pow_succ]
    split <;> omega
theorem maskP_bit (n : Nat) (p : Nat → Bool) (j : Nat) : (maskP n p).testBit j = (decide (j < n) && p j) := by
  induction n with
  | zero =>
    show (0 : Nat).testBit j = _
    simp
  | succ n ih =>
    rw [maskP_succ]
    by_cases h : p n = true
    · rw [if_pos h, Nat.add_comm]
      by_cases e : j = n
      · subst e
        rw [Nat.testBit_two_pow_add_eq, Nat.testBit_lt_two_pow (maskP_lt _ _), h]
        simp
      · by_cases c : j < n
        · rw [Nat.testBit_two_pow_add_gt c, ih]
          simp [c, Nat.lt_succ_of_lt c]
        · have hn : ¬ j < n + 1 := by omega
          have big : 2 ^ n + maskP n p < 2 ^ j := by
            have a := maskP_lt n p
            have b : 2 ^ (n + 1) ≤ 2 ^ j := Nat.pow_le_pow_right (by decide) (by omega)
            rw [Nat.pow_succ] at b
            omega
          rw [Nat.testBit_lt_two_pow big]
          simp [hn]
    · rw [if_neg h, Nat.add_zero, ih]
      by_cases e : j = n
      · subst e
        simp [h]
      · have : (j < n + 1) = (j < n) := by
          apply propext; omega
        simp [this]
theorem maskP_congr {n : Nat} {p q : Nat → Bool} (h : ∀ j, j < n → p j = q j) : maskP n p = maskP n q := by
  apply Nat.eq_of_testBit_eq
  intro j
  rw [maskP_bit, maskP_bit]
  by_cases c : j < n
  · rw [h j c]
  · simp [c]
theorem maskP_or (n : Nat) (p q : Nat → Bool) : maskP n p ||| maskP n q = maskP n (fun j => p j || q j) := by
  apply Nat.eq_of_testBit_eq
  intro j
  rw [Nat.testBit_or, maskP_bit, maskP_bit, maskP_bit]
  cases decide (j < n) <;> rfl
theorem maskP_and (n : Nat) (p q : Nat → Bool) : maskP n p &&& maskP n q = maskP n (fun j => p j && q j) := by
  apply Nat.eq_of_testBit_eq
  intro j
  rw [Nat.testBit_and, maskP_bit, maskP_bit, maskP_bit]
  cases decide (j < n) <;> rfl
theorem maskP_eq0 (n : Nat) (p : Nat → Bool) : maskP n p = 0 ↔ (List.range n).any p = false := by
  rw [List.any_eq_false]
  constructor
  · intro h j hj
    have b := maskP_bit n p j
    rw [h, Nat.zero_testBit, decide_eq_true (List.mem_range.mp hj)] at b
    simpa using b.symm
  · intro h
    apply Nat.eq_of_testBit_eq
    intro j
    rw [maskP_bit, Nat.zero_testBit]
    by_cases c : j < n
    · have := h j (List.mem_range.mpr c)
      simp [this]
    · simp [c]
theorem maskP_one {n b : Nat} (h : b < n) : maskP n (fun j => j == b) = 2 ^ b := by
  apply Nat.eq_of_testBit_eq
  intro j
  rw [maskP_bit, Nat.testBit_two_pow]
  by_cases e : j = b
  · subst e; simp [h]
  · have : ¬ b = j := fun q => e q.symm
    simp [e, this]
theorem maskP_shift (n : Nat) (p : Nat → Bool) (j : Nat) : maskP n p / 2 ^ j % 2 = if (decide (j < n) && p j) = true then 1 else 0 := by
  have b := maskP_bit n p j
  rw [Nat.testBit_eq_decide_div_mod_eq] at b
  have r : maskP n p / 2 ^ j % 2 < 2 := Nat.mod_lt _ (by decide)
  rw [← b]
  by_cases c : maskP n p / 2 ^ j % 2 = 1
  · simp [c]
  · have : maskP n p / 2 ^ j % 2 = 0 := by omega
    simp [this]

/-! ### who knows whom -/
theorem knows_symm (g : Net) (i j : Nat) : knows g i j = knows g j i := by
  unfold knows
  have e : (fun e : Nat × Nat => (e.1 == i && e.2 == j) || (e.1 == j && e.2 == i)) = fun e => (e.1 == j && e.2 == i) || (e.1 == i && e.2 == j) := by
    funext e; rw [Bool.or_comm]
  rw [e]
  have : (i != j) = (j != i) := by
    simp only [bne, Bool.beq_comm (a := i)]
  rw [this]
theorem knows_self (g : Net) (i : Nat) : knows g i i = false := by
  unfold knows; simp
theorem knows_append (g h : Net) (i j : Nat) : knows (g ++ h) i j = (knows g i j || knows h i j) := by
  unfold knows
  rw [List.any_append]
  cases (i != j) <;> simp
theorem knows_iff (g : Net) (i j : Nat) : knows g i j = true ↔ i ≠ j ∧ ((i, j) ∈ g ∨ (j, i) ∈ g) := by
  unfold knows
  rw [Bool.and_eq_true, List.any_eq_true]
  constructor
  · rintro ⟨h, ⟨a, b⟩, hm, hp⟩
    refine ⟨by simpa using h, ?_⟩
    simp at hp
    rcases hp with ⟨rfl, rfl⟩ | ⟨rfl, rfl⟩
    · exact .inl hm
    · exact .inr hm
  · rintro ⟨h, hm | hm⟩
    · exact ⟨by simpa using h, _, hm, by simp⟩
    · exact ⟨by simpa using h, _, hm, by simp⟩
theorem can_symm (n : Nat) (g : Net) (i j : Nat) : can n g i j = can n g j i := by
  unfold can
  have e : (fun k => knows g i k && knows g j k) = fun k => knows g j k && knows g i k := by
    funext k; rw [Bool.and_comm]
  have : (i != j) = (j != i) := by
    simp only [bne, Bool.beq_comm (a := i)]
  rw [e, knows_symm g i j, this]
theorem mem_pairsOf {n a b : Nat} : (a, b) ∈ pairsOf n ↔ a < b ∧ b < n := by
  unfold pairsOf
  simp only [List.mem_flatMap, List.mem_map, List.mem_filter, List.mem_range, decide_eq_true_eq, Prod.mk.injEq]
  constructor
  · rintro ⟨i, hi, j, ⟨hj, hl⟩, rfl, rfl⟩
    exact ⟨hl, hj⟩
  · rintro ⟨h1, h2⟩
    exact ⟨a, by omega, b, ⟨h2, h1⟩, rfl, rfl⟩
theorem mem_cans {n : Nat} {g : Net} {a b : Nat} : (a, b) ∈ cans n g ↔ a < b ∧ b < n ∧ can n g a b = true := by
  unfold cans
  rw [List.mem_filter, mem_pairsOf]
  exact and_assoc
theorem knows_cans {n : Nat} {g : Net} {i j : Nat} (hi : i < n) (hj : j < n) : knows (cans n g) i j = can n g i j := by
  rw [Bool.eq_iff_iff, knows_iff, mem_cans, mem_cans]
  constructor
  · rintro ⟨_, ⟨_, _, h⟩ | ⟨_, _, h⟩⟩
    · exact h
    · rw [can_symm]; exact h
  · intro h
    have ne : i ≠ j := by
      have h2 := h
      unfold can at h2
      rw [Bool.and_eq_true, Bool.and_eq_true] at h2
      simpa using h2.1.1
    refine ⟨ne, ?_⟩
    rcases Nat.lt_or_gt_of_ne ne with c | c
    · exact .inl ⟨c, hj, h⟩
    · exact .inr ⟨c, hi, by rw [can_symm]; exact h⟩
theorem knows_round {n : Nat} {g : Net} {i j : Nat} (hi : i < n) (hj : j < n) : knows (round n g) i j = (knows g i j || can n g i j) := by
  unfold round
  rw [knows_append, knows_cans hi hj]
/-- the rows -/
theorem rowOf_mask (n : Nat) (g : Net) (i : Nat) : rowOf n g i = maskP n (knows g i) := rfl
theorem row_round {n : Nat} {g : Net} {i : Nat} (hi : i < n) : maskP n (knows g i) ||| maskP n (can n g i) = maskP n (knows (round n g) i) := by
  rw [maskP_or]
  exact maskP_congr fun j hj => (knows_round hi hj).symm
theorem row_and {n : Nat} {g : Net} {i j : Nat} : (maskP n (knows g i) &&& maskP n (knows g j) = 0) ↔ (List.range n).any (fun k => knows g i k && knows g j k) = false := by
  rw [maskP_and, maskP_eq0]
theorem knows_one {a b i j : Nat} (hab : a ≠ b) : knows [(a, b)] i j = ((i == a && j == b) || (i == b && j == a)) := by
  rw [Bool.eq_iff_iff, knows_iff]
  simp
  constructor
  · rintro ⟨_, h⟩
    omega
  · rintro h
    exact ⟨by omega, by omega⟩
/-- a pair told: the row of a gets bit b, the row of b gets bit a -/
theorem row_tell {n : Nat} {g : Net} {a b i : Nat} (ha : a < n) (hb : b < n) (hab : a ≠ b) :
    maskP n (knows (g ++ [(a, b)]) i) = if i = a then maskP n (knows g a) ||| 2 ^ b else if i = b then maskP n (knows g b) ||| 2 ^ a else maskP n (knows g i) := by
  split
  · rename_i e; subst e
    rw [← maskP_one hb, maskP_or]
    refine maskP_congr fun j hj => ?_
    have : (i == b) = false := by simpa using hab
    rw [knows_append, knows_one hab, this]
    simp
  · rename_i ea
    split
    · rename_i e; subst e
      rw [← maskP_one ha, maskP_or]
      refine maskP_congr fun j hj => ?_
      have : (i == a) = false := by simpa using ea
      rw [knows_append, knows_one hab, this]
      simp
    · rename_i eb
      refine maskP_congr fun j hj => ?_
      have h1 : (i == a) = false := by simpa using ea
      have h2 : (i == b) = false := by simpa using eb
      rw [knows_append, knows_one hab, h1, h2]
      simp

/-! ### the pairs told -/
theorem net_length : ∀ l : List Nat, (net l).length = l.length / 2
  | [] => by simp [net]
  | [_] => by simp [net]
  | _ :: _ :: l => by
    show (net l).length + 1 = (l.length + 2) / 2
    rw [net_length l]
    omega
theorem net_get : ∀ (l : List Nat) (t : Nat), 2 * t + 1 < l.length → (net l)[t]? = some (l.getD (2 * t) 0, l.getD (2 * t + 1) 0)
  | [], t, h => by simp at h
  | [_], t, h => by simp at h
  | a :: b :: l, 0, _ => rfl
  | a :: b :: l, t + 1, h => by
    have ih := net_get l t (by simp at h; omega)
    show (net l)[t]? = _
    rw [ih]
    rfl
theorem net_take : ∀ (l : List Nat) (t : Nat), net (l.take (2 * t)) = (net l).take t
  | [], t => by cases t <;> simp [net]
  | [_], 0 => by simp [net]
  | [_], t + 1 => by
    have e : 2 * (t + 1) = (2 * t + 1) + 1 := by omega
    rw [e]
    simp [net]
  | a :: b :: l, 0 => rfl
  | a :: b :: l, t + 1 => by
    have e : 2 * (t + 1) = 2 * t + 1 + 1 := by omega
    rw [e]
    show (a, b) :: net (l.take (2 * t)) = (a, b) :: (net l).take t
    rw [net_take l t]
def okPair (n a b : Nat) : Bool := decide (a < n) && decide (b < n) && a != b
theorem good_eq (n : Nat) (l : List Nat) : Kzf1.good n l = (decide (l.length % 2 = 0) && (decide (1 ≤ n) && decide (n ≤ 8) && decide (l.length / 2 ≤ 28) && (net l).all fun e => okPair n e.1 e.2)) := by
  unfold Kzf1.good okNet
  rw [net_length]
  rfl
theorem good_iff {n : Nat} {l : List Nat} : Kzf1.good n l = true ↔ l.length % 2 = 0 ∧ 1 ≤ n ∧ n ≤ 8 ∧ l.length / 2 ≤ 28 ∧ ∀ t, 2 * t < l.length → okPair n (l.getD (2 * t) 0) (l.getD (2 * t + 1) 0) = true := by
  rw [good_eq]
  simp only [Bool.and_eq_true, decide_eq_true_eq, List.all_eq_true]
  constructor
  · rintro ⟨h0, ⟨⟨h1, h2⟩, h3⟩, h4⟩
    refine ⟨h0, h1, h2, h3, fun t ht => ?_⟩
    have q := net_get l t (by omega)
    exact h4 _ (List.mem_of_getElem? q)
  · rintro ⟨h0, h1, h2, h3, h4⟩
    refine ⟨h0, ⟨⟨h1, h2⟩, h3⟩, fun e he => ?_⟩
    obtain ⟨t, ht, rfl⟩ := List.getElem_of_mem he
    have q := net_get l t (by rw [net_length] at ht; omega)
    rw [List.getElem?_eq_getElem ht] at q
    have q2 := Option.some.inj q
    rw [q2]
    exact h4 t (by rw [net_length] at ht; omega)

/-! ### how many pairs -/
def below (g : Net) (n : Nat) : Nat := ((List.range n).map fun i => ((List.range i).filter (knows g i)).length).sum
theorem below_succ (g : Net) (n : Nat) : below g (n + 1) = below g n + ((List.range n).filter (knows g n)).length := by
  unfold below
  rw [List.range_succ, List.map_append, List.sum_append]
  simp
def upper (g : Net) (m n : Nat) : Nat := ((List.range m).map fun i => ((List.range n).countP fun j => knows g i j && decide (i < j))).sum
theorem pairs_upper (n : Nat) (g : Net) : pairs n g = upper g n n := by
  unfold pairs pairsOf upper
  rw [← List.countP_eq_length_filter, List.countP_flatMap]
  congr 1
  apply List.map_congr_left
  intro i _
  show List.countP _ (List.map _ _) = _
  rw [List.countP_map, List.countP_filter]
  rfl
theorem upper_col (g : Net) (n : Nat) : ∀ m, m ≤ n → upper g m (n + 1) = upper g m n + ((List.range m).filter (knows g n)).length
  | 0, _ => rfl
  | m + 1, h => by
    have ih := upper_col g n m (by omega)
    unfold upper at ih ⊢
    rw [List.range_succ (n := m), List.map_append, List.map_append, List.sum_append, List.sum_append, ih, List.filter_append, List.length_append]
    simp only [List.map_cons, List.map_nil, List.sum_cons, List.sum_nil]
    rw [List.range_succ (n := n), List.countP_append]
    have c : m < n := by omega
    have e : List.countP (fun j => knows g m j && decide (m < j)) [n] = (List.filter (knows g n) [m]).length := by
      rw [List.countP_cons, List.countP_nil, List.filter_cons, knows_symm g n m]
      by_cases k : knows g m n = true <;> simp [k, c]
    rw [e]
    omega
theorem upper_below (g : Net) : ∀ n, upper g n n = below g n
  | 0 => rfl
  | n + 1 => by
    rw [below_succ, ← upper_below g n, ← upper_col g n n (Nat.le_refl _)]
    unfold upper
    rw [List.range_succ (n := n), List.map_append, List.sum_append]
    simp only [List.map_cons, List.map_nil, List.sum_cons, List.sum_nil]
    rw [← List.range_succ (n := n)]
    have z : List.countP (fun j => knows g n j && decide (n < j)) (List.range (n + 1)) = 0 := by
      rw [List.countP_eq_zero]
      intro j hj
      have := List.mem_range.mp hj
      simp
      intro _
      omega
    rw [z]
    rfl
theorem pairs_below (n : Nat) (g : Net) : pairs n g = below g n := by
  rw [pairs_upper, upper_below]
end G

namespace G
open Kzf1 (Net knows bits pairsOf pairs net okNet)
open Kzf5 (can cans round after rowOf within far group groups count rounds oneByOneOn oneByOne meet)

/-! ### steps -/
/-- j is at most d steps from i -/
def Wn (n : Nat) (g : Net) (i d j : Nat) : Prop := j ∈ within n g i d
theorem wn_zero {n i j : Nat} {g : Net} : Wn n g i 0 j ↔ j = i := by
  show j ∈ [i] ↔ _
  simp
theorem wn_succ {n i d j : Nat} {g : Net} : Wn n g i (d + 1) j ↔ j < n ∧ ∃ k, Wn n g i d k ∧ (k = j ∨ knows g k j = true) := by
  show j ∈ (List.range n).filter _ ↔ _
  rw [List.mem_filter, List.mem_range, List.any_eq_true]
  constructor
  · rintro ⟨h, k, hk, hp⟩
    refine ⟨h, k, hk, ?_⟩
    simpa using hp
  · rintro ⟨h, k, hk, hp⟩
    refine ⟨h, k, hk, ?_⟩
    simpa using hp
theorem wn_lt {n i j : Nat} {g : Net} (hi : i < n) : ∀ {d : Nat}, Wn n g i d j → j < n
  | 0, h => by
    rw [wn_zero] at h
    omega
  | d + 1, h => (wn_succ.mp h).1
theorem wn_step {n i d j : Nat} {g : Net} (hi : i < n) (h : Wn n g i d j) : Wn n g i (d + 1) j := wn_succ.mpr ⟨wn_lt hi h, j, h, .inl rfl⟩
theorem wn_edge {n i d j k : Nat} {g : Net} (h : Wn n g i d k) (hj : j < n) (hk : knows g k j = true) : Wn n g i (d + 1) j := wn_succ.mpr ⟨hj, k, h, .inr hk⟩
theorem wn_mono {n i j d : Nat} {g : Net} (hi : i < n) : ∀ {e : Nat}, d ≤ e → Wn n g i d j → Wn n g i e j
  | 0, h, w => by
    have : d = 0 := by omega
    subst this
    exact w
  | e + 1, h, w => by
    by_cases c : d = e + 1
    · subst c
      exact w
    · exact wn_step hi (wn_mono hi (by omega) w)
theorem wn_self {n i : Nat} {g : Net} (hi : i < n) (d : Nat) : Wn n g i d i := wn_mono hi (Nat.zero_le d) (wn_zero.mpr rfl)
theorem wn_add {n i j a : Nat} {g : Net} (hi : i < n) : ∀ {b : Nat}, Wn n g i (a + b) j ↔ ∃ k, Wn n g i a k ∧ Wn n g k b j
  | 0 => by
    constructor
    · intro h
      exact ⟨j, h, wn_zero.mpr rfl⟩
    · rintro ⟨k, h, h2⟩
      rw [wn_zero] at h2
      subst h2
      exact h
  | b + 1 => by
    show Wn n g i ((a + b) + 1) j ↔ _
    rw [wn_succ]
    constructor
    · rintro ⟨hj, k, hk, hp⟩
      obtain ⟨m, h1, h2⟩ := (wn_add hi).mp hk
      exact ⟨m, h1, wn_succ.mpr ⟨hj, k, h2, hp⟩⟩
    · rintro ⟨m, h1, h2⟩
      obtain ⟨hj, k, hk, hp⟩ := wn_succ.mp h2
      exact ⟨hj, k, (wn_add hi).mpr ⟨m, h1, hk⟩, hp⟩
theorem wn_one {n i j : Nat} {g : Net} (hi : i < n) (hj : j < n) : Wn n g i 1 j ↔ i = j ∨ knows g i j = true := by
  rw [wn_succ]
  constructor
  · rintro ⟨_, k, hk, hp⟩
    rw [wn_zero] at hk
    subst hk
    exact hp
  · intro h
    exact ⟨hj, i, wn_zero.mpr rfl, h⟩
theorem wn_symm {n i j : Nat} {g : Net} (hi : i < n) : ∀ {d : Nat}, Wn n g i d j → Wn n g j d i
  | 0, h => by
    rw [wn_zero] at h ⊢
    exact h.symm
  | d + 1, h => by
    have hj := wn_lt hi h
    obtain ⟨_, k, hk, hp⟩ := wn_succ.mp h
    have hkn := wn_lt hi hk
    have ih := wn_symm hi hk
    have e : d + 1 = 1 + d := by omega
    rw [e, wn_add hj]
    refine ⟨k, (wn_one hj hkn).mpr ?_, ih⟩
    rcases hp with h1 | h1
    · exact .inl h1.symm
    · exact .inr (by rw [knows_symm]; exact h1)
theorem wn_congr {n i : Nat} {g g' : Net} (hi : i < n) (h : ∀ a b, a < n → b < n → knows g a b = knows g' a b) : ∀ {d j : Nat}, Wn n g i d j → Wn n g' i d j
  | 0, j, w => by
    rw [wn_zero] at w ⊢
    exact w
  | d + 1, j, w => by
    obtain ⟨hj, k, hk, hp⟩ := wn_succ.mp w
    refine wn_succ.mpr ⟨hj, k, wn_congr hi h hk, ?_⟩
    rcases hp with h1 | h1
    · exact .inl h1
    · exact .inr (by rw [← h k j (wn_lt hi hk) hj]; exact h1)
/-! ### a round doubles -/
theorem can_iff {n : Nat} {g : Net} {i j : Nat} : can n g i j = true ↔ i ≠ j ∧ knows g i j = false ∧ ∃ k, k < n ∧ knows g i k = true ∧ knows g j k = true := by
  unfold can
  rw [Bool.and_eq_true, Bool.and_eq_true, List.any_eq_true]
  constructor
  · rintro ⟨⟨h1, h2⟩, k, hk, hp⟩
    rw [Bool.and_eq_true] at hp
    exact ⟨by simpa using h1, by simpa using h2, k, List.mem_range.mp hk, hp.1, hp.2⟩
  · rintro ⟨h1, h2, k, hk, h3, h4⟩
    exact ⟨⟨by simpa using h1, by simpa using h2⟩, k, List.mem_range.mpr hk, by rw [h3, h4]; rfl⟩
theorem wn_two {n i j : Nat} {g : Net} (hi : i < n) (hj : j < n) : Wn n g i 2 j ↔ i = j ∨ knows (round n g) i j = true := by
  rw [knows_round hi hj, Bool.or_eq_true, can_iff]
  constructor
  · intro h
    by_cases e : i = j
    · exact .inl e
    · cases c : knows g i j with
      | true => exact .inr (.inl rfl)
      | false =>
        refine .inr (.inr ⟨e, rfl, ?_⟩)
        obtain ⟨k, h1, h2⟩ := (wn_add (a := 1) (b := 1) hi).mp h
        have hk := wn_lt hi h1
        rw [wn_one hi hk] at h1
        rw [wn_one hk hj] at h2
        rcases h1 with h1 | h1
        · subst h1
          rcases h2 with h2 | h2
          · exact absurd h2 e
          · rw [c] at h2; cases h2
        · rcases h2 with h2 | h2
          · subst h2
            rw [c] at h1; cases h1
          · exact ⟨k, hk, h1, by rw [knows_symm]; exact h2⟩
  · rintro (h | h | ⟨_, _, k, hk, h1, h2⟩)
    · subst h
      exact wn_self hi 2
    · exact wn_step hi ((wn_one hi hj).mpr (.inr h))
    · exact (wn_add (a := 1) (b := 1) hi).mpr ⟨k, (wn_one hi hk).mpr (.inr h1), (wn_one hk hj).mpr (.inr (by rw [knows_symm]; exact h2))⟩
theorem wn_round {n i : Nat} {g : Net} (hi : i < n) : ∀ {d j : Nat}, Wn n (round n g) i d j ↔ Wn n g i (2 * d) j
  | 0, j => by rw [Nat.mul_zero, wn_zero, wn_zero]
  | d + 1, j => by
    show _ ↔ Wn n g i (2 * d + 2) j
    rw [wn_succ (d := d), wn_add (a := 2 * d) (b := 2) hi]
    constructor
    · rintro ⟨hj, k, hk, hp⟩
      exact ⟨k, (wn_round hi).mp hk, (wn_two (wn_lt hi hk) hj).mpr hp⟩
    · rintro ⟨k, hk, h2⟩
      have hkn := wn_lt hi hk
      have hj := wn_lt hkn h2
      exact ⟨hj, k, (wn_round hi).mpr hk, (wn_two hkn hj).mp h2⟩
/-- behind k rounds two know one another just if they were at most two to the k-th steps apart -/
theorem knows_after {n i j : Nat} (hi : i < n) (hj : j < n) : ∀ (k : Nat) (g : Net), knows (after n g k) i j = true ↔ i ≠ j ∧ Wn n g i (2 ^ k) j
  | 0, g => by
    show knows g i j = true ↔ _
    rw [Nat.pow_zero, wn_one hi hj]
    constructor
    · intro h
      refine ⟨?_, .inr h⟩
      intro e
      subst e
      rw [knows_self] at h
      cases h
    · rintro ⟨h, h2⟩
      rcases h2 with h2 | h2
      · exact absurd h2 h
      · exact h2
  | k + 1, g => by
    show knows (after n (round n g) k) i j = true ↔ _
    rw [knows_after hi hj k (round n g), wn_round hi, Nat.pow_succ, Nat.mul_comm]
/-! ### the steps come to an end -/
theorem wn_stable {n i d : Nat} {g : Net} (hi : i < n) (h : ∀ j, Wn n g i (d + 1) j → Wn n g i d j) : ∀ {e j : Nat}, Wn n g i (d + e) j → Wn n g i d j
  | 0, _, w => w
  | e + 1, j, w => by
    obtain ⟨hj, k, hk, hp⟩ := wn_succ.mp (show Wn n g i ((d + e) + 1) j from w)
    exact h j (wn_succ.mpr ⟨hj, k, wn_stable hi h hk, hp⟩)
/-- how many are at most d steps away -/
def sz (n : Nat) (g : Net) (i d : Nat) : Nat := (List.range n).countP fun j => (within n g i d).contains j
theorem contains_wn {n i d j : Nat} {g : Net} : (within n g i d).contains j = true ↔ Wn n g i d j := by
  rw [List.contains_iff_mem]
  rfl
theorem sz_le (n : Nat) (g : Net) (i d : Nat) : sz n g i d ≤ n := by
  have := List.countP_le_length (p := fun j => (within n g i d).contains j) (l := List.range n)
  rw [List.length_range] at this
  exact this
theorem countP_lt {l : List Nat} {p q : Nat → Bool} (h : ∀ x ∈ l, p x = true → q x = true) {y : Nat} (hy : y ∈ l) (h1 : p y = false) (h2 : q y = true) : l.countP p < l.countP q := by
  induction l with
  | nil => cases hy
  | cons a l ih =>
    have le : l.countP p ≤ l.countP q := List.countP_mono_left fun x hx hp => h x (List.mem_cons_of_mem _ hx) hp
    rw [List.countP_cons, List.countP_cons]
    rcases List.mem_cons.mp hy with e | e
    · subst e
      rw [h1, h2, if_neg Bool.false_ne_true, if_pos rfl]
      omega
    · have lt := ih (fun x hx => h x (List.mem_cons_of_mem _ hx)) e
      cases ha : p a with
      | false =>
        rw [if_neg Bool.false_ne_true]
        omega
      | true =>
        rw [if_pos rfl, if_pos (h a (List.mem_cons_self ..) ha)]
        omega
theorem sz_grow {n i d : Nat} {g : Net} (hi : i < n) (h : ¬ ∀ j, Wn n g i (d + 1) j → Wn n g i d j) : sz n g i d < sz n g i (d + 1) := by
  rw [Classical.not_forall] at h
  obtain ⟨j, hj⟩ := h
  rw [Classical.not_imp] at hj
  refine countP_lt (fun x _ hx => ?_) (List.mem_range.mpr (wn_lt hi hj.1)) ?_ (contains_wn.mpr hj.1)
  · exact contains_wn.mpr (wn_step hi (contains_wn.mp hx))
  · rw [Bool.eq_false_iff]
    intro c
    exact hj.2 (contains_wn.mp c)
theorem wn_end {n i j d : Nat} {g : Net} (hi : i < n) (w : Wn n g i d j) : Wn n g i (n - 1) j := by
  have key : ∀ e, (∃ d', d' ≤ e ∧ ∀ j, Wn n g i (d' + 1) j → Wn n g i d' j) ∨ e + 2 ≤ sz n g i (e + 1) := by
    intro e
    induction e with
    | zero =>
      by_cases c : ∀ j, Wn n g i (0 + 1) j → Wn n g i 0 j
      · exact .inl ⟨0, Nat.le_refl _, c⟩
      · have g1 := sz_grow hi c
        have g0 : 1 ≤ sz n g i 0 := by
          unfold sz
          rw [Nat.one_le_iff_ne_zero]
          intro z
          rw [List.countP_eq_zero] at z
          exact z i (List.mem_range.mpr hi) (contains_wn.mpr (wn_self hi 0))
        exact .inr (by omega)
    | succ e ih =>
      rcases ih with ⟨d', h1, h2⟩ | ih
      · exact .inl ⟨d', by omega, h2⟩
      · by_cases c : ∀ j, Wn n g i (e + 1 + 1) j → Wn n g i (e + 1) j
        · exact .inl ⟨e + 1, Nat.le_refl _, c⟩
        · have g1 := sz_grow hi c
          exact .inr (by omega)
  obtain ⟨d', hd', st⟩ : ∃ d', d' ≤ n - 1 ∧ ∀ j, Wn n g i (d' + 1) j → Wn n g i d' j := by
    rcases key (n - 1) with h | h
    · exact h
    · have := sz_le n g i (n - 1 + 1)
      omega
  by_cases c : d ≤ n - 1
  · exact wn_mono hi c w
  · have e : d = d' + (d - d') := by omega
    rw [e] at w
    exact wn_mono hi hd' (wn_stable hi st w)
/-- there are steps -/
def Rn (n : Nat) (g : Net) (i j : Nat) : Prop := Wn n g i n j
theorem rn_of {n i j d : Nat} {g : Net} (hi : i < n) (w : Wn n g i d j) : Rn n g i j := wn_mono hi (by omega) (wn_end hi w)
theorem rn_end {n i j : Nat} {g : Net} (hi : i < n) (w : Rn n g i j) : Wn n g i (n - 1) j := wn_end hi w
theorem rn_refl {n i : Nat} {g : Net} (hi : i < n) : Rn n g i i := wn_self hi n
theorem rn_symm {n i j : Nat} {g : Net} (hi : i < n) (h : Rn n g i j) : Rn n g j i := wn_symm hi h
theorem rn_trans {n i j k : Nat} {g : Net} (hi : i < n) (h : Rn n g i j) (h2 : Rn n g j k) : Rn n g i k := rn_of hi ((wn_add hi).mpr ⟨j, h, h2⟩)
theorem rn_lt {n i j : Nat} {g : Net} (hi : i < n) (h : Rn n g i j) : j < n := wn_lt hi h
theorem rn_knows {n i j : Nat} {g : Net} (hi : i < n) (hj : j < n) (h : knows g i j = true) : Rn n g i j := rn_of hi ((wn_one hi hj).mpr (.inr h))
/-- behind three rounds all of a group know all of it -/
theorem knows_all {n i j k : Nat} {g : Net} (hn : n ≤ 8) (hk : 3 ≤ k) (hi : i < n) (hj : j < n) : knows (after n g k) i j = true ↔ i ≠ j ∧ Rn n g i j := by
  rw [knows_after hi hj]
  constructor
  · rintro ⟨h1, h2⟩
    exact ⟨h1, rn_of hi h2⟩
  · rintro ⟨h1, h2⟩
    refine ⟨h1, wn_mono hi ?_ (rn_end hi h2)⟩
    have : 2 ^ 3 ≤ 2 ^ k := Nat.pow_le_pow_right (by decide) hk
    omega
/-! ### nobody can be introduced -/
theorem cans_nil {n : Nat} {g : Net} : cans n g = [] ↔ ∀ i j, i < n → j < n → can n g i j = false := by
  constructor
  · intro h i j hi hj
    have := knows_cans (g := g) hi hj
    rw [h] at this
    rw [← this]
    simp [knows]
  · intro h
    rw [List.eq_nil_iff_forall_not_mem]
    rintro ⟨a, b⟩ hm
    have := mem_cans.mp hm
    have hb : b < n := this.2.1
    have ha : a < n := by omega
    have z := h a b ha hb
    rw [this.2.2] at z
    cases z
/-- where nobody can be introduced, all of a group know one another -/
theorem knows_stable {n i j : Nat} {g : Net} (h : cans n g = []) (hi : i < n) (hj : j < n) : knows g i j = true ↔ i ≠ j ∧ Rn n g i j := by
  constructor
  · intro k
    refine ⟨?_, rn_knows hi hj k⟩
    intro e
    subst e
    rw [knows_self] at k
    cases k
  · rintro ⟨ne, r⟩
    have st : ∀ j, Wn n g i (1 + 1) j → Wn n g i 1 j := by
      intro j w
      have hj := wn_lt hi w
      rw [wn_two hi hj] at w
      rw [wn_one hi hj]
      rcases w with w | w
      · exact .inl w
      · rw [knows_round hi hj, cans_nil.mp h i j hi hj, Bool.or_false] at w
        exact .inr w
    have w := wn_stable hi st (e := n) (wn_mono hi (by omega) r)
    rcases (wn_one hi hj).mp w with e | e
    · exact absurd e ne
    · exact e
theorem can_rn {n i j : Nat} {g : Net} (hi : i < n) (hj : j < n) (h : can n g i j = true) : Rn n g i j := by
  obtain ⟨_, _, k, hk, h1, h2⟩ := can_iff.mp h
  exact rn_trans hi (rn_knows hi hk h1) (rn_symm hj (rn_knows hj hk h2))
theorem rn_round {n i j : Nat} {g : Net} (hi : i < n) : Rn n (round n g) i j ↔ Rn n g i j := by
  constructor
  · intro h
    exact rn_of hi ((wn_round hi).mp h)
  · intro h
    exact rn_of (d := n) hi ((wn_round (d := n) hi).mpr (wn_mono hi (by omega) h))
theorem rn_after {n i j : Nat} (hi : i < n) : ∀ (k : Nat) (g : Net), Rn n (after n g k) i j ↔ Rn n g i j
  | 0, _ => Iff.rfl
  | k + 1, g => by
    show Rn n (after n (round n g) k) i j ↔ _
    rw [rn_after hi k, rn_round hi]
/-- behind three rounds nobody can be introduced -/
theorem cans_three {n : Nat} {g : Net} {k : Nat} (hn : n ≤ 8) (hk : 3 ≤ k) : cans n (after n g k) = [] := by
  rw [cans_nil]
  intro i j hi hj
  rw [Bool.eq_false_iff]
  intro h
  have r := (rn_after hi k g).mp (can_rn hi hj h)
  obtain ⟨ne, nk, _⟩ := can_iff.mp h
  rw [(knows_all hn hk hi hj).mpr ⟨ne, r⟩] at nk
  cases nk
theorem rounds_is {n k : Nat} {g : Net} (h5 : k < 5) (h0 : cans n (after n g k) = []) (h : ∀ t, t < k → cans n (after n g t) ≠ []) : rounds n g = k := by
  unfold rounds
  have : (List.range 5).find? (fun k => (cans n (after n g k)).isEmpty) = some k := by
    rw [List.find?_range_eq_some]
    refine ⟨by rw [h0]; rfl, List.mem_range.mpr h5, fun t ht => ?_⟩
    have := h t ht
    cases c : cans n (after n g t) with
    | nil => exact absurd c this
    | cons a l => rfl
  rw [this]
  rfl
/-! ### groups -/
theorem group_is {n i : Nat} {g : Net} (hi : i < n) : Rn n g i (group n g i) ∧ ∀ j, Rn n g i j → group n g i ≤ j := by
  unfold group
  cases c : (List.range n).find? (fun j => (within n g i n).contains j) with
  | none =>
    rw [List.find?_range_eq_none] at c
    have := c i hi
    simp only [Bool.not_eq_true'] at this
    rw [contains_wn.mpr (wn_self hi n)] at this
    cases this
  | some m =>
    rw [List.find?_range_eq_some] at c
    obtain ⟨h1, h2, h3⟩ := c
    refine ⟨contains_wn.mp h1, fun j hj => ?_⟩
    show m ≤ j
    apply Nat.le_of_not_lt
    intro lt
    have := h3 j lt
    simp only [Bool.not_eq_true'] at this
    rw [contains_wn.mpr hj] at this
    cases this
theorem group_eq {n i j : Nat} {g : Net} (hi : i < n) (hj : j < n) : group n g i = group n g j ↔ Rn n g i j := by
  obtain ⟨a1, a2⟩ := group_is (g := g) hi
  obtain ⟨b1, b2⟩ := group_is (g := g) hj
  constructor
  · intro e
    rw [e] at a1
    exact rn_trans hi a1 (rn_symm hj b1)
  · intro r
    have x := a2 _ (rn_trans hi r b1)
    have y := b2 _ (rn_trans hj (rn_symm hi r) a1)
    omega
theorem group_self {n i : Nat} {g : Net} (hi : i < n) : group n g i = i ↔ ∀ j, j < i → ¬ Rn n g i j := by
  obtain ⟨a1, a2⟩ := group_is (g := g) hi
  constructor
  · intro e j hj r
    have := a2 j r
    omega
  · intro h
    have l := a2 i (rn_refl hi)
    by_cases c : group n g i < i
    · exact absurd a1 (h _ c)
    · omega
/-! ### how many introductions -/
/-- pairs of n that a test takes -/
def np (n : Nat) (p : Nat → Nat → Bool) : Nat := ((pairsOf n).filter fun e => p e.1 e.2).length
theorem np_congr {n : Nat} {p q : Nat → Nat → Bool} (h : ∀ i j, i < j → j < n → p i j = q i j) : np n p = np n q := by
  unfold np
  congr 1
  apply List.filter_congr
  rintro ⟨a, b⟩ hm
  have := mem_pairsOf.mp hm
  exact h a b this.1 this.2
theorem np_split {n : Nat} (p q : Nat → Nat → Bool) : np n p = np n (fun i j => p i j && q i j) + np n (fun i j => p i j && !(q i j)) := by
  unfold np
  generalize pairsOf n = l
  induction l with
  | nil => rfl
  | cons a l ih =>
    simp only [List.filter_cons]
    cases p a.1 a.2 <;> cases q a.1 a.2 <;> simp [ih] <;> omega
theorem pairs_np (n : Nat) (g : Net) : pairs n g = np n (knows g) := rfl
/-- the net c knows just the groups of g -/
def Full (n : Nat) (g c : Net) : Prop := ∀ i j, i < n → j < n → (knows c i j = true ↔ i ≠ j ∧ Rn n g i j)
theorem count_np {n : Nat} {g c : Net} (h : Full n g c) : count n g = np n (fun i j => knows c i j && !(knows g i j)) := by
  unfold count np
  congr 1
  apply List.filter_congr
  rintro ⟨a, b⟩ hm
  obtain ⟨hab, hb⟩ := mem_pairsOf.mp hm
  have ha : a < n := by omega
  show (group n g a == group n g b && !(knows g a b)) = (knows c a b && !(knows g a b))
  congr 1
  rw [Bool.eq_iff_iff, beq_iff_eq, group_eq ha hb, h a b ha hb]
  constructor
  · intro r
    exact ⟨by omega, r⟩
  · exact fun r => r.2
theorem count_add {n : Nat} {g c : Net} (h : Full n g c) : count n g + pairs n g = pairs n c := by
  rw [count_np h, pairs_np, pairs_np, np_split (knows c) (knows g), Nat.add_comm]
  congr 1
  refine np_congr fun i j hij hj => ?_
  cases k : knows g i j with
  | false => simp
  | true =>
    have : knows c i j = true := (h i j (by omega) hj).mpr ⟨by omega, rn_knows (by omega) hj k⟩
    rw [this]
    rfl
theorem full_after {n k : Nat} {g : Net} (hn : n ≤ 8) (hk : 3 ≤ k) : Full n g (after n g k) := fun _ _ hi hj => knows_all hn hk hi hj
theorem full_stable {n : Nat} {g : Net} (h : cans n g = []) : Full n g g := fun _ _ hi hj => knows_stable h hi hj
theorem full_stable_after {n k : Nat} {g : Net} (h : cans n (after n g k) = []) : Full n g (after n g k) := fun i j hi hj => by
  rw [knows_stable h hi hj, rn_after hi]
theorem np_le (n : Nat) (p : Nat → Nat → Bool) (hn : n ≤ 8) : np n p ≤ 28 := by
  unfold np
  refine Nat.le_trans (List.length_filter_le _ _) ?_
  have : ∀ m : Fin 9, (pairsOf m.val).length ≤ 28 := by decide +kernel
  exact this ⟨n, by omega⟩
theorem count_le {n : Nat} {g : Net} (hn : n ≤ 8) : count n g ≤ 28 := by
  rw [count_np (full_after hn (Nat.le_refl 3))]
  exact np_le n _ hn
/-! ### one by one -/
theorem rn_mono {n i : Nat} {g g' : Net} (hi : i < n) (h : ∀ a b, a < n → b < n → knows g a b = true → Rn n g' a b) : ∀ {d j : Nat}, Wn n g i d j → Rn n g' i j
  | 0, j, w => by
    rw [wn_zero] at w
    subst w
    exact rn_refl hi
  | d + 1, j, w => by
    obtain ⟨hj, k, hk, hp⟩ := wn_succ.mp w
    have r := rn_mono hi h hk
    rcases hp with e | e
    · subst e
      exact r
    · exact rn_trans hi r (h k j (wn_lt hi hk) hj e)
theorem rn_intro {n i j a b : Nat} {g : Net} (hi : i < n) (ha : a < n) (hb : b < n) (h : Rn n g a b) : Rn n (g ++ [(a, b)]) i j ↔ Rn n g i j := by
  constructor
  · intro r
    refine rn_mono hi (fun x y hx hy k => ?_) r
    rw [knows_append, Bool.or_eq_true] at k
    rcases k with k | k
    · exact rn_knows hx hy k
    · obtain ⟨_, k⟩ := (knows_iff _ _ _).mp k
      simp only [List.mem_singleton, Prod.mk.injEq] at k
      rcases k with ⟨rfl, rfl⟩ | ⟨rfl, rfl⟩
      · exact h
      · exact rn_symm ha h
  · intro r
    refine rn_mono hi (fun x y hx hy k => rn_knows hx hy ?_) r
    rw [knows_append, k]
    rfl
theorem knows_intro {a b i j : Nat} {g : Net} (hab : a < b) (hij : i < j) : knows (g ++ [(a, b)]) i j = (knows g i j || (i == a && j == b)) := by
  rw [knows_append, knows_one (by omega)]
  congr 1
  rw [Bool.eq_iff_iff]
  simp
  omega
theorem count_filter_eq (l : List (Nat × Nat)) (a b : Nat) (nd : l.Nodup) (hm : (a, b) ∈ l) (p : Nat × Nat → Bool) (hp : p (a, b) = true) : (l.filter p).length = (l.filter fun e => p e && !(e.1 == a && e.2 == b)).length + 1 := by
  induction l with
  | nil => cases hm
  | cons x l ih =>
    have nd' := List.nodup_cons.mp nd
    rcases List.mem_cons.mp hm with e | e
    · subst e
      have : l.filter (fun e => p e && !(e.1 == a && e.2 == b)) = l.filter p := by
        apply List.filter_congr
        rintro ⟨c, d⟩ hc
        have ne : ¬ (c = a ∧ d = b) := by
          rintro ⟨rfl, rfl⟩
          exact nd'.1 hc
        have : (c == a && d == b) = false := by
          rw [Bool.eq_false_iff]
          intro z
          simp at z
          exact ne z
        show (p (c, d) && !(c == a && d == b)) = p (c, d)
        rw [this]
        simp
      rw [List.filter_cons, List.filter_cons, if_pos hp, this]
      simp
    · have ih := ih nd'.2 e
      rw [List.filter_cons, List.filter_cons]
      have ne : (x.1 == a && x.2 == b) = false := by
        rw [Bool.eq_false_iff]
        intro z
        simp at z
        obtain ⟨rfl, rfl⟩ := z
        exact nd'.1 e
      rw [ne]
      cases p x <;> simp [ih]
theorem pairsOf_nodup : ∀ n : Fin 9, (pairsOf n.val).Nodup := by decide +kernel
theorem count_step {n a b : Nat} {g : Net} (hn : n ≤ 8) (hab : a < b) (hb : b < n) (r : Rn n g a b) (nk : knows g a b = false) : count n g = count n (g ++ [(a, b)]) + 1 := by
  have ha : a < n := by omega
  have f1 := full_after (g := g) hn (Nat.le_refl 3)
  have f2 : Full n (g ++ [(a, b)]) (after n g 3) := fun i j hi hj => by
    rw [f1 i j hi hj, rn_intro hi ha hb r]
  rw [count_np f1, count_np f2]
  unfold np
  have kc : knows (after n g 3) a b = true := (f1 a b ha hb).mpr ⟨by omega, r⟩
  rw [count_filter_eq (pairsOf n) a b (pairsOf_nodup ⟨n, by omega⟩) (mem_pairsOf.mpr ⟨hab, hb⟩) _ (by show (knows (after n g 3) a b && !(knows g a b)) = true; rw [kc, nk]; rfl)]
  congr 2
  apply List.filter_congr
  rintro ⟨c, d⟩ hm
  obtain ⟨h1, h2⟩ := mem_pairsOf.mp hm
  show ((knows (after n g 3) c d && !(knows g c d)) && !(c == a && d == b)) = (knows (after n g 3) c d && !(knows (g ++ [(a, b)]) c d))
  rw [knows_intro hab h1]
  cases knows (after n g 3) c d <;> cases knows g c d <;> cases (c == a && d == b) <;> rfl
theorem count_zero {n : Nat} {g : Net} (h : cans n g = []) : count n g = 0 := by
  have := count_add (full_stable h)
  omega
theorem cans_head {n : Nat} {g : Net} {p : Nat × Nat} (h : (cans n g).head? = some p) : p.1 < p.2 ∧ p.2 < n ∧ can n g p.1 p.2 = true := by
  have := List.mem_of_head? h
  exact mem_cans.mp this
theorem one_length {n : Nat} (hn : n ≤ 8) : ∀ (f : Nat) (g : Net), count n g ≤ f → (oneByOneOn n f g).length = count n g
  | 0, g, h => by
    show 0 = _
    omega
  | f + 1, g, h => by
    unfold oneByOneOn
    cases c : (cans n g).head? with
    | none =>
      rw [List.head?_eq_none_iff] at c
      rw [count_zero c]
      rfl
    | some p =>
      obtain ⟨h1, h2, h3⟩ := cans_head c
      have st := count_step hn h1 h2 (can_rn (by omega) h2 h3) (can_iff.mp h3).2.1
      have e : (p.1, p.2) = p := rfl
      rw [e] at st
      show (oneByOneOn n f (g ++ [p])).length + 1 = _
      rw [one_length hn f (g ++ [p]) (by omega), st]
theorem oneByOne_length {n : Nat} {g : Net} (hn : n ≤ 8) : (oneByOne n g).length = count n g := one_length hn 28 g (count_le hn)
/-! ### how far -/
theorem far_some {n i j d : Nat} {g : Net} : far n g i j = some d ↔ Wn n g i d j ∧ d < n ∧ ∀ e, e < d → ¬ Wn n g i e j := by
  unfold far
  rw [List.find?_range_eq_some, contains_wn, List.mem_range]
  constructor
  · rintro ⟨h1, h2, h3⟩
    refine ⟨h1, h2, fun e he w => ?_⟩
    have := h3 e he
    simp only [Bool.not_eq_true'] at this
    rw [contains_wn.mpr w] at this
    cases this
  · rintro ⟨h1, h2, h3⟩
    refine ⟨h1, h2, fun e he => ?_⟩
    simp only [Bool.not_eq_true']
    rw [Bool.eq_false_iff]
    intro c
    exact h3 e he (contains_wn.mp c)
theorem far_none {n i j : Nat} {g : Net} (hi : i < n) : far n g i j = none ↔ ¬ Rn n g i j := by
  unfold far
  rw [List.find?_range_eq_none]
  constructor
  · intro h r
    have := h (n - 1) (by omega)
    simp only [Bool.not_eq_true'] at this
    rw [contains_wn.mpr (rn_end hi r)] at this
    cases this
  · intro h d _
    simp only [Bool.not_eq_true']
    rw [Bool.eq_false_iff]
    intro c
    exact h (rn_of hi (contains_wn.mp c))
theorem wn_far {n i j d e : Nat} {g : Net} (hi : i < n) (h : far n g i j = some d) : Wn n g i e j ↔ d ≤ e := by
  obtain ⟨h1, _, h3⟩ := far_some.mp h
  constructor
  · intro w
    apply Nat.le_of_not_lt
    intro c
    exact h3 e c w
  · intro c
    exact wn_mono hi c h1
theorem far_lt {n i j d : Nat} {g : Net} (h : far n g i j = some d) : d < n := (far_some.mp h).2.1
theorem far_is {n i j d : Nat} {g : Net} (hi : i < n) (h1 : Wn n g i d j) (h2 : ∀ e, e < d → ¬ Wn n g i e j) : far n g i j = some d := by
  refine far_some.mpr ⟨h1, ?_, h2⟩
  apply Nat.lt_of_not_le
  intro c
  exact h2 (n - 1) (by omega) (wn_end hi h1)
theorem far_same {n i : Nat} {g : Net} (hi : i < n) : far n g i i = some 0 := far_is hi (wn_zero.mpr rfl) fun e he => absurd he (by omega)
theorem meet_le {d k : Nat} (h : d ≤ 7) : meet d ≤ k ↔ d ≤ 2 ^ k := by
  have small : ∀ d' : Fin 8, ∀ k' : Fin 4, (meet d'.val ≤ k'.val ↔ d'.val ≤ 2 ^ k'.val) := by decide +kernel
  by_cases c : k < 4
  · exact small ⟨d, by omega⟩ ⟨k, c⟩
  · have m : ∀ d' : Fin 8, meet d'.val ≤ 3 := by decide +kernel
    have : meet d ≤ 3 := m ⟨d, by omega⟩
    have p : 2 ^ 3 ≤ 2 ^ k := Nat.pow_le_pow_right (by decide) (by omega)
    constructor
    · intro _
      omega
    · intro _
      omega
/-- behind how many rounds at least they know one another -/
theorem knows_meet {n i j d k : Nat} {g : Net} (hn : n ≤ 8) (hi : i < n) (hj : j < n) (ne : i ≠ j) (h : far n g i j = some d) : knows (after n g k) i j = true ↔ meet d ≤ k := by
  have := far_lt h
  rw [knows_after hi hj, meet_le (by omega), wn_far hi h]
  constructor
  · exact fun x => x.2
  · exact fun x => ⟨ne, x⟩
end G

namespace G
open Kzf1 (Net knows bits pairsOf pairs net okNet)
open Kzf5 (can cans round after rowOf within far group groups count rounds oneByOneOn oneByOne meet)

/-! ### the first two -/
def lexB (a b : Nat × Nat) : Prop := a.1 < b.1 ∨ (a.1 = b.1 ∧ a.2 < b.2)
instance : DecidableRel lexB := fun a b => by unfold lexB; infer_instance
theorem pairsOf_lex : ∀ n : Fin 9, (pairsOf n.val).Pairwise lexB := by decide +kernel
theorem cans_first {n i j : Nat} {g : Net} (hn : n ≤ 8) (hij : i < j) (hj : j < n) (h : can n g i j = true) (h0 : ∀ a b, a < b → b < n → (a < i ∨ (a = i ∧ b < j)) → can n g a b = false) : (cans n g).head? = some (i, j) := by
  have pw : (cans n g).Pairwise lexB := (pairsOf_lex ⟨n, by omega⟩).filter _
  have hm : (i, j) ∈ cans n g := mem_cans.mpr ⟨hij, hj, h⟩
  have mem : ∀ p ∈ cans n g, p.1 < p.2 ∧ p.2 < n ∧ can n g p.1 p.2 = true := fun p hp => mem_cans.mp hp
  revert pw hm mem
  generalize cans n g = l
  intro pw hm mem
  cases l with
  | nil => cases hm
  | cons p l =>
    rcases List.mem_cons.mp hm with e | e
    · rw [e]
      rfl
    · have q := (List.pairwise_cons.mp pw).1 _ e
      obtain ⟨h1, h2, h3⟩ := mem p (List.mem_cons_self ..)
      have z := h0 p.1 p.2 h1 h2 q
      rw [h3] at z
      cases z
theorem cans_none {n : Nat} {g : Net} (h : ∀ a b, a < b → b < n → can n g a b = false) : (cans n g).head? = none := by
  rw [List.head?_eq_none_iff, List.eq_nil_iff_forall_not_mem]
  rintro ⟨a, b⟩ hm
  obtain ⟨h1, h2, h3⟩ := mem_cans.mp hm
  rw [h a b h1 h2] at h3
  cases h3
theorem head_nil {n : Nat} {g : Net} : (cans n g).head? = none ↔ cans n g = [] := List.head?_eq_none_iff
/-! ### one by one, whole -/
theorem one_none {n f : Nat} {g : Net} (h : (cans n g).head? = none) : oneByOneOn n f g = [] := by
  cases f with
  | zero => rfl
  | succ f =>
    unfold oneByOneOn
    rw [h]
theorem one_some {n f : Nat} {g : Net} {p : Nat × Nat} (h : (cans n g).head? = some p) : oneByOneOn n (f + 1) g = p :: oneByOneOn n f (g ++ [p]) := by
  show (match (cans n g).head? with | none => [] | some p => p :: oneByOneOn n f (g ++ [p])) = _
  rw [h]
theorem count_head {n : Nat} {g : Net} {p : Nat × Nat} (hn : n ≤ 8) (h : (cans n g).head? = some p) : count n g = count n (g ++ [p]) + 1 := by
  obtain ⟨h1, h2, h3⟩ := cans_head h
  exact count_step hn h1 h2 (can_rn (by omega) h2 h3) (can_iff.mp h3).2.1
/-- d behind us, the rest before us -/
def OneW (n : Nat) (g : Net) (d : List (Nat × Nat)) : Prop := d.length ≤ 28 ∧ d ++ oneByOneOn n (28 - d.length) (g ++ d) = oneByOne n g ∧ count n (g ++ d) + d.length ≤ 28
theorem oneW_nil {n : Nat} {g : Net} (hn : n ≤ 8) : OneW n g [] := by
  refine ⟨by decide, ?_, ?_⟩
  · rw [List.append_nil]
    rfl
  · rw [List.append_nil]
    exact count_le hn
theorem oneW_step {n : Nat} {g : Net} {d : List (Nat × Nat)} {p : Nat × Nat} (hn : n ≤ 8) (w : OneW n g d) (h : (cans n (g ++ d)).head? = some p) : OneW n g (d ++ [p]) ∧ d.length < 28 := by
  obtain ⟨h1, h2, h3⟩ := w
  have c := count_head hn h
  have lt : d.length < 28 := by omega
  refine ⟨⟨by rw [List.length_append]; simp; omega, ?_, ?_⟩, lt⟩
  · rw [← h2, show 28 - d.length = (28 - (d.length + 1)) + 1 by omega, one_some h, List.length_append, ← List.append_assoc]
    simp
  · rw [← List.append_assoc, List.length_append]
    show count n (g ++ d ++ [p]) + (d.length + 1) ≤ 28
    omega
theorem oneW_end {n : Nat} {g : Net} {d : List (Nat × Nat)} (w : OneW n g d) (h : (cans n (g ++ d)).head? = none) : d = oneByOne n g := by
  obtain ⟨_, h2, _⟩ := w
  rw [one_none h, List.append_nil] at h2
  exact h2
/-! ### how many rounds -/
theorem rounds_done {n k : Nat} {g : Net} (hn : n ≤ 8) (h0 : cans n (after n g k) = []) (h : ∀ t, t < k → cans n (after n g t) ≠ []) : rounds n g = k ∧ k ≤ 3 := by
  have k3 : k ≤ 3 := by
    apply Nat.le_of_not_lt
    intro c
    exact h 3 c (cans_three hn (Nat.le_refl 3))
  exact ⟨rounds_is (by omega) h0 h, k3⟩
theorem rounds_go {n k : Nat} {g : Net} (hn : n ≤ 8) (h : cans n (after n g k) ≠ []) : k < 3 := by
  apply Nat.lt_of_not_le
  intro c
  exact h (cans_three hn c)
/-! ### groups -/
/-- at most d steps away, as a Bool -/
def wB (n : Nat) (g : Net) (i d j : Nat) : Bool := (within n g i d).contains j
theorem wB_iff {n i d j : Nat} {g : Net} : wB n g i d j = true ↔ Wn n g i d j := contains_wn
/-- a step further -/
def stepB (n : Nat) (g : Net) (p : Nat → Bool) (j : Nat) : Bool := p j || (List.range n).any fun k => p k && knows g k j
theorem step_wB {n i d j : Nat} {g : Net} (hi : i < n) (hj : j < n) : stepB n g (wB n g i d) j = wB n g i (d + 1) j := by
  rw [Bool.eq_iff_iff, wB_iff, wn_succ]
  unfold stepB
  rw [Bool.or_eq_true, List.any_eq_true, wB_iff]
  constructor
  · rintro (h | ⟨k, _, h⟩)
    · exact ⟨hj, j, h, .inl rfl⟩
    · rw [Bool.and_eq_true, wB_iff] at h
      exact ⟨hj, k, h.1, .inr h.2⟩
  · rintro ⟨_, k, h, e | e⟩
    · subst e
      exact .inl h
    · exact .inr ⟨k, List.mem_range.mpr (wn_lt hi h), by rw [Bool.and_eq_true, wB_iff]; exact ⟨h, e⟩⟩
theorem wB_zero {n i : Nat} {g : Net} (hi : i < n) : maskP n (wB n g i 0) = 2 ^ i := by
  rw [← maskP_one hi]
  refine maskP_congr fun j _ => ?_
  rw [Bool.eq_iff_iff, wB_iff, wn_zero, beq_iff_eq]
/-- all of i's group -/
def rB (n : Nat) (g : Net) (i j : Nat) : Bool := wB n g i n j
theorem rB_iff {n i j : Nat} {g : Net} : rB n g i j = true ↔ Rn n g i j := wB_iff
theorem maskP_eq {n : Nat} {p q : Nat → Bool} (h : maskP n p = maskP n q) {j : Nat} (hj : j < n) : p j = q j := by
  have a := maskP_bit n p j
  rw [h, maskP_bit, decide_eq_true hj, Bool.true_and, Bool.true_and] at a
  exact a.symm
theorem group_end {n i d : Nat} {g : Net} (hi : i < n) (h : maskP n (wB n g i (d + 1)) = maskP n (wB n g i d)) : maskP n (wB n g i d) = maskP n (rB n g i) := by
  have st : ∀ j, Wn n g i (d + 1) j → Wn n g i d j := fun j w => by
    have hj := wn_lt hi w
    have e := maskP_eq h hj
    rw [← wB_iff, ← e, wB_iff]
    exact w
  refine maskP_congr fun j hj => ?_
  rw [Bool.eq_iff_iff, wB_iff, rB_iff]
  constructor
  · exact fun w => rn_of hi w
  · intro w
    by_cases c : d ≤ n
    · have e : n = d + (n - d) := by omega
      have w : Wn n g i n j := w
      rw [show Wn n g i n j = Wn n g i (d + (n - d)) j by rw [← e]] at w
      exact wn_stable hi st w
    · exact wn_mono hi (by omega) w
theorem group_go {n i d : Nat} {g : Net} (hi : i < n) (h : maskP n (wB n g i (d + 1)) ≠ maskP n (wB n g i d)) : sz n g i d < sz n g i (d + 1) := by
  refine sz_grow hi fun c => h ?_
  refine maskP_congr fun j _ => ?_
  rw [Bool.eq_iff_iff, wB_iff, wB_iff]
  exact ⟨c j, wn_step hi⟩
/-- in the group of one below t -/
def seenB (n : Nat) (g : Net) (t j : Nat) : Bool := (List.range t).any fun i => rB n g i j
theorem seen_iff {n t j : Nat} {g : Net} : seenB n g t j = true ↔ ∃ i, i < t ∧ Rn n g i j := by
  unfold seenB
  rw [List.any_eq_true]
  constructor
  · rintro ⟨i, h1, h2⟩
    exact ⟨i, List.mem_range.mp h1, rB_iff.mp h2⟩
  · rintro ⟨i, h1, h2⟩
    exact ⟨i, List.mem_range.mpr h1, rB_iff.mpr h2⟩
theorem seen_group {n t : Nat} {g : Net} (ht : t < n) : (group n g t == t) = !seenB n g t t := by
  rw [Bool.eq_iff_iff, beq_iff_eq, group_self ht, Bool.not_eq_true', Bool.eq_false_iff, ne_eq, seen_iff]
  constructor
  · rintro h ⟨i, h1, h2⟩
    exact h i h1 (rn_symm (by omega) h2)
  · intro h j hj r
    exact h ⟨j, hj, rn_symm ht r⟩
theorem seen_zero {n : Nat} {g : Net} : maskP n (seenB n g 0) = 0 := by
  rw [maskP_eq0, List.any_eq_false]
  intro j _
  simp [seenB]
theorem seen_more {n t : Nat} {g : Net} : maskP n (seenB n g t) ||| maskP n (rB n g t) = maskP n (seenB n g (t + 1)) := by
  rw [maskP_or]
  refine maskP_congr fun j _ => ?_
  unfold seenB
  rw [List.range_succ, List.any_append]
  simp
theorem seen_same {n t : Nat} {g : Net} (ht : t < n) (h : seenB n g t t = true) : maskP n (seenB n g t) = maskP n (seenB n g (t + 1)) := by
  refine maskP_congr fun j hj => ?_
  rw [Bool.eq_iff_iff, seen_iff, seen_iff]
  constructor
  · rintro ⟨i, h1, h2⟩
    exact ⟨i, by omega, h2⟩
  · rintro ⟨i, h1, h2⟩
    by_cases c : i < t
    · exact ⟨i, c, h2⟩
    · have : i = t := by omega
      subst this
      obtain ⟨k, k1, k2⟩ := seen_iff.mp h
      exact ⟨k, k1, rn_trans (by omega) k2 h2⟩
def gsB (n : Nat) (g : Net) (t : Nat) : Nat := ((List.range t).filter fun i => group n g i == i).length
theorem gs_all {n : Nat} {g : Net} : gsB n g n = groups n g := rfl
theorem gs_succ {n t : Nat} {g : Net} (ht : t < n) : gsB n g (t + 1) = if seenB n g t t = true then gsB n g t else gsB n g t + 1 := by
  unfold gsB
  rw [List.range_succ, List.filter_append, List.length_append, List.filter_cons, seen_group ht]
  cases seenB n g t t <;> rfl
/-! ### what's due, unfolded -/
theorem natsOf_cast (l : List Nat) : Kzf5Neutral.natsOf (l.map fun (x : Nat) => (x : Int)) = l := by
  unfold Kzf5Neutral.natsOf
  rw [List.map_map]
  conv => rhs; rw [← List.map_id l]
  apply List.map_congr_left
  intro x _
  rfl
theorem due_rounds (n : Nat) (l : List Nat) : PyKzf5.rounds n (l.map fun (x : Nat) => (x : Int)) = if Kzf1.good n l = false then [-22] else [((rounds n (net l) : Nat) : Int), ((groups n (net l) : Nat) : Int), ((count n (net l) : Nat) : Int)] := by
  show (let a := Kzf5.answer (.rounds n (Kzf5Neutral.natsOf (l.map fun (x : Nat) => (x : Int)))); a.value :: Kzf5Neutral.ints a.nums) = _
  rw [natsOf_cast]
  unfold Kzf5.answer Kzf5.good
  by_cases c : Kzf1.good n l = false
  · simp only [c, if_pos]
    rfl
  · simp only [if_neg c]
    rfl
theorem due_far (n i j : Nat) (l : List Nat) : PyKzf5.far n i j (l.map fun (x : Nat) => (x : Int)) = if Kzf1.good n l = false then [-22] else if n ≤ i ∨ n ≤ j then [-2] else match far n (net l) i j with
    | none => [-33]
    | some d => [((d : Nat) : Int), ((meet d : Nat) : Int)] := by
  show (let a := Kzf5.answer (.far n i j (Kzf5Neutral.natsOf (l.map fun (x : Nat) => (x : Int)))); a.value :: Kzf5Neutral.ints a.nums) = _
  rw [natsOf_cast]
  unfold Kzf5.answer Kzf5.good
  by_cases c : Kzf1.good n l = false
  · simp only [c, if_pos]
    rfl
  · simp only [if_neg c]
    by_cases d : n ≤ i ∨ n ≤ j
    · simp only [if_pos d]
      rfl
    · simp only [if_neg d]
      cases far n (net l) i j <;> rfl
theorem due_one (n : Nat) (l : List Nat) : PyKzf5.one_ n (l.map fun (x : Nat) => (x : Int)) = if Kzf1.good n l = false then [-22] else (((oneByOne n (net l)).length : Nat) : Int) :: (oneByOne n (net l)).flatMap fun p => [((p.1 : Nat) : Int), ((p.2 : Nat) : Int)] := by
  show (let a := Kzf5.answer (.one n (Kzf5Neutral.natsOf (l.map fun (x : Nat) => (x : Int)))); a.value :: Kzf5Neutral.ints a.nums) = _
  rw [natsOf_cast]
  unfold Kzf5.answer Kzf5.good
  by_cases c : Kzf1.good n l = false
  · simp only [c, if_pos]
    rfl
  · simp only [if_neg c]
    show ((_ : Nat) : Int) :: Kzf5Neutral.ints _ = _
    congr 1
    unfold Kzf5Neutral.ints
    rw [List.map_flatMap]
    rfl
end G

/-! ### words over the layer -/
namespace G
open PySem PySem.Spec PyProof.Rows L2 Evl
open Kzf1 (Net knows bits pairsOf pairs net okNet)
open Kzf5 (can cans round after rowOf)

/-- a def of the text that keeps a promise, wherever it stands -/
structure Has (P : Program) (w : World) (K : PySem.W.Frag) (mg : Str → Option Value) (base : Heap) (k : Nat) (x : Str) (st : Stmt) (ps : List Str) (sp : Sp) : Prop where
  ex : ∃ (f : Addr) (fd : FuncData), Fun K x x st f fd ∧ Binds K fd ps [] ∧ mg x = some (.ref f) ∧ FnOk P w K mg base CX0 k f fd ps sp

section
variable {K : PySem.W.Frag} {σ : L2.St} {H H' : Hp} {ta tb te : TE} {D : Ends} {tu tz : TS}
theorem rgc2 : ∀ L : Fin 61, L.val % 2 = 0 → Builtin.Range.small 0 (L.val : Int) 2 = true ∧ Builtin.Range.rangeSize 0 (L.val : Int) 2 = ((L.val / 2 : Nat) : Int) := by decide +kernel
/-- for j in range(0, L, 2), L even -/
theorem s_forR3 {t : TA} {j L : Nat} (h : EvA t σ H [.int 0, .int (L : Int), .int 2]) (hL : L ≤ 60) (he : L % 2 = 0) (Pv : Nat → L2.St → Hp → Prop) (h0 : ∀ H1, Ex H H1 → Pv 0 σ H1)
    (hs : ∀ (i : Nat) σ' H', 2 * i < L → Pv i σ' H' → tu { D with nx := Pv (i + 1), ct := Pv (i + 1), bk := D.nx } (σ'.set j (some (.int ((2 * i : Nat) : Int)))) H') (hd : ∀ σ' H', Pv (L / 2) σ' H' → D.nx σ' H') : tFor (iRng3 t) (gName j) tu D σ H :=
  h H (Ex.refl H) _ fun H1 e => ⟨0, L, 2, L / 2, rfl, ⟨by decide, by decide, (rgc2 ⟨L, by omega⟩ he).1, (rgc2 ⟨L, by omega⟩ he).2⟩, for_rangeC (lo := 0) (c := 2) (n := L / 2) Pv (h0 H1 e) (fun i σ' H' hi p => by
    have e0 : (0 : Int) + (i : Int) * 2 = ((2 * i : Nat) : Int) := by omega
    show tu { D with nx := Pv (i + 1), ct := Pv (i + 1), bk := D.nx } (σ'.set j (some (.int ((0 : Int) + (i : Int) * 2)))) H'
    rw [e0]
    exact hs i σ' H' (by omega) p) hd⟩
theorem q_forR3 {t : TA} {j L : Nat} (h : EvA t σ H [.int 0, .int (L : Int), .int 2]) (hL : L ≤ 60) (he : L % 2 = 0) (Pv : Nat → L2.St → Hp → Prop) (h0 : ∀ H1, Ex H H1 → Pv 0 σ H1)
    (hs : ∀ (i : Nat) σ' H', 2 * i < L → Pv i σ' H' → tu { D with nx := Pv (i + 1), ct := Pv (i + 1), bk := tz D } (σ'.set j (some (.int ((2 * i : Nat) : Int)))) H') (hd : ∀ σ' H', Pv (L / 2) σ' H' → tz D σ' H') : tSeq (tFor (iRng3 t) (gName j) tu) tz D σ H :=
  s_forR3 (D := { D with nx := tz D }) h hL he Pv h0 hs hd
/-- range(n), n a natural -/
theorem s_forN {t : TA} {j n : Nat} (h : EvA t σ H [.int (n : Int)]) (hn : n ≤ 100000) (Pv : Nat → L2.St → Hp → Prop) (h0 : ∀ H1, Ex H H1 → Pv 0 σ H1)
    (hs : ∀ (i : Nat) σ' H', i < n → Pv i σ' H' → tu { D with nx := Pv (i + 1), ct := Pv (i + 1), bk := D.nx } (σ'.set j (some (.int (i : Int)))) H') (hd : ∀ σ' H', Pv n σ' H' → D.nx σ' H') : tFor (iRng1 t) (gName j) tu D σ H :=
  s_forR1 h (by omega) Pv h0 (fun i σ' H' hi p => hs i σ' H' (by omega) p) (by rw [Int.toNat_natCast]; exact hd)
theorem q_forN {t : TA} {j n : Nat} (h : EvA t σ H [.int (n : Int)]) (hn : n ≤ 100000) (Pv : Nat → L2.St → Hp → Prop) (h0 : ∀ H1, Ex H H1 → Pv 0 σ H1)
    (hs : ∀ (i : Nat) σ' H', i < n → Pv i σ' H' → tu { D with nx := Pv (i + 1), ct := Pv (i + 1), bk := tz D } (σ'.set j (some (.int (i : Int)))) H') (hd : ∀ σ' H', Pv n σ' H' → tz D σ' H') : tSeq (tFor (iRng1 t) (gName j) tu) tz D σ H :=
  s_forN (D := { D with nx := tz D }) h hn Pv h0 hs hd
theorem el_rep {v : V} {k : Nat} (ha : EvL ta σ H [v]) (hb : ∀ H1, Ex H H1 → Ev tb σ H1 (.int (k : Int))) (hk : k ≤ 100000) : EvL (tOp rRep ta tb) σ H (List.replicate k v) := fun H1 e Q q =>
  ha H1 e _ fun p H2 hp e2 h2 => hb H2 (e.trans e2) H2 (Ex.refl _) _ fun H3 e3 => ⟨p, (k : Int), [v], rfl, rfl, e3 p _ h2, by omega, by omega, by
      rw [Int.toNat_natCast]
      exact sz_of (by simpa using hk), fun r hr => q r _ (fresh_back (e2.trans e3) hr) ((e2.trans e3).trans (Ex.new hr)) (by
      rw [upd_same, Int.toNat_natCast]
      congr 2
      clear hb hk q
      induction k with
      | zero => rfl
      | succ k ih =>
        show [v] ++ (List.replicate k [v]).flatten = v :: List.replicate k v
        rw [ih]
        rfl)⟩
theorem el_cat {xs zs : List V} {b : Addr} (ha : EvL ta σ H xs) (hb : ∀ H1, Ex H H1 → Ev tb σ H1 (.ref b)) (hz : H b = some (.lst zs)) (hl : xs.length + zs.length ≤ 100000) : EvL (tOp rCat ta tb) σ H (xs ++ zs) := fun H1 e Q q =>
  ha H1 e _ fun p H2 hp e2 h2 => hb H2 (e.trans e2) H2 (Ex.refl _) _ fun H3 e3 => ⟨p, b, xs, zs, rfl, rfl, e3 p _ h2, ((e.trans e2).trans e3) b _ hz, sz_of hl, fun r hr =>
    q r _ (fresh_back (e2.trans e3) hr) ((e2.trans e3).trans (Ex.new hr)) upd_same⟩
theorem el_is {xs ys : List V} (h : EvL te σ H xs) (e : xs = ys) : EvL te σ H ys := e ▸ h
theorem spv_of {sp : Sp} {vs : List V} {z : V} (h : ∀ H1, Ex H H1 → ∀ (Q : VK) E, RetV z H1 Q → sp vs H1 Q E) : SpV sp vs H z := fun H1 e Q q E => h H1 e Q E q
theorem spl_of {sp : Sp} {vs : List V} {xs : List V} (h : ∀ H1, Ex H H1 → ∀ (Q : VK) E, RetL xs H1 Q → sp vs H1 Q E) : SpL sp vs H xs := fun H1 e Q q E => h H1 e Q E q
end
/-! ### lists of naturals -/
def natsV (l : List Nat) : List V := l.map fun (x : Nat) => V.int (x : Int)
theorem natsV_len (l : List Nat) : (natsV l).length = l.length := by
  unfold natsV
  rw [List.length_map]
theorem natsV_at {l : List Nat} {i : Nat} (h : i < l.length) : atI (natsV l) (i : Int) = some (.int ((l.getD i 0 : Nat) : Int)) := by
  refine atI_nat ?_
  unfold natsV
  rw [List.getElem?_map, List.getElem?_eq_getElem h, List.getD_eq_getElem?_getD, List.getElem?_eq_getElem h]
  rfl
theorem nats_of : ∀ l : List Int, (∀ z ∈ l, 0 ≤ z) → ∃ m : List Nat, l = m.map fun (z : Nat) => (z : Int)
  | [], _ => ⟨[], rfl⟩
  | z :: l, h => by
    obtain ⟨m, e⟩ := nats_of l fun y hy => h y (List.mem_cons_of_mem _ hy)
    obtain ⟨x, hx⟩ := Int.eq_ofNat_of_zero_le (h z (List.mem_cons_self ..))
    exact ⟨x :: m, by rw [e, hx]; rfl⟩
def rowV (n : Nat) (g : Net) (i : Nat) : V := V.int ((maskP n (knows g i) : Nat) : Int)
def rowsV (n : Nat) (g : Net) : List V := (List.range n).map (rowV n g)
theorem rowsV_len (n : Nat) (g : Net) : (rowsV n g).length = n := by
  unfold rowsV
  rw [List.length_map, List.length_range]
theorem rowsV_get {n : Nat} {g : Net} {i : Nat} (h : i < n) : (rowsV n g)[i]? = some (rowV n g i) := by
  unfold rowsV
  rw [List.getElem?_map, List.getElem?_range h]
  rfl
theorem rowsV_at {n : Nat} {g : Net} {i : Nat} (h : i < n) : atI (rowsV n g) (i : Int) = some (.int ((maskP n (knows g i) : Nat) : Int)) := atI_nat (rowsV_get h)
theorem rowsV_ext {n : Nat} {g g' : Net} (h : ∀ i j, i < n → j < n → knows g i j = knows g' i j) : rowsV n g = rowsV n g' := by
  unfold rowsV
  apply List.map_congr_left
  intro i hi
  unfold rowV
  rw [maskP_congr fun j hj => h i j (List.mem_range.mp hi) hj]
theorem rows_nil (n : Nat) : List.replicate n (V.int 0) = rowsV n [] := by
  refine List.ext_getElem? fun i => ?_
  by_cases h : i < n
  · rw [rowsV_get h, List.getElem?_replicate, if_pos h]
    unfold rowV
    rw [(maskP_eq0 n (knows [] i)).mpr (by rw [List.any_eq_false]; intro j _; simp [knows])]
    rfl
  · rw [List.getElem?_eq_none (by rw [List.length_replicate]; omega), List.getElem?_eq_none (by rw [rowsV_len]; omega)]
theorem rows_tell {n : Nat} {g : Net} {a b : Nat} (ha : a < n) (hb : b < n) (hab : a ≠ b) :
    ((rowsV n g).set a (.int ((maskP n (knows g a) ||| 2 ^ b : Nat) : Int))).set b (.int ((maskP n (knows g b) ||| 2 ^ a : Nat) : Int)) = rowsV n (g ++ [(a, b)]) := by
  refine List.ext_getElem? fun i => ?_
  by_cases h : i < n
  · rw [rowsV_get h, List.getElem?_set, List.getElem?_set, rowsV_get h]
    unfold rowV
    rw [row_tell ha hb hab]
    simp only [List.length_set, rowsV_len]
    by_cases e1 : b = i
    · subst e1
      have : ¬ b = a := fun q => hab q.symm
      rw [if_pos rfl, if_pos hb, if_neg this, if_pos rfl]
    · by_cases e2 : a = i
      · subst e2
        rw [if_neg e1, if_pos rfl, if_pos ha, if_pos rfl]
      · rw [if_neg e1, if_neg e2, if_neg (fun q => e2 q.symm), if_neg (fun q => e1 q.symm)]
  · rw [List.getElem?_eq_none (by rw [List.length_set, List.length_set, rowsV_len]; omega), List.getElem?_eq_none (by rw [rowsV_len]; omega)]
theorem rows_set_at {n : Nat} {g : Net} {a b : Nat} {v : V} (hb : b < n) (hab : a ≠ b) : atI ((rowsV n g).set a v) (b : Int) = some (.int ((maskP n (knows g b) : Nat) : Int)) := by
  refine atI_nat ?_
  rw [List.getElem?_set, if_neg hab]
  exact rowsV_get hb
theorem rows_take {n : Nat} {g : Net} {i : Nat} (h : i < n) : (rowsV n g).take i ++ [.int ((maskP n (knows g i) : Nat) : Int)] = (rowsV n g).take (i + 1) := by
  rw [List.take_add_one, rowsV_get h]
  rfl
/-! ### bits as ints -/
theorem or_nat (a b : Nat) : Builtin.bitOr (a : Int) (b : Int) = ((a ||| b : Nat) : Int) := by
  rw [Bits.bitOr_pp (by omega) (by omega), Int.toNat_natCast, Int.toNat_natCast]
theorem and_nat (a b : Nat) : Builtin.bitAnd (a : Int) (b : Int) = ((a &&& b : Nat) : Int) := by
  rw [bitAnd_pp (by omega) (by omega), Int.toNat_natCast, Int.toNat_natCast]
theorem pow_nat (j : Nat) : (1 : Int) * 2 ^ ((j : Int).toNat) = ((2 ^ j : Nat) : Int) := by
  rw [Int.one_mul, Int.toNat_natCast, Int.natCast_pow]
  rfl
theorem shr_nat (m j : Nat) : ((m : Int) / 2 ^ ((j : Int).toNat)) = ((m / 2 ^ j : Nat) : Int) := by
  rw [Int.toNat_natCast, Int.natCast_ediv, Int.natCast_pow]
  rfl
theorem bit_nat (m j : Nat) : decide (V.int (Builtin.bitAnd ((m : Int) / 2 ^ ((j : Int).toNat)) 1) = V.int 1) = m.testBit j := by
  rw [shr_nat, show (1 : Int) = ((1 : Nat) : Int) from rfl, and_nat, Nat.and_one_is_mod, Nat.testBit_eq_decide_div_mod_eq]
  rw [decide_eq_decide]
  constructor
  · intro h
    exact Int.ofNat.inj (V.int.inj h)
  · intro h
    rw [h]
theorem maskP_succ_or (n : Nat) (p : Nat → Bool) : maskP (n + 1) p = if p n = true then maskP n p ||| 2 ^ n else maskP n p := by
  rw [maskP_succ]
  split
  · have q := Nat.two_pow_add_eq_or_of_lt (maskP_lt n p) 1
    rw [Nat.mul_one] at q
    rw [Nat.or_comm, ← q, Nat.add_comm]
  · rfl
/-! ### tuples given back, calls that change a list -/
def RetU (xs : List V) (H : Hp) (Q : VK) : Prop := ∀ p H2, H p = none → Ex H H2 → H2 p = some (.tup xs) → Q (.ref p) H2
theorem RetU.go {xs : List V} {H H' H2 : Hp} {Q : VK} (k : RetU xs H Q) (e : Ex H H') {p : Addr} (hp : H' p = none) (e2 : Ex H' H2) (h : H2 p = some (.tup xs)) : Q (.ref p) H2 := k p H2 (fresh_back e hp) (e.trans e2) h
def SpU (sp : Sp) (vs : List V) (H : Hp) (xs : List V) : Prop := ∀ H1, Ex H H1 → ∀ Q : VK, (∀ p H2, H1 p = none → Ex H1 H2 → H2 p = some (.tup xs) → Q (.ref p) H2) → ∀ E : XK, sp vs H1 Q E
theorem spu_of {sp : Sp} {vs : List V} {H : Hp} {xs : List V} (h : ∀ H1, Ex H H1 → ∀ (Q : VK) E, RetU xs H1 Q → sp vs H1 Q E) : SpU sp vs H xs := fun H1 e Q q E => h H1 e Q E q
theorem eu_call {σ : L2.St} {H : Hp} {sp : Sp} {dvs vs xs : List V} {E : XK} {ta : TA} (h : EvA ta σ H vs) (hs : SpU sp (vs ++ dvs) H xs) : EvU (tCall sp dvs E ta) σ H xs := fun H1 e Q q =>
  h H1 e _ fun H2 e2 => hs H2 (e.trans e2) Q (fun p H3 hp e3 h3 => q p H3 (fresh_back e2 hp) (e2.trans e3) h3) E
/-- two numbers or none -/
def twoV : Option (Nat × Nat) → List V
  | none => []
  | some p => [.int (p.1 : Int), .int (p.2 : Int)]
def twoD : Option (Nat × Nat) → PyData
  | none => .tuple []
  | some p => .tuple [.int (p.1 : Int), .int (p.2 : Int)]
theorem two_shaped (o : Option (Nat × Nat)) : SeqAt.shaped (twoD o) = true := by
  cases o <;> rfl
theorem two_eqv (o : Option (Nat × Nat)) : (!PyData.eqv (twoD o) (twoD none)) = o.isSome := by
  cases o <;> rfl
theorem two_dp {K : PySem.W.Frag} {H : Hp} {p : Addr} : ∀ {o : Option (Nat × Nat)}, SqT K H p (twoV o) → Dp K H (.ref p) (twoD o)
  | none, h => Dp.tup h .nil
  | some _, h => Dp.tup h (.cons (.int _) (.cons (.int _) .nil))
theorem rv_neTwo {K : PySem.W.Frag} {H : Hp} {p q : Addr} {o : Option (Nat × Nat)} (h : SqT K H p (twoV o)) (h2 : SqT K H q []) : RV (rNeD K) (.ref p) (.ref q) H (.bl o.isSome) := fun H1 e Q k =>
  ⟨twoD o, twoD none, two_dp (ex_t e h), two_dp (o := none) (ex_t e h2), two_shaped o, two_shaped none, by rw [two_eqv]; exact k H1 (Ex.refl H1)⟩
section
variable {K : PySem.W.Frag} {σ : L2.St} {H H' : Hp} {ta tb te : TE} {D : Ends} {tu tz : TS}
/-- two != (), of a name | of a call -/
theorem ev_neTwo {p : Addr} {o : Option (Nat × Nat)} (ha : Ev ta σ H (.ref p)) (h : SqT K H p (twoV o)) : Ev (tOp (rNeD K) ta (tTup tNil)) σ H (.bl o.isSome) :=
  ev_opU ha (eu_tup ea_nil (by decide)) fun q H1 hq e => rv_neTwo (ex_t e h) (st_of hq)
theorem ev_neTwoU {o : Option (Nat × Nat)} (ha : EvU ta σ H (twoV o)) : Ev (tOp (rNeD K) ta (tTup tNil)) σ H (.bl o.isSome) := fun H1 e Q q =>
  ha H1 e _ fun p H2 _ e2 hp => ev_neTwo (K := K) (σ := σ) (H := H2) (ta := tC (.ref p)) ev_c (st_of hp) H2 (Ex.refl H2) Q fun H3 e3 => q H3 (e2.trans e3)
/-- range(lo, n), of naturals -/
theorem s_forN2 {t : TA} {j lo n : Nat} (h : EvA t σ H [.int (lo : Int), .int (n : Int)]) (hl : lo ≤ n) (hn : n ≤ 100000) (Pv : Nat → L2.St → Hp → Prop) (h0 : ∀ H1, Ex H H1 → Pv lo σ H1)
    (hs : ∀ (i : Nat) σ' H', lo ≤ i → i < n → Pv i σ' H' → tu { D with nx := Pv (i + 1), ct := Pv (i + 1), bk := D.nx } (σ'.set j (some (.int (i : Int)))) H') (hd : ∀ σ' H', Pv n σ' H' → D.nx σ' H') : tFor (iRng2 t) (gName j) tu D σ H :=
  s_forR2 h ⟨by omega, by omega, by omega, by omega⟩ (fun i => Pv (lo + i)) h0 (fun i σ' H' hi p => by
    have q := hs (lo + i) σ' H' (by omega) (by omega) p
    rw [Int.natCast_add] at q
    exact q) (fun σ' H' p => by
    have e : lo + ((n : Int) - (lo : Int)).toNat = n := by omega
    exact hd σ' H' (e ▸ p))
theorem q_forN2 {t : TA} {j lo n : Nat} (h : EvA t σ H [.int (lo : Int), .int (n : Int)]) (hl : lo ≤ n) (hn : n ≤ 100000) (Pv : Nat → L2.St → Hp → Prop) (h0 : ∀ H1, Ex H H1 → Pv lo σ H1)
    (hs : ∀ (i : Nat) σ' H', lo ≤ i → i < n → Pv i σ' H' → tu { D with nx := Pv (i + 1), ct := Pv (i + 1), bk := tz D } (σ'.set j (some (.int (i : Int)))) H') (hd : ∀ σ' H', Pv n σ' H' → tz D σ' H') : tSeq (tFor (iRng2 t) (gName j) tu) tz D σ H :=
  s_forN2 (D := { D with nx := tz D }) h hl hn Pv h0 hs hd
end
/-- two stores at one place of the heap -/
theorem ex_set2 {H H1 H2 : Hp} {a : Addr} {x y z : HO} (e : Ex H H1) (e2 : Ex (upd H1 a y) H2) (h : z = x) : Ex (upd H a x) (upd H2 a z) := fun b o q => by
  by_cases c : b = a
  · subst c
    rw [upd_same] at q ⊢
    rw [h]
    exact q
  · rw [upd_ne c] at q ⊢
    exact e2 b o (by rw [upd_ne c]; exact e b o q)
/-- behind a change of a list that H does not know -/
theorem ex_mut2 {H H1 H2 H3 : Hp} {a : Addr} {x : HO} (e : Ex H H1) (e1 : Ex H1 H2) (h : H a = none) (e2 : Ex (upd H2 a x) H3) : Ex H H3 := (Ex.mut (e.trans e1) h).trans e2
/-! ### a list of pairs: a tuple each -/
def Prs (H : Hp) (rs : List V) (ps : List (Nat × Nat)) : Prop := rs.length = ps.length ∧ ∀ (i : Nat) (p : Nat × Nat), ps[i]? = some p → ∃ r : Addr, rs[i]? = some (V.ref r) ∧ H r = some (HO.tup (twoV (some p)))
theorem prs_nil {H : Hp} : Prs H [] [] := ⟨rfl, fun i p h => by simp at h⟩
theorem prs_ex {H H' : Hp} {rs : List V} {ps : List (Nat × Nat)} (h : Prs H rs ps) (e : ∀ r xs, H r = some (.tup xs) → H' r = some (.tup xs)) : Prs H' rs ps := ⟨h.1, fun i p hp => by
  obtain ⟨r, h1, h2⟩ := h.2 i p hp
  exact ⟨r, h1, e _ _ h2⟩⟩
theorem prs_app {H : Hp} {rs : List V} {ps : List (Nat × Nat)} {r : Addr} {p : Nat × Nat} (h : Prs H rs ps) (h2 : H r = some (.tup (twoV (some p)))) : Prs H (rs ++ [.ref r]) (ps ++ [p]) := by
  refine ⟨by rw [List.length_append, List.length_append, h.1]; rfl, fun i q hq => ?_⟩
  by_cases c : i < ps.length
  · rw [List.getElem?_append_left c] at hq
    rw [List.getElem?_append_left (by rw [h.1]; exact c)]
    exact h.2 i q hq
  · rw [List.getElem?_append_right (by omega)] at hq
    rw [List.getElem?_append_right (by rw [h.1]; omega), h.1]
    cases k : i - ps.length with
    | zero =>
      rw [k] at hq
      cases hq
      exact ⟨r, rfl, h2⟩
    | succ m =>
      rw [k] at hq
      simp at hq
/-- a tuple stays where a list changes -/
theorem tup_upd {H : Hp} {a r : Addr} {ys zs xs : List V} (ha : H a = some (.lst ys)) (h : H r = some (.tup xs)) : upd H a (.lst zs) r = some (.tup xs) := by
  rw [upd_ne]
  · exact h
  · intro e
    subst e
    rw [ha] at h
    cases h
def RetPs (ps : List (Nat × Nat)) (H : Hp) (Q : VK) : Prop := ∀ p H2 rs, H p = none → Ex H H2 → H2 p = some (.lst rs) → Prs H2 rs ps → Q (.ref p) H2
def SpPs (sp : Sp) (vs : List V) (H : Hp) (ps : List (Nat × Nat)) : Prop := ∀ H1, Ex H H1 → ∀ Q : VK, RetPs ps H1 Q → ∀ E : XK, sp vs H1 Q E
def EvPs (te : TE) (σ : L2.St) (H : Hp) (ps : List (Nat × Nat)) : Prop := ∀ H1, Ex H H1 → ∀ Q : VK, RetPs ps H1 Q → te σ H1 Q
theorem spp_of {sp : Sp} {vs : List V} {H : Hp} {ps : List (Nat × Nat)} (h : ∀ H1, Ex H H1 → ∀ (Q : VK) E, RetPs ps H1 Q → sp vs H1 Q E) : SpPs sp vs H ps := fun H1 e Q q E => h H1 e Q E q
theorem ep_call {σ : L2.St} {H : Hp} {sp : Sp} {dvs vs : List V} {ps : List (Nat × Nat)} {E : XK} {ta : TA} (h : EvA ta σ H vs) (hs : SpPs sp (vs ++ dvs) H ps) : EvPs (tCall sp dvs E ta) σ H ps := fun H1 e Q q =>
  h H1 e _ fun H2 e2 => hs H2 (e.trans e2) Q (fun p H3 rs hp e3 h3 hr => q p H3 rs (fresh_back e2 hp) (e2.trans e3) h3 hr) E
theorem ev_lenP {K : PySem.W.Frag} {σ : L2.St} {H : Hp} {ta : TE} {ps : List (Nat × Nat)} (ha : EvPs ta σ H ps) : Ev (tCB (rLenS K) (tCons ta tNil)) σ H (.int (ps.length : Int)) := fun H1 e Q q =>
  ha H1 e _ fun p H2 rs _ e2 h2 hr => ⟨p, rs, rfl, Or.inl (sq_of h2), by rw [hr.1]; exact q H2 e2⟩
theorem s_asgP {σ : L2.St} {H : Hp} {te : TE} {D : Ends} {i : Nat} {ps : List (Nat × Nat)} (h : EvPs te σ H ps) (k : ∀ p H1 rs, H p = none → Ex H H1 → H1 p = some (.lst rs) → Prs H1 rs ps → D.nx (σ.set i (some (.ref p))) H1) : tAsg te (gName i) D σ H :=
  h H (Ex.refl H) _ fun p H1 rs hp e h1 hr => k p H1 rs hp e h1 hr
theorem q_asgP {σ : L2.St} {H : Hp} {te : TE} {D : Ends} {tz : TS} {i : Nat} {ps : List (Nat × Nat)} (h : EvPs te σ H ps) (k : ∀ p H1 rs, H p = none → Ex H H1 → H1 p = some (.lst rs) → Prs H1 rs ps → tz D (σ.set i (some (.ref p))) H1) : tSeq (tAsg te (gName i)) tz D σ H :=
  s_asgP (D := { D with nx := tz D }) h k
theorem RetPs.go {ps : List (Nat × Nat)} {H H' H2 : Hp} {Q : VK} (k : RetPs ps H Q) (e : Ex H H') {p : Addr} {rs : List V} (hp : H' p = none) (e2 : Ex H' H2) (h : H2 p = some (.lst rs)) (hr : Prs H2 rs ps) : Q (.ref p) H2 := k p H2 rs (fresh_back e hp) (e.trans e2) h hr
/-! ### a list extended by a tuple -/
/-- list.extend by a tuple, whatever its dict and slots are -/
theorem meets_extT (l b : Addr) (xs ys : Array Value) (n m : Nat) (dc : Option Addr) (sl : Array (Option Value)) (hz : xs.size + ys.size ≤ sizeLine) :
    Meets (Builtin.«list.extend» ⟨[.ref l, .ref b], []⟩) (fun _ R s => s.heap.get? l = some { cls := .type "list", data := .seq xs n } ∧ s.heap.get? b = some ⟨.type "tuple", dc, .seq ys m, sl⟩ ∧
      R (.ok (.ret Value.none)) { s with heap := s.heap.update l (Obj.mapSeq fun z => z ++ ys), toks := s.toks }) := by
  have room : ¬ (!xs.isEmpty && Builtin.List.listTooLong (xs.size + ys.size)) = true := by
    have : Builtin.List.listTooLong (xs.size + ys.size) = false := decide_eq_false (by omega)
    rw [this, Bool.and_false]
    decide
  have fits : xs.size ≤ sizeLine := by omega
  have fits2 : (xs ++ ys).size ≤ sizeLine + 1 := by
    rw [Array.size_append]
    omega
  refine .of_wp fun prog w A R s h => ?_
  obtain ⟨hp, gs, dr, tk, os⟩ := s
  obtain ⟨h1, h2, h3⟩ := h
  have k1 := AutoSeq1.sub_list_list
  have k2 := AutoSeq1.sub_tuple_list
  have k3 := AutoSeq1.sub_tuple_tuple
  have k4 := AutoSeq1.sub_list_tuple
  wp_walk using (wpAny_updateSeq h1 rfl (hz := fits) (_hz' := fits2)), AutoSeq1.wpAny_loadPart' h1, AutoSeq1.wpAny_loadPart' h2
  exact ⟨_, rfl, h3⟩
/-- a list that stands in H, extended by a tuple that stands in H -/
def rExtT : V → List V → Hp → VK → Prop := fun x vs H Q => ∃ l b xs ys, x = .ref l ∧ vs = [.ref b] ∧ H l = some (.lst xs) ∧ H b = some (.tup ys) ∧ xs.length + ys.length ≤ 100000 ∧ Q .non (upd H l (.lst (xs ++ ys)))
theorem mt_extT {X : Cx} : MtM X "list.extend" rExtT := fun pins s σ H x vs v us Q I hx hv hr => by
  obtain ⟨l, b, xs, ys, rfl, rfl, hl, hb, hz, k⟩ := hr
  cases hx
  cases hv with
  | cons hu hn =>
    cases hn
    cases hu
    obtain ⟨_, is, n, r1, e1, g1⟩ := I.lstM hl
    obtain ⟨_, js, r2, ⟨cl, dc, dt, sl⟩, g2, o1, m, o2⟩ := I.hok b _ hb
    cases o1
    cases o2
    have e2 := r2.length
    have big : sizeLine = 16777216 := rfl
    refine call_meets F.slot_list_extend ⟨_, g1, rfl⟩ F.entry_list_extend (F.args_list_extend_2 ..) (meets_extT l b is.toArray js.toArray n m dc sl ?_) ⟨g1, g2, ?_⟩
    · rw [List.size_toArray, List.size_toArray]
      omega
    · exact ⟨V.non, _, I.lset (its' := is ++ js) hl g1 (by simp) (r1.append r2) (by rw [List.length_append]; omega), rfl, k⟩
section
variable {K : PySem.W.Frag} {σ : L2.St} {H : Hp} {ta te : TE} {D : Ends} {tz : TS}
/-- xs.extend(t), t a tuple -/
theorem s_extT {l t : Addr} {xs ys : List V} (hl : H l = some (.lst xs)) (ht : H t = some (.tup ys)) (ha : Ev ta σ H (.ref l)) (h : Ev te σ H (.ref t)) (hz : xs.length + ys.length ≤ 100000) (k : ∀ H1, Ex H H1 → D.nx σ (upd H1 l (.lst (xs ++ ys)))) :
    tDrop (tBM K "list" rExtT ta (tCons te tNil)) D σ H := ha H (Ex.refl H) _ fun H1 e1 =>
  ⟨Or.inl ⟨rfl, xs, sq_of (e1 _ _ hl)⟩, h H1 e1 _ fun H2 e2 => ⟨l, t, xs, ys, rfl, rfl, e2 _ _ (e1 _ _ hl), e2 _ _ (e1 _ _ ht), hz, k H2 (e1.trans e2)⟩⟩
/-- a call handed a new list, which gives a list of pairs -/
theorem ep_callL {sp : Sp} {dvs xs : List V} {ps : List (Nat × Nat)} {E : XK} (h : EvL te σ H xs) (hs : ∀ p H1, Ex H H1 → H1 p = some (.lst xs) → SpPs sp ([.ref p] ++ dvs) H1 ps) : EvPs (tCall sp dvs E (tCons te tNil)) σ H ps := fun H1 e Q q =>
  h H1 e _ fun p H2 _ e2 h2 => hs p H2 (e.trans e2) h2 H2 (Ex.refl H2) Q (fun r H3 rs hr e3 h3 hp => q r H3 rs (fresh_back e2 hr) (e2.trans e3) h3 hp) E
end
/-- pairs, flat -/
def flatV (ps : List (Nat × Nat)) : List V := ps.flatMap fun p => twoV (some p)
theorem flatV_ints (ps : List (Nat × Nat)) : (ps.flatMap fun p => [((p.1 : Nat) : Int), ((p.2 : Nat) : Int)]).map V.int = flatV ps := by
  unfold flatV
  rw [List.map_flatMap]
  rfl
theorem flatV_len : ∀ ps : List (Nat × Nat), (flatV ps).length = 2 * ps.length
  | [] => rfl
  | p :: ps => by
    show (twoV (some p) ++ flatV ps).length = _
    rw [List.length_append, flatV_len ps, List.length_cons]
    show 2 + _ = _
    omega
theorem flatV_take {ps : List (Nat × Nat)} {i : Nat} {p : Nat × Nat} (h : ps[i]? = some p) : flatV (ps.take i) ++ twoV (some p) = flatV (ps.take (i + 1)) := by
  rw [List.take_add_one, h]
  unfold flatV
  rw [List.flatMap_append]
  rfl
/-- the i-th of a list of pairs, as it stands -/
theorem prs_at {H : Hp} {rs : List V} {ps : List (Nat × Nat)} {i : Nat} {x : V} (h : Prs H rs ps) (hx : rs[i]? = some x) : ∃ p r, ps[i]? = some p ∧ x = V.ref r ∧ H r = some (HO.tup (twoV (some p))) := by
  have lt : i < ps.length := by
    rw [← h.1]
    exact (List.getElem?_eq_some_iff.mp hx).1
  obtain ⟨r, h1, h2⟩ := h.2 i _ (List.getElem?_eq_getElem lt)
  rw [hx] at h1
  exact ⟨_, r, List.getElem?_eq_getElem lt, Option.some.inj h1, h2⟩
end G

/-! ### the walk -/
namespace G
open PySem PySem.Spec PyProof.Rows L2 Evl
open PySem.W (Codec)
open Kzf1 (Net knows bits pairsOf pairs net okNet)
open Kzf5 (can cans round after rowOf)
def topS (i : Nat) : Stmt := PySem.Challenge.pw_introduced_s01_after.main.body.getD i (.Pass ⟨0, 0, 0, 0⟩)
abbrev s_acquaint : Stmt := topS 10
abbrev s_acquaintances : Stmt := topS 9
abbrev s_is_among : Stmt := topS 15
abbrev s_know_one_another : Stmt := topS 14
abbrev s_can_be_introduced : Stmt := topS 13
abbrev s_introduced_to : Stmt := topS 12
abbrev s_behind_a_round : Stmt := topS 11
abbrev s_is_a_guest : Stmt := topS 8
abbrev s_is_a_pair : Stmt := topS 7
abbrev s_is_as_told : Stmt := topS 6
abbrev s_how_many_pairs : Stmt := topS 16
abbrev s_after : Stmt := topS 5
theorem sc_acquaint : FnScope ["known", "guest", "other"] ["known", "guest", "other"] (defScope s_acquaint) := ⟨rfl, rfl, rfl, by decide +kernel, rfl, by decide +kernel, by decide +kernel⟩
theorem sc_acquaintances : FnScope ["n", "pairs", "known", "place"] ["n", "pairs"] (defScope s_acquaintances) := ⟨rfl, rfl, rfl, by decide +kernel, rfl, by decide +kernel, by decide +kernel⟩
theorem sc_is_among : FnScope ["bits", "guest"] ["bits", "guest"] (defScope s_is_among) := ⟨rfl, rfl, rfl, by decide +kernel, rfl, by decide +kernel, by decide +kernel⟩
theorem sc_know_one_another : FnScope ["known", "guest", "other"] ["known", "guest", "other"] (defScope s_know_one_another) := ⟨rfl, rfl, rfl, by decide +kernel, rfl, by decide +kernel, by decide +kernel⟩
theorem sc_can_be_introduced : FnScope ["known", "guest", "other"] ["known", "guest", "other"] (defScope s_can_be_introduced) := ⟨rfl, rfl, rfl, by decide +kernel, rfl, by decide +kernel, by decide +kernel⟩
theorem sc_introduced_to : FnScope ["known", "guest", "bits", "other"] ["known", "guest"] (defScope s_introduced_to) := ⟨rfl, rfl, rfl, by decide +kernel, rfl, by decide +kernel, by decide +kernel⟩
theorem sc_behind_a_round : FnScope ["known", "later", "guest"] ["known"] (defScope s_behind_a_round) := ⟨rfl, rfl, rfl, by decide +kernel, rfl, by decide +kernel, by decide +kernel⟩
theorem sc_is_a_guest : FnScope ["n", "guest"] ["n", "guest"] (defScope s_is_a_guest) := ⟨rfl, rfl, rfl, by decide +kernel, rfl, by decide +kernel, by decide +kernel⟩
theorem sc_is_a_pair : FnScope ["n", "guest", "other"] ["n", "guest", "other"] (defScope s_is_a_pair) := ⟨rfl, rfl, rfl, by decide +kernel, rfl, by decide +kernel, by decide +kernel⟩
theorem sc_is_as_told : FnScope ["n", "pairs", "place"] ["n", "pairs"] (defScope s_is_as_told) := ⟨rfl, rfl, rfl, by decide +kernel, rfl, by decide +kernel, by decide +kernel⟩
theorem sc_how_many_pairs : FnScope ["known", "number", "guest", "other"] ["known"] (defScope s_how_many_pairs) := ⟨rfl, rfl, rfl, by decide +kernel, rfl, by decide +kernel, by decide +kernel⟩
theorem sc_after : FnScope ["n", "k", "l", "known", "turn"] ["n", "k", "l"] (defScope s_after) := ⟨rfl, rfl, rfl, by decide +kernel, rfl, by decide +kernel, by decide +kernel⟩
/-- what the top has written: constants, and that the built-ins are the built-ins -/
structure Txt (mg : Str → Option Value) : Prop where
  c_MOST_GUESTS : ∃ t, mg "MOST_GUESTS" = some (.int (8) t)
  c_MOST_PAIRS : ∃ t, mg "MOST_PAIRS" = some (.int (28) t)
  c_MOST_ROUNDS : ∃ t, mg "MOST_ROUNDS" = some (.int (5) t)
  c_REFUSED : ∃ t, mg "REFUSED" = some (.int (-22) t)
  z_len : mg "len" = none
  z_range : mg "range" = none
def spGuest : Sp := fun vs H Q _ => ∃ n g : Nat, vs = [.int (n : Int), .int (g : Int)] ∧ RetV (.bl (decide (g < n))) H Q
def spPair : Sp := fun vs H Q _ => ∃ n a b : Nat, vs = [.int (n : Int), .int (a : Int), .int (b : Int)] ∧ RetV (.bl (okPair n a b)) H Q
def spTold (K : PySem.W.Frag) : Sp := fun vs H Q _ => ∃ (n : Nat) (a : Addr) (l : List Nat), vs = [.int (n : Int), .ref a] ∧ SqL K H a (natsV l) ∧ l.length ≤ 60 ∧ RetV (.bl (Kzf1.good n l)) H Q
def spAcq (K : PySem.W.Frag) : Sp := fun vs H Q _ => ∃ (n : Nat) (a : Addr) (l : List Nat), vs = [.int (n : Int), .ref a] ∧ SqL K H a (natsV l) ∧ l.length ≤ 60 ∧ Kzf1.good n l = true ∧ RetL (rowsV n (net l)) H Q
def spKnow (K : PySem.W.Frag) : Sp := fun vs H Q _ => ∃ (a : Addr) (n : Nat) (g : Net) (i j : Nat), vs = [.ref a, .int (i : Int), .int (j : Int)] ∧ SqL K H a (rowsV n g) ∧ n ≤ 8 ∧ i < n ∧ j < n ∧ RetV (.bl (knows g i j)) H Q
def spCan (K : PySem.W.Frag) : Sp := fun vs H Q _ => ∃ (a : Addr) (n : Nat) (g : Net) (i j : Nat), vs = [.ref a, .int (i : Int), .int (j : Int)] ∧ SqL K H a (rowsV n g) ∧ n ≤ 8 ∧ i < n ∧ j < n ∧ RetV (.bl (can n g i j)) H Q
def spIntro (K : PySem.W.Frag) : Sp := fun vs H Q _ => ∃ (a : Addr) (n : Nat) (g : Net) (i : Nat), vs = [.ref a, .int (i : Int)] ∧ SqL K H a (rowsV n g) ∧ n ≤ 8 ∧ i < n ∧ RetV (.int ((maskP n (can n g i) : Nat) : Int)) H Q
def spRound (K : PySem.W.Frag) : Sp := fun vs H Q _ => ∃ (a : Addr) (n : Nat) (g : Net), vs = [.ref a] ∧ SqL K H a (rowsV n g) ∧ n ≤ 8 ∧ RetL (rowsV n (round n g)) H Q
def spHow (K : PySem.W.Frag) : Sp := fun vs H Q _ => ∃ (a : Addr) (n : Nat) (g : Net), vs = [.ref a] ∧ SqL K H a (rowsV n g) ∧ n ≤ 8 ∧ RetV (.int ((pairs n g : Nat) : Int)) H Q
def spAmong : Sp := fun vs H Q _ => ∃ m j : Nat, vs = [.int (m : Int), .int (j : Int)] ∧ j ≤ 8 ∧ RetV (.bl (m.testBit j)) H Q
def spAcquaint (K : PySem.W.Frag) : Sp := fun vs H Q _ => ∃ (a : Addr) (n : Nat) (g : Net) (i j : Nat), vs = [.ref a, .int (i : Int), .int (j : Int)] ∧ H a = some (.lst (rowsV n g)) ∧ n ≤ 8 ∧ i < n ∧ j < n ∧ i ≠ j ∧ ∀ H2, Ex (upd H a (.lst (rowsV n (g ++ [(i, j)])))) H2 → Q .non H2
def spFirst (K : PySem.W.Frag) : Sp := fun vs H Q _ => ∃ (a : Addr) (n : Nat) (g : Net), vs = [.ref a] ∧ SqL K H a (rowsV n g) ∧ n ≤ 8 ∧ RetU (twoV (cans n g).head?) H Q
def spRounds (K : PySem.W.Frag) : Sp := fun vs H Q _ => ∃ (a : Addr) (n : Nat) (g : Net), vs = [.ref a] ∧ SqL K H a (rowsV n g) ∧ n ≤ 8 ∧ RetV (.int ((Kzf5.rounds n g : Nat) : Int)) H Q
def spOne (K : PySem.W.Frag) : Sp := fun vs H Q _ => ∃ (a : Addr) (n : Nat) (g : Net), vs = [.ref a] ∧ SqL K H a (rowsV n g) ∧ n ≤ 8 ∧ RetPs (Kzf5.oneByOne n g) H Q
def spGroups (K : PySem.W.Frag) : Sp := fun vs H Q _ => ∃ (a : Addr) (n : Nat) (g : Net), vs = [.ref a] ∧ SqL K H a (rowsV n g) ∧ n ≤ 8 ∧ RetV (.int ((Kzf5.groups n g : Nat) : Int)) H Q
def spGroup (K : PySem.W.Frag) : Sp := fun vs H Q _ => ∃ (a : Addr) (n : Nat) (g : Net) (i : Nat), vs = [.ref a, .int (i : Int)] ∧ SqL K H a (rowsV n g) ∧ n ≤ 8 ∧ i < n ∧ RetV (.int ((maskP n (rB n g i) : Nat) : Int)) H Q
def spStep (K : PySem.W.Frag) : Sp := fun vs H Q _ => ∃ (a : Addr) (n : Nat) (g : Net) (p : Nat → Bool), vs = [.ref a, .int ((maskP n p : Nat) : Int)] ∧ SqL K H a (rowsV n g) ∧ n ≤ 8 ∧ RetV (.int ((maskP n (stepB n g p) : Nat) : Int)) H Q
def spSteps (K : PySem.W.Frag) : Sp := fun vs H Q _ => ∃ (a : Addr) (n : Nat) (g : Net) (i j d : Nat), vs = [.ref a, .int (i : Int), .int (j : Int)] ∧ SqL K H a (rowsV n g) ∧ n ≤ 8 ∧ i < n ∧ j < n ∧ Kzf5.far n g i j = some d ∧ RetV (.int (d : Int)) H Q
def spTill (K : PySem.W.Frag) : Sp := fun vs H Q _ => ∃ (a : Addr) (n : Nat) (g : Net) (i j d : Nat), vs = [.ref a, .int (i : Int), .int (j : Int)] ∧ SqL K H a (rowsV n g) ∧ n ≤ 8 ∧ i < n ∧ j < n ∧ Kzf5.far n g i j = some d ∧ RetV (.int ((Kzf5.meet d : Nat) : Int)) H Q
def spFar (K : PySem.W.Frag) : Sp := fun vs H Q _ => ∃ (n i j : Nat) (a : Addr) (l : List Nat), vs = [.int (n : Int), .int (i : Int), .int (j : Int), .ref a] ∧ SqL K H a (natsV l) ∧ l.length ≤ 60 ∧ RetL ((PyKzf5.far n i j (l.map fun (x : Nat) => (x : Int))).map V.int) H Q
def spOneA (K : PySem.W.Frag) : Sp := fun vs H Q _ => ∃ (n : Nat) (a : Addr) (l : List Nat), vs = [.int (n : Int), .ref a] ∧ SqL K H a (natsV l) ∧ l.length ≤ 60 ∧ RetL ((PyKzf5.one_ n (l.map fun (x : Nat) => (x : Int))).map V.int) H Q
def spRoundsA (K : PySem.W.Frag) : Sp := fun vs H Q _ => ∃ (n : Nat) (a : Addr) (l : List Nat), vs = [.int (n : Int), .ref a] ∧ SqL K H a (natsV l) ∧ l.length ≤ 60 ∧ RetL ((PyKzf5.rounds n (l.map fun (x : Nat) => (x : Int))).map V.int) H Q
def spAfter (K : PySem.W.Frag) : Sp := fun vs H Q _ => ∃ (n k : Nat) (a : Addr) (l : List Nat), vs = [.int (n : Int), .int (k : Int), .ref a] ∧ SqL K H a (natsV l) ∧ l.length ≤ 60 ∧ RetL ((PyKzf5.after n k (l.map fun (x : Nat) => (x : Int))).map V.int) H Q
section
variable {K : PySem.W.Frag} {H : Hp} {a : Addr} {n i j : Nat} {g : Net} {l : List Nat}
theorem v_guest {g : Nat} : SpV spGuest [.int (n : Int), .int (g : Int)] H (.bl (decide (g < n))) := spv_of fun H1 _ Q E q => ⟨n, g, rfl, q⟩
theorem v_pair {a b : Nat} : SpV spPair [.int (n : Int), .int (a : Int), .int (b : Int)] H (.bl (okPair n a b)) := spv_of fun H1 _ Q E q => ⟨n, a, b, rfl, q⟩
theorem v_told (h : SqL K H a (natsV l)) (hl : l.length ≤ 60) : SpV (spTold K) [.int (n : Int), .ref a] H (.bl (Kzf1.good n l)) := spv_of fun H1 e Q E q => ⟨n, a, l, rfl, ex_l e h, hl, q⟩
theorem v_acq (h : SqL K H a (natsV l)) (hl : l.length ≤ 60) (hg : Kzf1.good n l = true) : SpL (spAcq K) [.int (n : Int), .ref a] H (rowsV n (net l)) := spl_of fun H1 e Q E q => ⟨n, a, l, rfl, ex_l e h, hl, hg, q⟩
theorem v_know (h : SqL K H a (rowsV n g)) (hn : n ≤ 8) (hi : i < n) (hj : j < n) : SpV (spKnow K) [.ref a, .int (i : Int), .int (j : Int)] H (.bl (knows g i j)) := spv_of fun H1 e Q E q => ⟨a, n, g, i, j, rfl, ex_l e h, hn, hi, hj, q⟩
theorem v_can (h : SqL K H a (rowsV n g)) (hn : n ≤ 8) (hi : i < n) (hj : j < n) : SpV (spCan K) [.ref a, .int (i : Int), .int (j : Int)] H (.bl (can n g i j)) := spv_of fun H1 e Q E q => ⟨a, n, g, i, j, rfl, ex_l e h, hn, hi, hj, q⟩
theorem v_intro (h : SqL K H a (rowsV n g)) (hn : n ≤ 8) (hi : i < n) : SpV (spIntro K) [.ref a, .int (i : Int)] H (.int ((maskP n (can n g i) : Nat) : Int)) := spv_of fun H1 e Q E q => ⟨a, n, g, i, rfl, ex_l e h, hn, hi, q⟩
theorem v_round (h : SqL K H a (rowsV n g)) (hn : n ≤ 8) : SpL (spRound K) [.ref a] H (rowsV n (round n g)) := spl_of fun H1 e Q E q => ⟨a, n, g, rfl, ex_l e h, hn, q⟩
theorem v_how (h : SqL K H a (rowsV n g)) (hn : n ≤ 8) : SpV (spHow K) [.ref a] H (.int ((pairs n g : Nat) : Int)) := spv_of fun H1 e Q E q => ⟨a, n, g, rfl, ex_l e h, hn, q⟩
theorem v_among {m : Nat} (hj : j ≤ 8) : SpV spAmong [.int (m : Int), .int (j : Int)] H (.bl (m.testBit j)) := spv_of fun H1 _ Q E q => ⟨m, j, rfl, hj, q⟩
theorem v_first (h : SqL K H a (rowsV n g)) (hn : n ≤ 8) : SpU (spFirst K) [.ref a] H (twoV (cans n g).head?) := spu_of fun H1 e Q E q => ⟨a, n, g, rfl, ex_l e h, hn, q⟩
theorem v_rounds (h : SqL K H a (rowsV n g)) (hn : n ≤ 8) : SpV (spRounds K) [.ref a] H (.int ((Kzf5.rounds n g : Nat) : Int)) := spv_of fun H1 e Q E q => ⟨a, n, g, rfl, ex_l e h, hn, q⟩
theorem v_one (h : SqL K H a (rowsV n g)) (hn : n ≤ 8) : SpPs (spOne K) [.ref a] H (Kzf5.oneByOne n g) := spp_of fun H1 e Q E q => ⟨a, n, g, rfl, ex_l e h, hn, q⟩
theorem v_groups (h : SqL K H a (rowsV n g)) (hn : n ≤ 8) : SpV (spGroups K) [.ref a] H (.int ((Kzf5.groups n g : Nat) : Int)) := spv_of fun H1 e Q E q => ⟨a, n, g, rfl, ex_l e h, hn, q⟩
theorem v_group (h : SqL K H a (rowsV n g)) (hn : n ≤ 8) (hi : i < n) : SpV (spGroup K) [.ref a, .int (i : Int)] H (.int ((maskP n (rB n g i) : Nat) : Int)) := spv_of fun H1 e Q E q => ⟨a, n, g, i, rfl, ex_l e h, hn, hi, q⟩
theorem v_step {p : Nat → Bool} (h : SqL K H a (rowsV n g)) (hn : n ≤ 8) : SpV (spStep K) [.ref a, .int ((maskP n p : Nat) : Int)] H (.int ((maskP n (stepB n g p) : Nat) : Int)) := spv_of fun H1 e Q E q => ⟨a, n, g, p, rfl, ex_l e h, hn, q⟩
theorem v_steps {d : Nat} (h : SqL K H a (rowsV n g)) (hn : n ≤ 8) (hi : i < n) (hj : j < n) (hd : Kzf5.far n g i j = some d) : SpV (spSteps K) [.ref a, .int (i : Int), .int (j : Int)] H (.int (d : Int)) := spv_of fun H1 e Q E q => ⟨a, n, g, i, j, d, rfl, ex_l e h, hn, hi, hj, hd, q⟩
theorem v_till {d : Nat} (h : SqL K H a (rowsV n g)) (hn : n ≤ 8) (hi : i < n) (hj : j < n) (hd : Kzf5.far n g i j = some d) : SpV (spTill K) [.ref a, .int (i : Int), .int (j : Int)] H (.int ((Kzf5.meet d : Nat) : Int)) := spv_of fun H1 e Q E q => ⟨a, n, g, i, j, d, rfl, ex_l e h, hn, hi, hj, hd, q⟩
variable {σ : L2.St} {ta : TE}
/-- the two are let know one another: the list changes -/
theorem st_acquaint {D : Ends} {tr : TA} {E : XK} (h : EvA tr σ H [.ref a, .int (i : Int), .int (j : Int)]) (hs : H a = some (.lst (rowsV n g))) (hn : n ≤ 8) (hi : i < n) (hj : j < n) (hij : i ≠ j)
    (k : ∀ H1 H2, Ex H H1 → Ex (upd H1 a (.lst (rowsV n (g ++ [(i, j)])))) H2 → D.nx σ H2) : tDrop (tCall (spAcquaint K) [] E tr) D σ H :=
  h H (Ex.refl H) _ fun H1 e1 => ⟨a, n, g, i, j, rfl, e1 _ _ hs, hn, hi, hj, hij, fun H2 e2 => k H1 H2 e1 e2⟩
theorem sq_acquaint {D : Ends} {tr : TA} {tz : TS} {E : XK} (h : EvA tr σ H [.ref a, .int (i : Int), .int (j : Int)]) (hs : H a = some (.lst (rowsV n g))) (hn : n ≤ 8) (hi : i < n) (hj : j < n) (hij : i ≠ j)
    (k : ∀ H1 H2, Ex H H1 → Ex (upd H1 a (.lst (rowsV n (g ++ [(i, j)])))) H2 → tz D σ H2) : tSeq (tDrop (tCall (spAcquaint K) [] E tr)) tz D σ H :=
  st_acquaint (D := { D with nx := tz D }) h hs hn hi hj hij k
theorem ev_lenR (ha : Ev ta σ H (.ref a)) (h : SqL K H a (rowsV n g)) : Ev (tCB (rLenS K) (tCons ta tNil)) σ H (.int (n : Int)) := ev_is (ev_len ha h) (by rw [rowsV_len])
theorem ev_lenNs (ha : Ev ta σ H (.ref a)) (h : SqL K H a (natsV l)) : Ev (tCB (rLenS K) (tCons ta tNil)) σ H (.int (l.length : Int)) := ev_is (ev_len ha h) (by rw [natsV_len])
end
section
variable {P : Program} {w : World} {K : PySem.W.Frag} {mg : Str → Option Value} {base : Heap}
theorem after_out {n : Nat} : ∀ (k : Nat) (g : Net), after n g (k + 1) = round n (after n g k)
  | 0, _ => rfl
  | k + 1, g => by
    show after n (round n g) (k + 1) = round n (after n (round n g) k)
    exact after_out k (round n g)
theorem ok_is_a_guest {f : Addr} {fd : FuncData} (F : Fun K "is_a_guest" "is_a_guest" s_is_a_guest f fd) (T : Txt mg) : FnOk P w K mg base CX0 1 f fd ["n", "guest"] spGuest := by
  refine F.ok sc_is_a_guest (fun vs H Q E h => ?_) (fun cdv A outer s H vs Q E hr h => ?_)
  · obtain ⟨n, g, rfl, _⟩ := h
    rfl
  · obtain ⟨n, g, rfl, k⟩ := h
    refine ⟨_, (pss_one (ps_ret (pe_and (pe_cmpR op_ge (pv 1) pe_int (nomark _)) (pe_one (pe_cmpR op_lt (pv 1) (pv 0) (nomark _)))))), ?_⟩
    refine s_ret (ev_is (ev_andV (ev_op (ev_var rfl) ev_c rv_I0) fun _ => ev_op (ev_var rfl) (ev_var rfl) rv_I0) ?_) k
    rw [show decide ((0 : Int) ≤ (g : Int)) = true from decide_eq_true (by omega), Bool.true_and]
    congr 1
    rw [decide_eq_decide]
    omega
theorem ok_is_a_pair {f : Addr} {fd : FuncData} (F : Fun K "is_a_pair" "is_a_pair" s_is_a_pair f fd) (T : Txt mg) (h_is_a_guest : Has P w K mg base 1 "is_a_guest" s_is_a_guest ["n", "guest"] spGuest) : FnOk P w K mg base CX0 2 f fd ["n", "guest", "other"] spPair := by
  obtain ⟨f_is_a_guest, fd_is_a_guest, F_is_a_guest, b_is_a_guest, g_is_a_guest, G_is_a_guest⟩ := h_is_a_guest.ex
  refine F.ok sc_is_a_pair (fun vs H Q E h => ?_) (fun cdv A outer s H vs Q E hr h => ?_)
  · obtain ⟨n, a, b, rfl, _⟩ := h
    rfl
  · obtain ⟨n, a, b, rfl, k⟩ := h
    refine ⟨_, (pss_one (ps_ret (pe_and (pe_call G_is_a_guest (hr.mono (by decide)) rfl g_is_a_guest F_is_a_guest.kp b_is_a_guest .nil pass0 (pa_cons (pv 0) (pa_cons (pv 1) pa_nil))) (pe_and (pe_call G_is_a_guest (hr.mono (by decide)) rfl g_is_a_guest F_is_a_guest.kp b_is_a_guest .nil pass0 (pa_cons (pv 0) (pa_cons (pv 2) pa_nil))) (pe_one (pe_cmpR op_ne (pv 1) (pv 2) (nomark _))))))), ?_⟩
    refine s_ret (ev_is (ev_andV (ev_call (ea_cons (ev_var rfl) (ea_cons (ev_var rfl) ea_nil)) v_guest) fun _ => ev_andV (ev_call (ea_cons (ev_var rfl) (ea_cons (ev_var rfl) ea_nil)) v_guest) fun _ => ev_op (ev_var rfl) (ev_var rfl) (rv_ne rfl)) ?_) k
    unfold okPair
    rw [dec_int, Bool.and_assoc]
    congr 4
    rw [Bool.eq_iff_iff]
    simp
    omega
theorem ok_is_as_told {f : Addr} {fd : FuncData} (F : Fun K "is_as_told" "is_as_told" s_is_as_told f fd) (T : Txt mg) (h_is_a_pair : Has P w K mg base 2 "is_a_pair" s_is_a_pair ["n", "guest", "other"] spPair) : FnOk P w K mg base CX0 3 f fd ["n", "pairs"] (spTold K) := by
  obtain ⟨f_is_a_pair, fd_is_a_pair, F_is_a_pair, b_is_a_pair, g_is_a_pair, G_is_a_pair⟩ := h_is_a_pair.ex
  refine F.ok sc_is_as_told (fun vs H Q E h => ?_) (fun cdv A outer s H vs Q E hr h => ?_)
  · obtain ⟨n, a, l, rfl, _⟩ := h
    rfl
  · obtain ⟨n, a, l, rfl, hS, hl, k⟩ := h
    refine ⟨_, (pss_cons (ps_if (PW.pt (pw_or (pt_cmpR op_lt (pv 0) pe_int (nomark _)) (pw_or1 (pt_cmpR op_gt (pv 0) (pe_glob (v := .int (8)) rfl T.c_MOST_GUESTS.choose_spec ⟨_, rfl⟩) (nomark _)))))
      (pss_one (ps_ret pe_bl))
      pss_nil)
    (pss_cons (ps_if (PW.pt (pw_or (pt_cmpR op_ne (pe_op op_mod (pe_callB call_len_seq (by rfl) T.z_len PySem.boot_len (pa_cons (pv 1) pa_nil)) pe_int) pe_int (nomark _)) (pw_or1 (pt_cmpR op_gt (pe_callB call_len_seq (by rfl) T.z_len PySem.boot_len (pa_cons (pv 1) pa_nil)) (pe_op op_mul pe_int (pe_glob (v := .int (28)) rfl T.c_MOST_PAIRS.choose_spec ⟨_, rfl⟩)) (nomark _)))))
      (pss_one (ps_ret pe_bl))
      pss_nil)
    (pss_cons (ps_for PassesOwn.never rfl (pi_range3 (by rfl) T.z_range (pa_cons pe_int (pa_cons (pe_callB call_len_seq (by rfl) T.z_len PySem.boot_len (pa_cons (pv 1) pa_nil)) (pa_cons pe_int pa_nil)))) (pg_name (i := 2) sc_is_as_told.nd rfl (Or.inl rfl))
      (pss_one (ps_if (pt_not (pt_val (pe_call G_is_a_pair (hr.mono (by decide)) rfl g_is_a_pair F_is_a_pair.kp b_is_a_pair .nil pass0 (pa_cons (pv 0) (pa_cons (pe_ix ix_list (pv 1) (pv 2) (fun _ _ => rfl)) (pa_cons (pe_ix ix_list (pv 1) (pe_op op_add (pv 2) pe_int) (fun _ _ => rfl)) pa_nil))))))
        (pss_one (ps_ret pe_bl))
        pss_nil)))
    (pss_one (ps_ret pe_bl))))), ?_⟩
    refine q_when (et_or (et_test (ev_op (ev_var rfl) ev_c rv_I0)) fun _ => et_test (ev_op (ev_var rfl) ev_c rv_I0)) (fun hb H1 e1 => s_ret ev_c fun H2 e2 => ?_) (fun hb H1 e1 => ?_)
    · have z : Kzf1.good n l = false := by
        rw [Bool.eq_false_iff]
        intro q
        have q := good_iff.mp q
        simp at hb
        omega
      have := k.go (e1.trans e2)
      rw [z] at this
      exact this
    · simp at hb
      refine q_when (et_or (et_test (ev_op (ev_op (ev_lenNs (ev_var rfl) (ex_l e1 hS)) ev_c (rv_I (by decide))) ev_c (rv_ne rfl))) fun _ => et_test (ev_op (ev_lenNs (ev_var rfl) (ex_l e1 hS)) (ev_op ev_c ev_c (rv_I (Or.inl ⟨by decide, by decide⟩))) rv_I0)) (fun hb2 H2 e2 => s_ret ev_c fun H3 e3 => ?_) (fun hb2 H2 e2 => ?_)
      · have z : Kzf1.good n l = false := by
          rw [Bool.eq_false_iff]
          intro q
          have q := good_iff.mp q
          simp at hb2
          omega
        have := k.go ((e1.trans e2).trans e3)
        rw [z] at this
        exact this
      · simp at hb2
        have e12 := e1.trans e2
        refine q_forR3 (L := l.length) (ea_cons ev_c (ea_cons (ev_lenNs (ev_var rfl) (ex_l e12 hS)) (ea_cons ev_c ea_nil))) hl (by omega) (fun i σ' H' => Ex H H' ∧ (∃ v, σ' = [some (.int (n : Int)), some (.ref a), v]) ∧ ∀ t, t < i → okPair n (l.getD (2 * t) 0) (l.getD (2 * t + 1) 0) = true) ?_ ?_ ?_
        · exact fun H1 e => ⟨e12.trans e, ⟨_, rfl⟩, fun t ht => absurd ht (by omega)⟩
        · rintro i _ H' hi ⟨e', ⟨v, rfl⟩, hp⟩
          have hS' := ex_l e' hS
          refine s_when (et_not (et_B (ev_call (ea_cons (ev_var rfl) (ea_cons (ev_op (ev_var rfl) (ev_var rfl) (rv_ixL hS' (natsV_at (i := 2 * i) (by omega)))) (ea_cons (ev_op (ev_var rfl) (ev_op (ev_var rfl) ev_c rv_I0) (rv_ixL hS' (natsV_at (i := 2 * i + 1) (by omega)))) ea_nil))) v_pair))) (fun hb3 H3 e3 => s_ret ev_c fun H4 e4 => ?_) (fun hb3 H3 e3 => ?_)
          · have z : Kzf1.good n l = false := by
              rw [Bool.eq_false_iff]
              intro q
              have q := (good_iff.mp q).2.2.2.2 i hi
              rw [q] at hb3
              cases hb3
            have := k.go ((e'.trans e3).trans e4)
            rw [z] at this
            exact this
          · refine ⟨e'.trans e3, ⟨_, rfl⟩, fun t ht => ?_⟩
            by_cases c : t = i
            · subst c
              simpa using hb3
            · exact hp t (by omega)
        · rintro _ H' ⟨e', ⟨v, rfl⟩, hp⟩
          refine s_ret ev_c fun H3 e3 => ?_
          have z : Kzf1.good n l = true := good_iff.mpr ⟨by omega, by omega, by omega, by omega, fun t ht => hp t (by omega)⟩
          have := k.go (e'.trans e3)
          rw [z] at this
          exact this
theorem ok_acquaint {f : Addr} {fd : FuncData} (F : Fun K "acquaint" "acquaint" s_acquaint f fd) (T : Txt mg) : FnOk P w K mg base CX0 1 f fd ["known", "guest", "other"] (spAcquaint K) := by
  refine F.ok sc_acquaint (fun vs H Q E h => ?_) (fun cdv A outer s H vs Q E hr h => ?_)
  · obtain ⟨a, n, g, i, j, rfl, _⟩ := h
    rfl
  · obtain ⟨a, n, g, i, j, rfl, hA, hn, hi, hj, hij, k⟩ := h
    refine ⟨_, (pss_cons (ps_asg (pe_op op_or (pe_ix ix_list (pv 0) (pv 1) (fun _ _ => rfl)) (pe_op op_shl pe_int (pv 2))) (pg_sub (pv 0) (pv 1) set_list))
    (pss_one (ps_asg (pe_op op_or (pe_ix ix_list (pv 0) (pv 2) (fun _ _ => rfl)) (pe_op op_shl pe_int (pv 1))) (pg_sub (pv 0) (pv 2) set_list)))), ?_⟩
    refine q_setL (j := i) (l := a) hA (ev_is (ev_op (ev_op (ev_var rfl) (ev_var rfl) (rv_ixL (sq_of hA) (rowsV_at hi))) (ev_op ev_c (ev_var rfl) (rv_I ⟨by omega, by omega, by decide⟩)) rv_I0) (by rw [pow_nat, or_nat])) (ev_var rfl) (ev_var rfl) (by rw [rowsV_len]; exact hi) fun H4 e4 => ?_
    refine s_setL (j := j) (l := a) upd_same (ev_is (ev_op (ev_op (ev_var rfl) (ev_var rfl) (rv_ixL (sq_of upd_same) (rows_set_at hj hij))) (ev_op ev_c (ev_var rfl) (rv_I ⟨by omega, by omega, by decide⟩)) rv_I0) (by rw [pow_nat, or_nat])) (ev_var rfl) (ev_var rfl) (by rw [List.length_set, rowsV_len]; exact hj) fun H5 e5 => ?_
    exact k _ (ex_set2 e4 e5 (by rw [rows_tell hi hj hij]))
theorem ok_acquaintances {f : Addr} {fd : FuncData} (F : Fun K "acquaintances" "acquaintances" s_acquaintances f fd) (T : Txt mg) (h_acquaint : Has P w K mg base 1 "acquaint" s_acquaint ["known", "guest", "other"] (spAcquaint K)) : FnOk P w K mg base CX0 2 f fd ["n", "pairs"] (spAcq K) := by
  obtain ⟨f_acquaint, fd_acquaint, F_acquaint, b_acquaint, g_acquaint, G_acquaint⟩ := h_acquaint.ex
  refine F.ok sc_acquaintances (fun vs H Q E h => ?_) (fun cdv A outer s H vs Q E hr h => ?_)
  · obtain ⟨n, a, l, rfl, _⟩ := h
    rfl
  · obtain ⟨n, a, l, rfl, hS, hl, hg, k⟩ := h
    obtain ⟨g0, g1, g2, g3, g4⟩ := good_iff.mp hg
    refine ⟨_, (pss_cons (ps_set (i := 2) sc_acquaintances.nd rfl (Or.inl rfl) (pe_op op_rep (pe_lst (pa_cons pe_int pa_nil)) (pv 0)))
    (pss_cons (ps_for PassesOwn.never rfl (pi_range3 (by rfl) T.z_range (pa_cons pe_int (pa_cons (pe_callB call_len_seq (by rfl) T.z_len PySem.boot_len (pa_cons (pv 1) pa_nil)) (pa_cons pe_int pa_nil)))) (pg_name (i := 3) sc_acquaintances.nd rfl (Or.inl rfl))
      (pss_one (ps_expr (pe_call G_acquaint (hr.mono (by decide)) rfl g_acquaint F_acquaint.kp b_acquaint .nil pass0 (pa_cons (pv 2) (pa_cons (pe_ix ix_list (pv 1) (pv 3) (fun _ _ => rfl)) (pa_cons (pe_ix ix_list (pv 1) (pe_op op_add (pv 3) pe_int) (fun _ _ => rfl)) pa_nil)))))))
    (pss_one (ps_ret (pv 2))))), ?_⟩
    refine q_asgL (el_rep (k := n) (el_lst (ea_cons ev_c ea_nil) (by decide)) (fun H1 e => ev_var rfl) (by omega)) fun kn H1 hkn e1 h1 => ?_
    rw [rows_nil] at h1
    refine q_forR3 (L := l.length) (ea_cons ev_c (ea_cons (ev_lenNs (ev_var rfl) (ex_l e1 hS)) (ea_cons ev_c ea_nil))) hl (by omega) (fun i σ' H' => Ex H H' ∧ H' kn = some (.lst (rowsV n ((net l).take i))) ∧ ∃ v3, σ' = [some (.int (n : Int)), some (.ref a), some (.ref kn), v3]) ?_ ?_ ?_
    · exact fun H2 e => ⟨e1.trans e, e _ _ h1, _, rfl⟩
    · rintro i _ H' hi ⟨e', hK, v3, rfl⟩
      have hS' := ex_l e' hS
      have hp := g4 i hi
      unfold okPair at hp
      simp only [Bool.and_eq_true, decide_eq_true_eq, bne_iff_ne, ne_eq] at hp
      obtain ⟨⟨ha, hb⟩, hab⟩ := hp
      have hnet := net_get l i (by omega)
      generalize hx : l.getD (2 * i) 0 = x at ha hab hnet
      generalize hy : l.getD (2 * i + 1) 0 = y at hb hab hnet
      have ax : atI (natsV l) ((2 * i : Nat) : Int) = some (.int (x : Int)) := by rw [← hx]; exact natsV_at (by omega)
      have ay : atI (natsV l) ((2 * i + 1 : Nat) : Int) = some (.int (y : Int)) := by rw [← hy]; exact natsV_at (by omega)
      refine st_acquaint (n := n) (ea_cons (ev_var rfl) (ea_cons (ev_op (ev_var rfl) (ev_var rfl) (rv_ixL hS' ax)) (ea_cons (ev_op (ev_var rfl) (ev_op (ev_var rfl) ev_c rv_I0) (rv_ixL hS' ay)) ea_nil))) hK (by omega) ha hb hab fun H2 H3 e2 e3 => ?_
      refine ⟨ex_mut2 e' e2 hkn e3, ?_, _, rfl⟩
      rw [e3 _ _ upd_same, List.take_add_one, hnet]
      rfl
    · rintro _ H' ⟨e', hK, v3, rfl⟩
      rw [List.take_of_length_le (by rw [net_length]; omega)] at hK
      exact s_ret (ev_var rfl) fun H2 e2 => k kn H2 hkn (e'.trans e2) (e2 _ _ hK)
theorem ok_is_among {f : Addr} {fd : FuncData} (F : Fun K "is_among" "is_among" s_is_among f fd) (T : Txt mg) : FnOk P w K mg base CX0 1 f fd ["bits", "guest"] spAmong := by
  refine F.ok sc_is_among (fun vs H Q E h => ?_) (fun cdv A outer s H vs Q E hr h => ?_)
  · obtain ⟨m, j, rfl, _⟩ := h
    rfl
  · obtain ⟨m, j, rfl, hj, k⟩ := h
    refine ⟨_, (pss_one (ps_ret (pe_cmpR op_eq (pe_op op_and (pe_op op_shr (pv 0) (pv 1)) pe_int) pe_int (nomark _)))), ?_⟩
    refine s_ret (ev_is (ev_op (ev_op (ev_op (ev_var rfl) (ev_var rfl) (rv_I (by omega))) ev_c rv_I0) ev_c (rv_eq rfl)) ?_) k
    rw [bit_nat]
theorem ok_know_one_another {f : Addr} {fd : FuncData} (F : Fun K "know_one_another" "know_one_another" s_know_one_another f fd) (T : Txt mg) (h_is_among : Has P w K mg base 1 "is_among" s_is_among ["bits", "guest"] spAmong) : FnOk P w K mg base CX0 2 f fd ["known", "guest", "other"] (spKnow K) := by
  obtain ⟨f_is_among, fd_is_among, F_is_among, b_is_among, g_is_among, G_is_among⟩ := h_is_among.ex
  refine F.ok sc_know_one_another (fun vs H Q E h => ?_) (fun cdv A outer s H vs Q E hr h => ?_)
  · obtain ⟨a, n, g, i, j, rfl, _⟩ := h
    rfl
  · obtain ⟨a, n, g, i, j, rfl, hS, hn, hi, hj, k⟩ := h
    refine ⟨_, (pss_one (ps_ret (pe_call G_is_among (hr.mono (by decide)) rfl g_is_among F_is_among.kp b_is_among .nil pass0 (pa_cons (pe_ix ix_list (pv 0) (pv 1) (fun _ _ => rfl)) (pa_cons (pv 2) pa_nil))))), ?_⟩
    refine s_ret (ev_is (ev_call (ea_cons (ev_op (ev_var rfl) (ev_var rfl) (rv_ixL hS (rowsV_at hi))) (ea_cons (ev_var rfl) ea_nil)) (v_among (by omega))) ?_) k
    rw [maskP_bit, decide_eq_true hj, Bool.true_and]
theorem ok_can_be_introduced {f : Addr} {fd : FuncData} (F : Fun K "can_be_introduced" "can_be_introduced" s_can_be_introduced f fd) (T : Txt mg) (h_know_one_another : Has P w K mg base 2 "know_one_another" s_know_one_another ["known", "guest", "other"] (spKnow K)) : FnOk P w K mg base CX0 3 f fd ["known", "guest", "other"] (spCan K) := by
  obtain ⟨f_know_one_another, fd_know_one_another, F_know_one_another, b_know_one_another, g_know_one_another, G_know_one_another⟩ := h_know_one_another.ex
  refine F.ok sc_can_be_introduced (fun vs H Q E h => ?_) (fun cdv A outer s H vs Q E hr h => ?_)
  · obtain ⟨a, n, g, i, j, rfl, _⟩ := h
    rfl
  · obtain ⟨a, n, g, i, j, rfl, hS, hn, hi, hj, k⟩ := h
    refine ⟨_, (pss_cons (ps_if (PW.pt (pw_or (pt_cmpR op_eq (pv 1) (pv 2) (nomark _)) (pw_or1 (pt_val (pe_call G_know_one_another (hr.mono (by decide)) rfl g_know_one_another F_know_one_another.kp b_know_one_another .nil pass0 (pa_cons (pv 0) (pa_cons (pv 1) (pa_cons (pv 2) pa_nil))))))))
      (pss_one (ps_ret pe_bl))
      pss_nil)
    (pss_one (ps_ret (pe_cmpR op_ne (pe_op op_and (pe_ix ix_list (pv 0) (pv 1) (fun _ _ => rfl)) (pe_ix ix_list (pv 0) (pv 2) (fun _ _ => rfl))) pe_int (nomark _))))), ?_⟩
    refine q_when (et_or (et_test (ev_op (ev_var rfl) (ev_var rfl) (rv_eq rfl))) fun _ => et_B (ev_call (ea_cons (ev_var rfl) (ea_cons (ev_var rfl) (ea_cons (ev_var rfl) ea_nil))) (v_know hS hn hi hj))) (fun hb H1 e1 => s_ret ev_c fun H2 e2 => ?_) (fun hb H1 e1 => ?_)
    · have z : can n g i j = false := by
        unfold can
        rw [dec_int] at hb
        simp only [Bool.or_eq_true, beq_iff_eq] at hb
        rcases hb with hb | hb
        · have : i = j := by omega
          simp [this]
        · simp [hb]
      have := k.go (e1.trans e2)
      rw [z] at this
      exact this
    · rw [dec_int] at hb
      simp only [Bool.or_eq_false_iff, beq_eq_false_iff_ne, ne_eq] at hb
      refine s_ret (ev_is (ev_op (ev_op (ev_op (ev_var rfl) (ev_var rfl) (rv_ixL (ex_l e1 hS) (rowsV_at hi))) (ev_op (ev_var rfl) (ev_var rfl) (rv_ixL (ex_l e1 hS) (rowsV_at hj))) rv_I0) ev_c (rv_ne rfl)) ?_) (fun H2 e2 => k.go (e1.trans e2))
      rw [dec_int, and_nat]
      have ne : (i != j) = true := by simp; omega
      unfold can
      rw [ne, hb.2]
      have q := row_and (n := n) (g := g) (i := i) (j := j)
      congr 1
      rw [Bool.eq_iff_iff]
      by_cases c : maskP n (knows g i) &&& maskP n (knows g j) = 0
      · simp [c, q.mp c]
      · have : (List.range n).any (fun k => knows g i k && knows g j k) = true := by
          cases z : (List.range n).any (fun k => knows g i k && knows g j k) with
          | true => rfl
          | false => exact absurd (q.mpr z) c
        rw [this]
        simp
        omega
theorem ok_introduced_to {f : Addr} {fd : FuncData} (F : Fun K "introduced_to" "introduced_to" s_introduced_to f fd) (T : Txt mg) (h_can_be_introduced : Has P w K mg base 3 "can_be_introduced" s_can_be_introduced ["known", "guest", "other"] (spCan K)) : FnOk P w K mg base CX0 4 f fd ["known", "guest"] (spIntro K) := by
  obtain ⟨f_can_be_introduced, fd_can_be_introduced, F_can_be_introduced, b_can_be_introduced, g_can_be_introduced, G_can_be_introduced⟩ := h_can_be_introduced.ex
  refine F.ok sc_introduced_to (fun vs H Q E h => ?_) (fun cdv A outer s H vs Q E hr h => ?_)
  · obtain ⟨a, n, g, i, rfl, _⟩ := h
    rfl
  · obtain ⟨a, n, g, i, rfl, hS, hn, hi, k⟩ := h
    refine ⟨_, (pss_cons (ps_set (i := 2) sc_introduced_to.nd rfl (Or.inl rfl) pe_int)
    (pss_cons (ps_for PassesOwn.never rfl (pi_range1 (by rfl) T.z_range (pa_cons (pe_callB call_len_seq (by rfl) T.z_len PySem.boot_len (pa_cons (pv 0) pa_nil)) pa_nil)) (pg_name (i := 3) sc_introduced_to.nd rfl (Or.inl rfl))
      (pss_one (ps_if (pt_val (pe_call G_can_be_introduced (hr.mono (by decide)) rfl g_can_be_introduced F_can_be_introduced.kp b_can_be_introduced .nil pass0 (pa_cons (pv 0) (pa_cons (pv 1) (pa_cons (pv 3) pa_nil)))))
        (pss_one (ps_set (i := 2) sc_introduced_to.nd rfl (Or.inl rfl) (pe_op op_or (pv 2) (pe_op op_shl pe_int (pv 3)))))
        pss_nil)))
    (pss_one (ps_ret (pv 2))))), ?_⟩
    refine q_asg ev_c fun H1 e1 => ?_
    refine q_forN (n := n) (ea_cons (ev_lenR (ev_var rfl) (ex_l e1 hS)) ea_nil) (by omega) (fun t σ' H' => Ex H H' ∧ ∃ v, σ' = [some (.ref a), some (.int (i : Int)), some (.int ((maskP t (can n g i) : Nat) : Int)), v]) ?_ ?_ ?_
    · exact fun H2 e => ⟨e1.trans e, _, rfl⟩
    · rintro t _ H' ht ⟨e', v, rfl⟩
      refine s_when (et_B (ev_call (ea_cons (ev_var rfl) (ea_cons (ev_var rfl) (ea_cons (ev_var rfl) ea_nil))) (v_can (ex_l e' hS) hn hi ht))) (fun hb H2 e2 => ?_) (fun hb H2 e2 => ?_)
      · refine s_asg (ev_is (ev_op (ev_var rfl) (ev_op ev_c (ev_var rfl) (rv_I ⟨by omega, by omega, by decide⟩)) rv_I0) (by rw [pow_nat, or_nat])) fun H3 e3 => ?_
        refine ⟨(e'.trans e2).trans e3, some (.int (t : Int)), ?_⟩
        rw [maskP_succ_or, if_pos hb]
        rfl
      · refine ⟨e'.trans e2, some (.int (t : Int)), ?_⟩
        rw [maskP_succ_or, if_neg (by rw [hb]; decide)]
        rfl
    · rintro _ H' ⟨e', v, rfl⟩
      exact s_ret (ev_var rfl) fun H2 e2 => k.go (e'.trans e2)
theorem ok_behind_a_round {f : Addr} {fd : FuncData} (F : Fun K "behind_a_round" "behind_a_round" s_behind_a_round f fd) (T : Txt mg) (h_introduced_to : Has P w K mg base 4 "introduced_to" s_introduced_to ["known", "guest"] (spIntro K)) : FnOk P w K mg base CX0 5 f fd ["known"] (spRound K) := by
  obtain ⟨f_introduced_to, fd_introduced_to, F_introduced_to, b_introduced_to, g_introduced_to, G_introduced_to⟩ := h_introduced_to.ex
  refine F.ok sc_behind_a_round (fun vs H Q E h => ?_) (fun cdv A outer s H vs Q E hr h => ?_)
  · obtain ⟨a, n, g, rfl, _⟩ := h
    rfl
  · obtain ⟨a, n, g, rfl, hS, hn, k⟩ := h
    refine ⟨_, (pss_cons (ps_set (i := 1) sc_behind_a_round.nd rfl (Or.inl rfl) (pe_lst pa_nil))
    (pss_cons (ps_for PassesOwn.never rfl (pi_range1 (by rfl) T.z_range (pa_cons (pe_callB call_len_seq (by rfl) T.z_len PySem.boot_len (pa_cons (pv 0) pa_nil)) pa_nil)) (pg_name (i := 2) sc_behind_a_round.nd rfl (Or.inl rfl))
      (pss_one (ps_expr (pe_bm PySem.F.plainAttrs_list PySem.F.slot_list_append PySem.F.type_list_append mt_append (pv 1) (pa_cons (pe_op op_or (pe_ix ix_list (pv 0) (pv 2) (fun _ _ => rfl)) (pe_call G_introduced_to (hr.mono (by decide)) rfl g_introduced_to F_introduced_to.kp b_introduced_to .nil pass0 (pa_cons (pv 0) (pa_cons (pv 2) pa_nil)))) pa_nil)))))
    (pss_one (ps_ret (pv 1))))), ?_⟩
    refine q_asgL (el_lst ea_nil (by decide)) fun lt H1 hlt e1 h1 => ?_
    refine q_forN (n := n) (ea_cons (ev_lenR (ev_var rfl) (ex_l e1 hS)) ea_nil) (by omega) (fun t σ' H' => Ex H H' ∧ H' lt = some (.lst ((rowsV n (round n g)).take t)) ∧ ∃ v, σ' = [some (.ref a), some (.ref lt), v]) ?_ ?_ ?_
    · exact fun H2 e => ⟨e1.trans e, e _ _ h1, _, rfl⟩
    · rintro t _ H' ht ⟨e', hL, v, rfl⟩
      have hS' := ex_l e' hS
      refine s_app hL (ev_var rfl) (ev_is (ev_op (ev_op (ev_var rfl) (ev_var rfl) (rv_ixL hS' (rowsV_at ht))) (ev_call (ea_cons (ev_var rfl) (ea_cons (ev_var rfl) ea_nil)) (v_intro hS' hn ht)) rv_I0) (by rw [or_nat, row_round ht])) (by rw [List.length_take]; omega) fun H2 e2 => ?_
      refine ⟨Ex.mut (e'.trans e2) hlt, ?_, _, rfl⟩
      rw [upd_same, rows_take ht]
    · rintro _ H' ⟨e', hL, v, rfl⟩
      rw [List.take_of_length_le (by rw [rowsV_len]; omega)] at hL
      exact s_ret (ev_var rfl) fun H2 e2 => k lt H2 hlt (e'.trans e2) (e2 _ _ hL)
theorem ok_how_many_pairs {f : Addr} {fd : FuncData} (F : Fun K "how_many_pairs" "how_many_pairs" s_how_many_pairs f fd) (T : Txt mg) (h_know_one_another : Has P w K mg base 2 "know_one_another" s_know_one_another ["known", "guest", "other"] (spKnow K)) : FnOk P w K mg base CX0 3 f fd ["known"] (spHow K) := by
  obtain ⟨f_know_one_another, fd_know_one_another, F_know_one_another, b_know_one_another, g_know_one_another, G_know_one_another⟩ := h_know_one_another.ex
  refine F.ok sc_how_many_pairs (fun vs H Q E h => ?_) (fun cdv A outer s H vs Q E hr h => ?_)
  · obtain ⟨a, n, g, rfl, _⟩ := h
    rfl
  · obtain ⟨a, n, g, rfl, hS, hn, k⟩ := h
    refine ⟨_, (pss_cons (ps_set (i := 1) sc_how_many_pairs.nd rfl (Or.inl rfl) pe_int)
    (pss_cons (ps_for PassesOwn.never rfl (pi_range1 (by rfl) T.z_range (pa_cons (pe_callB call_len_seq (by rfl) T.z_len PySem.boot_len (pa_cons (pv 0) pa_nil)) pa_nil)) (pg_name (i := 2) sc_how_many_pairs.nd rfl (Or.inl rfl))
      (pss_one (ps_for PassesOwn.never rfl (pi_range1 (by rfl) T.z_range (pa_cons (pv 2) pa_nil)) (pg_name (i := 3) sc_how_many_pairs.nd rfl (Or.inl rfl))
        (pss_one (ps_if (pt_val (pe_call G_know_one_another (hr.mono (by decide)) rfl g_know_one_another F_know_one_another.kp b_know_one_another .nil pass0 (pa_cons (pv 0) (pa_cons (pv 2) (pa_cons (pv 3) pa_nil)))))
          (pss_one (ps_set (i := 1) sc_how_many_pairs.nd rfl (Or.inl rfl) (pe_op op_add (pv 1) pe_int)))
          pss_nil)))))
    (pss_one (ps_ret (pv 1))))), ?_⟩
    refine q_asg ev_c fun H1 e1 => ?_
    refine q_forN (n := n) (ea_cons (ev_lenR (ev_var rfl) (ex_l e1 hS)) ea_nil) (by omega) (fun t σ' H' => Ex H H' ∧ ∃ v2 v3, σ' = [some (.ref a), some (.int ((below g t : Nat) : Int)), v2, v3]) ?_ ?_ ?_
    · exact fun H2 e => ⟨e1.trans e, _, _, rfl⟩
    · rintro t _ H' ht ⟨e', v2, v3, rfl⟩
      refine s_forN (n := t) (ea_cons (ev_var rfl) ea_nil) (by omega) (fun u σ' H' => Ex H H' ∧ ∃ v3, σ' = [some (.ref a), some (.int ((below g t + ((List.range u).filter (knows g t)).length : Nat) : Int)), some (.int (t : Int)), v3]) ?_ ?_ ?_
      · exact fun H2 e => ⟨e'.trans e, _, rfl⟩
      · rintro u _ H'' hu ⟨e'', v3, rfl⟩
        refine s_when (et_B (ev_call (ea_cons (ev_var rfl) (ea_cons (ev_var rfl) (ea_cons (ev_var rfl) ea_nil))) (v_know (ex_l e'' hS) hn ht (by omega)))) (fun hb H2 e2 => ?_) (fun hb H2 e2 => ?_)
        · refine s_asg (ev_op (ev_var rfl) ev_c rv_I0) fun H3 e3 => ?_
          refine ⟨(e''.trans e2).trans e3, some (.int (u : Int)), ?_⟩
          rw [List.range_succ, List.filter_append, List.filter_cons, if_pos hb, List.length_append]
          rfl
        · refine ⟨e''.trans e2, some (.int (u : Int)), ?_⟩
          rw [List.range_succ, List.filter_append, List.filter_cons, if_neg (by rw [hb]; decide), List.length_append]
          rfl
      · rintro _ H'' ⟨e'', v3, rfl⟩
        refine ⟨e'', some (.int (t : Int)), v3, ?_⟩
        rw [below_succ]
    · rintro _ H' ⟨e', v2, v3, rfl⟩
      refine s_ret (ev_var rfl) fun H2 e2 => ?_
      have := k.go (e'.trans e2)
      rw [pairs_below] at this
      exact this
theorem ans_ref {n k : Nat} {l : List Nat} (h : Kzf1.good n l = false ∨ 5 < k) : (PyKzf5.after n k (l.map fun (x : Nat) => (x : Int))).map V.int = [V.int (-22)] := by
  unfold PyKzf5.after Kzf5Neutral.f Kzf5Neutral.callOf Kzf5Neutral.natsOf
  simp only [List.map_map]
  have e : (l.map (Int.toNat ∘ fun (x : Nat) => (x : Int))) = l := by
    conv => rhs; rw [← List.map_id l]
    apply List.map_congr_left
    intro x _
    rfl
  rw [e]
  simp only [Int.toNat_natCast]
  show (let a := (if Kzf1.good n l = false ∨ 5 < k then Kzf1.say (-22) else _); (a.value :: Kzf5Neutral.ints a.nums : List Int)).map V.int = _
  rw [if_pos h]
  rfl
theorem ans_ok {n k : Nat} {l : List Nat} (h : ¬ (Kzf1.good n l = false ∨ 5 < k)) : (PyKzf5.after n k (l.map fun (x : Nat) => (x : Int))).map V.int = [V.int ((pairs n (after n (net l) k) : Nat) : Int)] ++ rowsV n (after n (net l) k) := by
  unfold PyKzf5.after Kzf5Neutral.f Kzf5Neutral.callOf Kzf5Neutral.natsOf
  simp only [List.map_map]
  have e : (l.map (Int.toNat ∘ fun (x : Nat) => (x : Int))) = l := by
    conv => rhs; rw [← List.map_id l]
    apply List.map_congr_left
    intro x _
    rfl
  rw [e]
  simp only [Int.toNat_natCast]
  show (let a := (if Kzf1.good n l = false ∨ 5 < k then Kzf1.say (-22) else ⟨((pairs n (after n (net l) k) : Nat) : Int), (List.range n).map (rowOf n (after n (net l) k))⟩); (a.value :: Kzf5Neutral.ints a.nums : List Int)).map V.int = _
  rw [if_neg h]
  show V.int _ :: _ = V.int _ :: _
  congr 1
  unfold Kzf5Neutral.ints rowsV
  rw [List.map_map, List.map_map]
  rfl
theorem ok_after {f : Addr} {fd : FuncData} (F : Fun K "after" "after" s_after f fd) (T : Txt mg) (h_acquaintances : Has P w K mg base 2 "acquaintances" s_acquaintances ["n", "pairs"] (spAcq K)) (h_behind_a_round : Has P w K mg base 5 "behind_a_round" s_behind_a_round ["known"] (spRound K)) (h_is_as_told : Has P w K mg base 3 "is_as_told" s_is_as_told ["n", "pairs"] (spTold K)) (h_how_many_pairs : Has P w K mg base 3 "how_many_pairs" s_how_many_pairs ["known"] (spHow K)) : FnOk P w K mg base CX0 6 f fd ["n", "k", "l"] (spAfter K) := by
  obtain ⟨f_acquaintances, fd_acquaintances, F_acquaintances, b_acquaintances, g_acquaintances, G_acquaintances⟩ := h_acquaintances.ex
  obtain ⟨f_behind_a_round, fd_behind_a_round, F_behind_a_round, b_behind_a_round, g_behind_a_round, G_behind_a_round⟩ := h_behind_a_round.ex
  obtain ⟨f_is_as_told, fd_is_as_told, F_is_as_told, b_is_as_told, g_is_as_told, G_is_as_told⟩ := h_is_as_told.ex
  obtain ⟨f_how_many_pairs, fd_how_many_pairs, F_how_many_pairs, b_how_many_pairs, g_how_many_pairs, G_how_many_pairs⟩ := h_how_many_pairs.ex
  refine F.ok sc_after (fun vs H Q E h => ?_) (fun cdv A outer s H vs Q E hr h => ?_)
  · obtain ⟨n, k, a, l, rfl, _⟩ := h
    rfl
  · obtain ⟨n, k, a, l, rfl, hS, hl, q⟩ := h
    refine ⟨_, (pss_cons (ps_if (PW.pt (pw_or (pt_not (pt_val (pe_call G_is_as_told (hr.mono (by decide)) rfl g_is_as_told F_is_as_told.kp b_is_as_told .nil pass0 (pa_cons (pv 0) (pa_cons (pv 2) pa_nil))))) (pw_or (pt_cmpR op_lt (pv 1) pe_int (nomark _)) (pw_or1 (pt_cmpR op_gt (pv 1) (pe_glob (v := .int (5)) rfl T.c_MOST_ROUNDS.choose_spec ⟨_, rfl⟩) (nomark _))))))
      (pss_one (ps_ret (pe_lst (pa_cons (pe_glob (v := .int (-22)) rfl T.c_REFUSED.choose_spec ⟨_, rfl⟩) pa_nil))))
      pss_nil)
    (pss_cons (ps_set (i := 3) sc_after.nd rfl (Or.inl rfl) (pe_call G_acquaintances (hr.mono (by decide)) rfl g_acquaintances F_acquaintances.kp b_acquaintances .nil pass0 (pa_cons (pv 0) (pa_cons (pv 2) pa_nil))))
    (pss_cons (ps_for PassesOwn.never rfl (pi_range1 (by rfl) T.z_range (pa_cons (pv 1) pa_nil)) (pg_name (i := 4) sc_after.nd rfl (Or.inl rfl))
      (pss_one (ps_set (i := 3) sc_after.nd rfl (Or.inl rfl) (pe_call G_behind_a_round (hr.mono (by decide)) rfl g_behind_a_round F_behind_a_round.kp b_behind_a_round .nil pass0 (pa_cons (pv 3) pa_nil)))))
    (pss_one (ps_ret (pe_op op_cat (pe_lst (pa_cons (pe_call G_how_many_pairs (hr.mono (by decide)) rfl g_how_many_pairs F_how_many_pairs.kp b_how_many_pairs .nil pass0 (pa_cons (pv 3) pa_nil)) pa_nil)) (pv 3))))))), ?_⟩
    refine q_when (et_or (et_not (et_B (ev_call (ea_cons (ev_var rfl) (ea_cons (ev_var rfl) ea_nil)) (v_told hS hl)))) fun _ => et_or (et_test (ev_op (ev_var rfl) ev_c rv_I0)) fun _ => et_test (ev_op (ev_var rfl) ev_c rv_I0)) (fun hb H1 e1 => ?_) (fun hb H1 e1 => ?_)
    · refine s_retL (el_lst (ea_cons ev_c ea_nil) (by decide)) fun p H2 hp e2 h2 => ?_
      have z : Kzf1.good n l = false ∨ 5 < k := by
        simp only [Bool.or_eq_true, Bool.not_eq_true', decide_eq_true_eq] at hb
        rcases hb with h | h | h
        · exact .inl h
        · omega
        · exact .inr (by omega)
      rw [ans_ref z] at q
      exact q.go e1 hp e2 h2
    · have z : ¬ (Kzf1.good n l = false ∨ 5 < k) := by
        simp at hb
        rw [hb.1]
        simp
        omega
      have hg : Kzf1.good n l = true := by
        cases c : Kzf1.good n l with
        | true => rfl
        | false => exact absurd (Or.inl c) z
      have hk : k ≤ 5 := by omega
      have hn : n ≤ 8 := (good_iff.mp hg).2.2.1
      rw [ans_ok z] at q
      refine q_asgL (el_call (ea_cons (ev_var rfl) (ea_cons (ev_var rfl) ea_nil)) (v_acq (ex_l e1 hS) hl hg)) fun kn H2 hkn e2 h2 => ?_
      refine q_forN (n := k) (ea_cons (ev_var rfl) ea_nil) (by omega) (fun t σ' H' => Ex H H' ∧ ∃ c v, H' c = some (.lst (rowsV n (after n (net l) t))) ∧ σ' = [some (.int (n : Int)), some (.int (k : Int)), some (.ref a), some (.ref c), v]) ?_ ?_ ?_
      · exact fun H3 e => ⟨(e1.trans e2).trans e, kn, _, e _ _ h2, rfl⟩
      · rintro t _ H' ht ⟨e', c, v, hc, rfl⟩
        refine s_asgL (el_call (ea_cons (ev_var rfl) ea_nil) (v_round (sq_of hc) hn)) fun p H3 hp e3 h3 => ?_
        refine ⟨e'.trans e3, p, _, ?_, rfl⟩
        rw [after_out]
        exact h3
      · rintro _ H' ⟨e', c, v, hc, rfl⟩
        refine s_retL (el_cat (el_lst (ea_cons (ev_call (ea_cons (ev_var rfl) ea_nil) (v_how (sq_of hc) hn)) ea_nil) (by show 1 ≤ 100000; decide)) (fun H1 e => ev_var rfl) hc (by rw [rowsV_len]; simp; omega)) fun p H2 hp e2 h2 => ?_
        exact q.go e' hp e2 h2
end
theorem all_mk {P : Program} {w : World} {K : PySem.W.Frag} {h : Heap} {mg : Str → Option Value} {fa f_acquaint f_acquaintances f_is_among f_know_one_another f_can_be_introduced f_introduced_to f_behind_a_round f_is_a_guest f_is_a_pair f_is_as_told f_how_many_pairs f_after : Addr} (X : K.In h) (G : h.Ns mainGlobals mg) (hfa : mg "after" = some (.ref fa))
    {od_acquaint an_acquaint od_acquaintances an_acquaintances od_is_among an_is_among od_know_one_another an_know_one_another od_can_be_introduced an_can_be_introduced od_introduced_to an_introduced_to od_behind_a_round an_behind_a_round od_is_a_guest an_is_a_guest od_is_a_pair an_is_a_pair od_is_as_told an_is_as_told od_how_many_pairs an_how_many_pairs od_after an_after : Option Addr} {sl_acquaint sl_acquaintances sl_is_among sl_know_one_another sl_can_be_introduced sl_introduced_to sl_behind_a_round sl_is_a_guest sl_is_a_pair sl_is_as_told sl_how_many_pairs sl_after : Array (Option Value)} {oc_acquaint kV_acquaint dc_acquaint pm_acquaint cd_acquaint ct_acquaint oc_acquaintances kV_acquaintances dc_acquaintances pm_acquaintances cd_acquaintances ct_acquaintances oc_is_among kV_is_among dc_is_among pm_is_among cd_is_among ct_is_among oc_know_one_another kV_know_one_another dc_know_one_another pm_know_one_another cd_know_one_another ct_know_one_another oc_can_be_introduced kV_can_be_introduced dc_can_be_introduced pm_can_be_introduced cd_can_be_introduced ct_can_be_introduced oc_introduced_to kV_introduced_to dc_introduced_to pm_introduced_to cd_introduced_to ct_introduced_to oc_behind_a_round kV_behind_a_round dc_behind_a_round pm_behind_a_round cd_behind_a_round ct_behind_a_round oc_is_a_guest kV_is_a_guest dc_is_a_guest pm_is_a_guest cd_is_a_guest ct_is_a_guest oc_is_a_pair kV_is_a_pair dc_is_a_pair pm_is_a_pair cd_is_a_pair ct_is_a_pair oc_is_as_told kV_is_as_told dc_is_as_told pm_is_as_told cd_is_as_told ct_is_as_told oc_how_many_pairs kV_how_many_pairs dc_how_many_pairs pm_how_many_pairs cd_how_many_pairs ct_how_many_pairs oc_after kV_after dc_after pm_after cd_after ct_after : Value} {t_MOST_GUESTS t_MOST_PAIRS t_MOST_ROUNDS t_REFUSED : Tok}
    (a_acquaint : PySem.W.nsIn K mainGlobals "acquaint" = some (some (.ref f_acquaint))) (l_acquaint : K.lookup f_acquaint = some ⟨oc_acquaint, od_acquaint, .func (PySem.W.fnOf "acquaint" "acquaint" (defArgs s_acquaint) (defBody s_acquaint) (defScope s_acquaint) .none kV_acquaint dc_acquaint pm_acquaint an_acquaint cd_acquaint ct_acquaint), sl_acquaint⟩) (c_acquaint : PySem.W.codeIn K cd_acquaint "acquaint" = true) (k_acquaint : PySem.W.keepIn K (.ref f_acquaint) = true)
    (a_acquaintances : PySem.W.nsIn K mainGlobals "acquaintances" = some (some (.ref f_acquaintances))) (l_acquaintances : K.lookup f_acquaintances = some ⟨oc_acquaintances, od_acquaintances, .func (PySem.W.fnOf "acquaintances" "acquaintances" (defArgs s_acquaintances) (defBody s_acquaintances) (defScope s_acquaintances) .none kV_acquaintances dc_acquaintances pm_acquaintances an_acquaintances cd_acquaintances ct_acquaintances), sl_acquaintances⟩) (c_acquaintances : PySem.W.codeIn K cd_acquaintances "acquaintances" = true) (k_acquaintances : PySem.W.keepIn K (.ref f_acquaintances) = true)
    (a_is_among : PySem.W.nsIn K mainGlobals "is_among" = some (some (.ref f_is_among))) (l_is_among : K.lookup f_is_among = some ⟨oc_is_among, od_is_among, .func (PySem.W.fnOf "is_among" "is_among" (defArgs s_is_among) (defBody s_is_among) (defScope s_is_among) .none kV_is_among dc_is_among pm_is_among an_is_among cd_is_among ct_is_among), sl_is_among⟩) (c_is_among : PySem.W.codeIn K cd_is_among "is_among" = true) (k_is_among : PySem.W.keepIn K (.ref f_is_among) = true)
    (a_know_one_another : PySem.W.nsIn K mainGlobals "know_one_another" = some (some (.ref f_know_one_another))) (l_know_one_another : K.lookup f_know_one_another = some ⟨oc_know_one_another, od_know_one_another, .func (PySem.W.fnOf "know_one_another" "know_one_another" (defArgs s_know_one_another) (defBody s_know_one_another) (defScope s_know_one_another) .none kV_know_one_another dc_know_one_another pm_know_one_another an_know_one_another cd_know_one_another ct_know_one_another), sl_know_one_another⟩) (c_know_one_another : PySem.W.codeIn K cd_know_one_another "know_one_another" = true) (k_know_one_another : PySem.W.keepIn K (.ref f_know_one_another) = true)
    (a_can_be_introduced : PySem.W.nsIn K mainGlobals "can_be_introduced" = some (some (.ref f_can_be_introduced))) (l_can_be_introduced : K.lookup f_can_be_introduced = some ⟨oc_can_be_introduced, od_can_be_introduced, .func (PySem.W.fnOf "can_be_introduced" "can_be_introduced" (defArgs s_can_be_introduced) (defBody s_can_be_introduced) (defScope s_can_be_introduced) .none kV_can_be_introduced dc_can_be_introduced pm_can_be_introduced an_can_be_introduced cd_can_be_introduced ct_can_be_introduced), sl_can_be_introduced⟩) (c_can_be_introduced : PySem.W.codeIn K cd_can_be_introduced "can_be_introduced" = true) (k_can_be_introduced : PySem.W.keepIn K (.ref f_can_be_introduced) = true)
    (a_introduced_to : PySem.W.nsIn K mainGlobals "introduced_to" = some (some (.ref f_introduced_to))) (l_introduced_to : K.lookup f_introduced_to = some ⟨oc_introduced_to, od_introduced_to, .func (PySem.W.fnOf "introduced_to" "introduced_to" (defArgs s_introduced_to) (defBody s_introduced_to) (defScope s_introduced_to) .none kV_introduced_to dc_introduced_to pm_introduced_to an_introduced_to cd_introduced_to ct_introduced_to), sl_introduced_to⟩) (c_introduced_to : PySem.W.codeIn K cd_introduced_to "introduced_to" = true) (k_introduced_to : PySem.W.keepIn K (.ref f_introduced_to) = true)
    (a_behind_a_round : PySem.W.nsIn K mainGlobals "behind_a_round" = some (some (.ref f_behind_a_round))) (l_behind_a_round : K.lookup f_behind_a_round = some ⟨oc_behind_a_round, od_behind_a_round, .func (PySem.W.fnOf "behind_a_round" "behind_a_round" (defArgs s_behind_a_round) (defBody s_behind_a_round) (defScope s_behind_a_round) .none kV_behind_a_round dc_behind_a_round pm_behind_a_round an_behind_a_round cd_behind_a_round ct_behind_a_round), sl_behind_a_round⟩) (c_behind_a_round : PySem.W.codeIn K cd_behind_a_round "behind_a_round" = true) (k_behind_a_round : PySem.W.keepIn K (.ref f_behind_a_round) = true)
    (a_is_a_guest : PySem.W.nsIn K mainGlobals "is_a_guest" = some (some (.ref f_is_a_guest))) (l_is_a_guest : K.lookup f_is_a_guest = some ⟨oc_is_a_guest, od_is_a_guest, .func (PySem.W.fnOf "is_a_guest" "is_a_guest" (defArgs s_is_a_guest) (defBody s_is_a_guest) (defScope s_is_a_guest) .none kV_is_a_guest dc_is_a_guest pm_is_a_guest an_is_a_guest cd_is_a_guest ct_is_a_guest), sl_is_a_guest⟩) (c_is_a_guest : PySem.W.codeIn K cd_is_a_guest "is_a_guest" = true) (k_is_a_guest : PySem.W.keepIn K (.ref f_is_a_guest) = true)
    (a_is_a_pair : PySem.W.nsIn K mainGlobals "is_a_pair" = some (some (.ref f_is_a_pair))) (l_is_a_pair : K.lookup f_is_a_pair = some ⟨oc_is_a_pair, od_is_a_pair, .func (PySem.W.fnOf "is_a_pair" "is_a_pair" (defArgs s_is_a_pair) (defBody s_is_a_pair) (defScope s_is_a_pair) .none kV_is_a_pair dc_is_a_pair pm_is_a_pair an_is_a_pair cd_is_a_pair ct_is_a_pair), sl_is_a_pair⟩) (c_is_a_pair : PySem.W.codeIn K cd_is_a_pair "is_a_pair" = true) (k_is_a_pair : PySem.W.keepIn K (.ref f_is_a_pair) = true)
    (a_is_as_told : PySem.W.nsIn K mainGlobals "is_as_told" = some (some (.ref f_is_as_told))) (l_is_as_told : K.lookup f_is_as_told = some ⟨oc_is_as_told, od_is_as_told, .func (PySem.W.fnOf "is_as_told" "is_as_told" (defArgs s_is_as_told) (defBody s_is_as_told) (defScope s_is_as_told) .none kV_is_as_told dc_is_as_told pm_is_as_told an_is_as_told cd_is_as_told ct_is_as_told), sl_is_as_told⟩) (c_is_as_told : PySem.W.codeIn K cd_is_as_told "is_as_told" = true) (k_is_as_told : PySem.W.keepIn K (.ref f_is_as_told) = true)
    (a_how_many_pairs : PySem.W.nsIn K mainGlobals "how_many_pairs" = some (some (.ref f_how_many_pairs))) (l_how_many_pairs : K.lookup f_how_many_pairs = some ⟨oc_how_many_pairs, od_how_many_pairs, .func (PySem.W.fnOf "how_many_pairs" "how_many_pairs" (defArgs s_how_many_pairs) (defBody s_how_many_pairs) (defScope s_how_many_pairs) .none kV_how_many_pairs dc_how_many_pairs pm_how_many_pairs an_how_many_pairs cd_how_many_pairs ct_how_many_pairs), sl_how_many_pairs⟩) (c_how_many_pairs : PySem.W.codeIn K cd_how_many_pairs "how_many_pairs" = true) (k_how_many_pairs : PySem.W.keepIn K (.ref f_how_many_pairs) = true)
    (a_after : PySem.W.nsIn K mainGlobals "after" = some (some (.ref f_after))) (l_after : K.lookup f_after = some ⟨oc_after, od_after, .func (PySem.W.fnOf "after" "after" (defArgs s_after) (defBody s_after) (defScope s_after) .none kV_after dc_after pm_after an_after cd_after ct_after), sl_after⟩) (c_after : PySem.W.codeIn K cd_after "after" = true) (k_after : PySem.W.keepIn K (.ref f_after) = true)
    (v_MOST_GUESTS : PySem.W.nsIn K mainGlobals "MOST_GUESTS" = some (some (.int (8) t_MOST_GUESTS)))
    (v_MOST_PAIRS : PySem.W.nsIn K mainGlobals "MOST_PAIRS" = some (some (.int (28) t_MOST_PAIRS)))
    (v_MOST_ROUNDS : PySem.W.nsIn K mainGlobals "MOST_ROUNDS" = some (some (.int (5) t_MOST_ROUNDS)))
    (v_REFUSED : PySem.W.nsIn K mainGlobals "REFUSED" = some (some (.int (-22) t_REFUSED)))
    (z_len : PySem.W.nsIn K mainGlobals "len" = some none)
    (z_range : PySem.W.nsIn K mainGlobals "range" = some none)
    : ∃ fd : FuncData, (∀ (s : Shared) (us : List Value), us.length = (["n", "k", "l"] : List Str).length → BindsTo s fd ⟨us, []⟩ ((["n", "k", "l"] : List Str).zip us)) ∧ ∀ base : Heap, K.In base → base.Ns mainGlobals mg → FnOk P w K mg base CX0 6 fa fd ["n", "k", "l"] (spAfter K) := by
  have e := hfa.symm.trans (PySem.W.mg_of X G a_after)
  cases e
  have T : Txt mg := ⟨⟨_, PySem.W.mg_of X G v_MOST_GUESTS⟩, ⟨_, PySem.W.mg_of X G v_MOST_PAIRS⟩, ⟨_, PySem.W.mg_of X G v_MOST_ROUNDS⟩, ⟨_, PySem.W.mg_of X G v_REFUSED⟩, PySem.W.mg_none_of X G z_len, PySem.W.mg_none_of X G z_range⟩
  have F_acquaint := fun_mk (st := s_acquaint) l_acquaint c_acquaint k_acquaint
  have b_acquaint := F_acquaint.binds (ps := ["known", "guest", "other"]) fun _ _ _ _ _ _ us hl => match us, hl with | [_, _, _], _ => rfl
  have F_acquaintances := fun_mk (st := s_acquaintances) l_acquaintances c_acquaintances k_acquaintances
  have b_acquaintances := F_acquaintances.binds (ps := ["n", "pairs"]) fun _ _ _ _ _ _ us hl => match us, hl with | [_, _], _ => rfl
  have F_is_among := fun_mk (st := s_is_among) l_is_among c_is_among k_is_among
  have b_is_among := F_is_among.binds (ps := ["bits", "guest"]) fun _ _ _ _ _ _ us hl => match us, hl with | [_, _], _ => rfl
  have F_know_one_another := fun_mk (st := s_know_one_another) l_know_one_another c_know_one_another k_know_one_another
  have b_know_one_another := F_know_one_another.binds (ps := ["known", "guest", "other"]) fun _ _ _ _ _ _ us hl => match us, hl with | [_, _, _], _ => rfl
  have F_can_be_introduced := fun_mk (st := s_can_be_introduced) l_can_be_introduced c_can_be_introduced k_can_be_introduced
  have b_can_be_introduced := F_can_be_introduced.binds (ps := ["known", "guest", "other"]) fun _ _ _ _ _ _ us hl => match us, hl with | [_, _, _], _ => rfl
  have F_introduced_to := fun_mk (st := s_introduced_to) l_introduced_to c_introduced_to k_introduced_to
  have b_introduced_to := F_introduced_to.binds (ps := ["known", "guest"]) fun _ _ _ _ _ _ us hl => match us, hl with | [_, _], _ => rfl
  have F_behind_a_round := fun_mk (st := s_behind_a_round) l_behind_a_round c_behind_a_round k_behind_a_round
  have b_behind_a_round := F_behind_a_round.binds (ps := ["known"]) fun _ _ _ _ _ _ us hl => match us, hl with | [_], _ => rfl
  have F_is_a_guest := fun_mk (st := s_is_a_guest) l_is_a_guest c_is_a_guest k_is_a_guest
  have b_is_a_guest := F_is_a_guest.binds (ps := ["n", "guest"]) fun _ _ _ _ _ _ us hl => match us, hl with | [_, _], _ => rfl
  have F_is_a_pair := fun_mk (st := s_is_a_pair) l_is_a_pair c_is_a_pair k_is_a_pair
  have b_is_a_pair := F_is_a_pair.binds (ps := ["n", "guest", "other"]) fun _ _ _ _ _ _ us hl => match us, hl with | [_, _, _], _ => rfl
  have F_is_as_told := fun_mk (st := s_is_as_told) l_is_as_told c_is_as_told k_is_as_told
  have b_is_as_told := F_is_as_told.binds (ps := ["n", "pairs"]) fun _ _ _ _ _ _ us hl => match us, hl with | [_, _], _ => rfl
  have F_how_many_pairs := fun_mk (st := s_how_many_pairs) l_how_many_pairs c_how_many_pairs k_how_many_pairs
  have b_how_many_pairs := F_how_many_pairs.binds (ps := ["known"]) fun _ _ _ _ _ _ us hl => match us, hl with | [_], _ => rfl
  have F_after := fun_mk (st := s_after) l_after c_after k_after
  have b_after := F_after.binds (ps := ["n", "k", "l"]) fun _ _ _ _ _ _ us hl => match us, hl with | [_, _, _], _ => rfl
  refine ⟨PySem.W.fnOf "after" "after" (defArgs s_after) (defBody s_after) (defScope s_after) .none kV_after dc_after pm_after an_after cd_after ct_after, fun s us hu => match us, hu with | [_, _, _], _ => .of_eq rfl, fun base _ _ => ?_⟩
  have h_acquaint : Has P w K mg base 1 "acquaint" s_acquaint ["known", "guest", "other"] (spAcquaint K) := ⟨_, _, F_acquaint, b_acquaint, PySem.W.mg_of X G a_acquaint, ok_acquaint F_acquaint T⟩
  have h_acquaintances : Has P w K mg base 2 "acquaintances" s_acquaintances ["n", "pairs"] (spAcq K) := ⟨_, _, F_acquaintances, b_acquaintances, PySem.W.mg_of X G a_acquaintances, ok_acquaintances F_acquaintances T h_acquaint⟩
  have h_is_among : Has P w K mg base 1 "is_among" s_is_among ["bits", "guest"] spAmong := ⟨_, _, F_is_among, b_is_among, PySem.W.mg_of X G a_is_among, ok_is_among F_is_among T⟩
  have h_know_one_another : Has P w K mg base 2 "know_one_another" s_know_one_another ["known", "guest", "other"] (spKnow K) := ⟨_, _, F_know_one_another, b_know_one_another, PySem.W.mg_of X G a_know_one_another, ok_know_one_another F_know_one_another T h_is_among⟩
  have h_can_be_introduced : Has P w K mg base 3 "can_be_introduced" s_can_be_introduced ["known", "guest", "other"] (spCan K) := ⟨_, _, F_can_be_introduced, b_can_be_introduced, PySem.W.mg_of X G a_can_be_introduced, ok_can_be_introduced F_can_be_introduced T h_know_one_another⟩
  have h_introduced_to : Has P w K mg base 4 "introduced_to" s_introduced_to ["known", "guest"] (spIntro K) := ⟨_, _, F_introduced_to, b_introduced_to, PySem.W.mg_of X G a_introduced_to, ok_introduced_to F_introduced_to T h_can_be_introduced⟩
  have h_behind_a_round : Has P w K mg base 5 "behind_a_round" s_behind_a_round ["known"] (spRound K) := ⟨_, _, F_behind_a_round, b_behind_a_round, PySem.W.mg_of X G a_behind_a_round, ok_behind_a_round F_behind_a_round T h_introduced_to⟩
  have h_is_a_guest : Has P w K mg base 1 "is_a_guest" s_is_a_guest ["n", "guest"] spGuest := ⟨_, _, F_is_a_guest, b_is_a_guest, PySem.W.mg_of X G a_is_a_guest, ok_is_a_guest F_is_a_guest T⟩
  have h_is_a_pair : Has P w K mg base 2 "is_a_pair" s_is_a_pair ["n", "guest", "other"] spPair := ⟨_, _, F_is_a_pair, b_is_a_pair, PySem.W.mg_of X G a_is_a_pair, ok_is_a_pair F_is_a_pair T h_is_a_guest⟩
  have h_is_as_told : Has P w K mg base 3 "is_as_told" s_is_as_told ["n", "pairs"] (spTold K) := ⟨_, _, F_is_as_told, b_is_as_told, PySem.W.mg_of X G a_is_as_told, ok_is_as_told F_is_as_told T h_is_a_pair⟩
  have h_how_many_pairs : Has P w K mg base 3 "how_many_pairs" s_how_many_pairs ["known"] (spHow K) := ⟨_, _, F_how_many_pairs, b_how_many_pairs, PySem.W.mg_of X G a_how_many_pairs, ok_how_many_pairs F_how_many_pairs T h_know_one_another⟩
  exact ok_after F_after T h_acquaintances h_behind_a_round h_is_as_told h_how_many_pairs
end G
open PySem PySem.W PyProof.Rows G
set_option maxRecDepth 100000 in
set_option maxHeartbeats 8000000 in
theorem PySem.Challenge.cw_introduced_s01_after_holds : PySem.Challenge.rw_introduced_s01_after.Holds := by
  w_on; k_headS; (case hw => exact ⟨[.int 0, .int 0, .list []], by decide +kernel, by decide +kernel⟩)
  k_fillS
  refine L2.walk_specK (r := PySem.Challenge.rw_introduced_s01_after) (k := 6) (CX := L2.CX0) (ps := ["n", "k", "l"]) (sp := fun K => (spAfter K)) (by decide +kernel) rfl rfl ⟨rfl, by decide, by decide⟩ (fun w h Y => PySem.W.kIn_of Y) ?F ?S (fun _ _ _ _ z => z)
  case F =>
    intro w mg fa h Y KX G hmg
    refine' all_mk KX G hmg ?a_acquaint ?l_acquaint ?c_acquaint ?k_acquaint ?a_acquaintances ?l_acquaintances ?c_acquaintances ?k_acquaintances ?a_is_among ?l_is_among ?c_is_among ?k_is_among ?a_know_one_another ?l_know_one_another ?c_know_one_another ?k_know_one_another ?a_can_be_introduced ?l_can_be_introduced ?c_can_be_introduced ?k_can_be_introduced ?a_introduced_to ?l_introduced_to ?c_introduced_to ?k_introduced_to ?a_behind_a_round ?l_behind_a_round ?c_behind_a_round ?k_behind_a_round ?a_is_a_guest ?l_is_a_guest ?c_is_a_guest ?k_is_a_guest ?a_is_a_pair ?l_is_a_pair ?c_is_a_pair ?k_is_a_pair ?a_is_as_told ?l_is_as_told ?c_is_as_told ?k_is_as_told ?a_how_many_pairs ?l_how_many_pairs ?c_how_many_pairs ?k_how_many_pairs ?a_after ?l_after ?c_after ?k_after ?v_MOST_GUESTS ?v_MOST_PAIRS ?v_MOST_ROUNDS ?v_REFUSED ?z_len ?z_range
    (case a_acquaint => k_is)
    (case l_acquaint => k_is)
    (case c_acquaint => k_is)
    (case k_acquaint => k_is)
    (case a_acquaintances => k_is)
    (case l_acquaintances => k_is)
    (case c_acquaintances => k_is)
    (case k_acquaintances => k_is)
    (case a_is_among => k_is)
    (case l_is_among => k_is)
    (case c_is_among => k_is)
    (case k_is_among => k_is)
    (case a_know_one_another => k_is)
    (case l_know_one_another => k_is)
    (case c_know_one_another => k_is)
    (case k_know_one_another => k_is)
    (case a_can_be_introduced => k_is)
    (case l_can_be_introduced => k_is)
    (case c_can_be_introduced => k_is)
    (case k_can_be_introduced => k_is)
    (case a_introduced_to => k_is)
    (case l_introduced_to => k_is)
    (case c_introduced_to => k_is)
    (case k_introduced_to => k_is)
    (case a_behind_a_round => k_is)
    (case l_behind_a_round => k_is)
    (case c_behind_a_round => k_is)
    (case k_behind_a_round => k_is)
    (case a_is_a_guest => k_is)
    (case l_is_a_guest => k_is)
    (case c_is_a_guest => k_is)
    (case k_is_a_guest => k_is)
    (case a_is_a_pair => k_is)
    (case l_is_a_pair => k_is)
    (case c_is_a_pair => k_is)
    (case k_is_a_pair => k_is)
    (case a_is_as_told => k_is)
    (case l_is_as_told => k_is)
    (case c_is_as_told => k_is)
    (case k_is_as_told => k_is)
    (case a_how_many_pairs => k_is)
    (case l_how_many_pairs => k_is)
    (case c_how_many_pairs => k_is)
    (case k_how_many_pairs => k_is)
    (case a_after => k_is)
    (case l_after => k_is)
    (case c_after => k_is)
    (case k_after => k_is)
    (case v_MOST_GUESTS => k_is)
    (case v_MOST_PAIRS => k_is)
    (case v_MOST_ROUNDS => k_is)
    (case v_REFUSED => k_is)
    (case z_len => k_is)
    (case z_range => k_is)
  case S =>
    intro K H xs a hO hwi hask hx
    obtain ⟨x, y, l, u⟩ := a
    cases hx with
    | cons h1 hx =>
      cases hx with
      | cons h2 hx =>
        cases hx with
        | cons h3 hx =>
          cases hx
          cases h1
          cases h2
          cases h3 with
          | lst hs ha =>
            have e := L2.ints_dw l _ ha
            subst e
            have q : (Codec.inInt 0 4294967295 x && (Codec.inInt 0 4294967295 y && ((Codec.inLen 0 60 l && l.all (Codec.inInt 0 255)) && true))) = true := hwi
            simp only [Bool.and_eq_true, Codec.inInt_iff, List.all_eq_true, and_true] at q
            obtain ⟨q1, q2, q3, q4⟩ := q
            have q3 := (Codec.inNat_iff.mp q3).2
            obtain ⟨n, rfl⟩ := Int.eq_ofNat_of_zero_le q1.1
            obtain ⟨k, rfl⟩ := Int.eq_ofNat_of_zero_le q2.1
            obtain ⟨m, rfl⟩ := G.nats_of l fun z hz => (q4 z hz).1
            have es : (m.map fun (z : Nat) => (z : Int)).map L2.V.int = G.natsV m := by
              unfold G.natsV
              rw [List.map_map]
              rfl
            rw [es] at hs
            exact ⟨n, k, _, m, rfl, hs, by rw [List.length_map] at q3; exact q3, fun p H2 _ _ h => .lst (L2.SqL.of h) (L2.dw_ints _)⟩
#print axioms PySem.Challenge.cw_introduced_s01_after_holds
