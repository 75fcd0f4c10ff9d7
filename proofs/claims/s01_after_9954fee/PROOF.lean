import PyProof.Rows.All
import Wide.All
import OpenK.AllK
import Wide.FinOn
import Open.SpecLaws
import KE.OsHead
import KE.OsGo
import HandS.ForSpec
import HandS.Comp
import HandS.Iter
import HandS.Text
import HandS.Evl
import PySem.Challenge.RW_introduced_s01_after
set_option Elab.async false
set_option linter.all false
set_option maxRecDepth 100000
set_option maxHeartbeats 2000000
namespace G
open Kzf1 (Net knows bits pairsOf pairs net okNet)
open Kzf5 (can cans round after rowOf)

/-! ### masks -/
def maskP (n : Nat) (p : Nat → Bool) : Nat := bits ((List.range n).filter p)
theorem bits_append (l m : List Nat) : bits (l ++ m) = m.foldl (fun s i => s + 2 ^ i) (bits l) := by
  unfold bits
  rw [List.foldl_append]
theorem maskP_succ (n : Nat) (p : Nat → Bool) : maskP (n + 1) p = maskP n p + if p n = true then 2 ^ n else 0 := by
  unfold maskP
  rw [List.range_succ, List.filter_append, bits_append]
  by_cases h : p n = true
  · rw [if_pos h, List.filter_cons, if_pos h]
    rfl
  · rw [if_neg h, List.filter_cons, if_neg h]
    rfl
theorem maskP_lt (n : Nat) (p : Nat → Bool) : maskP n p < 2 ^ n := by
  induction n with
  | zero => exact Nat.zero_lt_one
  | succ n ih =>
    rw [maskP_succ, Nat.pow_succ]
    split <;> omega
theorem maskP_bit (n : Nat) (p : Nat → Bool) (j : Nat) : (maskP n p).testBit j = (decide (j < n) && p j) := by
  induction n with
  | zero =>
    show (0 : Nat).testBit j = _
    simp
  | succ n ih =>
    rw [maskP_succ]
    by_cases h : p n = true
    · rw [if_pos h, Nat.add_comm]
      by_cases e : j = n
      · subst e
        rw [Nat.testBit_two_pow_add_eq, Nat.testBit_lt_two_pow (maskP_lt _ _), h]
        simp
      · by_cases c : j < n
        · rw [Nat.testBit_two_pow_add_gt c, ih]
          simp [c, Nat.lt_succ_of_lt c]
        · have hn : ¬ j < n + 1 := by omega
          have big : 2 ^ n + maskP n p < 2 ^ j := by
            have a := maskP_lt n p
            have b : 2 ^ (n + 1) ≤ 2 ^ j := Nat.pow_le_pow_right (by decide) (by omega)
            rw [Nat.pow_succ] at b
            omega
          rw [Nat.testBit_lt_two_pow big]
          simp [hn]
    · rw [if_neg h, Nat.add_zero, ih]
      by_cases e : j = n
      · subst e
        simp [h]
      · have : (j < n + 1) = (j < n) := by
          apply propext; omega
        simp [this]
theorem maskP_congr {n : Nat} {p q : Nat → Bool} (h : ∀ j, j < n → p j = q j) : maskP n p = maskP n q := by
  apply Nat.eq_of_testBit_eq
  intro j
  rw [maskP_bit, maskP_bit]
  by_cases c : j < n
  · rw [h j c]
  · simp [c]
theorem maskP_or (n : Nat) (p q : Nat → Bool) : maskP n p ||| maskP n q = maskP n (fun j => p j || q j) := by
  apply Nat.eq_of_testBit_eq
  intro j
  rw [Nat.testBit_or, maskP_bit, maskP_bit, maskP_bit]
  cases decide (j < n) <;> rfl
theorem maskP_and (n : Nat) (p q : Nat → Bool) : maskP n p &&& maskP n q = maskP n (fun j => p j && q j) := by
  apply Nat.eq_of_testBit_eq
  intro j
  rw [Nat.testBit_and, maskP_bit, maskP_bit, maskP_bit]
  cases decide (j < n) <;> rfl
theorem maskP_eq0 (n : Nat) (p : Nat → Bool) : maskP n p = 0 ↔ (List.range n).any p = false := by
  rw [List.any_eq_false]
  constructor
  · intro h j hj
    have b := maskP_bit n p j
    rw [h, Nat.zero_testBit, decide_eq_true (List.mem_range.mp hj)] at b
    simpa using b.symm
  · intro h
    apply Nat.eq_of_testBit_eq
    intro j
    rw [maskP_bit, Nat.zero_testBit]
    by_cases c : j < n
    · have := h j (List.mem_range.mpr c)
      simp [this]
    · simp [c]
theorem maskP_one {n b : Nat} (h : b < n) : maskP n (fun j => j == b) = 2 ^ b := by
  apply Nat.eq_of_testBit_eq
  intro j
  rw [maskP_bit, Nat.testBit_two_pow]
  by_cases e : j = b
  · subst e; simp [h]
  · have : ¬ b = j := fun q => e q.symm
    simp [e, this]
theorem maskP_shift (n : Nat) (p : Nat → Bool) (j : Nat) : maskP n p / 2 ^ j % 2 = if (decide (j < n) && p j) = true then 1 else 0 := by
  have b := maskP_bit n p j
  rw [Nat.testBit_eq_decide_div_mod_eq] at b
  have r : maskP n p / 2 ^ j % 2 < 2 := Nat.mod_lt _ (by decide)
  rw [← b]
  by_cases c : maskP n p / 2 ^ j % 2 = 1
  · simp [c]
  · have : maskP n p / 2 ^ j % 2 = 0 := by omega
    simp [this]

/-! ### who knows whom -/
theorem knows_symm (g : Net) (i j : Nat) : knows g i j = knows g j i := by
  unfold knows
  have e : (fun e : Nat × Nat => (e.1 == i && e.2 == j) || (e.1 == j && e.2 == i)) = fun e => (e.1 == j && e.2 == i) || (e.1 == i && e.2 == j) := by
    funext e; rw [Bool.or_comm]
  rw [e]
  have : (i != j) = (j != i) := by
    simp only [bne, Bool.beq_comm (a := i)]
  rw [this]
theorem knows_self (g : Net) (i : Nat) : knows g i i = false := by
  unfold knows; simp
theorem knows_append (g h : Net) (i j : Nat) : knows (g ++ h) i j = (knows g i j || knows h i j) := by
  unfold knows
  rw [List.any_append]
  cases (i != j) <;> simp
theorem knows_iff (g : Net) (i j : Nat) : knows g i j = true ↔ i ≠ j ∧ ((i, j) ∈ g ∨ (j, i) ∈ g) := by
  unfold knows
  rw [Bool.and_eq_true, List.any_eq_true]
  constructor
  · rintro ⟨h, ⟨a, b⟩, hm, hp⟩
    refine ⟨by simpa using h, ?_⟩
    simp at hp
    rcases hp with ⟨rfl, rfl⟩ | ⟨rfl, rfl⟩
    · exact .inl hm
    · exact .inr hm
  · rintro ⟨h, hm | hm⟩
    · exact ⟨by simpa using h, _, hm, by simp⟩
    · exact ⟨by simpa using h, _, hm, by simp⟩
theorem can_symm (n : Nat) (g : Net) (i j : Nat) : can n g i j = can n g j i := by
  unfold can
  have e : (fun k => knows g i k && knows g j k) = fun k => knows g j k && knows g i k := by
    funext k; rw [Bool.and_comm]
  have : (i != j) = (j != i) := by
    simp only [bne, Bool.beq_comm (a := i)]
  rw [e, knows_symm g i j, this]
theorem mem_pairsOf {n a b : Nat} : (a, b) ∈ pairsOf n ↔ a < b ∧ b < n := by
  unfold pairsOf
  simp only [List.mem_flatMap, List.mem_map, List.mem_filter, List.mem_range, decide_eq_true_eq, Prod.mk.injEq]
  constructor
  · rintro ⟨i, hi, j, ⟨hj, hl⟩, rfl, rfl⟩
    exact ⟨hl, hj⟩
  · rintro ⟨h1, h2⟩
    exact ⟨a, by omega, b, ⟨h2, h1⟩, rfl, rfl⟩
theorem mem_cans {n : Nat} {g : Net} {a b : Nat} : (a, b) ∈ cans n g ↔ a < b ∧ b < n ∧ can n g a b = true := by
  unfold cans
  rw [List.mem_filter, mem_pairsOf]
  exact and_assoc
theorem knows_cans {n : Nat} {g : Net} {i j : Nat} (hi : i < n) (hj : j < n) : knows (cans n g) i j = can n g i j := by
  rw [Bool.eq_iff_iff, knows_iff, mem_cans, mem_cans]
  constructor
  · rintro ⟨_, ⟨_, _, h⟩ | ⟨_, _, h⟩⟩
    · exact h
    · rw [can_symm]; exact h
  · intro h
    have ne : i ≠ j := by
      have h2 := h
      unfold can at h2
      rw [Bool.and_eq_true, Bool.and_eq_true] at h2
      simpa using h2.1.1
    refine ⟨ne, ?_⟩
    rcases Nat.lt_or_gt_of_ne ne with c | c
    · exact .inl ⟨c, hj, h⟩
    · exact .inr ⟨c, hi, by rw [can_symm]; exact h⟩
theorem knows_round {n : Nat} {g : Net} {i j : Nat} (hi : i < n) (hj : j < n) : knows (round n g) i j = (knows g i j || can n g i j) := by
  unfold round
  rw [knows_append, knows_cans hi hj]
/-- the rows -/
theorem rowOf_mask (n : Nat) (g : Net) (i : Nat) : rowOf n g i = maskP n (knows g i) := rfl
theorem row_round {n : Nat} {g : Net} {i : Nat} (hi : i < n) : maskP n (knows g i) ||| maskP n (can n g i) = maskP n (knows (round n g) i) := by
  rw [maskP_or]
  exact maskP_congr fun j hj => (knows_round hi hj).symm
theorem row_and {n : Nat} {g : Net} {i j : Nat} : (maskP n (knows g i) &&& maskP n (knows g j) = 0) ↔ (List.range n).any (fun k => knows g i k && knows g j k) = false := by
  rw [maskP_and, maskP_eq0]
theorem knows_one {a b i j : Nat} (hab : a ≠ b) : knows [(a, b)] i j = ((i == a && j == b) || (i == b && j == a)) := by
  rw [Bool.eq_iff_iff, knows_iff]
  simp
  constructor
  · rintro ⟨_, h⟩
    omega
  · rintro h
    exact ⟨by omega, by omega⟩
/-- a pair told: the row of a gets bit b, the row of b gets bit a -/
theorem row_tell {n : Nat} {g : Net} {a b i : Nat} (ha : a < n) (hb : b < n) (hab : a ≠ b) :
    maskP n (knows (g ++ [(a, b)]) i) = if i = a then maskP n (knows g a) ||| 2 ^ b else if i = b then maskP n (knows g b) ||| 2 ^ a else maskP n (knows g i) := by
  split
  · rename_i e; subst e
    rw [← maskP_one hb, maskP_or]
    refine maskP_congr fun j hj => ?_
    have : (i == b) = false := by simpa using hab
    rw [knows_append, knows_one hab, this]
    simp
  · rename_i ea
    split
    · rename_i e; subst e
      rw [← maskP_one ha, maskP_or]
      refine maskP_congr fun j hj => ?_
      have : (i == a) = false := by simpa using ea
      rw [knows_append, knows_one hab, this]
      simp
    · rename_i eb
      refine maskP_congr fun j hj => ?_
      have h1 : (i == a) = false := by simpa using ea
      have h2 : (i == b) = false := by simpa using eb
      rw [knows_append, knows_one hab, h1, h2]
      simp

/-! ### the pairs told -/
theorem net_length : ∀ l : List Nat, (net l).length = l.length / 2
  | [] => by simp [net]
  | [_] => by simp [net]
  | _ :: _ :: l => by
    show (net l).length + 1 = (l.length + 2) / 2
    rw [net_length l]
    omega
theorem net_get : ∀ (l : List Nat) (t : Nat), 2 * t + 1 < l.length → (net l)[t]? = some (l.getD (2 * t) 0, l.getD (2 * t + 1) 0)
  | [], t, h => by simp at h
  | [_], t, h => by simp at h
  | a :: b :: l, 0, _ => rfl
  | a :: b :: l, t + 1, h => by
    have ih := net_get l t (by simp at h; omega)
    show (net l)[t]? = _
    rw [ih]
    rfl
theorem net_take : ∀ (l : List Nat) (t : Nat), net (l.take (2 * t)) = (net l).take t
  | [], t => by cases t <;> simp [net]
  | [_], 0 => by simp [net]
  | [_], t + 1 => by
    have e : 2 * (t + 1) = (2 * t + 1) + 1 := by omega
    rw [e]
    simp [net]
  | a :: b :: l, 0 => rfl
  | a :: b :: l, t + 1 => by
    have e : 2 * (t + 1) = 2 * t + 1 + 1 := by omega
    rw [e]
    show (a, b) :: net (l.take (2 * t)) = (a, b) :: (net l).take t
    rw [net_take l t]
def okPair (n a b : Nat) : Bool := decide (a < n) && decide (b < n) && a != b
theorem good_eq (n : Nat) (l : List Nat) : Kzf1.good n l = (decide (l.length % 2 = 0) && (decide (1 ≤ n) && decide (n ≤ 8) && decide (l.length / 2 ≤ 28) && (net l).all fun e => okPair n e.1 e.2)) := by
  unfold Kzf1.good okNet
  rw [net_length]
  rfl
theorem good_iff {n : Nat} {l : List Nat} : Kzf1.good n l = true ↔ l.length % 2 = 0 ∧ 1 ≤ n ∧ n ≤ 8 ∧ l.length / 2 ≤ 28 ∧ ∀ t, 2 * t < l.length → okPair n (l.getD (2 * t) 0) (l.getD (2 * t + 1) 0) = true := by
  rw [good_eq]
  simp only [Bool.and_eq_true, decide_eq_true_eq, List.all_eq_true]
  constructor
  · rintro ⟨h0, ⟨⟨h1, h2⟩, h3⟩, h4⟩
    refine ⟨h0, h1, h2, h3, fun t ht => ?_⟩
    have q := net_get l t (by omega)
    exact h4 _ (List.mem_of_getElem? q)
  · rintro ⟨h0, h1, h2, h3, h4⟩
    refine ⟨h0, ⟨⟨h1, h2⟩, h3⟩, fun e he => ?_⟩
    obtain ⟨t, ht, rfl⟩ := List.getElem_of_mem he
    have q := net_get l t (by rw [net_length] at ht; omega)
    rw [List.getElem?_eq_getElem ht] at q
    have q2 := Option.some.inj q
    rw [q2]
    exact h4 t (by rw [net_length] at ht; omega)

/-! ### how many pairs -/
def below (g : Net) (n : Nat) : Nat := ((List.range n).map fun i => ((List.range i).filter (knows g i)).length).sum
theorem below_succ (g : Net) (n : Nat) : below g (n + 1) = below g n + ((List.range n).filter (knows g n)).length := by
  unfold below
  rw [List.range_succ, List.map_append, List.sum_append]
  simp
def upper (g : Net) (m n : Nat) : Nat := ((List.range m).map fun i => ((List.range n).countP fun j => knows g i j && decide (i < j))).sum
theorem pairs_upper (n : Nat) (g : Net) : pairs n g = upper g n n := by
  unfold pairs pairsOf upper
  rw [← List.countP_eq_length_filter, List.countP_flatMap]
  congr 1
  apply List.map_congr_left
  intro i _
  show List.countP _ (List.map _ _) = _
  rw [List.countP_map, List.countP_filter]
  rfl
theorem upper_col (g : Net) (n : Nat) : ∀ m, m ≤ n → upper g m (n + 1) = upper g m n + ((List.range m).filter (knows g n)).length
  | 0, _ => rfl
  | m + 1, h => by
    have ih := upper_col g n m (by omega)
    unfold upper at ih ⊢
    rw [List.range_succ (n := m), List.map_append, List.map_append, List.sum_append, List.sum_append, ih, List.filter_append, List.length_append]
    simp only [List.map_cons, List.map_nil, List.sum_cons, List.sum_nil]
    rw [List.range_succ (n := n), List.countP_append]
    have c : m < n := by omega
    have e : List.countP (fun j => knows g m j && decide (m < j)) [n] = (List.filter (knows g n) [m]).length := by
      rw [List.countP_cons, List.countP_nil, List.filter_cons, knows_symm g n m]
      by_cases k : knows g m n = true <;> simp [k, c]
    rw [e]
    omega
theorem upper_below (g : Net) : ∀ n, upper g n n = below g n
  | 0 => rfl
  | n + 1 => by
    rw [below_succ, ← upper_below g n, ← upper_col g n n (Nat.le_refl _)]
    unfold upper
    rw [List.range_succ (n := n), List.map_append, List.sum_append]
    simp only [List.map_cons, List.map_nil, List.sum_cons, List.sum_nil]
    rw [← List.range_succ (n := n)]
    have z : List.countP (fun j => knows g n j && decide (n < j)) (List.range (n + 1)) = 0 := by
      rw [List.countP_eq_zero]
      intro j hj
      have := List.mem_range.mp hj
      simp
      intro _
      omega
    rw [z]
    rfl
theorem pairs_below (n : Nat) (g : Net) : pairs n g = below g n := by
  rw [pairs_upper, upper_below]
end G

/-! ### words over the layer -/
namespace G
open PySem PySem.Spec PyProof.Rows L2 Evl
open Kzf1 (Net knows bits pairsOf pairs net okNet)
open Kzf5 (can cans round after rowOf)

/-- a def of the text that keeps a promise, wherever it stands -/
structure Has (P : Program) (w : World) (K : PySem.W.Frag) (mg : Str → Option Value) (base : Heap) (k : Nat) (x : Str) (st : Stmt) (ps : List Str) (sp : Sp) : Prop where
  ex : ∃ (f : Addr) (fd : FuncData), Fun K x x st f fd ∧ Binds K fd ps [] ∧ mg x = some (.ref f) ∧ FnOk P w K mg base CX0 k f fd ps sp

section
variable {K : PySem.W.Frag} {σ : L2.St} {H H' : Hp} {ta tb te : TE} {D : Ends} {tu tz : TS}
theorem rgc2 : ∀ L : Fin 61, L.val % 2 = 0 → Builtin.Range.small 0 (L.val : Int) 2 = true ∧ Builtin.Range.rangeSize 0 (L.val : Int) 2 = ((L.val / 2 : Nat) : Int) := by decide +kernel
/-- for j in range(0, L, 2), L even -/
theorem s_forR3 {t : TA} {j L : Nat} (h : EvA t σ H [.int 0, .int (L : Int), .int 2]) (hL : L ≤ 60) (he : L % 2 = 0) (Pv : Nat → L2.St → Hp → Prop) (h0 : ∀ H1, Ex H H1 → Pv 0 σ H1)
    (hs : ∀ (i : Nat) σ' H', 2 * i < L → Pv i σ' H' → tu { D with nx := Pv (i + 1), ct := Pv (i + 1), bk := D.nx } (σ'.set j (some (.int ((2 * i : Nat) : Int)))) H') (hd : ∀ σ' H', Pv (L / 2) σ' H' → D.nx σ' H') : tFor (iRng3 t) (gName j) tu D σ H :=
  h H (Ex.refl H) _ fun H1 e => ⟨0, L, 2, L / 2, rfl, ⟨by decide, by decide, (rgc2 ⟨L, by omega⟩ he).1, (rgc2 ⟨L, by omega⟩ he).2⟩, for_rangeC (lo := 0) (c := 2) (n := L / 2) Pv (h0 H1 e) (fun i σ' H' hi p => by
    have e0 : (0 : Int) + (i : Int) * 2 = ((2 * i : Nat) : Int) := by omega
    show tu { D with nx := Pv (i + 1), ct := Pv (i + 1), bk := D.nx } (σ'.set j (some (.int ((0 : Int) + (i : Int) * 2)))) H'
    rw [e0]
    exact hs i σ' H' (by omega) p) hd⟩
theorem q_forR3 {t : TA} {j L : Nat} (h : EvA t σ H [.int 0, .int (L : Int), .int 2]) (hL : L ≤ 60) (he : L % 2 = 0) (Pv : Nat → L2.St → Hp → Prop) (h0 : ∀ H1, Ex H H1 → Pv 0 σ H1)
    (hs : ∀ (i : Nat) σ' H', 2 * i < L → Pv i σ' H' → tu { D with nx := Pv (i + 1), ct := Pv (i + 1), bk := tz D } (σ'.set j (some (.int ((2 * i : Nat) : Int)))) H') (hd : ∀ σ' H', Pv (L / 2) σ' H' → tz D σ' H') : tSeq (tFor (iRng3 t) (gName j) tu) tz D σ H :=
  s_forR3 (D := { D with nx := tz D }) h hL he Pv h0 hs hd
/-- range(n), n a natural -/
theorem s_forN {t : TA} {j n : Nat} (h : EvA t σ H [.int (n : Int)]) (hn : n ≤ 100000) (Pv : Nat → L2.St → Hp → Prop) (h0 : ∀ H1, Ex H H1 → Pv 0 σ H1)
    (hs : ∀ (i : Nat) σ' H', i < n → Pv i σ' H' → tu { D with nx := Pv (i + 1), ct := Pv (i + 1), bk := D.nx } (σ'.set j (some (.int (i : Int)))) H') (hd : ∀ σ' H', Pv n σ' H' → D.nx σ' H') : tFor (iRng1 t) (gName j) tu D σ H :=
  s_forR1 h (by omega) Pv h0 (fun i σ' H' hi p => hs i σ' H' (by omega) p) (by rw [Int.toNat_natCast]; exact hd)
theorem q_forN {t : TA} {j n : Nat} (h : EvA t σ H [.int (n : Int)]) (hn : n ≤ 100000) (Pv : Nat → L2.St → Hp → Prop) (h0 : ∀ H1, Ex H H1 → Pv 0 σ H1)
    (hs : ∀ (i : Nat) σ' H', i < n → Pv i σ' H' → tu { D with nx := Pv (i + 1), ct := Pv (i + 1), bk := tz D } (σ'.set j (some (.int (i : Int)))) H') (hd : ∀ σ' H', Pv n σ' H' → tz D σ' H') : tSeq (tFor (iRng1 t) (gName j) tu) tz D σ H :=
  s_forN (D := { D with nx := tz D }) h hn Pv h0 hs hd
theorem el_rep {v : V} {k : Nat} (ha : EvL ta σ H [v]) (hb : ∀ H1, Ex H H1 → Ev tb σ H1 (.int (k : Int))) (hk : k ≤ 100000) : EvL (tOp rRep ta tb) σ H (List.replicate k v) := fun H1 e Q q =>
  ha H1 e _ fun p H2 hp e2 h2 => hb H2 (e.trans e2) H2 (Ex.refl _) _ fun H3 e3 => ⟨p, (k : Int), [v], rfl, rfl, e3 p _ h2, by omega, by omega, by
      rw [Int.toNat_natCast]
      exact sz_of (by simpa using hk), fun r hr => q r _ (fresh_back (e2.trans e3) hr) ((e2.trans e3).trans (Ex.new hr)) (by
      rw [upd_same, Int.toNat_natCast]
      congr 2
      clear hb hk q
      induction k with
      | zero => rfl
      | succ k ih =>
        show [v] ++ (List.replicate k [v]).flatten = v :: List.replicate k v
        rw [ih]
        rfl)⟩
theorem el_cat {xs zs : List V} {b : Addr} (ha : EvL ta σ H xs) (hb : ∀ H1, Ex H H1 → Ev tb σ H1 (.ref b)) (hz : H b = some (.lst zs)) (hl : xs.length + zs.length ≤ 100000) : EvL (tOp rCat ta tb) σ H (xs ++ zs) := fun H1 e Q q =>
  ha H1 e _ fun p H2 hp e2 h2 => hb H2 (e.trans e2) H2 (Ex.refl _) _ fun H3 e3 => ⟨p, b, xs, zs, rfl, rfl, e3 p _ h2, ((e.trans e2).trans e3) b _ hz, sz_of hl, fun r hr =>
    q r _ (fresh_back (e2.trans e3) hr) ((e2.trans e3).trans (Ex.new hr)) upd_same⟩
theorem el_is {xs ys : List V} (h : EvL te σ H xs) (e : xs = ys) : EvL te σ H ys := e ▸ h
theorem spv_of {sp : Sp} {vs : List V} {z : V} (h : ∀ H1, Ex H H1 → ∀ (Q : VK) E, RetV z H1 Q → sp vs H1 Q E) : SpV sp vs H z := fun H1 e Q q E => h H1 e Q E q
theorem spl_of {sp : Sp} {vs : List V} {xs : List V} (h : ∀ H1, Ex H H1 → ∀ (Q : VK) E, RetL xs H1 Q → sp vs H1 Q E) : SpL sp vs H xs := fun H1 e Q q E => h H1 e Q E q
end
/-! ### lists of naturals -/
def natsV (l : List Nat) : List V := l.map fun (x : Nat) => V.int (x : Int)
theorem natsV_len (l : List Nat) : (natsV l).length = l.length := by
  unfold natsV
  rw [List.length_map]
theorem natsV_at {l : List Nat} {i : Nat} (h : i < l.length) : atI (natsV l) (i : Int) = some (.int ((l.getD i 0 : Nat) : Int)) := by
  refine atI_nat ?_
  unfold natsV
  rw [List.getElem?_map, List.getElem?_eq_getElem h, List.getD_eq_getElem?_getD, List.getElem?_eq_getElem h]
  rfl
theorem nats_of : ∀ l : List Int, (∀ z ∈ l, 0 ≤ z) → ∃ m : List Nat, l = m.map fun (z : Nat) => (z : Int)
  | [], _ => ⟨[], rfl⟩
  | z :: l, h => by
    obtain ⟨m, e⟩ := nats_of l fun y hy => h y (List.mem_cons_of_mem _ hy)
    obtain ⟨x, hx⟩ := Int.eq_ofNat_of_zero_le (h z (List.mem_cons_self ..))
    exact ⟨x :: m, by rw [e, hx]; rfl⟩
def rowV (n : Nat) (g : Net) (i : Nat) : V := V.int ((maskP n (knows g i) : Nat) : Int)
def rowsV (n : Nat) (g : Net) : List V := (List.range n).map (rowV n g)
theorem rowsV_len (n : Nat) (g : Net) : (rowsV n g).length = n := by
  unfold rowsV
  rw [List.length_map, List.length_range]
theorem rowsV_get {n : Nat} {g : Net} {i : Nat} (h : i < n) : (rowsV n g)[i]? = some (rowV n g i) := by
  unfold rowsV
  rw [List.getElem?_map, List.getElem?_range h]
  rfl
theorem rowsV_at {n : Nat} {g : Net} {i : Nat} (h : i < n) : atI (rowsV n g) (i : Int) = some (.int ((maskP n (knows g i) : Nat) : Int)) := atI_nat (rowsV_get h)
theorem rowsV_ext {n : Nat} {g g' : Net} (h : ∀ i j, i < n → j < n → knows g i j = knows g' i j) : rowsV n g = rowsV n g' := by
  unfold rowsV
  apply List.map_congr_left
  intro i hi
  unfold rowV
  rw [maskP_congr fun j hj => h i j (List.mem_range.mp hi) hj]
theorem rows_nil (n : Nat) : List.replicate n (V.int 0) = rowsV n [] := by
  refine List.ext_getElem? fun i => ?_
  by_cases h : i < n
  · rw [rowsV_get h, List.getElem?_replicate, if_pos h]
    unfold rowV
    rw [(maskP_eq0 n (knows [] i)).mpr (by rw [List.any_eq_false]; intro j _; simp [knows])]
    rfl
  · rw [List.getElem?_eq_none (by rw [List.length_replicate]; omega), List.getElem?_eq_none (by rw [rowsV_len]; omega)]
theorem rows_tell {n : Nat} {g : Net} {a b : Nat} (ha : a < n) (hb : b < n) (hab : a ≠ b) :
    ((rowsV n g).set a (.int ((maskP n (knows g a) ||| 2 ^ b : Nat) : Int))).set b (.int ((maskP n (knows g b) ||| 2 ^ a : Nat) : Int)) = rowsV n (g ++ [(a, b)]) := by
  refine List.ext_getElem? fun i => ?_
  by_cases h : i < n
  · rw [rowsV_get h, List.getElem?_set, List.getElem?_set, rowsV_get h]
    unfold rowV
    rw [row_tell ha hb hab]
    simp only [List.length_set, rowsV_len]
    by_cases e1 : b = i
    · subst e1
      have : ¬ b = a := fun q => hab q.symm
      rw [if_pos rfl, if_pos hb, if_neg this, if_pos rfl]
    · by_cases e2 : a = i
      · subst e2
        rw [if_neg e1, if_pos rfl, if_pos ha, if_pos rfl]
      · rw [if_neg e1, if_neg e2, if_neg (fun q => e2 q.symm), if_neg (fun q => e1 q.symm)]
  · rw [List.getElem?_eq_none (by rw [List.length_set, List.length_set, rowsV_len]; omega), List.getElem?_eq_none (by rw [rowsV_len]; omega)]
theorem rows_set_at {n : Nat} {g : Net} {a b : Nat} {v : V} (hb : b < n) (hab : a ≠ b) : atI ((rowsV n g).set a v) (b : Int) = some (.int ((maskP n (knows g b) : Nat) : Int)) := by
  refine atI_nat ?_
  rw [List.getElem?_set, if_neg hab]
  exact rowsV_get hb
theorem rows_take {n : Nat} {g : Net} {i : Nat} (h : i < n) : (rowsV n g).take i ++ [.int ((maskP n (knows g i) : Nat) : Int)] = (rowsV n g).take (i + 1) := by
  rw [List.take_add_one, rowsV_get h]
  rfl
/-! ### bits as ints -/
theorem or_nat (a b : Nat) : Builtin.bitOr (a : Int) (b : Int) = ((a ||| b : Nat) : Int) := by
  rw [Bits.bitOr_pp (by omega) (by omega), Int.toNat_natCast, Int.toNat_natCast]
theorem and_nat (a b : Nat) : Builtin.bitAnd (a : Int) (b : Int) = ((a &&& b : Nat) : Int) := by
  rw [bitAnd_pp (by omega) (by omega), Int.toNat_natCast, Int.toNat_natCast]
theorem pow_nat (j : Nat) : (1 : Int) * 2 ^ ((j : Int).toNat) = ((2 ^ j : Nat) : Int) := by
  rw [Int.one_mul, Int.toNat_natCast, Int.natCast_pow]
  rfl
theorem shr_nat (m j : Nat) : ((m : Int) / 2 ^ ((j : Int).toNat)) = ((m / 2 ^ j : Nat) : Int) := by
  rw [Int.toNat_natCast, Int.natCast_ediv, Int.natCast_pow]
  rfl
theorem bit_nat (m j : Nat) : decide (V.int (Builtin.bitAnd ((m : Int) / 2 ^ ((j : Int).toNat)) 1) = V.int 1) = m.testBit j := by
  rw [shr_nat, show (1 : Int) = ((1 : Nat) : Int) from rfl, and_nat, Nat.and_one_is_mod, Nat.testBit_eq_decide_div_mod_eq]
  rw [decide_eq_decide]
  constructor
  · intro h
    exact Int.ofNat.inj (V.int.inj h)
  · intro h
    rw [h]
theorem maskP_succ_or (n : Nat) (p : Nat → Bool) : maskP (n + 1) p = if p n = true then maskP n p ||| 2 ^ n else maskP n p := by
  rw [maskP_succ]
  split
  · have q := Nat.two_pow_add_eq_or_of_lt (maskP_lt n p) 1
    rw [Nat.mul_one] at q
    rw [Nat.or_comm, ← q, Nat.add_comm]
  · rfl
end G

/-! ### the walk -/
namespace G
open PySem PySem.Spec PyProof.Rows L2 Evl
open PySem.W (Codec)
open Kzf1 (Net knows bits pairsOf pairs net okNet)
open Kzf5 (can cans round after rowOf)
def topS (i : Nat) : Stmt := PySem.Challenge.pw_introduced_s01_after.main.body.getD i (.Pass ⟨0, 0, 0, 0⟩)
abbrev s_acquaintances : Stmt := topS 9
abbrev s_know_one_another : Stmt := topS 13
abbrev s_can_be_introduced : Stmt := topS 12
abbrev s_introduced_to : Stmt := topS 11
abbrev s_behind_a_round : Stmt := topS 10
abbrev s_is_a_guest : Stmt := topS 8
abbrev s_is_a_pair : Stmt := topS 7
abbrev s_is_as_told : Stmt := topS 6
abbrev s_how_many_pairs : Stmt := topS 14
abbrev s_after : Stmt := topS 5
theorem sc_acquaintances : FnScope ["n", "pairs", "known", "place", "guest", "other"] ["n", "pairs"] (defScope s_acquaintances) := ⟨rfl, rfl, rfl, by decide +kernel, rfl, by decide +kernel, by decide +kernel⟩
theorem sc_know_one_another : FnScope ["known", "guest", "other"] ["known", "guest", "other"] (defScope s_know_one_another) := ⟨rfl, rfl, rfl, by decide +kernel, rfl, by decide +kernel, by decide +kernel⟩
theorem sc_can_be_introduced : FnScope ["known", "guest", "other"] ["known", "guest", "other"] (defScope s_can_be_introduced) := ⟨rfl, rfl, rfl, by decide +kernel, rfl, by decide +kernel, by decide +kernel⟩
theorem sc_introduced_to : FnScope ["known", "guest", "bits", "other"] ["known", "guest"] (defScope s_introduced_to) := ⟨rfl, rfl, rfl, by decide +kernel, rfl, by decide +kernel, by decide +kernel⟩
theorem sc_behind_a_round : FnScope ["known", "later", "guest"] ["known"] (defScope s_behind_a_round) := ⟨rfl, rfl, rfl, by decide +kernel, rfl, by decide +kernel, by decide +kernel⟩
theorem sc_is_a_guest : FnScope ["n", "guest"] ["n", "guest"] (defScope s_is_a_guest) := ⟨rfl, rfl, rfl, by decide +kernel, rfl, by decide +kernel, by decide +kernel⟩
theorem sc_is_a_pair : FnScope ["n", "guest", "other"] ["n", "guest", "other"] (defScope s_is_a_pair) := ⟨rfl, rfl, rfl, by decide +kernel, rfl, by decide +kernel, by decide +kernel⟩
theorem sc_is_as_told : FnScope ["n", "pairs", "place"] ["n", "pairs"] (defScope s_is_as_told) := ⟨rfl, rfl, rfl, by decide +kernel, rfl, by decide +kernel, by decide +kernel⟩
theorem sc_how_many_pairs : FnScope ["known", "number", "guest", "other"] ["known"] (defScope s_how_many_pairs) := ⟨rfl, rfl, rfl, by decide +kernel, rfl, by decide +kernel, by decide +kernel⟩
theorem sc_after : FnScope ["n", "k", "l", "known", "turn"] ["n", "k", "l"] (defScope s_after) := ⟨rfl, rfl, rfl, by decide +kernel, rfl, by decide +kernel, by decide +kernel⟩
/-- what the top has written: constants, and that the built-ins are the built-ins -/
structure Txt (mg : Str → Option Value) : Prop where
  c_MOST_GUESTS : ∃ t, mg "MOST_GUESTS" = some (.int (8) t)
  c_MOST_PAIRS : ∃ t, mg "MOST_PAIRS" = some (.int (28) t)
  c_MOST_ROUNDS : ∃ t, mg "MOST_ROUNDS" = some (.int (5) t)
  c_REFUSED : ∃ t, mg "REFUSED" = some (.int (-22) t)
  z_len : mg "len" = none
  z_range : mg "range" = none
def spGuest : Sp := fun vs H Q _ => ∃ n g : Nat, vs = [.int (n : Int), .int (g : Int)] ∧ RetV (.bl (decide (g < n))) H Q
def spPair : Sp := fun vs H Q _ => ∃ n a b : Nat, vs = [.int (n : Int), .int (a : Int), .int (b : Int)] ∧ RetV (.bl (okPair n a b)) H Q
def spTold (K : PySem.W.Frag) : Sp := fun vs H Q _ => ∃ (n : Nat) (a : Addr) (l : List Nat), vs = [.int (n : Int), .ref a] ∧ SqL K H a (natsV l) ∧ l.length ≤ 60 ∧ RetV (.bl (Kzf1.good n l)) H Q
def spAcq (K : PySem.W.Frag) : Sp := fun vs H Q _ => ∃ (n : Nat) (a : Addr) (l : List Nat), vs = [.int (n : Int), .ref a] ∧ SqL K H a (natsV l) ∧ l.length ≤ 60 ∧ Kzf1.good n l = true ∧ RetL (rowsV n (net l)) H Q
def spKnow (K : PySem.W.Frag) : Sp := fun vs H Q _ => ∃ (a : Addr) (n : Nat) (g : Net) (i j : Nat), vs = [.ref a, .int (i : Int), .int (j : Int)] ∧ SqL K H a (rowsV n g) ∧ n ≤ 8 ∧ i < n ∧ j < n ∧ RetV (.bl (knows g i j)) H Q
def spCan (K : PySem.W.Frag) : Sp := fun vs H Q _ => ∃ (a : Addr) (n : Nat) (g : Net) (i j : Nat), vs = [.ref a, .int (i : Int), .int (j : Int)] ∧ SqL K H a (rowsV n g) ∧ n ≤ 8 ∧ i < n ∧ j < n ∧ RetV (.bl (can n g i j)) H Q
def spIntro (K : PySem.W.Frag) : Sp := fun vs H Q _ => ∃ (a : Addr) (n : Nat) (g : Net) (i : Nat), vs = [.ref a, .int (i : Int)] ∧ SqL K H a (rowsV n g) ∧ n ≤ 8 ∧ i < n ∧ RetV (.int ((maskP n (can n g i) : Nat) : Int)) H Q
def spRound (K : PySem.W.Frag) : Sp := fun vs H Q _ => ∃ (a : Addr) (n : Nat) (g : Net), vs = [.ref a] ∧ SqL K H a (rowsV n g) ∧ n ≤ 8 ∧ RetL (rowsV n (round n g)) H Q
def spHow (K : PySem.W.Frag) : Sp := fun vs H Q _ => ∃ (a : Addr) (n : Nat) (g : Net), vs = [.ref a] ∧ SqL K H a (rowsV n g) ∧ n ≤ 8 ∧ RetV (.int ((pairs n g : Nat) : Int)) H Q
def spAfter (K : PySem.W.Frag) : Sp := fun vs H Q _ => ∃ (n k : Nat) (a : Addr) (l : List Nat), vs = [.int (n : Int), .int (k : Int), .ref a] ∧ SqL K H a (natsV l) ∧ l.length ≤ 60 ∧ RetL ((PyKzf5.after n k (l.map fun (x : Nat) => (x : Int))).map V.int) H Q
section
variable {K : PySem.W.Frag} {H : Hp} {a : Addr} {n i j : Nat} {g : Net} {l : List Nat}
theorem v_guest {g : Nat} : SpV spGuest [.int (n : Int), .int (g : Int)] H (.bl (decide (g < n))) := spv_of fun H1 _ Q E q => ⟨n, g, rfl, q⟩
theorem v_pair {a b : Nat} : SpV spPair [.int (n : Int), .int (a : Int), .int (b : Int)] H (.bl (okPair n a b)) := spv_of fun H1 _ Q E q => ⟨n, a, b, rfl, q⟩
theorem v_told (h : SqL K H a (natsV l)) (hl : l.length ≤ 60) : SpV (spTold K) [.int (n : Int), .ref a] H (.bl (Kzf1.good n l)) := spv_of fun H1 e Q E q => ⟨n, a, l, rfl, ex_l e h, hl, q⟩
theorem v_acq (h : SqL K H a (natsV l)) (hl : l.length ≤ 60) (hg : Kzf1.good n l = true) : SpL (spAcq K) [.int (n : Int), .ref a] H (rowsV n (net l)) := spl_of fun H1 e Q E q => ⟨n, a, l, rfl, ex_l e h, hl, hg, q⟩
theorem v_know (h : SqL K H a (rowsV n g)) (hn : n ≤ 8) (hi : i < n) (hj : j < n) : SpV (spKnow K) [.ref a, .int (i : Int), .int (j : Int)] H (.bl (knows g i j)) := spv_of fun H1 e Q E q => ⟨a, n, g, i, j, rfl, ex_l e h, hn, hi, hj, q⟩
theorem v_can (h : SqL K H a (rowsV n g)) (hn : n ≤ 8) (hi : i < n) (hj : j < n) : SpV (spCan K) [.ref a, .int (i : Int), .int (j : Int)] H (.bl (can n g i j)) := spv_of fun H1 e Q E q => ⟨a, n, g, i, j, rfl, ex_l e h, hn, hi, hj, q⟩
theorem v_intro (h : SqL K H a (rowsV n g)) (hn : n ≤ 8) (hi : i < n) : SpV (spIntro K) [.ref a, .int (i : Int)] H (.int ((maskP n (can n g i) : Nat) : Int)) := spv_of fun H1 e Q E q => ⟨a, n, g, i, rfl, ex_l e h, hn, hi, q⟩
theorem v_round (h : SqL K H a (rowsV n g)) (hn : n ≤ 8) : SpL (spRound K) [.ref a] H (rowsV n (round n g)) := spl_of fun H1 e Q E q => ⟨a, n, g, rfl, ex_l e h, hn, q⟩
theorem v_how (h : SqL K H a (rowsV n g)) (hn : n ≤ 8) : SpV (spHow K) [.ref a] H (.int ((pairs n g : Nat) : Int)) := spv_of fun H1 e Q E q => ⟨a, n, g, rfl, ex_l e h, hn, q⟩
variable {σ : L2.St} {ta : TE}
theorem ev_lenR (ha : Ev ta σ H (.ref a)) (h : SqL K H a (rowsV n g)) : Ev (tCB (rLenS K) (tCons ta tNil)) σ H (.int (n : Int)) := ev_is (ev_len ha h) (by rw [rowsV_len])
theorem ev_lenNs (ha : Ev ta σ H (.ref a)) (h : SqL K H a (natsV l)) : Ev (tCB (rLenS K) (tCons ta tNil)) σ H (.int (l.length : Int)) := ev_is (ev_len ha h) (by rw [natsV_len])
end
section
variable {P : Program} {w : World} {K : PySem.W.Frag} {mg : Str → Option Value} {base : Heap}
theorem ok_is_a_guest {f : Addr} {fd : FuncData} (F : Fun K "is_a_guest" "is_a_guest" s_is_a_guest f fd) (T : Txt mg) : FnOk P w K mg base CX0 1 f fd ["n", "guest"] spGuest := by
  refine F.ok sc_is_a_guest (fun vs H Q E h => ?_) (fun cdv A outer s H vs Q E hr h => ?_)
  · obtain ⟨n, g, rfl, _⟩ := h
    rfl
  · obtain ⟨n, g, rfl, k⟩ := h
    refine ⟨_, (pss_one (ps_ret (pe_and (pe_cmpR op_ge (pv 1) pe_int (nomark _)) (pe_one (pe_cmpR op_lt (pv 1) (pv 0) (nomark _)))))), ?_⟩
    refine s_ret (ev_is (ev_andV (ev_op (ev_var rfl) ev_c rv_I0) fun _ => ev_op (ev_var rfl) (ev_var rfl) rv_I0) ?_) k
    rw [show decide ((0 : Int) ≤ (g : Int)) = true from decide_eq_true (by omega), Bool.true_and]
    congr 1
    rw [decide_eq_decide]
    omega
theorem ok_is_a_pair {f : Addr} {fd : FuncData} (F : Fun K "is_a_pair" "is_a_pair" s_is_a_pair f fd) (T : Txt mg) (h_is_a_guest : Has P w K mg base 1 "is_a_guest" s_is_a_guest ["n", "guest"] spGuest) : FnOk P w K mg base CX0 2 f fd ["n", "guest", "other"] spPair := by
  obtain ⟨f_is_a_guest, fd_is_a_guest, F_is_a_guest, b_is_a_guest, g_is_a_guest, G_is_a_guest⟩ := h_is_a_guest.ex
  refine F.ok sc_is_a_pair (fun vs H Q E h => ?_) (fun cdv A outer s H vs Q E hr h => ?_)
  · obtain ⟨n, a, b, rfl, _⟩ := h
    rfl
  · obtain ⟨n, a, b, rfl, k⟩ := h
    refine ⟨_, (pss_one (ps_ret (pe_and (pe_call G_is_a_guest (hr.mono (by decide)) rfl g_is_a_guest F_is_a_guest.kp b_is_a_guest .nil pass0 (pa_cons (pv 0) (pa_cons (pv 1) pa_nil))) (pe_and (pe_call G_is_a_guest (hr.mono (by decide)) rfl g_is_a_guest F_is_a_guest.kp b_is_a_guest .nil pass0 (pa_cons (pv 0) (pa_cons (pv 2) pa_nil))) (pe_one (pe_cmpR op_ne (pv 1) (pv 2) (nomark _))))))), ?_⟩
    refine s_ret (ev_is (ev_andV (ev_call (ea_cons (ev_var rfl) (ea_cons (ev_var rfl) ea_nil)) v_guest) fun _ => ev_andV (ev_call (ea_cons (ev_var rfl) (ea_cons (ev_var rfl) ea_nil)) v_guest) fun _ => ev_op (ev_var rfl) (ev_var rfl) (rv_ne rfl)) ?_) k
    unfold okPair
    rw [dec_int, Bool.and_assoc]
    congr 4
    rw [Bool.eq_iff_iff]
    simp
    omega
theorem ok_is_as_told {f : Addr} {fd : FuncData} (F : Fun K "is_as_told" "is_as_told" s_is_as_told f fd) (T : Txt mg) (h_is_a_pair : Has P w K mg base 2 "is_a_pair" s_is_a_pair ["n", "guest", "other"] spPair) : FnOk P w K mg base CX0 3 f fd ["n", "pairs"] (spTold K) := by
  obtain ⟨f_is_a_pair, fd_is_a_pair, F_is_a_pair, b_is_a_pair, g_is_a_pair, G_is_a_pair⟩ := h_is_a_pair.ex
  refine F.ok sc_is_as_told (fun vs H Q E h => ?_) (fun cdv A outer s H vs Q E hr h => ?_)
  · obtain ⟨n, a, l, rfl, _⟩ := h
    rfl
  · obtain ⟨n, a, l, rfl, hS, hl, k⟩ := h
    refine ⟨_, (pss_cons (ps_if (PW.pt (pw_or (pt_cmpR op_lt (pv 0) pe_int (nomark _)) (pw_or1 (pt_cmpR op_gt (pv 0) (pe_glob (v := .int (8)) rfl T.c_MOST_GUESTS.choose_spec ⟨_, rfl⟩) (nomark _)))))
      (pss_one (ps_ret pe_bl))
      pss_nil)
    (pss_cons (ps_if (PW.pt (pw_or (pt_cmpR op_ne (pe_op op_mod (pe_callB call_len_seq (by rfl) T.z_len PySem.boot_len (pa_cons (pv 1) pa_nil)) pe_int) pe_int (nomark _)) (pw_or1 (pt_cmpR op_gt (pe_callB call_len_seq (by rfl) T.z_len PySem.boot_len (pa_cons (pv 1) pa_nil)) (pe_op op_mul pe_int (pe_glob (v := .int (28)) rfl T.c_MOST_PAIRS.choose_spec ⟨_, rfl⟩)) (nomark _)))))
      (pss_one (ps_ret pe_bl))
      pss_nil)
    (pss_cons (ps_for PassesOwn.never rfl (pi_range3 (by rfl) T.z_range (pa_cons pe_int (pa_cons (pe_callB call_len_seq (by rfl) T.z_len PySem.boot_len (pa_cons (pv 1) pa_nil)) (pa_cons pe_int pa_nil)))) (pg_name (i := 2) sc_is_as_told.nd rfl (Or.inl rfl))
      (pss_one (ps_if (pt_not (pt_val (pe_call G_is_a_pair (hr.mono (by decide)) rfl g_is_a_pair F_is_a_pair.kp b_is_a_pair .nil pass0 (pa_cons (pv 0) (pa_cons (pe_ix ix_list (pv 1) (pv 2) (fun _ _ => rfl)) (pa_cons (pe_ix ix_list (pv 1) (pe_op op_add (pv 2) pe_int) (fun _ _ => rfl)) pa_nil))))))
        (pss_one (ps_ret pe_bl))
        pss_nil)))
    (pss_one (ps_ret pe_bl))))), ?_⟩
    refine q_when (et_or (et_test (ev_op (ev_var rfl) ev_c rv_I0)) fun _ => et_test (ev_op (ev_var rfl) ev_c rv_I0)) (fun hb H1 e1 => s_ret ev_c fun H2 e2 => ?_) (fun hb H1 e1 => ?_)
    · have z : Kzf1.good n l = false := by
        rw [Bool.eq_false_iff]
        intro q
        have q := good_iff.mp q
        simp at hb
        omega
      have := k.go (e1.trans e2)
      rw [z] at this
      exact this
    · simp at hb
      refine q_when (et_or (et_test (ev_op (ev_op (ev_lenNs (ev_var rfl) (ex_l e1 hS)) ev_c (rv_I (by decide))) ev_c (rv_ne rfl))) fun _ => et_test (ev_op (ev_lenNs (ev_var rfl) (ex_l e1 hS)) (ev_op ev_c ev_c (rv_I (Or.inl ⟨by decide, by decide⟩))) rv_I0)) (fun hb2 H2 e2 => s_ret ev_c fun H3 e3 => ?_) (fun hb2 H2 e2 => ?_)
      · have z : Kzf1.good n l = false := by
          rw [Bool.eq_false_iff]
          intro q
          have q := good_iff.mp q
          simp at hb2
          omega
        have := k.go ((e1.trans e2).trans e3)
        rw [z] at this
        exact this
      · simp at hb2
        have e12 := e1.trans e2
        refine q_forR3 (L := l.length) (ea_cons ev_c (ea_cons (ev_lenNs (ev_var rfl) (ex_l e12 hS)) (ea_cons ev_c ea_nil))) hl (by omega) (fun i σ' H' => Ex H H' ∧ (∃ v, σ' = [some (.int (n : Int)), some (.ref a), v]) ∧ ∀ t, t < i → okPair n (l.getD (2 * t) 0) (l.getD (2 * t + 1) 0) = true) ?_ ?_ ?_
        · exact fun H1 e => ⟨e12.trans e, ⟨_, rfl⟩, fun t ht => absurd ht (by omega)⟩
        · rintro i _ H' hi ⟨e', ⟨v, rfl⟩, hp⟩
          have hS' := ex_l e' hS
          refine s_when (et_not (et_B (ev_call (ea_cons (ev_var rfl) (ea_cons (ev_op (ev_var rfl) (ev_var rfl) (rv_ixL hS' (natsV_at (i := 2 * i) (by omega)))) (ea_cons (ev_op (ev_var rfl) (ev_op (ev_var rfl) ev_c rv_I0) (rv_ixL hS' (natsV_at (i := 2 * i + 1) (by omega)))) ea_nil))) v_pair))) (fun hb3 H3 e3 => s_ret ev_c fun H4 e4 => ?_) (fun hb3 H3 e3 => ?_)
          · have z : Kzf1.good n l = false := by
              rw [Bool.eq_false_iff]
              intro q
              have q := (good_iff.mp q).2.2.2.2 i hi
              rw [q] at hb3
              cases hb3
            have := k.go ((e'.trans e3).trans e4)
            rw [z] at this
            exact this
          · refine ⟨e'.trans e3, ⟨_, rfl⟩, fun t ht => ?_⟩
            by_cases c : t = i
            · subst c
              simpa using hb3
            · exact hp t (by omega)
        · rintro _ H' ⟨e', ⟨v, rfl⟩, hp⟩
          refine s_ret ev_c fun H3 e3 => ?_
          have z : Kzf1.good n l = true := good_iff.mpr ⟨by omega, by omega, by omega, by omega, fun t ht => hp t (by omega)⟩
          have := k.go (e'.trans e3)
          rw [z] at this
          exact this
theorem ok_acquaintances {f : Addr} {fd : FuncData} (F : Fun K "acquaintances" "acquaintances" s_acquaintances f fd) (T : Txt mg) : FnOk P w K mg base CX0 1 f fd ["n", "pairs"] (spAcq K) := by
  refine F.ok sc_acquaintances (fun vs H Q E h => ?_) (fun cdv A outer s H vs Q E hr h => ?_)
  · obtain ⟨n, a, l, rfl, _⟩ := h
    rfl
  · obtain ⟨n, a, l, rfl, hS, hl, hg, k⟩ := h
    obtain ⟨g0, g1, g2, g3, g4⟩ := good_iff.mp hg
    refine ⟨_, (pss_cons (ps_set (i := 2) sc_acquaintances.nd rfl (Or.inl rfl) (pe_op op_rep (pe_lst (pa_cons pe_int pa_nil)) (pv 0)))
    (pss_cons (ps_for PassesOwn.never rfl (pi_range3 (by rfl) T.z_range (pa_cons pe_int (pa_cons (pe_callB call_len_seq (by rfl) T.z_len PySem.boot_len (pa_cons (pv 1) pa_nil)) (pa_cons pe_int pa_nil)))) (pg_name (i := 3) sc_acquaintances.nd rfl (Or.inl rfl))
      (pss_cons (ps_set (i := 4) sc_acquaintances.nd rfl (Or.inl rfl) (pe_ix ix_list (pv 1) (pv 3) (fun _ _ => rfl)))
      (pss_cons (ps_set (i := 5) sc_acquaintances.nd rfl (Or.inl rfl) (pe_ix ix_list (pv 1) (pe_op op_add (pv 3) pe_int) (fun _ _ => rfl)))
      (pss_cons (ps_asg (pe_op op_or (pe_ix ix_list (pv 2) (pv 4) (fun _ _ => rfl)) (pe_op op_shl pe_int (pv 5))) (pg_sub (pv 2) (pv 4) set_list))
      (pss_one (ps_asg (pe_op op_or (pe_ix ix_list (pv 2) (pv 5) (fun _ _ => rfl)) (pe_op op_shl pe_int (pv 4))) (pg_sub (pv 2) (pv 5) set_list)))))))
    (pss_one (ps_ret (pv 2))))), ?_⟩
    refine q_asgL (el_rep (k := n) (el_lst (ea_cons ev_c ea_nil) (by decide)) (fun H1 e => ev_var rfl) (by omega)) fun kn H1 hkn e1 h1 => ?_
    rw [rows_nil] at h1
    refine q_forR3 (L := l.length) (ea_cons ev_c (ea_cons (ev_lenNs (ev_var rfl) (ex_l e1 hS)) (ea_cons ev_c ea_nil))) hl (by omega) (fun i σ' H' => Ex H H' ∧ H' kn = some (.lst (rowsV n ((net l).take i))) ∧ ∃ v3 v4 v5, σ' = [some (.int (n : Int)), some (.ref a), some (.ref kn), v3, v4, v5]) ?_ ?_ ?_
    · exact fun H2 e => ⟨e1.trans e, e _ _ h1, _, _, _, rfl⟩
    · rintro i _ H' hi ⟨e', hK, v3, v4, v5, rfl⟩
      have hS' := ex_l e' hS
      have hp := g4 i hi
      unfold okPair at hp
      simp only [Bool.and_eq_true, decide_eq_true_eq, bne_iff_ne, ne_eq] at hp
      obtain ⟨⟨ha, hb⟩, hab⟩ := hp
      have hnet := net_get l i (by omega)
      generalize hx : l.getD (2 * i) 0 = x at ha hab hnet
      generalize hy : l.getD (2 * i + 1) 0 = y at hb hab hnet
      have ax : atI (natsV l) ((2 * i : Nat) : Int) = some (.int (x : Int)) := by rw [← hx]; exact natsV_at (by omega)
      have ay : atI (natsV l) ((2 * i + 1 : Nat) : Int) = some (.int (y : Int)) := by rw [← hy]; exact natsV_at (by omega)
      refine q_asg (ev_op (ev_var rfl) (ev_var rfl) (rv_ixL hS' ax)) fun H2 e2 => ?_
      have hS2 := ex_l e2 hS'
      refine q_asg (ev_op (ev_var rfl) (ev_op (ev_var rfl) ev_c rv_I0) (rv_ixL hS2 ay)) fun H3 e3 => ?_
      have hK3 := e3 _ _ (e2 _ _ hK)
      refine q_setL (j := x) (l := kn) hK3 (ev_is (ev_op (ev_op (ev_var rfl) (ev_var rfl) (rv_ixL (sq_of hK3) (rowsV_at ha))) (ev_op ev_c (ev_var rfl) (rv_I ⟨by omega, by omega, by decide⟩)) rv_I0) (by rw [pow_nat, or_nat])) (ev_var rfl) (ev_var rfl) (by rw [rowsV_len]; exact ha) fun H4 e4 => ?_
      refine s_setL (j := y) (l := kn) upd_same (ev_is (ev_op (ev_op (ev_var rfl) (ev_var rfl) (rv_ixL (sq_of upd_same) (rows_set_at hb hab))) (ev_op ev_c (ev_var rfl) (rv_I ⟨by omega, by omega, by decide⟩)) rv_I0) (by rw [pow_nat, or_nat])) (ev_var rfl) (ev_var rfl) (by rw [List.length_set, rowsV_len]; exact hb) fun H5 e5 => ?_
      refine ⟨Ex.mut (fun b o q => e5 _ _ (Ex.mut ((e'.trans e2).trans (e3.trans e4)) hkn b o q)) hkn, ?_, _, _, _, rfl⟩
      rw [upd_same, rows_tell ha hb hab, List.take_add_one, hnet]
      rfl
    · rintro _ H' ⟨e', hK, v3, v4, v5, rfl⟩
      rw [List.take_of_length_le (by rw [net_length]; omega)] at hK
      exact s_ret (ev_var rfl) fun H2 e2 => k kn H2 hkn (e'.trans e2) (e2 _ _ hK)
theorem ok_know_one_another {f : Addr} {fd : FuncData} (F : Fun K "know_one_another" "know_one_another" s_know_one_another f fd) (T : Txt mg) : FnOk P w K mg base CX0 1 f fd ["known", "guest", "other"] (spKnow K) := by
  refine F.ok sc_know_one_another (fun vs H Q E h => ?_) (fun cdv A outer s H vs Q E hr h => ?_)
  · obtain ⟨a, n, g, i, j, rfl, _⟩ := h
    rfl
  · obtain ⟨a, n, g, i, j, rfl, hS, hn, hi, hj, k⟩ := h
    refine ⟨_, (pss_one (ps_ret (pe_cmpR op_eq (pe_op op_and (pe_op op_shr (pe_ix ix_list (pv 0) (pv 1) (fun _ _ => rfl)) (pv 2)) pe_int) pe_int (nomark _)))), ?_⟩
    refine s_ret (ev_is (ev_op (ev_op (ev_op (ev_op (ev_var rfl) (ev_var rfl) (rv_ixL hS (rowsV_at hi))) (ev_var rfl) (rv_I (by omega))) ev_c rv_I0) ev_c (rv_eq rfl)) ?_) k
    rw [bit_nat, maskP_bit, decide_eq_true hj, Bool.true_and]
theorem ok_can_be_introduced {f : Addr} {fd : FuncData} (F : Fun K "can_be_introduced" "can_be_introduced" s_can_be_introduced f fd) (T : Txt mg) (h_know_one_another : Has P w K mg base 1 "know_one_another" s_know_one_another ["known", "guest", "other"] (spKnow K)) : FnOk P w K mg base CX0 2 f fd ["known", "guest", "other"] (spCan K) := by
  obtain ⟨f_know_one_another, fd_know_one_another, F_know_one_another, b_know_one_another, g_know_one_another, G_know_one_another⟩ := h_know_one_another.ex
  refine F.ok sc_can_be_introduced (fun vs H Q E h => ?_) (fun cdv A outer s H vs Q E hr h => ?_)
  · obtain ⟨a, n, g, i, j, rfl, _⟩ := h
    rfl
  · obtain ⟨a, n, g, i, j, rfl, hS, hn, hi, hj, k⟩ := h
    refine ⟨_, (pss_cons (ps_if (PW.pt (pw_or (pt_cmpR op_eq (pv 1) (pv 2) (nomark _)) (pw_or1 (pt_val (pe_call G_know_one_another (hr.mono (by decide)) rfl g_know_one_another F_know_one_another.kp b_know_one_another .nil pass0 (pa_cons (pv 0) (pa_cons (pv 1) (pa_cons (pv 2) pa_nil))))))))
      (pss_one (ps_ret pe_bl))
      pss_nil)
    (pss_one (ps_ret (pe_cmpR op_ne (pe_op op_and (pe_ix ix_list (pv 0) (pv 1) (fun _ _ => rfl)) (pe_ix ix_list (pv 0) (pv 2) (fun _ _ => rfl))) pe_int (nomark _))))), ?_⟩
    refine q_when (et_or (et_test (ev_op (ev_var rfl) (ev_var rfl) (rv_eq rfl))) fun _ => et_B (ev_call (ea_cons (ev_var rfl) (ea_cons (ev_var rfl) (ea_cons (ev_var rfl) ea_nil))) (v_know hS hn hi hj))) (fun hb H1 e1 => s_ret ev_c fun H2 e2 => ?_) (fun hb H1 e1 => ?_)
    · have z : can n g i j = false := by
        unfold can
        rw [dec_int] at hb
        simp only [Bool.or_eq_true, beq_iff_eq] at hb
        rcases hb with hb | hb
        · have : i = j := by omega
          simp [this]
        · simp [hb]
      have := k.go (e1.trans e2)
      rw [z] at this
      exact this
    · rw [dec_int] at hb
      simp only [Bool.or_eq_false_iff, beq_eq_false_iff_ne, ne_eq] at hb
      refine s_ret (ev_is (ev_op (ev_op (ev_op (ev_var rfl) (ev_var rfl) (rv_ixL (ex_l e1 hS) (rowsV_at hi))) (ev_op (ev_var rfl) (ev_var rfl) (rv_ixL (ex_l e1 hS) (rowsV_at hj))) rv_I0) ev_c (rv_ne rfl)) ?_) (fun H2 e2 => k.go (e1.trans e2))
      rw [dec_int, and_nat]
      have ne : (i != j) = true := by simp; omega
      unfold can
      rw [ne, hb.2]
      have q := row_and (n := n) (g := g) (i := i) (j := j)
      congr 1
      rw [Bool.eq_iff_iff]
      by_cases c : maskP n (knows g i) &&& maskP n (knows g j) = 0
      · simp [c, q.mp c]
      · have : (List.range n).any (fun k => knows g i k && knows g j k) = true := by
          cases z : (List.range n).any (fun k => knows g i k && knows g j k) with
          | true => rfl
          | false => exact absurd (q.mpr z) c
        rw [this]
        simp
        omega
theorem ok_introduced_to {f : Addr} {fd : FuncData} (F : Fun K "introduced_to" "introduced_to" s_introduced_to f fd) (T : Txt mg) (h_can_be_introduced : Has P w K mg base 2 "can_be_introduced" s_can_be_introduced ["known", "guest", "other"] (spCan K)) : FnOk P w K mg base CX0 3 f fd ["known", "guest"] (spIntro K) := by
  obtain ⟨f_can_be_introduced, fd_can_be_introduced, F_can_be_introduced, b_can_be_introduced, g_can_be_introduced, G_can_be_introduced⟩ := h_can_be_introduced.ex
  refine F.ok sc_introduced_to (fun vs H Q E h => ?_) (fun cdv A outer s H vs Q E hr h => ?_)
  · obtain ⟨a, n, g, i, rfl, _⟩ := h
    rfl
  · obtain ⟨a, n, g, i, rfl, hS, hn, hi, k⟩ := h
    refine ⟨_, (pss_cons (ps_set (i := 2) sc_introduced_to.nd rfl (Or.inl rfl) pe_int)
    (pss_cons (ps_for PassesOwn.never rfl (pi_range1 (by rfl) T.z_range (pa_cons (pe_callB call_len_seq (by rfl) T.z_len PySem.boot_len (pa_cons (pv 0) pa_nil)) pa_nil)) (pg_name (i := 3) sc_introduced_to.nd rfl (Or.inl rfl))
      (pss_one (ps_if (pt_val (pe_call G_can_be_introduced (hr.mono (by decide)) rfl g_can_be_introduced F_can_be_introduced.kp b_can_be_introduced .nil pass0 (pa_cons (pv 0) (pa_cons (pv 1) (pa_cons (pv 3) pa_nil)))))
        (pss_one (ps_set (i := 2) sc_introduced_to.nd rfl (Or.inl rfl) (pe_op op_or (pv 2) (pe_op op_shl pe_int (pv 3)))))
        pss_nil)))
    (pss_one (ps_ret (pv 2))))), ?_⟩
    refine q_asg ev_c fun H1 e1 => ?_
    refine q_forN (n := n) (ea_cons (ev_lenR (ev_var rfl) (ex_l e1 hS)) ea_nil) (by omega) (fun t σ' H' => Ex H H' ∧ ∃ v, σ' = [some (.ref a), some (.int (i : Int)), some (.int ((maskP t (can n g i) : Nat) : Int)), v]) ?_ ?_ ?_
    · exact fun H2 e => ⟨e1.trans e, _, rfl⟩
    · rintro t _ H' ht ⟨e', v, rfl⟩
      refine s_when (et_B (ev_call (ea_cons (ev_var rfl) (ea_cons (ev_var rfl) (ea_cons (ev_var rfl) ea_nil))) (v_can (ex_l e' hS) hn hi ht))) (fun hb H2 e2 => ?_) (fun hb H2 e2 => ?_)
      · refine s_asg (ev_is (ev_op (ev_var rfl) (ev_op ev_c (ev_var rfl) (rv_I ⟨by omega, by omega, by decide⟩)) rv_I0) (by rw [pow_nat, or_nat])) fun H3 e3 => ?_
        refine ⟨(e'.trans e2).trans e3, some (.int (t : Int)), ?_⟩
        rw [maskP_succ_or, if_pos hb]
        rfl
      · refine ⟨e'.trans e2, some (.int (t : Int)), ?_⟩
        rw [maskP_succ_or, if_neg (by rw [hb]; decide)]
        rfl
    · rintro _ H' ⟨e', v, rfl⟩
      exact s_ret (ev_var rfl) fun H2 e2 => k.go (e'.trans e2)
theorem ok_behind_a_round {f : Addr} {fd : FuncData} (F : Fun K "behind_a_round" "behind_a_round" s_behind_a_round f fd) (T : Txt mg) (h_introduced_to : Has P w K mg base 3 "introduced_to" s_introduced_to ["known", "guest"] (spIntro K)) : FnOk P w K mg base CX0 4 f fd ["known"] (spRound K) := by
  obtain ⟨f_introduced_to, fd_introduced_to, F_introduced_to, b_introduced_to, g_introduced_to, G_introduced_to⟩ := h_introduced_to.ex
  refine F.ok sc_behind_a_round (fun vs H Q E h => ?_) (fun cdv A outer s H vs Q E hr h => ?_)
  · obtain ⟨a, n, g, rfl, _⟩ := h
    rfl
  · obtain ⟨a, n, g, rfl, hS, hn, k⟩ := h
    refine ⟨_, (pss_cons (ps_set (i := 1) sc_behind_a_round.nd rfl (Or.inl rfl) (pe_lst pa_nil))
    (pss_cons (ps_for PassesOwn.never rfl (pi_range1 (by rfl) T.z_range (pa_cons (pe_callB call_len_seq (by rfl) T.z_len PySem.boot_len (pa_cons (pv 0) pa_nil)) pa_nil)) (pg_name (i := 2) sc_behind_a_round.nd rfl (Or.inl rfl))
      (pss_one (ps_expr (pe_bm PySem.F.plainAttrs_list PySem.F.slot_list_append PySem.F.type_list_append mt_append (pv 1) (pa_cons (pe_op op_or (pe_ix ix_list (pv 0) (pv 2) (fun _ _ => rfl)) (pe_call G_introduced_to (hr.mono (by decide)) rfl g_introduced_to F_introduced_to.kp b_introduced_to .nil pass0 (pa_cons (pv 0) (pa_cons (pv 2) pa_nil)))) pa_nil)))))
    (pss_one (ps_ret (pv 1))))), ?_⟩
    refine q_asgL (el_lst ea_nil (by decide)) fun lt H1 hlt e1 h1 => ?_
    refine q_forN (n := n) (ea_cons (ev_lenR (ev_var rfl) (ex_l e1 hS)) ea_nil) (by omega) (fun t σ' H' => Ex H H' ∧ H' lt = some (.lst ((rowsV n (round n g)).take t)) ∧ ∃ v, σ' = [some (.ref a), some (.ref lt), v]) ?_ ?_ ?_
    · exact fun H2 e => ⟨e1.trans e, e _ _ h1, _, rfl⟩
    · rintro t _ H' ht ⟨e', hL, v, rfl⟩
      have hS' := ex_l e' hS
      refine s_app hL (ev_var rfl) (ev_is (ev_op (ev_op (ev_var rfl) (ev_var rfl) (rv_ixL hS' (rowsV_at ht))) (ev_call (ea_cons (ev_var rfl) (ea_cons (ev_var rfl) ea_nil)) (v_intro hS' hn ht)) rv_I0) (by rw [or_nat, row_round ht])) (by rw [List.length_take]; omega) fun H2 e2 => ?_
      refine ⟨Ex.mut (e'.trans e2) hlt, ?_, _, rfl⟩
      rw [upd_same, rows_take ht]
    · rintro _ H' ⟨e', hL, v, rfl⟩
      rw [List.take_of_length_le (by rw [rowsV_len]; omega)] at hL
      exact s_ret (ev_var rfl) fun H2 e2 => k lt H2 hlt (e'.trans e2) (e2 _ _ hL)
theorem ok_how_many_pairs {f : Addr} {fd : FuncData} (F : Fun K "how_many_pairs" "how_many_pairs" s_how_many_pairs f fd) (T : Txt mg) (h_know_one_another : Has P w K mg base 1 "know_one_another" s_know_one_another ["known", "guest", "other"] (spKnow K)) : FnOk P w K mg base CX0 2 f fd ["known"] (spHow K) := by
  obtain ⟨f_know_one_another, fd_know_one_another, F_know_one_another, b_know_one_another, g_know_one_another, G_know_one_another⟩ := h_know_one_another.ex
  refine F.ok sc_how_many_pairs (fun vs H Q E h => ?_) (fun cdv A outer s H vs Q E hr h => ?_)
  · obtain ⟨a, n, g, rfl, _⟩ := h
    rfl
  · obtain ⟨a, n, g, rfl, hS, hn, k⟩ := h
    refine ⟨_, (pss_cons (ps_set (i := 1) sc_how_many_pairs.nd rfl (Or.inl rfl) pe_int)
    (pss_cons (ps_for PassesOwn.never rfl (pi_range1 (by rfl) T.z_range (pa_cons (pe_callB call_len_seq (by rfl) T.z_len PySem.boot_len (pa_cons (pv 0) pa_nil)) pa_nil)) (pg_name (i := 2) sc_how_many_pairs.nd rfl (Or.inl rfl))
      (pss_one (ps_for PassesOwn.never rfl (pi_range1 (by rfl) T.z_range (pa_cons (pv 2) pa_nil)) (pg_name (i := 3) sc_how_many_pairs.nd rfl (Or.inl rfl))
        (pss_one (ps_if (pt_val (pe_call G_know_one_another (hr.mono (by decide)) rfl g_know_one_another F_know_one_another.kp b_know_one_another .nil pass0 (pa_cons (pv 0) (pa_cons (pv 2) (pa_cons (pv 3) pa_nil)))))
          (pss_one (ps_set (i := 1) sc_how_many_pairs.nd rfl (Or.inl rfl) (pe_op op_add (pv 1) pe_int)))
          pss_nil)))))
    (pss_one (ps_ret (pv 1))))), ?_⟩
    refine q_asg ev_c fun H1 e1 => ?_
    refine q_forN (n := n) (ea_cons (ev_lenR (ev_var rfl) (ex_l e1 hS)) ea_nil) (by omega) (fun t σ' H' => Ex H H' ∧ ∃ v2 v3, σ' = [some (.ref a), some (.int ((below g t : Nat) : Int)), v2, v3]) ?_ ?_ ?_
    · exact fun H2 e => ⟨e1.trans e, _, _, rfl⟩
    · rintro t _ H' ht ⟨e', v2, v3, rfl⟩
      refine s_forN (n := t) (ea_cons (ev_var rfl) ea_nil) (by omega) (fun u σ' H' => Ex H H' ∧ ∃ v3, σ' = [some (.ref a), some (.int ((below g t + ((List.range u).filter (knows g t)).length : Nat) : Int)), some (.int (t : Int)), v3]) ?_ ?_ ?_
      · exact fun H2 e => ⟨e'.trans e, _, rfl⟩
      · rintro u _ H'' hu ⟨e'', v3, rfl⟩
        refine s_when (et_B (ev_call (ea_cons (ev_var rfl) (ea_cons (ev_var rfl) (ea_cons (ev_var rfl) ea_nil))) (v_know (ex_l e'' hS) hn ht (by omega)))) (fun hb H2 e2 => ?_) (fun hb H2 e2 => ?_)
        · refine s_asg (ev_op (ev_var rfl) ev_c rv_I0) fun H3 e3 => ?_
          refine ⟨(e''.trans e2).trans e3, some (.int (u : Int)), ?_⟩
          rw [List.range_succ, List.filter_append, List.filter_cons, if_pos hb, List.length_append]
          rfl
        · refine ⟨e''.trans e2, some (.int (u : Int)), ?_⟩
          rw [List.range_succ, List.filter_append, List.filter_cons, if_neg (by rw [hb]; decide), List.length_append]
          rfl
      · rintro _ H'' ⟨e'', v3, rfl⟩
        refine ⟨e'', some (.int (t : Int)), v3, ?_⟩
        rw [below_succ]
    · rintro _ H' ⟨e', v2, v3, rfl⟩
      refine s_ret (ev_var rfl) fun H2 e2 => ?_
      have := k.go (e'.trans e2)
      rw [pairs_below] at this
      exact this
theorem after_out {n : Nat} : ∀ (k : Nat) (g : Net), after n g (k + 1) = round n (after n g k)
  | 0, _ => rfl
  | k + 1, g => by
    show after n (round n g) (k + 1) = round n (after n (round n g) k)
    exact after_out k (round n g)
theorem ans_ref {n k : Nat} {l : List Nat} (h : Kzf1.good n l = false ∨ 5 < k) : (PyKzf5.after n k (l.map fun (x : Nat) => (x : Int))).map V.int = [V.int (-22)] := by
  unfold PyKzf5.after Kzf5Neutral.f Kzf5Neutral.callOf Kzf5Neutral.natsOf
  simp only [List.map_map]
  have e : (l.map (Int.toNat ∘ fun (x : Nat) => (x : Int))) = l := by
    conv => rhs; rw [← List.map_id l]
    apply List.map_congr_left
    intro x _
    rfl
  rw [e]
  simp only [Int.toNat_natCast]
  show (let a := (if Kzf1.good n l = false ∨ 5 < k then Kzf1.say (-22) else _); (a.value :: Kzf5Neutral.ints a.nums : List Int)).map V.int = _
  rw [if_pos h]
  rfl
theorem ans_ok {n k : Nat} {l : List Nat} (h : ¬ (Kzf1.good n l = false ∨ 5 < k)) : (PyKzf5.after n k (l.map fun (x : Nat) => (x : Int))).map V.int = [V.int ((pairs n (after n (net l) k) : Nat) : Int)] ++ rowsV n (after n (net l) k) := by
  unfold PyKzf5.after Kzf5Neutral.f Kzf5Neutral.callOf Kzf5Neutral.natsOf
  simp only [List.map_map]
  have e : (l.map (Int.toNat ∘ fun (x : Nat) => (x : Int))) = l := by
    conv => rhs; rw [← List.map_id l]
    apply List.map_congr_left
    intro x _
    rfl
  rw [e]
  simp only [Int.toNat_natCast]
  show (let a := (if Kzf1.good n l = false ∨ 5 < k then Kzf1.say (-22) else ⟨((pairs n (after n (net l) k) : Nat) : Int), (List.range n).map (rowOf n (after n (net l) k))⟩); (a.value :: Kzf5Neutral.ints a.nums : List Int)).map V.int = _
  rw [if_neg h]
  show V.int _ :: _ = V.int _ :: _
  congr 1
  unfold Kzf5Neutral.ints rowsV
  rw [List.map_map, List.map_map]
  rfl
theorem ok_after {f : Addr} {fd : FuncData} (F : Fun K "after" "after" s_after f fd) (T : Txt mg) (h_acquaintances : Has P w K mg base 1 "acquaintances" s_acquaintances ["n", "pairs"] (spAcq K)) (h_behind_a_round : Has P w K mg base 4 "behind_a_round" s_behind_a_round ["known"] (spRound K)) (h_is_as_told : Has P w K mg base 3 "is_as_told" s_is_as_told ["n", "pairs"] (spTold K)) (h_how_many_pairs : Has P w K mg base 2 "how_many_pairs" s_how_many_pairs ["known"] (spHow K)) : FnOk P w K mg base CX0 5 f fd ["n", "k", "l"] (spAfter K) := by
  obtain ⟨f_acquaintances, fd_acquaintances, F_acquaintances, b_acquaintances, g_acquaintances, G_acquaintances⟩ := h_acquaintances.ex
  obtain ⟨f_behind_a_round, fd_behind_a_round, F_behind_a_round, b_behind_a_round, g_behind_a_round, G_behind_a_round⟩ := h_behind_a_round.ex
  obtain ⟨f_is_as_told, fd_is_as_told, F_is_as_told, b_is_as_told, g_is_as_told, G_is_as_told⟩ := h_is_as_told.ex
  obtain ⟨f_how_many_pairs, fd_how_many_pairs, F_how_many_pairs, b_how_many_pairs, g_how_many_pairs, G_how_many_pairs⟩ := h_how_many_pairs.ex
  refine F.ok sc_after (fun vs H Q E h => ?_) (fun cdv A outer s H vs Q E hr h => ?_)
  · obtain ⟨n, k, a, l, rfl, _⟩ := h
    rfl
  · obtain ⟨n, k, a, l, rfl, hS, hl, q⟩ := h
    refine ⟨_, (pss_cons (ps_if (PW.pt (pw_or (pt_not (pt_val (pe_call G_is_as_told (hr.mono (by decide)) rfl g_is_as_told F_is_as_told.kp b_is_as_told .nil pass0 (pa_cons (pv 0) (pa_cons (pv 2) pa_nil))))) (pw_or (pt_cmpR op_lt (pv 1) pe_int (nomark _)) (pw_or1 (pt_cmpR op_gt (pv 1) (pe_glob (v := .int (5)) rfl T.c_MOST_ROUNDS.choose_spec ⟨_, rfl⟩) (nomark _))))))
      (pss_one (ps_ret (pe_lst (pa_cons (pe_glob (v := .int (-22)) rfl T.c_REFUSED.choose_spec ⟨_, rfl⟩) pa_nil))))
      pss_nil)
    (pss_cons (ps_set (i := 3) sc_after.nd rfl (Or.inl rfl) (pe_call G_acquaintances (hr.mono (by decide)) rfl g_acquaintances F_acquaintances.kp b_acquaintances .nil pass0 (pa_cons (pv 0) (pa_cons (pv 2) pa_nil))))
    (pss_cons (ps_for PassesOwn.never rfl (pi_range1 (by rfl) T.z_range (pa_cons (pv 1) pa_nil)) (pg_name (i := 4) sc_after.nd rfl (Or.inl rfl))
      (pss_one (ps_set (i := 3) sc_after.nd rfl (Or.inl rfl) (pe_call G_behind_a_round (hr.mono (by decide)) rfl g_behind_a_round F_behind_a_round.kp b_behind_a_round .nil pass0 (pa_cons (pv 3) pa_nil)))))
    (pss_one (ps_ret (pe_op op_cat (pe_lst (pa_cons (pe_call G_how_many_pairs (hr.mono (by decide)) rfl g_how_many_pairs F_how_many_pairs.kp b_how_many_pairs .nil pass0 (pa_cons (pv 3) pa_nil)) pa_nil)) (pv 3))))))), ?_⟩
    refine q_when (et_or (et_not (et_B (ev_call (ea_cons (ev_var rfl) (ea_cons (ev_var rfl) ea_nil)) (v_told hS hl)))) fun _ => et_or (et_test (ev_op (ev_var rfl) ev_c rv_I0)) fun _ => et_test (ev_op (ev_var rfl) ev_c rv_I0)) (fun hb H1 e1 => ?_) (fun hb H1 e1 => ?_)
    · refine s_retL (el_lst (ea_cons ev_c ea_nil) (by decide)) fun p H2 hp e2 h2 => ?_
      have z : Kzf1.good n l = false ∨ 5 < k := by
        simp only [Bool.or_eq_true, Bool.not_eq_true', decide_eq_true_eq] at hb
        rcases hb with h | h | h
        · exact .inl h
        · omega
        · exact .inr (by omega)
      rw [ans_ref z] at q
      exact q.go e1 hp e2 h2
    · have z : ¬ (Kzf1.good n l = false ∨ 5 < k) := by
        simp at hb
        rw [hb.1]
        simp
        omega
      have hg : Kzf1.good n l = true := by
        cases c : Kzf1.good n l with
        | true => rfl
        | false => exact absurd (Or.inl c) z
      have hk : k ≤ 5 := by omega
      have hn : n ≤ 8 := (good_iff.mp hg).2.2.1
      rw [ans_ok z] at q
      refine q_asgL (el_call (ea_cons (ev_var rfl) (ea_cons (ev_var rfl) ea_nil)) (v_acq (ex_l e1 hS) hl hg)) fun kn H2 hkn e2 h2 => ?_
      refine q_forN (n := k) (ea_cons (ev_var rfl) ea_nil) (by omega) (fun t σ' H' => Ex H H' ∧ ∃ c v, H' c = some (.lst (rowsV n (after n (net l) t))) ∧ σ' = [some (.int (n : Int)), some (.int (k : Int)), some (.ref a), some (.ref c), v]) ?_ ?_ ?_
      · exact fun H3 e => ⟨(e1.trans e2).trans e, kn, _, e _ _ h2, rfl⟩
      · rintro t _ H' ht ⟨e', c, v, hc, rfl⟩
        refine s_asgL (el_call (ea_cons (ev_var rfl) ea_nil) (v_round (sq_of hc) hn)) fun p H3 hp e3 h3 => ?_
        refine ⟨e'.trans e3, p, _, ?_, rfl⟩
        rw [after_out]
        exact h3
      · rintro _ H' ⟨e', c, v, hc, rfl⟩
        refine s_retL (el_cat (el_lst (ea_cons (ev_call (ea_cons (ev_var rfl) ea_nil) (v_how (sq_of hc) hn)) ea_nil) (by show 1 ≤ 100000; decide)) (fun H1 e => ev_var rfl) hc (by rw [rowsV_len]; simp; omega)) fun p H2 hp e2 h2 => ?_
        exact q.go e' hp e2 h2
end
theorem all_mk {P : Program} {w : World} {K : PySem.W.Frag} {h : Heap} {mg : Str → Option Value} {fa f_acquaintances f_know_one_another f_can_be_introduced f_introduced_to f_behind_a_round f_is_a_guest f_is_a_pair f_is_as_told f_how_many_pairs f_after : Addr} (X : K.In h) (G : h.Ns mainGlobals mg) (hfa : mg "after" = some (.ref fa))
    {od_acquaintances an_acquaintances od_know_one_another an_know_one_another od_can_be_introduced an_can_be_introduced od_introduced_to an_introduced_to od_behind_a_round an_behind_a_round od_is_a_guest an_is_a_guest od_is_a_pair an_is_a_pair od_is_as_told an_is_as_told od_how_many_pairs an_how_many_pairs od_after an_after : Option Addr} {sl_acquaintances sl_know_one_another sl_can_be_introduced sl_introduced_to sl_behind_a_round sl_is_a_guest sl_is_a_pair sl_is_as_told sl_how_many_pairs sl_after : Array (Option Value)} {oc_acquaintances kV_acquaintances dc_acquaintances pm_acquaintances cd_acquaintances ct_acquaintances oc_know_one_another kV_know_one_another dc_know_one_another pm_know_one_another cd_know_one_another ct_know_one_another oc_can_be_introduced kV_can_be_introduced dc_can_be_introduced pm_can_be_introduced cd_can_be_introduced ct_can_be_introduced oc_introduced_to kV_introduced_to dc_introduced_to pm_introduced_to cd_introduced_to ct_introduced_to oc_behind_a_round kV_behind_a_round dc_behind_a_round pm_behind_a_round cd_behind_a_round ct_behind_a_round oc_is_a_guest kV_is_a_guest dc_is_a_guest pm_is_a_guest cd_is_a_guest ct_is_a_guest oc_is_a_pair kV_is_a_pair dc_is_a_pair pm_is_a_pair cd_is_a_pair ct_is_a_pair oc_is_as_told kV_is_as_told dc_is_as_told pm_is_as_told cd_is_as_told ct_is_as_told oc_how_many_pairs kV_how_many_pairs dc_how_many_pairs pm_how_many_pairs cd_how_many_pairs ct_how_many_pairs oc_after kV_after dc_after pm_after cd_after ct_after : Value} {t_MOST_GUESTS t_MOST_PAIRS t_MOST_ROUNDS t_REFUSED : Tok}
    (a_acquaintances : PySem.W.nsIn K mainGlobals "acquaintances" = some (some (.ref f_acquaintances))) (l_acquaintances : K.lookup f_acquaintances = some ⟨oc_acquaintances, od_acquaintances, .func (PySem.W.fnOf "acquaintances" "acquaintances" (defArgs s_acquaintances) (defBody s_acquaintances) (defScope s_acquaintances) .none kV_acquaintances dc_acquaintances pm_acquaintances an_acquaintances cd_acquaintances ct_acquaintances), sl_acquaintances⟩) (c_acquaintances : PySem.W.codeIn K cd_acquaintances "acquaintances" = true) (k_acquaintances : PySem.W.keepIn K (.ref f_acquaintances) = true)
    (a_know_one_another : PySem.W.nsIn K mainGlobals "know_one_another" = some (some (.ref f_know_one_another))) (l_know_one_another : K.lookup f_know_one_another = some ⟨oc_know_one_another, od_know_one_another, .func (PySem.W.fnOf "know_one_another" "know_one_another" (defArgs s_know_one_another) (defBody s_know_one_another) (defScope s_know_one_another) .none kV_know_one_another dc_know_one_another pm_know_one_another an_know_one_another cd_know_one_another ct_know_one_another), sl_know_one_another⟩) (c_know_one_another : PySem.W.codeIn K cd_know_one_another "know_one_another" = true) (k_know_one_another : PySem.W.keepIn K (.ref f_know_one_another) = true)
    (a_can_be_introduced : PySem.W.nsIn K mainGlobals "can_be_introduced" = some (some (.ref f_can_be_introduced))) (l_can_be_introduced : K.lookup f_can_be_introduced = some ⟨oc_can_be_introduced, od_can_be_introduced, .func (PySem.W.fnOf "can_be_introduced" "can_be_introduced" (defArgs s_can_be_introduced) (defBody s_can_be_introduced) (defScope s_can_be_introduced) .none kV_can_be_introduced dc_can_be_introduced pm_can_be_introduced an_can_be_introduced cd_can_be_introduced ct_can_be_introduced), sl_can_be_introduced⟩) (c_can_be_introduced : PySem.W.codeIn K cd_can_be_introduced "can_be_introduced" = true) (k_can_be_introduced : PySem.W.keepIn K (.ref f_can_be_introduced) = true)
    (a_introduced_to : PySem.W.nsIn K mainGlobals "introduced_to" = some (some (.ref f_introduced_to))) (l_introduced_to : K.lookup f_introduced_to = some ⟨oc_introduced_to, od_introduced_to, .func (PySem.W.fnOf "introduced_to" "introduced_to" (defArgs s_introduced_to) (defBody s_introduced_to) (defScope s_introduced_to) .none kV_introduced_to dc_introduced_to pm_introduced_to an_introduced_to cd_introduced_to ct_introduced_to), sl_introduced_to⟩) (c_introduced_to : PySem.W.codeIn K cd_introduced_to "introduced_to" = true) (k_introduced_to : PySem.W.keepIn K (.ref f_introduced_to) = true)
    (a_behind_a_round : PySem.W.nsIn K mainGlobals "behind_a_round" = some (some (.ref f_behind_a_round))) (l_behind_a_round : K.lookup f_behind_a_round = some ⟨oc_behind_a_round, od_behind_a_round, .func (PySem.W.fnOf "behind_a_round" "behind_a_round" (defArgs s_behind_a_round) (defBody s_behind_a_round) (defScope s_behind_a_round) .none kV_behind_a_round dc_behind_a_round pm_behind_a_round an_behind_a_round cd_behind_a_round ct_behind_a_round), sl_behind_a_round⟩) (c_behind_a_round : PySem.W.codeIn K cd_behind_a_round "behind_a_round" = true) (k_behind_a_round : PySem.W.keepIn K (.ref f_behind_a_round) = true)
    (a_is_a_guest : PySem.W.nsIn K mainGlobals "is_a_guest" = some (some (.ref f_is_a_guest))) (l_is_a_guest : K.lookup f_is_a_guest = some ⟨oc_is_a_guest, od_is_a_guest, .func (PySem.W.fnOf "is_a_guest" "is_a_guest" (defArgs s_is_a_guest) (defBody s_is_a_guest) (defScope s_is_a_guest) .none kV_is_a_guest dc_is_a_guest pm_is_a_guest an_is_a_guest cd_is_a_guest ct_is_a_guest), sl_is_a_guest⟩) (c_is_a_guest : PySem.W.codeIn K cd_is_a_guest "is_a_guest" = true) (k_is_a_guest : PySem.W.keepIn K (.ref f_is_a_guest) = true)
    (a_is_a_pair : PySem.W.nsIn K mainGlobals "is_a_pair" = some (some (.ref f_is_a_pair))) (l_is_a_pair : K.lookup f_is_a_pair = some ⟨oc_is_a_pair, od_is_a_pair, .func (PySem.W.fnOf "is_a_pair" "is_a_pair" (defArgs s_is_a_pair) (defBody s_is_a_pair) (defScope s_is_a_pair) .none kV_is_a_pair dc_is_a_pair pm_is_a_pair an_is_a_pair cd_is_a_pair ct_is_a_pair), sl_is_a_pair⟩) (c_is_a_pair : PySem.W.codeIn K cd_is_a_pair "is_a_pair" = true) (k_is_a_pair : PySem.W.keepIn K (.ref f_is_a_pair) = true)
    (a_is_as_told : PySem.W.nsIn K mainGlobals "is_as_told" = some (some (.ref f_is_as_told))) (l_is_as_told : K.lookup f_is_as_told = some ⟨oc_is_as_told, od_is_as_told, .func (PySem.W.fnOf "is_as_told" "is_as_told" (defArgs s_is_as_told) (defBody s_is_as_told) (defScope s_is_as_told) .none kV_is_as_told dc_is_as_told pm_is_as_told an_is_as_told cd_is_as_told ct_is_as_told), sl_is_as_told⟩) (c_is_as_told : PySem.W.codeIn K cd_is_as_told "is_as_told" = true) (k_is_as_told : PySem.W.keepIn K (.ref f_is_as_told) = true)
    (a_how_many_pairs : PySem.W.nsIn K mainGlobals "how_many_pairs" = some (some (.ref f_how_many_pairs))) (l_how_many_pairs : K.lookup f_how_many_pairs = some ⟨oc_how_many_pairs, od_how_many_pairs, .func (PySem.W.fnOf "how_many_pairs" "how_many_pairs" (defArgs s_how_many_pairs) (defBody s_how_many_pairs) (defScope s_how_many_pairs) .none kV_how_many_pairs dc_how_many_pairs pm_how_many_pairs an_how_many_pairs cd_how_many_pairs ct_how_many_pairs), sl_how_many_pairs⟩) (c_how_many_pairs : PySem.W.codeIn K cd_how_many_pairs "how_many_pairs" = true) (k_how_many_pairs : PySem.W.keepIn K (.ref f_how_many_pairs) = true)
    (a_after : PySem.W.nsIn K mainGlobals "after" = some (some (.ref f_after))) (l_after : K.lookup f_after = some ⟨oc_after, od_after, .func (PySem.W.fnOf "after" "after" (defArgs s_after) (defBody s_after) (defScope s_after) .none kV_after dc_after pm_after an_after cd_after ct_after), sl_after⟩) (c_after : PySem.W.codeIn K cd_after "after" = true) (k_after : PySem.W.keepIn K (.ref f_after) = true)
    (v_MOST_GUESTS : PySem.W.nsIn K mainGlobals "MOST_GUESTS" = some (some (.int (8) t_MOST_GUESTS)))
    (v_MOST_PAIRS : PySem.W.nsIn K mainGlobals "MOST_PAIRS" = some (some (.int (28) t_MOST_PAIRS)))
    (v_MOST_ROUNDS : PySem.W.nsIn K mainGlobals "MOST_ROUNDS" = some (some (.int (5) t_MOST_ROUNDS)))
    (v_REFUSED : PySem.W.nsIn K mainGlobals "REFUSED" = some (some (.int (-22) t_REFUSED)))
    (z_len : PySem.W.nsIn K mainGlobals "len" = some none)
    (z_range : PySem.W.nsIn K mainGlobals "range" = some none)
    : ∃ fd : FuncData, (∀ (s : Shared) (us : List Value), us.length = (["n", "k", "l"] : List Str).length → BindsTo s fd ⟨us, []⟩ ((["n", "k", "l"] : List Str).zip us)) ∧ ∀ base : Heap, K.In base → base.Ns mainGlobals mg → FnOk P w K mg base CX0 5 fa fd ["n", "k", "l"] (spAfter K) := by
  have e := hfa.symm.trans (PySem.W.mg_of X G a_after)
  cases e
  have T : Txt mg := ⟨⟨_, PySem.W.mg_of X G v_MOST_GUESTS⟩, ⟨_, PySem.W.mg_of X G v_MOST_PAIRS⟩, ⟨_, PySem.W.mg_of X G v_MOST_ROUNDS⟩, ⟨_, PySem.W.mg_of X G v_REFUSED⟩, PySem.W.mg_none_of X G z_len, PySem.W.mg_none_of X G z_range⟩
  have F_acquaintances := fun_mk (st := s_acquaintances) l_acquaintances c_acquaintances k_acquaintances
  have b_acquaintances := F_acquaintances.binds (ps := ["n", "pairs"]) fun _ _ _ _ _ _ us hl => match us, hl with | [_, _], _ => rfl
  have F_know_one_another := fun_mk (st := s_know_one_another) l_know_one_another c_know_one_another k_know_one_another
  have b_know_one_another := F_know_one_another.binds (ps := ["known", "guest", "other"]) fun _ _ _ _ _ _ us hl => match us, hl with | [_, _, _], _ => rfl
  have F_can_be_introduced := fun_mk (st := s_can_be_introduced) l_can_be_introduced c_can_be_introduced k_can_be_introduced
  have b_can_be_introduced := F_can_be_introduced.binds (ps := ["known", "guest", "other"]) fun _ _ _ _ _ _ us hl => match us, hl with | [_, _, _], _ => rfl
  have F_introduced_to := fun_mk (st := s_introduced_to) l_introduced_to c_introduced_to k_introduced_to
  have b_introduced_to := F_introduced_to.binds (ps := ["known", "guest"]) fun _ _ _ _ _ _ us hl => match us, hl with | [_, _], _ => rfl
  have F_behind_a_round := fun_mk (st := s_behind_a_round) l_behind_a_round c_behind_a_round k_behind_a_round
  have b_behind_a_round := F_behind_a_round.binds (ps := ["known"]) fun _ _ _ _ _ _ us hl => match us, hl with | [_], _ => rfl
  have F_is_a_guest := fun_mk (st := s_is_a_guest) l_is_a_guest c_is_a_guest k_is_a_guest
  have b_is_a_guest := F_is_a_guest.binds (ps := ["n", "guest"]) fun _ _ _ _ _ _ us hl => match us, hl with | [_, _], _ => rfl
  have F_is_a_pair := fun_mk (st := s_is_a_pair) l_is_a_pair c_is_a_pair k_is_a_pair
  have b_is_a_pair := F_is_a_pair.binds (ps := ["n", "guest", "other"]) fun _ _ _ _ _ _ us hl => match us, hl with | [_, _, _], _ => rfl
  have F_is_as_told := fun_mk (st := s_is_as_told) l_is_as_told c_is_as_told k_is_as_told
  have b_is_as_told := F_is_as_told.binds (ps := ["n", "pairs"]) fun _ _ _ _ _ _ us hl => match us, hl with | [_, _], _ => rfl
  have F_how_many_pairs := fun_mk (st := s_how_many_pairs) l_how_many_pairs c_how_many_pairs k_how_many_pairs
  have b_how_many_pairs := F_how_many_pairs.binds (ps := ["known"]) fun _ _ _ _ _ _ us hl => match us, hl with | [_], _ => rfl
  have F_after := fun_mk (st := s_after) l_after c_after k_after
  have b_after := F_after.binds (ps := ["n", "k", "l"]) fun _ _ _ _ _ _ us hl => match us, hl with | [_, _, _], _ => rfl
  refine ⟨PySem.W.fnOf "after" "after" (defArgs s_after) (defBody s_after) (defScope s_after) .none kV_after dc_after pm_after an_after cd_after ct_after, fun s us hu => match us, hu with | [_, _, _], _ => .of_eq rfl, fun base _ _ => ?_⟩
  have h_acquaintances : Has P w K mg base 1 "acquaintances" s_acquaintances ["n", "pairs"] (spAcq K) := ⟨_, _, F_acquaintances, b_acquaintances, PySem.W.mg_of X G a_acquaintances, ok_acquaintances F_acquaintances T⟩
  have h_know_one_another : Has P w K mg base 1 "know_one_another" s_know_one_another ["known", "guest", "other"] (spKnow K) := ⟨_, _, F_know_one_another, b_know_one_another, PySem.W.mg_of X G a_know_one_another, ok_know_one_another F_know_one_another T⟩
  have h_can_be_introduced : Has P w K mg base 2 "can_be_introduced" s_can_be_introduced ["known", "guest", "other"] (spCan K) := ⟨_, _, F_can_be_introduced, b_can_be_introduced, PySem.W.mg_of X G a_can_be_introduced, ok_can_be_introduced F_can_be_introduced T h_know_one_another⟩
  have h_introduced_to : Has P w K mg base 3 "introduced_to" s_introduced_to ["known", "guest"] (spIntro K) := ⟨_, _, F_introduced_to, b_introduced_to, PySem.W.mg_of X G a_introduced_to, ok_introduced_to F_introduced_to T h_can_be_introduced⟩
  have h_behind_a_round : Has P w K mg base 4 "behind_a_round" s_behind_a_round ["known"] (spRound K) := ⟨_, _, F_behind_a_round, b_behind_a_round, PySem.W.mg_of X G a_behind_a_round, ok_behind_a_round F_behind_a_round T h_introduced_to⟩
  have h_is_a_guest : Has P w K mg base 1 "is_a_guest" s_is_a_guest ["n", "guest"] spGuest := ⟨_, _, F_is_a_guest, b_is_a_guest, PySem.W.mg_of X G a_is_a_guest, ok_is_a_guest F_is_a_guest T⟩
  have h_is_a_pair : Has P w K mg base 2 "is_a_pair" s_is_a_pair ["n", "guest", "other"] spPair := ⟨_, _, F_is_a_pair, b_is_a_pair, PySem.W.mg_of X G a_is_a_pair, ok_is_a_pair F_is_a_pair T h_is_a_guest⟩
  have h_is_as_told : Has P w K mg base 3 "is_as_told" s_is_as_told ["n", "pairs"] (spTold K) := ⟨_, _, F_is_as_told, b_is_as_told, PySem.W.mg_of X G a_is_as_told, ok_is_as_told F_is_as_told T h_is_a_pair⟩
  have h_how_many_pairs : Has P w K mg base 2 "how_many_pairs" s_how_many_pairs ["known"] (spHow K) := ⟨_, _, F_how_many_pairs, b_how_many_pairs, PySem.W.mg_of X G a_how_many_pairs, ok_how_many_pairs F_how_many_pairs T h_know_one_another⟩
  exact ok_after F_after T h_acquaintances h_behind_a_round h_is_as_told h_how_many_pairs
end G
open PySem PySem.W PyProof.Rows G
set_option maxRecDepth 100000 in
set_option maxHeartbeats 8000000 in
theorem PySem.Challenge.cw_introduced_s01_after_holds : PySem.Challenge.rw_introduced_s01_after.Holds := by
  w_on; k_headS; (case hw => exact ⟨[.int 0, .int 0, .list []], by decide +kernel, by decide +kernel⟩)
  k_fillS
  refine L2.walk_specK (r := PySem.Challenge.rw_introduced_s01_after) (k := 5) (CX := L2.CX0) (ps := ["n", "k", "l"]) (sp := fun K => (spAfter K)) (by decide +kernel) rfl rfl ⟨rfl, by decide, by decide⟩ (fun w h Y => PySem.W.kIn_of Y) ?F ?S (fun _ _ _ _ z => z)
  case F =>
    intro w mg fa h Y KX G hmg
    refine' all_mk KX G hmg ?a_acquaintances ?l_acquaintances ?c_acquaintances ?k_acquaintances ?a_know_one_another ?l_know_one_another ?c_know_one_another ?k_know_one_another ?a_can_be_introduced ?l_can_be_introduced ?c_can_be_introduced ?k_can_be_introduced ?a_introduced_to ?l_introduced_to ?c_introduced_to ?k_introduced_to ?a_behind_a_round ?l_behind_a_round ?c_behind_a_round ?k_behind_a_round ?a_is_a_guest ?l_is_a_guest ?c_is_a_guest ?k_is_a_guest ?a_is_a_pair ?l_is_a_pair ?c_is_a_pair ?k_is_a_pair ?a_is_as_told ?l_is_as_told ?c_is_as_told ?k_is_as_told ?a_how_many_pairs ?l_how_many_pairs ?c_how_many_pairs ?k_how_many_pairs ?a_after ?l_after ?c_after ?k_after ?v_MOST_GUESTS ?v_MOST_PAIRS ?v_MOST_ROUNDS ?v_REFUSED ?z_len ?z_range
    (case a_acquaintances => k_is)
    (case l_acquaintances => k_is)
    (case c_acquaintances => k_is)
    (case k_acquaintances => k_is)
    (case a_know_one_another => k_is)
    (case l_know_one_another => k_is)
    (case c_know_one_another => k_is)
    (case k_know_one_another => k_is)
    (case a_can_be_introduced => k_is)
    (case l_can_be_introduced => k_is)
    (case c_can_be_introduced => k_is)
    (case k_can_be_introduced => k_is)
    (case a_introduced_to => k_is)
    (case l_introduced_to => k_is)
    (case c_introduced_to => k_is)
    (case k_introduced_to => k_is)
    (case a_behind_a_round => k_is)
    (case l_behind_a_round => k_is)
    (case c_behind_a_round => k_is)
    (case k_behind_a_round => k_is)
    (case a_is_a_guest => k_is)
    (case l_is_a_guest => k_is)
    (case c_is_a_guest => k_is)
    (case k_is_a_guest => k_is)
    (case a_is_a_pair => k_is)
    (case l_is_a_pair => k_is)
    (case c_is_a_pair => k_is)
    (case k_is_a_pair => k_is)
    (case a_is_as_told => k_is)
    (case l_is_as_told => k_is)
    (case c_is_as_told => k_is)
    (case k_is_as_told => k_is)
    (case a_how_many_pairs => k_is)
    (case l_how_many_pairs => k_is)
    (case c_how_many_pairs => k_is)
    (case k_how_many_pairs => k_is)
    (case a_after => k_is)
    (case l_after => k_is)
    (case c_after => k_is)
    (case k_after => k_is)
    (case v_MOST_GUESTS => k_is)
    (case v_MOST_PAIRS => k_is)
    (case v_MOST_ROUNDS => k_is)
    (case v_REFUSED => k_is)
    (case z_len => k_is)
    (case z_range => k_is)
  case S =>
    intro K H xs a hO hwi hask hx
    obtain ⟨x, y, l, u⟩ := a
    cases hx with
    | cons h1 hx =>
      cases hx with
      | cons h2 hx =>
        cases hx with
        | cons h3 hx =>
          cases hx
          cases h1
          cases h2
          cases h3 with
          | lst hs ha =>
            have e := L2.ints_dw l _ ha
            subst e
            have q : (Codec.inInt 0 4294967295 x && (Codec.inInt 0 4294967295 y && ((Codec.inLen 0 60 l && l.all (Codec.inInt 0 255)) && true))) = true := hwi
            simp only [Bool.and_eq_true, Codec.inInt_iff, List.all_eq_true, and_true] at q
            obtain ⟨q1, q2, q3, q4⟩ := q
            have q3 := (Codec.inNat_iff.mp q3).2
            obtain ⟨n, rfl⟩ := Int.eq_ofNat_of_zero_le q1.1
            obtain ⟨k, rfl⟩ := Int.eq_ofNat_of_zero_le q2.1
            obtain ⟨m, rfl⟩ := G.nats_of l fun z hz => (q4 z hz).1
            have es : (m.map fun (z : Nat) => (z : Int)).map L2.V.int = G.natsV m := by
              unfold G.natsV
              rw [List.map_map]
              rfl
            rw [es] at hs
            exact ⟨n, k, _, m, rfl, hs, by rw [List.length_map] at q3; exact q3, fun p H2 _ _ h => .lst (L2.SqL.of h) (L2.dw_ints _)⟩
#print axioms PySem.Challenge.cw_introduced_s01_after_holds
