/-
  MbM · MbE
-/
import Derived.Test.YtmcdjniebkfagaaAC01
import Derived.Test.YtmcdjniebkfagaaAE04
set_option linter.unusedSimpArgs false
set_option linter.unusedVariables false

namespace Go.Proofs.Ytmcdjniebkfagaa.Sep
open Go.RowKit
/-- is a set right? -/
def rs (s : Int) : Bool := decide (0 ≤ s ∧ s ≤ 254 ∧ s % 2 = 0)
/-- a number's bit, of its lowest eight -/
def bt (v : Int) (n : Nat) : Bool := (v % 256).toNat.testBit n
/-- the nodes of a set below n -/
def nt (s : Int) (n : Nat) : List Nat := (List.range n).filter fun k => rs s && (decide (1 ≤ k) && bt s k)
def nds (s : Int) : List Nat := nt s 8
def may (s n : Int) : Bool := rs s && decide (1 ≤ n ∧ n ≤ 7)
def hs (s n : Int) : Bool := may s n && bt s n.toNat
def cnt (s : Int) : Nat := (nds s).length
def mst (s v : Int) : Bool := decide (cnt s < 2 * (nds s).countP (bt v))
def addM (s n : Int) : Int × Int := if may s n then if hs s n then (0, 32) else (s + 2 ^ n.toNat, 0) else (0, 1)
def remM (s n : Int) : Int × Int := if may s n then if hs s n = false ∨ cnt s = 1 then (0, 32) else (s - 2 ^ n.toNat, 0) else (0, 1)
theorem rs_iff {s : Int} : rs s = true ↔ 0 ≤ s ∧ s ≤ 254 ∧ s % 2 = 0 := decide_eq_true_iff
theorem rs_half {s : Int} (h : rs s = true) : ∃ k : Nat, k < 128 ∧ s = ((2 * k : Nat) : Int) := by
  obtain ⟨h1, h2, h3⟩ := rs_iff.1 h
  exact ⟨(s / 2).toNat, by omega, by omega⟩
theorem may_iff {s n : Int} : may s n = true ↔ rs s = true ∧ 1 ≤ n ∧ n ≤ 7 := by unfold may; simp
theorem hs_no {s n : Int} (h : may s n = false) : hs s n = false := by unfold hs; rw [h]; rfl
theorem hs_may {s n : Int} (h : hs s n = true) : may s n = true := by unfold hs at h; simp at h; exact h.1
theorem nt_no {s : Int} (h : rs s = false) (n : Nat) : nt s n = [] := by unfold nt; simp [h]
theorem nt_succ {s : Int} (n : Nat) (h1 : 1 ≤ n) (h7 : n ≤ 7) : nt s (n + 1) = nt s n ++ (if hs s (n : Int) then [n] else []) := by
  have e : hs s (n : Int) = (rs s && (decide (1 ≤ n) && bt s n)) := by
    unfold hs may
    have : decide (1 ≤ (n : Int) ∧ (n : Int) ≤ 7) = true := by simp; omega
    rw [this]
    simp [h1]
  unfold nt
  rw [List.range_succ, List.filter_append, e]
  simp only [List.filter_cons, List.filter_nil]
theorem nt_one (s : Int) : nt s 1 = [] := by unfold nt; simp [List.range_succ]
theorem nt_yes {s : Int} {n : Nat} (h1 : 1 ≤ n) (h7 : n ≤ 7) (h : hs s (n : Int) = true) : nt s (n + 1) = nt s n ++ [n] := by rw [nt_succ n h1 h7, h]; rfl
theorem nt_not {s : Int} {n : Nat} (h1 : 1 ≤ n) (h7 : n ≤ 7) (h : hs s (n : Int) = false) : nt s (n + 1) = nt s n := by rw [nt_succ n h1 h7, h]; simp
theorem nt_le (s : Int) : ∀ n, (nt s n).length ≤ n := fun n => by
  unfold nt
  have := List.length_filter_le (fun k => rs s && (decide (1 ≤ k) && bt s k)) (List.range n)
  simpa using this
theorem nt_mem {s : Int} {n k : Nat} : k ∈ nt s n ↔ k < n ∧ rs s = true ∧ 1 ≤ k ∧ bt s k = true := by unfold nt; simp
theorem nds_mem {s : Int} {k : Nat} : k ∈ nds s ↔ hs s (k : Int) = true := by
  unfold nds hs may
  rw [nt_mem]
  simp
  constructor
  · rintro ⟨a, b, c, d⟩; exact ⟨⟨b, by omega, by omega⟩, d⟩
  · rintro ⟨⟨a, b, c⟩, d⟩; exact ⟨by omega, a, by omega, d⟩
theorem cnt_le (s : Int) : cnt s ≤ 8 := nt_le s 8
theorem cnt_no {s : Int} (h : rs s = false) : cnt s = 0 := by unfold cnt nds; rw [nt_no h]; rfl
theorem mst_no {s v : Int} (h : rs s = false) : mst s v = false := by unfold mst cnt nds; rw [nt_no h]; rfl
/-! ## Bits of numbers of 64 bits -/
theorem toNat_i64 (s : Int) : (BitVec.ofInt 64 s).toNat = (s % 18446744073709551616).toNat := by rw [BitVec.toNat_ofInt]; rfl
theorem i64_wrap {x : Nat} (h : x < 9223372036854775808) : IntKind.i64.wrap (x : Int) = (x : Int) := IntWalk.i64_in _ (by omega)
theorem i64_zero {x : Nat} (h : x < 18446744073709551616) : IntKind.i64.wrap (x : Int) = 0 ↔ x = 0 := by
  have e : IntKind.i64.wrap (x : Int) = if (x : Int) % 18446744073709551616 ≥ 9223372036854775808 then (x : Int) % 18446744073709551616 - 18446744073709551616 else (x : Int) % 18446744073709551616 := by
    simp [IntKind.wrap, IntKind.signed, IntKind.bits]
  rw [e]
  split <;> omega
theorem testBit_gt {x i n : Nat} (h : x < 2 ^ n) (hi : n ≤ i) : x.testBit i = false := Nat.testBit_lt_two_pow (Nat.lt_of_lt_of_le h (Nat.pow_le_pow_right (by decide) hi))
theorem and_low {s v : Int} (h0 : 0 ≤ s) (h1 : s < 256) : bits .and .i64 s v = ((s.toNat &&& (v % 256).toNat : Nat) : Int) := by
  show IntKind.i64.wrap ((BitVec.ofInt 64 s &&& BitVec.ofInt 64 v).toNat : Int) = _
  rw [BitVec.toNat_and, toNat_i64, toNat_i64]
  have e : (s % 18446744073709551616).toNat &&& (v % 18446744073709551616).toNat = s.toNat &&& (v % 256).toNat := by
    have e1 : (s % 18446744073709551616).toNat = s.toNat := by omega
    have e2 : (v % 256).toNat = (v % 18446744073709551616).toNat % 2 ^ 8 := by omega
    rw [e1, e2]
    refine Nat.eq_of_testBit_eq fun i => ?_
    rw [Nat.testBit_and, Nat.testBit_and, Nat.testBit_mod_two_pow]
    by_cases hi : i < 8
    · simp [hi]
    · rw [testBit_gt (n := 8) (by omega) (by omega)]; rfl
  rw [e]
  have := @Nat.and_le_left s.toNat (v % 256).toNat
  exact i64_wrap (by omega)
theorem andn_mask {x : Nat} (hx : x < 18446744073709551616) : x &&& 18446744073709551361 = 0 ↔ x < 256 ∧ x % 2 = 0 := by
  have hM : ∀ i, i < 64 → (18446744073709551361).testBit i = decide (i = 0 ∨ 8 ≤ i) := by decide
  constructor
  · intro h
    have hb : ∀ i, (x.testBit i && (18446744073709551361).testBit i) = false := fun i => by rw [← Nat.testBit_and, h]; simp
    have h0 : x.testBit 0 = false := by have := hb 0; rw [hM 0 (by omega)] at this; simpa using this
    have h8 : ∀ i, 8 ≤ i → x.testBit i = false := fun i hi => by
      by_cases h64 : i < 64
      · have := hb i; rw [hM i h64] at this; simpa [hi] using this
      · exact testBit_gt (n := 64) (by omega) (by omega)
    refine ⟨Nat.lt_pow_two_of_testBit (n := 8) x h8, ?_⟩
    rw [Nat.testBit_eq_decide_div_mod_eq] at h0
    simp at h0
    omega
  · rintro ⟨h1, h2⟩
    refine Nat.eq_of_testBit_eq fun i => ?_
    rw [Nat.testBit_and, Nat.zero_testBit]
    by_cases h64 : i < 64
    · rw [hM i h64]
      by_cases h : i = 0
      · subst h
        rw [Nat.testBit_eq_decide_div_mod_eq]
        simp
        omega
      · by_cases h8 : 8 ≤ i
        · rw [testBit_gt (n := 8) (by omega) h8]; rfl
        · simp [h, h8]
    · rw [testBit_gt (n := 64) (by omega) (by omega)]; rfl
theorem andn_right {s : Int} (h1 : -9223372036854775808 ≤ s) (h2 : s ≤ 9223372036854775807) : decide (bits .andNot .i64 s 254 = 0) = rs s := by
  have hb : bits .andNot .i64 s 254 = IntKind.i64.wrap ((BitVec.ofInt 64 s &&& ~~~BitVec.ofInt 64 254).toNat : Int) := rfl
  have hc : (~~~BitVec.ofInt 64 254).toNat = 18446744073709551361 := by decide
  have hl : (s % 18446744073709551616).toNat &&& 18446744073709551361 < 18446744073709551616 := by
    have := @Nat.and_le_left (s % 18446744073709551616).toNat 18446744073709551361
    omega
  unfold rs
  rw [hb, BitVec.toNat_and, toNat_i64, hc, decide_eq_decide, i64_zero hl, andn_mask (by omega)]
  omega
/-! ## What is added, what is taken away: of each right set and each node -/
def addAll : Bool := (List.range 128).all fun k => (List.range 7).all fun j => (bt ((2 * k : Nat) : Int) (j + 1)) || (decide (bits .or .i64 ((2 * k : Nat) : Int) (2 ^ (j + 1)) = ((2 * k : Nat) : Int) + 2 ^ (j + 1)) && (decide (((2 * k : Nat) : Int) + 2 ^ (j + 1) ≤ 254) && (bt (((2 * k : Nat) : Int) + 2 ^ (j + 1)) (j + 1) && (decide (cnt (((2 * k : Nat) : Int) + 2 ^ (j + 1)) = cnt ((2 * k : Nat) : Int) + 1) && (List.range 8).all fun i => bt (((2 * k : Nat) : Int) + 2 ^ (j + 1)) i == (bt ((2 * k : Nat) : Int) i || decide (i = j + 1))))))
def remAll : Bool := (List.range 128).all fun k => (List.range 7).all fun j => !(bt ((2 * k : Nat) : Int) (j + 1)) || (decide (bits .andNot .i64 ((2 * k : Nat) : Int) (2 ^ (j + 1)) = ((2 * k : Nat) : Int) - 2 ^ (j + 1)) && (decide (cnt ((2 * k : Nat) : Int) = 1) == decide (((2 * k : Nat) : Int) = 2 ^ (j + 1))))
def onesIs : Bool := (List.range 128).all fun k => decide (Run.ones (2 * k) = cnt ((2 * k : Nat) : Int)) && (decide (cnt ((2 * k : Nat) : Int) = 0) == decide (k = 0))
set_option maxRecDepth 1000000 in
theorem addAll_t : addAll = true := by kernel_rfl
set_option maxRecDepth 1000000 in
theorem remAll_t : remAll = true := by kernel_rfl
set_option maxRecDepth 1000000 in
theorem onesIs_t : onesIs = true := by kernel_rfl
theorem bt_of {s n : Int} (h : may s n = true) : hs s n = bt s n.toNat := by unfold hs; rw [h]; rfl
theorem may_j {s n : Int} (h : may s n = true) : ∃ k j : Nat, k < 128 ∧ j < 7 ∧ s = ((2 * k : Nat) : Int) ∧ n = ((j + 1 : Nat) : Int) ∧ n.toNat = j + 1 := by
  obtain ⟨h1, h2, h3⟩ := may_iff.1 h
  obtain ⟨k, hk, e⟩ := rs_half h1
  exact ⟨k, (n - 1).toNat, hk, by omega, e, by omega, by omega⟩
theorem all_at {n : Nat} {p : Nat → Bool} (h : (List.range n).all p = true) {k : Nat} (hk : k < n) : p k = true := List.all_eq_true.1 h k (List.mem_range.2 hk)
theorem add_facts {s n : Int} (h : may s n = true) (hb : hs s n = false) : bits .or .i64 s (2 ^ n.toNat) = s + 2 ^ n.toNat ∧ rs (s + 2 ^ n.toNat) = true ∧ hs (s + 2 ^ n.toNat) n = true ∧ cnt (s + 2 ^ n.toNat) = cnt s + 1 ∧ ∀ i : Nat, i < 8 → bt (s + 2 ^ n.toNat) i = (bt s i || decide (i = n.toNat)) := by
  rw [bt_of h] at hb
  have hr := (may_iff.1 h).1
  have hn := (may_iff.1 h).2
  obtain ⟨k, j, hk, hj, e1, e2, e3⟩ := may_j h
  have := all_at (all_at addAll_t hk) hj
  rw [← e1, ← e3, hb] at this
  simp only [Bool.false_or, Bool.and_eq_true, decide_eq_true_eq] at this
  obtain ⟨a, b, c, d, f⟩ := this
  have hp : (2 : Int) ^ n.toNat = 2 * 2 ^ j := by rw [e3, Int.pow_succ, Int.mul_comm]
  have hp0 : (0 : Int) < 2 ^ j := Int.pow_pos (by decide)
  have hr2 : rs (s + 2 ^ n.toNat) = true := rs_iff.2 (by have := rs_iff.1 hr; omega)
  refine ⟨a, hr2, ?_, d, fun i hi => ?_⟩
  · rw [bt_of (may_iff.2 ⟨hr2, hn⟩)]; exact c
  · have := all_at f hi
    simpa using this
theorem rem_facts {s n : Int} (h : hs s n = true) : bits .andNot .i64 s (2 ^ n.toNat) = s - 2 ^ n.toNat ∧ (cnt s = 1 ↔ s = 2 ^ n.toNat) := by
  have hm := hs_may h
  rw [bt_of hm] at h
  obtain ⟨k, j, hk, hj, e1, e2, e3⟩ := may_j hm
  have := all_at (all_at remAll_t hk) hj
  rw [← e1, ← e3, h] at this
  simp only [Bool.not_true, Bool.false_or, Bool.and_eq_true, decide_eq_true_eq, beq_iff_eq, decide_eq_decide] at this
  exact this
theorem ones_cnt {s : Int} (h : rs s = true) : ∃ k, k < 128 ∧ s = ((2 * k : Nat) : Int) ∧ Run.ones (2 * k) = cnt s := by
  obtain ⟨k, hk, e⟩ := rs_half h
  have := all_at onesIs_t hk
  rw [← e] at this
  simp only [Bool.and_eq_true, decide_eq_true_eq] at this
  exact ⟨k, hk, e, this.1⟩
theorem cnt_zero {s : Int} (h : rs s = true) : cnt s = 0 ↔ s = 0 := by
  obtain ⟨k, hk, e⟩ := rs_half h
  have := all_at onesIs_t hk
  rw [← e] at this
  simp only [Bool.and_eq_true, decide_eq_true_eq, beq_iff_eq, decide_eq_decide] at this
  rw [this.2]
  omega
/-- of what is in both -/
theorem and_set {s : Int} (h : rs s = true) (v : Int) : rs (bits .and .i64 s v) = true ∧ ∀ i, bt (bits .and .i64 s v) i = (bt s i && bt v i) := by
  obtain ⟨h1, h2, h3⟩ := rs_iff.1 h
  rw [and_low h1 (by omega)]
  have hl := @Nat.and_le_left s.toNat (v % 256).toNat
  have hm : (s.toNat &&& (v % 256).toNat) % 2 = 0 := by
    have h0 : (s.toNat &&& (v % 256).toNat).testBit 0 = false := by
      rw [Nat.testBit_and, show s.toNat.testBit 0 = false by rw [Nat.testBit_eq_decide_div_mod_eq]; simp; omega]
      rfl
    rw [Nat.testBit_eq_decide_div_mod_eq] at h0
    have h0 := of_decide_eq_false h0
    rw [Nat.pow_zero, Nat.div_one] at h0
    omega
  refine ⟨rs_iff.2 (by omega), fun i => ?_⟩
  have e : (((s.toNat &&& (v % 256).toNat : Nat) : Int) % 256).toNat = (s % 256).toNat &&& (v % 256).toNat := by
    rw [show (s % 256).toNat = s.toNat by omega]
    generalize s.toNat &&& (v % 256).toNat = X at hl hm ⊢
    omega
  unfold bt
  rw [← Nat.testBit_and, e]
theorem nds_and {s : Int} (h : rs s = true) (v : Int) : nds (bits .and .i64 s v) = (nds s).filter (bt v) := by
  obtain ⟨h1, h2⟩ := and_set h v
  unfold nds nt
  rw [List.filter_filter]
  refine List.filter_congr fun k _ => ?_
  rw [h1, h, h2 k]
  cases decide (1 ≤ k) <;> cases bt s k <;> cases bt v k <;> rfl
theorem mst_and {s : Int} (h : rs s = true) (v : Int) : mst s v = decide ((cnt s : Int) < 2 * (cnt (bits .and .i64 s v) : Int)) := by
  unfold mst
  have : cnt (bits .and .i64 s v) = (nds s).countP (bt v) := by unfold cnt; rw [nds_and h, List.countP_eq_length_filter]
  rw [this, decide_eq_decide]
  omega
/-- two that are more than half, of a set and of the same with one more, have one in common -/
theorem countP_both {α : Type} (p q : α → Bool) : ∀ l : List α, l.countP p + l.countP q ≤ l.length + l.countP fun x => p x && q x
  | [] => by simp
  | a :: l => by
    have ih := countP_both p q l
    simp only [List.countP_cons, List.length_cons]
    cases p a <;> cases q a <;> simp <;> omega
theorem most_meet {s n a b : Int} (h : may s n = true) (hb : hs s n = false) (hA : mst s a = true) (hB : mst (s + 2 ^ n.toNat) b = true) : ∃ k, k < 8 ∧ bt a k = true ∧ bt b k = true ∧ bt (s + 2 ^ n.toNat) k = true := by
  obtain ⟨_, hr, _, hc, hbit⟩ := add_facts h hb
  unfold mst at hA hB
  simp only [decide_eq_true_eq] at hA hB
  have h1 : (nds s).countP (bt a) ≤ (nds (s + 2 ^ n.toNat)).countP (bt a) := by
    unfold nds nt
    rw [List.countP_filter, List.countP_filter]
    refine List.countP_mono_left fun k hk h2 => ?_
    have hk := List.mem_range.1 hk
    simp only [Bool.and_eq_true, decide_eq_true_eq] at h2 ⊢
    exact ⟨h2.1, hr, h2.2.2.1, by rw [hbit k hk, h2.2.2.2]; rfl⟩
  have h2 := countP_both (bt a) (bt b) (nds (s + 2 ^ n.toNat))
  have h3 : 0 < (nds (s + 2 ^ n.toNat)).countP fun x => bt a x && bt b x := by
    have : (nds (s + 2 ^ n.toNat)).length = cnt (s + 2 ^ n.toNat) := rfl
    omega
  obtain ⟨k, hk, hk2⟩ := List.countP_pos_iff.1 h3
  simp only [Bool.and_eq_true] at hk2
  have h4 := nt_mem.1 hk
  exact ⟨k, h4.1, hk2.1, hk2.2, h4.2.2.2⟩
end Go.Proofs.Ytmcdjniebkfagaa.Sep

namespace Go.Proofs.Ytmcdjniebkfagaa.Sep
open Go.RowKit
open Go.Proofs.Ytmcdjniebkfagaa.Mem (Dist Blk Chg below0)
section
variable {P : Program} {Q : Exit → Act → World → Prop} {n : Nat} {B : Nat → Prop} {w0 w : World} {os : List Ass} {env : List (Nat × Value)} {o : Oper} {a : Act}
theorem exec_bits {op : BinOp} {T T' : TypeId} {x y : Operand} {k : IntKind} {p q r : Int} (hop : op = .and ∨ op = .or ∨ op = .andNot) (hr : bits op k p q = r) (ho : o.op = .binOp op T x y T') (hx : evs env x = some (.int k p)) (hy : evs env y = some (.int k q)) (hF : Fr n a env) : (execOp a.eval o).run P w = .ok (.value (.int k r)) w := by
  unfold execOp
  simp only [ho, hF.evs hx, hF.evs hy]
  rcases hop with rfl | rfl | rfl <;> simp [eqGuard, binOp, intBits_and, intBits_or, intBits_andNot, hr]
theorem exec_andI {T T' : TypeId} {x y : Operand} {k : IntKind} {p q r : Int} (hr : bits .and k p q = r) (ho : o.op = .binOp .and T x y T') (hx : evs env x = some (.int k p)) (hy : evs env y = some (.int k q)) (hF : Fr n a env) : (execOp a.eval o).run P w = .ok (.value (.int k r)) w := exec_bits (.inl rfl) hr ho hx hy hF
theorem exec_orI {T T' : TypeId} {x y : Operand} {k : IntKind} {p q r : Int} (hr : bits .or k p q = r) (ho : o.op = .binOp .or T x y T') (hx : evs env x = some (.int k p)) (hy : evs env y = some (.int k q)) (hF : Fr n a env) : (execOp a.eval o).run P w = .ok (.value (.int k r)) w := exec_bits (.inr (.inl rfl)) hr ho hx hy hF
theorem exec_andnI {T T' : TypeId} {x y : Operand} {k : IntKind} {p q r : Int} (hr : bits .andNot k p q = r) (ho : o.op = .binOp .andNot T x y T') (hx : evs env x = some (.int k p)) (hy : evs env y = some (.int k q)) (hF : Fr n a env) : (execOp a.eval o).run P w = .ok (.value (.int k r)) w := exec_bits (.inr (.inr rfl)) hr ho hx hy hF
theorem exec_shr7 {T T' : TypeId} {x y : Operand} {k k' : IntKind} {p s r : Int} (hs : 1 ≤ s ∧ s ≤ 7) (hk : k = .i64) (hr : p / 2 ^ s.toNat = r) (ho : o.op = .binOp .shr T x y T') (hx : evs env x = some (.int k p)) (hy : evs env y = some (.int k' s)) (hF : Fr n a env) : (execOp a.eval o).run P w = .ok (.value (.int k r)) w := by
  subst hr; subst hk
  have h1 : min s.toNat 64 = s.toNat := Nat.min_eq_left (by omega)
  have h2 : p.fdiv (2 ^ s.toNat) = p / 2 ^ s.toNat := Int.fdiv_eq_ediv_of_nonneg _ (Int.le_of_lt (Int.pow_pos (by decide)))
  have h3 : ¬ (s < 0) := by omega
  unfold execOp
  simp only [ho, hF.evs hx, hF.evs hy]
  simp [eqGuard, binOp, Op.shift, h3, IntKind.bits, h1, h2]
theorem exec_shl7 {T T' : TypeId} {x y : Operand} {k' : IntKind} {s r : Int} (hs : 1 ≤ s ∧ s ≤ 7) (hr : 2 ^ s.toNat = r) (ho : o.op = .binOp .shl T x y T') (hx : evs env x = some (.int .i64 1)) (hy : evs env y = some (.int k' s)) (hF : Fr n a env) : (execOp a.eval o).run P w = .ok (.value (.int .i64 r)) w := by
  subst hr
  have h1 : min s.toNat 64 = s.toNat := Nat.min_eq_left (by omega)
  have h3 : ¬ (s < 0) := by omega
  have h4 : (2 : Int) ^ s.toNat ≤ 128 := by
    have h5 : s = 1 ∨ s = 2 ∨ s = 3 ∨ s = 4 ∨ s = 5 ∨ s = 6 ∨ s = 7 := by omega
    rcases h5 with rfl | rfl | rfl | rfl | rfl | rfl | rfl <;> decide
  have h5 : (0 : Int) < 2 ^ s.toNat := Int.pow_pos (by decide)
  unfold execOp
  simp only [ho, hF.evs hx, hF.evs hy]
  simp [eqGuard, binOp, Op.shift, h3, IntKind.bits, h1]
  rw [IntWalk.i64_in _ (by omega)]
theorem exec_remI2 {T T' : TypeId} {x y : Operand} {p r : Int} (hp : 0 ≤ p) (hr : p % 2 = r) (ho : o.op = .binOp .rem T x y T') (hx : evs env x = some (.int .i64 p)) (hy : evs env y = some (.int .i64 2)) (hF : Fr n a env) : (execOp a.eval o).run P w = .ok (.value (.int .i64 r)) w := exec_remI ho hx hy (by decide) (by rw [Int.tmod_eq_emod_of_nonneg hp]; exact hr) hF
theorem exec_quoI8 {P : Program} {n : Nat} {env : List (Nat × Value)} {a : Act} {w : World} {o : Oper} {T T' : TypeId} {x y : Operand} {k : IntKind} {p q r : Int} (hq : q ≠ 0) (hr : k.wrap (p.tdiv q) = r) (ho : o.op = .binOp .quo T x y T') (hx : evs env x = some (.int k p)) (hy : evs env y = some (.int k q)) (hF : Fr n a env) : (execOp a.eval o).run P w = .ok (.value (.int k r)) w := by
  unfold execOp
  simp only [ho, hF.evs hx, hF.evs hy]
  simp [eqGuard, binOp, Op.intArith, Op.intDiv, hq, hr]
/-- what only answers, told as an act -/
theorem a_quiet (v : Value) (he : ∀ (b : Act) w, Hp B w0 w os → Fr n b env → (execOp b.eval o).run P w = .ok (.value v) w) : Acts P Q n env B w0 os o (fun _ : Unit => v) (fun _ => os) := fun b w hH hF K hK => a_val (w0 := w) b (he b w hH hF) (hK () _ hH)
end
theorem one_and (x : Int) : bits .and .i64 x 1 = (x % 2) := by
  have hc : bits .and .i64 x 1 = bits .and .i64 1 x := by
    show IntKind.i64.wrap ((BitVec.ofInt 64 x &&& BitVec.ofInt 64 1).toNat : Int) = IntKind.i64.wrap ((BitVec.ofInt 64 1 &&& BitVec.ofInt 64 x).toNat : Int)
    rw [BitVec.and_comm]
  rw [hc, and_low (by decide) (by decide)]
  have : (1 : Int).toNat &&& (x % 256).toNat = (x % 256).toNat % 2 := by
    rw [Nat.and_comm]
    exact Nat.and_one_is_mod _
  rw [this]
  omega
theorem bt_shr {v : Int} {n : Int} (hn : 1 ≤ n ∧ n ≤ 7) : decide (v / 2 ^ n.toNat % 2 = 1) = bt v n.toNat := by
  unfold bt
  rw [Nat.testBit_eq_decide_div_mod_eq, decide_eq_decide]
  have h5 : n = 1 ∨ n = 2 ∨ n = 3 ∨ n = 4 ∨ n = 5 ∨ n = 6 ∨ n = 7 := by omega
  rcases h5 with rfl | rfl | rfl | rfl | rfl | rfl | rfl <;> simp <;> omega
end Go.Proofs.Ytmcdjniebkfagaa.Sep
