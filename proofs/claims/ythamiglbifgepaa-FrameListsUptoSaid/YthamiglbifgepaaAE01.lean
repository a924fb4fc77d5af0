/-
  FrmX · FrmD · FrmA · FrmF · Rec · Yld · Rnd · Rng · Tail
-/
import Derived.Test.YthamiglbifgepaaAA05
import Derived.Test.YthamiglbifgepaaAB01
import Derived.Test.YthamiglbifgepaaAB02
import Derived.Test.YthamiglbifgepaaAD01
import Derived.TacticsIn
import Derived.RangeFuncIn
import Derived.RangeFuncRecord
import Derived.RangeFuncLeaves
set_option linter.unusedSimpArgs false
set_option linter.unusedVariables false

namespace Go.Proofs.Ythamiglbifgepaa.Sep
open Go.RowKit
open Go.Proofs.Ythamiglbifgepaa.Mem (Dist Blk Chg below0)
section
variable {P : Program} {Q : Exit → Act → World → Prop} {n : Nat} {B : Nat → Prop} {w0 : World} {os : List Ass} {env : List (Nat × Value)} {o : Oper} {t e : TypeId}
theorem flat_zeros (N : Nat) : flat encB (List.replicate N 0) = List.replicate N (Value.int .u8 0) := by
  induction N with
  | zero => rfl
  | succ N ih => rw [List.replicate_succ, List.replicate_succ, flat_cons, ih]; rfl
theorem run_mkslice8 (hT : SliceT P t e 1) (hb : (P.info? e).map (fun i => i.bytes) = some 1) (hz : ∀ w, (zeroValue e).run P w = .ok (.int .u8 0) w) {N : Nat} (hN : 1 ≤ N ∧ N ≤ 1000000) (w : World) : (Instr.makeSlice t (.int .i64 (N : Int)) (.int .i64 (N : Int))).run P w = .ok (.slice (some ⟨w.heap.size, 0, none⟩) N N) (w.alloc (.cells (Array.replicate N (.int .u8 0)) e)) := by
  obtain ⟨inf, z, hinf, hzz, hk, _, hzs, _⟩ := hT.inf
  have hb1 : inf.bytes = 1 := by simpa [hinf] using hb
  have h1 : IntKind.i64.wrap (N : Int) = (N : Int) := IntWalk.i64_in _ (by omega)
  have h2 : ¬ ((N : Int) < 0) := by omega
  have h3 : ¬ ((281474976710656 : Int) < (N : Int)) := by omega
  have h4 : ¬ (roomBytes < N) := by unfold roomBytes; omega
  have hm : (Array.range N).map (fun _ => Value.int .u8 0) = Array.replicate N (.int .u8 0) := by
    apply Array.ext_getElem?
    intro i
    simp [Array.getElem?_replicate]
    split <;> simp_all
  have h0 : N ≠ 0 := by omega
  simp [Instr.makeSlice, run_underlying hT.ht, asInt, asIntOf, typeInfo, hinf, hb1, h1, h2, h3, h4, askRoom, hT.sizeOf, hz, h0, newRow, Sem.run_bind, Value.cells, Nat.mod_one]
  simp [hm, Sem.run]
theorem a_mkslice8 (hT : SliceT P t e 1) (hb : (P.info? e).map (fun i => i.bytes) = some 1) (hz : ∀ w, (zeroValue e).run P w = .ok (.int .u8 0) w) {N : Nat} (hN : 1 ≤ N ∧ N ≤ 1000000) {x y : Operand} (ho : o.op = .makeSlice t x y) (hx : evs env x = some (.int .i64 (N : Int))) (hy : evs env y = some (.int .i64 (N : Int))) : Acts P Q n env B w0 os o (fun v : Value => v) (fun v => Vec e 1 encB v (List.replicate N 0) :: os) := fun b w hH hF K hK => by
  have hrun : (execOp b.eval o).run P w = .ok (.value (.slice (some ⟨w.heap.size, 0, none⟩) N N)) (w.alloc (.cells (Array.replicate N (.int .u8 0)) e)) := by
    unfold execOp
    simp [ho, hF.evs hx, hF.evs hy, Sem.run_bind, run_mkslice8 hT hb hz hN]
  refine a_val (w0 := w) b hrun (hK _ _ ?_)
  have := hH.new e (Array.replicate N (.int .u8 0))
  obtain ⟨rs, ⟨r1, r2, e1, h1, h2⟩, h3⟩ := this
  unfold cell at h1
  refine ⟨rs, ⟨r1, r2, e1, .inr ⟨w.heap.size, N, Array.replicate N (.int .u8 0), ?_, ?_, by unfold maxLen; omega, by simp, ?_, h1⟩, h2⟩, h3⟩
  · rw [List.length_replicate]
  · rw [List.length_replicate]; exact Nat.le_refl _
  · rw [List.length_replicate, flat_zeros]; simp
end
end Go.Proofs.Ythamiglbifgepaa.Sep

namespace Go.Proofs.Ythamiglbifgepaa.Sep
open Go.RowKit
open Go.Proofs.Ythamiglbifgepaa.Mem (Dist Blk Chg below0)

section
variable {P : Program} {Q : Exit → Act → World → Prop} {n : Nat} {B : Nat → Prop} {w0 : World} {os : List Ass} {env : List (Nat × Value)} {o : Oper} {t e : TypeId}
theorem run_mkcap8 (hT : SliceT P t e 1) (hb : (P.info? e).map (fun i => i.bytes) = some 1) (hz : ∀ w, (zeroValue e).run P w = .ok (.int .u8 0) w) {N : Nat} (hN : 1 ≤ N ∧ N ≤ 1000000) (w : World) : (Instr.makeSlice t (.int .i64 0) (.int .i64 (N : Int))).run P w = .ok (.slice (some ⟨w.heap.size, 0, none⟩) 0 N) (w.alloc (.cells (Array.replicate N (.int .u8 0)) e)) := by
  obtain ⟨inf, z, hinf, hzz, hk, _, hzs, _⟩ := hT.inf
  have hb1 : inf.bytes = 1 := by simpa [hinf] using hb
  have h1 : IntKind.i64.wrap (N : Int) = (N : Int) := IntWalk.i64_in _ (by omega)
  have h2 : ¬ ((N : Int) < 0) := by omega
  have h3 : ¬ ((281474976710656 : Int) < (N : Int)) := by omega
  have h4 : ¬ (roomBytes < N) := by unfold roomBytes; omega
  have hw0 : IntKind.i64.wrap 0 = 0 := by decide
  have hm : (Array.range N).map (fun _ => Value.int .u8 0) = Array.replicate N (.int .u8 0) := by
    apply Array.ext_getElem?
    intro i
    simp [Array.getElem?_replicate]
    split <;> simp_all
  have h0 : N ≠ 0 := by omega
  simp [Instr.makeSlice, run_underlying hT.ht, asInt, asIntOf, typeInfo, hinf, hb1, h1, h2, h3, h4, hw0, askRoom, hT.sizeOf, hz, h0, newRow, Sem.run_bind, Value.cells, Nat.mod_one]
  simp [hm, Sem.run]
/-- a slice of no bytes that has room for so many -/
theorem a_mkcap8 (hT : SliceT P t e 1) (hb : (P.info? e).map (fun i => i.bytes) = some 1) (hz : ∀ w, (zeroValue e).run P w = .ok (.int .u8 0) w) {N : Nat} (hN : 1 ≤ N ∧ N ≤ 1000000) {x y : Operand} (ho : o.op = .makeSlice t x y) (hx : evs env x = some (.int .i64 0)) (hy : evs env y = some (.int .i64 (N : Int))) : Acts P Q n env B w0 os o (fun v : Value => v) (fun v => Vec e 1 encB v [] :: os) := fun b w hH hF K hK => by
  have hrun : (execOp b.eval o).run P w = .ok (.value (.slice (some ⟨w.heap.size, 0, none⟩) 0 N)) (w.alloc (.cells (Array.replicate N (.int .u8 0)) e)) := by
    unfold execOp
    simp [ho, hF.evs hx, hF.evs hy, Sem.run_bind, run_mkcap8 hT hb hz hN]
  refine a_val (w0 := w) b hrun (hK _ _ ?_)
  have := hH.new e (Array.replicate N (.int .u8 0))
  obtain ⟨rs, ⟨r1, r2, e1, h1, h2⟩, h3⟩ := this
  unfold cell at h1
  exact ⟨rs, ⟨r1, r2, e1, .inr ⟨w.heap.size, N, Array.replicate N (.int .u8 0), rfl, Nat.zero_le _, by unfold maxLen; omega, by simp, by simp [flat], h1⟩, h2⟩, h3⟩
theorem run_build4 (hT : SliceT P t e 1) {c0 c1 c2 c3 : Value} (h0 : c0.cells = #[c0]) (h1 : c1.cells = #[c1]) (h2 : c2.cells = #[c2]) (h3 : c3.cells = #[c3]) (w : World) : (Instr.buildSlice t 4 #[(0, c0), (1, c1), (2, c2), (3, c3)]).run P w = .ok (.slice (some ⟨w.heap.size, 0, none⟩) 4 4) (w.alloc (.cells #[c0, c1, c2, c3] e)) := by
  obtain ⟨inf, z, hinf, hz, hk, _, hzs, _⟩ := hT.inf
  simp [Instr.buildSlice, run_underlying hT.ht, hT.sizeOf, zeroValue, typeInfo, hinf, hz, Instr.fill, h0, h1, h2, h3, newRow, Array.range_succ, map_range0]
theorem a_build4 (hT : SliceT P t e 1) {x0 x1 x2 x3 : Operand} (a0 a1 a2 a3 : UInt8) (ho : o.op = .buildSlice t 4 #[(0, x0), (1, x1), (2, x2), (3, x3)]) (h0 : evs env x0 = some (vB a0)) (h1 : evs env x1 = some (vB a1)) (h2 : evs env x2 = some (vB a2)) (h3 : evs env x3 = some (vB a3)) : Acts P Q n env B w0 os o (fun v : Value => v) (fun v => Vec e 1 encB v [a0, a1, a2, a3] :: os) := fun b w hH hF K hK => by
  have hrun : (execOp b.eval o).run P w = .ok (.value (.slice (some ⟨w.heap.size, 0, none⟩) 4 4)) (w.alloc (.cells #[vB a0, vB a1, vB a2, vB a3] e)) := by
    unfold execOp
    simp [ho, hF.evs h0, hF.evs h1, hF.evs h2, hF.evs h3, Sem.run_bind, run_build4 hT (c0 := vB a0) (c1 := vB a1) (c2 := vB a2) (c3 := vB a3) rfl rfl rfl rfl]
  refine a_val (w0 := w) b hrun (hK _ _ ?_)
  have := hH.new e #[vB a0, vB a1, vB a2, vB a3]
  obtain ⟨rs, ⟨r1, r2, e1, h1, h2⟩, h3⟩ := this
  unfold cell at h1
  exact ⟨rs, ⟨r1, r2, e1, .inr ⟨w.heap.size, 4, #[vB a0, vB a1, vB a2, vB a3], rfl, Nat.le_refl _, by unfold maxLen; omega, rfl, by simp [flat, encB, vB], h1⟩, h2⟩, h3⟩
end
end Go.Proofs.Ythamiglbifgepaa.Sep

namespace Go.Proofs.Ythamiglbifgepaa.Sep
open Go.RowKit
open Go.Proofs.Ythamiglbifgepaa.Mem (Dist Blk Chg below0)

theorem or_two {a b : Nat} (k : Nat) (ha : a < 2 ^ k) : a ||| b * 2 ^ k = a + b * 2 ^ k := by
  have := Nat.two_pow_add_eq_or_of_lt (i := k) (b := a) ha b
  rw [Nat.or_comm, Nat.mul_comm, ← this, Nat.add_comm]
theorem wrap_u32 {m : Nat} (h : m < 4294967296) : IntKind.u32.wrap (m : Int) = (m : Int) := by
  have e : IntKind.u32.wrap (m : Int) = (m : Int) % 4294967296 := by simp [IntKind.wrap, IntKind.signed, IntKind.bits]
  rw [e]; omega
theorem wrap_u32l {m s N : Nat} (hN : m * 2 ^ s = N) (h : N < 4294967296) : IntKind.u32.wrap ((m : Int) * 2 ^ s) = (N : Int) := by
  rw [← wrap_u32 h, ← hN]
  simp
theorem or_n {p q r : Nat} (hp : p < 4294967296) (hq : q < 4294967296) (h : p ||| q = r) : bits .or .u32 (p : Int) (q : Int) = (r : Int) := by rw [u32_or_nat p q hp hq, h]

set_option maxRecDepth 100000 in
theorem appnum_does {fv : Value} {l r : List UInt8} {n : Nat} (hn : n < 4294967296) (hl : l.length ≤ 65536) (hr : l ++ b4 n = r) : Does Try.prog 18 #[fv, .int .u32 (n : Int)] [Vec 5 1 encB fv l] (fun (v : Value) => v) (fun (v : Value) => [Vec 5 1 encB v r]) := by
  refine d_ins (args := [fv, .int .u32 (n : Int)]) 19 Try.func18 rfl rfl rfl ?_; intro w rs
  refine d_reg ?_
  refine h_q hflS rfl ?_
  refine h_done (d_reg ?_)
  refine h_q hflS rfl ?_
  refine h_val rfl (.int .u8 (((UInt8.ofNat n)).toNat : Int)) (fun b w hb hH => exec_conv Try.underlying41 Try.underlying5 (wrap_u8 _) rfl rfl hb) ?_
  refine h_q hflS rfl ?_
  refine h_val rfl (.int .u32 ((n / 256 : Nat) : Int)) (fun b w hb hH => exec_shrN (s := 8) (by decide) (by omega) rfl rfl rfl hb) ?_
  refine h_val rfl (.int .u8 (((UInt8.ofNat (n / 256))).toNat : Int)) (fun b w hb hH => exec_conv Try.underlying41 Try.underlying5 (wrap_u8 _) rfl rfl hb) ?_
  refine h_q hflS rfl ?_
  refine h_val rfl (.int .u32 ((n / 65536 : Nat) : Int)) (fun b w hb hH => exec_shrN (s := 16) (by decide) (by omega) rfl rfl rfl hb) ?_
  refine h_val rfl (.int .u8 (((UInt8.ofNat (n / 65536))).toNat : Int)) (fun b w hb hH => exec_conv Try.underlying41 Try.underlying5 (wrap_u8 _) rfl rfl hb) ?_
  refine h_q hflS rfl ?_
  refine h_val rfl (.int .u32 ((n / 16777216 : Nat) : Int)) (fun b w hb hH => exec_shrN (s := 24) (by decide) (by omega) rfl rfl rfl hb) ?_
  refine h_val rfl (.int .u8 (((UInt8.ofNat (n / 16777216))).toNat : Int)) (fun b w hb hH => exec_conv Try.underlying41 Try.underlying5 (wrap_u8 _) rfl rfl hb) ?_
  refine h_act (X := Value) (val := fun v : Value => v) (post := fun v8 => [Vec 5 1 encB v8 ([(UInt8.ofNat n), (UInt8.ofNat (n / 256)), (UInt8.ofNat (n / 65536)), (UInt8.ofNat (n / 16777216))]), Vec 5 1 encB fv l]) rfl (by exact a_build4 sl_uint8 (UInt8.ofNat n) (UInt8.ofNat (n / 256)) (UInt8.ofNat (n / 65536)) (UInt8.ofNat (n / 16777216)) rfl rfl rfl rfl rfl) ?_; rintro v8
  refine h_act (post := fun v9 => [Vec 5 1 encB v8 ([(UInt8.ofNat n), (UInt8.ofNat (n / 256)), (UInt8.ofNat (n / 65536)), (UInt8.ofNat (n / 16777216))]), Vec 5 1 encB v9 r]) rfl (a_append 1 sl_uint8 okB rfl ([(UInt8.ofNat n), (UInt8.ofNat (n / 256)), (UInt8.ofNat (n / 65536)), (UInt8.ofNat (n / 16777216))]) (fun w hH => hH.vec 0 rfl okB) (by simp only [List.length_cons, List.length_nil]; omega) rfl rfl rfl hr) ?_; rintro v9
  refine h_q hflS rfl ?_
  refine h_done (d_ret ?_)
  exact f_fin1 (.tmp rfl) (fun w h => tells v9 rfl [1] rfl h same_parts) rfl

set_option maxRecDepth 100000 in
theorem num_c (w : World) {y : List UInt8} {A : Option Addr} {c n : Nat} (hv : Sl8 w (.slice A y.length c) y) (h4 : 4 ≤ y.length) (hn : n4 y 0 = n) : Calls Try.prog 26 #[.slice A y.length c] w fun e w' => e = .returned (.int .u32 (n : Int)) ∧ Below w.heap.size w w' := by
  refine d_in (args := [.slice A y.length c]) 25 Try.func26 rfl rfl rfl ?_
  obtain ⟨a0, ha0⟩ : ∃ a, y[0]? = some a := ⟨_, List.getElem?_eq_getElem (by omega)⟩
  obtain ⟨a1, ha1⟩ : ∃ a, y[1]? = some a := ⟨_, List.getElem?_eq_getElem (by omega)⟩
  obtain ⟨a2, ha2⟩ : ∃ a, y[2]? = some a := ⟨_, List.getElem?_eq_getElem (by omega)⟩
  obtain ⟨a3, ha3⟩ : ∃ a, y[3]? = some a := ⟨_, List.getElem?_eq_getElem (by omega)⟩
  have hA0 := a0.toNat_lt
  have hA1 := a1.toNat_lt
  have hA2 := a2.toNat_lt
  have hA3 := a3.toNat_lt
  have hD0 : y.getD 0 0 = a0 := by rw [List.getD_eq_getElem?_getD, ha0]; rfl
  have hD1 : y.getD 1 0 = a1 := by rw [List.getD_eq_getElem?_getD, ha1]; rfl
  have hD2 : y.getD 2 0 = a2 := by rw [List.getD_eq_getElem?_getD, ha2]; rfl
  have hD3 : y.getD 3 0 = a3 := by rw [List.getD_eq_getElem?_getD, ha3]; rfl
  have hn_ : a0.toNat + a1.toNat * 256 + a2.toNat * 65536 + a3.toNat * 16777216 = n := by rw [← hn]; unfold n4; rw [hD0, hD1, hD2, hD3]
  refine d_reg ?_
  refine h_q hflS rfl ?_
  refine h_done (d_seq ?_)
  refine d_parS 22 0 [⟨.quiet, [], fun _ => .slice A y.length c, []⟩, ⟨.quiet, [], fun _ => elp (.slice A y.length c) (0 * 1), [0]⟩, ⟨.quiet, [], fun _ => .int .u8 ((a0).toNat : Int), [1]⟩, ⟨.quiet, [], fun _ => .int .u32 (a0.toNat : Int), [2]⟩, ⟨.quiet, [], fun _ => .slice A y.length c, []⟩, ⟨.quiet, [], fun _ => elp (.slice A y.length c) (1 * 1), [4]⟩, ⟨.quiet, [], fun _ => .int .u8 ((a1).toNat : Int), [5]⟩, ⟨.quiet, [], fun _ => .int .u32 (a1.toNat : Int), [6]⟩, ⟨.quiet, [], fun _ => .int .u32 ((a1.toNat * 256 : Nat) : Int), [7]⟩, ⟨.quiet, [], fun _ => .int .u32 ((a0.toNat + a1.toNat * 256 : Nat) : Int), [3, 8]⟩, ⟨.quiet, [], fun _ => .slice A y.length c, []⟩, ⟨.quiet, [], fun _ => elp (.slice A y.length c) (2 * 1), [10]⟩, ⟨.quiet, [], fun _ => .int .u8 ((a2).toNat : Int), [11]⟩, ⟨.quiet, [], fun _ => .int .u32 (a2.toNat : Int), [12]⟩, ⟨.quiet, [], fun _ => .int .u32 ((a2.toNat * 65536 : Nat) : Int), [13]⟩, ⟨.quiet, [], fun _ => .int .u32 ((a0.toNat + a1.toNat * 256 + a2.toNat * 65536 : Nat) : Int), [9, 14]⟩, ⟨.quiet, [], fun _ => .slice A y.length c, []⟩, ⟨.quiet, [], fun _ => elp (.slice A y.length c) (3 * 1), [16]⟩, ⟨.quiet, [], fun _ => .int .u8 ((a3).toNat : Int), [17]⟩, ⟨.quiet, [], fun _ => .int .u32 (a3.toNat : Int), [18]⟩, ⟨.quiet, [], fun _ => .int .u32 ((a3.toNat * 16777216 : Nat) : Int), [19]⟩, ⟨.quiet, [], fun _ => .int .u32 (n : Int), [15, 20]⟩] [(0, .slice A y.length c), (2, .int .u32 0)] (fun _ => []) (by kernel_rfl) (by kernel_rfl) ⟨rfl, rfl, trivial⟩ rfl ?_ ?_
  · skip
    refine s_cons (by exact ⟨rfl, fun b w hH hb => exec_q1 hflS rfl hb⟩) ?_
    refine s_cons (by exact ⟨rfl, fun b w hH hb => e_sidx okB ((arg8 hv (Below.refl _ _) (fun _ h => h.elim) hH).rd) sl_uint8 (j := 0) ha0 rfl rfl rfl hb⟩) ?_
    refine s_cons (by exact ⟨rfl, fun b w hH hb => e_sload okB (by decide) ((arg8 hv (Below.refl _ _) (fun _ h => h.elim) hH).rd) (j := 0) ha0 ty_uint8 (off := 0) rfl rfl rfl hb⟩) ?_
    refine s_cons (by exact ⟨rfl, fun b w hH hb => exec_conv Try.underlying5 Try.underlying41 (wrap_u32 (by omega)) rfl rfl hb⟩) ?_
    refine s_cons (by exact ⟨rfl, fun b w hH hb => exec_q1 hflS rfl hb⟩) ?_
    refine s_cons (by exact ⟨rfl, fun b w hH hb => e_sidx okB ((arg8 hv (Below.refl _ _) (fun _ h => h.elim) hH).rd) sl_uint8 (j := 1) ha1 rfl rfl rfl hb⟩) ?_
    refine s_cons (by exact ⟨rfl, fun b w hH hb => e_sload okB (by decide) ((arg8 hv (Below.refl _ _) (fun _ h => h.elim) hH).rd) (j := 1) ha1 ty_uint8 (off := 0) rfl rfl rfl hb⟩) ?_
    refine s_cons (by exact ⟨rfl, fun b w hH hb => exec_conv Try.underlying5 Try.underlying41 (wrap_u32 (by omega)) rfl rfl hb⟩) ?_
    refine s_cons (by exact ⟨rfl, fun b w hH hb => exec_shlN (s := 8) (by decide) (wrap_u32l (m := a1.toNat) (s := 8) (N := a1.toNat * 256) rfl (by omega)) rfl rfl rfl hb⟩) ?_
    refine s_cons (by exact ⟨rfl, fun b w hH hb => exec_or (or_n (by omega) (by omega) (or_two 8 (by omega))) rfl rfl rfl hb⟩) ?_
    refine s_cons (by exact ⟨rfl, fun b w hH hb => exec_q1 hflS rfl hb⟩) ?_
    refine s_cons (by exact ⟨rfl, fun b w hH hb => e_sidx okB ((arg8 hv (Below.refl _ _) (fun _ h => h.elim) hH).rd) sl_uint8 (j := 2) ha2 rfl rfl rfl hb⟩) ?_
    refine s_cons (by exact ⟨rfl, fun b w hH hb => e_sload okB (by decide) ((arg8 hv (Below.refl _ _) (fun _ h => h.elim) hH).rd) (j := 2) ha2 ty_uint8 (off := 0) rfl rfl rfl hb⟩) ?_
    refine s_cons (by exact ⟨rfl, fun b w hH hb => exec_conv Try.underlying5 Try.underlying41 (wrap_u32 (by omega)) rfl rfl hb⟩) ?_
    refine s_cons (by exact ⟨rfl, fun b w hH hb => exec_shlN (s := 16) (by decide) (wrap_u32l (m := a2.toNat) (s := 16) (N := a2.toNat * 65536) rfl (by omega)) rfl rfl rfl hb⟩) ?_
    refine s_cons (by exact ⟨rfl, fun b w hH hb => exec_or (or_n (by omega) (by omega) (or_two 16 (by omega))) rfl rfl rfl hb⟩) ?_
    refine s_cons (by exact ⟨rfl, fun b w hH hb => exec_q1 hflS rfl hb⟩) ?_
    refine s_cons (by exact ⟨rfl, fun b w hH hb => e_sidx okB ((arg8 hv (Below.refl _ _) (fun _ h => h.elim) hH).rd) sl_uint8 (j := 3) ha3 rfl rfl rfl hb⟩) ?_
    refine s_cons (by exact ⟨rfl, fun b w hH hb => e_sload okB (by decide) ((arg8 hv (Below.refl _ _) (fun _ h => h.elim) hH).rd) (j := 3) ha3 ty_uint8 (off := 0) rfl rfl rfl hb⟩) ?_
    refine s_cons (by exact ⟨rfl, fun b w hH hb => exec_conv Try.underlying5 Try.underlying41 (wrap_u32 (by omega)) rfl rfl hb⟩) ?_
    refine s_cons (by exact ⟨rfl, fun b w hH hb => exec_shlN (s := 24) (by decide) (wrap_u32l (m := a3.toNat) (s := 24) (N := a3.toNat * 16777216) rfl (by omega)) rfl rfl rfl hb⟩) ?_
    refine s_cons (by exact ⟨rfl, fun b w hH hb => exec_or (or_n (by omega) (by omega) ((or_two 24 (by omega)).trans hn_)) rfl rfl rfl hb⟩) ?_
    exact s_nil
  refine WL2.keep (env' := [(2, .int .u32 0), (24, .int .u32 (n : Int))]) ⟨rfl, rfl, trivial⟩ ?_
  refine h_q hflS rfl ?_
  refine h_nil (f_to (d_ret ?_))
  exact f_fin1 (.tmp rfl) (fun w h => ⟨rfl, below0 h.up⟩) rfl

theorem n4_lt (y : List UInt8) : n4 y 0 < 4294967296 := by
  have := (y.getD 0 0).toNat_lt
  have := (y.getD (0 + 1) 0).toNat_lt
  have := (y.getD (0 + 2) 0).toNat_lt
  have := (y.getD (0 + 3) 0).toNat_lt
  unfold n4; omega
def fstP (A : Option Addr) (c : Nat) (y : List UInt8) : Value := if 8 ≤ y.length ∧ n4 y 0 ≤ 65536 ∧ n4 y 0 + 8 ≤ y.length then .slice (if c = 8 then A else A.map (·.add 8)) (n4 y 0) (c - 8) else .slice none 0 0
theorem n4_take {y : List UInt8} (h : 4 ≤ y.length) : n4 (y.take 4) 0 = n4 y 0 := by
  have e : ∀ k, k < 4 → (y.take 4).getD k 0 = y.getD k 0 := fun k hk => by rw [List.getD_eq_getElem?_getD, List.getD_eq_getElem?_getD, List.getElem?_take, if_pos hk]
  unfold n4
  rw [e 0 (by decide), e (0 + 1) (by decide), e (0 + 2) (by decide), e (0 + 3) (by decide)]
theorem sum_eq {y : List UInt8} {s : Nat} (h8 : 4 ≤ y.length) (hs : s < 4294967296) : y.take 4 = b4 s ↔ n4 y 0 = s := by
  refine ⟨fun h => ?_, fun h => ?_⟩
  · rw [← n4_take h8, h]
    have := n4_b4 hs []
    rwa [List.append_nil] at this
  · match y, h8 with
    | a :: b :: c :: d :: r, _ =>
      have h1 : a.toNat + b.toNat * 256 + c.toNat * 65536 + d.toNat * 16777216 = s := h
      have ha := a.toNat_lt
      have hb := b.toNat_lt
      have hc := c.toNat_lt
      have hd := d.toNat_lt
      have e0 : UInt8.ofNat s = a := UInt8.toNat_inj.1 (by rw [UInt8.toNat_ofNat']; omega)
      have e1 : UInt8.ofNat (s / 256) = b := UInt8.toNat_inj.1 (by rw [UInt8.toNat_ofNat']; omega)
      have e2 : UInt8.ofNat (s / 65536) = c := UInt8.toNat_inj.1 (by rw [UInt8.toNat_ofNat']; omega)
      have e3 : UInt8.ofNat (s / 16777216) = d := UInt8.toNat_inj.1 (by rw [UInt8.toNat_ofNat']; omega)
      unfold b4
      rw [e0, e1, e2, e3]; rfl
theorem next_is {y x : List UInt8} {n : Nat} (h8 : 8 ≤ y.length) (hn : n4 y 0 = n) (h1 : n ≤ 65536) (h2 : n + 8 ≤ y.length) (hx : (y.drop 8).take n = x) : (nextF y).isSome = decide (crcSum x = n4 (y.drop 4) 0) := by
  have h3 := sum_eq (y := y.drop 4) (s := crcSum x) (by rw [List.length_drop]; omega) (crc_lt x)
  unfold nextF
  rw [hn, hx]
  by_cases h : crcSum x = n4 (y.drop 4) 0
  · rw [if_pos ⟨h8, h1, h2, h3.2 h.symm⟩, decide_eq_true h]; rfl
  · rw [if_neg (fun hc => h (h3.1 hc.2.2.2).symm), decide_eq_false h]; rfl
theorem next_no {y : List UInt8} (h : ¬ (8 ≤ y.length ∧ n4 y 0 ≤ 65536 ∧ n4 y 0 + 8 ≤ y.length)) : (nextF y).isSome = false := by
  unfold nextF
  rw [if_neg (fun hc => h ⟨hc.1, hc.2.1, hc.2.2.1⟩)]; rfl
theorem fst_no {A : Option Addr} {c : Nat} {y : List UInt8} (h : ¬ (8 ≤ y.length ∧ n4 y 0 ≤ 65536 ∧ n4 y 0 + 8 ≤ y.length)) : fstP A c y = .slice none 0 0 := if_neg h
theorem sl8_take {w : World} {A : Option Addr} {c k : Nat} {l : List UInt8} (h : Sl8 w (.slice A l.length c) l) (hk : k ≤ l.length) : Sl8 w (.slice A (l.take k).length c) (l.take k) := h.takes hk
theorem sl8_drop {w : World} {A : Option Addr} {c i : Nat} {l : List UInt8} (h : Sl8 w (.slice A l.length c) l) (hi : i ≤ l.length) : Sl8 w (.slice (if c = i then A else A.map (·.add i)) (l.drop i).length (c - i)) (l.drop i) := by
  have h3 := frm_mid h hi (Nat.le_refl _)
  rwa [List.take_length] at h3

set_option maxRecDepth 100000 in
theorem first_c (w : World) {y : List UInt8} {A : Option Addr} {c : Nat} (hv : Sl8 w (.slice A y.length c) y) (hl : y.length ≤ 137438953472) : Calls Try.prog 25 #[.slice A y.length c] w fun e w' => e = .returned (.tuple #[fstP A c y, .bool (nextF y).isSome]) ∧ Below w.heap.size w w' := by
  refine d_in (args := [.slice A y.length c]) 35 Try.func25 rfl rfl rfl ?_
  refine d_reg ?_
  refine h_q hflS rfl ?_
  refine h_done (d_seq ?_)
  rcases Nat.lt_or_ge y.length 8 with h8 | h8
  · skip
    have hno : ¬ (8 ≤ y.length ∧ n4 y 0 ≤ 65536 ∧ n4 y 0 + 8 ≤ y.length) := fun h => by have := h.1; omega
    rw [next_no hno, fst_no hno]
    refine d_reg ?_
    refine h_q hflS rfl ?_
    refine h_val rfl (.int .i64 (y.length : Int)) (fun b w hb hH => e_slen ((arg8 hv (Below.refl _ _) (fun _ h => h.elim) hH).rd) Try.underlying23 rfl rfl hb) ?_
    refine h_val rfl (.bool true) (fun b w hb hH => exec_cmp rfl rfl rfl (cmp_lss_t (by omega)) hb) ?_
    refine h_done (d_then rfl (d_reg ?_))
    refine h_q hflS rfl ?_
    refine h_done (d_ret (f_then_ret ?_))
    exact f_fin2 (.tmp rfl) (.tmp rfl) (fun w h => ⟨rfl, below0 h.up⟩) rfl
  · skip
    obtain ⟨A4, hA4⟩ : ∃ A4, (if c = 4 then A else A.map (·.add 4)) = A4 := ⟨_, rfl⟩
    obtain ⟨A8, hA8⟩ : ∃ A8, (if c = 8 then A else A.map (·.add 8)) = A8 := ⟨_, rfl⟩
    have hv4 : Sl8 w (.slice A4 (y.drop 4).length (c - 4)) (y.drop 4) := by have h3 := sl8_drop hv (i := 4) (by omega); rwa [hA4] at h3
    have hv9 : Sl8 w (.slice A8 (y.drop 8).length (c - 8)) (y.drop 8) := by have h3 := sl8_drop hv (i := 8) (by omega); rwa [hA8] at h3
    have hs4 : subv 1 (.slice A y.length c) 4 y.length = .slice A4 (y.drop 4).length (c - 4) := by rw [← hA4, List.length_drop]; exact sub_mid
    have hs9 : subv 1 (.slice A y.length c) 8 y.length = .slice A8 (y.drop 8).length (c - 8) := by rw [← hA8, List.length_drop]; exact sub_mid
    have hcp := sl8_cap hv
    have hd4 : (y.drop 4).length = y.length - 4 := List.length_drop ..
    have hd8 : (y.drop 8).length = y.length - 8 := List.length_drop ..
    obtain ⟨n, hn⟩ : ∃ n, n4 y 0 = n := ⟨_, rfl⟩
    obtain ⟨m, hm⟩ : ∃ m, n4 (y.drop 4) 0 = m := ⟨_, rfl⟩
    have hn32 : n < 4294967296 := hn ▸ n4_lt y
    have hm32 : m < 4294967296 := hm ▸ n4_lt _
    refine d_reg ?_
    refine h_q hflS rfl ?_
    refine h_val rfl (.int .i64 (y.length : Int)) (fun b w hb hH => e_slen ((arg8 hv (Below.refl _ _) (fun _ h => h.elim) hH).rd) Try.underlying23 rfl rfl hb) ?_
    refine h_val rfl (.bool false) (fun b w hb hH => exec_cmp rfl rfl rfl (cmp_lss_f (by omega)) hb) ?_
    refine h_done (d_else rfl (d_skip (f_to (d_seq ?_))))
    refine d_parS 9 2 [⟨.quiet, [none, none], fun _ => .slice A y.length c, []⟩, ⟨.actv 0, [some false, some false], fun _ => .int .u32 (n : Int), [0]⟩, ⟨.quiet, [none, none], fun _ => .slice A y.length c, []⟩, ⟨.quiet, [none, none], fun _ => .slice A4 (y.drop 4).length (c - 4), [2]⟩, ⟨.actv 1, [some true, some false], fun _ => .int .u32 (m : Int), [3]⟩, ⟨.quiet, [none, none], fun _ => .slice A y.length c, []⟩, ⟨.quiet, [none, none], fun _ => .slice A8 (y.drop 8).length (c - 8), [5]⟩, ⟨.quiet, [some true, some true], fun _ => .int .u32 (n : Int), [1]⟩, ⟨.quiet, [some true, some true], fun _ => .int .u32 (m : Int), [4]⟩] [(0, .slice A y.length c), (2, .slice none 0 0), (3, .bool false)] (fun ρ => match ρ with | [r0, r1] => [] | _ => []) (by kernel_rfl) (by kernel_rfl) ⟨rfl, rfl, rfl, trivial⟩ rfl ?_ ?_
    · skip
      refine s_cons (by intro r0_ r1_; exact ⟨rfl, fun b w hH hb => exec_q1 hflS rfl hb⟩) ?_
      refine s_cons (by exact ⟨rfl, Acts.su (a_call (ent_of Try.func26 (by kernel_rfl) rfl) (fun w hH => num_c _ (arg8 hv (Below.refl _ _) (fun _ h => h.elim) hH) (by omega) hn) rfl rfl rfl) rfl⟩) ?_
      refine s_cons (by intro r0_ r1_; exact ⟨rfl, fun b w hH hb => exec_q1 hflS rfl hb⟩) ?_
      refine s_cons (by intro r0_ r1_; exact ⟨rfl, fun b w hH hb => e_sub_lo (i := 4) sl_uint8 hs4 (by omega) rfl rfl rfl hH hb⟩) ?_
      refine s_cons (by intro v0_; exact ⟨rfl, Acts.su (a_call (ent_of Try.func26 (by kernel_rfl) rfl) (fun w hH => num_c _ (arg8 hv4 (Below.refl _ _) (fun _ h => h.elim) hH) (by omega) hm) rfl rfl rfl) rfl⟩) ?_
      refine s_cons (by intro r0_ r1_; exact ⟨rfl, fun b w hH hb => exec_q1 hflS rfl hb⟩) ?_
      refine s_cons (by intro r0_ r1_; exact ⟨rfl, fun b w hH hb => e_sub_lo (i := 8) sl_uint8 hs9 (by omega) rfl rfl rfl hH hb⟩) ?_
      refine s_cons (by intro v0_ v1_; exact ⟨rfl, fun b w hH hb => exec_q1 hflS rfl hb⟩) ?_
      refine s_cons (by intro v0_ v1_; exact ⟨rfl, fun b w hH hb => exec_q1 hflS rfl hb⟩) ?_
      exact s_nil
    intro v0_ v1_
    refine WL2.keep (env' := [(2, .slice none 0 0), (3, .bool false), (17, .slice A8 (y.drop 8).length (c - 8)), (4, .int .u32 (n : Int)), (5, .int .u32 (m : Int))]) ⟨rfl, rfl, rfl, rfl, rfl, trivial⟩ ?_
    refine h_q hflS rfl ?_
    refine h_nil (f_to (d_seq ?_))
    have hc : 65536 < n ∨ (n ≤ 65536 ∧ y.length - 8 < n) ∨ (n ≤ 65536 ∧ n ≤ y.length - 8) := by omega
    rcases hc with h1 | ⟨h1, h2⟩ | ⟨h1, h2⟩
    · skip
      have hno : ¬ (8 ≤ y.length ∧ n4 y 0 ≤ 65536 ∧ n4 y 0 + 8 ≤ y.length) := fun h => by have := h.2.1; omega
      rw [next_no hno, fst_no hno]
      refine d_reg ?_
      refine h_q hflS rfl ?_
      refine h_val rfl (.bool true) (fun b w hb hH => exec_cmp rfl rfl rfl (cmp_gtr_t (by omega)) hb) ?_
      refine h_q hflS rfl ?_
      refine h_done (d_then rfl (d_reg ?_))
      refine h_q hflS rfl ?_
      refine h_done (d_ret (f_then_ret ?_))
      exact f_fin2 (.tmp rfl) (.tmp rfl) (fun w h => ⟨rfl, below0 h.up⟩) rfl
    · skip
      have hno : ¬ (8 ≤ y.length ∧ n4 y 0 ≤ 65536 ∧ n4 y 0 + 8 ≤ y.length) := fun h => by have := h.2.2; omega
      rw [next_no hno, fst_no hno]
      refine d_reg ?_
      refine h_q hflS rfl ?_
      refine h_val rfl (.bool false) (fun b w hb hH => exec_cmp rfl rfl rfl (cmp_gtr_f (by omega)) hb) ?_
      refine h_q hflS rfl ?_
      refine h_val rfl (.int .i64 (n : Int)) (fun b w hb hH => exec_conv Try.underlying41 Try.underlying3 (IntWalk.i64_in _ (by omega)) rfl rfl hb) ?_
      refine h_q hflS rfl ?_
      refine h_val rfl (.int .i64 ((y.drop 8).length : Int)) (fun b w hb hH => e_slen ((arg8 hv9 (Below.refl _ _) (fun _ h => h.elim) hH).rd) Try.underlying23 rfl rfl hb) ?_
      refine h_val rfl (.bool true) (fun b w hb hH => exec_cmp rfl rfl rfl (cmp_gtr_t (by omega)) hb) ?_
      refine h_q hflS rfl ?_
      refine h_done (d_then rfl (d_reg ?_))
      refine h_q hflS rfl ?_
      refine h_done (d_ret (f_then_ret ?_))
      exact f_fin2 (.tmp rfl) (.tmp rfl) (fun w h => ⟨rfl, below0 h.up⟩) rfl
    · skip
      obtain ⟨x, hx⟩ : ∃ x, (y.drop 8).take n = x := ⟨_, rfl⟩
      have hxl : x.length = n := by rw [← hx, List.length_take]; omega
      have hvx : Sl8 w (.slice A8 x.length (c - 8)) x := by have h3 := (sl8_take hv9 (k := n) (by omega)); rwa [hx] at h3
      have hsx : subv 1 (.slice A8 (y.drop 8).length (c - 8)) 0 n = .slice A8 x.length (c - 8) := by rw [hxl]; exact subTake
      have hfst : fstP A c y = .slice A8 x.length (c - 8) := by unfold fstP; rw [if_pos ⟨h8, by omega, by omega⟩, hA8, hn, hxl]
      rw [hfst, next_is h8 hn h1 (by omega) hx, hm]
      have hs32 := crc_lt x
      refine d_reg ?_
      refine h_q hflS rfl ?_
      refine h_val rfl (.bool false) (fun b w hb hH => exec_cmp rfl rfl rfl (cmp_gtr_f (by omega)) hb) ?_
      refine h_q hflS rfl ?_
      refine h_val rfl (.int .i64 (n : Int)) (fun b w hb hH => exec_conv Try.underlying41 Try.underlying3 (IntWalk.i64_in _ (by omega)) rfl rfl hb) ?_
      refine h_q hflS rfl ?_
      refine h_val rfl (.int .i64 ((y.drop 8).length : Int)) (fun b w hb hH => e_slen ((arg8 hv9 (Below.refl _ _) (fun _ h => h.elim) hH).rd) Try.underlying23 rfl rfl hb) ?_
      refine h_val rfl (.bool false) (fun b w hb hH => exec_cmp rfl rfl rfl (cmp_gtr_f (by omega)) hb) ?_
      refine h_q hflS rfl ?_
      refine h_done (d_else rfl (d_skip (f_to (d_reg ?_))))
      refine h_q hflS rfl ?_
      refine h_val rfl (.slice A8 x.length (c - 8)) (fun b w hb hH => e_sub_hi (j := n) sl_uint8 hsx (by omega) rfl rfl rfl hH hb) ?_
      refine h_q hflS rfl ?_
      refine h_done ?_
      rcases Classical.em (crcSum x = m) with hz | hz
      · skip
        rw [decide_eq_true hz]
        refine d_reg ?_
        refine h_q hflS rfl ?_
        refine h_act (post := fun _ => []) rfl (a_call (ent_of Try.func19 (by kernel_rfl) rfl) (fun w hH => sum_c (arg8 hvx (Below.refl _ _) (fun _ h => h.elim) hH) (by omega)) rfl rfl rfl) ?_; rintro ⟨⟩
        refine h_q hflS rfl ?_
        refine h_val rfl (.bool true) (fun b w hb hH => exec_cmp rfl rfl rfl (cmp_eql_t (by omega)) hb) ?_
        refine h_q hflS rfl ?_
        refine h_done (d_ret ?_)
        exact f_fin2 (.tmp rfl) (.tmp rfl) (fun w h => ⟨rfl, below0 h.up⟩) rfl
      · skip
        rw [decide_eq_false hz]
        refine d_reg ?_
        refine h_q hflS rfl ?_
        refine h_act (post := fun _ => []) rfl (a_call (ent_of Try.func19 (by kernel_rfl) rfl) (fun w hH => sum_c (arg8 hvx (Below.refl _ _) (fun _ h => h.elim) hH) (by omega)) rfl rfl rfl) ?_; rintro ⟨⟩
        refine h_q hflS rfl ?_
        refine h_val rfl (.bool false) (fun b w hb hH => exec_cmp rfl rfl rfl (cmp_eql_f (by omega)) hb) ?_
        refine h_q hflS rfl ?_
        refine h_done (d_ret ?_)
        exact f_fin2 (.tmp rfl) (.tmp rfl) (fun w h => ⟨rfl, below0 h.up⟩) rfl
end Go.Proofs.Ythamiglbifgepaa.Sep

namespace Go.Proofs.Ythamiglbifgepaa.Sep
open Go.RowKit
open Go.Proofs.Ythamiglbifgepaa.Mem (Dist Blk Chg below0)

set_option maxRecDepth 100000 in
theorem frame_doesU (u : World) {v : Value} {y r : List UInt8} (hv : Sl8 u v y) (hl : y.length ≤ 140737488351232) (hr : frameL y = r) : DoesU u Try.prog 9 #[v] [] (fun (v : Value) => v) (fun (v : Value) => [Vec 5 1 encB v r]) := by
  refine d_insU (args := [v]) 23 Try.func9 rfl rfl rfl ?_; intro w rs hU hS
  refine d_reg ?_
  refine h_q hflS rfl ?_
  refine h_done (d_seq ?_)
  rcases Nat.lt_or_ge 65536 y.length with h0 | h0
  · skip
    obtain rfl : r = [] := by rw [← hr]; unfold frameL; rw [if_neg (by omega)]
    refine d_reg ?_
    refine h_q hflS rfl ?_
    refine h_val rfl (.int .i64 (y.length : Int)) (fun b w hb hH => e_slen ((arg8 hv hU hS hH).rd) Try.underlying23 rfl rfl hb) ?_
    refine h_val rfl (.bool true) (fun b w hb hH => exec_cmp rfl rfl rfl (cmp_gtr_t (by omega)) hb) ?_
    refine h_done (d_then rfl ?_)
    refine d_nilvec 5 1 encB ?_
    refine d_reg ?_
    refine h_q hflS rfl ?_
    refine h_done (d_ret (f_then_ret ?_))
    exact f_fin1 (.tmp rfl) (fun w h => tells (.slice none 0 0) rfl [0] rfl h same_parts) rfl
  · skip
    have hc := crc_lt y
    have hr_ : b4 y.length ++ b4 (crcSum y) ++ y = r := by rw [← hr]; unfold frameL; rw [if_pos h0]
    refine d_reg ?_
    refine h_q hflS rfl ?_
    refine h_val rfl (.int .i64 (y.length : Int)) (fun b w hb hH => e_slen ((arg8 hv hU hS hH).rd) Try.underlying23 rfl rfl hb) ?_
    refine h_val rfl (.bool false) (fun b w hb hH => exec_cmp rfl rfl rfl (cmp_gtr_f (by omega)) hb) ?_
    refine h_done (d_else rfl (d_skip (f_to (d_reg ?_))))
    refine h_q hflS rfl ?_
    refine h_val rfl (.int .i64 (y.length : Int)) (fun b w hb hH => e_slen ((arg8 hv hU hS hH).rd) Try.underlying23 rfl rfl hb) ?_
    refine h_val rfl (.int .i64 ((8 + y.length : Nat) : Int)) (fun b w hb hH => exec_ar rfl rfl rfl rfl (by rw [IntWalk.i64_in _ (by omega)]; omega) hb) ?_
    refine h_act (post := fun f0 => [Vec 5 1 encB f0 ([])]) rfl (a_mkcap8 sl_uint8 (by kernel_rfl) (fun w => by kernel_rfl) (N := (8 + y.length)) ⟨by omega, by omega⟩ rfl rfl rfl) ?_; rintro f0
    refine h_q hflS rfl ?_
    refine h_done (d_reg ?_)
    refine h_q hflS rfl ?_
    refine h_val rfl (.int .i64 (y.length : Int)) (fun b w hb hH => e_slen ((arg8 hv hU hS hH).rd) Try.underlying23 rfl rfl hb) ?_
    refine h_val rfl (.int .u32 (y.length : Int)) (fun b w hb hH => exec_conv Try.underlying3 Try.underlying41 (wrap_u32 (by omega)) rfl rfl hb) ?_
    refine h_act (post := fun f1 => [Vec 5 1 encB f1 (b4 y.length)]) rfl (a_does (os' := fun f1 => [Vec 5 1 encB f1 (b4 y.length)]) [0] 0 (ent_of Try.func18 (by kernel_rfl) rfl) (appnum_does (l := []) (n := y.length) (r := b4 y.length) (by omega) (by simp) rfl) rfl rfl rfl (fun _ => rfl) rfl rfl rfl) ?_; rintro f1
    refine h_q hflS rfl ?_
    refine h_done (d_reg ?_)
    refine h_q hflS rfl ?_
    refine h_act (post := fun _ => [Vec 5 1 encB f1 (b4 y.length)]) rfl (a_call (ent_of Try.func19 (by kernel_rfl) rfl) (fun w hH => sum_c (arg8 hv hU hS hH) (by omega)) rfl rfl rfl) ?_; rintro ⟨⟩
    refine h_act (post := fun f2 => [Vec 5 1 encB f2 (b4 y.length ++ b4 (crcSum y))]) rfl (a_does (os' := fun f2 => [Vec 5 1 encB f2 (b4 y.length ++ b4 (crcSum y))]) [0] 0 (ent_of Try.func18 (by kernel_rfl) rfl) (appnum_does (l := b4 y.length) (n := (crcSum y)) (r := b4 y.length ++ b4 (crcSum y)) (crc_lt y) (by rw [b4_len]; omega) rfl) rfl rfl rfl (fun _ => rfl) rfl rfl rfl) ?_; rintro f2
    refine h_q hflS rfl ?_
    refine h_done (d_reg ?_)
    refine h_q hflS rfl ?_
    refine h_act (post := fun f3 => [Vec 5 1 encB f3 r]) rfl (a_append8 0 sl_uint8 (by kernel_rfl) rfl (y) (fun w hH => (arg8 hv hU hS hH).rd) (by rw [List.length_append, b4_len, b4_len]; omega) rfl rfl rfl hr_) ?_; rintro f3
    refine h_q hflS rfl ?_
    refine h_done (d_ret ?_)
    exact f_fin1 (.tmp rfl) (fun w h => tells f3 rfl [0] rfl h same_parts) rfl

set_option maxRecDepth 100000 in
theorem frame_does {X : Ass} {v : Value} {y r : List UInt8} (hX : Rd8 X v y) (hl : y.length ≤ 140737488351232) (hr : frameL y = r) : Does Try.prog 9 #[v] [X] (fun (v : Value) => v) (fun (v : Value) => [X, Vec 5 1 encB v r]) := by
  refine d_ins (args := [v]) 23 Try.func9 rfl rfl rfl ?_; intro w rs
  refine d_reg ?_
  refine h_q hflS rfl ?_
  refine h_done (d_seq ?_)
  rcases Nat.lt_or_ge 65536 y.length with h0 | h0
  · skip
    obtain rfl : r = [] := by rw [← hr]; unfold frameL; rw [if_neg (by omega)]
    refine d_reg ?_
    refine h_q hflS rfl ?_
    refine h_val rfl (.int .i64 (y.length : Int)) (fun b w hb hH => e_slen ((hH.rd8 0 rfl hX).rd) Try.underlying23 rfl rfl hb) ?_
    refine h_val rfl (.bool true) (fun b w hb hH => exec_cmp rfl rfl rfl (cmp_gtr_t (by omega)) hb) ?_
    refine h_done (d_then rfl ?_)
    refine d_nilvec 5 1 encB ?_
    refine d_reg ?_
    refine h_q hflS rfl ?_
    refine h_done (d_ret (f_then_ret ?_))
    exact f_fin1 (.tmp rfl) (fun w h => tells (.slice none 0 0) rfl [1, 0] rfl h same_parts) rfl
  · skip
    have hc := crc_lt y
    have hr_ : b4 y.length ++ b4 (crcSum y) ++ y = r := by rw [← hr]; unfold frameL; rw [if_pos h0]
    refine d_reg ?_
    refine h_q hflS rfl ?_
    refine h_val rfl (.int .i64 (y.length : Int)) (fun b w hb hH => e_slen ((hH.rd8 0 rfl hX).rd) Try.underlying23 rfl rfl hb) ?_
    refine h_val rfl (.bool false) (fun b w hb hH => exec_cmp rfl rfl rfl (cmp_gtr_f (by omega)) hb) ?_
    refine h_done (d_else rfl (d_skip (f_to (d_reg ?_))))
    refine h_q hflS rfl ?_
    refine h_val rfl (.int .i64 (y.length : Int)) (fun b w hb hH => e_slen ((hH.rd8 0 rfl hX).rd) Try.underlying23 rfl rfl hb) ?_
    refine h_val rfl (.int .i64 ((8 + y.length : Nat) : Int)) (fun b w hb hH => exec_ar rfl rfl rfl rfl (by rw [IntWalk.i64_in _ (by omega)]; omega) hb) ?_
    refine h_act (post := fun f0 => [Vec 5 1 encB f0 ([]), X]) rfl (a_mkcap8 sl_uint8 (by kernel_rfl) (fun w => by kernel_rfl) (N := (8 + y.length)) ⟨by omega, by omega⟩ rfl rfl rfl) ?_; rintro f0
    refine h_q hflS rfl ?_
    refine h_done (d_reg ?_)
    refine h_q hflS rfl ?_
    refine h_val rfl (.int .i64 (y.length : Int)) (fun b w hb hH => e_slen ((hH.rd8 1 rfl hX).rd) Try.underlying23 rfl rfl hb) ?_
    refine h_val rfl (.int .u32 (y.length : Int)) (fun b w hb hH => exec_conv Try.underlying3 Try.underlying41 (wrap_u32 (by omega)) rfl rfl hb) ?_
    refine h_act (post := fun f1 => [Vec 5 1 encB f1 (b4 y.length), X]) rfl (a_does (os' := fun f1 => [Vec 5 1 encB f1 (b4 y.length), X]) [0] 0 (ent_of Try.func18 (by kernel_rfl) rfl) (appnum_does (l := []) (n := y.length) (r := b4 y.length) (by omega) (by simp) rfl) rfl rfl rfl (fun _ => rfl) rfl rfl rfl) ?_; rintro f1
    refine h_q hflS rfl ?_
    refine h_done (d_reg ?_)
    refine h_q hflS rfl ?_
    refine h_act (post := fun _ => [Vec 5 1 encB f1 (b4 y.length), X]) rfl (a_call (ent_of Try.func19 (by kernel_rfl) rfl) (fun w hH => sum_c (hH.rd8 1 rfl hX) (by omega)) rfl rfl rfl) ?_; rintro ⟨⟩
    refine h_act (post := fun f2 => [Vec 5 1 encB f2 (b4 y.length ++ b4 (crcSum y)), X]) rfl (a_does (os' := fun f2 => [Vec 5 1 encB f2 (b4 y.length ++ b4 (crcSum y)), X]) [0] 0 (ent_of Try.func18 (by kernel_rfl) rfl) (appnum_does (l := b4 y.length) (n := (crcSum y)) (r := b4 y.length ++ b4 (crcSum y)) (crc_lt y) (by rw [b4_len]; omega) rfl) rfl rfl rfl (fun _ => rfl) rfl rfl rfl) ?_; rintro f2
    refine h_q hflS rfl ?_
    refine h_done (d_reg ?_)
    refine h_q hflS rfl ?_
    refine h_act (post := fun f3 => [Vec 5 1 encB f3 r, X]) rfl (a_append8 0 sl_uint8 (by kernel_rfl) rfl (y) (fun w hH => hH.rd 1 rfl hX.rd) (by rw [List.length_append, b4_len, b4_len]; omega) rfl rfl rfl hr_) ?_; rintro f3
    refine h_q hflS rfl ?_
    refine h_done (d_ret ?_)
    exact f_fin1 (.tmp rfl) (fun w h => tells f3 rfl [1, 0] rfl h same_parts) rfl
end Go.Proofs.Ythamiglbifgepaa.Sep

namespace Go.Proofs.Ythamiglbifgepaa.Sep
open Go.RowKit
open Go.Proofs.Ythamiglbifgepaa.Mem (Dist Blk Chg)
def DoesL {X : Type} (L : Nat) (ob : Obj) (P : Program) (F : FuncId) (args : Array Value) (pre : List Ass) (val : X → Value) (post : X → List Ass) : Prop :=
  ∀ w rs, w.heap[L]? = some ob → (∀ x ∈ rs, x.1 ≠ L) → Parts pre rs → RowsOf w rs → Dist rs → Calls P F args w fun e w' => ∃ x, e = .returned (val x) ∧ ∃ rs', Parts (post x) rs' ∧ Chg w w' rs rs'
section
variable {P : Program} {B : Nat → Prop} {L : Nat} {ob : Obj} {w0 w w' : World} {os : List Ass}
theorem DoesL.pad {X : Type} {F : FuncId} {args : Array Value} {pre : List Ass} {val : X → Value} {post : X → List Ass} (h : DoesL L ob P F args pre val post) (k : Nat) : DoesL L ob P F args (pre ++ List.replicate k emp) val post := fun w rs hu hs h1 h2 h3 => by
  obtain ⟨a, b, e, ha, hb⟩ := h1.split
  have := parts_emp.1 hb
  subst this
  rw [List.append_nil] at e
  subst e
  exact h w _ hu hs ha h2 h3
theorem DoesL.calls {X : Type} {F : FuncId} {vs : List Value} {pre : List Ass} {val : X → Value} {post : X → List Ass} (hU : w0.heap[L]? = some ob) (hS : ∀ k, B k → k ≠ L) (ids : List Nat) (hc : DoesL L ob P F vs.toArray pre val post) (hp : selA ids os = pre) (hn : ids.Nodup) (h : Hp B w0 w os) : Calls P F vs.toArray w fun e w' => ∃ x, e = .returned (val x) ∧ Hp B w0 w' (post x ++ rstA ids os) := by
  subst hp
  have hL : L < w0.heap.size := (Array.getElem?_eq_some_iff.1 hU).1
  have hm : w.heap[L]? = some ob := (h.up.block L hL (fun hb => hS L hb rfl)).trans hU
  obtain ⟨x, h0, h1, h2, h3, h4⟩ := h.give2 ids hn
  refine (hc w x hm (fun r hr => ?_) h1 h2 h3).mono fun e w' ⟨v, he, y, hy, hch⟩ => ⟨v, he, h4 _ y w' hy hch⟩
  by_cases hlt : r.1 < w0.heap.size
  · exact hS _ (h0 r hr hlt)
  · omega
variable {Q : Exit → Act → World → Prop} {n : Nat} {env : List (Nat × Value)} {o : Oper}
theorem d_insL {X : Type} {fn : Func} {f : FuncId} {c : Code} {args : List Value} {pre : List Ass} {val : X → Value} {post : X → List Ass} (n : Nat) (hf : P.funcs[f]? = some fn) (hb : fn.body = some c) (hn : fn.ntmps = n) (hs : Nat.ble args.length n = true)
    (h : ∀ (w : World) (rs : List RowT), w.heap[L]? = some ob → (∀ k, Blk rs k → k ≠ L) → WC2 P (bodyPost P fn fun e w' => ∃ x, e = .returned (val x) ∧ ∃ rs', Parts (post x) rs' ∧ Chg w w' rs rs') n (argEnv 0 args) (Blk rs) w pre c) : DoesL L ob P f args.toArray pre val post :=
  fun w rs hU hS h1 h2 h3 => calls_in n hf hb hn (Nat.le_of_ble_eq_true hs) fun a hF => h w rs hU (fun k ⟨x, hx, e⟩ => e ▸ hS x hx) a w hF (Hp.given h1 h2 h3)
end
end Go.Proofs.Ythamiglbifgepaa.Sep

namespace Go.Proofs.Ythamiglbifgepaa.Sep
open Go.RowKit
open Go.Proofs.Ythamiglbifgepaa.Mem (Dist Blk Chg)
section
variable {P : Program} {ops : Array Oper} {Q : Exit → Act → World → Prop} {a : Act} {w : World} {o : Oper}
/-- on at the end, else as Q -/
def OnQ (K : Act → World → Prop) (Q : Exit → Act → World → Prop) : Exit → Act → World → Prop
  | .normal, a, w => K a w
  | .ret, a, w => Q .ret a w
  | .exit id, a, w => Q (.exit id) a w
  | .goto t, a, w => Q (.goto t) a w
  | .panic c, a, w => Q (.panic c) a w
  | .outgrown, a, w => Q .outgrown a w
theorem op_in {m : Nat} {K K' J : Act → World → Prop} (h : o.wp P a w K (OnQ J Q)) (hK : ∀ a w, K a w → K' a w) : o.wpIn Fence.wide m P a w K' Q := by
  refine ⟨fun _ _ => trivial, ?_⟩
  have hs : Oper.semAt Fence.wide.round a.eval o = execOp a.eval o := rfl
  rw [hs]
  unfold Oper.wp at h
  generalize (execOp a.eval o).run P w = r at h ⊢
  cases r with
  | ok nx w' =>
    cases nx with
    | value v => exact hK _ _ h
    | skip => exact hK _ _ h
    | defer d => exact hK _ _ h
    | enter f args =>
      refine ⟨fun h => (by cases h), callsIn_wide.2 (Calls.mono h ?_)⟩
      rintro (v | c | _) w'' h
      · exact hK _ _ h
      · exact h
      · exact h
    | row r args =>
      refine ⟨fun h => (by cases h), fun c cs _ => ?_⟩
      obtain ⟨v, w'', h1, h2⟩ := h c cs
      exact ⟨v, w'', hK _ _ h1, stepsIn_wide.2 h2⟩
    | _ => exact h.elim
  | halt e w' =>
    cases e with
    | panic v => exact h
    | _ => exact h.elim
theorem list_in {m : Nat} {rest : List Oper} (hn : ¬ LetsOut Q) : ∀ {pre : List Oper} {a : Act} {w : World}, wpList P ops (OnQ (wpListIn Fence.wide m P ops Q rest) Q) pre a w → wpListIn Fence.wide m P ops Q (pre ++ rest) a w
  | [], a, w, h => h
  | o :: r, a, w, h => by
    unfold wpList at h
    show if Region.wanted o (yielded ops a.tmps) then _ else _
    split at h
    · rename_i hw
      rw [if_pos hw]
      rcases h with h | ⟨_, x, y, h⟩
      · exact op_in h fun a w h => list_in hn h
      · exact absurd ⟨x, y, h⟩ hn
    · rename_i hw
      rw [if_neg hw]
      exact ⟨fun _ _ => trivial, list_in hn h⟩
end
section
variable {P : Program} {ops : Array Oper} {Q : Exit → Act → World → Prop} {n d L : Nat} {B : Nat → Prop} {w0 : World} {env : List (Nat × Value)} {os os' : List Ass} {o : Oper} {rest : List Oper} {r : Loop}
/-- what a round does that goes on -/
def DoesR (L : Nat) (ob : Obj) (P : Program) (fn : FuncId) (tmps : Array Value) (assign body : Code) (pre post : List Ass) : Prop :=
  ∀ w rs, w.heap[L]? = some ob → (∀ x ∈ rs, x.1 ≠ L) → Parts pre rs → RowsOf w rs → Dist rs → RoundIn Fence.wide 0 P L fn tmps assign body w fun e w' => e = .returned (.bool true) ∧ ∃ rs', Parts post rs' ∧ Chg w w' rs rs'
theorem exec_yield {act : Act} {w : World} {f : Operand} {args : Array Operand} {ats : Array TypeId} {vs : List Value} (hr : w.heap[L]? = some (.loop r)) (hs : vs.length = r.params.size) (ho : o.op = .call { callee := .value f, args := args, argTypes := ats }) (hf : evs env f = some (.func (.yield L) #[] #[])) (hx : evl env args.toList = some vs) (hF : Fr n act env) :
    (execOp act.eval o).run P w = .ok (.round L r.fn ((r.params.zip vs.toArray).foldl (fun tmps (t, a) => tmps.setIfInBounds t a) r.tmps) r.assign r.body) w := by
  have h1 : args.map act.eval = vs.toArray := by
    have := hF.evl hx
    rw [← this]
    cases args; simp
  have h2 := run_yield (P := P) (args := vs.toArray) hr (by simpa using hs)
  rw [← h2]
  unfold execOp
  simp [ho, resolve, h1, hF.evs hf, Deferred.ofValue, invoke]
theorem i_yield (hU : w0.heap[L]? = some (.loop r)) (hS : ∀ k, B k → k ≠ L) {f : Operand} {args : Array Operand} {ats : Array TypeId} {vs : List Value} {pre post : List Ass} (ids : List Nat) (hc : DoesR L (.loop r) P r.fn ((r.params.zip vs.toArray).foldl (fun tmps (t, a) => tmps.setIfInBounds t a) r.tmps) r.assign r.body pre post) (hsz : vs.length = r.params.size)
    (h1 : at1 ops n o env = some d) (ho : o.op = .call { callee := .value f, args := args, argTypes := ats }) (hf : evs env f = some (.func (.yield L) #[] #[])) (hx : evl env args.toList = some vs) (hp : selA ids os = pre) (hn : nodupB ids = true) (he : post ++ rstA ids os = os')
    (h : ∀ a w, Fr n a ((d, .bool true) :: env) → Hp B w0 w os' → wpListIn Fence.wide 0 P ops Q rest a w) : ∀ a w, Fr n a env → Hp B w0 w os → wpListIn Fence.wide 0 P ops Q (o :: rest) a w := by
  intro a w hF hH
  have hL : L < w0.heap.size := (Array.getElem?_eq_some_iff.1 hU).1
  have hm : w.heap[L]? = some (.loop r) := (hH.up.block L hL (fun hb => hS L hb rfl)).trans hU
  show if Region.wanted o (yielded ops a.tmps) then _ else _
  rw [if_pos (hF.wants (at1_parts h1).1)]
  refine ⟨fun _ _ => trivial, ?_⟩
  have hs : Oper.semAt Fence.wide.round a.eval o = execOp a.eval o := rfl
  rw [hs, exec_yield hm hsz ho hf hx hF, Oper.uponIn_round]
  refine ⟨fun h => (by cases h), ?_⟩
  subst hp
  obtain ⟨x, h0, h2, h3, h4, h5⟩ := hH.give2 ids (nodupB_iff hn)
  refine (hc w x hm (fun z hz => ?_) h2 h3 h4).mono ?_
  · by_cases hlt : z.1 < w0.heap.size
    · exact hS _ (h0 z hz hlt)
    · omega
  · rintro e w' ⟨rfl, y, hy, hch⟩
    have h6 := h5 _ y w' hy hch
    rw [he] at h6
    show wpListIn Fence.wide 0 P ops Q rest (a.put o.dst (.bool true)) w'
    rw [(at1_parts h1).2.1]
    exact h _ _ (hF.put (at1_parts h1).2.2 _) h6
/-- the region: what is ahead of the round, the round, what is behind it -/
theorem d_regY {id : Nat} {l : List Oper} {y : Code} (k : Nat) (hn : ¬ LetsOut Q) (h : WL2 P l.toArray (OnQ (wpListIn Fence.wide 0 P l.toArray (Exit.then (fun a w => y.wp P Q a w) Q) (l.drop k)) (Exit.then (fun a w => y.wp P Q a w) Q)) n env B w0 os (l.take k)) : WC2 P Q n env B w0 os (.seq (.region id l.toArray false) y) := fun a w hF hH => wp_seq (by
  refine (wpIn_wide (n := 0)).1 (wpIn_region_lit ?_)
  have hn' : ¬ LetsOut (Exit.then (fun a w => y.wp P Q a w) Q) := hn
  have := list_in (m := 0) hn' (h a w hF hH)
  rwa [List.take_append_drop] at this)
/-- the round's place is come to -/
theorem f_yield {K : Act → World → Prop} {Q' : Exit → Act → World → Prop} (h : ∀ a w, Fr n a env → Hp B w0 w os → K a w) : WE2 (OnQ K Q') n env B w0 os .normal := h
/-- behind the round -/
theorem onQ_same : OnQ (fun a w => Q .normal a w) Q = Q := by
  funext e a w
  cases e <;> rfl
theorem i_rest (hn : ¬ LetsOut Q) (h : WL2 P ops Q n env B w0 os rest) : ∀ a w, Fr n a env → Hp B w0 w os → wpListIn Fence.wide 0 P ops Q rest a w := fun a w hF hH => by
  have h1 := h a w hF hH
  rw [← onQ_same (Q := Q)] at h1
  have := list_in (m := 0) (rest := []) hn h1
  rwa [List.append_nil] at this
end
end Go.Proofs.Ythamiglbifgepaa.Sep

namespace Go.Proofs.Ythamiglbifgepaa.Sep
open Go.RowKit
open Go.Proofs.Ythamiglbifgepaa.Mem (Dist Blk Chg)
def noDefer (o : Oper) : Bool := match o.op with | .defer _ => false | _ => true
section
variable {P : Program} {ops : Array Oper} {Q : Exit → Act → World → Prop} {a : Act} {w w' : World} {o : Oper} {L n d : Nat} {env : List (Nat × Value)} {B : Nat → Prop} {w0 : World} {os : List Ass}
theorem op_inR {m : Nat} {K K' : Act → World → Prop} (hd : noDefer o = true) (h : o.wp P a w K Q) (hK : ∀ a w, K a w → K' a w) : o.wpIn (Fence.wide.inRound L) m P a w K' Q := by
  refine ⟨fun _ _ => trivial, ?_⟩
  rw [Oper.semAt_eq _ _ _ (fun c hc => by simp [noDefer, hc] at hd)]
  have h1 := (op_in (m := m) (J := fun a w => Q .normal a w) (Q := Q) (K := K) (K' := K') (by rw [onQ_same]; exact h) hK).2
  have hs : Oper.semAt Fence.wide.round a.eval o = execOp a.eval o := rfl
  rw [hs] at h1
  exact h1
theorem list_inR {m : Nat} (hn : ¬ LetsOut Q) : ∀ {l : List Oper} {a : Act} {w : World}, l.all noDefer = true → wpList P ops Q l a w → wpListIn (Fence.wide.inRound L) m P ops Q l a w
  | [], a, w, _, h => h
  | o :: r, a, w, hd, h => by
    rw [List.all_cons, Bool.and_eq_true] at hd
    unfold wpList at h
    show if Region.wanted o (yielded ops a.tmps) then _ else _
    split at h
    · rename_i hw
      rw [if_pos hw]
      rcases h with h | ⟨_, x, y, h⟩
      · exact op_inR hd.1 h fun a w h => list_inR hn hd.2 h
      · exact absurd ⟨x, y, h⟩ hn
    · rename_i hw
      rw [if_neg hw]
      exact ⟨fun _ _ => trivial, list_inR hn hd.2 h⟩
/-- code, in a round's frame -/
def WCR (L : Nat) (P : Program) (Q : Exit → Act → World → Prop) (n : Nat) (env : List (Nat × Value)) (B : Nat → Prop) (w0 : World) (os : List Ass) (c : Code) : Prop := ∀ a w, Fr n a env → Hp B w0 w os → c.wpIn (Fence.wide.inRound L) 0 P Q a w
theorem r_seq {x y : Code} (h : WCR L P (Exit.then (fun a w => y.wpIn (Fence.wide.inRound L) 0 P Q a w) Q) n env B w0 os x) : WCR L P Q n env B w0 os (.seq x y) := fun a w hF hH => wpIn_seq (h a w hF hH)
theorem r_block {id : Nat} {c : Code} (h : WCR L P (Exit.inBlock id Q) n env B w0 os c) : WCR L P Q n env B w0 os (.block id c) := fun a w hF hH => wpIn_block (h a w hF hH)
theorem r_reg {id : Nat} {l : List Oper} (hd : l.all noDefer = true) (hn : ¬ LetsOut Q) (h : WL2 P l.toArray Q n env B w0 os l) : WCR L P Q n env B w0 os (.region id l.toArray false) := fun a w hF hH => wpIn_region_lit (list_inR hn hd (h a w hF hH))
theorem r_else {c : Operand} {x y : Code} (hc : evs env c = some (.bool false)) (h : WCR L P Q n env B w0 os y) : WCR L P Q n env B w0 os (.cond c x y) := fun a w hF hH => wpIn_cond_false (hF.evs hc) (h a w hF hH)
theorem r_skip (h : WE2 Q n env B w0 os .normal) : WCR L P Q n env B w0 os .skip := fun a w hF hH => wpIn_skip (h a w hF hH)
theorem r_to {y : Code} {K : Exit → Act → World → Prop} (h : WCR L P Q n env B w0 os y) : WE2 (Exit.then (fun a w => y.wpIn (Fence.wide.inRound L) 0 P Q a w) K) n env B w0 os .normal := h
/-- one quiet operation, and no world turned -/
theorem r_one {id : Nat} {v : Value} (h1 : at1 [o].toArray n o env = some d) (hd : noDefer o = true) (he : ∀ a, Fr n a env → (execOp a.eval o).run P w = .ok (.value v) w) (h : ∀ a, Fr n a ((d, v) :: env) → Q .normal a w) : ∀ a, Fr n a env → (Code.region id [o].toArray false).wpIn (Fence.wide.inRound L) 0 P Q a w := fun a hF => wpIn_region_lit (by
  show if Region.wanted o (yielded [o].toArray a.tmps) then _ else _
  rw [if_pos (hF.wants (at1_parts h1).1)]
  refine ⟨fun _ _ => trivial, ?_⟩
  rw [Oper.semAt_eq _ _ _ (fun c hc => by simp [noDefer, hc] at hd), he a hF, Oper.uponIn_value]
  show Q .normal (a.put o.dst v) w
  rw [(at1_parts h1).2.1]
  exact h _ (hF.put (at1_parts h1).2.2 _))
/-- what the body tells where it goes on -/
def BodyQ (w0 : World) (rs : List RowT) (post : List Ass) : Exit → Act → World → Prop
  | .normal, _, w => ∃ rs', Parts post rs' ∧ Chg w0 w rs rs'
  | _, _, _ => False
theorem putObj_at {w : World} {l : Nat} {o : Obj} (h : l < w.heap.size) : (w.putObj l o).heap[l]? = some o := World.putObj_heap_same h
/-- THE ROUND -/
theorem doesR_of {r : Loop} {fn : FuncId} {tmps : Array Value} {assign body : Code} {pre post : List Ass} {env1 : List (Nat × Value)} (hst : r.state = .ready) (hpe : r.pending = none) (hfr : Fr n { tmps := tmps, defers := [] } env)
    (hassign : ∀ (K : Act → World → Prop) w, (∀ a, Fr n a env1 → K a w) → ∀ a, Fr n a env → assign.wpIn (Fence.wide.inRound L) 0 P (Exit.then K (fun _ _ _ => False)) a w)
    (hbody : ∀ w0 rs, WCR L P (BodyQ w0 rs post) n env1 (Blk rs) w0 pre body) : DoesR L (.loop r) P fn tmps assign body pre post := by
  intro w rs hL hne h1 h2 h3
  have hlt : L < w.heap.size := (Array.getElem?_eq_some_iff.1 hL).1
  refine roundIn_of_wpIn trivial (hassign _ w (fun a1 hF1 => ⟨_, run_beginRound hL hst, ?_⟩) _ hfr)
  have hrows : RowsOf (w.putObj L (.loop { r with state := .busy })) rs := rows_iff.2 fun x hx => by
    have := rows_iff.1 h2 x hx
    exact this.same (World.putObj_heap_other (hne x hx))
  refine wpIn_mono (hbody _ rs a1 _ hF1 (Hp.given h1 hrows h3)) ?_
  rintro e a2 w3 hq
  cases e with
  | normal =>
    obtain ⟨rs', hp, hc⟩ := hq
    have hnb : ¬ Blk rs L := fun ⟨x, hx, e⟩ => hne x hx e
    have hsz : L < (w.putObj L (.loop { r with state := .busy })).heap.size := (Array.getElem?_eq_some_iff.1 (putObj_at (o := .loop { r with state := .busy }) hlt)).1
    have hL3 : w3.heap[L]? = some (.loop { r with state := .busy }) := (hc.mod.block L hsz hnb).trans (putObj_at hlt)
    have hend := run_endRound (P := P) none hL3
    have hlt3 : L < w3.heap.size := (Array.getElem?_eq_some_iff.1 hL3).1
    refine ⟨_, _, hend, rfl, rs', hp, ?_⟩
    have hne' : ∀ x ∈ rs', x.1 ≠ L := fun x hx e => by
      have h4 := rows_iff.1 hc.rows x hx
      exact h4.ne_obj (by rw [e]; exact hL3) (by simp) (by simp) (by simp)
    refine ⟨⟨?_, ?_, ?_, ?_, fun k hk hnk => ?_⟩, rows_iff.2 fun x hx => (rows_iff.1 hc.rows x hx).same (World.putObj_heap_other (hne' x hx)), hc.dist, fun x hx hx2 => hc.from_ x hx (by simpa [World.putObj] using hx2)⟩
    · exact hc.mod.os
    · exact hc.mod.tape
    · exact hc.mod.output
    · have := hc.mod.size
      simpa [World.putObj] using this
    · by_cases hk2 : k = L
      · subst hk2
        rw [putObj_at hlt3, hL]
        cases r
        simp_all
      · rw [World.putObj_heap_other hk2, hc.mod.block k (by simpa [World.putObj] using hk) hnk, World.putObj_heap_other hk2]
  | _ => exact hq.elim
end
end Go.Proofs.Ythamiglbifgepaa.Sep

namespace Go.Proofs.Ythamiglbifgepaa.Sep
open Go.RowKit
open Go.Proofs.Ythamiglbifgepaa.Mem (Dist Blk Chg below0)
section
variable {P : Program} {Q : Exit → Act → World → Prop} {n : Nat} {env : List (Nat × Value)} {w0 : World} {os os' : List Ass}
end
end Go.Proofs.Ythamiglbifgepaa.Sep

namespace Go.Proofs.Ythamiglbifgepaa.Sep
open Go.RowKit
open Go.Proofs.Ythamiglbifgepaa.Mem (Dist Blk Chg below0)
section
variable {P : Program} {Q : Exit → Act → World → Prop} {ops : Array Oper} {o : Oper} {rest : List Oper} {n d D : Nat} {env : List (Nat × Value)} {B : Nat → Prop} {w0 w : World} {os : List Ass}
/-- code, behind a range -/
def WCT (D : Nat) (P : Program) (Q : Exit → Act → World → Prop) (n : Nat) (env : List (Nat × Value)) (B : Nat → Prop) (w0 : World) (os : List Ass) (c : Code) : Prop := ∀ a w, a.defers = [{ target := .collected D, args := #[] }] → Fr n { a with defers := [] } env → Hp B w0 w os → c.wp P Q a w
def WLT (D : Nat) (P : Program) (ops : Array Oper) (Q : Exit → Act → World → Prop) (n : Nat) (env : List (Nat × Value)) (B : Nat → Prop) (w0 : World) (os : List Ass) (l : List Oper) : Prop := ∀ a w, a.defers = [{ target := .collected D, args := #[] }] → Fr n { a with defers := [] } env → Hp B w0 w os → wpList P ops Q l a w
theorem WLT.keep {env' : List (Nat × Value)} {l : List Oper} (hs : Sub env env') (h : WLT D P ops Q n env' B w0 os l) : WLT D P ops Q n env B w0 os l := fun a w hD hF hH => h a w hD (hF.keep hs) hH
theorem WCT.keep {env' : List (Nat × Value)} {c : Code} (hs : Sub env env') (h : WCT D P Q n env' B w0 os c) : WCT D P Q n env B w0 os c := fun a w hD hF hH => h a w hD (hF.keep hs) hH
theorem eval_of (a : Act) : a.eval = ({ a with defers := [] } : Act).eval := by
  funext x
  cases x <;> rfl
theorem put_of (a : Act) (d : Option Nat) (v : Value) : { a.put d v with defers := [] } = ({ a with defers := [] } : Act).put d v := by cases d <;> rfl
theorem put_defers (a : Act) (d : Option Nat) (v : Value) : (a.put d v).defers = a.defers := by cases d <;> rfl
end
end Go.Proofs.Ythamiglbifgepaa.Sep
