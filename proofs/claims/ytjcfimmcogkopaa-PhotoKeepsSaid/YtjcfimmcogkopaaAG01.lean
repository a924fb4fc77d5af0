/-
  FrmM · FrmK · FrmX · FrmD · FrmN · TyF · FrmA · FrmF
-/
import Derived.Test.YtjcfimmcogkopaaAA07
import Derived.Test.YtjcfimmcogkopaaAB01
import Derived.Test.YtjcfimmcogkopaaAB02
import Derived.Test.YtjcfimmcogkopaaAB03
set_option linter.unusedSimpArgs false
set_option linter.unusedVariables false

namespace Go.Proofs.Ytjcfimmcogkopaa.Sep
/-- a number in four bytes, the least one first -/
def b4 (n : Nat) : List UInt8 := [UInt8.ofNat n, UInt8.ofNat (n / 256), UInt8.ofNat (n / 65536), UInt8.ofNat (n / 16777216)]
/-- and back: four bytes at a place -/
def n4 (l : List UInt8) (i : Nat) : Nat := (l.getD i 0).toNat + (l.getD (i + 1) 0).toNat * 256 + (l.getD (i + 2) 0).toNat * 65536 + (l.getD (i + 3) 0).toNat * 16777216
def frameL (x : List UInt8) : List UInt8 := if x.length ≤ 65536 then b4 x.length ++ b4 (crcSum x) ++ x else []
/-- the frame at the head, if it is whole -/
def nextF (b : List UInt8) : Option (List UInt8) := if 8 ≤ b.length ∧ n4 b 0 ≤ 65536 ∧ n4 b 0 + 8 ≤ b.length ∧ (b.drop 4).take 4 = b4 (crcSum ((b.drop 8).take (n4 b 0))) then some ((b.drop 8).take (n4 b 0)) else none
def listF : Nat → List UInt8 → List (List UInt8) × Nat
  | 0, _ => ([], 0)
  | k + 1, b => match nextF b with
    | none => ([], 0)
    | some x => (x :: (listF k (b.drop (8 + x.length))).1, 8 + x.length + (listF k (b.drop (8 + x.length))).2)
def listL (b : List UInt8) : List (List UInt8) × Nat := listF b.length b
theorem next_len {b x : List UInt8} (h : nextF b = some x) : 8 + x.length ≤ b.length ∧ x.length ≤ 65536 := by
  unfold nextF at h
  split at h
  · rename_i hc
    cases h
    rw [List.length_take, List.length_drop]; omega
  · cases h
theorem listF_more : ∀ (k : Nat) (b : List UInt8), b.length ≤ k → listF k b = listF b.length b := by
  intro k
  induction k using Nat.strongRecOn with
  | _ k ih =>
    intro b hb
    cases hn : nextF b with
    | none =>
      cases k with
      | zero => have : b.length = 0 := by omega
                rw [this]
      | succ k =>
        cases hl : b.length with
        | zero => simp only [listF, hn]
        | succ m => simp only [listF, hn]
    | some x =>
      have hx := next_len hn
      cases k with
      | zero => omega
      | succ k =>
        obtain ⟨m, hm⟩ : ∃ m, b.length = m + 1 := ⟨b.length - 1, by omega⟩
        rw [hm]
        simp only [listF, hn]
        have hd : (b.drop (8 + x.length)).length = b.length - (8 + x.length) := List.length_drop ..
        rw [ih k (by omega) _ (by omega), ih m (by omega) _ (by omega)]
theorem listL_none {b : List UInt8} (h : nextF b = none) : listL b = ([], 0) := by
  unfold listL
  cases b.length with
  | zero => rfl
  | succ m => simp only [listF, h]
theorem listL_some {b x : List UInt8} (h : nextF b = some x) : listL b = (x :: (listL (b.drop (8 + x.length))).1, 8 + x.length + (listL (b.drop (8 + x.length))).2) := by
  have hx := next_len h
  obtain ⟨m, hm⟩ : ∃ m, b.length = m + 1 := ⟨b.length - 1, by omega⟩
  unfold listL
  rw [hm]
  simp only [listF, h]
  have hd : (b.drop (8 + x.length)).length = b.length - (8 + x.length) := List.length_drop ..
  rw [listF_more m _ (by omega)]
theorem list_le : ∀ (k : Nat) (b : List UInt8), (listF k b).2 ≤ b.length
  | 0, _ => Nat.zero_le _
  | k + 1, b => by
    simp only [listF]
    cases h : nextF b with
    | none => exact Nat.zero_le _
    | some x =>
      have hx := next_len h
      have := list_le k (b.drop (8 + x.length))
      rw [List.length_drop] at this
      simp only
      omega
theorem list_parts : ∀ (k : Nat) (b x : List UInt8), x ∈ (listF k b).1 → x.length ≤ 65536
  | 0, _, _, h => by cases h
  | k + 1, b, x, h => by
    simp only [listF] at h
    cases hn : nextF b with
    | none => rw [hn] at h; cases h
    | some y =>
      rw [hn] at h
      rcases List.mem_cons.1 h with rfl | h
      · exact (next_len hn).2
      · exact list_parts k _ _ h
theorem list_count : ∀ (k : Nat) (b : List UInt8), (listF k b).1.length * 8 ≤ (listF k b).2
  | 0, _ => Nat.le_refl _
  | k + 1, b => by
    simp only [listF]
    cases h : nextF b with
    | none => exact Nat.le_refl _
    | some x =>
      have := list_count k (b.drop (8 + x.length))
      simp only [List.length_cons]
      omega
theorem b4_len (n : Nat) : (b4 n).length = 4 := rfl
theorem crc_lt (l : List UInt8) : crcSum l < 4294967296 := by unfold crcSum; exact (~~~ crcRun (BitVec.allOnes 32) l).isLt
theorem n4_b4 {n : Nat} (h : n < 4294967296) (r : List UInt8) : n4 (b4 n ++ r) 0 = n := by
  unfold n4 b4
  simp only [List.cons_append, List.nil_append, List.getD_cons_zero, List.getD_cons_succ, Nat.zero_add, UInt8.toNat_ofNat']
  omega
theorem frame_len {x : List UInt8} (h : x.length ≤ 65536) : (frameL x).length = 8 + x.length := by
  unfold frameL
  rw [if_pos h]
  simp only [List.length_append, b4_len]
theorem next_frame {x : List UInt8} (h : x.length ≤ 65536) (r : List UInt8) : nextF (frameL x ++ r) = some x := by
  have hl := frame_len h
  have e : frameL x ++ r = b4 x.length ++ (b4 (crcSum x) ++ (x ++ r)) := by unfold frameL; rw [if_pos h]; simp
  have hn : n4 (frameL x ++ r) 0 = x.length := by rw [e]; exact n4_b4 (by omega) _
  have h8 : ((frameL x ++ r).drop 8).take x.length = x := by
    rw [e]
    have : (b4 x.length ++ (b4 (crcSum x) ++ (x ++ r))).drop 8 = x ++ r := rfl
    rw [this]; simp
  unfold nextF
  rw [hn, h8, if_pos]
  refine ⟨by rw [List.length_append]; omega, h, by rw [List.length_append]; omega, ?_⟩
  rw [e]; rfl
def framesL (ps : List (List UInt8)) : List UInt8 := (ps.map frameL).flatten
theorem frames_cons (x : List UInt8) (ps : List (List UInt8)) : framesL (x :: ps) = frameL x ++ framesL ps := rfl
theorem frames_push (x : List UInt8) (ps : List (List UInt8)) : framesL (ps ++ [x]) = framesL ps ++ frameL x := by simp [framesL]
theorem list_frames : ∀ (ps : List (List UInt8)), (∀ x, x ∈ ps → x.length ≤ 65536) → ∀ r, listL (framesL ps ++ r) = (ps ++ (listL r).1, (framesL ps).length + (listL r).2)
  | [], _, r => by simp [framesL]
  | x :: ps, h, r => by
    have hx := h x (List.mem_cons_self ..)
    have hl := frame_len hx
    rw [frames_cons, List.append_assoc, listL_some (next_frame hx _)]
    have hd : (frameL x ++ (framesL ps ++ r)).drop (8 + x.length) = framesL ps ++ r := by rw [← hl]; simp
    rw [hd, list_frames ps (fun y hy => h y (List.mem_cons_of_mem _ hy)) r]
    simp only [List.cons_append, List.length_append, Prod.mk.injEq, true_and]
    omega
/-- a frame that is cut off is none -/
theorem next_cut {x : List UInt8} (h : x.length ≤ 65536) {k : Nat} (hk : k < 8 + x.length) : nextF ((frameL x).take k) = none := by
  have hl := frame_len h
  unfold nextF
  refine if_neg fun ⟨h1, _, h3, _⟩ => ?_
  rw [List.length_take] at h1 h3
  have hn : n4 ((frameL x).take k) 0 = x.length := by
    have e : (frameL x).take k = b4 x.length ++ (b4 (crcSum x) ++ x).take (k - 4) := by
      unfold frameL
      rw [if_pos h, List.append_assoc, List.take_append, b4_len, List.take_of_length_le (by rw [b4_len]; omega)]
    rw [e]; exact n4_b4 (by omega) _
  rw [hn] at h3
  omega
end Go.Proofs.Ytjcfimmcogkopaa.Sep

namespace Go.Proofs.Ytjcfimmcogkopaa.Sep
open Go.RowKit
open Go.Proofs.Ytjcfimmcogkopaa.Mem (Dist Blk Chg below0)
theorem wrap_u8 (m : Nat) : IntKind.u8.wrap (m : Int) = ((UInt8.ofNat m).toNat : Int) := by
  rw [UInt8.toNat_ofNat']
  have h : IntKind.u8.wrap (m : Int) = (m : Int) % 256 := by simp [IntKind.wrap, IntKind.signed, IntKind.bits]
  rw [h]; omega
section
variable {P : Program} {n : Nat} {w : World} {env : List (Nat × Value)} {o : Oper} {a : Act}
theorem exec_shrN {T T' : TypeId} {x y : Operand} {k k' : IntKind} {m s h : Nat} (hs : s ≤ k.bits) (hh : m / 2 ^ s = h) (ho : o.op = .binOp .shr T x y T') (hx : evs env x = some (.int k (m : Int))) (hy : evs env y = some (.int k' (s : Int))) (hF : Fr n a env) : (execOp a.eval o).run P w = .ok (.value (.int k (h : Int))) w := by
  subst hh
  have h1 : min s k.bits = s := Nat.min_eq_left hs
  have h2 : (m : Int).fdiv (2 ^ s) = ((m / 2 ^ s : Nat) : Int) := by
    rw [Int.fdiv_eq_ediv_of_nonneg _ (by exact_mod_cast Nat.zero_le _)]
    simp
  have h3 : ¬ ((s : Int) < 0) := by omega
  unfold execOp
  simp only [ho, hF.evs hx, hF.evs hy]
  simp [eqGuard, binOp, Op.shift, h1, h2, h3]
theorem exec_shlN {T T' : TypeId} {x y : Operand} {k k' : IntKind} {m s : Nat} {h : Int} (hs : s ≤ k.bits) (hh : k.wrap ((m : Int) * 2 ^ s) = h) (ho : o.op = .binOp .shl T x y T') (hx : evs env x = some (.int k (m : Int))) (hy : evs env y = some (.int k' (s : Int))) (hF : Fr n a env) : (execOp a.eval o).run P w = .ok (.value (.int k h)) w := by
  subst hh
  have h1 : min s k.bits = s := Nat.min_eq_left hs
  have h3 : ¬ ((s : Int) < 0) := by omega
  unfold execOp
  simp only [ho, hF.evs hx, hF.evs hy]
  simp [eqGuard, binOp, Op.shift, h1, h3]
end
section
variable {P : Program} {Q : Exit → Act → World → Prop} {n : Nat} {B : Nat → Prop} {w0 : World} {os : List Ass} {env : List (Nat × Value)} {o : Oper} {t e : TypeId}
def vB (a : UInt8) : Value := .int .u8 (a.toNat : Int)
end
section
variable {v : Value} {l : List UInt8} {w : World}
theorem sum_c (h : Sl8 w v l) (hl : l.length ≤ 140737488355328) : Calls Try.prog 40 #[v] w fun e w' => e = .returned (.int .u32 (crcSum l : Int)) ∧ Below w.heap.size w w' := by
  obtain ⟨A, c, rfl, hb⟩ := h
  refine (sum_any w A c l hb hl).mono ?_
  rintro e w' ⟨he, rfl⟩
  exact ⟨he, Below.refl _ _⟩
end
end Go.Proofs.Ytjcfimmcogkopaa.Sep

namespace Go.Proofs.Ytjcfimmcogkopaa.Sep
open Go.RowKit
open Go.Proofs.Ytjcfimmcogkopaa.Mem (Dist Blk Chg below0)
section
variable {P : Program} {Q : Exit → Act → World → Prop} {n : Nat} {B : Nat → Prop} {w0 : World} {os : List Ass} {env : List (Nat × Value)} {o : Oper} {t e : TypeId}
end
end Go.Proofs.Ytjcfimmcogkopaa.Sep

namespace Go.Proofs.Ytjcfimmcogkopaa.Sep
open Go.RowKit
open Go.Proofs.Ytjcfimmcogkopaa.Mem (Dist Blk Chg below0)

section
variable {P : Program} {Q : Exit → Act → World → Prop} {n : Nat} {B : Nat → Prop} {w0 : World} {os : List Ass} {env : List (Nat × Value)} {o : Oper} {t e : TypeId}
theorem run_mkcap8 (hT : SliceT P t e 1) (hb : (P.info? e).map (fun i => i.bytes) = some 1) (hz : ∀ w, (zeroValue e).run P w = .ok (.int .u8 0) w) {N : Nat} (hN : 1 ≤ N ∧ N ≤ 1000000) (w : World) : (Instr.makeSlice t (.int .i64 0) (.int .i64 (N : Int))).run P w = .ok (.slice (some ⟨w.heap.size, 0, none⟩) 0 N) (w.alloc (.cells (Array.replicate N (.int .u8 0)) e)) := by
  obtain ⟨inf, z, hinf, hzz, hk, _, hzs, _⟩ := hT.inf
  have hb1 : inf.bytes = 1 := by simpa [hinf] using hb
  have h1 : IntKind.i64.wrap (N : Int) = (N : Int) := IntWalk.i64_in _ (by omega)
  have h2 : ¬ ((N : Int) < 0) := by omega
  have h3 : ¬ ((281474976710656 : Int) < (N : Int)) := by omega
  have h4 : ¬ (roomBytes < N) := by unfold roomBytes; omega
  have hw0 : IntKind.i64.wrap 0 = 0 := by decide
  have hm : (Array.range N).map (fun _ => Value.int .u8 0) = Array.replicate N (.int .u8 0) := by
    apply Array.ext_getElem?
    intro i
    simp [Array.getElem?_replicate]
    split <;> simp_all
  have h0 : N ≠ 0 := by omega
  simp [Instr.makeSlice, run_underlying hT.ht, asInt, asIntOf, typeInfo, hinf, hb1, h1, h2, h3, h4, hw0, askRoom, hT.sizeOf, hz, h0, newRow, Sem.run_bind, Value.cells, Nat.mod_one]
  simp [hm, Sem.run]
/-- a slice of no bytes that has room for so many -/
theorem a_mkcap8 (hT : SliceT P t e 1) (hb : (P.info? e).map (fun i => i.bytes) = some 1) (hz : ∀ w, (zeroValue e).run P w = .ok (.int .u8 0) w) {N : Nat} (hN : 1 ≤ N ∧ N ≤ 1000000) {x y : Operand} (ho : o.op = .makeSlice t x y) (hx : evs env x = some (.int .i64 0)) (hy : evs env y = some (.int .i64 (N : Int))) : Acts P Q n env B w0 os o (fun v : Value => v) (fun v => Vec e 1 encB v [] :: os) := fun b w hH hF K hK => by
  have hrun : (execOp b.eval o).run P w = .ok (.value (.slice (some ⟨w.heap.size, 0, none⟩) 0 N)) (w.alloc (.cells (Array.replicate N (.int .u8 0)) e)) := by
    unfold execOp
    simp [ho, hF.evs hx, hF.evs hy, Sem.run_bind, run_mkcap8 hT hb hz hN]
  refine a_val (w0 := w) b hrun (hK _ _ ?_)
  have := hH.new e (Array.replicate N (.int .u8 0))
  obtain ⟨rs, ⟨r1, r2, e1, h1, h2⟩, h3⟩ := this
  unfold cell at h1
  exact ⟨rs, ⟨r1, r2, e1, .inr ⟨w.heap.size, N, Array.replicate N (.int .u8 0), rfl, Nat.zero_le _, by unfold maxLen; omega, by simp, by simp [flat], h1⟩, h2⟩, h3⟩
theorem run_build4 (hT : SliceT P t e 1) {c0 c1 c2 c3 : Value} (h0 : c0.cells = #[c0]) (h1 : c1.cells = #[c1]) (h2 : c2.cells = #[c2]) (h3 : c3.cells = #[c3]) (w : World) : (Instr.buildSlice t 4 #[(0, c0), (1, c1), (2, c2), (3, c3)]).run P w = .ok (.slice (some ⟨w.heap.size, 0, none⟩) 4 4) (w.alloc (.cells #[c0, c1, c2, c3] e)) := by
  obtain ⟨inf, z, hinf, hz, hk, _, hzs, _⟩ := hT.inf
  simp [Instr.buildSlice, run_underlying hT.ht, hT.sizeOf, zeroValue, typeInfo, hinf, hz, Instr.fill, h0, h1, h2, h3, newRow, Array.range_succ, map_range0]
theorem a_build4 (hT : SliceT P t e 1) {x0 x1 x2 x3 : Operand} (a0 a1 a2 a3 : UInt8) (ho : o.op = .buildSlice t 4 #[(0, x0), (1, x1), (2, x2), (3, x3)]) (h0 : evs env x0 = some (vB a0)) (h1 : evs env x1 = some (vB a1)) (h2 : evs env x2 = some (vB a2)) (h3 : evs env x3 = some (vB a3)) : Acts P Q n env B w0 os o (fun v : Value => v) (fun v => Vec e 1 encB v [a0, a1, a2, a3] :: os) := fun b w hH hF K hK => by
  have hrun : (execOp b.eval o).run P w = .ok (.value (.slice (some ⟨w.heap.size, 0, none⟩) 4 4)) (w.alloc (.cells #[vB a0, vB a1, vB a2, vB a3] e)) := by
    unfold execOp
    simp [ho, hF.evs h0, hF.evs h1, hF.evs h2, hF.evs h3, Sem.run_bind, run_build4 hT (c0 := vB a0) (c1 := vB a1) (c2 := vB a2) (c3 := vB a3) rfl rfl rfl rfl]
  refine a_val (w0 := w) b hrun (hK _ _ ?_)
  have := hH.new e #[vB a0, vB a1, vB a2, vB a3]
  obtain ⟨rs, ⟨r1, r2, e1, h1, h2⟩, h3⟩ := this
  unfold cell at h1
  exact ⟨rs, ⟨r1, r2, e1, .inr ⟨w.heap.size, 4, #[vB a0, vB a1, vB a2, vB a3], rfl, Nat.le_refl _, by unfold maxLen; omega, rfl, by simp [flat, encB, vB], h1⟩, h2⟩, h3⟩
end
end Go.Proofs.Ytjcfimmcogkopaa.Sep

namespace Go.Proofs.Ytjcfimmcogkopaa.Sep
open Go.RowKit
theorem frm_mid {w : World} {A : Option Addr} {c i j : Nat} {l : List UInt8} (h : Sl8 w (.slice A l.length c) l) (hij : i ≤ j) (hj : j ≤ l.length) : Sl8 w (.slice (if c = i then A else A.map (·.add i)) ((l.take j).drop i).length (c - i)) ((l.take j).drop i) := Sl8.drop (h.takes hj) (by rw [List.length_take]; omega)
section
variable {b x : List UInt8} {n s : Nat} {a0 a1 a2 a3 a4 a5 a6 a7 c0 c1 c2 c3 : UInt8}
end
end Go.Proofs.Ytjcfimmcogkopaa.Sep

namespace Go.Proofs.Ytjcfimmcogkopaa.Sep
open Go.RowKit
open Go.Proofs.Ytjcfimmcogkopaa.Mem (Dist Blk Chg below0)
end Go.Proofs.Ytjcfimmcogkopaa.Sep

namespace Go.Proofs.Ytjcfimmcogkopaa.Sep
open Go.RowKit
open Go.Proofs.Ytjcfimmcogkopaa.Mem (Dist Blk Chg below0)

theorem or_two {a b : Nat} (k : Nat) (ha : a < 2 ^ k) : a ||| b * 2 ^ k = a + b * 2 ^ k := by
  have := Nat.two_pow_add_eq_or_of_lt (i := k) (b := a) ha b
  rw [Nat.or_comm, Nat.mul_comm, ← this, Nat.add_comm]
theorem wrap_u32 {m : Nat} (h : m < 4294967296) : IntKind.u32.wrap (m : Int) = (m : Int) := by
  have e : IntKind.u32.wrap (m : Int) = (m : Int) % 4294967296 := by simp [IntKind.wrap, IntKind.signed, IntKind.bits]
  rw [e]; omega
theorem wrap_u32l {m s N : Nat} (hN : m * 2 ^ s = N) (h : N < 4294967296) : IntKind.u32.wrap ((m : Int) * 2 ^ s) = (N : Int) := by
  rw [← wrap_u32 h, ← hN]
  simp
theorem or_n {p q r : Nat} (hp : p < 4294967296) (hq : q < 4294967296) (h : p ||| q = r) : bits .or .u32 (p : Int) (q : Int) = (r : Int) := by rw [u32_or_nat p q hp hq, h]

set_option maxRecDepth 100000 in
theorem appnum_does {fv : Value} {l r : List UInt8} {n : Nat} (hn : n < 4294967296) (hl : l.length ≤ 65536) (hr : l ++ b4 n = r) : Does Try.prog 39 #[fv, .int .u32 (n : Int)] [Vec 5 1 encB fv l] (fun (v : Value) => v) (fun (v : Value) => [Vec 5 1 encB v r]) := by
  refine d_ins (args := [fv, .int .u32 (n : Int)]) 19 Try.func39 rfl rfl rfl ?_; intro w rs
  refine d_reg ?_
  refine h_q hflS rfl ?_
  refine h_done (d_reg ?_)
  refine h_q hflS rfl ?_
  refine h_val rfl (.int .u8 (((UInt8.ofNat n)).toNat : Int)) (fun b w hb hH => exec_conv Try.underlying78 Try.underlying5 (wrap_u8 _) rfl rfl hb) ?_
  refine h_q hflS rfl ?_
  refine h_val rfl (.int .u32 ((n / 256 : Nat) : Int)) (fun b w hb hH => exec_shrN (s := 8) (by decide) (by omega) rfl rfl rfl hb) ?_
  refine h_val rfl (.int .u8 (((UInt8.ofNat (n / 256))).toNat : Int)) (fun b w hb hH => exec_conv Try.underlying78 Try.underlying5 (wrap_u8 _) rfl rfl hb) ?_
  refine h_q hflS rfl ?_
  refine h_val rfl (.int .u32 ((n / 65536 : Nat) : Int)) (fun b w hb hH => exec_shrN (s := 16) (by decide) (by omega) rfl rfl rfl hb) ?_
  refine h_val rfl (.int .u8 (((UInt8.ofNat (n / 65536))).toNat : Int)) (fun b w hb hH => exec_conv Try.underlying78 Try.underlying5 (wrap_u8 _) rfl rfl hb) ?_
  refine h_q hflS rfl ?_
  refine h_val rfl (.int .u32 ((n / 16777216 : Nat) : Int)) (fun b w hb hH => exec_shrN (s := 24) (by decide) (by omega) rfl rfl rfl hb) ?_
  refine h_val rfl (.int .u8 (((UInt8.ofNat (n / 16777216))).toNat : Int)) (fun b w hb hH => exec_conv Try.underlying78 Try.underlying5 (wrap_u8 _) rfl rfl hb) ?_
  refine h_act (X := Value) (val := fun v : Value => v) (post := fun v8 => [Vec 5 1 encB v8 ([(UInt8.ofNat n), (UInt8.ofNat (n / 256)), (UInt8.ofNat (n / 65536)), (UInt8.ofNat (n / 16777216))]), Vec 5 1 encB fv l]) rfl (by exact a_build4 sl_uint8 (UInt8.ofNat n) (UInt8.ofNat (n / 256)) (UInt8.ofNat (n / 65536)) (UInt8.ofNat (n / 16777216)) rfl rfl rfl rfl rfl) ?_; rintro v8
  refine h_act (post := fun v9 => [Vec 5 1 encB v8 ([(UInt8.ofNat n), (UInt8.ofNat (n / 256)), (UInt8.ofNat (n / 65536)), (UInt8.ofNat (n / 16777216))]), Vec 5 1 encB v9 r]) rfl (a_append 1 sl_uint8 okB rfl ([(UInt8.ofNat n), (UInt8.ofNat (n / 256)), (UInt8.ofNat (n / 65536)), (UInt8.ofNat (n / 16777216))]) (fun w hH => hH.vec 0 rfl okB) (by simp only [List.length_cons, List.length_nil]; omega) rfl rfl rfl hr) ?_; rintro v9
  refine h_q hflS rfl ?_
  refine h_done (d_ret ?_)
  exact f_fin1 (.tmp rfl) (fun w h => tells v9 rfl [1] rfl h same_parts) rfl

set_option maxRecDepth 100000 in
theorem num_c (w : World) {y : List UInt8} {A : Option Addr} {c n : Nat} (hv : Sl8 w (.slice A y.length c) y) (h4 : 4 ≤ y.length) (hn : n4 y 0 = n) : Calls Try.prog 56 #[.slice A y.length c] w fun e w' => e = .returned (.int .u32 (n : Int)) ∧ Below w.heap.size w w' := by
  refine d_in (args := [.slice A y.length c]) 25 Try.func56 rfl rfl rfl ?_
  obtain ⟨a0, ha0⟩ : ∃ a, y[0]? = some a := ⟨_, List.getElem?_eq_getElem (by omega)⟩
  obtain ⟨a1, ha1⟩ : ∃ a, y[1]? = some a := ⟨_, List.getElem?_eq_getElem (by omega)⟩
  obtain ⟨a2, ha2⟩ : ∃ a, y[2]? = some a := ⟨_, List.getElem?_eq_getElem (by omega)⟩
  obtain ⟨a3, ha3⟩ : ∃ a, y[3]? = some a := ⟨_, List.getElem?_eq_getElem (by omega)⟩
  have hA0 := a0.toNat_lt
  have hA1 := a1.toNat_lt
  have hA2 := a2.toNat_lt
  have hA3 := a3.toNat_lt
  have hD0 : y.getD 0 0 = a0 := by rw [List.getD_eq_getElem?_getD, ha0]; rfl
  have hD1 : y.getD 1 0 = a1 := by rw [List.getD_eq_getElem?_getD, ha1]; rfl
  have hD2 : y.getD 2 0 = a2 := by rw [List.getD_eq_getElem?_getD, ha2]; rfl
  have hD3 : y.getD 3 0 = a3 := by rw [List.getD_eq_getElem?_getD, ha3]; rfl
  have hn_ : a0.toNat + a1.toNat * 256 + a2.toNat * 65536 + a3.toNat * 16777216 = n := by rw [← hn]; unfold n4; rw [hD0, hD1, hD2, hD3]
  refine d_reg ?_
  refine h_q hflS rfl ?_
  refine h_done (d_seq ?_)
  refine d_parS 22 0 [⟨.quiet, [], fun _ => .slice A y.length c, []⟩, ⟨.quiet, [], fun _ => elp (.slice A y.length c) (0 * 1), [0]⟩, ⟨.quiet, [], fun _ => .int .u8 ((a0).toNat : Int), [1]⟩, ⟨.quiet, [], fun _ => .int .u32 (a0.toNat : Int), [2]⟩, ⟨.quiet, [], fun _ => .slice A y.length c, []⟩, ⟨.quiet, [], fun _ => elp (.slice A y.length c) (1 * 1), [4]⟩, ⟨.quiet, [], fun _ => .int .u8 ((a1).toNat : Int), [5]⟩, ⟨.quiet, [], fun _ => .int .u32 (a1.toNat : Int), [6]⟩, ⟨.quiet, [], fun _ => .int .u32 ((a1.toNat * 256 : Nat) : Int), [7]⟩, ⟨.quiet, [], fun _ => .int .u32 ((a0.toNat + a1.toNat * 256 : Nat) : Int), [3, 8]⟩, ⟨.quiet, [], fun _ => .slice A y.length c, []⟩, ⟨.quiet, [], fun _ => elp (.slice A y.length c) (2 * 1), [10]⟩, ⟨.quiet, [], fun _ => .int .u8 ((a2).toNat : Int), [11]⟩, ⟨.quiet, [], fun _ => .int .u32 (a2.toNat : Int), [12]⟩, ⟨.quiet, [], fun _ => .int .u32 ((a2.toNat * 65536 : Nat) : Int), [13]⟩, ⟨.quiet, [], fun _ => .int .u32 ((a0.toNat + a1.toNat * 256 + a2.toNat * 65536 : Nat) : Int), [9, 14]⟩, ⟨.quiet, [], fun _ => .slice A y.length c, []⟩, ⟨.quiet, [], fun _ => elp (.slice A y.length c) (3 * 1), [16]⟩, ⟨.quiet, [], fun _ => .int .u8 ((a3).toNat : Int), [17]⟩, ⟨.quiet, [], fun _ => .int .u32 (a3.toNat : Int), [18]⟩, ⟨.quiet, [], fun _ => .int .u32 ((a3.toNat * 16777216 : Nat) : Int), [19]⟩, ⟨.quiet, [], fun _ => .int .u32 (n : Int), [15, 20]⟩] [(0, .slice A y.length c), (2, .int .u32 0)] (fun _ => []) (by kernel_rfl) (by kernel_rfl) ⟨rfl, rfl, trivial⟩ rfl ?_ ?_
  · skip
    refine s_cons (by exact ⟨rfl, fun b w hH hb => exec_q1 hflS rfl hb⟩) ?_
    refine s_cons (by exact ⟨rfl, fun b w hH hb => e_sidx okB ((arg8 hv (Below.refl _ _) (fun _ h => h.elim) hH).rd) sl_uint8 (j := 0) ha0 rfl rfl rfl hb⟩) ?_
    refine s_cons (by exact ⟨rfl, fun b w hH hb => e_sload okB (by decide) ((arg8 hv (Below.refl _ _) (fun _ h => h.elim) hH).rd) (j := 0) ha0 ty_uint8 (off := 0) rfl rfl rfl hb⟩) ?_
    refine s_cons (by exact ⟨rfl, fun b w hH hb => exec_conv Try.underlying5 Try.underlying78 (wrap_u32 (by omega)) rfl rfl hb⟩) ?_
    refine s_cons (by exact ⟨rfl, fun b w hH hb => exec_q1 hflS rfl hb⟩) ?_
    refine s_cons (by exact ⟨rfl, fun b w hH hb => e_sidx okB ((arg8 hv (Below.refl _ _) (fun _ h => h.elim) hH).rd) sl_uint8 (j := 1) ha1 rfl rfl rfl hb⟩) ?_
    refine s_cons (by exact ⟨rfl, fun b w hH hb => e_sload okB (by decide) ((arg8 hv (Below.refl _ _) (fun _ h => h.elim) hH).rd) (j := 1) ha1 ty_uint8 (off := 0) rfl rfl rfl hb⟩) ?_
    refine s_cons (by exact ⟨rfl, fun b w hH hb => exec_conv Try.underlying5 Try.underlying78 (wrap_u32 (by omega)) rfl rfl hb⟩) ?_
    refine s_cons (by exact ⟨rfl, fun b w hH hb => exec_shlN (s := 8) (by decide) (wrap_u32l (m := a1.toNat) (s := 8) (N := a1.toNat * 256) rfl (by omega)) rfl rfl rfl hb⟩) ?_
    refine s_cons (by exact ⟨rfl, fun b w hH hb => exec_or (or_n (by omega) (by omega) (or_two 8 (by omega))) rfl rfl rfl hb⟩) ?_
    refine s_cons (by exact ⟨rfl, fun b w hH hb => exec_q1 hflS rfl hb⟩) ?_
    refine s_cons (by exact ⟨rfl, fun b w hH hb => e_sidx okB ((arg8 hv (Below.refl _ _) (fun _ h => h.elim) hH).rd) sl_uint8 (j := 2) ha2 rfl rfl rfl hb⟩) ?_
    refine s_cons (by exact ⟨rfl, fun b w hH hb => e_sload okB (by decide) ((arg8 hv (Below.refl _ _) (fun _ h => h.elim) hH).rd) (j := 2) ha2 ty_uint8 (off := 0) rfl rfl rfl hb⟩) ?_
    refine s_cons (by exact ⟨rfl, fun b w hH hb => exec_conv Try.underlying5 Try.underlying78 (wrap_u32 (by omega)) rfl rfl hb⟩) ?_
    refine s_cons (by exact ⟨rfl, fun b w hH hb => exec_shlN (s := 16) (by decide) (wrap_u32l (m := a2.toNat) (s := 16) (N := a2.toNat * 65536) rfl (by omega)) rfl rfl rfl hb⟩) ?_
    refine s_cons (by exact ⟨rfl, fun b w hH hb => exec_or (or_n (by omega) (by omega) (or_two 16 (by omega))) rfl rfl rfl hb⟩) ?_
    refine s_cons (by exact ⟨rfl, fun b w hH hb => exec_q1 hflS rfl hb⟩) ?_
    refine s_cons (by exact ⟨rfl, fun b w hH hb => e_sidx okB ((arg8 hv (Below.refl _ _) (fun _ h => h.elim) hH).rd) sl_uint8 (j := 3) ha3 rfl rfl rfl hb⟩) ?_
    refine s_cons (by exact ⟨rfl, fun b w hH hb => e_sload okB (by decide) ((arg8 hv (Below.refl _ _) (fun _ h => h.elim) hH).rd) (j := 3) ha3 ty_uint8 (off := 0) rfl rfl rfl hb⟩) ?_
    refine s_cons (by exact ⟨rfl, fun b w hH hb => exec_conv Try.underlying5 Try.underlying78 (wrap_u32 (by omega)) rfl rfl hb⟩) ?_
    refine s_cons (by exact ⟨rfl, fun b w hH hb => exec_shlN (s := 24) (by decide) (wrap_u32l (m := a3.toNat) (s := 24) (N := a3.toNat * 16777216) rfl (by omega)) rfl rfl rfl hb⟩) ?_
    refine s_cons (by exact ⟨rfl, fun b w hH hb => exec_or (or_n (by omega) (by omega) ((or_two 24 (by omega)).trans hn_)) rfl rfl rfl hb⟩) ?_
    exact s_nil
  refine WL2.keep (env' := [(2, .int .u32 0), (24, .int .u32 (n : Int))]) ⟨rfl, rfl, trivial⟩ ?_
  refine h_q hflS rfl ?_
  refine h_nil (f_to (d_ret ?_))
  exact f_fin1 (.tmp rfl) (fun w h => ⟨rfl, below0 h.up⟩) rfl

theorem n4_lt (y : List UInt8) : n4 y 0 < 4294967296 := by
  have := (y.getD 0 0).toNat_lt
  have := (y.getD (0 + 1) 0).toNat_lt
  have := (y.getD (0 + 2) 0).toNat_lt
  have := (y.getD (0 + 3) 0).toNat_lt
  unfold n4; omega
def fstP (A : Option Addr) (c : Nat) (y : List UInt8) : Value := if 8 ≤ y.length ∧ n4 y 0 ≤ 65536 ∧ n4 y 0 + 8 ≤ y.length then .slice (if c = 8 then A else A.map (·.add 8)) (n4 y 0) (c - 8) else .slice none 0 0
theorem n4_take {y : List UInt8} (h : 4 ≤ y.length) : n4 (y.take 4) 0 = n4 y 0 := by
  have e : ∀ k, k < 4 → (y.take 4).getD k 0 = y.getD k 0 := fun k hk => by rw [List.getD_eq_getElem?_getD, List.getD_eq_getElem?_getD, List.getElem?_take, if_pos hk]
  unfold n4
  rw [e 0 (by decide), e (0 + 1) (by decide), e (0 + 2) (by decide), e (0 + 3) (by decide)]
theorem sum_eq {y : List UInt8} {s : Nat} (h8 : 4 ≤ y.length) (hs : s < 4294967296) : y.take 4 = b4 s ↔ n4 y 0 = s := by
  refine ⟨fun h => ?_, fun h => ?_⟩
  · rw [← n4_take h8, h]
    have := n4_b4 hs []
    rwa [List.append_nil] at this
  · match y, h8 with
    | a :: b :: c :: d :: r, _ =>
      have h1 : a.toNat + b.toNat * 256 + c.toNat * 65536 + d.toNat * 16777216 = s := h
      have ha := a.toNat_lt
      have hb := b.toNat_lt
      have hc := c.toNat_lt
      have hd := d.toNat_lt
      have e0 : UInt8.ofNat s = a := UInt8.toNat_inj.1 (by rw [UInt8.toNat_ofNat']; omega)
      have e1 : UInt8.ofNat (s / 256) = b := UInt8.toNat_inj.1 (by rw [UInt8.toNat_ofNat']; omega)
      have e2 : UInt8.ofNat (s / 65536) = c := UInt8.toNat_inj.1 (by rw [UInt8.toNat_ofNat']; omega)
      have e3 : UInt8.ofNat (s / 16777216) = d := UInt8.toNat_inj.1 (by rw [UInt8.toNat_ofNat']; omega)
      unfold b4
      rw [e0, e1, e2, e3]; rfl
theorem next_is {y x : List UInt8} {n : Nat} (h8 : 8 ≤ y.length) (hn : n4 y 0 = n) (h1 : n ≤ 65536) (h2 : n + 8 ≤ y.length) (hx : (y.drop 8).take n = x) : (nextF y).isSome = decide (crcSum x = n4 (y.drop 4) 0) := by
  have h3 := sum_eq (y := y.drop 4) (s := crcSum x) (by rw [List.length_drop]; omega) (crc_lt x)
  unfold nextF
  rw [hn, hx]
  by_cases h : crcSum x = n4 (y.drop 4) 0
  · rw [if_pos ⟨h8, h1, h2, h3.2 h.symm⟩, decide_eq_true h]; rfl
  · rw [if_neg (fun hc => h (h3.1 hc.2.2.2).symm), decide_eq_false h]; rfl
theorem next_no {y : List UInt8} (h : ¬ (8 ≤ y.length ∧ n4 y 0 ≤ 65536 ∧ n4 y 0 + 8 ≤ y.length)) : (nextF y).isSome = false := by
  unfold nextF
  rw [if_neg (fun hc => h ⟨hc.1, hc.2.1, hc.2.2.1⟩)]; rfl
theorem fst_no {A : Option Addr} {c : Nat} {y : List UInt8} (h : ¬ (8 ≤ y.length ∧ n4 y 0 ≤ 65536 ∧ n4 y 0 + 8 ≤ y.length)) : fstP A c y = .slice none 0 0 := if_neg h
theorem sl8_take {w : World} {A : Option Addr} {c k : Nat} {l : List UInt8} (h : Sl8 w (.slice A l.length c) l) (hk : k ≤ l.length) : Sl8 w (.slice A (l.take k).length c) (l.take k) := h.takes hk
theorem sl8_drop {w : World} {A : Option Addr} {c i : Nat} {l : List UInt8} (h : Sl8 w (.slice A l.length c) l) (hi : i ≤ l.length) : Sl8 w (.slice (if c = i then A else A.map (·.add i)) (l.drop i).length (c - i)) (l.drop i) := by
  have h3 := frm_mid h hi (Nat.le_refl _)
  rwa [List.take_length] at h3

set_option maxRecDepth 100000 in
theorem first_c (w : World) {y : List UInt8} {A : Option Addr} {c : Nat} (hv : Sl8 w (.slice A y.length c) y) (hl : y.length ≤ 137438953472) : Calls Try.prog 54 #[.slice A y.length c] w fun e w' => e = .returned (.tuple #[fstP A c y, .bool (nextF y).isSome]) ∧ Below w.heap.size w w' := by
  refine d_in (args := [.slice A y.length c]) 35 Try.func54 rfl rfl rfl ?_
  refine d_reg ?_
  refine h_q hflS rfl ?_
  refine h_done (d_seq ?_)
  rcases Nat.lt_or_ge y.length 8 with h8 | h8
  · skip
    have hno : ¬ (8 ≤ y.length ∧ n4 y 0 ≤ 65536 ∧ n4 y 0 + 8 ≤ y.length) := fun h => by have := h.1; omega
    rw [next_no hno, fst_no hno]
    refine d_reg ?_
    refine h_q hflS rfl ?_
    refine h_val rfl (.int .i64 (y.length : Int)) (fun b w hb hH => e_slen ((arg8 hv (Below.refl _ _) (fun _ h => h.elim) hH).rd) Try.underlying29 rfl rfl hb) ?_
    refine h_val rfl (.bool true) (fun b w hb hH => exec_cmp rfl rfl rfl (cmp_lss_t (by omega)) hb) ?_
    refine h_done (d_then rfl (d_reg ?_))
    refine h_q hflS rfl ?_
    refine h_done (d_ret (f_then_ret ?_))
    exact f_fin2 (.tmp rfl) (.tmp rfl) (fun w h => ⟨rfl, below0 h.up⟩) rfl
  · skip
    obtain ⟨A4, hA4⟩ : ∃ A4, (if c = 4 then A else A.map (·.add 4)) = A4 := ⟨_, rfl⟩
    obtain ⟨A8, hA8⟩ : ∃ A8, (if c = 8 then A else A.map (·.add 8)) = A8 := ⟨_, rfl⟩
    have hv4 : Sl8 w (.slice A4 (y.drop 4).length (c - 4)) (y.drop 4) := by have h3 := sl8_drop hv (i := 4) (by omega); rwa [hA4] at h3
    have hv9 : Sl8 w (.slice A8 (y.drop 8).length (c - 8)) (y.drop 8) := by have h3 := sl8_drop hv (i := 8) (by omega); rwa [hA8] at h3
    have hs4 : subv 1 (.slice A y.length c) 4 y.length = .slice A4 (y.drop 4).length (c - 4) := by rw [← hA4, List.length_drop]; exact sub_mid
    have hs9 : subv 1 (.slice A y.length c) 8 y.length = .slice A8 (y.drop 8).length (c - 8) := by rw [← hA8, List.length_drop]; exact sub_mid
    have hcp := sl8_cap hv
    have hd4 : (y.drop 4).length = y.length - 4 := List.length_drop ..
    have hd8 : (y.drop 8).length = y.length - 8 := List.length_drop ..
    obtain ⟨n, hn⟩ : ∃ n, n4 y 0 = n := ⟨_, rfl⟩
    obtain ⟨m, hm⟩ : ∃ m, n4 (y.drop 4) 0 = m := ⟨_, rfl⟩
    have hn32 : n < 4294967296 := hn ▸ n4_lt y
    have hm32 : m < 4294967296 := hm ▸ n4_lt _
    refine d_reg ?_
    refine h_q hflS rfl ?_
    refine h_val rfl (.int .i64 (y.length : Int)) (fun b w hb hH => e_slen ((arg8 hv (Below.refl _ _) (fun _ h => h.elim) hH).rd) Try.underlying29 rfl rfl hb) ?_
    refine h_val rfl (.bool false) (fun b w hb hH => exec_cmp rfl rfl rfl (cmp_lss_f (by omega)) hb) ?_
    refine h_done (d_else rfl (d_skip (f_to (d_seq ?_))))
    refine d_parS 9 2 [⟨.quiet, [none, none], fun _ => .slice A y.length c, []⟩, ⟨.actv 0, [some false, some false], fun _ => .int .u32 (n : Int), [0]⟩, ⟨.quiet, [none, none], fun _ => .slice A y.length c, []⟩, ⟨.quiet, [none, none], fun _ => .slice A4 (y.drop 4).length (c - 4), [2]⟩, ⟨.actv 1, [some true, some false], fun _ => .int .u32 (m : Int), [3]⟩, ⟨.quiet, [none, none], fun _ => .slice A y.length c, []⟩, ⟨.quiet, [none, none], fun _ => .slice A8 (y.drop 8).length (c - 8), [5]⟩, ⟨.quiet, [some true, some true], fun _ => .int .u32 (n : Int), [1]⟩, ⟨.quiet, [some true, some true], fun _ => .int .u32 (m : Int), [4]⟩] [(0, .slice A y.length c), (2, .slice none 0 0), (3, .bool false)] (fun ρ => match ρ with | [r0, r1] => [] | _ => []) (by kernel_rfl) (by kernel_rfl) ⟨rfl, rfl, rfl, trivial⟩ rfl ?_ ?_
    · skip
      refine s_cons (by intro r0_ r1_; exact ⟨rfl, fun b w hH hb => exec_q1 hflS rfl hb⟩) ?_
      refine s_cons (by exact ⟨rfl, Acts.su (a_call (ent_of Try.func56 (by kernel_rfl) rfl) (fun w hH => num_c _ (arg8 hv (Below.refl _ _) (fun _ h => h.elim) hH) (by omega) hn) rfl rfl rfl) rfl⟩) ?_
      refine s_cons (by intro r0_ r1_; exact ⟨rfl, fun b w hH hb => exec_q1 hflS rfl hb⟩) ?_
      refine s_cons (by intro r0_ r1_; exact ⟨rfl, fun b w hH hb => e_sub_lo (i := 4) sl_uint8 hs4 (by omega) rfl rfl rfl hH hb⟩) ?_
      refine s_cons (by intro v0_; exact ⟨rfl, Acts.su (a_call (ent_of Try.func56 (by kernel_rfl) rfl) (fun w hH => num_c _ (arg8 hv4 (Below.refl _ _) (fun _ h => h.elim) hH) (by omega) hm) rfl rfl rfl) rfl⟩) ?_
      refine s_cons (by intro r0_ r1_; exact ⟨rfl, fun b w hH hb => exec_q1 hflS rfl hb⟩) ?_
      refine s_cons (by intro r0_ r1_; exact ⟨rfl, fun b w hH hb => e_sub_lo (i := 8) sl_uint8 hs9 (by omega) rfl rfl rfl hH hb⟩) ?_
      refine s_cons (by intro v0_ v1_; exact ⟨rfl, fun b w hH hb => exec_q1 hflS rfl hb⟩) ?_
      refine s_cons (by intro v0_ v1_; exact ⟨rfl, fun b w hH hb => exec_q1 hflS rfl hb⟩) ?_
      exact s_nil
    intro v0_ v1_
    refine WL2.keep (env' := [(2, .slice none 0 0), (3, .bool false), (17, .slice A8 (y.drop 8).length (c - 8)), (4, .int .u32 (n : Int)), (5, .int .u32 (m : Int))]) ⟨rfl, rfl, rfl, rfl, rfl, trivial⟩ ?_
    refine h_q hflS rfl ?_
    refine h_nil (f_to (d_seq ?_))
    have hc : 65536 < n ∨ (n ≤ 65536 ∧ y.length - 8 < n) ∨ (n ≤ 65536 ∧ n ≤ y.length - 8) := by omega
    rcases hc with h1 | ⟨h1, h2⟩ | ⟨h1, h2⟩
    · skip
      have hno : ¬ (8 ≤ y.length ∧ n4 y 0 ≤ 65536 ∧ n4 y 0 + 8 ≤ y.length) := fun h => by have := h.2.1; omega
      rw [next_no hno, fst_no hno]
      refine d_reg ?_
      refine h_q hflS rfl ?_
      refine h_val rfl (.bool true) (fun b w hb hH => exec_cmp rfl rfl rfl (cmp_gtr_t (by omega)) hb) ?_
      refine h_q hflS rfl ?_
      refine h_done (d_then rfl (d_reg ?_))
      refine h_q hflS rfl ?_
      refine h_done (d_ret (f_then_ret ?_))
      exact f_fin2 (.tmp rfl) (.tmp rfl) (fun w h => ⟨rfl, below0 h.up⟩) rfl
    · skip
      have hno : ¬ (8 ≤ y.length ∧ n4 y 0 ≤ 65536 ∧ n4 y 0 + 8 ≤ y.length) := fun h => by have := h.2.2; omega
      rw [next_no hno, fst_no hno]
      refine d_reg ?_
      refine h_q hflS rfl ?_
      refine h_val rfl (.bool false) (fun b w hb hH => exec_cmp rfl rfl rfl (cmp_gtr_f (by omega)) hb) ?_
      refine h_q hflS rfl ?_
      refine h_val rfl (.int .i64 (n : Int)) (fun b w hb hH => exec_conv Try.underlying78 Try.underlying3 (IntWalk.i64_in _ (by omega)) rfl rfl hb) ?_
      refine h_q hflS rfl ?_
      refine h_val rfl (.int .i64 ((y.drop 8).length : Int)) (fun b w hb hH => e_slen ((arg8 hv9 (Below.refl _ _) (fun _ h => h.elim) hH).rd) Try.underlying29 rfl rfl hb) ?_
      refine h_val rfl (.bool true) (fun b w hb hH => exec_cmp rfl rfl rfl (cmp_gtr_t (by omega)) hb) ?_
      refine h_q hflS rfl ?_
      refine h_done (d_then rfl (d_reg ?_))
      refine h_q hflS rfl ?_
      refine h_done (d_ret (f_then_ret ?_))
      exact f_fin2 (.tmp rfl) (.tmp rfl) (fun w h => ⟨rfl, below0 h.up⟩) rfl
    · skip
      obtain ⟨x, hx⟩ : ∃ x, (y.drop 8).take n = x := ⟨_, rfl⟩
      have hxl : x.length = n := by rw [← hx, List.length_take]; omega
      have hvx : Sl8 w (.slice A8 x.length (c - 8)) x := by have h3 := (sl8_take hv9 (k := n) (by omega)); rwa [hx] at h3
      have hsx : subv 1 (.slice A8 (y.drop 8).length (c - 8)) 0 n = .slice A8 x.length (c - 8) := by rw [hxl]; exact subTake
      have hfst : fstP A c y = .slice A8 x.length (c - 8) := by unfold fstP; rw [if_pos ⟨h8, by omega, by omega⟩, hA8, hn, hxl]
      rw [hfst, next_is h8 hn h1 (by omega) hx, hm]
      have hs32 := crc_lt x
      refine d_reg ?_
      refine h_q hflS rfl ?_
      refine h_val rfl (.bool false) (fun b w hb hH => exec_cmp rfl rfl rfl (cmp_gtr_f (by omega)) hb) ?_
      refine h_q hflS rfl ?_
      refine h_val rfl (.int .i64 (n : Int)) (fun b w hb hH => exec_conv Try.underlying78 Try.underlying3 (IntWalk.i64_in _ (by omega)) rfl rfl hb) ?_
      refine h_q hflS rfl ?_
      refine h_val rfl (.int .i64 ((y.drop 8).length : Int)) (fun b w hb hH => e_slen ((arg8 hv9 (Below.refl _ _) (fun _ h => h.elim) hH).rd) Try.underlying29 rfl rfl hb) ?_
      refine h_val rfl (.bool false) (fun b w hb hH => exec_cmp rfl rfl rfl (cmp_gtr_f (by omega)) hb) ?_
      refine h_q hflS rfl ?_
      refine h_done (d_else rfl (d_skip (f_to (d_reg ?_))))
      refine h_q hflS rfl ?_
      refine h_val rfl (.slice A8 x.length (c - 8)) (fun b w hb hH => e_sub_hi (j := n) sl_uint8 hsx (by omega) rfl rfl rfl hH hb) ?_
      refine h_q hflS rfl ?_
      refine h_done ?_
      rcases Classical.em (crcSum x = m) with hz | hz
      · skip
        rw [decide_eq_true hz]
        refine d_reg ?_
        refine h_q hflS rfl ?_
        refine h_act (post := fun _ => []) rfl (a_call (ent_of Try.func40 (by kernel_rfl) rfl) (fun w hH => sum_c (arg8 hvx (Below.refl _ _) (fun _ h => h.elim) hH) (by omega)) rfl rfl rfl) ?_; rintro ⟨⟩
        refine h_q hflS rfl ?_
        refine h_val rfl (.bool true) (fun b w hb hH => exec_cmp rfl rfl rfl (cmp_eql_t (by omega)) hb) ?_
        refine h_q hflS rfl ?_
        refine h_done (d_ret ?_)
        exact f_fin2 (.tmp rfl) (.tmp rfl) (fun w h => ⟨rfl, below0 h.up⟩) rfl
      · skip
        rw [decide_eq_false hz]
        refine d_reg ?_
        refine h_q hflS rfl ?_
        refine h_act (post := fun _ => []) rfl (a_call (ent_of Try.func40 (by kernel_rfl) rfl) (fun w hH => sum_c (arg8 hvx (Below.refl _ _) (fun _ h => h.elim) hH) (by omega)) rfl rfl rfl) ?_; rintro ⟨⟩
        refine h_q hflS rfl ?_
        refine h_val rfl (.bool false) (fun b w hb hH => exec_cmp rfl rfl rfl (cmp_eql_f (by omega)) hb) ?_
        refine h_q hflS rfl ?_
        refine h_done (d_ret ?_)
        exact f_fin2 (.tmp rfl) (.tmp rfl) (fun w h => ⟨rfl, below0 h.up⟩) rfl
end Go.Proofs.Ytjcfimmcogkopaa.Sep

namespace Go.Proofs.Ytjcfimmcogkopaa.Sep
open Go.RowKit
open Go.Proofs.Ytjcfimmcogkopaa.Mem (Dist Blk Chg below0)

set_option maxRecDepth 100000 in
theorem frame_does {X : Ass} {v : Value} {y r : List UInt8} (hX : Rd8 X v y) (hl : y.length ≤ 140737488351232) (hr : frameL y = r) : Does Try.prog 21 #[v] [X] (fun (v : Value) => v) (fun (v : Value) => [X, Vec 5 1 encB v r]) := by
  refine d_ins (args := [v]) 23 Try.func21 rfl rfl rfl ?_; intro w rs
  refine d_reg ?_
  refine h_q hflS rfl ?_
  refine h_done (d_seq ?_)
  rcases Nat.lt_or_ge 65536 y.length with h0 | h0
  · skip
    obtain rfl : r = [] := by rw [← hr]; unfold frameL; rw [if_neg (by omega)]
    refine d_reg ?_
    refine h_q hflS rfl ?_
    refine h_val rfl (.int .i64 (y.length : Int)) (fun b w hb hH => e_slen ((hH.rd8 0 rfl hX).rd) Try.underlying29 rfl rfl hb) ?_
    refine h_val rfl (.bool true) (fun b w hb hH => exec_cmp rfl rfl rfl (cmp_gtr_t (by omega)) hb) ?_
    refine h_done (d_then rfl ?_)
    refine d_nilvec 5 1 encB ?_
    refine d_reg ?_
    refine h_q hflS rfl ?_
    refine h_done (d_ret (f_then_ret ?_))
    exact f_fin1 (.tmp rfl) (fun w h => tells (.slice none 0 0) rfl [1, 0] rfl h same_parts) rfl
  · skip
    have hc := crc_lt y
    have hr_ : b4 y.length ++ b4 (crcSum y) ++ y = r := by rw [← hr]; unfold frameL; rw [if_pos h0]
    refine d_reg ?_
    refine h_q hflS rfl ?_
    refine h_val rfl (.int .i64 (y.length : Int)) (fun b w hb hH => e_slen ((hH.rd8 0 rfl hX).rd) Try.underlying29 rfl rfl hb) ?_
    refine h_val rfl (.bool false) (fun b w hb hH => exec_cmp rfl rfl rfl (cmp_gtr_f (by omega)) hb) ?_
    refine h_done (d_else rfl (d_skip (f_to (d_reg ?_))))
    refine h_q hflS rfl ?_
    refine h_val rfl (.int .i64 (y.length : Int)) (fun b w hb hH => e_slen ((hH.rd8 0 rfl hX).rd) Try.underlying29 rfl rfl hb) ?_
    refine h_val rfl (.int .i64 ((8 + y.length : Nat) : Int)) (fun b w hb hH => exec_ar rfl rfl rfl rfl (by rw [IntWalk.i64_in _ (by omega)]; omega) hb) ?_
    refine h_act (post := fun f0 => [Vec 5 1 encB f0 ([]), X]) rfl (a_mkcap8 sl_uint8 (by kernel_rfl) (fun w => by kernel_rfl) (N := (8 + y.length)) ⟨by omega, by omega⟩ rfl rfl rfl) ?_; rintro f0
    refine h_q hflS rfl ?_
    refine h_done (d_reg ?_)
    refine h_q hflS rfl ?_
    refine h_val rfl (.int .i64 (y.length : Int)) (fun b w hb hH => e_slen ((hH.rd8 1 rfl hX).rd) Try.underlying29 rfl rfl hb) ?_
    refine h_val rfl (.int .u32 (y.length : Int)) (fun b w hb hH => exec_conv Try.underlying3 Try.underlying78 (wrap_u32 (by omega)) rfl rfl hb) ?_
    refine h_act (post := fun f1 => [Vec 5 1 encB f1 (b4 y.length), X]) rfl (a_does (os' := fun f1 => [Vec 5 1 encB f1 (b4 y.length), X]) [0] 0 (ent_of Try.func39 (by kernel_rfl) rfl) (appnum_does (l := []) (n := y.length) (r := b4 y.length) (by omega) (by simp) rfl) rfl rfl rfl (fun _ => rfl) rfl rfl rfl) ?_; rintro f1
    refine h_q hflS rfl ?_
    refine h_done (d_reg ?_)
    refine h_q hflS rfl ?_
    refine h_act (post := fun _ => [Vec 5 1 encB f1 (b4 y.length), X]) rfl (a_call (ent_of Try.func40 (by kernel_rfl) rfl) (fun w hH => sum_c (hH.rd8 1 rfl hX) (by omega)) rfl rfl rfl) ?_; rintro ⟨⟩
    refine h_act (post := fun f2 => [Vec 5 1 encB f2 (b4 y.length ++ b4 (crcSum y)), X]) rfl (a_does (os' := fun f2 => [Vec 5 1 encB f2 (b4 y.length ++ b4 (crcSum y)), X]) [0] 0 (ent_of Try.func39 (by kernel_rfl) rfl) (appnum_does (l := b4 y.length) (n := (crcSum y)) (r := b4 y.length ++ b4 (crcSum y)) (crc_lt y) (by rw [b4_len]; omega) rfl) rfl rfl rfl (fun _ => rfl) rfl rfl rfl) ?_; rintro f2
    refine h_q hflS rfl ?_
    refine h_done (d_reg ?_)
    refine h_q hflS rfl ?_
    refine h_act (post := fun f3 => [Vec 5 1 encB f3 r, X]) rfl (a_append8 0 sl_uint8 (by kernel_rfl) rfl (y) (fun w hH => hH.rd 1 rfl hX.rd) (by rw [List.length_append, b4_len, b4_len]; omega) rfl rfl rfl hr_) ?_; rintro f3
    refine h_q hflS rfl ?_
    refine h_done (d_ret ?_)
    exact f_fin1 (.tmp rfl) (fun w h => tells f3 rfl [1, 0] rfl h same_parts) rfl
end Go.Proofs.Ytjcfimmcogkopaa.Sep
