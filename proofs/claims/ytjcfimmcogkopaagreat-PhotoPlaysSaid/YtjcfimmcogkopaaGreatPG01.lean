/-
  FrmM · FrmK · FrmX · FrmD · FrmN · TyF · FrmA · FrmF
-/
import Derived.Test.YtjcfimmcogkopaaGreatPA08
import Derived.Test.YtjcfimmcogkopaaGreatPB01
import Derived.Test.YtjcfimmcogkopaaGreatPB02
import Derived.Test.YtjcfimmcogkopaaGreatPB03
import Derived.Test.YtjcfimmcogkopaaGreatPB04
set_option linter.unusedSimpArgs false
set_option linter.unusedVariables false
set_option maxRecDepth 100000
namespace Go.Proofs.YtjcfimmcogkopaaGreat.Sep
def b4 (n : Nat) : List UInt8 := [UInt8.ofNat n, UInt8.ofNat (n / 256), UInt8.ofNat (n / 65536), UInt8.ofNat (n / 16777216)]
def n4 (l : List UInt8) (i : Nat) : Nat := (l.getD i 0).toNat + (l.getD (i + 1) 0).toNat * 256 + (l.getD (i + 2) 0).toNat * 65536 + (l.getD (i + 3) 0).toNat * 16777216
def BZ (x : List UInt8) : List UInt8 := if x.length ≤ 65536 then b4 x.length ++ b4 (BX x) ++ x else []
def Cc (b : List UInt8) : Option (List UInt8) := if 8 ≤ b.length ∧ n4 b 0 ≤ 65536 ∧ n4 b 0 + 8 ≤ b.length ∧ (b.drop 4).take 4 = b4 (BX ((b.drop 8).take (n4 b 0))) then some ((b.drop 8).take (n4 b 0)) else none
def Eg : Nat → List UInt8 → List (List UInt8) × Nat
  | 0, _ => ([], 0)
  | k + 1, b => match Cc b with
    | none => ([], 0)
    | some x => (x :: (Eg k (b.drop (8 + x.length))).1, 8 + x.length + (Eg k (b.drop (8 + x.length))).2)
def Ca (b : List UInt8) : List (List UInt8) × Nat := Eg b.length b
theorem Ht {b x : List UInt8} (h : Cc b = some x) : 8 + x.length ≤ b.length ∧ x.length ≤ 65536 := by
  unfold Cc at h
  split at h
  · rename_i hc
    cases h
    rw [List.length_take, List.length_drop]; omega
  · cases h
theorem P1 : ∀ (k : Nat) (b : List UInt8), b.length ≤ k → Eg k b = Eg b.length b := by
  intro k
  induction k using Nat.strongRecOn with
  | _ k ih =>
    intro b hb
    cases hn : Cc b with
    | none =>
      cases k with
      | zero => have : b.length = 0 := by omega
                rw [this]
      | succ k =>
        cases hl : b.length with
        | zero => simp only [Eg, hn]
        | succ m => simp only [Eg, hn]
    | some x =>
      have hx := Ht hn
      cases k with
      | zero => omega
      | succ k =>
        obtain ⟨m, hm⟩ : ∃ m, b.length = m + 1 := ⟨b.length - 1, by omega⟩
        rw [hm]
        simp only [Eg, hn]
        have hd : (b.drop (8 + x.length)).length = b.length - (8 + x.length) := List.length_drop ..
        rw [ih k (by omega) _ (by omega), ih m (by omega) _ (by omega)]
theorem CZ {b : List UInt8} (h : Cc b = none) : Ca b = ([], 0) := by
  unfold Ca
  cases b.length with
  | zero => rfl
  | succ m => simp only [Eg, h]
theorem II {b x : List UInt8} (h : Cc b = some x) : Ca b = (x :: (Ca (b.drop (8 + x.length))).1, 8 + x.length + (Ca (b.drop (8 + x.length))).2) := by
 have hx := Ht h
 obtain ⟨m, hm⟩ : ∃ m, b.length = m + 1 := ⟨b.length - 1, by omega⟩
 unfold Ca
 rw [hm]
 simp only [Eg, h]
 have hd : (b.drop (8 + x.length)).length = b.length - (8 + x.length) := List.length_drop ..
 rw [P1 m _ (by omega)]
theorem Rk : ∀ (k : Nat) (b : List UInt8), (Eg k b).2 ≤ b.length
  | 0, _ => Nat.zero_le _
  | k + 1, b => by
    simp only [Eg]
    cases h : Cc b with
    | none => exact Nat.zero_le _
    | some x =>
      have hx := Ht h
      have := Rk k (b.drop (8 + x.length))
      rw [List.length_drop] at this
      simp only
      omega
theorem ET : ∀ (k : Nat) (b x : List UInt8), x ∈ (Eg k b).1 → x.length ≤ 65536
  | 0, _, _, h => by cases h
  | k + 1, b, x, h => by
    simp only [Eg] at h
    cases hn : Cc b with
    | none => rw [hn] at h; cases h
    | some y =>
      rw [hn] at h
      rcases List.mem_cons.1 h with rfl | h
      · exact (Ht hn).2
      · exact ET k _ _ h
theorem Lz : ∀ (k : Nat) (b : List UInt8), (Eg k b).1.length * 8 ≤ (Eg k b).2
  | 0, _ => Nat.le_refl _
  | k + 1, b => by
    simp only [Eg]
    cases h : Cc b with
    | none => exact Nat.le_refl _
    | some x =>
      have := Lz k (b.drop (8 + x.length))
      simp only [List.length_cons]
      omega
theorem JY (n : Nat) : (b4 n).length = 4 := rfl
theorem JZ (l : List UInt8) : BX l < 4294967296 := by unfold BX; exact (~~~ Er (BitVec.allOnes 32) l).isLt
theorem Ub {n : Nat} (h : n < 4294967296) (r : List UInt8) : n4 (b4 n ++ r) 0 = n := by
 unfold n4 b4
 simp only [List.cons_append, List.nil_append, List.getD_cons_zero, List.getD_cons_succ, Nat.zero_add, UInt8.toNat_ofNat']
 omega
theorem EU {x : List UInt8} (h : x.length ≤ 65536) : (BZ x).length = 8 + x.length := by
 unfold BZ
 rw [if_pos h]
 simp only [List.length_append, JY]
theorem P2 {x : List UInt8} (h : x.length ≤ 65536) (r : List UInt8) : Cc (BZ x ++ r) = some x := by
 have hl := EU h
 have e : BZ x ++ r = b4 x.length ++ (b4 (BX x) ++ (x ++ r)) := by unfold BZ; rw [if_pos h]; simp
 have hn : n4 (BZ x ++ r) 0 = x.length := by rw [e]; exact Ub (by omega) _
 have h8 : ((BZ x ++ r).drop 8).take x.length = x := by
  rw [e]
  have : (b4 x.length ++ (b4 (BX x) ++ (x ++ r))).drop 8 = x ++ r := rfl
  rw [this]; simp
 unfold Cc
 rw [hn, h8, if_pos]
 refine ⟨by rw [List.length_append]; omega, h, by rw [List.length_append]; omega, ?_⟩
 rw [e]; rfl
def Du (ps : List (List UInt8)) : List UInt8 := (ps.map BZ).flatten
theorem Kk (x : List UInt8) (ps : List (List UInt8)) : Du (x :: ps) = BZ x ++ Du ps := rfl
theorem OH (x : List UInt8) (ps : List (List UInt8)) : Du (ps ++ [x]) = Du ps ++ BZ x := by simp [Du]
theorem Hu : ∀ (ps : List (List UInt8)), (∀ x, x ∈ ps → x.length ≤ 65536) → ∀ r, Ca (Du ps ++ r) = (ps ++ (Ca r).1, (Du ps).length + (Ca r).2)
  | [], _, r => by simp [Du]
  | x :: ps, h, r => by
    have hx := h x (List.mem_cons_self ..)
    have hl := EU hx
    rw [Kk, List.append_assoc, II (P2 hx _)]
    have hd : (BZ x ++ (Du ps ++ r)).drop (8 + x.length) = Du ps ++ r := by rw [← hl]; simp
    rw [hd, Hu ps (fun y hy => h y (List.mem_cons_of_mem _ hy)) r]
    simp only [List.cons_append, List.length_append, Prod.mk.injEq, true_and]
    omega
theorem Uc {x : List UInt8} (h : x.length ≤ 65536) {k : Nat} (hk : k < 8 + x.length) : Cc ((BZ x).take k) = none := by
 have hl := EU h
 unfold Cc
 refine if_neg fun ⟨h1, _, h3, _⟩ => ?_
 rw [List.length_take] at h1 h3
 have hn : n4 ((BZ x).take k) 0 = x.length := by
  have e : (BZ x).take k = b4 x.length ++ (b4 (BX x) ++ x).take (k - 4) := by
   unfold BZ
   rw [if_pos h, List.append_assoc, List.take_append, JY, List.take_of_length_le (by rw [JY]; omega)]
  rw [e]; exact Ub (by omega) _
 rw [hn] at h3
 omega
end Go.Proofs.YtjcfimmcogkopaaGreat.Sep
namespace Go.Proofs.YtjcfimmcogkopaaGreat.Sep
open Go.RowKit
open Go.Proofs.YtjcfimmcogkopaaGreat.Mem (Bh Cs Chg AA)
theorem Dg (m : Nat) : IntKind.u8.wrap (m : Int) = ((UInt8.ofNat m).toNat : Int) := by
 rw [UInt8.toNat_ofNat']
 have h : IntKind.u8.wrap (m : Int) = (m : Int) % 256 := by simp [IntKind.wrap, IntKind.signed, IntKind.bits]
 rw [h]; omega
section
variable {P : Program} {n : Nat} {w : World} {env : List (Nat × Value)} {o : Oper} {a : Act}
theorem Ck {T T' : TypeId} {x y : Operand} {k k' : IntKind} {m s h : Nat} (hs : s ≤ k.bits) (hh : m / 2 ^ s = h) (ho : o.op = .binOp .shr T x y T') (hx : evs env x = some (.int k (m : Int))) (hy : evs env y = some (.int k' (s : Int))) (hF : Fr n a env) : (execOp a.eval o).run P w = .ok (.value (.int k (h : Int))) w := by
 subst hh
 have h1 : min s k.bits = s := Nat.min_eq_left hs
 have h2 : (m : Int).fdiv (2 ^ s) = ((m / 2 ^ s : Nat) : Int) := by
  rw [Int.fdiv_eq_ediv_of_nonneg _ (by exact_mod_cast Nat.zero_le _)]
  simp
 have h3 : ¬ ((s : Int) < 0) := by omega
 unfold execOp
 simp only [ho, hF.evs hx, hF.evs hy]
 simp [eqGuard, binOp, Op.shift, h1, h2, h3]
theorem Fy {T T' : TypeId} {x y : Operand} {k k' : IntKind} {m s : Nat} {h : Int} (hs : s ≤ k.bits) (hh : k.wrap ((m : Int) * 2 ^ s) = h) (ho : o.op = .binOp .shl T x y T') (hx : evs env x = some (.int k (m : Int))) (hy : evs env y = some (.int k' (s : Int))) (hF : Fr n a env) : (execOp a.eval o).run P w = .ok (.value (.int k h)) w := by
 subst hh
 have h1 : min s k.bits = s := Nat.min_eq_left hs
 have h3 : ¬ ((s : Int) < 0) := by omega
 unfold execOp
 simp only [ho, hF.evs hx, hF.evs hy]
 simp [eqGuard, binOp, Op.shift, h1, h3]
end
section
variable {P : Program} {Q : Exit → Act → World → Prop} {n : Nat} {B : Nat → Prop} {w0 : World} {os : List Ass} {env : List (Nat × Value)} {o : Oper} {t e : TypeId}
theorem P3 (hT : SliceT P t e 1) {c0 c1 c2 c3 c4 c5 c6 c7 : Value} (h0 : c0.cells = #[c0]) (h1 : c1.cells = #[c1]) (h2 : c2.cells = #[c2]) (h3 : c3.cells = #[c3]) (h4 : c4.cells = #[c4]) (h5 : c5.cells = #[c5]) (h6 : c6.cells = #[c6]) (h7 : c7.cells = #[c7]) (w : World) : (Instr.buildSlice t 8 #[(0, c0), (1, c1), (2, c2), (3, c3), (4, c4), (5, c5), (6, c6), (7, c7)]).run P w = .ok (.slice (some ⟨w.heap.size, 0, none⟩) 8 8) (w.alloc (.cells #[c0, c1, c2, c3, c4, c5, c6, c7] e)) := by
 obtain ⟨inf, z, hinf, hz, hk, _, hzs, _⟩ := hT.inf
 simp [Instr.buildSlice, run_underlying hT.ht, hT.sizeOf, zeroValue, typeInfo, hinf, hz, Instr.fill, h0, h1, h2, h3, h4, h5, h6, h7, newRow, Array.range_succ, GA]
def vB (a : UInt8) : Value := .int .u8 (a.toNat : Int)
theorem Ud (hT : SliceT P t e 1) {x0 x1 x2 x3 x4 x5 x6 x7 : Operand} (a0 a1 a2 a3 a4 a5 a6 a7 : UInt8) (ho : o.op = .buildSlice t 8 #[(0, x0), (1, x1), (2, x2), (3, x3), (4, x4), (5, x5), (6, x6), (7, x7)]) (h0 : evs env x0 = some (vB a0)) (h1 : evs env x1 = some (vB a1)) (h2 : evs env x2 = some (vB a2)) (h3 : evs env x3 = some (vB a3)) (h4 : evs env x4 = some (vB a4)) (h5 : evs env x5 = some (vB a5)) (h6 : evs env x6 = some (vB a6)) (h7 : evs env x7 = some (vB a7)) : Bk P Q n env B w0 os o (fun v : Value => v) (fun v => Ar e 1 encB v [a0, a1, a2, a3, a4, a5, a6, a7] :: os) := fun b w hH hF K hK => by
 have hrun : (execOp b.eval o).run P w = .ok (.value (.slice (some ⟨w.heap.size, 0, none⟩) 8 8)) (w.alloc (.cells #[vB a0, vB a1, vB a2, vB a3, vB a4, vB a5, vB a6, vB a7] e)) := by
  unfold execOp
  simp [ho, hF.evs h0, hF.evs h1, hF.evs h2, hF.evs h3, hF.evs h4, hF.evs h5, hF.evs h6, hF.evs h7, Sem.run_bind, P3 hT (c0 := vB a0) (c1 := vB a1) (c2 := vB a2) (c3 := vB a3) (c4 := vB a4) (c5 := vB a5) (c6 := vB a6) (c7 := vB a7) rfl rfl rfl rfl rfl rfl rfl rfl]
 refine FH (w0 := w) b hrun (hK _ _ ?_)
 have := hH.new e #[vB a0, vB a1, vB a2, vB a3, vB a4, vB a5, vB a6, vB a7]
 obtain ⟨rs, ⟨r1, r2, e1, h1, h2⟩, h3⟩ := this
 unfold cell at h1
 exact ⟨rs, ⟨r1, r2, e1, .inr ⟨w.heap.size, 8, #[vB a0, vB a1, vB a2, vB a3, vB a4, vB a5, vB a6, vB a7], rfl, Nat.le_refl _, by unfold maxLen; omega, rfl, by simp [flat, encB, vB], h1⟩, h2⟩, h3⟩
end
section
variable {v : Value} {l : List UInt8} {w : World}
theorem Ue (h : D6 w v l) (hl : l.length ≤ 140737488355328) : Calls Tryz.prog 59 #[v] w fun e w' => e = .returned (.int .u32 (BX l : Int)) ∧ Below w.heap.size w w' := by
 obtain ⟨A, c, rfl, hb⟩ := h
 refine (PK w A c l hb hl).mono ?_
 rintro e w' ⟨he, rfl⟩
 exact ⟨he, Below.refl _ _⟩
theorem Uf (h : D6 w v l) (hl : l.length ≤ 140737488355328) : Calls Tryz.prog 81 #[v] w fun e w' => e = .returned (.int .u32 (BX l : Int)) ∧ Below w.heap.size w w' := by
 obtain ⟨A, c, rfl, hb⟩ := h
 refine (VC w A c l hb hl).mono ?_
 rintro e w' ⟨he, rfl⟩
 exact ⟨he, Below.refl _ _⟩
end
end Go.Proofs.YtjcfimmcogkopaaGreat.Sep
namespace Go.Proofs.YtjcfimmcogkopaaGreat.Sep
open Go.RowKit
open Go.Proofs.YtjcfimmcogkopaaGreat.Mem (Bh Cs Chg AA)
section
variable {P : Program} {Q : Exit → Act → World → Prop} {n : Nat} {B : Nat → Prop} {w0 : World} {os : List Ass} {env : List (Nat × Value)} {o : Oper} {t e : TypeId}
end
end Go.Proofs.YtjcfimmcogkopaaGreat.Sep
namespace Go.Proofs.YtjcfimmcogkopaaGreat.Sep
open Go.RowKit
open Go.Proofs.YtjcfimmcogkopaaGreat.Mem (Bh Cs Chg AA)
section
variable {P : Program} {Q : Exit → Act → World → Prop} {n : Nat} {B : Nat → Prop} {w0 : World} {os : List Ass} {env : List (Nat × Value)} {o : Oper} {t e : TypeId}
theorem P4 (hT : SliceT P t e 1) (hb : (P.info? e).map (fun i => i.bytes) = some 1) (hz : ∀ w, (zeroValue e).run P w = .ok (.int .u8 0) w) {N : Nat} (hN : 1 ≤ N ∧ N ≤ 1000000) (w : World) : (Instr.makeSlice t (.int .i64 0) (.int .i64 (N : Int))).run P w = .ok (.slice (some ⟨w.heap.size, 0, none⟩) 0 N) (w.alloc (.cells (Array.replicate N (.int .u8 0)) e)) := by
 obtain ⟨inf, z, hinf, hzz, hk, _, hzs, _⟩ := hT.inf
 have hb1 : inf.bytes = 1 := by simpa [hinf] using hb
 have h1 : IntKind.i64.wrap (N : Int) = (N : Int) := IntWalk.i64_in _ (by omega)
 have h2 : ¬ ((N : Int) < 0) := by omega
 have h3 : ¬ ((281474976710656 : Int) < (N : Int)) := by omega
 have h4 : ¬ (roomBytes < N) := by unfold roomBytes; omega
 have hw0 : IntKind.i64.wrap 0 = 0 := by decide
 have hm : (Array.range N).map (fun _ => Value.int .u8 0) = Array.replicate N (.int .u8 0) := by
  apply Array.ext_getElem?
  intro i
  simp [Array.getElem?_replicate]
  split <;> simp_all
 have h0 : N ≠ 0 := by omega
 simp [Instr.makeSlice, run_underlying hT.ht, asInt, asIntOf, typeInfo, hinf, hb1, h1, h2, h3, h4, hw0, askRoom, hT.sizeOf, hz, h0, newRow, Sem.run_bind, Value.cells, Nat.mod_one]
 simp [hm, Sem.run]
theorem Ug (hT : SliceT P t e 1) (hb : (P.info? e).map (fun i => i.bytes) = some 1) (hz : ∀ w, (zeroValue e).run P w = .ok (.int .u8 0) w) {N : Nat} (hN : 1 ≤ N ∧ N ≤ 1000000) {x y : Operand} (ho : o.op = .makeSlice t x y) (hx : evs env x = some (.int .i64 0)) (hy : evs env y = some (.int .i64 (N : Int))) : Bk P Q n env B w0 os o (fun v : Value => v) (fun v => Ar e 1 encB v [] :: os) := fun b w hH hF K hK => by
 have hrun : (execOp b.eval o).run P w = .ok (.value (.slice (some ⟨w.heap.size, 0, none⟩) 0 N)) (w.alloc (.cells (Array.replicate N (.int .u8 0)) e)) := by
  unfold execOp
  simp [ho, hF.evs hx, hF.evs hy, Sem.run_bind, P4 hT hb hz hN]
 refine FH (w0 := w) b hrun (hK _ _ ?_)
 have := hH.new e (Array.replicate N (.int .u8 0))
 obtain ⟨rs, ⟨r1, r2, e1, h1, h2⟩, h3⟩ := this
 unfold cell at h1
 exact ⟨rs, ⟨r1, r2, e1, .inr ⟨w.heap.size, N, Array.replicate N (.int .u8 0), rfl, Nat.zero_le _, by unfold maxLen; omega, by simp, by simp [flat], h1⟩, h2⟩, h3⟩
theorem P5 (hT : SliceT P t e 1) {c0 c1 c2 c3 : Value} (h0 : c0.cells = #[c0]) (h1 : c1.cells = #[c1]) (h2 : c2.cells = #[c2]) (h3 : c3.cells = #[c3]) (w : World) : (Instr.buildSlice t 4 #[(0, c0), (1, c1), (2, c2), (3, c3)]).run P w = .ok (.slice (some ⟨w.heap.size, 0, none⟩) 4 4) (w.alloc (.cells #[c0, c1, c2, c3] e)) := by
 obtain ⟨inf, z, hinf, hz, hk, _, hzs, _⟩ := hT.inf
 simp [Instr.buildSlice, run_underlying hT.ht, hT.sizeOf, zeroValue, typeInfo, hinf, hz, Instr.fill, h0, h1, h2, h3, newRow, Array.range_succ, GA]
theorem Uh (hT : SliceT P t e 1) {x0 x1 x2 x3 : Operand} (a0 a1 a2 a3 : UInt8) (ho : o.op = .buildSlice t 4 #[(0, x0), (1, x1), (2, x2), (3, x3)]) (h0 : evs env x0 = some (vB a0)) (h1 : evs env x1 = some (vB a1)) (h2 : evs env x2 = some (vB a2)) (h3 : evs env x3 = some (vB a3)) : Bk P Q n env B w0 os o (fun v : Value => v) (fun v => Ar e 1 encB v [a0, a1, a2, a3] :: os) := fun b w hH hF K hK => by
 have hrun : (execOp b.eval o).run P w = .ok (.value (.slice (some ⟨w.heap.size, 0, none⟩) 4 4)) (w.alloc (.cells #[vB a0, vB a1, vB a2, vB a3] e)) := by
  unfold execOp
  simp [ho, hF.evs h0, hF.evs h1, hF.evs h2, hF.evs h3, Sem.run_bind, P5 hT (c0 := vB a0) (c1 := vB a1) (c2 := vB a2) (c3 := vB a3) rfl rfl rfl rfl]
 refine FH (w0 := w) b hrun (hK _ _ ?_)
 have := hH.new e #[vB a0, vB a1, vB a2, vB a3]
 obtain ⟨rs, ⟨r1, r2, e1, h1, h2⟩, h3⟩ := this
 unfold cell at h1
 exact ⟨rs, ⟨r1, r2, e1, .inr ⟨w.heap.size, 4, #[vB a0, vB a1, vB a2, vB a3], rfl, Nat.le_refl _, by unfold maxLen; omega, rfl, by simp [flat, encB, vB], h1⟩, h2⟩, h3⟩
end
end Go.Proofs.YtjcfimmcogkopaaGreat.Sep
namespace Go.Proofs.YtjcfimmcogkopaaGreat.Sep
open Go.RowKit
theorem Rl {w : World} {A : Option Addr} {c i j : Nat} {l : List UInt8} (h : D6 w (.slice A l.length c) l) (hij : i ≤ j) (hj : j ≤ l.length) : D6 w (.slice (if c = i then A else A.map (·.add i)) ((l.take j).drop i).length (c - i)) ((l.take j).drop i) := D6.drop (h.takes hj) (by rw [List.length_take]; omega)
theorem Sv {y : List UInt8} {i : Nat} {a0 a1 a2 a3 a4 a5 a6 a7 : UInt8} (h0 : y[i]? = some a0) (h1 : y[i + 1]? = some a1) (h2 : y[i + 2]? = some a2) (h3 : y[i + 3]? = some a3) (h4 : y[i + 4]? = some a4) (h5 : y[i + 5]? = some a5) (h6 : y[i + 6]? = some a6) (h7 : y[i + 7]? = some a7) : (y.drop i).take 8 = [a0, a1, a2, a3, a4, a5, a6, a7] := by
  have hlt := (List.getElem?_eq_some_iff.1 h7).1
  refine List.ext_getElem? fun j => ?_
  rw [List.getElem?_take]
  split
  · rename_i hj
    rw [List.getElem?_drop]
    match j, hj with
    | 0, _ => exact h0
    | 1, _ => exact h1
    | 2, _ => exact h2
    | 3, _ => exact h3
    | 4, _ => exact h4
    | 5, _ => exact h5
    | 6, _ => exact h6
    | 7, _ => exact h7
  · rename_i hj
    rw [List.getElem?_eq_none (by simp; omega)]
theorem Ms {b : List UInt8} {a0 a1 a2 a3 a4 a5 a6 a7 : UInt8} (h : b.take 8 = [a0, a1, a2, a3, a4, a5, a6, a7]) : b = [a0, a1, a2, a3, a4, a5, a6, a7] ++ b.drop 8 := by rw [← h, List.take_append_drop]
theorem W5 {b : List UInt8} {n : Nat} {a0 a1 a2 a3 a4 a5 a6 a7 : UInt8} (h : b.take 8 = [a0, a1, a2, a3, a4, a5, a6, a7]) (hn : a0.toNat + a1.toNat * 256 + a2.toNat * 65536 + a3.toNat * 16777216 = n) : n4 b 0 = n := by
 rw [Ms h, ← hn]; rfl
theorem OI {b : List UInt8} {a0 a1 a2 a3 a4 a5 a6 a7 : UInt8} (h : b.take 8 = [a0, a1, a2, a3, a4, a5, a6, a7]) : (b.drop 4).take 4 = [a4, a5, a6, a7] := by
 rw [Ms h]; rfl
section
variable {b x : List UInt8} {n s : Nat} {a0 a1 a2 a3 a4 a5 a6 a7 c0 c1 c2 c3 : UInt8}
theorem FZ (h : b.take 8 = [a0, a1, a2, a3, a4, a5, a6, a7]) (hn : n4 b 0 = n) (hs : BX ((b.drop 8).take n) = s) (h0 : UInt8.ofNat s = c0) (h1 : UInt8.ofNat (s / 256) = c1) (h2 : UInt8.ofNat (s / 65536) = c2) (h3 : UInt8.ofNat (s / 16777216) = c3) (hd : ¬ (a4 = c0 ∧ a5 = c1 ∧ a6 = c2 ∧ a7 = c3)) : Cc b = none := by
 unfold Cc
 rw [hn, hs, OI h]
 refine if_neg fun ⟨_, _, _, h4⟩ => hd ?_
 unfold b4 at h4
 rw [h0, h1, h2, h3] at h4
 simpa using h4
theorem Sw (h : b.take 8 = [a0, a1, a2, a3, a4, a5, a6, a7]) (hn : n4 b 0 = n) (hn1 : n ≤ 65536) (hx : (b.drop 8).take n = x) (hl : n + 8 ≤ b.length) (hs : BX x = s) (h0 : UInt8.ofNat s = c0) (h1 : UInt8.ofNat (s / 256) = c1) (h2 : UInt8.ofNat (s / 65536) = c2) (h3 : UInt8.ofNat (s / 16777216) = c3) (hd : a4.toNat = c0.toNat ∧ a5.toNat = c1.toNat ∧ a6.toNat = c2.toNat ∧ a7.toNat = c3.toNat) : Cc b = some x := by
 unfold Cc
 rw [hn, hx, hs, OI h, if_pos]
 refine ⟨by omega, hn1, hl, ?_⟩
 unfold b4
 rw [h0, h1, h2, h3, UInt8.toNat_inj.1 hd.1, UInt8.toNat_inj.1 hd.2.1, UInt8.toNat_inj.1 hd.2.2.1, UInt8.toNat_inj.1 hd.2.2.2]
end
theorem Ui {l : List (List UInt8) × Nat} {P r : List (List UInt8)} {x : List UInt8} {at_ m n : Nat} (h : l = (P ++ (x :: r, 8 + x.length + m).1, at_ + (x :: r, 8 + x.length + m).2)) (hn : x.length = n) : l = (P ++ [x] ++ r, at_ + 8 + n + m) := by
 rw [h]
 simp only [List.append_assoc, List.cons_append, List.nil_append, Prod.mk.injEq, true_and]
 omega
end Go.Proofs.YtjcfimmcogkopaaGreat.Sep
namespace Go.Proofs.YtjcfimmcogkopaaGreat.Sep
open Go.RowKit
open Go.Proofs.YtjcfimmcogkopaaGreat.Mem (Bh Cs Chg AA)
end Go.Proofs.YtjcfimmcogkopaaGreat.Sep
namespace Go.Proofs.YtjcfimmcogkopaaGreat.Sep
open Go.RowKit
open Go.Proofs.YtjcfimmcogkopaaGreat.Mem (Bh Cs Chg AA)
theorem P6 {a b : Nat} (k : Nat) (ha : a < 2 ^ k) : a ||| b * 2 ^ k = a + b * 2 ^ k := by
 have := Nat.two_pow_add_eq_or_of_lt (i := k) (b := a) ha b
 rw [Nat.or_comm, Nat.mul_comm, ← this, Nat.add_comm]
theorem wrap_u32 {m : Nat} (h : m < 4294967296) : IntKind.u32.wrap (m : Int) = (m : Int) := by
 have e : IntKind.u32.wrap (m : Int) = (m : Int) % 4294967296 := by simp [IntKind.wrap, IntKind.signed, IntKind.bits]
 rw [e]; omega
theorem J0 {m s N : Nat} (hN : m * 2 ^ s = N) (h : N < 4294967296) : IntKind.u32.wrap ((m : Int) * 2 ^ s) = (N : Int) := by
 rw [← wrap_u32 h, ← hN]
 simp
theorem W6 {p q r : Nat} (hp : p < 4294967296) (hq : q < 4294967296) (h : p ||| q = r) : bits .or .u32 (p : Int) (q : Int) = (r : Int) := by rw [PJ p q hp hq, h]
theorem Kl {fv : Value} {l r : List UInt8} {n : Nat} (hn : n < 4294967296) (hl : l.length ≤ 65536) (hr : l ++ b4 n = r) : AX Tryz.prog 80 #[fv, .int .u32 (n : Int)] [Ar 5 1 encB fv l] (fun (v : Value) => v) (fun (v : Value) => [Ar 5 1 encB v r]) := by
 refine Bg (args := [fv, .int .u32 (n : Int)]) 19 Tryz.func80 rfl rfl rfl ?_; intro w rs
 refine Ad (Ae Au rfl (Ab (Ad (Ae Au rfl (Aa rfl (.int .u8 (((UInt8.ofNat n)).toNat : Int)) (fun b w hb hH => AW Tryz.underlying96 Tryz.underlying5 (Dg _) rfl rfl hb) (Ae Au rfl (Aa rfl (.int .u32 ((n / 256 : Nat) : Int)) (fun b w hb hH => Ck (s := 8) (by decide) (by omega) rfl rfl rfl hb) (Aa rfl (.int .u8 (((UInt8.ofNat (n / 256))).toNat : Int)) (fun b w hb hH => AW Tryz.underlying96 Tryz.underlying5 (Dg _) rfl rfl hb) (Ae Au rfl (Aa rfl (.int .u32 ((n / 65536 : Nat) : Int)) (fun b w hb hH => Ck (s := 16) (by decide) (by omega) rfl rfl rfl hb) ?_))))))))))
 refine Aa rfl (.int .u8 (((UInt8.ofNat (n / 65536))).toNat : Int)) (fun b w hb hH => AW Tryz.underlying96 Tryz.underlying5 (Dg _) rfl rfl hb) (Ae Au rfl (Aa rfl (.int .u32 ((n / 16777216 : Nat) : Int)) (fun b w hb hH => Ck (s := 24) (by decide) (by omega) rfl rfl rfl hb) (Aa rfl (.int .u8 (((UInt8.ofNat (n / 16777216))).toNat : Int)) (fun b w hb hH => AW Tryz.underlying96 Tryz.underlying5 (Dg _) rfl rfl hb) (Aj (X := Value) (val := fun v : Value => v) (post := fun v8 => [Ar 5 1 encB v8 ([(UInt8.ofNat n), (UInt8.ofNat (n / 256)), (UInt8.ofNat (n / 65536)), (UInt8.ofNat (n / 16777216))]), Ar 5 1 encB fv l]) rfl (by exact Uh AJ (UInt8.ofNat n) (UInt8.ofNat (n / 256)) (UInt8.ofNat (n / 65536)) (UInt8.ofNat (n / 16777216)) rfl rfl rfl rfl rfl) ?_)))); rintro v8
 refine Aj (post := fun v9 => [Ar 5 1 encB v8 ([(UInt8.ofNat n), (UInt8.ofNat (n / 256)), (UInt8.ofNat (n / 65536)), (UInt8.ofNat (n / 16777216))]), Ar 5 1 encB v9 r]) rfl (C8 1 AJ Ey rfl ([(UInt8.ofNat n), (UInt8.ofNat (n / 256)), (UInt8.ofNat (n / 65536)), (UInt8.ofNat (n / 16777216))]) (fun w hH => hH.vec 0 rfl Ey) (by simp only [List.length_cons, List.length_nil]; omega) rfl rfl rfl hr) ?_; rintro v9
 refine Ae Au rfl (Ab (Ax ?_))
 exact Aw (.tmp rfl) (fun w h => AH v9 rfl [1] rfl h CK) rfl
theorem Wp (w : World) {y : List UInt8} {A : Option Addr} {c n : Nat} (hv : D6 w (.slice A y.length c) y) (h4 : 4 ≤ y.length) (hn : n4 y 0 = n) : Calls Tryz.prog 106 #[.slice A y.length c] w fun e w' => e = .returned (.int .u32 (n : Int)) ∧ Below w.heap.size w w' := by
 refine Fj (args := [.slice A y.length c]) 25 Tryz.func106 rfl rfl rfl ?_
 obtain ⟨a0, ha0⟩ : ∃ a, y[0]? = some a := ⟨_, List.getElem?_eq_getElem (by omega)⟩
 obtain ⟨a1, ha1⟩ : ∃ a, y[1]? = some a := ⟨_, List.getElem?_eq_getElem (by omega)⟩
 obtain ⟨a2, ha2⟩ : ∃ a, y[2]? = some a := ⟨_, List.getElem?_eq_getElem (by omega)⟩
 obtain ⟨a3, ha3⟩ : ∃ a, y[3]? = some a := ⟨_, List.getElem?_eq_getElem (by omega)⟩
 have hA0 := a0.toNat_lt
 have hA1 := a1.toNat_lt
 have hA2 := a2.toNat_lt
 have hA3 := a3.toNat_lt
 have hD0 : y.getD 0 0 = a0 := by rw [List.getD_eq_getElem?_getD, ha0]; rfl
 have hD1 : y.getD 1 0 = a1 := by rw [List.getD_eq_getElem?_getD, ha1]; rfl
 have hD2 : y.getD 2 0 = a2 := by rw [List.getD_eq_getElem?_getD, ha2]; rfl
 have hD3 : y.getD 3 0 = a3 := by rw [List.getD_eq_getElem?_getD, ha3]; rfl
 have hn_ : a0.toNat + a1.toNat * 256 + a2.toNat * 65536 + a3.toNat * 16777216 = n := by rw [← hn]; unfold n4; rw [hD0, hD1, hD2, hD3]
 refine Ad (Ae Au rfl (Ab (Av ?_)))
 refine BL 22 0 [⟨.quiet, [], fun _ => .slice A y.length c, []⟩, ⟨.quiet, [], fun _ => BN (.slice A y.length c) (0 * 1), [0]⟩, ⟨.quiet, [], fun _ => .int .u8 ((a0).toNat : Int), [1]⟩, ⟨.quiet, [], fun _ => .int .u32 (a0.toNat : Int), [2]⟩, ⟨.quiet, [], fun _ => .slice A y.length c, []⟩, ⟨.quiet, [], fun _ => BN (.slice A y.length c) (1 * 1), [4]⟩, ⟨.quiet, [], fun _ => .int .u8 ((a1).toNat : Int), [5]⟩, ⟨.quiet, [], fun _ => .int .u32 (a1.toNat : Int), [6]⟩, ⟨.quiet, [], fun _ => .int .u32 ((a1.toNat * 256 : Nat) : Int), [7]⟩, ⟨.quiet, [], fun _ => .int .u32 ((a0.toNat + a1.toNat * 256 : Nat) : Int), [3, 8]⟩, ⟨.quiet, [], fun _ => .slice A y.length c, []⟩, ⟨.quiet, [], fun _ => BN (.slice A y.length c) (2 * 1), [10]⟩, ⟨.quiet, [], fun _ => .int .u8 ((a2).toNat : Int), [11]⟩, ⟨.quiet, [], fun _ => .int .u32 (a2.toNat : Int), [12]⟩, ⟨.quiet, [], fun _ => .int .u32 ((a2.toNat * 65536 : Nat) : Int), [13]⟩, ⟨.quiet, [], fun _ => .int .u32 ((a0.toNat + a1.toNat * 256 + a2.toNat * 65536 : Nat) : Int), [9, 14]⟩, ⟨.quiet, [], fun _ => .slice A y.length c, []⟩, ⟨.quiet, [], fun _ => BN (.slice A y.length c) (3 * 1), [16]⟩, ⟨.quiet, [], fun _ => .int .u8 ((a3).toNat : Int), [17]⟩, ⟨.quiet, [], fun _ => .int .u32 (a3.toNat : Int), [18]⟩, ⟨.quiet, [], fun _ => .int .u32 ((a3.toNat * 16777216 : Nat) : Int), [19]⟩, ⟨.quiet, [], fun _ => .int .u32 (n : Int), [15, 20]⟩] [(0, .slice A y.length c), (2, .int .u32 0)] (fun _ => []) (by kernel_rfl) (by kernel_rfl) ⟨rfl, rfl, trivial⟩ rfl ?_ ?_
 refine Ac (by exact ⟨rfl, fun b w hH hb => Af Au rfl hb⟩) (Ac (by exact ⟨rfl, fun b w hH hb => BH Ey ((Ic hv (Below.refl _ _) (fun _ h => h.elim) hH).rd) AJ (j := 0) ha0 rfl rfl rfl hb⟩) (Ac (by exact ⟨rfl, fun b w hH hb => Bu Ey (by decide) ((Ic hv (Below.refl _ _) (fun _ h => h.elim) hH).rd) (j := 0) ha0 B9 (off := 0) rfl rfl rfl hb⟩) (Ac (by exact ⟨rfl, fun b w hH hb => AW Tryz.underlying5 Tryz.underlying96 (wrap_u32 (by omega)) rfl rfl hb⟩) (Ac (by exact ⟨rfl, fun b w hH hb => Af Au rfl hb⟩) (Ac (by exact ⟨rfl, fun b w hH hb => BH Ey ((Ic hv (Below.refl _ _) (fun _ h => h.elim) hH).rd) AJ (j := 1) ha1 rfl rfl rfl hb⟩) (Ac (by exact ⟨rfl, fun b w hH hb => Bu Ey (by decide) ((Ic hv (Below.refl _ _) (fun _ h => h.elim) hH).rd) (j := 1) ha1 B9 (off := 0) rfl rfl rfl hb⟩) (Ac (by exact ⟨rfl, fun b w hH hb => AW Tryz.underlying5 Tryz.underlying96 (wrap_u32 (by omega)) rfl rfl hb⟩) (Ac (by exact ⟨rfl, fun b w hH hb => Fy (s := 8) (by decide) (J0 (m := a1.toNat) (s := 8) (N := a1.toNat * 256) rfl (by omega)) rfl rfl rfl hb⟩) (Ac (by exact ⟨rfl, fun b w hH hb => M8 (W6 (by omega) (by omega) (P6 8 (by omega))) rfl rfl rfl hb⟩) ?_)))))))))
 refine Ac (by exact ⟨rfl, fun b w hH hb => Af Au rfl hb⟩) (Ac (by exact ⟨rfl, fun b w hH hb => BH Ey ((Ic hv (Below.refl _ _) (fun _ h => h.elim) hH).rd) AJ (j := 2) ha2 rfl rfl rfl hb⟩) (Ac (by exact ⟨rfl, fun b w hH hb => Bu Ey (by decide) ((Ic hv (Below.refl _ _) (fun _ h => h.elim) hH).rd) (j := 2) ha2 B9 (off := 0) rfl rfl rfl hb⟩) (Ac (by exact ⟨rfl, fun b w hH hb => AW Tryz.underlying5 Tryz.underlying96 (wrap_u32 (by omega)) rfl rfl hb⟩) (Ac (by exact ⟨rfl, fun b w hH hb => Fy (s := 16) (by decide) (J0 (m := a2.toNat) (s := 16) (N := a2.toNat * 65536) rfl (by omega)) rfl rfl rfl hb⟩) (Ac (by exact ⟨rfl, fun b w hH hb => M8 (W6 (by omega) (by omega) (P6 16 (by omega))) rfl rfl rfl hb⟩) (Ac (by exact ⟨rfl, fun b w hH hb => Af Au rfl hb⟩) (Ac (by exact ⟨rfl, fun b w hH hb => BH Ey ((Ic hv (Below.refl _ _) (fun _ h => h.elim) hH).rd) AJ (j := 3) ha3 rfl rfl rfl hb⟩) (Ac (by exact ⟨rfl, fun b w hH hb => Bu Ey (by decide) ((Ic hv (Below.refl _ _) (fun _ h => h.elim) hH).rd) (j := 3) ha3 B9 (off := 0) rfl rfl rfl hb⟩) (Ac (by exact ⟨rfl, fun b w hH hb => AW Tryz.underlying5 Tryz.underlying96 (wrap_u32 (by omega)) rfl rfl hb⟩) ?_)))))))))
 refine Ac (by exact ⟨rfl, fun b w hH hb => Fy (s := 24) (by decide) (J0 (m := a3.toNat) (s := 24) (N := a3.toNat * 16777216) rfl (by omega)) rfl rfl rfl hb⟩) (Ac (by exact ⟨rfl, fun b w hH hb => M8 (W6 (by omega) (by omega) ((P6 24 (by omega)).trans hn_)) rfl rfl rfl hb⟩) ?_)
 exact B7
 refine Cf.keep (env' := [(2, .int .u32 0), (24, .int .u32 (n : Int))]) ⟨rfl, rfl, trivial⟩ (Ae Au rfl (AV (AL (Ax ?_))))
 exact Aw (.tmp rfl) (fun w h => ⟨rfl, AA h.up⟩) rfl
theorem Wq (y : List UInt8) : n4 y 0 < 4294967296 := by
 have := (y.getD 0 0).toNat_lt
 have := (y.getD (0 + 1) 0).toNat_lt
 have := (y.getD (0 + 2) 0).toNat_lt
 have := (y.getD (0 + 3) 0).toNat_lt
 unfold n4; omega
def P7 (A : Option Addr) (c : Nat) (y : List UInt8) : Value := if 8 ≤ y.length ∧ n4 y 0 ≤ 65536 ∧ n4 y 0 + 8 ≤ y.length then .slice (if c = 8 then A else A.map (·.add 8)) (n4 y 0) (c - 8) else .slice none 0 0
theorem VV {y : List UInt8} (h : 4 ≤ y.length) : n4 (y.take 4) 0 = n4 y 0 := by
 have e : ∀ k, k < 4 → (y.take 4).getD k 0 = y.getD k 0 := fun k hk => by rw [List.getD_eq_getElem?_getD, List.getD_eq_getElem?_getD, List.getElem?_take, if_pos hk]
 unfold n4
 rw [e 0 (by decide), e (0 + 1) (by decide), e (0 + 2) (by decide), e (0 + 3) (by decide)]
theorem W7 {y : List UInt8} {s : Nat} (h8 : 4 ≤ y.length) (hs : s < 4294967296) : y.take 4 = b4 s ↔ n4 y 0 = s := by
  refine ⟨fun h => ?_, fun h => ?_⟩
  · rw [← VV h8, h]
    have := Ub hs []
    rwa [List.append_nil] at this
  · match y, h8 with
    | a :: b :: c :: d :: r, _ =>
      have h1 : a.toNat + b.toNat * 256 + c.toNat * 65536 + d.toNat * 16777216 = s := h
      have ha := a.toNat_lt
      have hb := b.toNat_lt
      have hc := c.toNat_lt
      have hd := d.toNat_lt
      have e0 : UInt8.ofNat s = a := UInt8.toNat_inj.1 (by rw [UInt8.toNat_ofNat']; omega)
      have e1 : UInt8.ofNat (s / 256) = b := UInt8.toNat_inj.1 (by rw [UInt8.toNat_ofNat']; omega)
      have e2 : UInt8.ofNat (s / 65536) = c := UInt8.toNat_inj.1 (by rw [UInt8.toNat_ofNat']; omega)
      have e3 : UInt8.ofNat (s / 16777216) = d := UInt8.toNat_inj.1 (by rw [UInt8.toNat_ofNat']; omega)
      unfold b4
      rw [e0, e1, e2, e3]; rfl
theorem VW {y x : List UInt8} {n : Nat} (h8 : 8 ≤ y.length) (hn : n4 y 0 = n) (h1 : n ≤ 65536) (h2 : n + 8 ≤ y.length) (hx : (y.drop 8).take n = x) : (Cc y).isSome = decide (BX x = n4 (y.drop 4) 0) := by
  have h3 := W7 (y := y.drop 4) (s := BX x) (by rw [List.length_drop]; omega) (JZ x)
  unfold Cc
  rw [hn, hx]
  by_cases h : BX x = n4 (y.drop 4) 0
  · rw [if_pos ⟨h8, h1, h2, h3.2 h.symm⟩, decide_eq_true h]; rfl
  · rw [if_neg (fun hc => h (h3.1 hc.2.2.2).symm), decide_eq_false h]; rfl
theorem Nl {y : List UInt8} (h : ¬ (8 ≤ y.length ∧ n4 y 0 ≤ 65536 ∧ n4 y 0 + 8 ≤ y.length)) : (Cc y).isSome = false := by
 unfold Cc
 rw [if_neg (fun hc => h ⟨hc.1, hc.2.1, hc.2.2.1⟩)]; rfl
theorem P8 {A : Option Addr} {c : Nat} {y : List UInt8} (h : ¬ (8 ≤ y.length ∧ n4 y 0 ≤ 65536 ∧ n4 y 0 + 8 ≤ y.length)) : P7 A c y = .slice none 0 0 := if_neg h
theorem OJ {w : World} {A : Option Addr} {c k : Nat} {l : List UInt8} (h : D6 w (.slice A l.length c) l) (hk : k ≤ l.length) : D6 w (.slice A (l.take k).length c) (l.take k) := h.takes hk
theorem LA {w : World} {A : Option Addr} {c i : Nat} {l : List UInt8} (h : D6 w (.slice A l.length c) l) (hi : i ≤ l.length) : D6 w (.slice (if c = i then A else A.map (·.add i)) (l.drop i).length (c - i)) (l.drop i) := by
  have h3 := Rl h hi (Nat.le_refl _)
  rwa [List.take_length] at h3
theorem Rm (w : World) {y : List UInt8} {A : Option Addr} {c : Nat} (hv : D6 w (.slice A y.length c) y) (hl : y.length ≤ 137438953472) : Calls Tryz.prog 101 #[.slice A y.length c] w fun e w' => e = .returned (.tuple #[P7 A c y, .bool (Cc y).isSome]) ∧ Below w.heap.size w w' := by
  refine Fj (args := [.slice A y.length c]) 35 Tryz.func101 rfl rfl rfl (Ad (Ae Au rfl (Ab (Av ?_))))
  rcases Nat.lt_or_ge y.length 8 with h8 | h8
  have hno : ¬ (8 ≤ y.length ∧ n4 y 0 ≤ 65536 ∧ n4 y 0 + 8 ≤ y.length) := fun h => by have := h.1; omega
  rw [Nl hno, P8 hno]
  refine Ad (Ae Au rfl (Aa rfl (.int .i64 (y.length : Int)) (fun b w hb hH => Bf ((Ic hv (Below.refl _ _) (fun _ h => h.elim) hH).rd) Tryz.underlying32 rfl rfl hb) (Aa rfl (.bool true) (fun b w hb hH => AZ rfl rfl rfl (Bw (by omega)) hb) (Ab (AI rfl (Ad (Ae Au rfl (Ab (Ax (C4 ?_))))))))))
  exact CC (.tmp rfl) (.tmp rfl) (fun w h => ⟨rfl, AA h.up⟩) rfl
  obtain ⟨A4, hA4⟩ : ∃ A4, (if c = 4 then A else A.map (·.add 4)) = A4 := ⟨_, rfl⟩
  obtain ⟨A8, hA8⟩ : ∃ A8, (if c = 8 then A else A.map (·.add 8)) = A8 := ⟨_, rfl⟩
  have hv4 : D6 w (.slice A4 (y.drop 4).length (c - 4)) (y.drop 4) := by have h3 := LA hv (i := 4) (by omega); rwa [hA4] at h3
  have hv9 : D6 w (.slice A8 (y.drop 8).length (c - 8)) (y.drop 8) := by have h3 := LA hv (i := 8) (by omega); rwa [hA8] at h3
  have hs4 : CB 1 (.slice A y.length c) 4 y.length = .slice A4 (y.drop 4).length (c - 4) := by rw [← hA4, List.length_drop]; exact Jj
  have hs9 : CB 1 (.slice A y.length c) 8 y.length = .slice A8 (y.drop 8).length (c - 8) := by rw [← hA8, List.length_drop]; exact Jj
  have hcp := Ky hv
  have hd4 : (y.drop 4).length = y.length - 4 := List.length_drop ..
  have hd8 : (y.drop 8).length = y.length - 8 := List.length_drop ..
  obtain ⟨n, hn⟩ : ∃ n, n4 y 0 = n := ⟨_, rfl⟩
  obtain ⟨m, hm⟩ : ∃ m, n4 (y.drop 4) 0 = m := ⟨_, rfl⟩
  have hn32 : n < 4294967296 := hn ▸ Wq y
  have hm32 : m < 4294967296 := hm ▸ Wq _
  refine Ad (Ae Au rfl (Aa rfl (.int .i64 (y.length : Int)) (fun b w hb hH => Bf ((Ic hv (Below.refl _ _) (fun _ h => h.elim) hH).rd) Tryz.underlying32 rfl rfl hb) (Aa rfl (.bool false) (fun b w hb hH => AZ rfl rfl rfl (BS (by omega)) hb) (Ab (As rfl (AB (AL (Av ?_))))))))
  refine BL 9 2 [⟨.quiet, [none, none], fun _ => .slice A y.length c, []⟩, ⟨.actv 0, [some false, some false], fun _ => .int .u32 (n : Int), [0]⟩, ⟨.quiet, [none, none], fun _ => .slice A y.length c, []⟩, ⟨.quiet, [none, none], fun _ => .slice A4 (y.drop 4).length (c - 4), [2]⟩, ⟨.actv 1, [some true, some false], fun _ => .int .u32 (m : Int), [3]⟩, ⟨.quiet, [none, none], fun _ => .slice A y.length c, []⟩, ⟨.quiet, [none, none], fun _ => .slice A8 (y.drop 8).length (c - 8), [5]⟩, ⟨.quiet, [some true, some true], fun _ => .int .u32 (n : Int), [1]⟩, ⟨.quiet, [some true, some true], fun _ => .int .u32 (m : Int), [4]⟩] [(0, .slice A y.length c), (2, .slice none 0 0), (3, .bool false)] (fun ρ => match ρ with | [r0, r1] => [] | _ => []) (by kernel_rfl) (by kernel_rfl) ⟨rfl, rfl, rfl, trivial⟩ rfl ?_ ?_
  refine Ac (by intro r0_ r1_; exact ⟨rfl, fun b w hH hb => Af Au rfl hb⟩) (Ac (by exact ⟨rfl, Bk.su (AU (Ai Tryz.func106 (by kernel_rfl) rfl) (fun w hH => Wp _ (Ic hv (Below.refl _ _) (fun _ h => h.elim) hH) (by omega) hn) rfl rfl rfl) rfl⟩) (Ac (by intro r0_ r1_; exact ⟨rfl, fun b w hH hb => Af Au rfl hb⟩) (Ac (by intro r0_ r1_; exact ⟨rfl, fun b w hH hb => Gb (i := 4) AJ hs4 (by omega) rfl rfl rfl hH hb⟩) (Ac (by intro v0_; exact ⟨rfl, Bk.su (AU (Ai Tryz.func106 (by kernel_rfl) rfl) (fun w hH => Wp _ (Ic hv4 (Below.refl _ _) (fun _ h => h.elim) hH) (by omega) hm) rfl rfl rfl) rfl⟩) (Ac (by intro r0_ r1_; exact ⟨rfl, fun b w hH hb => Af Au rfl hb⟩) (Ac (by intro r0_ r1_; exact ⟨rfl, fun b w hH hb => Gb (i := 8) AJ hs9 (by omega) rfl rfl rfl hH hb⟩) (Ac (by intro v0_ v1_; exact ⟨rfl, fun b w hH hb => Af Au rfl hb⟩) (Ac (by intro v0_ v1_; exact ⟨rfl, fun b w hH hb => Af Au rfl hb⟩) ?_))))))))
  exact B7
  intro v0_ v1_
  refine Cf.keep (env' := [(2, .slice none 0 0), (3, .bool false), (17, .slice A8 (y.drop 8).length (c - 8)), (4, .int .u32 (n : Int)), (5, .int .u32 (m : Int))]) ⟨rfl, rfl, rfl, rfl, rfl, trivial⟩ (Ae Au rfl (AV (AL (Av ?_))))
  have hc : 65536 < n ∨ (n ≤ 65536 ∧ y.length - 8 < n) ∨ (n ≤ 65536 ∧ n ≤ y.length - 8) := by omega
  rcases hc with h1 | ⟨h1, h2⟩ | ⟨h1, h2⟩
  have hno : ¬ (8 ≤ y.length ∧ n4 y 0 ≤ 65536 ∧ n4 y 0 + 8 ≤ y.length) := fun h => by have := h.2.1; omega
  rw [Nl hno, P8 hno]
  refine Ad (Ae Au rfl (Aa rfl (.bool true) (fun b w hb hH => AZ rfl rfl rfl (B0 (by omega)) hb) (Ae Au rfl (Ab (AI rfl (Ad (Ae Au rfl (Ab (Ax (C4 ?_))))))))))
  exact CC (.tmp rfl) (.tmp rfl) (fun w h => ⟨rfl, AA h.up⟩) rfl
  have hno : ¬ (8 ≤ y.length ∧ n4 y 0 ≤ 65536 ∧ n4 y 0 + 8 ≤ y.length) := fun h => by have := h.2.2; omega
  rw [Nl hno, P8 hno]
  refine Ad (Ae Au rfl (Aa rfl (.bool false) (fun b w hb hH => AZ rfl rfl rfl (BI (by omega)) hb) (Ae Au rfl (Aa rfl (.int .i64 (n : Int)) (fun b w hb hH => AW Tryz.underlying96 Tryz.underlying3 (IntWalk.i64_in _ (by omega)) rfl rfl hb) (Ae Au rfl (Aa rfl (.int .i64 ((y.drop 8).length : Int)) (fun b w hb hH => Bf ((Ic hv9 (Below.refl _ _) (fun _ h => h.elim) hH).rd) Tryz.underlying32 rfl rfl hb) (Aa rfl (.bool true) (fun b w hb hH => AZ rfl rfl rfl (B0 (by omega)) hb) (Ae Au rfl (Ab (AI rfl (Ad ?_)))))))))))
  refine Ae Au rfl (Ab (Ax (C4 ?_)))
  exact CC (.tmp rfl) (.tmp rfl) (fun w h => ⟨rfl, AA h.up⟩) rfl
  obtain ⟨x, hx⟩ : ∃ x, (y.drop 8).take n = x := ⟨_, rfl⟩
  have hxl : x.length = n := by rw [← hx, List.length_take]; omega
  have hvx : D6 w (.slice A8 x.length (c - 8)) x := by have h3 := (OJ hv9 (k := n) (by omega)); rwa [hx] at h3
  have hsx : CB 1 (.slice A8 (y.drop 8).length (c - 8)) 0 n = .slice A8 x.length (c - 8) := by rw [hxl]; exact Jf
  have hfst : P7 A c y = .slice A8 x.length (c - 8) := by unfold P7; rw [if_pos ⟨h8, by omega, by omega⟩, hA8, hn, hxl]
  rw [hfst, VW h8 hn h1 (by omega) hx, hm]
  have hs32 := JZ x
  refine Ad (Ae Au rfl (Aa rfl (.bool false) (fun b w hb hH => AZ rfl rfl rfl (BI (by omega)) hb) (Ae Au rfl (Aa rfl (.int .i64 (n : Int)) (fun b w hb hH => AW Tryz.underlying96 Tryz.underlying3 (IntWalk.i64_in _ (by omega)) rfl rfl hb) (Ae Au rfl (Aa rfl (.int .i64 ((y.drop 8).length : Int)) (fun b w hb hH => Bf ((Ic hv9 (Below.refl _ _) (fun _ h => h.elim) hH).rd) Tryz.underlying32 rfl rfl hb) (Aa rfl (.bool false) (fun b w hb hH => AZ rfl rfl rfl (BI (by omega)) hb) (Ae Au rfl (Ab (As rfl (AB (AL (Ad ?_)))))))))))))
  refine Ae Au rfl (Aa rfl (.slice A8 x.length (c - 8)) (fun b w hb hH => I2 (j := n) AJ hsx (by omega) rfl rfl rfl hH hb) (Ae Au rfl (Ab ?_)))
  rcases Classical.em (BX x = m) with hz | hz
  rw [decide_eq_true hz]
  refine Ad (Ae Au rfl (Aj (post := fun _ => []) rfl (AU (Ai Tryz.func81 (by kernel_rfl) rfl) (fun w hH => Uf (Ic hvx (Below.refl _ _) (fun _ h => h.elim) hH) (by omega)) rfl rfl rfl) ?_)); rintro ⟨⟩
  refine Ae Au rfl (Aa rfl (.bool true) (fun b w hb hH => AZ rfl rfl rfl (GT (by omega)) hb) (Ae Au rfl (Ab (Ax ?_))))
  exact CC (.tmp rfl) (.tmp rfl) (fun w h => ⟨rfl, AA h.up⟩) rfl
  rw [decide_eq_false hz]
  refine Ad (Ae Au rfl (Aj (post := fun _ => []) rfl (AU (Ai Tryz.func81 (by kernel_rfl) rfl) (fun w hH => Uf (Ic hvx (Below.refl _ _) (fun _ h => h.elim) hH) (by omega)) rfl rfl rfl) ?_)); rintro ⟨⟩
  refine Ae Au rfl (Aa rfl (.bool false) (fun b w hb hH => AZ rfl rfl rfl (Fu (by omega)) hb) (Ae Au rfl (Ab (Ax ?_))))
  exact CC (.tmp rfl) (.tmp rfl) (fun w h => ⟨rfl, AA h.up⟩) rfl
end Go.Proofs.YtjcfimmcogkopaaGreat.Sep
namespace Go.Proofs.YtjcfimmcogkopaaGreat.Sep
open Go.RowKit
open Go.Proofs.YtjcfimmcogkopaaGreat.Mem (Bh Cs Chg AA)
theorem P9 {X : Ass} {v : Value} {y r : List UInt8} (hX : CO X v y) (hl : y.length ≤ 140737488351232) (hr : BZ y = r) : AX Tryz.prog 47 #[v] [X] (fun (v : Value) => v) (fun (v : Value) => [X, Ar 5 1 encB v r]) := by
 refine Bg (args := [v]) 23 Tryz.func47 rfl rfl rfl ?_; intro w rs
 refine Ad (Ae Au rfl (Ab (Av ?_)))
 rcases Nat.lt_or_ge 65536 y.length with h0 | h0
 obtain rfl : r = [] := by rw [← hr]; unfold BZ; rw [if_neg (by omega)]
 refine Ad (Ae Au rfl (Aa rfl (.int .i64 (y.length : Int)) (fun b w hb hH => Bf ((hH.rd8 0 rfl hX).rd) Tryz.underlying32 rfl rfl hb) (Aa rfl (.bool true) (fun b w hb hH => AZ rfl rfl rfl (B0 (by omega)) hb) (Ab (AI rfl (B6 5 1 encB (Ad (Ae Au rfl (Ab (Ax (C4 ?_)))))))))))
 exact Aw (.tmp rfl) (fun w h => AH (.slice none 0 0) rfl [1, 0] rfl h CK) rfl
 have hc := JZ y
 have hr_ : b4 y.length ++ b4 (BX y) ++ y = r := by rw [← hr]; unfold BZ; rw [if_pos h0]
 refine Ad (Ae Au rfl (Aa rfl (.int .i64 (y.length : Int)) (fun b w hb hH => Bf ((hH.rd8 0 rfl hX).rd) Tryz.underlying32 rfl rfl hb) (Aa rfl (.bool false) (fun b w hb hH => AZ rfl rfl rfl (BI (by omega)) hb) (Ab (As rfl (AB (AL (Ad (Ae Au rfl (Aa rfl (.int .i64 (y.length : Int)) (fun b w hb hH => Bf ((hH.rd8 0 rfl hX).rd) Tryz.underlying32 rfl rfl hb) (Aa rfl (.int .i64 ((8 + y.length : Nat) : Int)) (fun b w hb hH => AQ rfl rfl rfl rfl (by rw [IntWalk.i64_in _ (by omega)]; omega) hb) (Aj (post := fun f0 => [Ar 5 1 encB f0 ([]), X]) rfl (Ug AJ (by kernel_rfl) (fun w => by kernel_rfl) (N := (8 + y.length)) ⟨by omega, by omega⟩ rfl rfl rfl) ?_)))))))))))); rintro f0
 refine Ae Au rfl (Ab (Ad (Ae Au rfl (Aa rfl (.int .i64 (y.length : Int)) (fun b w hb hH => Bf ((hH.rd8 1 rfl hX).rd) Tryz.underlying32 rfl rfl hb) (Aa rfl (.int .u32 (y.length : Int)) (fun b w hb hH => AW Tryz.underlying3 Tryz.underlying96 (wrap_u32 (by omega)) rfl rfl hb) (Aj rfl (Ak (os' := fun f1 => [Ar 5 1 encB f1 (b4 y.length), X]) [0] 0 (Ai Tryz.func80 (by kernel_rfl) rfl) (Kl (l := []) (n := y.length) (r := b4 y.length) (by omega) (by simp) rfl) rfl rfl rfl (fun _ => rfl) rfl rfl rfl) ?_)))))); rintro f1
 refine Ae Au rfl (Ab (Ad (Ae Au rfl (Aj (post := fun _ => [Ar 5 1 encB f1 (b4 y.length), X]) rfl (AU (Ai Tryz.func81 (by kernel_rfl) rfl) (fun w hH => Uf (hH.rd8 1 rfl hX) (by omega)) rfl rfl rfl) ?_)))); rintro ⟨⟩
 refine Aj rfl (Ak (os' := fun f2 => [Ar 5 1 encB f2 (b4 y.length ++ b4 (BX y)), X]) [0] 0 (Ai Tryz.func80 (by kernel_rfl) rfl) (Kl (l := b4 y.length) (n := (BX y)) (r := b4 y.length ++ b4 (BX y)) (JZ y) (by rw [JY]; omega) rfl) rfl rfl rfl (fun _ => rfl) rfl rfl rfl) ?_; rintro f2
 refine Ae Au rfl (Ab (Ad (Ae Au rfl (Aj (post := fun f3 => [Ar 5 1 encB f3 r, X]) rfl (CE 0 AJ (by kernel_rfl) rfl (y) (fun w hH => hH.rd 1 rfl hX.rd) (by rw [List.length_append, JY, JY]; omega) rfl rfl rfl hr_) ?_)))); rintro f3
 refine Ae Au rfl (Ab (Ax ?_))
 exact Aw (.tmp rfl) (fun w h => AH f3 rfl [1, 0] rfl h CK) rfl
end Go.Proofs.YtjcfimmcogkopaaGreat.Sep
