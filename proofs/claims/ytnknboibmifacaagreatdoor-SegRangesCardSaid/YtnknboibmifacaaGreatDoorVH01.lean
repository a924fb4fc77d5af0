/-
  FrmM · FrmK · FrmX · FrmD · FrmN · TyF · FrmA · FrmF
-/
import Derived.Test.YtnknboibmifacaaGreatDoorVA07
import Derived.Test.YtnknboibmifacaaGreatDoorVB02
import Derived.Test.YtnknboibmifacaaGreatDoorVB03
import Derived.Test.YtnknboibmifacaaGreatDoorVB05
set_option linter.unusedSimpArgs false
set_option linter.unusedVariables false
set_option maxRecDepth 100000
namespace Go.Proofs.YtnknboibmifacaaGreatDoor.Sep
def b4 (n : Nat) : List UInt8 := [UInt8.ofNat n, UInt8.ofNat (n / 256), UInt8.ofNat (n / 65536), UInt8.ofNat (n / 16777216)]
def n4 (l : List UInt8) (i : Nat) : Nat := (l.getD i 0).toNat + (l.getD (i + 1) 0).toNat * 256 + (l.getD (i + 2) 0).toNat * 65536 + (l.getD (i + 3) 0).toNat * 16777216
def BZ (x : List UInt8) : List UInt8 := if x.length ≤ 65536 then b4 x.length ++ b4 (CZ x) ++ x else []
def DC (b : List UInt8) : Option (List UInt8) := if 8 ≤ b.length ∧ n4 b 0 ≤ 65536 ∧ n4 b 0 + 8 ≤ b.length ∧ (b.drop 4).take 4 = b4 (CZ ((b.drop 8).take (n4 b 0))) then some ((b.drop 8).take (n4 b 0)) else none
def EW : Nat → List UInt8 → List (List UInt8) × Nat
  | 0, _ => ([], 0)
  | k + 1, b => match DC b with
    | none => ([], 0)
    | some x => (x :: (EW k (b.drop (8 + x.length))).1, 8 + x.length + (EW k (b.drop (8 + x.length))).2)
def CK (b : List UInt8) : List (List UInt8) × Nat := EW b.length b
theorem Ha {b x : List UInt8} (h : DC b = some x) : 8 + x.length ≤ b.length ∧ x.length ≤ 65536 := by
  unfold DC at h
  split at h
  · rename_i hc
    cases h
    rw [List.length_take, List.length_drop]; omega
  · cases h
theorem PF : ∀ (k : Nat) (b : List UInt8), b.length ≤ k → EW k b = EW b.length b := by
  intro k
  induction k using Nat.strongRecOn with
  | _ k ih =>
    intro b hb
    cases hn : DC b with
    | none =>
      cases k with
      | zero => have : b.length = 0 := by omega
                rw [this]
      | succ k =>
        cases hl : b.length with
        | zero => simp only [EW, hn]
        | succ m => simp only [EW, hn]
    | some x =>
      have hx := Ha hn
      cases k with
      | zero => omega
      | succ k =>
        obtain ⟨m, hm⟩ : ∃ m, b.length = m + 1 := ⟨b.length - 1, by omega⟩
        rw [hm]
        simp only [EW, hn]
        have hd : (b.drop (8 + x.length)).length = b.length - (8 + x.length) := List.length_drop ..
        rw [ih k (by omega) _ (by omega), ih m (by omega) _ (by omega)]
theorem K3 {b : List UInt8} (h : DC b = none) : CK b = ([], 0) := by
  unfold CK
  cases b.length with
  | zero => rfl
  | succ m => simp only [EW, h]
theorem Il {b x : List UInt8} (h : DC b = some x) : CK b = (x :: (CK (b.drop (8 + x.length))).1, 8 + x.length + (CK (b.drop (8 + x.length))).2) := by
 have hx := Ha h
 obtain ⟨m, hm⟩ : ∃ m, b.length = m + 1 := ⟨b.length - 1, by omega⟩
 unfold CK
 rw [hm]
 simp only [EW, h]
 have hd : (b.drop (8 + x.length)).length = b.length - (8 + x.length) := List.length_drop ..
 rw [PF m _ (by omega)]
theorem MV : ∀ (k : Nat) (b : List UInt8), (EW k b).2 ≤ b.length
  | 0, _ => Nat.zero_le _
  | k + 1, b => by
    simp only [EW]
    cases h : DC b with
    | none => exact Nat.zero_le _
    | some x =>
      have hx := Ha h
      have := MV k (b.drop (8 + x.length))
      rw [List.length_drop] at this
      simp only
      omega
theorem Im : ∀ (k : Nat) (b x : List UInt8), x ∈ (EW k b).1 → x.length ≤ 65536
  | 0, _, _, h => by cases h
  | k + 1, b, x, h => by
    simp only [EW] at h
    cases hn : DC b with
    | none => rw [hn] at h; cases h
    | some y =>
      rw [hn] at h
      rcases List.mem_cons.1 h with rfl | h
      · exact (Ha hn).2
      · exact Im k _ _ h
theorem In (n : Nat) : (b4 n).length = 4 := rfl
theorem Jw (l : List UInt8) : CZ l < 4294967296 := by unfold CZ; exact (~~~ G8 (BitVec.allOnes 32) l).isLt
theorem VK {n : Nat} (h : n < 4294967296) (r : List UInt8) : n4 (b4 n ++ r) 0 = n := by
 unfold n4 b4
 simp only [List.cons_append, List.nil_append, List.getD_cons_zero, List.getD_cons_succ, Nat.zero_add, UInt8.toNat_ofNat']
 omega
theorem Hz {x : List UInt8} (h : x.length ≤ 65536) : (BZ x).length = 8 + x.length := by
 unfold BZ
 rw [if_pos h]
 simp only [List.length_append, In]
theorem PG {x : List UInt8} (h : x.length ≤ 65536) (r : List UInt8) : DC (BZ x ++ r) = some x := by
 have hl := Hz h
 have e : BZ x ++ r = b4 x.length ++ (b4 (CZ x) ++ (x ++ r)) := by unfold BZ; rw [if_pos h]; simp
 have hn : n4 (BZ x ++ r) 0 = x.length := by rw [e]; exact VK (by omega) _
 have h8 : ((BZ x ++ r).drop 8).take x.length = x := by
  rw [e]
  have : (b4 x.length ++ (b4 (CZ x) ++ (x ++ r))).drop 8 = x ++ r := rfl
  rw [this]; simp
 unfold DC
 rw [hn, h8, if_pos]
 refine ⟨by rw [List.length_append]; omega, h, by rw [List.length_append]; omega, ?_⟩
 rw [e]; rfl
def Fa (ps : List (List UInt8)) : List UInt8 := (ps.map BZ).flatten
theorem Od (x : List UInt8) (ps : List (List UInt8)) : Fa (x :: ps) = BZ x ++ Fa ps := rfl
theorem JW : ∀ (ps : List (List UInt8)), (∀ x, x ∈ ps → x.length ≤ 65536) → ∀ r, CK (Fa ps ++ r) = (ps ++ (CK r).1, (Fa ps).length + (CK r).2)
  | [], _, r => by simp [Fa]
  | x :: ps, h, r => by
    have hx := h x (List.mem_cons_self ..)
    have hl := Hz hx
    rw [Od, List.append_assoc, Il (PG hx _)]
    have hd : (BZ x ++ (Fa ps ++ r)).drop (8 + x.length) = Fa ps ++ r := by rw [← hl]; simp
    rw [hd, JW ps (fun y hy => h y (List.mem_cons_of_mem _ hy)) r]
    simp only [List.cons_append, List.length_append, Prod.mk.injEq, true_and]
    omega
end Go.Proofs.YtnknboibmifacaaGreatDoor.Sep
namespace Go.Proofs.YtnknboibmifacaaGreatDoor.Sep
open Go.RowKit
open Go.Proofs.YtnknboibmifacaaGreatDoor.Mem (AR B3 Chg Av)
theorem Kj (m : Nat) : IntKind.u8.wrap (m : Int) = ((UInt8.ofNat m).toNat : Int) := by
 rw [UInt8.toNat_ofNat']
 have h : IntKind.u8.wrap (m : Int) = (m : Int) % 256 := by simp [IntKind.wrap, IntKind.signed, IntKind.bits]
 rw [h]; omega
section
variable {P : Program} {n : Nat} {w : World} {env : List (Nat × Value)} {o : Oper} {a : Act}
theorem Jx {T T' : TypeId} {x y : Operand} {k k' : IntKind} {m s h : Nat} (hs : s ≤ k.bits) (hh : m / 2 ^ s = h) (ho : o.op = .binOp .shr T x y T') (hx : evs env x = some (.int k (m : Int))) (hy : evs env y = some (.int k' (s : Int))) (hF : Fr n a env) : (execOp a.eval o).run P w = .ok (.value (.int k (h : Int))) w := by
 subst hh
 have h1 : min s k.bits = s := Nat.min_eq_left hs
 have h2 : (m : Int).fdiv (2 ^ s) = ((m / 2 ^ s : Nat) : Int) := by
  rw [Int.fdiv_eq_ediv_of_nonneg _ (by exact_mod_cast Nat.zero_le _)]
  simp
 have h3 : ¬ ((s : Int) < 0) := by omega
 unfold execOp
 simp only [ho, hF.evs hx, hF.evs hy]
 simp [eqGuard, binOp, Op.shift, h1, h2, h3]
theorem Jy {T T' : TypeId} {x y : Operand} {k k' : IntKind} {m s : Nat} {h : Int} (hs : s ≤ k.bits) (hh : k.wrap ((m : Int) * 2 ^ s) = h) (ho : o.op = .binOp .shl T x y T') (hx : evs env x = some (.int k (m : Int))) (hy : evs env y = some (.int k' (s : Int))) (hF : Fr n a env) : (execOp a.eval o).run P w = .ok (.value (.int k h)) w := by
 subst hh
 have h1 : min s k.bits = s := Nat.min_eq_left hs
 have h3 : ¬ ((s : Int) < 0) := by omega
 unfold execOp
 simp only [ho, hF.evs hx, hF.evs hy]
 simp [eqGuard, binOp, Op.shift, h1, h3]
end
section
variable {P : Program} {Q : Exit → Act → World → Prop} {n : Nat} {B : Nat → Prop} {w0 : World} {os : List Ass} {env : List (Nat × Value)} {o : Oper} {t e : TypeId}
def vB (a : UInt8) : Value := .int .u8 (a.toNat : Int)
end
section
variable {v : Value} {l : List UInt8} {w : World}
theorem QF (h : D9 w v l) (hl : l.length ≤ 140737488355328) : Calls Tryz.prog 147 #[v] w fun e w' => e = .returned (.int .u32 (CZ l : Int)) ∧ Below w.heap.size w w' := by
 obtain ⟨A, c, rfl, hb⟩ := h
 refine (UL w A c l hb hl).mono ?_
 rintro e w' ⟨he, rfl⟩
 exact ⟨he, Below.refl _ _⟩
end
end Go.Proofs.YtnknboibmifacaaGreatDoor.Sep
namespace Go.Proofs.YtnknboibmifacaaGreatDoor.Sep
open Go.RowKit
open Go.Proofs.YtnknboibmifacaaGreatDoor.Mem (AR B3 Chg Av)
section
variable {P : Program} {Q : Exit → Act → World → Prop} {n : Nat} {B : Nat → Prop} {w0 : World} {os : List Ass} {env : List (Nat × Value)} {o : Oper} {t e : TypeId}
end
end Go.Proofs.YtnknboibmifacaaGreatDoor.Sep
namespace Go.Proofs.YtnknboibmifacaaGreatDoor.Sep
open Go.RowKit
open Go.Proofs.YtnknboibmifacaaGreatDoor.Mem (AR B3 Chg Av)
section
variable {P : Program} {Q : Exit → Act → World → Prop} {n : Nat} {B : Nat → Prop} {w0 : World} {os : List Ass} {env : List (Nat × Value)} {o : Oper} {t e : TypeId}
theorem PH (hT : SliceT P t e 1) (hb : (P.info? e).map (fun i => i.bytes) = some 1) (hz : ∀ w, (zeroValue e).run P w = .ok (.int .u8 0) w) {N : Nat} (hN : 1 ≤ N ∧ N ≤ 1000000) (w : World) : (Instr.makeSlice t (.int .i64 0) (.int .i64 (N : Int))).run P w = .ok (.slice (some ⟨w.heap.size, 0, none⟩) 0 N) (w.alloc (.cells (Array.replicate N (.int .u8 0)) e)) := by
 obtain ⟨inf, z, hinf, hzz, hk, _, hzs, _⟩ := hT.inf
 have hb1 : inf.bytes = 1 := by simpa [hinf] using hb
 have h1 : IntKind.i64.wrap (N : Int) = (N : Int) := IntWalk.i64_in _ (by omega)
 have h2 : ¬ ((N : Int) < 0) := by omega
 have h3 : ¬ ((281474976710656 : Int) < (N : Int)) := by omega
 have h4 : ¬ (roomBytes < N) := by unfold roomBytes; omega
 have hw0 : IntKind.i64.wrap 0 = 0 := by decide
 have hm : (Array.range N).map (fun _ => Value.int .u8 0) = Array.replicate N (.int .u8 0) := by
  apply Array.ext_getElem?
  intro i
  simp [Array.getElem?_replicate]
  split <;> simp_all
 have h0 : N ≠ 0 := by omega
 simp [Instr.makeSlice, run_underlying hT.ht, asInt, asIntOf, typeInfo, hinf, hb1, h1, h2, h3, h4, hw0, askRoom, hT.sizeOf, hz, h0, newRow, Sem.run_bind, Value.cells, Nat.mod_one]
 simp [hm, Sem.run]
theorem Oe (hT : SliceT P t e 1) (hb : (P.info? e).map (fun i => i.bytes) = some 1) (hz : ∀ w, (zeroValue e).run P w = .ok (.int .u8 0) w) {N : Nat} (hN : 1 ≤ N ∧ N ≤ 1000000) {x y : Operand} (ho : o.op = .makeSlice t x y) (hx : evs env x = some (.int .i64 0)) (hy : evs env y = some (.int .i64 (N : Int))) : Bm P Q n env B w0 os o (fun v : Value => v) (fun v => Ak e 1 encB v [] :: os) := fun b w hH hF K hK => by
 have hrun : (execOp b.eval o).run P w = .ok (.value (.slice (some ⟨w.heap.size, 0, none⟩) 0 N)) (w.alloc (.cells (Array.replicate N (.int .u8 0)) e)) := by
  unfold execOp
  simp [ho, hF.evs hx, hF.evs hy, Sem.run_bind, PH hT hb hz hN]
 refine Ft (w0 := w) b hrun (hK _ _ ?_)
 have := hH.new e (Array.replicate N (.int .u8 0))
 obtain ⟨rs, ⟨r1, r2, e1, h1, h2⟩, h3⟩ := this
 unfold cell at h1
 exact ⟨rs, ⟨r1, r2, e1, .inr ⟨w.heap.size, N, Array.replicate N (.int .u8 0), rfl, Nat.zero_le _, by unfold maxLen; omega, by simp, by simp [flat], h1⟩, h2⟩, h3⟩
theorem PI (hT : SliceT P t e 1) {c0 c1 c2 c3 : Value} (h0 : c0.cells = #[c0]) (h1 : c1.cells = #[c1]) (h2 : c2.cells = #[c2]) (h3 : c3.cells = #[c3]) (w : World) : (Instr.buildSlice t 4 #[(0, c0), (1, c1), (2, c2), (3, c3)]).run P w = .ok (.slice (some ⟨w.heap.size, 0, none⟩) 4 4) (w.alloc (.cells #[c0, c1, c2, c3] e)) := by
 obtain ⟨inf, z, hinf, hz, hk, _, hzs, _⟩ := hT.inf
 simp [Instr.buildSlice, run_underlying hT.ht, hT.sizeOf, zeroValue, typeInfo, hinf, hz, Instr.fill, h0, h1, h2, h3, newRow, Array.range_succ, Kw]
theorem Tq (hT : SliceT P t e 1) {x0 x1 x2 x3 : Operand} (a0 a1 a2 a3 : UInt8) (ho : o.op = .buildSlice t 4 #[(0, x0), (1, x1), (2, x2), (3, x3)]) (h0 : evs env x0 = some (vB a0)) (h1 : evs env x1 = some (vB a1)) (h2 : evs env x2 = some (vB a2)) (h3 : evs env x3 = some (vB a3)) : Bm P Q n env B w0 os o (fun v : Value => v) (fun v => Ak e 1 encB v [a0, a1, a2, a3] :: os) := fun b w hH hF K hK => by
 have hrun : (execOp b.eval o).run P w = .ok (.value (.slice (some ⟨w.heap.size, 0, none⟩) 4 4)) (w.alloc (.cells #[vB a0, vB a1, vB a2, vB a3] e)) := by
  unfold execOp
  simp [ho, hF.evs h0, hF.evs h1, hF.evs h2, hF.evs h3, Sem.run_bind, PI hT (c0 := vB a0) (c1 := vB a1) (c2 := vB a2) (c3 := vB a3) rfl rfl rfl rfl]
 refine Ft (w0 := w) b hrun (hK _ _ ?_)
 have := hH.new e #[vB a0, vB a1, vB a2, vB a3]
 obtain ⟨rs, ⟨r1, r2, e1, h1, h2⟩, h3⟩ := this
 unfold cell at h1
 exact ⟨rs, ⟨r1, r2, e1, .inr ⟨w.heap.size, 4, #[vB a0, vB a1, vB a2, vB a3], rfl, Nat.le_refl _, by unfold maxLen; omega, rfl, by simp [flat, encB, vB], h1⟩, h2⟩, h3⟩
end
end Go.Proofs.YtnknboibmifacaaGreatDoor.Sep
namespace Go.Proofs.YtnknboibmifacaaGreatDoor.Sep
open Go.RowKit
theorem UY {w : World} {A : Option Addr} {c i j : Nat} {l : List UInt8} (h : D9 w (.slice A l.length c) l) (hij : i ≤ j) (hj : j ≤ l.length) : D9 w (.slice (if c = i then A else A.map (·.add i)) ((l.take j).drop i).length (c - i)) ((l.take j).drop i) := D9.drop (h.takes hj) (by rw [List.length_take]; omega)
section
variable {b x : List UInt8} {n s : Nat} {a0 a1 a2 a3 a4 a5 a6 a7 c0 c1 c2 c3 : UInt8}
end
end Go.Proofs.YtnknboibmifacaaGreatDoor.Sep
namespace Go.Proofs.YtnknboibmifacaaGreatDoor.Sep
open Go.RowKit
open Go.Proofs.YtnknboibmifacaaGreatDoor.Mem (AR B3 Chg Av)
end Go.Proofs.YtnknboibmifacaaGreatDoor.Sep
namespace Go.Proofs.YtnknboibmifacaaGreatDoor.Sep
open Go.RowKit
open Go.Proofs.YtnknboibmifacaaGreatDoor.Mem (AR B3 Chg Av)
theorem PJ {a b : Nat} (k : Nat) (ha : a < 2 ^ k) : a ||| b * 2 ^ k = a + b * 2 ^ k := by
  have := Nat.two_pow_add_eq_or_of_lt (i := k) (b := a) ha b
  rw [Nat.or_comm, Nat.mul_comm, ← this, Nat.add_comm]
theorem wrap_u32 {m : Nat} (h : m < 4294967296) : IntKind.u32.wrap (m : Int) = (m : Int) := by
 have e : IntKind.u32.wrap (m : Int) = (m : Int) % 4294967296 := by simp [IntKind.wrap, IntKind.signed, IntKind.bits]
 rw [e]; omega
theorem Jz {m s N : Nat} (hN : m * 2 ^ s = N) (h : N < 4294967296) : IntKind.u32.wrap ((m : Int) * 2 ^ s) = (N : Int) := by
 rw [← wrap_u32 h, ← hN]
 simp
theorem Wr {p q r : Nat} (hp : p < 4294967296) (hq : q < 4294967296) (h : p ||| q = r) : bits .or .u32 (p : Int) (q : Int) = (r : Int) := by rw [Po p q hp hq, h]
theorem FM {fv : Value} {l r : List UInt8} {n : Nat} (hn : n < 4294967296) (hl : l.length ≤ 65536) (hr : l ++ b4 n = r) : AP Tryz.prog 146 #[fv, .int .u32 (n : Int)] [Ak 5 1 encB fv l] (fun (v : Value) => v) (fun (v : Value) => [Ak 5 1 encB v r]) := by
 refine Bj (args := [fv, .int .u32 (n : Int)]) 19 Tryz.func146 rfl rfl rfl ?_; intro w rs
 refine Ad ?_
 refine Af Ai rfl ?_
 refine Ab (Ad ?_)
 refine Af Ai rfl ?_
 refine Aa rfl (.int .u8 (((UInt8.ofNat n)).toNat : Int)) (fun b w hb hH => A5 Tryz.underlying134 Tryz.underlying5 (Kj _) rfl rfl hb) ?_
 refine Af Ai rfl ?_
 refine Aa rfl (.int .u32 ((n / 256 : Nat) : Int)) (fun b w hb hH => Jx (s := 8) (by decide) (by omega) rfl rfl rfl hb) ?_
 refine Aa rfl (.int .u8 (((UInt8.ofNat (n / 256))).toNat : Int)) (fun b w hb hH => A5 Tryz.underlying134 Tryz.underlying5 (Kj _) rfl rfl hb) ?_
 refine Af Ai rfl ?_
 refine Aa rfl (.int .u32 ((n / 65536 : Nat) : Int)) (fun b w hb hH => Jx (s := 16) (by decide) (by omega) rfl rfl rfl hb) ?_
 refine Aa rfl (.int .u8 (((UInt8.ofNat (n / 65536))).toNat : Int)) (fun b w hb hH => A5 Tryz.underlying134 Tryz.underlying5 (Kj _) rfl rfl hb) ?_
 refine Af Ai rfl ?_
 refine Aa rfl (.int .u32 ((n / 16777216 : Nat) : Int)) (fun b w hb hH => Jx (s := 24) (by decide) (by omega) rfl rfl rfl hb) ?_
 refine Aa rfl (.int .u8 (((UInt8.ofNat (n / 16777216))).toNat : Int)) (fun b w hb hH => A5 Tryz.underlying134 Tryz.underlying5 (Kj _) rfl rfl hb) ?_
 refine Am (X := Value) (val := fun v : Value => v) (post := fun v8 => [Ak 5 1 encB v8 ([(UInt8.ofNat n), (UInt8.ofNat (n / 256)), (UInt8.ofNat (n / 65536)), (UInt8.ofNat (n / 16777216))]), Ak 5 1 encB fv l]) rfl (by exact Tq Bf (UInt8.ofNat n) (UInt8.ofNat (n / 256)) (UInt8.ofNat (n / 65536)) (UInt8.ofNat (n / 16777216)) rfl rfl rfl rfl rfl) ?_; rintro v8
 refine Am (post := fun v9 => [Ak 5 1 encB v8 ([(UInt8.ofNat n), (UInt8.ofNat (n / 256)), (UInt8.ofNat (n / 65536)), (UInt8.ofNat (n / 16777216))]), Ak 5 1 encB v9 r]) rfl (Nz 1 Bf OR rfl ([(UInt8.ofNat n), (UInt8.ofNat (n / 256)), (UInt8.ofNat (n / 65536)), (UInt8.ofNat (n / 16777216))]) (fun w hH => hH.vec 0 rfl OR) (by simp only [List.length_cons, List.length_nil]; omega) rfl rfl rfl hr) ?_; rintro v9
 refine Af Ai rfl ?_
 refine Ab (Az ?_)
 exact Ay (.tmp rfl) (fun w h => AC v9 rfl [1] rfl h Ed) rfl
theorem VL (w : World) {y : List UInt8} {A : Option Addr} {c n : Nat} (hv : D9 w (.slice A y.length c) y) (h4 : 4 ≤ y.length) (hn : n4 y 0 = n) : Calls Tryz.prog 209 #[.slice A y.length c] w fun e w' => e = .returned (.int .u32 (n : Int)) ∧ Below w.heap.size w w' := by
  refine FW (args := [.slice A y.length c]) 25 Tryz.func209 rfl rfl rfl ?_
  obtain ⟨a0, ha0⟩ : ∃ a, y[0]? = some a := ⟨_, List.getElem?_eq_getElem (by omega)⟩
  obtain ⟨a1, ha1⟩ : ∃ a, y[1]? = some a := ⟨_, List.getElem?_eq_getElem (by omega)⟩
  obtain ⟨a2, ha2⟩ : ∃ a, y[2]? = some a := ⟨_, List.getElem?_eq_getElem (by omega)⟩
  obtain ⟨a3, ha3⟩ : ∃ a, y[3]? = some a := ⟨_, List.getElem?_eq_getElem (by omega)⟩
  have hA0 := a0.toNat_lt
  have hA1 := a1.toNat_lt
  have hA2 := a2.toNat_lt
  have hA3 := a3.toNat_lt
  have hD0 : y.getD 0 0 = a0 := by rw [List.getD_eq_getElem?_getD, ha0]; rfl
  have hD1 : y.getD 1 0 = a1 := by rw [List.getD_eq_getElem?_getD, ha1]; rfl
  have hD2 : y.getD 2 0 = a2 := by rw [List.getD_eq_getElem?_getD, ha2]; rfl
  have hD3 : y.getD 3 0 = a3 := by rw [List.getD_eq_getElem?_getD, ha3]; rfl
  have hn_ : a0.toNat + a1.toNat * 256 + a2.toNat * 65536 + a3.toNat * 16777216 = n := by rw [← hn]; unfold n4; rw [hD0, hD1, hD2, hD3]
  refine Ad ?_
  refine Af Ai rfl ?_
  refine Ab (An ?_)
  refine BV 22 0 [⟨.quiet, [], fun _ => .slice A y.length c, []⟩, ⟨.quiet, [], fun _ => AV (.slice A y.length c) (0 * 1), [0]⟩, ⟨.quiet, [], fun _ => .int .u8 ((a0).toNat : Int), [1]⟩, ⟨.quiet, [], fun _ => .int .u32 (a0.toNat : Int), [2]⟩, ⟨.quiet, [], fun _ => .slice A y.length c, []⟩, ⟨.quiet, [], fun _ => AV (.slice A y.length c) (1 * 1), [4]⟩, ⟨.quiet, [], fun _ => .int .u8 ((a1).toNat : Int), [5]⟩, ⟨.quiet, [], fun _ => .int .u32 (a1.toNat : Int), [6]⟩, ⟨.quiet, [], fun _ => .int .u32 ((a1.toNat * 256 : Nat) : Int), [7]⟩, ⟨.quiet, [], fun _ => .int .u32 ((a0.toNat + a1.toNat * 256 : Nat) : Int), [3, 8]⟩, ⟨.quiet, [], fun _ => .slice A y.length c, []⟩, ⟨.quiet, [], fun _ => AV (.slice A y.length c) (2 * 1), [10]⟩, ⟨.quiet, [], fun _ => .int .u8 ((a2).toNat : Int), [11]⟩, ⟨.quiet, [], fun _ => .int .u32 (a2.toNat : Int), [12]⟩, ⟨.quiet, [], fun _ => .int .u32 ((a2.toNat * 65536 : Nat) : Int), [13]⟩, ⟨.quiet, [], fun _ => .int .u32 ((a0.toNat + a1.toNat * 256 + a2.toNat * 65536 : Nat) : Int), [9, 14]⟩, ⟨.quiet, [], fun _ => .slice A y.length c, []⟩, ⟨.quiet, [], fun _ => AV (.slice A y.length c) (3 * 1), [16]⟩, ⟨.quiet, [], fun _ => .int .u8 ((a3).toNat : Int), [17]⟩, ⟨.quiet, [], fun _ => .int .u32 (a3.toNat : Int), [18]⟩, ⟨.quiet, [], fun _ => .int .u32 ((a3.toNat * 16777216 : Nat) : Int), [19]⟩, ⟨.quiet, [], fun _ => .int .u32 (n : Int), [15, 20]⟩] [(0, .slice A y.length c), (2, .int .u32 0)] (fun _ => []) (by kernel_rfl) (by kernel_rfl) ⟨rfl, rfl, trivial⟩ rfl ?_ ?_
  · skip
    refine Ac (by exact ⟨rfl, fun b w hH hb => Ah Ai rfl hb⟩) ?_
    refine Ac (by exact ⟨rfl, fun b w hH hb => ED OR ((En hv (Below.refl _ _) (fun _ h => h.elim) hH).rd) Bf (j := 0) ha0 rfl rfl rfl hb⟩) ?_
    refine Ac (by exact ⟨rfl, fun b w hH hb => BD OR (by decide) ((En hv (Below.refl _ _) (fun _ h => h.elim) hH).rd) (j := 0) ha0 DA (off := 0) rfl rfl rfl hb⟩) ?_
    refine Ac (by exact ⟨rfl, fun b w hH hb => A5 Tryz.underlying5 Tryz.underlying134 (wrap_u32 (by omega)) rfl rfl hb⟩) ?_
    refine Ac (by exact ⟨rfl, fun b w hH hb => Ah Ai rfl hb⟩) ?_
    refine Ac (by exact ⟨rfl, fun b w hH hb => ED OR ((En hv (Below.refl _ _) (fun _ h => h.elim) hH).rd) Bf (j := 1) ha1 rfl rfl rfl hb⟩) ?_
    refine Ac (by exact ⟨rfl, fun b w hH hb => BD OR (by decide) ((En hv (Below.refl _ _) (fun _ h => h.elim) hH).rd) (j := 1) ha1 DA (off := 0) rfl rfl rfl hb⟩) ?_
    refine Ac (by exact ⟨rfl, fun b w hH hb => A5 Tryz.underlying5 Tryz.underlying134 (wrap_u32 (by omega)) rfl rfl hb⟩) ?_
    refine Ac (by exact ⟨rfl, fun b w hH hb => Jy (s := 8) (by decide) (Jz (m := a1.toNat) (s := 8) (N := a1.toNat * 256) rfl (by omega)) rfl rfl rfl hb⟩) ?_
    refine Ac (by exact ⟨rfl, fun b w hH hb => Kg (Wr (by omega) (by omega) (PJ 8 (by omega))) rfl rfl rfl hb⟩) ?_
    refine Ac (by exact ⟨rfl, fun b w hH hb => Ah Ai rfl hb⟩) ?_
    refine Ac (by exact ⟨rfl, fun b w hH hb => ED OR ((En hv (Below.refl _ _) (fun _ h => h.elim) hH).rd) Bf (j := 2) ha2 rfl rfl rfl hb⟩) ?_
    refine Ac (by exact ⟨rfl, fun b w hH hb => BD OR (by decide) ((En hv (Below.refl _ _) (fun _ h => h.elim) hH).rd) (j := 2) ha2 DA (off := 0) rfl rfl rfl hb⟩) ?_
    refine Ac (by exact ⟨rfl, fun b w hH hb => A5 Tryz.underlying5 Tryz.underlying134 (wrap_u32 (by omega)) rfl rfl hb⟩) ?_
    refine Ac (by exact ⟨rfl, fun b w hH hb => Jy (s := 16) (by decide) (Jz (m := a2.toNat) (s := 16) (N := a2.toNat * 65536) rfl (by omega)) rfl rfl rfl hb⟩) ?_
    refine Ac (by exact ⟨rfl, fun b w hH hb => Kg (Wr (by omega) (by omega) (PJ 16 (by omega))) rfl rfl rfl hb⟩) ?_
    refine Ac (by exact ⟨rfl, fun b w hH hb => Ah Ai rfl hb⟩) ?_
    refine Ac (by exact ⟨rfl, fun b w hH hb => ED OR ((En hv (Below.refl _ _) (fun _ h => h.elim) hH).rd) Bf (j := 3) ha3 rfl rfl rfl hb⟩) ?_
    refine Ac (by exact ⟨rfl, fun b w hH hb => BD OR (by decide) ((En hv (Below.refl _ _) (fun _ h => h.elim) hH).rd) (j := 3) ha3 DA (off := 0) rfl rfl rfl hb⟩) ?_
    refine Ac (by exact ⟨rfl, fun b w hH hb => A5 Tryz.underlying5 Tryz.underlying134 (wrap_u32 (by omega)) rfl rfl hb⟩) ?_
    refine Ac (by exact ⟨rfl, fun b w hH hb => Jy (s := 24) (by decide) (Jz (m := a3.toNat) (s := 24) (N := a3.toNat * 16777216) rfl (by omega)) rfl rfl rfl hb⟩) ?_
    refine Ac (by exact ⟨rfl, fun b w hH hb => Kg (Wr (by omega) (by omega) ((PJ 24 (by omega)).trans hn_)) rfl rfl rfl hb⟩) ?_
    exact B7
  refine BT.keep (env' := [(2, .int .u32 0), (24, .int .u32 (n : Int))]) ⟨rfl, rfl, trivial⟩ ?_
  refine Af Ai rfl ?_
  refine AD (AB (Az ?_))
  exact Ay (.tmp rfl) (fun w h => ⟨rfl, Av h.up⟩) rfl
theorem VM (y : List UInt8) : n4 y 0 < 4294967296 := by
 have := (y.getD 0 0).toNat_lt
 have := (y.getD (0 + 1) 0).toNat_lt
 have := (y.getD (0 + 2) 0).toNat_lt
 have := (y.getD (0 + 3) 0).toNat_lt
 unfold n4; omega
def PK (A : Option Addr) (c : Nat) (y : List UInt8) : Value := if 8 ≤ y.length ∧ n4 y 0 ≤ 65536 ∧ n4 y 0 + 8 ≤ y.length then .slice (if c = 8 then A else A.map (·.add 8)) (n4 y 0) (c - 8) else .slice none 0 0
theorem UZ {y : List UInt8} (h : 4 ≤ y.length) : n4 (y.take 4) 0 = n4 y 0 := by
 have e : ∀ k, k < 4 → (y.take 4).getD k 0 = y.getD k 0 := fun k hk => by rw [List.getD_eq_getElem?_getD, List.getD_eq_getElem?_getD, List.getElem?_take, if_pos hk]
 unfold n4
 rw [e 0 (by decide), e (0 + 1) (by decide), e (0 + 2) (by decide), e (0 + 3) (by decide)]
theorem Ws {y : List UInt8} {s : Nat} (h8 : 4 ≤ y.length) (hs : s < 4294967296) : y.take 4 = b4 s ↔ n4 y 0 = s := by
  refine ⟨fun h => ?_, fun h => ?_⟩
  · rw [← UZ h8, h]
    have := VK hs []
    rwa [List.append_nil] at this
  · match y, h8 with
    | a :: b :: c :: d :: r, _ =>
      have h1 : a.toNat + b.toNat * 256 + c.toNat * 65536 + d.toNat * 16777216 = s := h
      have ha := a.toNat_lt
      have hb := b.toNat_lt
      have hc := c.toNat_lt
      have hd := d.toNat_lt
      have e0 : UInt8.ofNat s = a := UInt8.toNat_inj.1 (by rw [UInt8.toNat_ofNat']; omega)
      have e1 : UInt8.ofNat (s / 256) = b := UInt8.toNat_inj.1 (by rw [UInt8.toNat_ofNat']; omega)
      have e2 : UInt8.ofNat (s / 65536) = c := UInt8.toNat_inj.1 (by rw [UInt8.toNat_ofNat']; omega)
      have e3 : UInt8.ofNat (s / 16777216) = d := UInt8.toNat_inj.1 (by rw [UInt8.toNat_ofNat']; omega)
      unfold b4
      rw [e0, e1, e2, e3]; rfl
theorem U0 {y x : List UInt8} {n : Nat} (h8 : 8 ≤ y.length) (hn : n4 y 0 = n) (h1 : n ≤ 65536) (h2 : n + 8 ≤ y.length) (hx : (y.drop 8).take n = x) : (DC y).isSome = decide (CZ x = n4 (y.drop 4) 0) := by
  have h3 := Ws (y := y.drop 4) (s := CZ x) (by rw [List.length_drop]; omega) (Jw x)
  unfold DC
  rw [hn, hx]
  by_cases h : CZ x = n4 (y.drop 4) 0
  · rw [if_pos ⟨h8, h1, h2, h3.2 h.symm⟩, decide_eq_true h]; rfl
  · rw [if_neg (fun hc => h (h3.1 hc.2.2.2).symm), decide_eq_false h]; rfl
theorem MW {y : List UInt8} (h : ¬ (8 ≤ y.length ∧ n4 y 0 ≤ 65536 ∧ n4 y 0 + 8 ≤ y.length)) : (DC y).isSome = false := by
 unfold DC
 rw [if_neg (fun hc => h ⟨hc.1, hc.2.1, hc.2.2.1⟩)]; rfl
theorem PL {A : Option Addr} {c : Nat} {y : List UInt8} (h : ¬ (8 ≤ y.length ∧ n4 y 0 ≤ 65536 ∧ n4 y 0 + 8 ≤ y.length)) : PK A c y = .slice none 0 0 := if_neg h
theorem Of {w : World} {A : Option Addr} {c k : Nat} {l : List UInt8} (h : D9 w (.slice A l.length c) l) (hk : k ≤ l.length) : D9 w (.slice A (l.take k).length c) (l.take k) := h.takes hk
theorem K4 {w : World} {A : Option Addr} {c i : Nat} {l : List UInt8} (h : D9 w (.slice A l.length c) l) (hi : i ≤ l.length) : D9 w (.slice (if c = i then A else A.map (·.add i)) (l.drop i).length (c - i)) (l.drop i) := by
  have h3 := UY h hi (Nat.le_refl _)
  rwa [List.take_length] at h3
theorem QG (w : World) {y : List UInt8} {A : Option Addr} {c : Nat} (hv : D9 w (.slice A y.length c) y) (hl : y.length ≤ 137438953472) : Calls Tryz.prog 196 #[.slice A y.length c] w fun e w' => e = .returned (.tuple #[PK A c y, .bool (DC y).isSome]) ∧ Below w.heap.size w w' := by
  refine FW (args := [.slice A y.length c]) 35 Tryz.func196 rfl rfl rfl ?_
  refine Ad ?_
  refine Af Ai rfl ?_
  refine Ab (An ?_)
  rcases Nat.lt_or_ge y.length 8 with h8 | h8
  · skip
    have hno : ¬ (8 ≤ y.length ∧ n4 y 0 ≤ 65536 ∧ n4 y 0 + 8 ≤ y.length) := fun h => by have := h.1; omega
    rw [MW hno, PL hno]
    refine Ad ?_
    refine Af Ai rfl ?_
    refine Aa rfl (.int .i64 (y.length : Int)) (fun b w hb hH => Bp ((En hv (Below.refl _ _) (fun _ h => h.elim) hH).rd) Tryz.underlying30 rfl rfl hb) ?_
    refine Aa rfl (.bool true) (fun b w hb hH => AZ rfl rfl rfl (Ck (by omega)) hb) ?_
    refine Ab (AI rfl (Ad ?_))
    refine Af Ai rfl ?_
    refine Ab (Az (D8 ?_))
    exact Ch (.tmp rfl) (.tmp rfl) (fun w h => ⟨rfl, Av h.up⟩) rfl
  · skip
    obtain ⟨A4, hA4⟩ : ∃ A4, (if c = 4 then A else A.map (·.add 4)) = A4 := ⟨_, rfl⟩
    obtain ⟨A8, hA8⟩ : ∃ A8, (if c = 8 then A else A.map (·.add 8)) = A8 := ⟨_, rfl⟩
    have hv4 : D9 w (.slice A4 (y.drop 4).length (c - 4)) (y.drop 4) := by have h3 := K4 hv (i := 4) (by omega); rwa [hA4] at h3
    have hv9 : D9 w (.slice A8 (y.drop 8).length (c - 8)) (y.drop 8) := by have h3 := K4 hv (i := 8) (by omega); rwa [hA8] at h3
    have hs4 : Ca 1 (.slice A y.length c) 4 y.length = .slice A4 (y.drop 4).length (c - 4) := by rw [← hA4, List.length_drop]; exact IZ
    have hs9 : Ca 1 (.slice A y.length c) 8 y.length = .slice A8 (y.drop 8).length (c - 8) := by rw [← hA8, List.length_drop]; exact IZ
    have hcp := MQ hv
    have hd4 : (y.drop 4).length = y.length - 4 := List.length_drop ..
    have hd8 : (y.drop 8).length = y.length - 8 := List.length_drop ..
    obtain ⟨n, hn⟩ : ∃ n, n4 y 0 = n := ⟨_, rfl⟩
    obtain ⟨m, hm⟩ : ∃ m, n4 (y.drop 4) 0 = m := ⟨_, rfl⟩
    have hn32 : n < 4294967296 := hn ▸ VM y
    have hm32 : m < 4294967296 := hm ▸ VM _
    refine Ad ?_
    refine Af Ai rfl ?_
    refine Aa rfl (.int .i64 (y.length : Int)) (fun b w hb hH => Bp ((En hv (Below.refl _ _) (fun _ h => h.elim) hH).rd) Tryz.underlying30 rfl rfl hb) ?_
    refine Aa rfl (.bool false) (fun b w hb hH => AZ rfl rfl rfl (BU (by omega)) hb) ?_
    refine Ab (As rfl (Aw (AB (An ?_))))
    refine BV 9 2 [⟨.quiet, [none, none], fun _ => .slice A y.length c, []⟩, ⟨.actv 0, [some false, some false], fun _ => .int .u32 (n : Int), [0]⟩, ⟨.quiet, [none, none], fun _ => .slice A y.length c, []⟩, ⟨.quiet, [none, none], fun _ => .slice A4 (y.drop 4).length (c - 4), [2]⟩, ⟨.actv 1, [some true, some false], fun _ => .int .u32 (m : Int), [3]⟩, ⟨.quiet, [none, none], fun _ => .slice A y.length c, []⟩, ⟨.quiet, [none, none], fun _ => .slice A8 (y.drop 8).length (c - 8), [5]⟩, ⟨.quiet, [some true, some true], fun _ => .int .u32 (n : Int), [1]⟩, ⟨.quiet, [some true, some true], fun _ => .int .u32 (m : Int), [4]⟩] [(0, .slice A y.length c), (2, .slice none 0 0), (3, .bool false)] (fun ρ => match ρ with | [r0, r1] => [] | _ => []) (by kernel_rfl) (by kernel_rfl) ⟨rfl, rfl, rfl, trivial⟩ rfl ?_ ?_
    · skip
      refine Ac (by intro r0_ r1_; exact ⟨rfl, fun b w hH hb => Ah Ai rfl hb⟩) ?_
      refine Ac (by exact ⟨rfl, Bm.su (Bc (Aj Tryz.func209 (by kernel_rfl) rfl) (fun w hH => VL _ (En hv (Below.refl _ _) (fun _ h => h.elim) hH) (by omega) hn) rfl rfl rfl) rfl⟩) ?_
      refine Ac (by intro r0_ r1_; exact ⟨rfl, fun b w hH hb => Ah Ai rfl hb⟩) ?_
      refine Ac (by intro r0_ r1_; exact ⟨rfl, fun b w hH hb => DS (i := 4) Bf hs4 (by omega) rfl rfl rfl hH hb⟩) ?_
      refine Ac (by intro v0_; exact ⟨rfl, Bm.su (Bc (Aj Tryz.func209 (by kernel_rfl) rfl) (fun w hH => VL _ (En hv4 (Below.refl _ _) (fun _ h => h.elim) hH) (by omega) hm) rfl rfl rfl) rfl⟩) ?_
      refine Ac (by intro r0_ r1_; exact ⟨rfl, fun b w hH hb => Ah Ai rfl hb⟩) ?_
      refine Ac (by intro r0_ r1_; exact ⟨rfl, fun b w hH hb => DS (i := 8) Bf hs9 (by omega) rfl rfl rfl hH hb⟩) ?_
      refine Ac (by intro v0_ v1_; exact ⟨rfl, fun b w hH hb => Ah Ai rfl hb⟩) ?_
      refine Ac (by intro v0_ v1_; exact ⟨rfl, fun b w hH hb => Ah Ai rfl hb⟩) ?_
      exact B7
    intro v0_ v1_
    refine BT.keep (env' := [(2, .slice none 0 0), (3, .bool false), (17, .slice A8 (y.drop 8).length (c - 8)), (4, .int .u32 (n : Int)), (5, .int .u32 (m : Int))]) ⟨rfl, rfl, rfl, rfl, rfl, trivial⟩ ?_
    refine Af Ai rfl ?_
    refine AD (AB (An ?_))
    have hc : 65536 < n ∨ (n ≤ 65536 ∧ y.length - 8 < n) ∨ (n ≤ 65536 ∧ n ≤ y.length - 8) := by omega
    rcases hc with h1 | ⟨h1, h2⟩ | ⟨h1, h2⟩
    · skip
      have hno : ¬ (8 ≤ y.length ∧ n4 y 0 ≤ 65536 ∧ n4 y 0 + 8 ≤ y.length) := fun h => by have := h.2.1; omega
      rw [MW hno, PL hno]
      refine Ad ?_
      refine Af Ai rfl ?_
      refine Aa rfl (.bool true) (fun b w hb hH => AZ rfl rfl rfl (BO (by omega)) hb) ?_
      refine Af Ai rfl ?_
      refine Ab (AI rfl (Ad ?_))
      refine Af Ai rfl ?_
      refine Ab (Az (D8 ?_))
      exact Ch (.tmp rfl) (.tmp rfl) (fun w h => ⟨rfl, Av h.up⟩) rfl
    · skip
      have hno : ¬ (8 ≤ y.length ∧ n4 y 0 ≤ 65536 ∧ n4 y 0 + 8 ≤ y.length) := fun h => by have := h.2.2; omega
      rw [MW hno, PL hno]
      refine Ad ?_
      refine Af Ai rfl ?_
      refine Aa rfl (.bool false) (fun b w hb hH => AZ rfl rfl rfl (BE (by omega)) hb) ?_
      refine Af Ai rfl ?_
      refine Aa rfl (.int .i64 (n : Int)) (fun b w hb hH => A5 Tryz.underlying134 Tryz.underlying3 (IntWalk.i64_in _ (by omega)) rfl rfl hb) ?_
      refine Af Ai rfl ?_
      refine Aa rfl (.int .i64 ((y.drop 8).length : Int)) (fun b w hb hH => Bp ((En hv9 (Below.refl _ _) (fun _ h => h.elim) hH).rd) Tryz.underlying30 rfl rfl hb) ?_
      refine Aa rfl (.bool true) (fun b w hb hH => AZ rfl rfl rfl (BO (by omega)) hb) ?_
      refine Af Ai rfl ?_
      refine Ab (AI rfl (Ad ?_))
      refine Af Ai rfl ?_
      refine Ab (Az (D8 ?_))
      exact Ch (.tmp rfl) (.tmp rfl) (fun w h => ⟨rfl, Av h.up⟩) rfl
    · skip
      obtain ⟨x, hx⟩ : ∃ x, (y.drop 8).take n = x := ⟨_, rfl⟩
      have hxl : x.length = n := by rw [← hx, List.length_take]; omega
      have hvx : D9 w (.slice A8 x.length (c - 8)) x := by have h3 := (Of hv9 (k := n) (by omega)); rwa [hx] at h3
      have hsx : Ca 1 (.slice A8 (y.drop 8).length (c - 8)) 0 n = .slice A8 x.length (c - 8) := by rw [hxl]; exact UG
      have hfst : PK A c y = .slice A8 x.length (c - 8) := by unfold PK; rw [if_pos ⟨h8, by omega, by omega⟩, hA8, hn, hxl]
      rw [hfst, U0 h8 hn h1 (by omega) hx, hm]
      have hs32 := Jw x
      refine Ad ?_
      refine Af Ai rfl ?_
      refine Aa rfl (.bool false) (fun b w hb hH => AZ rfl rfl rfl (BE (by omega)) hb) ?_
      refine Af Ai rfl ?_
      refine Aa rfl (.int .i64 (n : Int)) (fun b w hb hH => A5 Tryz.underlying134 Tryz.underlying3 (IntWalk.i64_in _ (by omega)) rfl rfl hb) ?_
      refine Af Ai rfl ?_
      refine Aa rfl (.int .i64 ((y.drop 8).length : Int)) (fun b w hb hH => Bp ((En hv9 (Below.refl _ _) (fun _ h => h.elim) hH).rd) Tryz.underlying30 rfl rfl hb) ?_
      refine Aa rfl (.bool false) (fun b w hb hH => AZ rfl rfl rfl (BE (by omega)) hb) ?_
      refine Af Ai rfl ?_
      refine Ab (As rfl (Aw (AB (Ad ?_))))
      refine Af Ai rfl ?_
      refine Aa rfl (.slice A8 x.length (c - 8)) (fun b w hb hH => F0 (j := n) Bf hsx (by omega) rfl rfl rfl hH hb) ?_
      refine Af Ai rfl ?_
      refine Ab ?_
      rcases Classical.em (CZ x = m) with hz | hz
      · skip
        rw [decide_eq_true hz]
        refine Ad ?_
        refine Af Ai rfl ?_
        refine Am (post := fun _ => []) rfl (Bc (Aj Tryz.func147 (by kernel_rfl) rfl) (fun w hH => QF (En hvx (Below.refl _ _) (fun _ h => h.elim) hH) (by omega)) rfl rfl rfl) ?_; rintro ⟨⟩
        refine Af Ai rfl ?_
        refine Aa rfl (.bool true) (fun b w hb hH => AZ rfl rfl rfl (FI (by omega)) hb) ?_
        refine Af Ai rfl ?_
        refine Ab (Az ?_)
        exact Ch (.tmp rfl) (.tmp rfl) (fun w h => ⟨rfl, Av h.up⟩) rfl
      · skip
        rw [decide_eq_false hz]
        refine Ad ?_
        refine Af Ai rfl ?_
        refine Am (post := fun _ => []) rfl (Bc (Aj Tryz.func147 (by kernel_rfl) rfl) (fun w hH => QF (En hvx (Below.refl _ _) (fun _ h => h.elim) hH) (by omega)) rfl rfl rfl) ?_; rintro ⟨⟩
        refine Af Ai rfl ?_
        refine Aa rfl (.bool false) (fun b w hb hH => AZ rfl rfl rfl (EK (by omega)) hb) ?_
        refine Af Ai rfl ?_
        refine Ab (Az ?_)
        exact Ch (.tmp rfl) (.tmp rfl) (fun w h => ⟨rfl, Av h.up⟩) rfl
end Go.Proofs.YtnknboibmifacaaGreatDoor.Sep
namespace Go.Proofs.YtnknboibmifacaaGreatDoor.Sep
open Go.RowKit
open Go.Proofs.YtnknboibmifacaaGreatDoor.Mem (AR B3 Chg Av)
theorem JX (u : World) {v : Value} {y r : List UInt8} (hv : D9 u v y) (hl : y.length ≤ 140737488351232) (hr : BZ y = r) : ES u Tryz.prog 98 #[v] [] (fun (v : Value) => v) (fun (v : Value) => [Ak 5 1 encB v r]) := by
  refine KA (args := [v]) 23 Tryz.func98 rfl rfl rfl ?_; intro w rs hU hS
  refine Ad ?_
  refine Af Ai rfl ?_
  refine Ab (An ?_)
  rcases Nat.lt_or_ge 65536 y.length with h0 | h0
  · skip
    obtain rfl : r = [] := by rw [← hr]; unfold BZ; rw [if_neg (by omega)]
    refine Ad ?_
    refine Af Ai rfl ?_
    refine Aa rfl (.int .i64 (y.length : Int)) (fun b w hb hH => Bp ((En hv hU hS hH).rd) Tryz.underlying30 rfl rfl hb) ?_
    refine Aa rfl (.bool true) (fun b w hb hH => AZ rfl rfl rfl (BO (by omega)) hb) ?_
    refine Ab (AI rfl ?_)
    refine BN 5 1 encB ?_
    refine Ad ?_
    refine Af Ai rfl ?_
    refine Ab (Az (D8 ?_))
    exact Ay (.tmp rfl) (fun w h => AC (.slice none 0 0) rfl [0] rfl h Ed) rfl
  · skip
    have hc := Jw y
    have hr_ : b4 y.length ++ b4 (CZ y) ++ y = r := by rw [← hr]; unfold BZ; rw [if_pos h0]
    refine Ad ?_
    refine Af Ai rfl ?_
    refine Aa rfl (.int .i64 (y.length : Int)) (fun b w hb hH => Bp ((En hv hU hS hH).rd) Tryz.underlying30 rfl rfl hb) ?_
    refine Aa rfl (.bool false) (fun b w hb hH => AZ rfl rfl rfl (BE (by omega)) hb) ?_
    refine Ab (As rfl (Aw (AB (Ad ?_))))
    refine Af Ai rfl ?_
    refine Aa rfl (.int .i64 (y.length : Int)) (fun b w hb hH => Bp ((En hv hU hS hH).rd) Tryz.underlying30 rfl rfl hb) ?_
    refine Aa rfl (.int .i64 ((8 + y.length : Nat) : Int)) (fun b w hb hH => AH rfl rfl rfl rfl (by rw [IntWalk.i64_in _ (by omega)]; omega) hb) ?_
    refine Am (post := fun f0 => [Ak 5 1 encB f0 ([])]) rfl (Oe Bf (by kernel_rfl) (fun w => by kernel_rfl) (N := (8 + y.length)) ⟨by omega, by omega⟩ rfl rfl rfl) ?_; rintro f0
    refine Af Ai rfl ?_
    refine Ab (Ad ?_)
    refine Af Ai rfl ?_
    refine Aa rfl (.int .i64 (y.length : Int)) (fun b w hb hH => Bp ((En hv hU hS hH).rd) Tryz.underlying30 rfl rfl hb) ?_
    refine Aa rfl (.int .u32 (y.length : Int)) (fun b w hb hH => A5 Tryz.underlying3 Tryz.underlying134 (wrap_u32 (by omega)) rfl rfl hb) ?_
    refine Am rfl (Au (os' := fun f1 => [Ak 5 1 encB f1 (b4 y.length)]) [0] 0 (Aj Tryz.func146 (by kernel_rfl) rfl) (FM (l := []) (n := y.length) (r := b4 y.length) (by omega) (by simp) rfl) rfl rfl rfl (fun _ => rfl) rfl rfl rfl) ?_; rintro f1
    refine Af Ai rfl ?_
    refine Ab (Ad ?_)
    refine Af Ai rfl ?_
    refine Am (post := fun _ => [Ak 5 1 encB f1 (b4 y.length)]) rfl (Bc (Aj Tryz.func147 (by kernel_rfl) rfl) (fun w hH => QF (En hv hU hS hH) (by omega)) rfl rfl rfl) ?_; rintro ⟨⟩
    refine Am rfl (Au (os' := fun f2 => [Ak 5 1 encB f2 (b4 y.length ++ b4 (CZ y))]) [0] 0 (Aj Tryz.func146 (by kernel_rfl) rfl) (FM (l := b4 y.length) (n := (CZ y)) (r := b4 y.length ++ b4 (CZ y)) (Jw y) (by rw [In]; omega) rfl) rfl rfl rfl (fun _ => rfl) rfl rfl rfl) ?_; rintro f2
    refine Af Ai rfl ?_
    refine Ab (Ad ?_)
    refine Af Ai rfl ?_
    refine Am (post := fun f3 => [Ak 5 1 encB f3 r]) rfl (F5 0 Bf (by kernel_rfl) rfl (y) (fun w hH => (En hv hU hS hH).rd) (by rw [List.length_append, In, In]; omega) rfl rfl rfl hr_) ?_; rintro f3
    refine Af Ai rfl ?_
    refine Ab (Az ?_)
    exact Ay (.tmp rfl) (fun w h => AC f3 rfl [0] rfl h Ed) rfl
theorem Io {X : Ass} {v : Value} {y r : List UInt8} (hX : E3 X v y) (hl : y.length ≤ 140737488351232) (hr : BZ y = r) : AP Tryz.prog 98 #[v] [X] (fun (v : Value) => v) (fun (v : Value) => [X, Ak 5 1 encB v r]) := by
  refine Bj (args := [v]) 23 Tryz.func98 rfl rfl rfl ?_; intro w rs
  refine Ad ?_
  refine Af Ai rfl ?_
  refine Ab (An ?_)
  rcases Nat.lt_or_ge 65536 y.length with h0 | h0
  · skip
    obtain rfl : r = [] := by rw [← hr]; unfold BZ; rw [if_neg (by omega)]
    refine Ad ?_
    refine Af Ai rfl ?_
    refine Aa rfl (.int .i64 (y.length : Int)) (fun b w hb hH => Bp ((hH.rd8 0 rfl hX).rd) Tryz.underlying30 rfl rfl hb) ?_
    refine Aa rfl (.bool true) (fun b w hb hH => AZ rfl rfl rfl (BO (by omega)) hb) ?_
    refine Ab (AI rfl ?_)
    refine BN 5 1 encB ?_
    refine Ad ?_
    refine Af Ai rfl ?_
    refine Ab (Az (D8 ?_))
    exact Ay (.tmp rfl) (fun w h => AC (.slice none 0 0) rfl [1, 0] rfl h Ed) rfl
  · skip
    have hc := Jw y
    have hr_ : b4 y.length ++ b4 (CZ y) ++ y = r := by rw [← hr]; unfold BZ; rw [if_pos h0]
    refine Ad ?_
    refine Af Ai rfl ?_
    refine Aa rfl (.int .i64 (y.length : Int)) (fun b w hb hH => Bp ((hH.rd8 0 rfl hX).rd) Tryz.underlying30 rfl rfl hb) ?_
    refine Aa rfl (.bool false) (fun b w hb hH => AZ rfl rfl rfl (BE (by omega)) hb) ?_
    refine Ab (As rfl (Aw (AB (Ad ?_))))
    refine Af Ai rfl ?_
    refine Aa rfl (.int .i64 (y.length : Int)) (fun b w hb hH => Bp ((hH.rd8 0 rfl hX).rd) Tryz.underlying30 rfl rfl hb) ?_
    refine Aa rfl (.int .i64 ((8 + y.length : Nat) : Int)) (fun b w hb hH => AH rfl rfl rfl rfl (by rw [IntWalk.i64_in _ (by omega)]; omega) hb) ?_
    refine Am (post := fun f0 => [Ak 5 1 encB f0 ([]), X]) rfl (Oe Bf (by kernel_rfl) (fun w => by kernel_rfl) (N := (8 + y.length)) ⟨by omega, by omega⟩ rfl rfl rfl) ?_; rintro f0
    refine Af Ai rfl ?_
    refine Ab (Ad ?_)
    refine Af Ai rfl ?_
    refine Aa rfl (.int .i64 (y.length : Int)) (fun b w hb hH => Bp ((hH.rd8 1 rfl hX).rd) Tryz.underlying30 rfl rfl hb) ?_
    refine Aa rfl (.int .u32 (y.length : Int)) (fun b w hb hH => A5 Tryz.underlying3 Tryz.underlying134 (wrap_u32 (by omega)) rfl rfl hb) ?_
    refine Am rfl (Au (os' := fun f1 => [Ak 5 1 encB f1 (b4 y.length), X]) [0] 0 (Aj Tryz.func146 (by kernel_rfl) rfl) (FM (l := []) (n := y.length) (r := b4 y.length) (by omega) (by simp) rfl) rfl rfl rfl (fun _ => rfl) rfl rfl rfl) ?_; rintro f1
    refine Af Ai rfl ?_
    refine Ab (Ad ?_)
    refine Af Ai rfl ?_
    refine Am (post := fun _ => [Ak 5 1 encB f1 (b4 y.length), X]) rfl (Bc (Aj Tryz.func147 (by kernel_rfl) rfl) (fun w hH => QF (hH.rd8 1 rfl hX) (by omega)) rfl rfl rfl) ?_; rintro ⟨⟩
    refine Am rfl (Au (os' := fun f2 => [Ak 5 1 encB f2 (b4 y.length ++ b4 (CZ y)), X]) [0] 0 (Aj Tryz.func146 (by kernel_rfl) rfl) (FM (l := b4 y.length) (n := (CZ y)) (r := b4 y.length ++ b4 (CZ y)) (Jw y) (by rw [In]; omega) rfl) rfl rfl rfl (fun _ => rfl) rfl rfl rfl) ?_; rintro f2
    refine Af Ai rfl ?_
    refine Ab (Ad ?_)
    refine Af Ai rfl ?_
    refine Am (post := fun f3 => [Ak 5 1 encB f3 r, X]) rfl (F5 0 Bf (by kernel_rfl) rfl (y) (fun w hH => hH.rd 1 rfl hX.rd) (by rw [List.length_append, In, In]; omega) rfl rfl rfl hr_) ?_; rintro f3
    refine Af Ai rfl ?_
    refine Ab (Az ?_)
    exact Ay (.tmp rfl) (fun w h => AC f3 rfl [1, 0] rfl h Ed) rfl
end Go.Proofs.YtnknboibmifacaaGreatDoor.Sep
