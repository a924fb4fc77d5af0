/-
  FrmM · FrmK · FrmX · FrmD · FrmN · TyF · FrmA · FrmF
-/
import Derived.Test.YtjcfimmcogkopaaGreatDoorWX01
import Derived.Test.YtjcfimmcogkopaaGreatDoorWA07
import Derived.Test.YtjcfimmcogkopaaGreatDoorWB02
import Derived.Test.YtjcfimmcogkopaaGreatDoorWB03
import Derived.Test.YtjcfimmcogkopaaGreatDoorWB05
set_option linter.unusedSimpArgs false
set_option linter.unusedVariables false
set_option maxHeartbeats 4000000
set_option maxRecDepth 100000
namespace Go.Proofs.YtjcfimmcogkopaaGreatDoor.Sep
variable {b x : List UInt8}
def b4 (n : Nat) : List UInt8 := [UInt8.ofNat n, UInt8.ofNat (n / 256), UInt8.ofNat (n / 65536), UInt8.ofNat (n / 16777216)]
def n4 (l : List UInt8) (i : Nat) : Nat := (l.getD i 0).toNat + (l.getD (i + 1) 0).toNat * 256 + (l.getD (i + 2) 0).toNat * 65536 + (l.getD (i + 3) 0).toNat * 16777216
def B5 (x : List UInt8) : List UInt8 := if x.length ≤ 65536 then b4 x.length ++ b4 (CP x) ++ x else []
def CH (b : List UInt8) : Option (List UInt8) := if 8 ≤ b.length ∧ n4 b 0 ≤ 65536 ∧ n4 b 0 + 8 ≤ b.length ∧ (b.drop 4).take 4 = b4 (CP ((b.drop 8).take (n4 b 0))) then some ((b.drop 8).take (n4 b 0)) else none
def EU : Nat → List UInt8 → List (List UInt8) × Nat
  | 0, _ => ([], 0)
  | k + 1, b => match CH b with
    | none => ([], 0)
    | some x => (x :: (EU k (b.drop (8 + x.length))).1, 8 + x.length + (EU k (b.drop (8 + x.length))).2)
def Cs (b : List UInt8) : List (List UInt8) × Nat := EU b.length b
theorem Hy (h : CH b = some x) : 8 + x.length ≤ b.length ∧ x.length ≤ 65536 := by
  unfold CH at h
  split at h
  · rename_i hc
    cases h
    rw [List.length_take, List.length_drop]; omega
  · cases h
theorem Qx : ∀ (k : Nat) (b : List UInt8), b.length ≤ k → EU k b = EU b.length b := by
  intro k
  induction k using Nat.strongRecOn with
  | _ k ih =>
    intro b hb
    cases hn : CH b with
    | none =>
      cases k with
      | zero => have : b.length = 0 := by omega
                rw [this]
      | succ k =>
        cases hl : b.length with
        | zero => simp only [EU, hn]
        | succ m => simp only [EU, hn]
    | some x =>
      have hx := Hy hn
      cases k with
      | zero => omega
      | succ k =>
        obtain ⟨m, hm⟩ : ∃ m, b.length = m + 1 := ⟨b.length - 1, by omega⟩
        rw [hm]
        simp only [EU, hn]
        have hd : (b.drop (8 + x.length)).length = b.length - (8 + x.length) := List.length_drop ..
        rw [ih k (by omega) _ (by omega), ih m (by omega) _ (by omega)]
theorem IU (h : CH b = none) : Cs b = ([], 0) := by
  unfold Cs
  cases b.length with
  | zero => rfl
  | succ m => simp only [EU, h]
theorem IV (h : CH b = some x) : Cs b = (x :: (Cs (b.drop (8 + x.length))).1, 8 + x.length + (Cs (b.drop (8 + x.length))).2) := by
 have hx := Hy h
 obtain ⟨m, hm⟩ : ∃ m, b.length = m + 1 := ⟨b.length - 1, by omega⟩
 unfold Cs
 rw [hm]
 simp only [EU, h]
 have hd : (b.drop (8 + x.length)).length = b.length - (8 + x.length) := List.length_drop ..
 rw [Qx m _ (by omega)]
theorem NS : ∀ (k : Nat) (b : List UInt8), (EU k b).2 ≤ b.length
  | 0, _ => Nat.zero_le _
  | k + 1, b => by
    simp only [EU]
    cases h : CH b with
    | none => exact Nat.zero_le _
    | some x =>
      have hx := Hy h
      have := NS k (b.drop (8 + x.length))
      rw [List.length_drop] at this
      simp only
      omega
theorem IW : ∀ (k : Nat) (b x : List UInt8), x ∈ (EU k b).1 → x.length ≤ 65536
  | 0, _, _, h => by cases h
  | k + 1, b, x, h => by
    simp only [EU] at h
    cases hn : CH b with
    | none => rw [hn] at h; cases h
    | some y =>
      rw [hn] at h
      rcases List.mem_cons.1 h with rfl | h
      · exact (Hy hn).2
      · exact IW k _ _ h
theorem GA (n : Nat) : (b4 n).length = 4 := rfl
theorem Kk (l : List UInt8) : CP l < 4294967296 := by unfold CP; exact (~~~ Hv (BitVec.allOnes 32) l).isLt
theorem UD {n : Nat} (h : n < 4294967296) (r : List UInt8) : n4 (b4 n ++ r) 0 = n := by
 unfold n4 b4
 simp only [List.cons_append, List.nil_append, List.getD_cons_zero, List.getD_cons_succ, Nat.zero_add, UInt8.toNat_ofNat']
 omega
theorem Gb (h : x.length ≤ 65536) : (B5 x).length = 8 + x.length := by
 unfold B5
 rw [if_pos h]
 simp only [List.length_append, GA]
theorem Qy (h : x.length ≤ 65536) (r : List UInt8) : CH (B5 x ++ r) = some x := by
 have hl := Gb h
 have e : B5 x ++ r = b4 x.length ++ (b4 (CP x) ++ (x ++ r)) := by unfold B5; rw [if_pos h]; simp
 have hn : n4 (B5 x ++ r) 0 = x.length := by rw [e]; exact UD (by omega) _
 have h8 : ((B5 x ++ r).drop 8).take x.length = x := by
  rw [e]
  have : (b4 x.length ++ (b4 (CP x) ++ (x ++ r))).drop 8 = x ++ r := rfl
  rw [this]; simp
 unfold CH
 rw [hn, h8, if_pos]
 refine ⟨by rw [List.length_append]; omega, h, by rw [List.length_append]; omega, ?_⟩
 rw [e]; rfl
def E7 (ps : List (List UInt8)) : List UInt8 := (ps.map B5).flatten
theorem O9 (x : List UInt8) (ps : List (List UInt8)) : E7 (x :: ps) = B5 x ++ E7 ps := rfl
theorem Hz : ∀ (ps : List (List UInt8)), (∀ x, x ∈ ps → x.length ≤ 65536) → ∀ r, Cs (E7 ps ++ r) = (ps ++ (Cs r).1, (E7 ps).length + (Cs r).2)
  | [], _, r => by simp [E7]
  | x :: ps, h, r => by
    have hx := h x (List.mem_cons_self ..)
    have hl := Gb hx
    rw [O9, List.append_assoc, IV (Qy hx _)]
    have hd : (B5 x ++ (E7 ps ++ r)).drop (8 + x.length) = E7 ps ++ r := by rw [← hl]; simp
    rw [hd, Hz ps (fun y hy => h y (List.mem_cons_of_mem _ hy)) r]
    simp only [List.cons_append, List.length_append, Prod.mk.injEq, true_and]
    omega
theorem UE (h : x.length ≤ 65536) {k : Nat} (hk : k < 8 + x.length) : CH ((B5 x).take k) = none := by
 have hl := Gb h
 unfold CH
 refine if_neg fun ⟨h1, _, h3, _⟩ => ?_
 rw [List.length_take] at h1 h3
 have hn : n4 ((B5 x).take k) 0 = x.length := by
  have e : (B5 x).take k = b4 x.length ++ (b4 (CP x) ++ x).take (k - 4) := by
   unfold B5
   rw [if_pos h, List.append_assoc, List.take_append, GA, List.take_of_length_le (by rw [GA]; omega)]
  rw [e]; exact UD (by omega) _
 rw [hn] at h3
 omega
end Go.Proofs.YtjcfimmcogkopaaGreatDoor.Sep
namespace Go.Proofs.YtjcfimmcogkopaaGreatDoor.Sep
open Go.RowKit
open Go.Proofs.YtjcfimmcogkopaaGreatDoor.Mem (AG BC Chg Ak)
theorem Lf (m : Nat) : IntKind.u8.wrap (m : Int) = ((UInt8.ofNat m).toNat : Int) := by
 rw [UInt8.toNat_ofNat']
 have h : IntKind.u8.wrap (m : Int) = (m : Int) % 256 := by simp [IntKind.wrap, IntKind.signed, IntKind.bits]
 rw [h]; omega
section
variable {P : Program} {n : Nat} {w : World} {env : List (Nat × Value)} {o : Oper} {a : Act}
theorem Kl {T T' : TypeId} {x y : Operand} {k k' : IntKind} {m s h : Nat} (hs : s ≤ k.bits) (hh : m / 2 ^ s = h) (ho : o.op = .binOp .shr T x y T') (hx : evs env x = some (.int k (m : Int))) (hy : evs env y = some (.int k' (s : Int))) (hF : Fr n a env) : (execOp a.eval o).run P w = .ok (.value (.int k (h : Int))) w := by
 subst hh
 have h1 : min s k.bits = s := Nat.min_eq_left hs
 have h2 : (m : Int).fdiv (2 ^ s) = ((m / 2 ^ s : Nat) : Int) := by
  rw [Int.fdiv_eq_ediv_of_nonneg _ (by exact_mod_cast Nat.zero_le _)]
  simp
 have h3 : ¬ ((s : Int) < 0) := by omega
 unfold execOp
 simp only [ho, hF.evs hx, hF.evs hy]
 simp [eqGuard, binOp, Op.shift, h1, h2, h3]
theorem Km {T T' : TypeId} {x y : Operand} {k k' : IntKind} {m s : Nat} {h : Int} (hs : s ≤ k.bits) (hh : k.wrap ((m : Int) * 2 ^ s) = h) (ho : o.op = .binOp .shl T x y T') (hx : evs env x = some (.int k (m : Int))) (hy : evs env y = some (.int k' (s : Int))) (hF : Fr n a env) : (execOp a.eval o).run P w = .ok (.value (.int k h)) w := by
 subst hh
 have h1 : min s k.bits = s := Nat.min_eq_left hs
 have h3 : ¬ ((s : Int) < 0) := by omega
 unfold execOp
 simp only [ho, hF.evs hx, hF.evs hy]
 simp [eqGuard, binOp, Op.shift, h1, h3]
end
section
variable {P : Program} {Q : Exit → Act → World → Prop} {n : Nat} {B : Nat → Prop} {w0 : World} {os : List Ass} {env : List (Nat × Value)} {o : Oper} {t e : TypeId}
def vB (a : UInt8) : Value := .int .u8 (a.toNat : Int)
end
section
variable {v : Value} {l : List UInt8} {w : World}
theorem RE (h : D1 w v l) (hl : l.length ≤ 140737488355328) : Calls Tryz.prog 144 #[v] w fun e w' => e = .returned (.int .u32 (CP l : Int)) ∧ Below w.heap.size w w' := by
 obtain ⟨A, c, rfl, hb⟩ := h
 refine (VV w A c l hb hl).mono ?_
 rintro e w' ⟨he, rfl⟩
 exact ⟨he, Below.refl _ _⟩
end
end Go.Proofs.YtjcfimmcogkopaaGreatDoor.Sep
namespace Go.Proofs.YtjcfimmcogkopaaGreatDoor.Sep
open Go.RowKit
open Go.Proofs.YtjcfimmcogkopaaGreatDoor.Mem (AG BC Chg Ak)
section
variable {P : Program} {Q : Exit → Act → World → Prop} {n : Nat} {B : Nat → Prop} {w0 : World} {os : List Ass} {env : List (Nat × Value)} {o : Oper} {t e : TypeId}
end
end Go.Proofs.YtjcfimmcogkopaaGreatDoor.Sep
namespace Go.Proofs.YtjcfimmcogkopaaGreatDoor.Sep
variable {N : Nat}
open Go.RowKit
open Go.Proofs.YtjcfimmcogkopaaGreatDoor.Mem (AG BC Chg Ak)
section
variable {P : Program} {Q : Exit → Act → World → Prop} {n : Nat} {B : Nat → Prop} {w0 : World} {os : List Ass} {env : List (Nat × Value)} {o : Oper} {t e : TypeId}
theorem Qz (hT : SliceT P t e 1) (hb : (P.info? e).map (fun i => i.bytes) = some 1) (hz : ∀ w, (zeroValue e).run P w = .ok (.int .u8 0) w) (hN : 1 ≤ N ∧ N ≤ 1000000) (w : World) : (Instr.makeSlice t (.int .i64 0) (.int .i64 (N : Int))).run P w = .ok (.slice (some ⟨w.heap.size, 0, none⟩) 0 N) (w.alloc (.cells (Array.replicate N (.int .u8 0)) e)) := by
 obtain ⟨inf, z, hinf, hzz, hk, _, hzs, _⟩ := hT.inf
 have hb1 : inf.bytes = 1 := by simpa [hinf] using hb
 have h1 : IntKind.i64.wrap (N : Int) = (N : Int) := IntWalk.i64_in _ (by omega)
 have h2 : ¬ ((N : Int) < 0) := by omega
 have h3 : ¬ ((281474976710656 : Int) < (N : Int)) := by omega
 have h4 : ¬ (roomBytes < N) := by unfold roomBytes; omega
 have hw0 : IntKind.i64.wrap 0 = 0 := by decide
 have hm : (Array.range N).map (fun _ => Value.int .u8 0) = Array.replicate N (.int .u8 0) := by
  apply Array.ext_getElem?
  intro i
  simp [Array.getElem?_replicate]
  split <;> simp_all
 have h0 : N ≠ 0 := by omega
 simp [Instr.makeSlice, run_underlying hT.ht, asInt, asIntOf, typeInfo, hinf, hb1, h1, h2, h3, h4, hw0, askRoom, hT.sizeOf, hz, h0, newRow, Sem.run_bind, Value.cells, Nat.mod_one]
 simp [hm, Sem.run]
theorem Pa (hT : SliceT P t e 1) (hb : (P.info? e).map (fun i => i.bytes) = some 1) (hz : ∀ w, (zeroValue e).run P w = .ok (.int .u8 0) w) (hN : 1 ≤ N ∧ N ≤ 1000000) {x y : Operand} (ho : o.op = .makeSlice t x y) (hx : evs env x = some (.int .i64 0)) (hy : evs env y = some (.int .i64 (N : Int))) : AR P Q n env B w0 os o (fun v : Value => v) (fun v => Af e 1 encB v [] :: os) := fun b w hH hF K hK => by
 have hrun : (execOp b.eval o).run P w = .ok (.value (.slice (some ⟨w.heap.size, 0, none⟩) 0 N)) (w.alloc (.cells (Array.replicate N (.int .u8 0)) e)) := by
  unfold execOp
  simp [ho, hF.evs hx, hF.evs hy, Sem.run_bind, Qz hT hb hz hN]
 refine Fm (w0 := w) b hrun (hK _ _ ?_)
 have := hH.new e (Array.replicate N (.int .u8 0))
 obtain ⟨rs, ⟨r1, r2, e1, h1, h2⟩, h3⟩ := this
 unfold cell at h1
 exact ⟨rs, ⟨r1, r2, e1, .inr ⟨w.heap.size, N, Array.replicate N (.int .u8 0), rfl, Nat.zero_le _, by unfold maxLen; omega, by simp, by simp [flat], h1⟩, h2⟩, h3⟩
theorem QA (hT : SliceT P t e 1) {c0 c1 c2 c3 : Value} (h0 : c0.cells = #[c0]) (h1 : c1.cells = #[c1]) (h2 : c2.cells = #[c2]) (h3 : c3.cells = #[c3]) (w : World) : (Instr.buildSlice t 4 #[(0, c0), (1, c1), (2, c2), (3, c3)]).run P w = .ok (.slice (some ⟨w.heap.size, 0, none⟩) 4 4) (w.alloc (.cells #[c0, c1, c2, c3] e)) := by
 obtain ⟨inf, z, hinf, hz, hk, _, hzs, _⟩ := hT.inf
 simp [Instr.buildSlice, run_underlying hT.ht, hT.sizeOf, zeroValue, typeInfo, hinf, hz, Instr.fill, h0, h1, h2, h3, newRow, Array.range_succ, IF]
theorem UF (hT : SliceT P t e 1) {x0 x1 x2 x3 : Operand} (a0 a1 a2 a3 : UInt8) (ho : o.op = .buildSlice t 4 #[(0, x0), (1, x1), (2, x2), (3, x3)]) (h0 : evs env x0 = some (vB a0)) (h1 : evs env x1 = some (vB a1)) (h2 : evs env x2 = some (vB a2)) (h3 : evs env x3 = some (vB a3)) : AR P Q n env B w0 os o (fun v : Value => v) (fun v => Af e 1 encB v [a0, a1, a2, a3] :: os) := fun b w hH hF K hK => by
 have hrun : (execOp b.eval o).run P w = .ok (.value (.slice (some ⟨w.heap.size, 0, none⟩) 4 4)) (w.alloc (.cells #[vB a0, vB a1, vB a2, vB a3] e)) := by
  unfold execOp
  simp [ho, hF.evs h0, hF.evs h1, hF.evs h2, hF.evs h3, Sem.run_bind, QA hT (c0 := vB a0) (c1 := vB a1) (c2 := vB a2) (c3 := vB a3) rfl rfl rfl rfl]
 refine Fm (w0 := w) b hrun (hK _ _ ?_)
 have := hH.new e #[vB a0, vB a1, vB a2, vB a3]
 obtain ⟨rs, ⟨r1, r2, e1, h1, h2⟩, h3⟩ := this
 unfold cell at h1
 exact ⟨rs, ⟨r1, r2, e1, .inr ⟨w.heap.size, 4, #[vB a0, vB a1, vB a2, vB a3], rfl, Nat.le_refl _, by unfold maxLen; omega, rfl, by simp [flat, encB, vB], h1⟩, h2⟩, h3⟩
end
end Go.Proofs.YtjcfimmcogkopaaGreatDoor.Sep
namespace Go.Proofs.YtjcfimmcogkopaaGreatDoor.Sep
open Go.RowKit
theorem Wb {w : World} {A : Option Addr} {c i j : Nat} {l : List UInt8} (h : D1 w (.slice A l.length c) l) (hij : i ≤ j) (hj : j ≤ l.length) : D1 w (.slice (if c = i then A else A.map (·.add i)) ((l.take j).drop i).length (c - i)) ((l.take j).drop i) := D1.drop (h.takes hj) (by rw [List.length_take]; omega)
section
variable {b x : List UInt8} {n s : Nat} {a0 a1 a2 a3 a4 a5 a6 a7 c0 c1 c2 c3 : UInt8}
end
end Go.Proofs.YtjcfimmcogkopaaGreatDoor.Sep
namespace Go.Proofs.YtjcfimmcogkopaaGreatDoor.Sep
open Go.RowKit
open Go.Proofs.YtjcfimmcogkopaaGreatDoor.Mem (AG BC Chg Ak)
end Go.Proofs.YtjcfimmcogkopaaGreatDoor.Sep
namespace Go.Proofs.YtjcfimmcogkopaaGreatDoor.Sep
variable {A : Option Addr} {l y : List UInt8} {n : Nat}
open Go.RowKit
open Go.Proofs.YtjcfimmcogkopaaGreatDoor.Mem (AG BC Chg Ak)
theorem QB {a b : Nat} (k : Nat) (ha : a < 2 ^ k) : a ||| b * 2 ^ k = a + b * 2 ^ k := by
 have := Nat.two_pow_add_eq_or_of_lt (i := k) (b := a) ha b
 rw [Nat.or_comm, Nat.mul_comm, ← this, Nat.add_comm]
theorem wrap_u32 {m : Nat} (h : m < 4294967296) : IntKind.u32.wrap (m : Int) = (m : Int) := by
 have e : IntKind.u32.wrap (m : Int) = (m : Int) % 4294967296 := by simp [IntKind.wrap, IntKind.signed, IntKind.bits]
 rw [e]; omega
theorem Kn {m s N : Nat} (hN : m * 2 ^ s = N) (h : N < 4294967296) : IntKind.u32.wrap ((m : Int) * 2 ^ s) = (N : Int) := by
 rw [← wrap_u32 h, ← hN]
 simp
theorem XI {p q r : Nat} (hp : p < 4294967296) (hq : q < 4294967296) (h : p ||| q = r) : bits .or .u32 (p : Int) (q : Int) = (r : Int) := by rw [Qd p q hp hq, h]
theorem FP {fv : Value} {r : List UInt8} (hn : n < 4294967296) (hl : l.length ≤ 65536) (hr : l ++ b4 n = r) : AA Tryz.prog 143 #[fv, .int .u32 (n : Int)] [Af 5 1 encB fv l] (fun (v : Value) => v) (fun (v : Value) => [Af 5 1 encB v r]) := by
 refine AP (args := [fv, .int .u32 (n : Int)]) 19 Tryz.func143 rfl rfl rfl ?_; intro w rs
 refine AK ?_
 refine Am Ac rfl (Aa rfl (.int .u8 (((UInt8.ofNat n)).toNat : Int)) (fun b w hb hH => BX Tryz.underlying114 Tryz.underlying5 (Lf _) rfl rfl hb) (Am Ac rfl (Aa rfl (.int .u32 ((n / 256 : Nat) : Int)) (fun b w hb hH => Kl (s := 8) (by decide) (by omega) rfl rfl rfl hb) (Aa rfl (.int .u8 (((UInt8.ofNat (n / 256))).toNat : Int)) (fun b w hb hH => BX Tryz.underlying114 Tryz.underlying5 (Lf _) rfl rfl hb) (Am Ac rfl (Aa rfl (.int .u32 ((n / 65536 : Nat) : Int)) (fun b w hb hH => Kl (s := 16) (by decide) (by omega) rfl rfl rfl hb) (Aa rfl (.int .u8 (((UInt8.ofNat (n / 65536))).toNat : Int)) (fun b w hb hH => BX Tryz.underlying114 Tryz.underlying5 (Lf _) rfl rfl hb) (Am Ac rfl (Aa rfl (.int .u32 ((n / 16777216 : Nat) : Int)) (fun b w hb hH => Kl (s := 24) (by decide) (by omega) rfl rfl rfl hb) ?_)))))))))
 refine Aa rfl (.int .u8 (((UInt8.ofNat (n / 16777216))).toNat : Int)) (fun b w hb hH => BX Tryz.underlying114 Tryz.underlying5 (Lf _) rfl rfl hb) (AQ (X := Value) (val := fun v : Value => v) (post := fun v8 => [Af 5 1 encB v8 ([(UInt8.ofNat n), (UInt8.ofNat (n / 256)), (UInt8.ofNat (n / 65536)), (UInt8.ofNat (n / 16777216))]), Af 5 1 encB fv l]) rfl (by exact UF AL (UInt8.ofNat n) (UInt8.ofNat (n / 256)) (UInt8.ofNat (n / 65536)) (UInt8.ofNat (n / 16777216)) rfl rfl rfl rfl rfl) ?_); rintro v8
 refine AQ (post := fun v9 => [Af 5 1 encB v8 ([(UInt8.ofNat n), (UInt8.ofNat (n / 256)), (UInt8.ofNat (n / 65536)), (UInt8.ofNat (n / 16777216))]), Af 5 1 encB v9 r]) rfl (Or 1 AL Ou rfl ([(UInt8.ofNat n), (UInt8.ofNat (n / 256)), (UInt8.ofNat (n / 65536)), (UInt8.ofNat (n / 16777216))]) (fun w hH => hH.vec 0 rfl Ou) (by simp only [List.length_cons, List.length_nil]; omega) rfl rfl rfl hr) ?_; rintro v9
 refine Aq ?_
 exact An (.tmp rfl) (fun w h => As v9 rfl [1] rfl h DK) rfl
theorem W3 (w : World) {c : Nat} (hv : D1 w (.slice A y.length c) y) (h4 : 4 ≤ y.length) (hn : n4 y 0 = n) : Calls Tryz.prog 194 #[.slice A y.length c] w fun e w' => e = .returned (.int .u32 (n : Int)) ∧ Below w.heap.size w w' := by
 refine FR (args := [.slice A y.length c]) 25 Tryz.func194 rfl rfl rfl ?_
 obtain ⟨a0, ha0⟩ : ∃ a, y[0]? = some a := ⟨_, List.getElem?_eq_getElem (by omega)⟩
 obtain ⟨a1, ha1⟩ : ∃ a, y[1]? = some a := ⟨_, List.getElem?_eq_getElem (by omega)⟩
 obtain ⟨a2, ha2⟩ : ∃ a, y[2]? = some a := ⟨_, List.getElem?_eq_getElem (by omega)⟩
 obtain ⟨a3, ha3⟩ : ∃ a, y[3]? = some a := ⟨_, List.getElem?_eq_getElem (by omega)⟩
 have hA0 := a0.toNat_lt
 have hA1 := a1.toNat_lt
 have hA2 := a2.toNat_lt
 have hA3 := a3.toNat_lt
 have hD0 : y.getD 0 0 = a0 := by rw [List.getD_eq_getElem?_getD, ha0]; rfl
 have hD1 : y.getD 1 0 = a1 := by rw [List.getD_eq_getElem?_getD, ha1]; rfl
 have hD2 : y.getD 2 0 = a2 := by rw [List.getD_eq_getElem?_getD, ha2]; rfl
 have hD3 : y.getD 3 0 = a3 := by rw [List.getD_eq_getElem?_getD, ha3]; rfl
 have hn_ : a0.toNat + a1.toNat * 256 + a2.toNat * 65536 + a3.toNat * 16777216 = n := by rw [← hn]; unfold n4; rw [hD0, hD1, hD2, hD3]
 refine Al (Am Ac rfl (Aw (Bu ?_)))
 refine Bk 22 0 [⟨.quiet, [], fun _ => .slice A y.length c, []⟩, ⟨.quiet, [], fun _ => AN (.slice A y.length c) (0 * 1), [0]⟩, ⟨.quiet, [], fun _ => .int .u8 ((a0).toNat : Int), [1]⟩, ⟨.quiet, [], fun _ => .int .u32 (a0.toNat : Int), [2]⟩, ⟨.quiet, [], fun _ => .slice A y.length c, []⟩, ⟨.quiet, [], fun _ => AN (.slice A y.length c) (1 * 1), [4]⟩, ⟨.quiet, [], fun _ => .int .u8 ((a1).toNat : Int), [5]⟩, ⟨.quiet, [], fun _ => .int .u32 (a1.toNat : Int), [6]⟩, ⟨.quiet, [], fun _ => .int .u32 ((a1.toNat * 256 : Nat) : Int), [7]⟩, ⟨.quiet, [], fun _ => .int .u32 ((a0.toNat + a1.toNat * 256 : Nat) : Int), [3, 8]⟩, ⟨.quiet, [], fun _ => .slice A y.length c, []⟩, ⟨.quiet, [], fun _ => AN (.slice A y.length c) (2 * 1), [10]⟩, ⟨.quiet, [], fun _ => .int .u8 ((a2).toNat : Int), [11]⟩, ⟨.quiet, [], fun _ => .int .u32 (a2.toNat : Int), [12]⟩, ⟨.quiet, [], fun _ => .int .u32 ((a2.toNat * 65536 : Nat) : Int), [13]⟩, ⟨.quiet, [], fun _ => .int .u32 ((a0.toNat + a1.toNat * 256 + a2.toNat * 65536 : Nat) : Int), [9, 14]⟩, ⟨.quiet, [], fun _ => .slice A y.length c, []⟩, ⟨.quiet, [], fun _ => AN (.slice A y.length c) (3 * 1), [16]⟩, ⟨.quiet, [], fun _ => .int .u8 ((a3).toNat : Int), [17]⟩, ⟨.quiet, [], fun _ => .int .u32 (a3.toNat : Int), [18]⟩, ⟨.quiet, [], fun _ => .int .u32 ((a3.toNat * 16777216 : Nat) : Int), [19]⟩, ⟨.quiet, [], fun _ => .int .u32 (n : Int), [15, 20]⟩] [(0, .slice A y.length c), (2, .int .u32 0)] (fun _ => []) (by kernel_rfl) (by kernel_rfl) ⟨rfl, rfl, trivial⟩ rfl ?_ ?_
 refine Ad (by exact ⟨rfl, fun b w hH hb => Cx Ac rfl hb⟩) (Ad (by exact ⟨rfl, fun b w hH hb => Dp Ou ((Ea hv (Below.refl _ _) (fun _ h => h.elim) hH).rd) AL (j := 0) ha0 rfl rfl rfl hb⟩) (Ad (by exact ⟨rfl, fun b w hH hb => De Ou (by decide) ((Ea hv (Below.refl _ _) (fun _ h => h.elim) hH).rd) (j := 0) ha0 C5 (off := 0) rfl rfl rfl hb⟩) (Ad (by exact ⟨rfl, fun b w hH hb => BX Tryz.underlying5 Tryz.underlying114 (wrap_u32 (by omega)) rfl rfl hb⟩) (Ad (by exact ⟨rfl, fun b w hH hb => Cx Ac rfl hb⟩) (Ad (by exact ⟨rfl, fun b w hH hb => Dp Ou ((Ea hv (Below.refl _ _) (fun _ h => h.elim) hH).rd) AL (j := 1) ha1 rfl rfl rfl hb⟩) (Ad (by exact ⟨rfl, fun b w hH hb => De Ou (by decide) ((Ea hv (Below.refl _ _) (fun _ h => h.elim) hH).rd) (j := 1) ha1 C5 (off := 0) rfl rfl rfl hb⟩) (Ad (by exact ⟨rfl, fun b w hH hb => BX Tryz.underlying5 Tryz.underlying114 (wrap_u32 (by omega)) rfl rfl hb⟩) (Ad (by exact ⟨rfl, fun b w hH hb => Km (s := 8) (by decide) (Kn (m := a1.toNat) (s := 8) (N := a1.toNat * 256) rfl (by omega)) rfl rfl rfl hb⟩) (Ad (by exact ⟨rfl, fun b w hH hb => Lc (XI (by omega) (by omega) (QB 8 (by omega))) rfl rfl rfl hb⟩) ?_)))))))))
 refine Ad (by exact ⟨rfl, fun b w hH hb => Cx Ac rfl hb⟩) (Ad (by exact ⟨rfl, fun b w hH hb => Dp Ou ((Ea hv (Below.refl _ _) (fun _ h => h.elim) hH).rd) AL (j := 2) ha2 rfl rfl rfl hb⟩) (Ad (by exact ⟨rfl, fun b w hH hb => De Ou (by decide) ((Ea hv (Below.refl _ _) (fun _ h => h.elim) hH).rd) (j := 2) ha2 C5 (off := 0) rfl rfl rfl hb⟩) (Ad (by exact ⟨rfl, fun b w hH hb => BX Tryz.underlying5 Tryz.underlying114 (wrap_u32 (by omega)) rfl rfl hb⟩) (Ad (by exact ⟨rfl, fun b w hH hb => Km (s := 16) (by decide) (Kn (m := a2.toNat) (s := 16) (N := a2.toNat * 65536) rfl (by omega)) rfl rfl rfl hb⟩) (Ad (by exact ⟨rfl, fun b w hH hb => Lc (XI (by omega) (by omega) (QB 16 (by omega))) rfl rfl rfl hb⟩) (Ad (by exact ⟨rfl, fun b w hH hb => Cx Ac rfl hb⟩) (Ad (by exact ⟨rfl, fun b w hH hb => Dp Ou ((Ea hv (Below.refl _ _) (fun _ h => h.elim) hH).rd) AL (j := 3) ha3 rfl rfl rfl hb⟩) (Ad (by exact ⟨rfl, fun b w hH hb => De Ou (by decide) ((Ea hv (Below.refl _ _) (fun _ h => h.elim) hH).rd) (j := 3) ha3 C5 (off := 0) rfl rfl rfl hb⟩) (Ad (by exact ⟨rfl, fun b w hH hb => BX Tryz.underlying5 Tryz.underlying114 (wrap_u32 (by omega)) rfl rfl hb⟩) ?_)))))))))
 refine Ad (by exact ⟨rfl, fun b w hH hb => Km (s := 24) (by decide) (Kn (m := a3.toNat) (s := 24) (N := a3.toNat * 16777216) rfl (by omega)) rfl rfl rfl hb⟩) (Ad (by exact ⟨rfl, fun b w hH hb => Lc (XI (by omega) (by omega) ((QB 24 (by omega)).trans hn_)) rfl rfl rfl hb⟩) ?_)
 exact Bv
 refine A5.keep (env' := [(2, .int .u32 0), (24, .int .u32 (n : Int))]) ⟨rfl, rfl, trivial⟩ (Am Ac rfl (DU (Eu (D3 ?_))))
 exact An (.tmp rfl) (fun w h => ⟨rfl, Ak h.up⟩) rfl
theorem W4 (y : List UInt8) : n4 y 0 < 4294967296 := by
 have := (y.getD 0 0).toNat_lt
 have := (y.getD (0 + 1) 0).toNat_lt
 have := (y.getD (0 + 2) 0).toNat_lt
 have := (y.getD (0 + 3) 0).toNat_lt
 unfold n4; omega
def QC (A : Option Addr) (c : Nat) (y : List UInt8) : Value := if 8 ≤ y.length ∧ n4 y 0 ≤ 65536 ∧ n4 y 0 + 8 ≤ y.length then .slice (if c = 8 then A else A.map (·.add 8)) (n4 y 0) (c - 8) else .slice none 0 0
theorem Wc (h : 4 ≤ y.length) : n4 (y.take 4) 0 = n4 y 0 := by
 have e : ∀ k, k < 4 → (y.take 4).getD k 0 = y.getD k 0 := fun k hk => by rw [List.getD_eq_getElem?_getD, List.getD_eq_getElem?_getD, List.getElem?_take, if_pos hk]
 unfold n4
 rw [e 0 (by decide), e (0 + 1) (by decide), e (0 + 2) (by decide), e (0 + 3) (by decide)]
theorem XJ {s : Nat} (h8 : 4 ≤ y.length) (hs : s < 4294967296) : y.take 4 = b4 s ↔ n4 y 0 = s := by
  refine ⟨fun h => ?_, fun h => ?_⟩
  · rw [← Wc h8, h]
    have := UD hs []
    rwa [List.append_nil] at this
  · match y, h8 with
    | a :: b :: c :: d :: r, _ =>
      have h1 : a.toNat + b.toNat * 256 + c.toNat * 65536 + d.toNat * 16777216 = s := h
      have ha := a.toNat_lt
      have hb := b.toNat_lt
      have hc := c.toNat_lt
      have hd := d.toNat_lt
      have e0 : UInt8.ofNat s = a := UInt8.toNat_inj.1 (by rw [UInt8.toNat_ofNat']; omega)
      have e1 : UInt8.ofNat (s / 256) = b := UInt8.toNat_inj.1 (by rw [UInt8.toNat_ofNat']; omega)
      have e2 : UInt8.ofNat (s / 65536) = c := UInt8.toNat_inj.1 (by rw [UInt8.toNat_ofNat']; omega)
      have e3 : UInt8.ofNat (s / 16777216) = d := UInt8.toNat_inj.1 (by rw [UInt8.toNat_ofNat']; omega)
      unfold b4
      rw [e0, e1, e2, e3]; rfl
theorem Wd {x : List UInt8} (h8 : 8 ≤ y.length) (hn : n4 y 0 = n) (h1 : n ≤ 65536) (h2 : n + 8 ≤ y.length) (hx : (y.drop 8).take n = x) : (CH y).isSome = decide (CP x = n4 (y.drop 4) 0) := by
  have h3 := XJ (y := y.drop 4) (s := CP x) (by rw [List.length_drop]; omega) (Kk x)
  unfold CH
  rw [hn, hx]
  by_cases h : CP x = n4 (y.drop 4) 0
  · rw [if_pos ⟨h8, h1, h2, h3.2 h.symm⟩, decide_eq_true h]; rfl
  · rw [if_neg (fun hc => h (h3.1 hc.2.2.2).symm), decide_eq_false h]; rfl
theorem NT (h : ¬ (8 ≤ y.length ∧ n4 y 0 ≤ 65536 ∧ n4 y 0 + 8 ≤ y.length)) : (CH y).isSome = false := by
 unfold CH
 rw [if_neg (fun hc => h ⟨hc.1, hc.2.1, hc.2.2.1⟩)]; rfl
theorem QD {c : Nat} (h : ¬ (8 ≤ y.length ∧ n4 y 0 ≤ 65536 ∧ n4 y 0 + 8 ≤ y.length)) : QC A c y = .slice none 0 0 := if_neg h
theorem Pb {w : World} {c k : Nat} (h : D1 w (.slice A l.length c) l) (hk : k ≤ l.length) : D1 w (.slice A (l.take k).length c) (l.take k) := h.takes hk
theorem Mc {w : World} {c i : Nat} (h : D1 w (.slice A l.length c) l) (hi : i ≤ l.length) : D1 w (.slice (if c = i then A else A.map (·.add i)) (l.drop i).length (c - i)) (l.drop i) := by
  have h3 := Wb h hi (Nat.le_refl _)
  rwa [List.take_length] at h3
theorem RF (w : World) {c : Nat} (hv : D1 w (.slice A y.length c) y) (hl : y.length ≤ 137438953472) : Calls Tryz.prog 172 #[.slice A y.length c] w fun e w' => e = .returned (.tuple #[QC A c y, .bool (CH y).isSome]) ∧ Below w.heap.size w w' := by
  refine FR (args := [.slice A y.length c]) 35 Tryz.func172 rfl rfl rfl (AK ?_)
  rcases Nat.lt_or_ge y.length 8 with h8 | h8
  have hno : ¬ (8 ≤ y.length ∧ n4 y 0 ≤ 65536 ∧ n4 y 0 + 8 ≤ y.length) := fun h => by have := h.1; omega
  rw [NT hno, QD hno]
  refine Al (Am Ac rfl (Aa rfl (.int .i64 (y.length : Int)) (fun b w hb hH => AJ ((Ea hv (Below.refl _ _) (fun _ h => h.elim) hH).rd) Tryz.underlying49 rfl rfl hb) (Dc ?_)))
  exact BJ (.tmp rfl) (.tmp rfl) (fun w h => ⟨rfl, Ak h.up⟩) rfl
  obtain ⟨A4, hA4⟩ : ∃ A4, (if c = 4 then A else A.map (·.add 4)) = A4 := ⟨_, rfl⟩
  obtain ⟨A8, hA8⟩ : ∃ A8, (if c = 8 then A else A.map (·.add 8)) = A8 := ⟨_, rfl⟩
  have hv4 : D1 w (.slice A4 (y.drop 4).length (c - 4)) (y.drop 4) := by have h3 := Mc hv (i := 4) (by omega); rwa [hA4] at h3
  have hv9 : D1 w (.slice A8 (y.drop 8).length (c - 8)) (y.drop 8) := by have h3 := Mc hv (i := 8) (by omega); rwa [hA8] at h3
  have hs4 : BN 1 (.slice A y.length c) 4 y.length = .slice A4 (y.drop 4).length (c - 4) := by rw [← hA4, List.length_drop]; exact Jx
  have hs9 : BN 1 (.slice A y.length c) 8 y.length = .slice A8 (y.drop 8).length (c - 8) := by rw [← hA8, List.length_drop]; exact Jx
  have hcp := Le hv
  have hd4 : (y.drop 4).length = y.length - 4 := List.length_drop ..
  have hd8 : (y.drop 8).length = y.length - 8 := List.length_drop ..
  obtain ⟨n, hn⟩ : ∃ n, n4 y 0 = n := ⟨_, rfl⟩
  obtain ⟨m, hm⟩ : ∃ m, n4 (y.drop 4) 0 = m := ⟨_, rfl⟩
  have hn32 : n < 4294967296 := hn ▸ W4 y
  have hm32 : m < 4294967296 := hm ▸ W4 _
  refine Al (Am Ac rfl (Aa rfl (.int .i64 (y.length : Int)) (fun b w hb hH => AJ ((Ea hv (Below.refl _ _) (fun _ h => h.elim) hH).rd) Tryz.underlying49 rfl rfl hb) (Ce ?_)))
  refine Bk 9 2 [⟨.quiet, [none, none], fun _ => .slice A y.length c, []⟩, ⟨.actv 0, [some false, some false], fun _ => .int .u32 (n : Int), [0]⟩, ⟨.quiet, [none, none], fun _ => .slice A y.length c, []⟩, ⟨.quiet, [none, none], fun _ => .slice A4 (y.drop 4).length (c - 4), [2]⟩, ⟨.actv 1, [some true, some false], fun _ => .int .u32 (m : Int), [3]⟩, ⟨.quiet, [none, none], fun _ => .slice A y.length c, []⟩, ⟨.quiet, [none, none], fun _ => .slice A8 (y.drop 8).length (c - 8), [5]⟩, ⟨.quiet, [some true, some true], fun _ => .int .u32 (n : Int), [1]⟩, ⟨.quiet, [some true, some true], fun _ => .int .u32 (m : Int), [4]⟩] [(0, .slice A y.length c), (2, .slice none 0 0), (3, .bool false)] (fun ρ => match ρ with | [r0, r1] => [] | _ => []) (by kernel_rfl) (by kernel_rfl) ⟨rfl, rfl, rfl, trivial⟩ rfl ?_ ?_
  refine Ai ?_
  refine Ad (by exact ⟨rfl, AR.su (Da (Ah Tryz.func194 (by kernel_rfl) rfl) (fun w hH => W3 _ (Ea hv (Below.refl _ _) (fun _ h => h.elim) hH) (by omega) hn) rfl rfl rfl) rfl⟩) (Ai ?_)
  refine Ad (by intro r0_ r1_; exact ⟨rfl, fun b w hH hb => Fp (i := 4) AL hs4 (by omega) rfl rfl rfl hH hb⟩) (Ad (by intro v0_; exact ⟨rfl, AR.su (Da (Ah Tryz.func194 (by kernel_rfl) rfl) (fun w hH => W3 _ (Ea hv4 (Below.refl _ _) (fun _ h => h.elim) hH) (by omega) hm) rfl rfl rfl) rfl⟩) (Ai ?_))
  refine Ad (by intro r0_ r1_; exact ⟨rfl, fun b w hH hb => Fp (i := 8) AL hs9 (by omega) rfl rfl rfl hH hb⟩) (Ai ?_)
  refine Ai ?_
  exact Bv
  intro v0_ v1_
  refine A5.keep (env' := [(2, .slice none 0 0), (3, .bool false), (17, .slice A8 (y.drop 8).length (c - 8)), (4, .int .u32 (n : Int)), (5, .int .u32 (m : Int))]) ⟨rfl, rfl, rfl, rfl, rfl, trivial⟩ (Aq ?_)
  have hc : 65536 < n ∨ (n ≤ 65536 ∧ y.length - 8 < n) ∨ (n ≤ 65536 ∧ n ≤ y.length - 8) := by omega
  rcases hc with h1 | ⟨h1, h2⟩ | ⟨h1, h2⟩
  have hno : ¬ (8 ≤ y.length ∧ n4 y 0 ≤ 65536 ∧ n4 y 0 + 8 ≤ y.length) := fun h => by have := h.2.1; omega
  rw [NT hno, QD hno]
  refine Al (Am Ac rfl (Aa rfl (.bool true) (fun b w hb hH => DS rfl rfl rfl (DW (by omega)) hb) (Ce ?_)))
  exact BJ (.tmp rfl) (.tmp rfl) (fun w h => ⟨rfl, Ak h.up⟩) rfl
  have hno : ¬ (8 ≤ y.length ∧ n4 y 0 ≤ 65536 ∧ n4 y 0 + 8 ≤ y.length) := fun h => by have := h.2.2; omega
  rw [NT hno, QD hno]
  refine Al (Am Ac rfl (Aa rfl (.bool false) (fun b w hb hH => DS rfl rfl rfl (DX (by omega)) hb) (Am Ac rfl (Aa rfl (.int .i64 (n : Int)) (fun b w hb hH => BX Tryz.underlying114 Tryz.underlying3 (IntWalk.i64_in _ (by omega)) rfl rfl hb) (Am Ac rfl (Aa rfl (.int .i64 ((y.drop 8).length : Int)) (fun b w hb hH => AJ ((Ea hv9 (Below.refl _ _) (fun _ h => h.elim) hH).rd) Tryz.underlying49 rfl rfl hb) (Aa rfl (.bool true) (fun b w hb hH => DS rfl rfl rfl (DW (by omega)) hb) (Ce ?_))))))))
  exact BJ (.tmp rfl) (.tmp rfl) (fun w h => ⟨rfl, Ak h.up⟩) rfl
  obtain ⟨x, hx⟩ : ∃ x, (y.drop 8).take n = x := ⟨_, rfl⟩
  have hxl : x.length = n := by rw [← hx, List.length_take]; omega
  have hvx : D1 w (.slice A8 x.length (c - 8)) x := by have h3 := (Pb hv9 (k := n) (by omega)); rwa [hx] at h3
  have hsx : BN 1 (.slice A8 (y.drop 8).length (c - 8)) 0 n = .slice A8 x.length (c - 8) := by rw [hxl]; exact Rq
  have hfst : QC A c y = .slice A8 x.length (c - 8) := by unfold QC; rw [if_pos ⟨h8, by omega, by omega⟩, hA8, hn, hxl]
  rw [hfst, Wd h8 hn h1 (by omega) hx, hm]
  have hs32 := Kk x
  refine Al (Am Ac rfl (Aa rfl (.bool false) (fun b w hb hH => DS rfl rfl rfl (DX (by omega)) hb) (Am Ac rfl (Aa rfl (.int .i64 (n : Int)) (fun b w hb hH => BX Tryz.underlying114 Tryz.underlying3 (IntWalk.i64_in _ (by omega)) rfl rfl hb) (Am Ac rfl (Aa rfl (.int .i64 ((y.drop 8).length : Int)) (fun b w hb hH => AJ ((Ea hv9 (Below.refl _ _) (fun _ h => h.elim) hH).rd) Tryz.underlying49 rfl rfl hb) (Aa rfl (.bool false) (fun b w hb hH => DS rfl rfl rfl (DX (by omega)) hb) (BD ?_))))))))
  refine Am Ac rfl (Aa rfl (.slice A8 x.length (c - 8)) (fun b w hb hH => Fq (j := n) AL hsx (by omega) rfl rfl rfl hH hb) (Ai ?_))
  rcases Classical.em (CP x = m) with hz | hz
  rw [decide_eq_true hz]
  refine Al (Am Ac rfl (AQ (post := fun _ => []) rfl (Da (Ah Tryz.func144 (by kernel_rfl) rfl) (fun w hH => RE (Ea hvx (Below.refl _ _) (fun _ h => h.elim) hH) (by omega)) rfl rfl rfl) ?_)); rintro ⟨⟩
  refine AK ?_
  exact BJ (.tmp rfl) (.tmp rfl) (fun w h => ⟨rfl, Ak h.up⟩) rfl
  rw [decide_eq_false hz]
  refine Al (Am Ac rfl (FD (fun w hH => RE (Ea hvx (Below.refl _ _) (fun _ h => h.elim) hH) (by omega)) ?_))
  refine AK ?_
  exact BJ (.tmp rfl) (.tmp rfl) (fun w h => ⟨rfl, Ak h.up⟩) rfl
end Go.Proofs.YtjcfimmcogkopaaGreatDoor.Sep
namespace Go.Proofs.YtjcfimmcogkopaaGreatDoor.Sep
open Go.RowKit
open Go.Proofs.YtjcfimmcogkopaaGreatDoor.Mem (AG BC Chg Ak)
theorem KK (u : World) {v : Value} {y r : List UInt8} (hv : D1 u v y) (hl : y.length ≤ 140737488351232) (hr : B5 y = r) : DY u Tryz.prog 115 #[v] [] (fun (v : Value) => v) (fun (v : Value) => [Af 5 1 encB v r]) := by
 refine JY (args := [v]) 23 Tryz.func115 rfl rfl rfl ?_; intro w rs hU hS
 refine AK ?_
 rcases Nat.lt_or_ge 65536 y.length with h0 | h0
 obtain rfl : r = [] := by rw [← hr]; unfold B5; rw [if_neg (by omega)]
 refine Al (Am Ac rfl (Aa rfl (.int .i64 (y.length : Int)) (fun b w hb hH => AJ ((Ea hv hU hS hH).rd) Tryz.underlying49 rfl rfl hb) (AK ?_)))
 refine Bb 5 1 encB (AV ?_)
 exact An (.tmp rfl) (fun w h => As (.slice none 0 0) rfl [0] rfl h DK) rfl
 have hc := Kk y
 have hr_ : b4 y.length ++ b4 (CP y) ++ y = r := by rw [← hr]; unfold B5; rw [if_pos h0]
 refine Al (Am Ac rfl (Aa rfl (.int .i64 (y.length : Int)) (fun b w hb hH => AJ ((Ea hv hU hS hH).rd) Tryz.underlying49 rfl rfl hb) (Ce ?_)))
 refine Am Ac rfl (Aa rfl (.int .i64 (y.length : Int)) (fun b w hb hH => AJ ((Ea hv hU hS hH).rd) Tryz.underlying49 rfl rfl hb) (Aa rfl (.int .i64 ((8 + y.length : Nat) : Int)) (fun b w hb hH => Ay rfl rfl rfl rfl (by rw [IntWalk.i64_in _ (by omega)]; omega) hb) (AQ (post := fun f0 => [Af 5 1 encB f0 ([])]) rfl (Pa AL (by kernel_rfl) (fun w => by kernel_rfl) (N := (8 + y.length)) ⟨by omega, by omega⟩ rfl rfl rfl) ?_))); rintro f0
 refine Aq ?_
 refine Am Ac rfl (Aa rfl (.int .i64 (y.length : Int)) (fun b w hb hH => AJ ((Ea hv hU hS hH).rd) Tryz.underlying49 rfl rfl hb) (Aa rfl (.int .u32 (y.length : Int)) (fun b w hb hH => BX Tryz.underlying3 Tryz.underlying114 (wrap_u32 (by omega)) rfl rfl hb) (GI [0] (FP (l := []) (n := y.length) (r := b4 y.length) (by omega) (by simp) rfl) ?_))); rintro f1
 refine Aq ?_
 refine Am Ac rfl (FD (fun w hH => RE (Ea hv hU hS hH) (by omega)) ?_)
 refine GI [0] (FP (l := b4 y.length) (n := (CP y)) (r := b4 y.length ++ b4 (CP y)) (Kk y) (by rw [GA]; omega) rfl) ?_; rintro f2
 refine Aq ?_
 refine Am Ac rfl (AQ (post := fun f3 => [Af 5 1 encB f3 r]) rfl (Fd 0 AL (by kernel_rfl) rfl (y) (fun w hH => (Ea hv hU hS hH).rd) (by rw [List.length_append, GA, GA]; omega) rfl rfl rfl hr_) ?_); rintro f3
 refine Aq ?_
 exact An (.tmp rfl) (fun w h => As f3 rfl [0] rfl h DK) rfl
theorem IX {X : Ass} {v : Value} {y r : List UInt8} (hX : El X v y) (hl : y.length ≤ 140737488351232) (hr : B5 y = r) : AA Tryz.prog 115 #[v] [X] (fun (v : Value) => v) (fun (v : Value) => [X, Af 5 1 encB v r]) := by
 refine AP (args := [v]) 23 Tryz.func115 rfl rfl rfl ?_; intro w rs
 refine AK ?_
 rcases Nat.lt_or_ge 65536 y.length with h0 | h0
 obtain rfl : r = [] := by rw [← hr]; unfold B5; rw [if_neg (by omega)]
 refine Al (Am Ac rfl (Aa rfl (.int .i64 (y.length : Int)) (fun b w hb hH => AJ ((hH.rd8 0 rfl hX).rd) Tryz.underlying49 rfl rfl hb) (AK ?_)))
 refine Bb 5 1 encB (AV ?_)
 exact An (.tmp rfl) (fun w h => As (.slice none 0 0) rfl [1, 0] rfl h DK) rfl
 have hc := Kk y
 have hr_ : b4 y.length ++ b4 (CP y) ++ y = r := by rw [← hr]; unfold B5; rw [if_pos h0]
 refine Al (Am Ac rfl (Aa rfl (.int .i64 (y.length : Int)) (fun b w hb hH => AJ ((hH.rd8 0 rfl hX).rd) Tryz.underlying49 rfl rfl hb) (Ce ?_)))
 refine Am Ac rfl (Aa rfl (.int .i64 (y.length : Int)) (fun b w hb hH => AJ ((hH.rd8 0 rfl hX).rd) Tryz.underlying49 rfl rfl hb) (Aa rfl (.int .i64 ((8 + y.length : Nat) : Int)) (fun b w hb hH => Ay rfl rfl rfl rfl (by rw [IntWalk.i64_in _ (by omega)]; omega) hb) (AQ (post := fun f0 => [Af 5 1 encB f0 ([]), X]) rfl (Pa AL (by kernel_rfl) (fun w => by kernel_rfl) (N := (8 + y.length)) ⟨by omega, by omega⟩ rfl rfl rfl) ?_))); rintro f0
 refine Aq ?_
 refine Am Ac rfl (Aa rfl (.int .i64 (y.length : Int)) (fun b w hb hH => AJ ((hH.rd8 1 rfl hX).rd) Tryz.underlying49 rfl rfl hb) (Aa rfl (.int .u32 (y.length : Int)) (fun b w hb hH => BX Tryz.underlying3 Tryz.underlying114 (wrap_u32 (by omega)) rfl rfl hb) (GI [0] (FP (l := []) (n := y.length) (r := b4 y.length) (by omega) (by simp) rfl) ?_))); rintro f1
 refine Aq ?_
 refine Am Ac rfl (FD (fun w hH => RE (hH.rd8 1 rfl hX) (by omega)) ?_)
 refine GI [0] (FP (l := b4 y.length) (n := (CP y)) (r := b4 y.length ++ b4 (CP y)) (Kk y) (by rw [GA]; omega) rfl) ?_; rintro f2
 refine Aq ?_
 refine Am Ac rfl (AQ (post := fun f3 => [Af 5 1 encB f3 r, X]) rfl (Fd 0 AL (by kernel_rfl) rfl (y) (fun w hH => hH.rd 1 rfl hX.rd) (by rw [List.length_append, GA, GA]; omega) rfl rfl rfl hr_) ?_); rintro f3
 refine Aq ?_
 exact An (.tmp rfl) (fun w h => As f3 rfl [1, 0] rfl h DK) rfl
end Go.Proofs.YtjcfimmcogkopaaGreatDoor.Sep
