/-
  FrmM · FrmK · FrmX · FrmD · FrmN · TyF · FrmA · FrmF
-/
import Derived.Test.YtjcfimmcogkopaaGreatDoorWA07
import Derived.Test.YtjcfimmcogkopaaGreatDoorWB02
import Derived.Test.YtjcfimmcogkopaaGreatDoorWB03
import Derived.Test.YtjcfimmcogkopaaGreatDoorWB05
set_option linter.unusedSimpArgs false
set_option linter.unusedVariables false
set_option maxRecDepth 100000
namespace Go.Proofs.YtjcfimmcogkopaaGreatDoor.Sep
def b4 (n : Nat) : List UInt8 := [UInt8.ofNat n, UInt8.ofNat (n / 256), UInt8.ofNat (n / 65536), UInt8.ofNat (n / 16777216)]
def n4 (l : List UInt8) (i : Nat) : Nat := (l.getD i 0).toNat + (l.getD (i + 1) 0).toNat * 256 + (l.getD (i + 2) 0).toNat * 65536 + (l.getD (i + 3) 0).toNat * 16777216
def B2 (x : List UInt8) : List UInt8 := if x.length ≤ 65536 then b4 x.length ++ b4 (Dd x) ++ x else []
def Dt (b : List UInt8) : Option (List UInt8) := if 8 ≤ b.length ∧ n4 b 0 ≤ 65536 ∧ n4 b 0 + 8 ≤ b.length ∧ (b.drop 4).take 4 = b4 (Dd ((b.drop 8).take (n4 b 0))) then some ((b.drop 8).take (n4 b 0)) else none
def Ff : Nat → List UInt8 → List (List UInt8) × Nat
  | 0, _ => ([], 0)
  | k + 1, b => match Dt b with
    | none => ([], 0)
    | some x => (x :: (Ff k (b.drop (8 + x.length))).1, 8 + x.length + (Ff k (b.drop (8 + x.length))).2)
def Db (b : List UInt8) : List (List UInt8) × Nat := Ff b.length b
theorem H3 {b x : List UInt8} (h : Dt b = some x) : 8 + x.length ≤ b.length ∧ x.length ≤ 65536 := by
  unfold Dt at h
  split at h
  · rename_i hc
    cases h
    rw [List.length_take, List.length_drop]; omega
  · cases h
theorem Qs : ∀ (k : Nat) (b : List UInt8), b.length ≤ k → Ff k b = Ff b.length b := by
  intro k
  induction k using Nat.strongRecOn with
  | _ k ih =>
    intro b hb
    cases hn : Dt b with
    | none =>
      cases k with
      | zero => have : b.length = 0 := by omega
                rw [this]
      | succ k =>
        cases hl : b.length with
        | zero => simp only [Ff, hn]
        | succ m => simp only [Ff, hn]
    | some x =>
      have hx := H3 hn
      cases k with
      | zero => omega
      | succ k =>
        obtain ⟨m, hm⟩ : ∃ m, b.length = m + 1 := ⟨b.length - 1, by omega⟩
        rw [hm]
        simp only [Ff, hn]
        have hd : (b.drop (8 + x.length)).length = b.length - (8 + x.length) := List.length_drop ..
        rw [ih k (by omega) _ (by omega), ih m (by omega) _ (by omega)]
theorem I5 {b : List UInt8} (h : Dt b = none) : Db b = ([], 0) := by
  unfold Db
  cases b.length with
  | zero => rfl
  | succ m => simp only [Ff, h]
theorem I6 {b x : List UInt8} (h : Dt b = some x) : Db b = (x :: (Db (b.drop (8 + x.length))).1, 8 + x.length + (Db (b.drop (8 + x.length))).2) := by
 have hx := H3 h
 obtain ⟨m, hm⟩ : ∃ m, b.length = m + 1 := ⟨b.length - 1, by omega⟩
 unfold Db
 rw [hm]
 simp only [Ff, h]
 have hd : (b.drop (8 + x.length)).length = b.length - (8 + x.length) := List.length_drop ..
 rw [Qs m _ (by omega)]
theorem NP : ∀ (k : Nat) (b : List UInt8), (Ff k b).2 ≤ b.length
  | 0, _ => Nat.zero_le _
  | k + 1, b => by
    simp only [Ff]
    cases h : Dt b with
    | none => exact Nat.zero_le _
    | some x =>
      have hx := H3 h
      have := NP k (b.drop (8 + x.length))
      rw [List.length_drop] at this
      simp only
      omega
theorem I7 : ∀ (k : Nat) (b x : List UInt8), x ∈ (Ff k b).1 → x.length ≤ 65536
  | 0, _, _, h => by cases h
  | k + 1, b, x, h => by
    simp only [Ff] at h
    cases hn : Dt b with
    | none => rw [hn] at h; cases h
    | some y =>
      rw [hn] at h
      rcases List.mem_cons.1 h with rfl | h
      · exact (H3 hn).2
      · exact I7 k _ _ h
theorem GX (n : Nat) : (b4 n).length = 4 := rfl
theorem Kl (l : List UInt8) : Dd l < 4294967296 := by unfold Dd; exact (~~~ H0 (BitVec.allOnes 32) l).isLt
theorem Uq {n : Nat} (h : n < 4294967296) (r : List UInt8) : n4 (b4 n ++ r) 0 = n := by
 unfold n4 b4
 simp only [List.cons_append, List.nil_append, List.getD_cons_zero, List.getD_cons_succ, Nat.zero_add, UInt8.toNat_ofNat']
 omega
theorem Gz {x : List UInt8} (h : x.length ≤ 65536) : (B2 x).length = 8 + x.length := by
 unfold B2
 rw [if_pos h]
 simp only [List.length_append, GX]
theorem Qt {x : List UInt8} (h : x.length ≤ 65536) (r : List UInt8) : Dt (B2 x ++ r) = some x := by
 have hl := Gz h
 have e : B2 x ++ r = b4 x.length ++ (b4 (Dd x) ++ (x ++ r)) := by unfold B2; rw [if_pos h]; simp
 have hn : n4 (B2 x ++ r) 0 = x.length := by rw [e]; exact Uq (by omega) _
 have h8 : ((B2 x ++ r).drop 8).take x.length = x := by
  rw [e]
  have : (b4 x.length ++ (b4 (Dd x) ++ (x ++ r))).drop 8 = x ++ r := rfl
  rw [this]; simp
 unfold Dt
 rw [hn, h8, if_pos]
 refine ⟨by rw [List.length_append]; omega, h, by rw [List.length_append]; omega, ?_⟩
 rw [e]; rfl
def Fz (ps : List (List UInt8)) : List UInt8 := (ps.map B2).flatten
theorem O5 (x : List UInt8) (ps : List (List UInt8)) : Fz (x :: ps) = B2 x ++ Fz ps := rfl
theorem H4 : ∀ (ps : List (List UInt8)), (∀ x, x ∈ ps → x.length ≤ 65536) → ∀ r, Db (Fz ps ++ r) = (ps ++ (Db r).1, (Fz ps).length + (Db r).2)
  | [], _, r => by simp [Fz]
  | x :: ps, h, r => by
    have hx := h x (List.mem_cons_self ..)
    have hl := Gz hx
    rw [O5, List.append_assoc, I6 (Qt hx _)]
    have hd : (B2 x ++ (Fz ps ++ r)).drop (8 + x.length) = Fz ps ++ r := by rw [← hl]; simp
    rw [hd, H4 ps (fun y hy => h y (List.mem_cons_of_mem _ hy)) r]
    simp only [List.cons_append, List.length_append, Prod.mk.injEq, true_and]
    omega
theorem Ur {x : List UInt8} (h : x.length ≤ 65536) {k : Nat} (hk : k < 8 + x.length) : Dt ((B2 x).take k) = none := by
 have hl := Gz h
 unfold Dt
 refine if_neg fun ⟨h1, _, h3, _⟩ => ?_
 rw [List.length_take] at h1 h3
 have hn : n4 ((B2 x).take k) 0 = x.length := by
  have e : (B2 x).take k = b4 x.length ++ (b4 (Dd x) ++ x).take (k - 4) := by
   unfold B2
   rw [if_pos h, List.append_assoc, List.take_append, GX, List.take_of_length_le (by rw [GX]; omega)]
  rw [e]; exact Uq (by omega) _
 rw [hn] at h3
 omega
end Go.Proofs.YtjcfimmcogkopaaGreatDoor.Sep
namespace Go.Proofs.YtjcfimmcogkopaaGreatDoor.Sep
open Go.RowKit
open Go.Proofs.YtjcfimmcogkopaaGreatDoor.Mem (Bb Ci Chg Aw)
theorem Lc (m : Nat) : IntKind.u8.wrap (m : Int) = ((UInt8.ofNat m).toNat : Int) := by
 rw [UInt8.toNat_ofNat']
 have h : IntKind.u8.wrap (m : Int) = (m : Int) % 256 := by simp [IntKind.wrap, IntKind.signed, IntKind.bits]
 rw [h]; omega
section
variable {P : Program} {n : Nat} {w : World} {env : List (Nat × Value)} {o : Oper} {a : Act}
theorem Km {T T' : TypeId} {x y : Operand} {k k' : IntKind} {m s h : Nat} (hs : s ≤ k.bits) (hh : m / 2 ^ s = h) (ho : o.op = .binOp .shr T x y T') (hx : evs env x = some (.int k (m : Int))) (hy : evs env y = some (.int k' (s : Int))) (hF : Fr n a env) : (execOp a.eval o).run P w = .ok (.value (.int k (h : Int))) w := by
 subst hh
 have h1 : min s k.bits = s := Nat.min_eq_left hs
 have h2 : (m : Int).fdiv (2 ^ s) = ((m / 2 ^ s : Nat) : Int) := by
  rw [Int.fdiv_eq_ediv_of_nonneg _ (by exact_mod_cast Nat.zero_le _)]
  simp
 have h3 : ¬ ((s : Int) < 0) := by omega
 unfold execOp
 simp only [ho, hF.evs hx, hF.evs hy]
 simp [eqGuard, binOp, Op.shift, h1, h2, h3]
theorem Kn {T T' : TypeId} {x y : Operand} {k k' : IntKind} {m s : Nat} {h : Int} (hs : s ≤ k.bits) (hh : k.wrap ((m : Int) * 2 ^ s) = h) (ho : o.op = .binOp .shl T x y T') (hx : evs env x = some (.int k (m : Int))) (hy : evs env y = some (.int k' (s : Int))) (hF : Fr n a env) : (execOp a.eval o).run P w = .ok (.value (.int k h)) w := by
 subst hh
 have h1 : min s k.bits = s := Nat.min_eq_left hs
 have h3 : ¬ ((s : Int) < 0) := by omega
 unfold execOp
 simp only [ho, hF.evs hx, hF.evs hy]
 simp [eqGuard, binOp, Op.shift, h1, h3]
end
section
variable {P : Program} {Q : Exit → Act → World → Prop} {n : Nat} {B : Nat → Prop} {w0 : World} {os : List Ass} {env : List (Nat × Value)} {o : Oper} {t e : TypeId}
def vB (a : UInt8) : Value := .int .u8 (a.toNat : Int)
end
section
variable {v : Value} {l : List UInt8} {w : World}
theorem RC (h : Ew w v l) (hl : l.length ≤ 140737488355328) : Calls Tryz.prog 144 #[v] w fun e w' => e = .returned (.int .u32 (Dd l : Int)) ∧ Below w.heap.size w w' := by
 obtain ⟨A, c, rfl, hb⟩ := h
 refine (VC w A c l hb hl).mono ?_
 rintro e w' ⟨he, rfl⟩
 exact ⟨he, Below.refl _ _⟩
end
end Go.Proofs.YtjcfimmcogkopaaGreatDoor.Sep
namespace Go.Proofs.YtjcfimmcogkopaaGreatDoor.Sep
open Go.RowKit
open Go.Proofs.YtjcfimmcogkopaaGreatDoor.Mem (Bb Ci Chg Aw)
section
variable {P : Program} {Q : Exit → Act → World → Prop} {n : Nat} {B : Nat → Prop} {w0 : World} {os : List Ass} {env : List (Nat × Value)} {o : Oper} {t e : TypeId}
end
end Go.Proofs.YtjcfimmcogkopaaGreatDoor.Sep
namespace Go.Proofs.YtjcfimmcogkopaaGreatDoor.Sep
open Go.RowKit
open Go.Proofs.YtjcfimmcogkopaaGreatDoor.Mem (Bb Ci Chg Aw)
section
variable {P : Program} {Q : Exit → Act → World → Prop} {n : Nat} {B : Nat → Prop} {w0 : World} {os : List Ass} {env : List (Nat × Value)} {o : Oper} {t e : TypeId}
theorem Qu (hT : SliceT P t e 1) (hb : (P.info? e).map (fun i => i.bytes) = some 1) (hz : ∀ w, (zeroValue e).run P w = .ok (.int .u8 0) w) {N : Nat} (hN : 1 ≤ N ∧ N ≤ 1000000) (w : World) : (Instr.makeSlice t (.int .i64 0) (.int .i64 (N : Int))).run P w = .ok (.slice (some ⟨w.heap.size, 0, none⟩) 0 N) (w.alloc (.cells (Array.replicate N (.int .u8 0)) e)) := by
 obtain ⟨inf, z, hinf, hzz, hk, _, hzs, _⟩ := hT.inf
 have hb1 : inf.bytes = 1 := by simpa [hinf] using hb
 have h1 : IntKind.i64.wrap (N : Int) = (N : Int) := IntWalk.i64_in _ (by omega)
 have h2 : ¬ ((N : Int) < 0) := by omega
 have h3 : ¬ ((281474976710656 : Int) < (N : Int)) := by omega
 have h4 : ¬ (roomBytes < N) := by unfold roomBytes; omega
 have hw0 : IntKind.i64.wrap 0 = 0 := by decide
 have hm : (Array.range N).map (fun _ => Value.int .u8 0) = Array.replicate N (.int .u8 0) := by
  apply Array.ext_getElem?
  intro i
  simp [Array.getElem?_replicate]
  split <;> simp_all
 have h0 : N ≠ 0 := by omega
 simp [Instr.makeSlice, run_underlying hT.ht, asInt, asIntOf, typeInfo, hinf, hb1, h1, h2, h3, h4, hw0, askRoom, hT.sizeOf, hz, h0, newRow, Sem.run_bind, Value.cells, Nat.mod_one]
 simp [hm, Sem.run]
theorem O6 (hT : SliceT P t e 1) (hb : (P.info? e).map (fun i => i.bytes) = some 1) (hz : ∀ w, (zeroValue e).run P w = .ok (.int .u8 0) w) {N : Nat} (hN : 1 ≤ N ∧ N ≤ 1000000) {x y : Operand} (ho : o.op = .makeSlice t x y) (hx : evs env x = some (.int .i64 0)) (hy : evs env y = some (.int .i64 (N : Int))) : Bt P Q n env B w0 os o (fun v : Value => v) (fun v => Aj e 1 encB v [] :: os) := fun b w hH hF K hK => by
 have hrun : (execOp b.eval o).run P w = .ok (.value (.slice (some ⟨w.heap.size, 0, none⟩) 0 N)) (w.alloc (.cells (Array.replicate N (.int .u8 0)) e)) := by
  unfold execOp
  simp [ho, hF.evs hx, hF.evs hy, Sem.run_bind, Qu hT hb hz hN]
 refine FN (w0 := w) b hrun (hK _ _ ?_)
 have := hH.new e (Array.replicate N (.int .u8 0))
 obtain ⟨rs, ⟨r1, r2, e1, h1, h2⟩, h3⟩ := this
 unfold cell at h1
 exact ⟨rs, ⟨r1, r2, e1, .inr ⟨w.heap.size, N, Array.replicate N (.int .u8 0), rfl, Nat.zero_le _, by unfold maxLen; omega, by simp, by simp [flat], h1⟩, h2⟩, h3⟩
theorem Qv (hT : SliceT P t e 1) {c0 c1 c2 c3 : Value} (h0 : c0.cells = #[c0]) (h1 : c1.cells = #[c1]) (h2 : c2.cells = #[c2]) (h3 : c3.cells = #[c3]) (w : World) : (Instr.buildSlice t 4 #[(0, c0), (1, c1), (2, c2), (3, c3)]).run P w = .ok (.slice (some ⟨w.heap.size, 0, none⟩) 4 4) (w.alloc (.cells #[c0, c1, c2, c3] e)) := by
 obtain ⟨inf, z, hinf, hz, hk, _, hzs, _⟩ := hT.inf
 simp [Instr.buildSlice, run_underlying hT.ht, hT.sizeOf, zeroValue, typeInfo, hinf, hz, Instr.fill, h0, h1, h2, h3, newRow, Array.range_succ, IS]
theorem Us (hT : SliceT P t e 1) {x0 x1 x2 x3 : Operand} (a0 a1 a2 a3 : UInt8) (ho : o.op = .buildSlice t 4 #[(0, x0), (1, x1), (2, x2), (3, x3)]) (h0 : evs env x0 = some (vB a0)) (h1 : evs env x1 = some (vB a1)) (h2 : evs env x2 = some (vB a2)) (h3 : evs env x3 = some (vB a3)) : Bt P Q n env B w0 os o (fun v : Value => v) (fun v => Aj e 1 encB v [a0, a1, a2, a3] :: os) := fun b w hH hF K hK => by
 have hrun : (execOp b.eval o).run P w = .ok (.value (.slice (some ⟨w.heap.size, 0, none⟩) 4 4)) (w.alloc (.cells #[vB a0, vB a1, vB a2, vB a3] e)) := by
  unfold execOp
  simp [ho, hF.evs h0, hF.evs h1, hF.evs h2, hF.evs h3, Sem.run_bind, Qv hT (c0 := vB a0) (c1 := vB a1) (c2 := vB a2) (c3 := vB a3) rfl rfl rfl rfl]
 refine FN (w0 := w) b hrun (hK _ _ ?_)
 have := hH.new e #[vB a0, vB a1, vB a2, vB a3]
 obtain ⟨rs, ⟨r1, r2, e1, h1, h2⟩, h3⟩ := this
 unfold cell at h1
 exact ⟨rs, ⟨r1, r2, e1, .inr ⟨w.heap.size, 4, #[vB a0, vB a1, vB a2, vB a3], rfl, Nat.le_refl _, by unfold maxLen; omega, rfl, by simp [flat, encB, vB], h1⟩, h2⟩, h3⟩
end
end Go.Proofs.YtjcfimmcogkopaaGreatDoor.Sep
namespace Go.Proofs.YtjcfimmcogkopaaGreatDoor.Sep
open Go.RowKit
theorem VS {w : World} {A : Option Addr} {c i j : Nat} {l : List UInt8} (h : Ew w (.slice A l.length c) l) (hij : i ≤ j) (hj : j ≤ l.length) : Ew w (.slice (if c = i then A else A.map (·.add i)) ((l.take j).drop i).length (c - i)) ((l.take j).drop i) := Ew.drop (h.takes hj) (by rw [List.length_take]; omega)
section
variable {b x : List UInt8} {n s : Nat} {a0 a1 a2 a3 a4 a5 a6 a7 c0 c1 c2 c3 : UInt8}
end
end Go.Proofs.YtjcfimmcogkopaaGreatDoor.Sep
namespace Go.Proofs.YtjcfimmcogkopaaGreatDoor.Sep
open Go.RowKit
open Go.Proofs.YtjcfimmcogkopaaGreatDoor.Mem (Bb Ci Chg Aw)
end Go.Proofs.YtjcfimmcogkopaaGreatDoor.Sep
namespace Go.Proofs.YtjcfimmcogkopaaGreatDoor.Sep
open Go.RowKit
open Go.Proofs.YtjcfimmcogkopaaGreatDoor.Mem (Bb Ci Chg Aw)
theorem Qw {a b : Nat} (k : Nat) (ha : a < 2 ^ k) : a ||| b * 2 ^ k = a + b * 2 ^ k := by
 have := Nat.two_pow_add_eq_or_of_lt (i := k) (b := a) ha b
 rw [Nat.or_comm, Nat.mul_comm, ← this, Nat.add_comm]
theorem wrap_u32 {m : Nat} (h : m < 4294967296) : IntKind.u32.wrap (m : Int) = (m : Int) := by
 have e : IntKind.u32.wrap (m : Int) = (m : Int) % 4294967296 := by simp [IntKind.wrap, IntKind.signed, IntKind.bits]
 rw [e]; omega
theorem Ko {m s N : Nat} (hN : m * 2 ^ s = N) (h : N < 4294967296) : IntKind.u32.wrap ((m : Int) * 2 ^ s) = (N : Int) := by
 rw [← wrap_u32 h, ← hN]
 simp
theorem Xg {p q r : Nat} (hp : p < 4294967296) (hq : q < 4294967296) (h : p ||| q = r) : bits .or .u32 (p : Int) (q : Int) = (r : Int) := by rw [P9 p q hp hq, h]
theorem Gg {fv : Value} {l r : List UInt8} {n : Nat} (hn : n < 4294967296) (hl : l.length ≤ 65536) (hr : l ++ b4 n = r) : AV Tryz.prog 143 #[fv, .int .u32 (n : Int)] [Aj 5 1 encB fv l] (fun (v : Value) => v) (fun (v : Value) => [Aj 5 1 encB v r]) := by
 refine Bo (args := [fv, .int .u32 (n : Int)]) 19 Tryz.func143 rfl rfl rfl ?_; intro w rs
 refine Ad (Af Ak rfl (Ab (Ad (Af Ak rfl (Aa rfl (.int .u8 (((UInt8.ofNat n)).toNat : Int)) (fun b w hb hH => Bi Tryz.underlying114 Tryz.underlying5 (Lc _) rfl rfl hb) (Af Ak rfl (Aa rfl (.int .u32 ((n / 256 : Nat) : Int)) (fun b w hb hH => Km (s := 8) (by decide) (by omega) rfl rfl rfl hb) (Aa rfl (.int .u8 (((UInt8.ofNat (n / 256))).toNat : Int)) (fun b w hb hH => Bi Tryz.underlying114 Tryz.underlying5 (Lc _) rfl rfl hb) (Af Ak rfl (Aa rfl (.int .u32 ((n / 65536 : Nat) : Int)) (fun b w hb hH => Km (s := 16) (by decide) (by omega) rfl rfl rfl hb) ?_))))))))))
 refine Aa rfl (.int .u8 (((UInt8.ofNat (n / 65536))).toNat : Int)) (fun b w hb hH => Bi Tryz.underlying114 Tryz.underlying5 (Lc _) rfl rfl hb) (Af Ak rfl (Aa rfl (.int .u32 ((n / 16777216 : Nat) : Int)) (fun b w hb hH => Km (s := 24) (by decide) (by omega) rfl rfl rfl hb) (Aa rfl (.int .u8 (((UInt8.ofNat (n / 16777216))).toNat : Int)) (fun b w hb hH => Bi Tryz.underlying114 Tryz.underlying5 (Lc _) rfl rfl hb) (Al (X := Value) (val := fun v : Value => v) (post := fun v8 => [Aj 5 1 encB v8 ([(UInt8.ofNat n), (UInt8.ofNat (n / 256)), (UInt8.ofNat (n / 65536)), (UInt8.ofNat (n / 16777216))]), Aj 5 1 encB fv l]) rfl (by exact Us Bh (UInt8.ofNat n) (UInt8.ofNat (n / 256)) (UInt8.ofNat (n / 65536)) (UInt8.ofNat (n / 16777216)) rfl rfl rfl rfl rfl) ?_)))); rintro v8
 refine Al (post := fun v9 => [Aj 5 1 encB v8 ([(UInt8.ofNat n), (UInt8.ofNat (n / 256)), (UInt8.ofNat (n / 65536)), (UInt8.ofNat (n / 16777216))]), Aj 5 1 encB v9 r]) rfl (On 1 Bh PD rfl ([(UInt8.ofNat n), (UInt8.ofNat (n / 256)), (UInt8.ofNat (n / 65536)), (UInt8.ofNat (n / 16777216))]) (fun w hH => hH.vec 0 rfl PD) (by simp only [List.length_cons, List.length_nil]; omega) rfl rfl rfl hr) ?_; rintro v9
 refine Af Ak rfl (Ab (AB ?_))
 exact AA (.tmp rfl) (fun w h => AH v9 rfl [1] rfl h El) rfl
theorem Wx (w : World) {y : List UInt8} {A : Option Addr} {c n : Nat} (hv : Ew w (.slice A y.length c) y) (h4 : 4 ≤ y.length) (hn : n4 y 0 = n) : Calls Tryz.prog 194 #[.slice A y.length c] w fun e w' => e = .returned (.int .u32 (n : Int)) ∧ Below w.heap.size w w' := by
 refine Gi (args := [.slice A y.length c]) 25 Tryz.func194 rfl rfl rfl ?_
 obtain ⟨a0, ha0⟩ : ∃ a, y[0]? = some a := ⟨_, List.getElem?_eq_getElem (by omega)⟩
 obtain ⟨a1, ha1⟩ : ∃ a, y[1]? = some a := ⟨_, List.getElem?_eq_getElem (by omega)⟩
 obtain ⟨a2, ha2⟩ : ∃ a, y[2]? = some a := ⟨_, List.getElem?_eq_getElem (by omega)⟩
 obtain ⟨a3, ha3⟩ : ∃ a, y[3]? = some a := ⟨_, List.getElem?_eq_getElem (by omega)⟩
 have hA0 := a0.toNat_lt
 have hA1 := a1.toNat_lt
 have hA2 := a2.toNat_lt
 have hA3 := a3.toNat_lt
 have hD0 : y.getD 0 0 = a0 := by rw [List.getD_eq_getElem?_getD, ha0]; rfl
 have hD1 : y.getD 1 0 = a1 := by rw [List.getD_eq_getElem?_getD, ha1]; rfl
 have hD2 : y.getD 2 0 = a2 := by rw [List.getD_eq_getElem?_getD, ha2]; rfl
 have hD3 : y.getD 3 0 = a3 := by rw [List.getD_eq_getElem?_getD, ha3]; rfl
 have hn_ : a0.toNat + a1.toNat * 256 + a2.toNat * 65536 + a3.toNat * 16777216 = n := by rw [← hn]; unfold n4; rw [hD0, hD1, hD2, hD3]
 refine Ad (Af Ak rfl (Ab (Ar ?_)))
 refine BV 22 0 [⟨.quiet, [], fun _ => .slice A y.length c, []⟩, ⟨.quiet, [], fun _ => AN (.slice A y.length c) (0 * 1), [0]⟩, ⟨.quiet, [], fun _ => .int .u8 ((a0).toNat : Int), [1]⟩, ⟨.quiet, [], fun _ => .int .u32 (a0.toNat : Int), [2]⟩, ⟨.quiet, [], fun _ => .slice A y.length c, []⟩, ⟨.quiet, [], fun _ => AN (.slice A y.length c) (1 * 1), [4]⟩, ⟨.quiet, [], fun _ => .int .u8 ((a1).toNat : Int), [5]⟩, ⟨.quiet, [], fun _ => .int .u32 (a1.toNat : Int), [6]⟩, ⟨.quiet, [], fun _ => .int .u32 ((a1.toNat * 256 : Nat) : Int), [7]⟩, ⟨.quiet, [], fun _ => .int .u32 ((a0.toNat + a1.toNat * 256 : Nat) : Int), [3, 8]⟩, ⟨.quiet, [], fun _ => .slice A y.length c, []⟩, ⟨.quiet, [], fun _ => AN (.slice A y.length c) (2 * 1), [10]⟩, ⟨.quiet, [], fun _ => .int .u8 ((a2).toNat : Int), [11]⟩, ⟨.quiet, [], fun _ => .int .u32 (a2.toNat : Int), [12]⟩, ⟨.quiet, [], fun _ => .int .u32 ((a2.toNat * 65536 : Nat) : Int), [13]⟩, ⟨.quiet, [], fun _ => .int .u32 ((a0.toNat + a1.toNat * 256 + a2.toNat * 65536 : Nat) : Int), [9, 14]⟩, ⟨.quiet, [], fun _ => .slice A y.length c, []⟩, ⟨.quiet, [], fun _ => AN (.slice A y.length c) (3 * 1), [16]⟩, ⟨.quiet, [], fun _ => .int .u8 ((a3).toNat : Int), [17]⟩, ⟨.quiet, [], fun _ => .int .u32 (a3.toNat : Int), [18]⟩, ⟨.quiet, [], fun _ => .int .u32 ((a3.toNat * 16777216 : Nat) : Int), [19]⟩, ⟨.quiet, [], fun _ => .int .u32 (n : Int), [15, 20]⟩] [(0, .slice A y.length c), (2, .int .u32 0)] (fun _ => []) (by kernel_rfl) (by kernel_rfl) ⟨rfl, rfl, trivial⟩ rfl ?_ ?_
 refine Ac (by exact ⟨rfl, fun b w hH hb => Ah Ak rfl hb⟩) (Ac (by exact ⟨rfl, fun b w hH hb => DW PD ((EC hv (Below.refl _ _) (fun _ h => h.elim) hH).rd) Bh (j := 0) ha0 rfl rfl rfl hb⟩) (Ac (by exact ⟨rfl, fun b w hH hb => Bq PD (by decide) ((EC hv (Below.refl _ _) (fun _ h => h.elim) hH).rd) (j := 0) ha0 DZ (off := 0) rfl rfl rfl hb⟩) (Ac (by exact ⟨rfl, fun b w hH hb => Bi Tryz.underlying5 Tryz.underlying114 (wrap_u32 (by omega)) rfl rfl hb⟩) (Ac (by exact ⟨rfl, fun b w hH hb => Ah Ak rfl hb⟩) (Ac (by exact ⟨rfl, fun b w hH hb => DW PD ((EC hv (Below.refl _ _) (fun _ h => h.elim) hH).rd) Bh (j := 1) ha1 rfl rfl rfl hb⟩) (Ac (by exact ⟨rfl, fun b w hH hb => Bq PD (by decide) ((EC hv (Below.refl _ _) (fun _ h => h.elim) hH).rd) (j := 1) ha1 DZ (off := 0) rfl rfl rfl hb⟩) (Ac (by exact ⟨rfl, fun b w hH hb => Bi Tryz.underlying5 Tryz.underlying114 (wrap_u32 (by omega)) rfl rfl hb⟩) (Ac (by exact ⟨rfl, fun b w hH hb => Kn (s := 8) (by decide) (Ko (m := a1.toNat) (s := 8) (N := a1.toNat * 256) rfl (by omega)) rfl rfl rfl hb⟩) (Ac (by exact ⟨rfl, fun b w hH hb => K9 (Xg (by omega) (by omega) (Qw 8 (by omega))) rfl rfl rfl hb⟩) ?_)))))))))
 refine Ac (by exact ⟨rfl, fun b w hH hb => Ah Ak rfl hb⟩) (Ac (by exact ⟨rfl, fun b w hH hb => DW PD ((EC hv (Below.refl _ _) (fun _ h => h.elim) hH).rd) Bh (j := 2) ha2 rfl rfl rfl hb⟩) (Ac (by exact ⟨rfl, fun b w hH hb => Bq PD (by decide) ((EC hv (Below.refl _ _) (fun _ h => h.elim) hH).rd) (j := 2) ha2 DZ (off := 0) rfl rfl rfl hb⟩) (Ac (by exact ⟨rfl, fun b w hH hb => Bi Tryz.underlying5 Tryz.underlying114 (wrap_u32 (by omega)) rfl rfl hb⟩) (Ac (by exact ⟨rfl, fun b w hH hb => Kn (s := 16) (by decide) (Ko (m := a2.toNat) (s := 16) (N := a2.toNat * 65536) rfl (by omega)) rfl rfl rfl hb⟩) (Ac (by exact ⟨rfl, fun b w hH hb => K9 (Xg (by omega) (by omega) (Qw 16 (by omega))) rfl rfl rfl hb⟩) (Ac (by exact ⟨rfl, fun b w hH hb => Ah Ak rfl hb⟩) (Ac (by exact ⟨rfl, fun b w hH hb => DW PD ((EC hv (Below.refl _ _) (fun _ h => h.elim) hH).rd) Bh (j := 3) ha3 rfl rfl rfl hb⟩) (Ac (by exact ⟨rfl, fun b w hH hb => Bq PD (by decide) ((EC hv (Below.refl _ _) (fun _ h => h.elim) hH).rd) (j := 3) ha3 DZ (off := 0) rfl rfl rfl hb⟩) (Ac (by exact ⟨rfl, fun b w hH hb => Bi Tryz.underlying5 Tryz.underlying114 (wrap_u32 (by omega)) rfl rfl hb⟩) ?_)))))))))
 refine Ac (by exact ⟨rfl, fun b w hH hb => Kn (s := 24) (by decide) (Ko (m := a3.toNat) (s := 24) (N := a3.toNat * 16777216) rfl (by omega)) rfl rfl rfl hb⟩) (Ac (by exact ⟨rfl, fun b w hH hb => K9 (Xg (by omega) (by omega) ((Qw 24 (by omega)).trans hn_)) rfl rfl rfl hb⟩) ?_)
 exact B9
 refine BU.keep (env' := [(2, .int .u32 0), (24, .int .u32 (n : Int))]) ⟨rfl, rfl, trivial⟩ (Af Ak rfl (AG (AC (AB ?_))))
 exact AA (.tmp rfl) (fun w h => ⟨rfl, Aw h.up⟩) rfl
theorem Wy (y : List UInt8) : n4 y 0 < 4294967296 := by
 have := (y.getD 0 0).toNat_lt
 have := (y.getD (0 + 1) 0).toNat_lt
 have := (y.getD (0 + 2) 0).toNat_lt
 have := (y.getD (0 + 3) 0).toNat_lt
 unfold n4; omega
def Qx (A : Option Addr) (c : Nat) (y : List UInt8) : Value := if 8 ≤ y.length ∧ n4 y 0 ≤ 65536 ∧ n4 y 0 + 8 ≤ y.length then .slice (if c = 8 then A else A.map (·.add 8)) (n4 y 0) (c - 8) else .slice none 0 0
theorem VT {y : List UInt8} (h : 4 ≤ y.length) : n4 (y.take 4) 0 = n4 y 0 := by
 have e : ∀ k, k < 4 → (y.take 4).getD k 0 = y.getD k 0 := fun k hk => by rw [List.getD_eq_getElem?_getD, List.getD_eq_getElem?_getD, List.getElem?_take, if_pos hk]
 unfold n4
 rw [e 0 (by decide), e (0 + 1) (by decide), e (0 + 2) (by decide), e (0 + 3) (by decide)]
theorem Xh {y : List UInt8} {s : Nat} (h8 : 4 ≤ y.length) (hs : s < 4294967296) : y.take 4 = b4 s ↔ n4 y 0 = s := by
  refine ⟨fun h => ?_, fun h => ?_⟩
  · rw [← VT h8, h]
    have := Uq hs []
    rwa [List.append_nil] at this
  · match y, h8 with
    | a :: b :: c :: d :: r, _ =>
      have h1 : a.toNat + b.toNat * 256 + c.toNat * 65536 + d.toNat * 16777216 = s := h
      have ha := a.toNat_lt
      have hb := b.toNat_lt
      have hc := c.toNat_lt
      have hd := d.toNat_lt
      have e0 : UInt8.ofNat s = a := UInt8.toNat_inj.1 (by rw [UInt8.toNat_ofNat']; omega)
      have e1 : UInt8.ofNat (s / 256) = b := UInt8.toNat_inj.1 (by rw [UInt8.toNat_ofNat']; omega)
      have e2 : UInt8.ofNat (s / 65536) = c := UInt8.toNat_inj.1 (by rw [UInt8.toNat_ofNat']; omega)
      have e3 : UInt8.ofNat (s / 16777216) = d := UInt8.toNat_inj.1 (by rw [UInt8.toNat_ofNat']; omega)
      unfold b4
      rw [e0, e1, e2, e3]; rfl
theorem VU {y x : List UInt8} {n : Nat} (h8 : 8 ≤ y.length) (hn : n4 y 0 = n) (h1 : n ≤ 65536) (h2 : n + 8 ≤ y.length) (hx : (y.drop 8).take n = x) : (Dt y).isSome = decide (Dd x = n4 (y.drop 4) 0) := by
  have h3 := Xh (y := y.drop 4) (s := Dd x) (by rw [List.length_drop]; omega) (Kl x)
  unfold Dt
  rw [hn, hx]
  by_cases h : Dd x = n4 (y.drop 4) 0
  · rw [if_pos ⟨h8, h1, h2, h3.2 h.symm⟩, decide_eq_true h]; rfl
  · rw [if_neg (fun hc => h (h3.1 hc.2.2.2).symm), decide_eq_false h]; rfl
theorem NQ {y : List UInt8} (h : ¬ (8 ≤ y.length ∧ n4 y 0 ≤ 65536 ∧ n4 y 0 + 8 ≤ y.length)) : (Dt y).isSome = false := by
 unfold Dt
 rw [if_neg (fun hc => h ⟨hc.1, hc.2.1, hc.2.2.1⟩)]; rfl
theorem Qy {A : Option Addr} {c : Nat} {y : List UInt8} (h : ¬ (8 ≤ y.length ∧ n4 y 0 ≤ 65536 ∧ n4 y 0 + 8 ≤ y.length)) : Qx A c y = .slice none 0 0 := if_neg h
theorem O7 {w : World} {A : Option Addr} {c k : Nat} {l : List UInt8} (h : Ew w (.slice A l.length c) l) (hk : k ≤ l.length) : Ew w (.slice A (l.take k).length c) (l.take k) := h.takes hk
theorem L9 {w : World} {A : Option Addr} {c i : Nat} {l : List UInt8} (h : Ew w (.slice A l.length c) l) (hi : i ≤ l.length) : Ew w (.slice (if c = i then A else A.map (·.add i)) (l.drop i).length (c - i)) (l.drop i) := by
  have h3 := VS h hi (Nat.le_refl _)
  rwa [List.take_length] at h3
theorem RD (w : World) {y : List UInt8} {A : Option Addr} {c : Nat} (hv : Ew w (.slice A y.length c) y) (hl : y.length ≤ 137438953472) : Calls Tryz.prog 172 #[.slice A y.length c] w fun e w' => e = .returned (.tuple #[Qx A c y, .bool (Dt y).isSome]) ∧ Below w.heap.size w w' := by
  refine Gi (args := [.slice A y.length c]) 35 Tryz.func172 rfl rfl rfl (Ad (Af Ak rfl (Ab (Ar ?_))))
  rcases Nat.lt_or_ge y.length 8 with h8 | h8
  have hno : ¬ (8 ≤ y.length ∧ n4 y 0 ≤ 65536 ∧ n4 y 0 + 8 ≤ y.length) := fun h => by have := h.1; omega
  rw [NQ hno, Qy hno]
  refine Ad (Af Ak rfl (Aa rfl (.int .i64 (y.length : Int)) (fun b w hb hH => Be ((EC hv (Below.refl _ _) (fun _ h => h.elim) hH).rd) Tryz.underlying49 rfl rfl hb) (Aa rfl (.bool true) (fun b w hb hH => A5 rfl rfl rfl (BY (by omega)) hb) (Ab (AE rfl (Ad (Af Ak rfl (Ab (AB (Ek ?_))))))))))
  exact Co (.tmp rfl) (.tmp rfl) (fun w h => ⟨rfl, Aw h.up⟩) rfl
  obtain ⟨A4, hA4⟩ : ∃ A4, (if c = 4 then A else A.map (·.add 4)) = A4 := ⟨_, rfl⟩
  obtain ⟨A8, hA8⟩ : ∃ A8, (if c = 8 then A else A.map (·.add 8)) = A8 := ⟨_, rfl⟩
  have hv4 : Ew w (.slice A4 (y.drop 4).length (c - 4)) (y.drop 4) := by have h3 := L9 hv (i := 4) (by omega); rwa [hA4] at h3
  have hv9 : Ew w (.slice A8 (y.drop 8).length (c - 8)) (y.drop 8) := by have h3 := L9 hv (i := 8) (by omega); rwa [hA8] at h3
  have hs4 : Cu 1 (.slice A y.length c) 4 y.length = .slice A4 (y.drop 4).length (c - 4) := by rw [← hA4, List.length_drop]; exact JG
  have hs9 : Cu 1 (.slice A y.length c) 8 y.length = .slice A8 (y.drop 8).length (c - 8) := by rw [← hA8, List.length_drop]; exact JG
  have hcp := Lb hv
  have hd4 : (y.drop 4).length = y.length - 4 := List.length_drop ..
  have hd8 : (y.drop 8).length = y.length - 8 := List.length_drop ..
  obtain ⟨n, hn⟩ : ∃ n, n4 y 0 = n := ⟨_, rfl⟩
  obtain ⟨m, hm⟩ : ∃ m, n4 (y.drop 4) 0 = m := ⟨_, rfl⟩
  have hn32 : n < 4294967296 := hn ▸ Wy y
  have hm32 : m < 4294967296 := hm ▸ Wy _
  refine Ad (Af Ak rfl (Aa rfl (.int .i64 (y.length : Int)) (fun b w hb hH => Be ((EC hv (Below.refl _ _) (fun _ h => h.elim) hH).rd) Tryz.underlying49 rfl rfl hb) (Aa rfl (.bool false) (fun b w hb hH => A5 rfl rfl rfl (BI (by omega)) hb) (Ab (Au rfl (Av (AC (Ar ?_))))))))
  refine BV 9 2 [⟨.quiet, [none, none], fun _ => .slice A y.length c, []⟩, ⟨.actv 0, [some false, some false], fun _ => .int .u32 (n : Int), [0]⟩, ⟨.quiet, [none, none], fun _ => .slice A y.length c, []⟩, ⟨.quiet, [none, none], fun _ => .slice A4 (y.drop 4).length (c - 4), [2]⟩, ⟨.actv 1, [some true, some false], fun _ => .int .u32 (m : Int), [3]⟩, ⟨.quiet, [none, none], fun _ => .slice A y.length c, []⟩, ⟨.quiet, [none, none], fun _ => .slice A8 (y.drop 8).length (c - 8), [5]⟩, ⟨.quiet, [some true, some true], fun _ => .int .u32 (n : Int), [1]⟩, ⟨.quiet, [some true, some true], fun _ => .int .u32 (m : Int), [4]⟩] [(0, .slice A y.length c), (2, .slice none 0 0), (3, .bool false)] (fun ρ => match ρ with | [r0, r1] => [] | _ => []) (by kernel_rfl) (by kernel_rfl) ⟨rfl, rfl, rfl, trivial⟩ rfl ?_ ?_
  refine Ac (by intro r0_ r1_; exact ⟨rfl, fun b w hH hb => Ah Ak rfl hb⟩) (Ac (by exact ⟨rfl, Bt.su (Bk (Ai Tryz.func194 (by kernel_rfl) rfl) (fun w hH => Wx _ (EC hv (Below.refl _ _) (fun _ h => h.elim) hH) (by omega) hn) rfl rfl rfl) rfl⟩) (Ac (by intro r0_ r1_; exact ⟨rfl, fun b w hH hb => Ah Ak rfl hb⟩) (Ac (by intro r0_ r1_; exact ⟨rfl, fun b w hH hb => FP (i := 4) Bh hs4 (by omega) rfl rfl rfl hH hb⟩) (Ac (by intro v0_; exact ⟨rfl, Bt.su (Bk (Ai Tryz.func194 (by kernel_rfl) rfl) (fun w hH => Wx _ (EC hv4 (Below.refl _ _) (fun _ h => h.elim) hH) (by omega) hm) rfl rfl rfl) rfl⟩) (Ac (by intro r0_ r1_; exact ⟨rfl, fun b w hH hb => Ah Ak rfl hb⟩) (Ac (by intro r0_ r1_; exact ⟨rfl, fun b w hH hb => FP (i := 8) Bh hs9 (by omega) rfl rfl rfl hH hb⟩) (Ac (by intro v0_ v1_; exact ⟨rfl, fun b w hH hb => Ah Ak rfl hb⟩) (Ac (by intro v0_ v1_; exact ⟨rfl, fun b w hH hb => Ah Ak rfl hb⟩) ?_))))))))
  exact B9
  intro v0_ v1_
  refine BU.keep (env' := [(2, .slice none 0 0), (3, .bool false), (17, .slice A8 (y.drop 8).length (c - 8)), (4, .int .u32 (n : Int)), (5, .int .u32 (m : Int))]) ⟨rfl, rfl, rfl, rfl, rfl, trivial⟩ (Af Ak rfl (AG (AC (Ar ?_))))
  have hc : 65536 < n ∨ (n ≤ 65536 ∧ y.length - 8 < n) ∨ (n ≤ 65536 ∧ n ≤ y.length - 8) := by omega
  rcases hc with h1 | ⟨h1, h2⟩ | ⟨h1, h2⟩
  have hno : ¬ (8 ≤ y.length ∧ n4 y 0 ≤ 65536 ∧ n4 y 0 + 8 ≤ y.length) := fun h => by have := h.2.1; omega
  rw [NQ hno, Qy hno]
  refine Ad (Af Ak rfl (Aa rfl (.bool true) (fun b w hb hH => A5 rfl rfl rfl (BD (by omega)) hb) (Af Ak rfl (Ab (AE rfl (Ad (Af Ak rfl (Ab (AB (Ek ?_))))))))))
  exact Co (.tmp rfl) (.tmp rfl) (fun w h => ⟨rfl, Aw h.up⟩) rfl
  have hno : ¬ (8 ≤ y.length ∧ n4 y 0 ≤ 65536 ∧ n4 y 0 + 8 ≤ y.length) := fun h => by have := h.2.2; omega
  rw [NQ hno, Qy hno]
  refine Ad (Af Ak rfl (Aa rfl (.bool false) (fun b w hb hH => A5 rfl rfl rfl (By (by omega)) hb) (Af Ak rfl (Aa rfl (.int .i64 (n : Int)) (fun b w hb hH => Bi Tryz.underlying114 Tryz.underlying3 (IntWalk.i64_in _ (by omega)) rfl rfl hb) (Af Ak rfl (Aa rfl (.int .i64 ((y.drop 8).length : Int)) (fun b w hb hH => Be ((EC hv9 (Below.refl _ _) (fun _ h => h.elim) hH).rd) Tryz.underlying49 rfl rfl hb) (Aa rfl (.bool true) (fun b w hb hH => A5 rfl rfl rfl (BD (by omega)) hb) (Af Ak rfl (Ab (AE rfl (Ad ?_)))))))))))
  refine Af Ak rfl (Ab (AB (Ek ?_)))
  exact Co (.tmp rfl) (.tmp rfl) (fun w h => ⟨rfl, Aw h.up⟩) rfl
  obtain ⟨x, hx⟩ : ∃ x, (y.drop 8).take n = x := ⟨_, rfl⟩
  have hxl : x.length = n := by rw [← hx, List.length_take]; omega
  have hvx : Ew w (.slice A8 x.length (c - 8)) x := by have h3 := (O7 hv9 (k := n) (by omega)); rwa [hx] at h3
  have hsx : Cu 1 (.slice A8 (y.drop 8).length (c - 8)) 0 n = .slice A8 x.length (c - 8) := by rw [hxl]; exact Rm
  have hfst : Qx A c y = .slice A8 x.length (c - 8) := by unfold Qx; rw [if_pos ⟨h8, by omega, by omega⟩, hA8, hn, hxl]
  rw [hfst, VU h8 hn h1 (by omega) hx, hm]
  have hs32 := Kl x
  refine Ad (Af Ak rfl (Aa rfl (.bool false) (fun b w hb hH => A5 rfl rfl rfl (By (by omega)) hb) (Af Ak rfl (Aa rfl (.int .i64 (n : Int)) (fun b w hb hH => Bi Tryz.underlying114 Tryz.underlying3 (IntWalk.i64_in _ (by omega)) rfl rfl hb) (Af Ak rfl (Aa rfl (.int .i64 ((y.drop 8).length : Int)) (fun b w hb hH => Be ((EC hv9 (Below.refl _ _) (fun _ h => h.elim) hH).rd) Tryz.underlying49 rfl rfl hb) (Aa rfl (.bool false) (fun b w hb hH => A5 rfl rfl rfl (By (by omega)) hb) (Af Ak rfl (Ab (Au rfl (Av (AC (Ad ?_)))))))))))))
  refine Af Ak rfl (Aa rfl (.slice A8 x.length (c - 8)) (fun b w hb hH => FQ (j := n) Bh hsx (by omega) rfl rfl rfl hH hb) (Af Ak rfl (Ab ?_)))
  rcases Classical.em (Dd x = m) with hz | hz
  rw [decide_eq_true hz]
  refine Ad (Af Ak rfl (Al (post := fun _ => []) rfl (Bk (Ai Tryz.func144 (by kernel_rfl) rfl) (fun w hH => RC (EC hvx (Below.refl _ _) (fun _ h => h.elim) hH) (by omega)) rfl rfl rfl) ?_)); rintro ⟨⟩
  refine Af Ak rfl (Aa rfl (.bool true) (fun b w hb hH => A5 rfl rfl rfl (Fw (by omega)) hb) (Af Ak rfl (Ab (AB ?_))))
  exact Co (.tmp rfl) (.tmp rfl) (fun w h => ⟨rfl, Aw h.up⟩) rfl
  rw [decide_eq_false hz]
  refine Ad (Af Ak rfl (Al (post := fun _ => []) rfl (Bk (Ai Tryz.func144 (by kernel_rfl) rfl) (fun w hH => RC (EC hvx (Below.refl _ _) (fun _ h => h.elim) hH) (by omega)) rfl rfl rfl) ?_)); rintro ⟨⟩
  refine Af Ak rfl (Aa rfl (.bool false) (fun b w hb hH => A5 rfl rfl rfl (EM (by omega)) hb) (Af Ak rfl (Ab (AB ?_))))
  exact Co (.tmp rfl) (.tmp rfl) (fun w h => ⟨rfl, Aw h.up⟩) rfl
end Go.Proofs.YtjcfimmcogkopaaGreatDoor.Sep
namespace Go.Proofs.YtjcfimmcogkopaaGreatDoor.Sep
open Go.RowKit
open Go.Proofs.YtjcfimmcogkopaaGreatDoor.Mem (Bb Ci Chg Aw)
theorem KL (u : World) {v : Value} {y r : List UInt8} (hv : Ew u v y) (hl : y.length ≤ 140737488351232) (hr : B2 y = r) : ER u Tryz.prog 115 #[v] [] (fun (v : Value) => v) (fun (v : Value) => [Aj 5 1 encB v r]) := by
 refine J4 (args := [v]) 23 Tryz.func115 rfl rfl rfl ?_; intro w rs hU hS
 refine Ad (Af Ak rfl (Ab (Ar ?_)))
 rcases Nat.lt_or_ge 65536 y.length with h0 | h0
 obtain rfl : r = [] := by rw [← hr]; unfold B2; rw [if_neg (by omega)]
 refine Ad (Af Ak rfl (Aa rfl (.int .i64 (y.length : Int)) (fun b w hb hH => Be ((EC hv hU hS hH).rd) Tryz.underlying49 rfl rfl hb) (Aa rfl (.bool true) (fun b w hb hH => A5 rfl rfl rfl (BD (by omega)) hb) (Ab (AE rfl (BK 5 1 encB (Ad (Af Ak rfl (Ab (AB (Ek ?_)))))))))))
 exact AA (.tmp rfl) (fun w h => AH (.slice none 0 0) rfl [0] rfl h El) rfl
 have hc := Kl y
 have hr_ : b4 y.length ++ b4 (Dd y) ++ y = r := by rw [← hr]; unfold B2; rw [if_pos h0]
 refine Ad (Af Ak rfl (Aa rfl (.int .i64 (y.length : Int)) (fun b w hb hH => Be ((EC hv hU hS hH).rd) Tryz.underlying49 rfl rfl hb) (Aa rfl (.bool false) (fun b w hb hH => A5 rfl rfl rfl (By (by omega)) hb) (Ab (Au rfl (Av (AC (Ad (Af Ak rfl (Aa rfl (.int .i64 (y.length : Int)) (fun b w hb hH => Be ((EC hv hU hS hH).rd) Tryz.underlying49 rfl rfl hb) (Aa rfl (.int .i64 ((8 + y.length : Nat) : Int)) (fun b w hb hH => AJ rfl rfl rfl rfl (by rw [IntWalk.i64_in _ (by omega)]; omega) hb) (Al (post := fun f0 => [Aj 5 1 encB f0 ([])]) rfl (O6 Bh (by kernel_rfl) (fun w => by kernel_rfl) (N := (8 + y.length)) ⟨by omega, by omega⟩ rfl rfl rfl) ?_)))))))))))); rintro f0
 refine Af Ak rfl (Ab (Ad (Af Ak rfl (Aa rfl (.int .i64 (y.length : Int)) (fun b w hb hH => Be ((EC hv hU hS hH).rd) Tryz.underlying49 rfl rfl hb) (Aa rfl (.int .u32 (y.length : Int)) (fun b w hb hH => Bi Tryz.underlying3 Tryz.underlying114 (wrap_u32 (by omega)) rfl rfl hb) (Al rfl (As (os' := fun f1 => [Aj 5 1 encB f1 (b4 y.length)]) [0] 0 (Ai Tryz.func143 (by kernel_rfl) rfl) (Gg (l := []) (n := y.length) (r := b4 y.length) (by omega) (by simp) rfl) rfl rfl rfl (fun _ => rfl) rfl rfl rfl) ?_)))))); rintro f1
 refine Af Ak rfl (Ab (Ad (Af Ak rfl (Al (post := fun _ => [Aj 5 1 encB f1 (b4 y.length)]) rfl (Bk (Ai Tryz.func144 (by kernel_rfl) rfl) (fun w hH => RC (EC hv hU hS hH) (by omega)) rfl rfl rfl) ?_)))); rintro ⟨⟩
 refine Al rfl (As (os' := fun f2 => [Aj 5 1 encB f2 (b4 y.length ++ b4 (Dd y))]) [0] 0 (Ai Tryz.func143 (by kernel_rfl) rfl) (Gg (l := b4 y.length) (n := (Dd y)) (r := b4 y.length ++ b4 (Dd y)) (Kl y) (by rw [GX]; omega) rfl) rfl rfl rfl (fun _ => rfl) rfl rfl rfl) ?_; rintro f2
 refine Af Ak rfl (Ab (Ad (Af Ak rfl (Al (post := fun f3 => [Aj 5 1 encB f3 r]) rfl (FE 0 Bh (by kernel_rfl) rfl (y) (fun w hH => (EC hv hU hS hH).rd) (by rw [List.length_append, GX, GX]; omega) rfl rfl rfl hr_) ?_)))); rintro f3
 refine Af Ak rfl (Ab (AB ?_))
 exact AA (.tmp rfl) (fun w h => AH f3 rfl [0] rfl h El) rfl
theorem I8 {X : Ass} {v : Value} {y r : List UInt8} (hX : EN X v y) (hl : y.length ≤ 140737488351232) (hr : B2 y = r) : AV Tryz.prog 115 #[v] [X] (fun (v : Value) => v) (fun (v : Value) => [X, Aj 5 1 encB v r]) := by
 refine Bo (args := [v]) 23 Tryz.func115 rfl rfl rfl ?_; intro w rs
 refine Ad (Af Ak rfl (Ab (Ar ?_)))
 rcases Nat.lt_or_ge 65536 y.length with h0 | h0
 obtain rfl : r = [] := by rw [← hr]; unfold B2; rw [if_neg (by omega)]
 refine Ad (Af Ak rfl (Aa rfl (.int .i64 (y.length : Int)) (fun b w hb hH => Be ((hH.rd8 0 rfl hX).rd) Tryz.underlying49 rfl rfl hb) (Aa rfl (.bool true) (fun b w hb hH => A5 rfl rfl rfl (BD (by omega)) hb) (Ab (AE rfl (BK 5 1 encB (Ad (Af Ak rfl (Ab (AB (Ek ?_)))))))))))
 exact AA (.tmp rfl) (fun w h => AH (.slice none 0 0) rfl [1, 0] rfl h El) rfl
 have hc := Kl y
 have hr_ : b4 y.length ++ b4 (Dd y) ++ y = r := by rw [← hr]; unfold B2; rw [if_pos h0]
 refine Ad (Af Ak rfl (Aa rfl (.int .i64 (y.length : Int)) (fun b w hb hH => Be ((hH.rd8 0 rfl hX).rd) Tryz.underlying49 rfl rfl hb) (Aa rfl (.bool false) (fun b w hb hH => A5 rfl rfl rfl (By (by omega)) hb) (Ab (Au rfl (Av (AC (Ad (Af Ak rfl (Aa rfl (.int .i64 (y.length : Int)) (fun b w hb hH => Be ((hH.rd8 0 rfl hX).rd) Tryz.underlying49 rfl rfl hb) (Aa rfl (.int .i64 ((8 + y.length : Nat) : Int)) (fun b w hb hH => AJ rfl rfl rfl rfl (by rw [IntWalk.i64_in _ (by omega)]; omega) hb) (Al (post := fun f0 => [Aj 5 1 encB f0 ([]), X]) rfl (O6 Bh (by kernel_rfl) (fun w => by kernel_rfl) (N := (8 + y.length)) ⟨by omega, by omega⟩ rfl rfl rfl) ?_)))))))))))); rintro f0
 refine Af Ak rfl (Ab (Ad (Af Ak rfl (Aa rfl (.int .i64 (y.length : Int)) (fun b w hb hH => Be ((hH.rd8 1 rfl hX).rd) Tryz.underlying49 rfl rfl hb) (Aa rfl (.int .u32 (y.length : Int)) (fun b w hb hH => Bi Tryz.underlying3 Tryz.underlying114 (wrap_u32 (by omega)) rfl rfl hb) (Al rfl (As (os' := fun f1 => [Aj 5 1 encB f1 (b4 y.length), X]) [0] 0 (Ai Tryz.func143 (by kernel_rfl) rfl) (Gg (l := []) (n := y.length) (r := b4 y.length) (by omega) (by simp) rfl) rfl rfl rfl (fun _ => rfl) rfl rfl rfl) ?_)))))); rintro f1
 refine Af Ak rfl (Ab (Ad (Af Ak rfl (Al (post := fun _ => [Aj 5 1 encB f1 (b4 y.length), X]) rfl (Bk (Ai Tryz.func144 (by kernel_rfl) rfl) (fun w hH => RC (hH.rd8 1 rfl hX) (by omega)) rfl rfl rfl) ?_)))); rintro ⟨⟩
 refine Al rfl (As (os' := fun f2 => [Aj 5 1 encB f2 (b4 y.length ++ b4 (Dd y)), X]) [0] 0 (Ai Tryz.func143 (by kernel_rfl) rfl) (Gg (l := b4 y.length) (n := (Dd y)) (r := b4 y.length ++ b4 (Dd y)) (Kl y) (by rw [GX]; omega) rfl) rfl rfl rfl (fun _ => rfl) rfl rfl rfl) ?_; rintro f2
 refine Af Ak rfl (Ab (Ad (Af Ak rfl (Al (post := fun f3 => [Aj 5 1 encB f3 r, X]) rfl (FE 0 Bh (by kernel_rfl) rfl (y) (fun w hH => hH.rd 1 rfl hX.rd) (by rw [List.length_append, GX, GX]; omega) rfl rfl rfl hr_) ?_)))); rintro f3
 refine Af Ak rfl (Ab (AB ?_))
 exact AA (.tmp rfl) (fun w h => AH f3 rfl [1, 0] rfl h El) rfl
end Go.Proofs.YtjcfimmcogkopaaGreatDoor.Sep
