/-
  Lit · SgT · SgN · StrR · SgO · SgP
-/
import Derived.Test.YtjcfimmcogkopaaGreatDoorWA02
import Derived.Test.YtjcfimmcogkopaaGreatDoorWA06
import Derived.Test.YtjcfimmcogkopaaGreatDoorWA07
import Derived.Test.YtjcfimmcogkopaaGreatDoorWB01
import Derived.Test.YtjcfimmcogkopaaGreatDoorWB05
import Derived.Test.YtjcfimmcogkopaaGreatDoorWH01
import Derived.Test.YtjcfimmcogkopaaGreatDoorWJ01
import Derived.Test.YtjcfimmcogkopaaGreatDoorChecked
import Derived.Shelf.Strings.Repeat
import Derived.Shelf.Strings.Prefix
import Derived.Lib.ConvBytes
set_option linter.unusedSimpArgs false
set_option linter.unusedVariables false
set_option maxRecDepth 100000
namespace Go.Proofs.YtjcfimmcogkopaaGreatDoor.Sep
open Go.RowKit
open Go.Proofs.YtjcfimmcogkopaaGreatDoor.Mem (Bb Ci Chg Aw)
section lit
variable {P : Program} {e t : TypeId} {l : List UInt8} {v : Value} {B : Nat → Prop} {w0 w w' : World} {os : List Ass} {n : Nat} {env : List (Nat × Value)} {Q : Exit → Act → World → Prop} {o : Oper} {act : Act}
theorem Nf {T T' : TypeId} {x y : Operand} {l m r : List UInt8} (he : l ++ m = r) (hs : l.length + m.length ≤ 9223372036854775807) (ho : o.op = .binOp .add T x y T') (hx : evs env x = some (.string (bs l))) (hy : evs env y = some (.string (bs m))) (hF : Fr n act env) : (execOp act.eval o).run P w = .ok (.value (.string (bs r))) w := he ▸ Tq ho hx hy hs hF
theorem Ng {T T' : TypeId} {x y : Operand} {l m : List UInt8} {c : Bool} (hc : (l != m) = c) (ho : o.op = .binOp .neq T x y T') (hx : evs env x = some (.string (bs l))) (hy : evs env y = some (.string (bs m))) (hF : Fr n act env) : (execOp act.eval o).run P w = .ok (.value (.bool c)) w := by
 unfold execOp
 subst hc
 simp only [ho, hF.evs hx, hF.evs hy]
 simp [eqGuard, binOp, Op.stringOp, Q1, bne]
end lit
end Go.Proofs.YtjcfimmcogkopaaGreatDoor.Sep
namespace Go.Proofs.YtjcfimmcogkopaaGreatDoor.Sep
open Go.RowKit
open Go.Proofs.YtjcfimmcogkopaaGreatDoor.Mem (Bb Ci Chg Aw)
structure Tb where
  C : Array Value
  e : TypeId
  f : Nat × Nat
  h : C[15]? = some (.int .u8 4)
def Ao (tb : Tb) : Ass := fun rs => rs = [(5, none, Hh tb.C tb.e tb.f)]
section
variable {P : Program} {B : Nat → Prop} {w0 w w' : World} {os : List Ass} {n : Nat} {env : List (Nat × Value)} {Q : Exit → Act → World → Prop} {o : Oper} {act : Act} {tb : Tb} {d : Nat}
theorem XX (i : Nat) {T : TypeId} (hO : Dv P T) (hi : os[i]? = some (Ao tb)) {x : Operand} (ho : o.op = .load T x) (hx : evs env x = some (.pointer (some ⟨5, 15, none⟩))) (hH : Hp B w0 w os) (hF : Fr n act env) : (execOp act.eval o).run P w = .ok (.value (.int .u8 4)) w := by
 obtain ⟨rs, hv, hr⟩ := hH.thing i hi
 unfold Ao at hv
 subst hv
 have h1 : w.heap[5]? = some (.cells tb.C tb.e tb.f) := Hi.1 hr.1
 have hc : w.cell? ⟨5, 15, none⟩ = some (.int .u8 4) := by
  unfold World.cell?
  rw [h1]
  exact tb.h
 unfold execOp
 simp [ho, hF.evs hx, Instr.loadAt, Instr.sureAddr, loadVar, Sem.run_bind, hO.1, run_load, hc]
def Pc (T : TypeId) (g : Nat) (l : List UInt8) : Ass := fun rs => l.length = 65 ∧ rs = [(g, Fa T, (l.map vB).toArray)]
theorem Xp {T : TypeId} {g : Nat} {cs : Array Value} (hc : cs = ((List.replicate 65 (0 : UInt8)).map vB).toArray) : ∀ rs, Am [cell g T cs] rs → Pc T g (List.replicate 65 0) rs := fun _ h => ⟨rfl, by subst hc; exact (Am.one' (o := cell g T _) h : _)⟩
theorem RH {T TI : TypeId} {i g : Nat} (hf : Tr P T (i : Int) i) {x y : Operand} (ho : o.op = .indexAddr T x y) (hx : evs env x = some (.pointer (some ⟨g, 0, none⟩))) (hy : evs env y = some (.int .i64 (i : Int))) (hF : Fr n act env) : (execOp act.eval o).run P w = .ok (.value (.pointer (some ⟨g, i, none⟩))) w := by
 have := Ts (w := w) hf ho hx hy hF
 rwa [Nat.zero_add] at this
theorem RI (k : Nat) {T TB : TypeId} {g i : Nat} {l : List UInt8} {b : UInt8} (hO : Dv P TB) (hi : os[k]? = some (Pc T g l)) (hlt : i < 65) {x y : Operand} (hd : o.dst = none) (ho : o.op = .store TB x y) (hx : evs env x = some (.pointer (some ⟨g, i, none⟩))) (hy : evs env y = some (.int .u8 (b.toNat : Int))) : Bt P Q n env B w0 os o (fun _ : Unit => undef) (fun _ => os.set k (Pc T g (l.set i b))) := fun a w hH hF K hK => by
 obtain ⟨rs, ⟨hl, hv⟩, hr⟩ := hH.thing k hi
 subst hv
 have hrow : Dy w g T (l.map vB).toArray := hr.1
 obtain ⟨w', hrs, hR', hM⟩ := Di (P := P) g T [Value.int .u8 (b.toNat : Int)] 0 (l.map vB).toArray w i hrow (by simp; omega) (fun u hu => by rw [List.mem_singleton.1 hu]; rfl)
 have hrun : (execOp a.eval o).run P w = .ok .skip w' := by
  unfold execOp
  have h1 : (Value.int .u8 (b.toNat : Int)).cells = #[Value.int .u8 (b.toNat : Int)] := rfl
  have h2 : (storeCells ⟨g, i, none⟩ [Value.int .u8 (b.toNat : Int)] 0).run P w = .ok () w' := by simpa using hrs
  simp [ho, hF.evs hx, hF.evs hy, Instr.storeAt, Instr.sureAddr, storeVar, hO.2, h1, h2]
 have hR2 : Dy w' g T ((l.set i b).map vB).toArray := by
  have h3 : over? (l.map vB).toArray.toList i [Value.int .u8 (b.toNat : Int)] = (l.set i b).map vB := by
   have h4 : (l.map vB).set i (vB b) = (l.set i b).map vB := by rw [List.map_set]
   rw [← h4]
   unfold over?
   rw [List.set_eq_take_append_cons_drop, if_pos (by simp; omega)]
   simp [vB]
  rw [Nat.add_zero] at hR'
  exact h3 ▸ (show Dy w' g T (over? (l.map vB).toArray.toList i [Value.int .u8 (b.toNat : Int)]).toArray from hR')
 unfold Oper.wp
 rw [hrun, Oper.upon_skip]
 have := hK () w' (hH.turn k hi fun x hx _ _ => ⟨[(g, Fa T, ((l.set i b).map vB).toArray)], ⟨by simpa using hl, rfl⟩, by
  obtain ⟨_, hx⟩ := hx
  subst hx
  refine ⟨hM.weaken fun j _ e => ⟨_, List.mem_singleton.2 rfl, e.symm⟩, ⟨hR2, trivial⟩, ⟨(fun _ h => by cases h), trivial⟩, fun z hz _ => ?_⟩
  rw [List.mem_singleton.1 hz]
  exact ⟨_, List.mem_singleton.2 rfl, rfl⟩⟩)
 rw [hd] at this ⊢
 exact this
theorem VY {T TE : TypeId} {g i : Nat} (hT : P.underlying T = some (.array 65 TE)) (hO : ∀ w, (sizeOf TE).run P w = .ok 1 w) (hlt : i < 65) {x y : Operand} (ho : o.op = .slice T x (some y) none none) (hx : evs env x = some (.pointer (some ⟨g, 0, none⟩))) (hy : evs env y = some (.int .i64 (i : Int))) (hF : Fr n act env) : (execOp act.eval o).run P w = .ok (.value (.slice (some ⟨g, i, none⟩) (65 - i) (65 - i))) w := by
  unfold execOp
  have h1 : ¬ (65 = i) := by omega
  have h2 : (0 : Int) ≤ (i : Int) ∧ (i : Int) ≤ 65 := by omega
  simp [ho, hF.evs hx, hF.evs hy, Instr.sliceAt, Sem.run_bind, run_underlying hT, Instr.sureAddr, Instr.sliceBounds, Instr.sliceBound, asIntOf, h1, h2, hO, Addr.add]
  rw [if_pos (by omega)]
  by_cases h4 : i = 0
  · subst h4; rfl
  · rw [if_neg h4]
theorem VZ {T : TypeId} {g i : Nat} {l m : List UInt8} (k : Nat) (hi : os[k]? = some (Pc T g l)) (hm : l.drop i = m) (hlt : i < 65) (hH : Hp B w0 w os) : Ew w (.slice (some ⟨g, i, none⟩) (65 - i) (65 - i)) m := by
 obtain ⟨rs, ⟨hl, hv⟩, hr⟩ := hH.thing k hi
 subst hv
 have hml : m.length = 65 - i := by rw [← hm, List.length_drop]; omega
 have hrow : Dy w g T (l.map vB).toArray := hr.1
 refine ⟨some ⟨g, i, none⟩, 65 - i, by rw [hml], by omega, by unfold maxLen; omega, fun _ => ⟨g, i, rfl, trivial, fun j b hj => ?_⟩⟩
 rw [hrow.cell]
 subst hm
 rw [List.getElem?_drop] at hj
 show ((l.map vB).toArray)[i + j]? = _
 simp [hj, vB]
 rfl
end
def DQ (k : Nat) : UInt8 := if k < 10 then UInt8.ofNat (48 + k) else UInt8.ofNat (87 + k)
def Cq : Nat → Nat → List UInt8
  | 0, _ => []
  | k + 1, n => DQ (n / 16 ^ k % 16) :: Cq k n
theorem F7 (k n : Nat) : (Cq k n).length = k := by
  induction k with
  | zero => rfl
  | succ k ih => simp [Cq, ih]
theorem Me {k n : Nat} (h : n < 16 ^ k) : ∀ j, Cq (k + j) n = List.replicate j 48 ++ Cq k n
  | 0 => rfl
  | j + 1 => by
    have h1 : n / 16 ^ (k + j) = 0 := Nat.div_eq_of_lt (Nat.lt_of_lt_of_le h (Nat.pow_le_pow_right (by decide) (Nat.le_add_right k j)))
    show DQ (n / 16 ^ (k + j) % 16) :: Cq (k + j) n = _
    rw [h1, Me h j, List.replicate_succ]
    rfl
def nameL (n : Nat) : List UInt8 := 115 :: Cq 15 n
theorem SQ (n : Nat) : (nameL n).length = 16 := by simp [nameL, F7]
theorem RJ {a b : Nat} (ha : a < 16) (hb : b < 16) (h : DQ a = DQ b) : a = b := by
 have key : ∀ a : Fin 16, ∀ b : Fin 16, DQ a.1 = DQ b.1 → a = b := by decide
 have := key ⟨a, ha⟩ ⟨b, hb⟩ h
 exact Fin.mk.inj_iff.1 this
theorem Pd : ∀ {k m n : Nat}, m < 16 ^ k → n < 16 ^ k → Cq k m = Cq k n → m = n
  | 0, m, n, hm, hn, _ => by simp at hm hn; omega
  | k + 1, m, n, hm, hn, h => by
    simp only [Cq, List.cons.injEq] at h
    have h1 := RJ (Nat.mod_lt _ (by decide)) (Nat.mod_lt _ (by decide)) h.1
    have e1 : m / 16 ^ k < 16 := Nat.div_lt_of_lt_mul (by rw [← Nat.pow_succ]; exact hm)
    have e2 : n / 16 ^ k < 16 := Nat.div_lt_of_lt_mul (by rw [← Nat.pow_succ]; exact hn)
    rw [Nat.mod_eq_of_lt e1, Nat.mod_eq_of_lt e2] at h1
    have hD : ∀ {k m : Nat} (q : Nat), Cq k (m % 16 ^ k) = Cq k m := fun {k} {m} _ => by
      have : ∀ j, j ≤ k → Cq j (m % 16 ^ k) = Cq j m := by
        intro j
        induction j with
        | zero => intro _; rfl
        | succ j ih =>
          intro hj
          show DQ ((m % 16 ^ k) / 16 ^ j % 16) :: Cq j (m % 16 ^ k) = DQ (m / 16 ^ j % 16) :: Cq j m
          rw [ih (by omega)]
          congr 2
          obtain ⟨q, rfl⟩ : ∃ q, k = j + 1 + q := ⟨k - (j + 1), by omega⟩
          have h1 : 16 ^ (j + 1 + q) = 16 ^ j * (16 * 16 ^ q) := by rw [Nat.pow_add, Nat.pow_succ, Nat.mul_assoc]
          rw [h1, Nat.mod_mul_right_div_self, Nat.mod_mul_right_mod]
      exact this k (Nat.le_refl _)
    have h3 : m % 16 ^ k = n % 16 ^ k := Pd (Nat.mod_lt _ (Nat.pow_pos (by decide))) (Nat.mod_lt _ (Nat.pow_pos (by decide))) (by rw [hD 0, hD 0]; exact h.2)
    have a1 := Nat.div_add_mod m (16 ^ k)
    have a2 := Nat.div_add_mod n (16 ^ k)
    rw [h1, h3] at a1
    omega
theorem SR {m n : Nat} (hm : m ≤ 72057594037927935) (hn : n ≤ 72057594037927935) (h : nameL m = nameL n) : m = n := by
 have h1 : Cq 15 m = Cq 15 n := by simpa [nameL] using h
 exact Pd (k := 15) (by omega) (by omega) h1
end Go.Proofs.YtjcfimmcogkopaaGreatDoor.Sep
namespace Go.Proofs.YtjcfimmcogkopaaGreatDoor.Sep
open Go.RowKit
open Go.Proofs.YtjcfimmcogkopaaGreatDoor.Mem (Bb Ci Chg Aw)
section
variable {n : Nat} {env : List (Nat × Value)} {o : Oper} {act : Act} {w : World}
theorem QI {T T' : TypeId} {x y : Operand} (ho : o.op = .binOp .shr T x y T') (hx : evs env x = some (.int .u64 4573923408821661840)) (hy : evs env y = some (.int .u64 58)) (hF : Fr n act env) : (execOp act.eval o).run Tryz.prog w = .ok (.value (.int .u64 15)) w := by
 unfold execOp
 simp only [ho, hF.evs hx, hF.evs hy]
 go_simp
theorem XY (w : World) : (Instr.indexAt 252 (.pointer (some ⟨5, 0, none⟩)) (.int .u64 15)).run Tryz.prog w = .ok (.pointer (some ⟨5, 15, none⟩)) w := by kernel_rfl
theorem QJ {x y : Operand} (ho : o.op = .indexAddr 252 x y) (hx : evs env x = some (.pointer (some ⟨5, 0, none⟩))) (hy : evs env y = some (.int .u64 15)) (hF : Fr n act env) : (execOp act.eval o).run Tryz.prog w = .ok (.value (.pointer (some ⟨5, 15, none⟩))) w := by
 unfold execOp
 simp only [ho, hF.evs hx, hF.evs hy, Sem.run_bind, XY w, Result.andThen_ok, Sem.run_pure]
theorem SS {T T' : TypeId} {x y : Operand} {m q : Nat} (hm : m < 18446744073709551616) (hq : m / 16 = q) (ho : o.op = .binOp .shr T x y T') (hx : evs env x = some (.int .u64 (m : Int))) (hy : evs env y = some (.int .u64 4)) (hF : Fr n act env) : (execOp act.eval o).run Tryz.prog w = .ok (.value (.int .u64 (q : Int))) w := by
 subst hq
 unfold execOp
 simp only [ho, hF.evs hx, hF.evs hy]
 go_simp
end
theorem ST (tb : Tb) : AV Tryz.prog 196 #[.int .u64 16] [Ao tb] (fun (_ : Unit) => .int .i64 4) (fun (_ : Unit) => [Ao tb]) := by
 refine Bo (args := [.int .u64 16]) 14 Tryz.func196 rfl rfl rfl ?_; intro w rs
 refine Ad (Af Ae rfl (Ab (Ar (Ad (Af Ae rfl (Aa rfl (.bool false) (fun b w hb hH => A5 rfl rfl rfl (EM (by decide)) hb) (Ab (Au rfl (Av (AC (Ad (Af Ae rfl (Aa rfl (.int .u64 18446744073709551600) (fun b w hb hH => Tl rfl rfl (by decide) hb) (Aa rfl (.int .u64 16) (fun b w hb hH => LH (by decide) rfl rfl rfl hb) (Aa rfl (.int .u64 4573923408821661840) (fun b w hb hH => AJ rfl rfl rfl rfl (by decide) hb) ?_)))))))))))))))
 refine Aa rfl (.int .u64 15) (fun b w hb hH => QI rfl rfl rfl hb) (Aa rfl (.pointer (some ⟨5, 15, none⟩)) (fun b w hb hH => QJ rfl rfl rfl hb) (Aa rfl (.int .u8 4) (fun b w hb hH => XX 0 DZ rfl rfl rfl hH hb) (Aa rfl (.int .i64 4) (fun b w hb hH => Bi Tryz.underlying5 Tryz.underlying3 (IntWalk.i64_in _ (by omega)) rfl rfl hb) (Af Ae rfl (Ab (AB ?_))))))
 exact AA (.tmp rfl) (fun w h => AH () rfl [0] rfl h El) rfl
theorem V0 (tb : Tb) : AV Tryz.prog 178 #[.int .u64 16] [Ao tb] (fun (_ : Unit) => .int .i64 4) (fun (_ : Unit) => [Ao tb]) := by
 refine Bo (args := [.int .u64 16]) 8 Tryz.func178 rfl rfl rfl ?_; intro w rs
 refine Ad (Af Ae rfl (Ab (Ar (Au rfl (Av (AC (Ad (Af Ae rfl (Al rfl (As (os' := fun _ => [Ao tb]) [0] 0 (Ai Tryz.func196 (by kernel_rfl) rfl) (ST tb) rfl rfl rfl (fun _ => rfl) rfl rfl rfl) ?_))))))))); rintro ⟨⟩
 refine Af Ae rfl (Ab (AB ?_))
 exact AA (.tmp rfl) (fun w h => AH () rfl [0] rfl h El) rfl
theorem V1 (w : World)  : Calls Tryz.prog 177 #[.int .i64 16] w fun e w' => e = .returned (.bool true) ∧ Below w.heap.size w w' := by
 refine Gi (args := [.int .i64 16]) 8 Tryz.func177 rfl rfl rfl (Ad (Af Ae rfl (Ab (Ad (Af Ae rfl (Aa rfl (.int .i64 15) (fun b w hb hH => AJ rfl rfl rfl rfl (by decide) hb) (Aa rfl (.int .i64 0) (fun b w hb hH => LH (by decide) rfl rfl rfl hb) (Aa rfl (.bool true) (fun b w hb hH => A5 rfl rfl rfl (Fw (by decide)) hb) (Af Ae rfl (Ab (AB ?_)))))))))))
 exact AA (.tmp rfl) (fun w h => ⟨rfl, Aw h.up⟩) rfl
end Go.Proofs.YtjcfimmcogkopaaGreatDoor.Sep
namespace Go.Proofs.YtjcfimmcogkopaaGreatDoor
open Go.RowKit Go.Shelf
def renRep : Ren := ⟨fun x => if x = 99 then 123 else if x = 105 then 85 else if x = 165 then 124 else if x = 166 then 125 else if x = 169 then 127 else if x = 170 then 126 else if x = 206 then 158 else if x = 212 then 122 else if x = 240 then 159 else if x = 241 then 160 else if x = 263 then 156 else if x = 264 then 157 else if x = 276 then 179 else if x = 277 then 180 else x,
  fun x => if x = 0 then 0 else if x = 3 then 3 else if x = 4 then 4 else if x = 5 then 5 else if x = 9 then 9 else if x = 20 then 20 else if x = 37 then 49 else if x = 46 then 116 else if x = 51 then 114 else if x = 53 then 38 else if x = 70 then 174 else if x = 72 then 176 else if x = 75 then 143 else if x = 80 then 179 else if x = 76 then 177 else if x = 109 then 171 else if x = 127 then 208 else if x = 146 then 204 else if x = 148 then 206 else if x = 164 then 228 else x,
  fun x => x⟩
theorem V2 : Lays.n105 Tryz.prog renRep := {
 mixed := by kernel_rfl
 f99 := by kernel_rfl
 f105 := by kernel_rfl
 f165 := by kernel_rfl
 f166 := by kernel_rfl
 f169 := by kernel_rfl
 f170 := by kernel_rfl
 f206 := by kernel_rfl
 f212 := by kernel_rfl
 f240 := by kernel_rfl
 f241 := by kernel_rfl
 f263 := by kernel_rfl
 f264 := by kernel_rfl
 f276 := by kernel_rfl
 f277 := by kernel_rfl
 t0 := Tryz.underlying0
 a0 := Tryz.isAgg0
 z0 := Tryz.sizeOf0
 v0 := Tryz.zeroValue0
 t3 := Tryz.underlying3
 a3 := Tryz.isAgg3
 z3 := Tryz.sizeOf3
 v3 := Tryz.zeroValue3
 t4 := Tryz.underlying4
 a4 := Tryz.isAgg4
 z4 := Tryz.sizeOf4
 v4 := Tryz.zeroValue4
 t5 := Tryz.underlying5
 a5 := Tryz.isAgg5
 z5 := Tryz.sizeOf5
 v5 := Tryz.zeroValue5
 t9 := Tryz.underlying9
 a9 := Tryz.isAgg9
 z9 := Tryz.sizeOf9
 v9 := Tryz.zeroValue9
 t20 := Tryz.underlying20
 a20 := Tryz.isAgg20
 z20 := Tryz.sizeOf20
 v20 := Tryz.zeroValue20
 t37 := Tryz.underlying49
 a37 := Tryz.isAgg49
 z37 := Tryz.sizeOf49
 v37 := Tryz.zeroValue49
 t46 := Tryz.underlying116
 a46 := Tryz.isAgg116
 z46 := Tryz.sizeOf116
 v46 := Tryz.zeroValue116
 t51 := Tryz.underlying114
 a51 := Tryz.isAgg114
 z51 := Tryz.sizeOf114
 v51 := Tryz.zeroValue114
 t53 := Tryz.underlying38
 a53 := Tryz.isAgg38
 z53 := Tryz.sizeOf38
 v53 := Tryz.zeroValue38
 t70 := Tryz.underlying174
 a70 := Tryz.isAgg174
 z70 := Tryz.sizeOf174
 v70 := Tryz.zeroValue174
 t72 := Tryz.underlying176
 a72 := Tryz.isAgg176
 z72 := Tryz.sizeOf176
 v72 := Tryz.zeroValue176
 t75 := Tryz.underlying143
 a75 := Tryz.isAgg143
 z75 := Tryz.sizeOf143
 v75 := Tryz.zeroValue143
 t76 := Tryz.underlying177
 a76 := Tryz.isAgg177
 z76 := Tryz.sizeOf177
 v76 := Tryz.zeroValue177
 t109 := Tryz.underlying171
 a109 := Tryz.isAgg171
 z109 := Tryz.sizeOf171
 v109 := Tryz.zeroValue171
 t127 := Tryz.underlying208
 a127 := Tryz.isAgg208
 z127 := Tryz.sizeOf208
 v127 := Tryz.zeroValue208
 t146 := Tryz.underlying204
 a146 := Tryz.isAgg204
 z146 := Tryz.sizeOf204
 v146 := Tryz.zeroValue204
 t148 := Tryz.underlying206
 a148 := Tryz.isAgg206
 z148 := Tryz.sizeOf206
 v148 := Tryz.zeroValue206
 t164 := Tryz.underlying228
 a164 := Tryz.isAgg228
 z164 := Tryz.sizeOf228
 v164 := Tryz.zeroValue228 }
def renTrim : Ren := ⟨fun x => if x = 101 then 93 else if x = 206 then 158 else if x = 208 then 133 else x,
  fun x => if x = 3 then 3 else if x = 4 then 4 else if x = 9 then 9 else x,
  fun x => x⟩
theorem UD : Lays.n101 Tryz.prog renTrim := {
 mixed := by kernel_rfl
 f101 := by kernel_rfl
 f206 := by kernel_rfl
 f208 := by kernel_rfl
 t3 := Tryz.underlying3
 a3 := Tryz.isAgg3
 z3 := Tryz.sizeOf3
 v3 := Tryz.zeroValue3
 t4 := Tryz.underlying4
 a4 := Tryz.isAgg4
 z4 := Tryz.sizeOf4
 v4 := Tryz.zeroValue4
 t9 := Tryz.underlying9
 a9 := Tryz.isAgg9
 z9 := Tryz.sizeOf9
 v9 := Tryz.zeroValue9 }
theorem UE : Builder.Extra Tryz.prog renRep := {
 sizeBuilder := by kernel_rfl
 liesBuilder := by kernel_rfl
 t5 := Tryz.underlying5
 a5 := Tryz.isAgg5
 z5 := Tryz.sizeOf5
 v5 := Tryz.zeroValue5
 infoByte := by kernel_rfl
 cellsByte := by kernel_rfl
 sizeByte := by kernel_rfl
 neB5 := by decide }
theorem QK (w : World) (s : ByteArray) (c : Nat) (hc : c ≤ 9223372036854775807) (hlen : s.size * c ≤ 140737488355328) : Calls Tryz.prog 85 #[.string s, .int .i64 (c : Int)] w fun e w' => e = .returned (.string ⟨(Lib.repeatL s.data.toList c).toArray⟩) ∧ Below w.heap.size w w' := Any.strings_Repeat V2 UE s c w hc hlen
theorem Mf (w : World) (s p : ByteArray) : Calls Tryz.prog 93 #[.string s, .string p] w fun e w' => e = .returned (.string ⟨(Lib.trimPrefix s.data.toList p.data.toList).toArray⟩) ∧ Below w.heap.size w w' := To (Any.strings_TrimPrefix UD s p w)
end Go.Proofs.YtjcfimmcogkopaaGreatDoor
namespace Go.Proofs.YtjcfimmcogkopaaGreatDoor.Sep
open Go.RowKit
open Go.Proofs.YtjcfimmcogkopaaGreatDoor.Mem (Bb Ci Chg Aw)
theorem UF {k : Nat} (h : k < 16) : ([48, 49, 50, 51, 52, 53, 54, 55, 56, 57, 97, 98, 99, 100, 101, 102, 103, 104, 105, 106, 107, 108, 109, 110, 111, 112, 113, 114, 115, 116, 117, 118, 119, 120, 121, 122] : List UInt8)[k]? = some (DQ k) := by
 have key : ∀ a : Fin 16, ([48, 49, 50, 51, 52, 53, 54, 55, 56, 57, 97, 98, 99, 100, 101, 102, 103, 104, 105, 106, 107, 108, 109, 110, 111, 112, 113, 114, 115, 116, 117, 118, 119, 120, 121, 122] : List UInt8)[a.1]? = some (DQ a.1) := by decide
 exact key ⟨k, h⟩
theorem XZ {m q : Nat} (hm : m < 18446744073709551616) (hq : m % 16 = q) : bits .and .u64 (m : Int) 15 = (q : Int) := by
 have h := Oq m 15 hm (by decide)
 rw [show ((15 : Nat) : Int) = 15 from rfl] at h
 rw [h, ← hq, show (15 : Nat) = 2 ^ 4 - 1 from rfl, Nat.and_two_pow_sub_one_eq_mod]
theorem Pe {l : List UInt8} {i : Nat} {b : UInt8} (hl : i < l.length) : (l.set i b).drop i = b :: l.drop (i + 1) := by
  rw [List.drop_eq_getElem_cons (by simpa using hl)]
  congr 1
  · simp
  · rw [List.drop_set_of_lt (by omega)]
theorem NU (tb : Tb) {n : Nat} (hn : n ≤ 72057594037927935) : AV Tryz.prog 155 #[.slice none 0 0, .int .u64 (n : Int), .int .i64 16, .bool false, .bool false] [Ao tb] (fun (k : Nat) => .tuple #[.slice none 0 0, .string (bs (Cq k n))]) (fun (k : Nat) => [Ao tb, fact (1 ≤ k ∧ k ≤ 14 ∧ n < 16 ^ k)]) := by
  refine Bo (args := [.slice none 0 0, .int .u64 (n : Int), .int .i64 16, .bool false, .bool false]) 102 Tryz.func155 rfl rfl rfl ?_; intro w rs
  refine Ad (Af Ae rfl (Ab (Ar (Ad (Af Ae rfl (Aa rfl (.bool false) (fun b w hb hH => A5 rfl rfl rfl (BI (by decide)) hb) (Af Ae rfl (Aa rfl (.bool false) (fun b w hb hH => A5 rfl rfl rfl (EM (by decide)) hb) (Af Ae rfl (Aa rfl (.bool false) (fun b w hb hH => A5 rfl rfl rfl (By (by decide)) hb) (Af Ae rfl ?_)))))))))))
  refine Ab (Au rfl (Av (AC (Ad (Af Ae rfl (Al (post := fun g => [cell g 227 #[.int .u8 0, .int .u8 0, .int .u8 0, .int .u8 0, .int .u8 0, .int .u8 0, .int .u8 0, .int .u8 0, .int .u8 0, .int .u8 0, .int .u8 0, .int .u8 0, .int .u8 0, .int .u8 0, .int .u8 0, .int .u8 0, .int .u8 0, .int .u8 0, .int .u8 0, .int .u8 0, .int .u8 0, .int .u8 0, .int .u8 0, .int .u8 0, .int .u8 0, .int .u8 0, .int .u8 0, .int .u8 0, .int .u8 0, .int .u8 0, .int .u8 0, .int .u8 0, .int .u8 0, .int .u8 0, .int .u8 0, .int .u8 0, .int .u8 0, .int .u8 0, .int .u8 0, .int .u8 0, .int .u8 0, .int .u8 0, .int .u8 0, .int .u8 0, .int .u8 0, .int .u8 0, .int .u8 0, .int .u8 0, .int .u8 0, .int .u8 0, .int .u8 0, .int .u8 0, .int .u8 0, .int .u8 0, .int .u8 0, .int .u8 0, .int .u8 0, .int .u8 0, .int .u8 0, .int .u8 0, .int .u8 0, .int .u8 0, .int .u8 0, .int .u8 0, .int .u8 0], Ao tb]) rfl (Cl LK rfl) ?_)))))); rintro g
  refine Ab (Ad (Af Ae rfl (Ab (Ar (Ad (Af Ae rfl (Ab (Au rfl (Av (AC (Ar (Ad (Af Ae rfl (Al (post := fun _ => [cell g 227 #[.int .u8 0, .int .u8 0, .int .u8 0, .int .u8 0, .int .u8 0, .int .u8 0, .int .u8 0, .int .u8 0, .int .u8 0, .int .u8 0, .int .u8 0, .int .u8 0, .int .u8 0, .int .u8 0, .int .u8 0, .int .u8 0, .int .u8 0, .int .u8 0, .int .u8 0, .int .u8 0, .int .u8 0, .int .u8 0, .int .u8 0, .int .u8 0, .int .u8 0, .int .u8 0, .int .u8 0, .int .u8 0, .int .u8 0, .int .u8 0, .int .u8 0, .int .u8 0, .int .u8 0, .int .u8 0, .int .u8 0, .int .u8 0, .int .u8 0, .int .u8 0, .int .u8 0, .int .u8 0, .int .u8 0, .int .u8 0, .int .u8 0, .int .u8 0, .int .u8 0, .int .u8 0, .int .u8 0, .int .u8 0, .int .u8 0, .int .u8 0, .int .u8 0, .int .u8 0, .int .u8 0, .int .u8 0, .int .u8 0, .int .u8 0, .int .u8 0, .int .u8 0, .int .u8 0, .int .u8 0, .int .u8 0, .int .u8 0, .int .u8 0, .int .u8 0, .int .u8 0], Ao tb]) rfl (Bk (Ai Tryz.func177 (by kernel_rfl) rfl) (fun w hH => V1 w) rfl rfl rfl) ?_)))))))))))))); rintro ⟨⟩
  refine Ab (AE rfl (Ad (Af Ae rfl (Aa rfl (.int .u64 16) (fun b w hb hH => Bi Tryz.underlying3 Tryz.underlying116 (IntWalk.u64_in _ (by omega)) rfl rfl hb) (Al rfl (As (os' := fun _ => [cell g 227 #[.int .u8 0, .int .u8 0, .int .u8 0, .int .u8 0, .int .u8 0, .int .u8 0, .int .u8 0, .int .u8 0, .int .u8 0, .int .u8 0, .int .u8 0, .int .u8 0, .int .u8 0, .int .u8 0, .int .u8 0, .int .u8 0, .int .u8 0, .int .u8 0, .int .u8 0, .int .u8 0, .int .u8 0, .int .u8 0, .int .u8 0, .int .u8 0, .int .u8 0, .int .u8 0, .int .u8 0, .int .u8 0, .int .u8 0, .int .u8 0, .int .u8 0, .int .u8 0, .int .u8 0, .int .u8 0, .int .u8 0, .int .u8 0, .int .u8 0, .int .u8 0, .int .u8 0, .int .u8 0, .int .u8 0, .int .u8 0, .int .u8 0, .int .u8 0, .int .u8 0, .int .u8 0, .int .u8 0, .int .u8 0, .int .u8 0, .int .u8 0, .int .u8 0, .int .u8 0, .int .u8 0, .int .u8 0, .int .u8 0, .int .u8 0, .int .u8 0, .int .u8 0, .int .u8 0, .int .u8 0, .int .u8 0, .int .u8 0, .int .u8 0, .int .u8 0, .int .u8 0], Ao tb]) [1] 0 (Ai Tryz.func178 (by kernel_rfl) rfl) (V0 tb) rfl rfl rfl (fun _ => rfl) rfl rfl rfl) ?_))))); rintro ⟨⟩
  refine Aa rfl (.int .u64 4) (fun b w hb hH => Bi Tryz.underlying3 Tryz.underlying116 (IntWalk.u64_in _ (by omega)) rfl rfl hb) (Af Ae rfl (Ab (Ad (Af Ae rfl (Aa rfl (.int .u64 16) (fun b w hb hH => Bi Tryz.underlying3 Tryz.underlying38 (IntWalk.u64_in _ (by omega)) rfl rfl hb) (Af Ae rfl (Ab (Ad (Af Ae rfl (Aa rfl (.int .u64 16) (fun b w hb hH => Bi Tryz.underlying3 Tryz.underlying116 (IntWalk.u64_in _ (by omega)) rfl rfl hb) (Aa rfl (.int .u64 15) (fun b w hb hH => AJ rfl rfl rfl rfl (by decide) hb) ?_)))))))))))
  refine Af Ae rfl (Ab (Ar (AK (Bj [0] rfl (Xp (by kernel_rfl)) rfl (CC (α := Nat × Nat × List UInt8) (fun ⟨k, u, l⟩ => [(0, .slice none 0 0), (1, .int .u64 (u : Int)), (3, .bool false), (4, .bool false), (10, .slice none 0 0), (11, .string (bs ([]))), (12, .pointer (some ⟨g, 0, none⟩)), (13, .int .i64 ((65 - k : Nat) : Int)), (14, .int .u64 4), (15, .int .u64 16), (16, .int .u64 15)]) (fun ⟨k, u, l⟩ => [Pc 227 g l, Ao tb]) (fun ⟨k, u, l⟩ => u = n / 16 ^ k ∧ k ≤ 13 ∧ l.length = 65 ∧ l.drop (65 - k) = Cq k n) (fun ⟨k, u, l⟩ => u) (0, n, List.replicate 65 0) ⟨by simp, by omega, by simp, by simp [Cq]⟩ ⟨rfl, rfl, rfl, rfl, rfl, rfl, rfl, rfl, rfl, rfl, rfl, trivial⟩ rfl ?_)))))
  rintro ⟨k, u, l⟩ hI
  refine AL.at_ (env' := [(0, .slice none 0 0), (1, .int .u64 (u : Int)), (3, .bool false), (4, .bool false), (10, .slice none 0 0), (11, .string (bs ([]))), (12, .pointer (some ⟨g, 0, none⟩)), (13, .int .i64 ((65 - k : Nat) : Int)), (14, .int .u64 4), (15, .int .u64 16), (16, .int .u64 15)]) (rs' := [Pc 227 g l, Ao tb]) ⟨rfl, rfl, rfl, rfl, rfl, rfl, rfl, rfl, rfl, rfl, rfl, trivial⟩ rfl ?_
  have hI1 : u = n / 16 ^ k := hI.1
  have hI2 : k ≤ 13 := hI.2.1
  have hI3 : l.length = 65 := hI.2.2.1
  have hI4 : l.drop (65 - k) = Cq k n := hI.2.2.2
  clear hI
  refine Ar ?_
  rcases Nat.lt_or_ge u 16 with hu16 | hu16
  have hu16 : u < 16 := by omega
  have hul : u < 18446744073709551616 := by omega
  have hnk : n < 16 ^ (k + 1) := by
      rw [Nat.pow_succ, Nat.mul_comm]; exact (Nat.div_lt_iff_lt_mul (Nat.pow_pos (by decide))).1 (hI1 ▸ hu16)
  have hds : (l.set (65 - (k + 1)) (DQ u)).drop (65 - (k + 1)) = Cq (k + 1) n := by
      rw [Pe (by omega), show 65 - (k + 1) + 1 = 65 - k by omega, hI4]
      show _ = DQ (n / 16 ^ k % 16) :: Cq k n
      rw [← hI1, Nat.mod_eq_of_lt hu16]
  refine Ad (Af Ae rfl (Aa rfl (.bool false) (fun b w hb hH => A5 rfl rfl rfl (De (by omega)) hb) (Ab (Au rfl (CJ (Fq (Fq (Bg (AC (Ad (Af Ae rfl (Aa rfl (.int .i64 ((65 - (k + 1) : Nat) : Int)) (fun b w hb hH => AJ rfl rfl rfl rfl (by rw [IntWalk.i64_in _ (by omega)]; omega) hb) (Af Ae rfl (Ab (BB (Af Ae rfl (Aa rfl (.int .u8 ((DQ u).toNat : Int)) (fun b w hb hH => by exact Lm (i := (u)) Tryz.underlying9 (UF hu16) rfl rfl rfl hb) ?_)))))))))))))))))
  refine Aa rfl (.pointer (some ⟨g, (65 - (k + 1)), none⟩)) (fun b w hb hH => RH (TI := 0) (HU _ (by omega)) rfl rfl rfl hb) (AR (post := fun _ => [Pc 227 g (l.set (65 - (k + 1)) (DQ u)), Ao tb]) rfl rfl (RI 0 (b := DQ u) DZ rfl (by omega) rfl rfl rfl rfl) ?_); rintro ⟨⟩
  refine AG (AC (Ar (Ad (Af Ae rfl (Ab (Au rfl (Av (AC (Ar (Ad (Af Ae rfl (Ab (Au rfl (Av (AC (Ad (Af Ae rfl (Aa rfl (.slice (some ⟨g, 65 - (k + 1), none⟩) (65 - (65 - (k + 1))) (65 - (65 - (k + 1)))) (fun b w hb hH => VY Tryz.underlying227 DZ.2 (by omega) rfl rfl rfl hb) (Aa rfl (.string (bs (Cq (k + 1) n))) (fun b w hb hH => Kb Tryz.underlying49 Tryz.underlying5 (by kernel_rfl) Tryz.underlying9 (VZ 0 rfl hds (by omega) hH) rfl rfl hb) (Af Ae rfl (Ab (AB ?_))))))))))))))))))))))
  exact Co (.tmp rfl) (.tmp rfl) (fun w h => AH (k + 1) rfl [1] rfl h (fun z hz => ⟨z, .refl _, D1 (xs := [Ao tb]) ⟨by omega, by omega, hnk⟩ hz⟩)) rfl
  have hk : k + 1 ≤ 13 := by
      rcases Nat.lt_or_ge 13 (k + 1) with hc | hc
      · exfalso
        have h1 : 16 ^ 14 ≤ 16 ^ (k + 1) := Nat.pow_le_pow_right (by decide) (by omega)
        have h2 : n / 16 ^ k < 16 := Nat.div_lt_of_lt_mul (by rw [← Nat.pow_succ]; omega)
        omega
      · exact hc
  obtain ⟨q, hq⟩ : ∃ q, u % 16 = q := ⟨_, rfl⟩
  obtain ⟨u1, hu1⟩ : ∃ u1, u / 16 = u1 := ⟨_, rfl⟩
  have hul : u < 18446744073709551616 := by rw [hI1]; exact Nat.lt_of_le_of_lt (Nat.div_le_self _ _) (by omega)
  have hq16 : q < 16 := by omega
  have hn16 : n / 16 ^ (k + 1) = u1 := by rw [Nat.pow_succ, ← Nat.div_div_eq_div_mul, ← hI1, hu1]
  have hds : (l.set (65 - (k + 1)) (DQ q)).drop (65 - (k + 1)) = Cq (k + 1) n := by
      rw [Pe (by omega), show 65 - (k + 1) + 1 = 65 - k by omega, hI4]
      show _ = DQ (n / 16 ^ k % 16) :: Cq k n
      rw [← hI1, hq]
  have hll : (l.set (65 - (k + 1)) (DQ q)).length = 65 := by simpa using hI3
  refine Ad (Af Ae rfl (Aa rfl (.bool true) (fun b w hb hH => A5 rfl rfl rfl (Cb (by omega)) hb) (Ab (AE rfl (Av (AC (AK (Ad (Af Ae rfl (Aa rfl (.int .i64 ((65 - (k + 1) : Nat) : Int)) (fun b w hb hH => AJ rfl rfl rfl rfl (by rw [IntWalk.i64_in _ (by omega)]; omega) hb) (Af Ae rfl (Ab (Ad (Af Ae rfl (Aa rfl (.int .u64 (q : Int)) (fun b w hb hH => LH (XZ hul hq) rfl rfl rfl hb) ?_)))))))))))))))
  refine Aa rfl (.int .u8 ((DQ q).toNat : Int)) (fun b w hb hH => by exact Lm (i := (q)) Tryz.underlying9 (UF hq16) rfl rfl rfl hb) (Aa rfl (.pointer (some ⟨g, (65 - (k + 1)), none⟩)) (fun b w hb hH => RH (TI := 0) (HU _ (by omega)) rfl rfl rfl hb) (AR (post := fun _ => [Pc 227 g (l.set (65 - (k + 1)) (DQ q)), Ao tb]) rfl rfl (RI 0 (b := DQ q) DZ rfl (by omega) rfl rfl rfl rfl) ?_)); rintro ⟨⟩
  refine Ab (BB (Af Ae rfl (Aa rfl (.int .u64 (u1 : Int)) (fun b w hb hH => SS hul hu1 rfl rfl rfl hb) (Af Ae rfl (AG (A6 ?_))))))
  exact B6 (k + 1, u1, l.set (65 - (k + 1)) (DQ q)) 0 ⟨hn16.symm, by omega, hll, hds⟩ (show u1 < u by omega) ⟨rfl, rfl, rfl, rfl, rfl, rfl, rfl, rfl, rfl, rfl, rfl, trivial⟩ rfl
theorem Pf (tb : Tb) {n : Nat} (hn : n ≤ 72057594037927935) : AV Tryz.prog 121 #[.int .u64 (n : Int), .int .i64 16] [Ao tb] (fun (k : Nat) => .string (bs (Cq k n))) (fun (k : Nat) => [Ao tb, fact (1 ≤ k ∧ k ≤ 14 ∧ n < 16 ^ k)]) := by
 refine Bo (args := [.int .u64 (n : Int), .int .i64 16]) 32 Tryz.func121 rfl rfl rfl ?_; intro w rs
 refine Ad (Af Ae rfl (Ab (Ar (Ad (Af Ae rfl (Aa rfl (.bool false) (fun b w hb hH => A5 rfl rfl rfl (EM (by decide)) hb) (Ab (Au rfl (Av (AC (Ad (Af Ae rfl (Al rfl (As (os' := fun k => [fact (1 ≤ k ∧ k ≤ 14 ∧ n < 16 ^ k), Ao tb]) [0] 0 (Ai Tryz.func155 (by kernel_rfl) rfl) (NU tb hn) rfl rfl rfl (fun _ => rfl) rfl rfl rfl) ?_))))))))))))); rintro k
 refine Af Ae rfl (Ab (Ad (Af Ae rfl (Ab (AB ?_)))))
 exact AA (.tmp rfl) (fun w h => AH k rfl [1, 0] rfl h El) rfl
theorem QL (tb : Tb) {n : Nat} (hn : n ≤ 72057594037927935) : AV Tryz.prog 84 #[.int .u64 (n : Int), .int .i64 16] [Ao tb] (fun (k : Nat) => .string (bs (Cq k n))) (fun (k : Nat) => [Ao tb, fact (1 ≤ k ∧ k ≤ 14 ∧ n < 16 ^ k)]) := by
 refine Bo (args := [.int .u64 (n : Int), .int .i64 16]) 8 Tryz.func84 rfl rfl rfl ?_; intro w rs
 refine Ad (Af Ae rfl (Ab (Ad (Af Ae rfl (Al rfl (As (os' := fun k => [fact (1 ≤ k ∧ k ≤ 14 ∧ n < 16 ^ k), Ao tb]) [0] 0 (Ai Tryz.func121 (by kernel_rfl) rfl) (Pf tb hn) rfl rfl rfl (fun _ => rfl) rfl rfl rfl) ?_))))); rintro k
 refine Af Ae rfl (Ab (AB ?_))
 exact AA (.tmp rfl) (fun w h => AH k rfl [1, 0] rfl h El) rfl
theorem UG (w : World) {m : Nat} (hm : m ≤ 15) : Calls Tryz.prog 85 #[.string (bs [48]), .int .i64 (m : Int)] w fun e w' => e = .returned (.string (bs (List.replicate m 48))) ∧ Below w.heap.size w w' := by
  have h := QK w (bs [48]) m (by omega) (by rw [show (bs [48]).size = 1 from rfl]; omega)
  refine h.mono ?_
  rintro e w' ⟨rfl, hb⟩
  refine ⟨?_, hb⟩
  have : ∀ m, Lib.repeatL [48] m = List.replicate m (48 : UInt8) := by
    intro m
    induction m with
    | zero => rfl
    | succ m ih => rw [List.replicate_succ, ← ih]; rfl
  rw [show (bs [48]).data.toList = [48] from rfl, this]
  rfl
theorem V3 {k n : Nat} (hk : 1 ≤ k ∧ k ≤ 14 ∧ n < 16 ^ k) : ([115] ++ List.replicate (15 - k) 48) ++ Cq k n = nameL n := by
 have h := Me (k := k) (n := n) hk.2.2 (15 - k)
 rw [show k + (15 - k) = 15 by omega] at h
 unfold nameL
 rw [h]
 simp
theorem C7 (tb : Tb) {n : Nat} (hn : n ≤ 72057594037927935) : AV Tryz.prog 29 #[.int .u64 (n : Int)] [Ao tb] (fun (_ : Unit) => .string (bs (nameL n))) (fun (_ : Unit) => [Ao tb]) := by
 refine Bo (args := [.int .u64 (n : Int)]) 15 Tryz.func29 rfl rfl rfl ?_; intro w rs
 refine Ad (Af Ae rfl (Ab (Ar (Ad (Af Ae rfl (Aa rfl (.bool false) (fun b w hb hH => A5 rfl rfl rfl (By (by omega)) hb) (Ab (Au rfl (Av (AC (Ad (Af Ae rfl (Al rfl (As (os' := fun k => [fact (1 ≤ k ∧ k ≤ 14 ∧ n < 16 ^ k), Ao tb]) [0] 0 (Ai Tryz.func84 (by kernel_rfl) rfl) (QL tb hn) rfl rfl rfl (fun _ => rfl) rfl rfl rfl) ?_))))))))))))); rintro k
 refine BU.fact 0 rfl (fun _ h => h.2) ?_; rintro hk
 refine BU.leave [0] rfl rfl (Af Ae rfl (Ab (Ad (Af Ae rfl (Aa rfl (.int .i64 ((Cq k n).length : Int)) (fun b w hb hH => CH rfl rfl (fun cs => (fun w cs => EV Tryz.underlying9 _ _ w cs) w cs) hb) (Aa rfl (.int .i64 ((15 - k : Nat) : Int)) (fun b w hb hH => AJ rfl rfl rfl rfl (by rw [F7, IntWalk.i64_in _ (by omega)]; omega) hb) (Al (post := fun _ => [Ao tb]) rfl (Bk (Ai Tryz.func85 (by kernel_rfl) rfl) (fun w hH => UG w (by omega)) rfl rfl rfl) ?_))))))); rintro ⟨⟩
 refine Aa rfl (.string (bs (([115]) ++ (List.replicate (15 - k) 48)))) (fun b w hb hH => Nf (r := ([115]) ++ (List.replicate (15 - k) 48)) rfl (by simp; omega) rfl rfl rfl hb) (Af Ae rfl (Aa rfl (.string (bs (nameL n))) (fun b w hb hH => Nf (r := nameL n) (V3 hk) (by simp only [List.length_append, List.length_cons, List.length_nil, List.length_replicate, F7]; omega) rfl rfl rfl hb) (Af Ae rfl (Ab (AB ?_)))))
 exact AA (.tmp rfl) (fun w h => AH () rfl [0] rfl h El) rfl
end Go.Proofs.YtjcfimmcogkopaaGreatDoor.Sep
namespace Go.Proofs.YtjcfimmcogkopaaGreatDoor.Sep
open Go.RowKit
open Go.Proofs.YtjcfimmcogkopaaGreatDoor.Mem (Bb Ci Chg Aw)
def NV (e : TypeId) (g : Nat) (l : List UInt8) : Ass := fun rs => ∃ cs f, (∀ (j : Nat) (b : UInt8), l[j]? = some b → cs[j]? = some (vB b)) ∧ rs = [(g, none, Hh cs e f)]
section
variable {P : Program} {B : Nat → Prop} {w0 w : World} {os : List Ass} {n : Nat} {env : List (Nat × Value)} {Q : Exit → Act → World → Prop} {o : Oper} {act : Act}
theorem SU {src dst e : TypeId} {u : TypeDesc} {l : List UInt8} (hs : P.underlying src = some u) (hd : P.underlying dst = some (.slice e)) (he : P.underlying e = some (.int .u8)) {x : Operand} (ho : o.op = .convert src dst x) (hx : evs env x = some (.string (bs l))) :
    Bt P Q n env B w0 os o (fun x : Nat × Nat => .slice (some ⟨x.1, 0, none⟩) l.length x.2) (fun x => NV e x.1 l :: os) := fun act w hH hF K hK => by
  have hrun : (execOp act.eval o).run P w = .ok (.value (.slice (some ⟨w.heap.size, 0, none⟩) l.length (grownCap w l.length 0 e))) (Lib.bytesWorld w e (bs l)) := by
    unfold execOp
    have := Lib.run_convert_string_bytes (P := P) w src dst e (bs l) hs hd he
    have hsz : (bs l).size = l.length := by simp [bs, ByteArray.size]
    simp only [ho, hF.evs hx, Sem.run_bind, this, Result.andThen_ok, Sem.run_pure, hsz]
  have hH2 : Hp B w0 (Lib.bytesWorld w e (bs l)) (NV e w.heap.size l :: os) := by
    have hb : Below w.heap.size w (Lib.bytesWorld w e (bs l)) := ⟨rfl, rfl, rfl, by rw [Lib.bytesWorld_size]; omega, fun j hj => Lib.bytesWorld_at_old w e _ j hj⟩
    obtain ⟨rs, h1, h0⟩ := hH
    have h2 := h0.call hb
    have hnew := Lib.bytesWorld_at_new w e (bs l)
    refine ⟨(w.heap.size, none, Hh (Lib.bytesCells w e (bs l)) e ((Lib.bytesCells w e (bs l)).size, (Lib.bytesCells w e (bs l)).size + 1)) :: rs, ⟨[_], rs, rfl, ⟨_, _, fun j b hj => ?_, rfl⟩, h1⟩, h2.up, ⟨Hi.2 hnew, h2.rows⟩, ⟨fun y hy e1 => ?_, h2.apart⟩, fun x hx hlt => ?_⟩
    · have hjl := (List.getElem?_eq_some_iff.1 hj).1
      have hsz : (bs l).size = l.length := by simp [bs, ByteArray.size]
      have hc := Lib.bytesWorld_cell w e (bs l) j (by rw [hsz]; exact hjl)
      unfold World.cell? at hc
      rw [hnew] at hc
      have h3 : (Lib.bytesCells w e (bs l))[j]? = some (.int .u8 (((bs l).data.toList.getD j 0).toNat : Int)) := hc
      rw [h3]
      have h4 : (bs l).data.toList.getD j 0 = b := by
        show l.toArray.toList.getD j 0 = b
        simp [hj]
      rw [h4]; rfl
    · have h5 := (h0.rows.mem y hy).lt
      have e2 : y.1 = w.heap.size := e1
      omega
    · rcases List.mem_cons.1 hx with rfl | hx
      · have := h0.up.size; exact absurd hlt (by show ¬ w.heap.size < w0.heap.size; omega)
      · exact h2.own x hx hlt
  exact FN (w0 := w) act hrun (hK (w.heap.size, _) _ hH2)
theorem RK {T e : TypeId} {g j m c : Nat} (hT : SliceT P T e 1) (hj : j < m) {x y : Operand} (ho : o.op = .indexAddr T x y) (hx : evs env x = some (.slice (some ⟨g, 0, none⟩) m c)) (hy : evs env y = some (.int .i64 (j : Int))) (hF : Fr n act env) : (execOp act.eval o).run P w = .ok (.value (.pointer (some ⟨g, j, none⟩))) w := by
 have hs : (sizeOf e).run P w = .ok 1 w := hT.sizeOf w
 have hlt : (0 : Int) ≤ (j : Int) ∧ (j : Int) < (m : Int) := by omega
 unfold execOp
 simp only [ho, hF.evs hx, hF.evs hy, Instr.indexAt, asIntOf, Sem.run_bind, Sem.run_pure, Result.andThen_ok, run_underlying hT.ht w]
 simp [hlt, hs, Addr.add_lit, hj]
theorem SV (i : Nat) {T e : TypeId} {g j : Nat} {b : UInt8} {l : List UInt8} (hO : Dv P T) (hi : os[i]? = some (NV e g l)) (hj : l[j]? = some b) {x : Operand} (ho : o.op = .load T x) (hx : evs env x = some (.pointer (some ⟨g, j, none⟩))) (hH : Hp B w0 w os) (hF : Fr n act env) : (execOp act.eval o).run P w = .ok (.value (.int .u8 (b.toNat : Int))) w := by
 obtain ⟨rs, ⟨cs, f, hv, e1⟩, hr⟩ := hH.thing i hi
 subst e1
 have h1 : w.heap[g]? = some (.cells cs e f) := Hi.1 hr.1
 have hc : w.cell? ⟨g, j, none⟩ = some (.int .u8 (b.toNat : Int)) := by
  unfold World.cell?
  rw [h1]
  exact hv j b hj
 unfold execOp
 simp [ho, hF.evs hx, Instr.loadAt, Instr.sureAddr, loadVar, Sem.run_bind, hO.1, run_load, hc]
theorem Mg (i : Nat) {T e : TypeId} {g j : Nat} {b : UInt8} {c : Int} {l : List UInt8} (hO : Dv P T) (hi : os[i]? = some (NV e g l)) (hj : l[j]? = some b) (hc : (b.toNat : Int) = c) {x : Operand} (ho : o.op = .load T x) (hx : evs env x = some (.pointer (some ⟨g, j, none⟩))) (hH : Hp B w0 w os) (hF : Fr n act env) : (execOp act.eval o).run P w = .ok (.value (.int .u8 c)) w := hc ▸ SV i hO hi hj ho hx hH hF
end
end Go.Proofs.YtjcfimmcogkopaaGreatDoor.Sep
