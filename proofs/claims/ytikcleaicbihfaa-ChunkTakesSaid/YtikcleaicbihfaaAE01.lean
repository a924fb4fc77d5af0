/-
  TyC · TyT · Fnv · Beh · ChkM
-/
import Derived.Test.YtikcleaicbihfaaAD03
import Derived.Test.YtikcleaicbihfaaAD04
import Derived.Test.YtikcleaicbihfaaAD05
import Derived.Test.YtikcleaicbihfaaChecked
import Derived.TacticsIn
import Derived.RangeFuncIn
import Derived.RangeFuncRecord
import Derived.RangeFuncLeaves
import Derived.RangeFuncNested
import Derived.OrdersIn
set_option linter.unusedSimpArgs false
set_option linter.unusedVariables false

namespace Go.Proofs.Ytikcleaicbihfaa.Sep
open Go.RowKit
open Go.Proofs.Ytikcleaicbihfaa.Mem (Dist Blk Chg below0)
theorem ty_s_uint8 : OneOf Try.prog 22 := oneOf Try.underlying22 rfl (by kernel_rfl)
theorem ty_api_Base : AggOf Try.prog 31 3 := aggOf Try.underlying31 rfl (by kernel_rfl)
theorem ze_api_Base : Zero Try.prog 31 #[.int .u64 0, .int .u64 0, .int .i64 0] := zero_of (z := .agg #[.int .u64 0, .int .u64 0, .int .i64 0]) (by kernel_rfl) rfl
theorem ty_bool : OneOf Try.prog 4 := oneOf Try.underlying4 rfl (by kernel_rfl)
theorem ty_bursarlaw16_Step : AggOf Try.prog 44 6 := aggOf Try.underlying44 rfl (by kernel_rfl)
theorem ze_bursarlaw16_Step : Zero Try.prog 44 #[.int .u64 0, .int .i64 0, .slice none 0 0, .bool false, .bool false, .int .i64 0] := zero_of (z := .agg #[.int .u64 0, .int .i64 0, .slice none 0 0, .bool false, .bool false, .int .i64 0]) (by kernel_rfl) rfl
theorem ty_bursarref15_Taker : AggOf Try.prog 42 4 := aggOf Try.underlying42 rfl (by kernel_rfl)
theorem ty_chunk_Taker : AggOf Try.prog 50 4 := aggOf Try.underlying50 rfl (by kernel_rfl)
theorem ty_int : OneOf Try.prog 3 := oneOf Try.underlying3 rfl (by kernel_rfl)
theorem ty_uint64 : OneOf Try.prog 29 := oneOf Try.underlying29 rfl (by kernel_rfl)
theorem ty_uint8 : OneOf Try.prog 5 := oneOf Try.underlying5 rfl (by kernel_rfl)
theorem fd_api_Base_0 : FieldAt Try.prog 31 0 0 := fun g off w => by kernel_rfl
theorem fd_api_Base_1 : FieldAt Try.prog 31 1 1 := fun g off w => by kernel_rfl
theorem fd_api_Base_2 : FieldAt Try.prog 31 2 2 := fun g off w => by kernel_rfl
theorem fd_bursarlaw16_Step_0 : FieldAt Try.prog 44 0 0 := fun g off w => by kernel_rfl
theorem fd_bursarlaw16_Step_1 : FieldAt Try.prog 44 1 1 := fun g off w => by kernel_rfl
theorem fd_bursarlaw16_Step_2 : FieldAt Try.prog 44 2 2 := fun g off w => by kernel_rfl
theorem fd_bursarlaw16_Step_3 : FieldAt Try.prog 44 3 3 := fun g off w => by kernel_rfl
theorem fd_bursarlaw16_Step_4 : FieldAt Try.prog 44 4 4 := fun g off w => by kernel_rfl
theorem fd_bursarlaw16_Step_5 : FieldAt Try.prog 44 5 5 := fun g off w => by kernel_rfl
theorem fd_bursarref15_Taker_0 : FieldAt Try.prog 42 0 0 := fun g off w => by kernel_rfl
theorem fd_bursarref15_Taker_1 : FieldAt Try.prog 42 1 3 := fun g off w => by kernel_rfl
theorem fd_chunk_Taker_0 : FieldAt Try.prog 50 0 0 := fun g off w => by kernel_rfl
theorem fd_chunk_Taker_1 : FieldAt Try.prog 50 1 3 := fun g off w => by kernel_rfl
theorem sl_bursarlaw16_Step : SliceT Try.prog 39 44 6 := sliceT_of (z := .agg #[.int .u64 0, .int .i64 0, .slice none 0 0, .bool false, .bool false, .int .i64 0]) Try.underlying39 (by kernel_rfl) rfl rfl (by decide)
theorem sl_uint8 : SliceT Try.prog 22 5 1 := sliceT_of (z := .int .u8 0) Try.underlying22 (by kernel_rfl) rfl rfl (by decide)
def flS : List ((Nat × Nat) × Nat) := [((31, 0), 0), ((31, 1), 1), ((31, 2), 2), ((44, 0), 0), ((44, 1), 1), ((44, 2), 2), ((44, 3), 3), ((44, 4), 4), ((44, 5), 5), ((42, 0), 0), ((42, 1), 3), ((50, 0), 0), ((50, 1), 3)]
theorem hflS : Flds Try.prog flS := flds_of ⟨fd_api_Base_0, fd_api_Base_1, fd_api_Base_2, fd_bursarlaw16_Step_0, fd_bursarlaw16_Step_1, fd_bursarlaw16_Step_2, fd_bursarlaw16_Step_3, fd_bursarlaw16_Step_4, fd_bursarlaw16_Step_5, fd_bursarref15_Taker_0, fd_bursarref15_Taker_1, fd_chunk_Taker_0, fd_chunk_Taker_1, trivial⟩

theorem neB (b c : Bool) : NeAt Try.prog 4 (.bool b) (.bool c) (b != c) := fun x y w => by
  cases b <;> cases c <;> go_simp
theorem neB_same (b : Bool) : NeAt Try.prog 4 (.bool b) (.bool b) false := by
  have h := neB b b
  rwa [show (b != b) = false by simp] at h
end Go.Proofs.Ytikcleaicbihfaa.Sep

namespace Go.Proofs.Ytikcleaicbihfaa.Sep
open Go.RowKit
open Go.Proofs.Ytikcleaicbihfaa.Mem (Dist Blk Chg below0)
end Go.Proofs.Ytikcleaicbihfaa.Sep

namespace Go.Proofs.Ytikcleaicbihfaa.Sep
open Go.RowKit
open Go.Proofs.Ytikcleaicbihfaa.Mem (Dist Blk Chg below0)

/-! ## A loop's record -/
def recT (L : Nat) (r : Loop) : Ass := fun rs => rs = [(L, some (.loop r), #[])]
section
variable {B : Nat → Prop} {w0 w w' : World} {os os' : List Ass} {L : Nat} {r r' : Loop} {rs : List RowT}
theorem recT.at_ (h : recT L r rs) (hr : RowsOf w rs) : w.heap[L]? = some (.loop r) := by
  unfold recT at h
  subst h
  exact hr.1
theorem Hp.left (h : Hp B w0 w (os' ++ os)) : Hp B w0 w os := by
  have := h.drop os'.length
  rwa [List.drop_left] at this
end

/-! ## A function value, called -/
/-- what comes of calling the function value f -/
def CallsV (P : Program) (f : Value) (vs : List Value) (w : World) (R : Ending → World → Prop) : Prop :=
  (∃ F caps, f = .func (.func F) #[] (List.toArray caps) ∧ Ent P F ∧ Calls P F (vs ++ caps).toArray w R) ∨
  ∃ L r, f = .func (.yield L) #[] #[] ∧ w.heap[L]? = some (.loop r) ∧ vs.length = r.params.size ∧ RoundIn Fence.wide 0 P L r.fn ((r.params.zip vs.toArray).foldl (fun tmps (t, a) => tmps.setIfInBounds t a) r.tmps) r.assign r.body w R
theorem CallsV.mono {P : Program} {f : Value} {vs : List Value} {w : World} {R R' : Ending → World → Prop} (h : CallsV P f vs w R) (hr : ∀ e w', R e w' → R' e w') : CallsV P f vs w R' :=
  h.imp (fun ⟨F, caps, h1, h2, h3⟩ => ⟨F, caps, h1, h2, h3.mono hr⟩) (fun ⟨L, r, h1, h2, h3, h4⟩ => ⟨L, r, h1, h2, h3, h4.mono hr⟩)
def DoesF {X : Type} (P : Program) (f : Value) (vs : List Value) (pre : List Ass) (val : X → Value) (post : X → List Ass) : Prop :=
  ∀ w rs, Parts pre rs → RowsOf w rs → Dist rs → CallsV P f vs w fun e w' => ∃ x, e = .returned (val x) ∧ ∃ rs', Parts (post x) rs' ∧ Chg w w' rs rs'
theorem DoesF.imp {X : Type} {P : Program} {f : Value} {vs : List Value} {pre pre' : List Ass} {val : X → Value} {post : X → List Ass} (h : DoesF P f vs pre val post) (hi : ∀ rs, Parts pre' rs → ∃ rs', rs.Perm rs' ∧ Parts pre rs') : DoesF P f vs pre' val post := fun w rs h1 h2 h3 => by
  obtain ⟨rs', p, h4⟩ := hi rs h1
  refine (h w rs' h4 (rows_iff.2 fun z hz => h2.mem z (p.mem_iff.2 hz)) (dist_iff.2 ((p.map _).nodup_iff.1 (dist_iff.1 h3)))).mono ?_
  rintro e w' ⟨x, he, y, hy, hc⟩
  exact ⟨x, he, y, hy, chg_perm hc p.symm⟩
theorem DoesF.to {X Y : Type} {P : Program} {f : Value} {vs : List Value} {pre : List Ass} {val : X → Value} {post : X → List Ass} {val' : Y → Value} {post' : Y → List Ass} (h : DoesF P f vs pre val post) (hi : ∀ x, ∃ y, val x = val' y ∧ ∀ rs, Parts (post x) rs → ∃ rs', rs.Perm rs' ∧ Parts (post' y) rs') : DoesF P f vs pre val' post' := fun w rs h1 h2 h3 => by
  refine (h w rs h1 h2 h3).mono ?_
  rintro e w' ⟨x, he, y, hy, hc⟩
  obtain ⟨x', h4, h5⟩ := hi x
  obtain ⟨rs', p, h6⟩ := h5 y hy
  exact ⟨x', by rw [he, h4], rs', h6, chg_perm' hc p⟩
theorem DoesF.frame {X : Type} {P : Program} {f : Value} {vs : List Value} {pre more : List Ass} {val : X → Value} {post : X → List Ass} (h : DoesF P f vs pre val post) : DoesF P f vs (pre ++ more) val (fun x => post x ++ more) := fun w rs h1 h2 h3 => by
  obtain ⟨a, b, e, ha, hb⟩ := h1.split
  subst e
  have hd := dist_iff.1 h3
  rw [List.map_append] at hd
  have hh : Mem.Hp (Blk (a ++ b)) w w (a ++ b) := Mem.Hp.given h2 h3
  refine (h w a ha (rows_iff.2 fun z hz => h2.mem z (by simp [hz])) (dist_iff.2 (List.nodup_append.1 hd).1)).mono ?_
  rintro e w' ⟨x, he, y, hy, hc⟩
  have := hp_chg hh hc
  exact ⟨x, he, y ++ b, hy.app hb, this.up, this.rows, this.apart, fun z hz hlt => this.own z hz hlt⟩

/-! ## Fences: a function's frame, a round's frame -/
def GF (F : Fence) : Prop := F = Fence.wide ∨ ∃ L, F = Fence.wide.inRound L
section
variable {P : Program} {ops : Array Oper} {Q : Exit → Act → World → Prop} {a : Act} {w : World} {o : Oper} {F : Fence} {n d : Nat} {env : List (Nat × Value)}
theorem exec_yield {act : Act} {L : Nat} {r : Loop} {f : Operand} {args : Array Operand} {ats : Array TypeId} {vs : List Value} (hr : w.heap[L]? = some (.loop r)) (hs : vs.length = r.params.size) (ho : o.op = .call { callee := .value f, args := args, argTypes := ats }) (hf : evs env f = some (.func (.yield L) #[] #[])) (hx : evl env args.toList = some vs) (hF : Fr n act env) :
    (execOp act.eval o).run P w = .ok (.round L r.fn ((r.params.zip vs.toArray).foldl (fun tmps (t, a) => tmps.setIfInBounds t a) r.tmps) r.assign r.body) w := by
  have h1 : args.map act.eval = vs.toArray := by
    have := hF.evl hx
    rw [← this]
    cases args; simp
  have h2 := run_yield (P := P) (args := vs.toArray) hr (by simpa using hs)
  rw [← h2]
  unfold execOp
  simp [ho, resolve, h1, hF.evs hf, Deferred.ofValue, invoke]
/-- the call of a function value -/
theorem op_call {f : Operand} {args : Array Operand} {ats : Array TypeId} {fv : Value} {vs : List Value} {K : Act → World → Prop} (hG : GF F) (ho : o.op = .call { callee := .value f, args := args, argTypes := ats }) (hf : evs env f = some fv) (hx : evl env args.toList = some vs) (hF : Fr n a env)
    (h : CallsV P fv vs w fun e w' => ∃ v, e = .returned v ∧ K (a.put o.dst v) w') : o.wpIn F 0 P a w K Q := by
  have key : o.uponIn Fence.wide 0 P a K Q ((execOp a.eval o).run P w) := by
    rcases h with ⟨F', caps, rfl, hE, h⟩ | ⟨L, r, rfl, hL, hs, h⟩
    · rw [exec_callc hE ho hf hx hF]
      refine ⟨fun h => (by cases h), callsIn_wide.2 (h.mono ?_)⟩
      rintro e w' ⟨v, rfl, h⟩
      exact h
    · rw [exec_yield hL hs ho hf hx hF, Oper.uponIn_round]
      refine ⟨fun h => (by cases h), h.mono ?_⟩
      rintro e w' ⟨v, rfl, h⟩
      exact h
  rcases hG with rfl | ⟨L, rfl⟩
  · exact ⟨fun _ _ => trivial, key⟩
  · refine ⟨fun _ _ => trivial, ?_⟩
    rw [Oper.semAt_eq _ _ _ (fun c hc => by rw [ho] at hc; cases hc)]
    exact key
end

/-! ## Operations, of which some call function values -/
def WLI (F : Fence) (P : Program) (ops : Array Oper) (Q : Exit → Act → World → Prop) (n : Nat) (env : List (Nat × Value)) (B : Nat → Prop) (w0 : World) (os : List Ass) (l : List Oper) : Prop := ∀ a w, Fr n a env → Hp B w0 w os → wpListIn F 0 P ops Q l a w
section
variable {P : Program} {ops : Array Oper} {Q : Exit → Act → World → Prop} {n d : Nat} {env env' : List (Nat × Value)} {B : Nat → Prop} {w0 w : World} {os os' : List Ass} {o : Oper} {rest : List Oper} {F : Fence} {a : Act}
theorem WLI.leave {l : List Oper} {os' : List Ass} (ids : List Nat) (hn : nodupB ids = true) (he : rstA ids os = os') (h : WLI F P ops Q n env B w0 os' l) : WLI F P ops Q n env B w0 os l := fun a w hF hH => h a w hF (by
  have := (hH.perm (perm_sel (os := os) (nodupB_iff hn)).symm).drop (selA ids os).length
  rw [List.drop_left] at this
  exact he ▸ this)
theorem WLI.keep {l : List Oper} (hs : Sub env env') (h : WLI F P ops Q n env' B w0 os l) : WLI F P ops Q n env B w0 os l := fun a w hF hH => h a w (hF.keep hs) hH
end

/-! ## A region that draws its order, the last of whose operations call function values -/
section
variable {P : Program} {ops : Array Oper} {Q : Exit → Act → World → Prop} {n D m : Nat} {jobs : List JobS} {env0 : List (Nat × Value)} {B : Nat → Prop} {w0 : World} {S : List (Option Value) → List Ass} {F : Fence}
end

/-! ## Regions that call function values, in a function's frame -/
section
variable {P : Program} {ops : Array Oper} {Q : Exit → Act → World → Prop} {n d : Nat} {env env' : List (Nat × Value)} {B : Nat → Prop} {w0 w : World} {os os' : List Ass} {o : Oper} {L : Nat} {a : Act}
/-! ## Code in a round's frame -/
def WCR (L : Nat) (P : Program) (Q : Exit → Act → World → Prop) (n : Nat) (env : List (Nat × Value)) (B : Nat → Prop) (w0 : World) (os : List Ass) (c : Code) : Prop := ∀ a w, Fr n a env → Hp B w0 w os → c.wpIn (Fence.wide.inRound L) 0 P Q a w
theorem WCR.keep {c : Code} (hs : Sub env env') (h : WCR L P Q n env' B w0 os c) : WCR L P Q n env B w0 os c := fun a w hF hH => h a w (hF.keep hs) hH
theorem WCR.via {X : Type} {c : Code} (os' : X → List Ass) (hi : ∀ rs, Parts os rs → ∃ x, ∃ rs', rs.Perm rs' ∧ Parts (os' x) rs') (h : ∀ x, WCR L P Q n env B w0 (os' x) c) : WCR L P Q n env B w0 os c := fun a w hF ⟨rs, h1, h2⟩ => by
  obtain ⟨x, rs', p, h3⟩ := hi rs h1
  exact h x a w hF ⟨rs', h3, hp_perm h2 p⟩
theorem WCR.mid {c : Code} (os' : List Ass) (hp : os.Perm os') (h : WCR L P Q n env B w0 os' c) : WCR L P Q n env B w0 os c := fun a w hF hH => h a w hF (hH.perm hp)
theorem WCR.leave {c : Code} {os' : List Ass} (ids : List Nat) (hn : nodupB ids = true) (he : rstA ids os = os') (h : WCR L P Q n env B w0 os' c) : WCR L P Q n env B w0 os c := fun a w hF hH => h a w hF (by
  have := (hH.perm (perm_sel (os := os) (nodupB_iff hn)).symm).drop (selA ids os).length
  rw [List.drop_left] at this
  exact he ▸ this)
end

/-! ## Rounds -/
section
variable {P : Program} {Q : Exit → Act → World → Prop} {n : Nat} {env : List (Nat × Value)} {B : Nat → Prop} {w0 w w' : World} {os os' : List Ass} {L : Nat} {r : Loop}
/-! ## The statement -/
abbrev markD (D : Nat) : Deferred := { target := .collected D, args := #[] }
/-! ## A function that ranges, and its end -/
variable {D : Nat} {a : Act}
/-- code behind a range, in a function's frame: the mark stands among its deferred calls -/
def WCT (D : Nat) (P : Program) (Q : Exit → Act → World → Prop) (n : Nat) (env : List (Nat × Value)) (B : Nat → Prop) (w0 : World) (os : List Ass) (c : Code) : Prop := ∀ a w, w.heap[D]? = some (.deferred (some [])) → w0.heap.size ≤ D → a.defers = [markD D] → Fr n { a with defers := [] } env → Hp B w0 w os → c.wp P Q a w
variable {ops : Array Oper} {o : Oper} {rest : List Oper} {d : Nat}
theorem WCT.keep {env' : List (Nat × Value)} {c : Code} (hs : Sub env env') (h : WCT D P Q n env' B w0 os c) : WCT D P Q n env B w0 os c := fun a w hD h0 hd hF hH => h a w hD h0 hd (hF.keep hs) hH
end

end Go.Proofs.Ytikcleaicbihfaa.Sep

namespace Go.Proofs.Ytikcleaicbihfaa.Sep
open Go.RowKit
open Go.Proofs.Ytikcleaicbihfaa.Mem (Dist Blk Chg below0)
section
variable {P : Program} {ops : Array Oper} {Q : Exit → Act → World → Prop} {n d D : Nat} {env : List (Nat × Value)} {B : Nat → Prop} {w0 w : World} {os : List Ass} {o : Oper} {a : Act} {rest : List Oper}
/-! ## In order -/
/-! ## In each order -/
variable {f i : Nat} {listed : Array Bool}
end
end Go.Proofs.Ytikcleaicbihfaa.Sep

namespace Go.Proofs.Ytikcleaicbihfaa.Sep
open Go.RowKit
open Go.Proofs.Ytikcleaicbihfaa.Mem (Dist Blk Chg below0)
section
variable {P : Program} {Q : Exit → Act → World → Prop} {n : Nat} {B : Nat → Prop} {w0 : World} {os : List Ass} {env : List (Nat × Value)} {o : Oper} {t e : TypeId}
theorem quoCk {a : Act} {w : World} {T T' : TypeId} {x y : Operand} {k : IntKind} {p q r : Int} (hq : q ≠ 0) (hr : k.wrap (p.tdiv q) = r) (ho : o.op = .binOp .quo T x y T') (hx : evs env x = some (.int k p)) (hy : evs env y = some (.int k q)) (hF : Fr n a env) : (execOp a.eval o).run P w = .ok (.value (.int k r)) w := by
  unfold execOp
  simp only [ho, hF.evs hx, hF.evs hy]
  simp [eqGuard, binOp, Op.intArith, Op.intDiv, hq, hr]
theorem xorCk (p q : UInt8) : bits .xor .u8 (p.toNat : Int) (q.toNat : Int) = ((p ^^^ q).toNat : Int) := by
  have e : ∀ z : UInt8, (BitVec.ofInt 8 (z.toNat : Int)).toNat = z.toNat := fun z => by
    have := UInt8.toNat_lt z
    rw [BitVec.toNat_ofInt]
    omega
  show IntKind.u8.wrap ((BitVec.ofInt 8 (p.toNat : Int) ^^^ BitVec.ofInt 8 (q.toNat : Int)).toNat : Int) = _
  rw [BitVec.toNat_xor, e p, e q, UInt8.toNat_xor]
  have : p.toNat ^^^ q.toNat < 2 ^ 8 := Nat.xor_lt_two_pow (UInt8.toNat_lt p) (UInt8.toNat_lt q)
  rw [IntWalk.u8_in _ (by omega)]
theorem wrapCk (z : Int) : ∃ a : UInt8, IntKind.u8.wrap z = (a.toNat : Int) := by
  refine ⟨UInt8.ofNat (z % 256).toNat, ?_⟩
  have e : IntKind.u8.wrap z = z % 256 := by simp [IntKind.wrap, IntKind.signed, IntKind.bits]
  rw [e, UInt8.toNat_ofNat']
  omega
theorem flat_zerosCk (N : Nat) : flat encB (List.replicate N 0) = List.replicate N (Value.int .u8 0) := by
  induction N with
  | zero => rfl
  | succ N ih => rw [List.replicate_succ, List.replicate_succ, flat_cons, ih]; rfl
theorem run_mkCk (hT : SliceT P t e 1) (hb : (P.info? e).map (fun i => i.bytes) = some 1) (hz : ∀ w, (zeroValue e).run P w = .ok (.int .u8 0) w) {N : Nat} (hN : N ≤ 1000000) (w : World) : (Instr.makeSlice t (.int .i64 (N : Int)) (.int .i64 (N : Int))).run P w = .ok (.slice (some ⟨w.heap.size, 0, none⟩) N N) (w.alloc (.cells (Array.replicate N (.int .u8 0)) e)) := by
  obtain ⟨inf, z, hinf, hzz, hk, _, hzs, _⟩ := hT.inf
  have hb1 : inf.bytes = 1 := by simpa [hinf] using hb
  have h1 : IntKind.i64.wrap (N : Int) = (N : Int) := IntWalk.i64_in _ (by omega)
  have h2 : ¬ ((N : Int) < 0) := by omega
  have h3 : ¬ ((281474976710656 : Int) < (N : Int)) := by omega
  have h4 : ¬ (roomBytes < N) := by unfold roomBytes; omega
  have hm : (Array.range N).map (fun _ => Value.int .u8 0) = Array.replicate N (.int .u8 0) := by
    apply Array.ext_getElem?
    intro i
    simp [Array.getElem?_replicate]
    split <;> simp_all
  by_cases h0 : N = 0
  · subst h0
    have hw0 : IntKind.i64.wrap 0 = 0 := by decide
    simp [hw0, Instr.makeSlice, run_underlying hT.ht, asInt, asIntOf, typeInfo, hinf, hb1, askRoom, hT.sizeOf, hz, newRow, Sem.run_bind, Value.cells, Sem.run]
    have h9 : Array.map (fun x : Nat => (default : Value)) (Array.range 0) = #[] := by simp
    rw [h9]
  · simp [Instr.makeSlice, run_underlying hT.ht, asInt, asIntOf, typeInfo, hinf, hb1, h1, h2, h3, h4, askRoom, hT.sizeOf, hz, h0, newRow, Sem.run_bind, Value.cells, Nat.mod_one]
    simp [hm, Sem.run]
theorem a_mkCk (hT : SliceT P t e 1) (hb : (P.info? e).map (fun i => i.bytes) = some 1) (hz : ∀ w, (zeroValue e).run P w = .ok (.int .u8 0) w) {N : Nat} (hN : N ≤ 1000000) {x y : Operand} (ho : o.op = .makeSlice t x y) (hx : evs env x = some (.int .i64 (N : Int))) (hy : evs env y = some (.int .i64 (N : Int))) : Acts P Q n env B w0 os o (fun v : Value => v) (fun v => Vec e 1 encB v (List.replicate N 0) :: os) := fun b w hH hF K hK => by
  have hrun : (execOp b.eval o).run P w = .ok (.value (.slice (some ⟨w.heap.size, 0, none⟩) N N)) (w.alloc (.cells (Array.replicate N (.int .u8 0)) e)) := by
    unfold execOp
    simp [ho, hF.evs hx, hF.evs hy, Sem.run_bind, run_mkCk hT hb hz hN]
  refine a_val (w0 := w) b hrun (hK _ _ ?_)
  have := hH.new e (Array.replicate N (.int .u8 0))
  obtain ⟨rs, ⟨r1, r2, e1, h1, h2⟩, h3⟩ := this
  unfold cell at h1
  refine ⟨rs, ⟨r1, r2, e1, .inr ⟨w.heap.size, N, Array.replicate N (.int .u8 0), ?_, ?_, by unfold maxLen; omega, by simp, ?_, h1⟩, h2⟩, h3⟩
  · rw [List.length_replicate]
  · rw [List.length_replicate]; exact Nat.le_refl _
  · rw [List.length_replicate, flat_zerosCk]; simp
end
/-! ## Parts of slices -/
theorem sub_hiCk {A : Option Addr} {n c j : Nat} : subv 1 (.slice A n c) 0 j = .slice A j c := by
  show Value.slice (if c = 0 then A else A.map (·.add (0 * 1))) (j - 0) (c - 0) = _
  cases A <;> simp [Addr.add]
theorem sub_loCk {A : Option Addr} {n c k j : Nat} : ∃ A1, subv 1 (.slice A n c) k j = .slice A1 (j - k) (c - k) ∧ A1 = (if c = k then A else A.map (·.add k)) := ⟨_, by show Value.slice (if c = k then A else A.map (·.add (k * 1))) (j - k) (c - k) = _; rw [Nat.mul_one], rfl⟩
theorem Rd8.cutCk {X : Ass} {A A1 : Option Addr} {c c1 k n m : Nat} {l r : List UInt8} (h : Rd8 X (.slice A l.length c) l) (hk : k ≤ l.length) (hA : A1 = (if c = k then A else A.map (·.add k))) (hc : c - k = c1) (hm : l.length - k = m) (hn : n ≤ m) (hr : (l.drop k).take n = r) : Rd8 X (.slice A1 n c1) r := fun rs w h1 h2 => by
  subst hA; subst hc; subst hr; subst hm
  have h3 := h.drop hk rs w h1 h2
  have h4 := h3.takes (k := n) (by rw [List.length_drop]; exact hn)
  rwa [show ((l.drop k).take n).length = n by rw [List.length_take, List.length_drop]; omega] at h4
theorem cap8Ck {X : Ass} {v : Value} {l : List UInt8} (h : Rd8 X v l) (rs : List RowT) (w : World) (h1 : X rs) (h2 : RowsOf w rs) : ∃ A c, v = .slice A l.length c ∧ l.length ≤ c := by
  obtain ⟨A, c, e, hb⟩ := h rs w h1 h2
  exact ⟨A, c, e, hb.1⟩
/-! ## Bases -/
theorem neBaseT {a b c d e f : Int} (h : ¬ (a = d ∧ b = e ∧ c = f)) : NeAt Try.prog 31 (.agg #[.int .u64 a, .int .u64 b, .int .i64 c]) (.agg #[.int .u64 d, .int .u64 e, .int .i64 f]) true := fun x y w => by
  go_simp
  by_cases h1 : a = d <;> by_cases h2 : b = e <;> by_cases h3 : c = f <;> simp_all
theorem neBaseF (a b c : Int) : NeAt Try.prog 31 (.agg #[.int .u64 a, .int .u64 b, .int .i64 c]) (.agg #[.int .u64 a, .int .u64 b, .int .i64 c]) false := fun x y w => by
  go_simp
theorem eqBaseT (a b c : Int) : EqAt Try.prog 31 (.agg #[.int .u64 a, .int .u64 b, .int .i64 c]) (.agg #[.int .u64 a, .int .u64 b, .int .i64 c]) true := fun x y w => by
  go_simp
/-! ## Who takes pieces -/
def TkT (T : TypeId) (p : Nat) (bi bt bc : Int) (D : List UInt8) : Ass := fun rs => ∃ v : Value, Parts [cell p T #[.int .u64 bi, .int .u64 bt, .int .i64 bc, v], Vec 5 1 encB v D] rs
theorem TkT.open_ {T : TypeId} {p : Nat} {bi bt bc : Int} {D : List UInt8} : ∀ rs, TkT T p bi bt bc D rs → ∃ v : Value, Parts [cell p T #[.int .u64 bi, .int .u64 bt, .int .i64 bc, v], Vec 5 1 encB v D] rs := fun _ h => h
theorem TkT.mk1 {T : TypeId} {p : Nat} {bi bt bc : Int} {D : List UInt8} {v : Value} {rs : List RowT} (h : Parts [cell p T #[.int .u64 bi, .int .u64 bt, .int .i64 bc, v], Vec 5 1 encB v D] rs) : Parts [TkT T p bi bt bc D] rs := Parts.one ⟨v, h⟩
theorem TkT.mk2 {T : TypeId} {p : Nat} {bi bt bc : Int} {D : List UInt8} {v : Value} {o : Ass} {rs : List RowT} (h : Parts [cell p T #[.int .u64 bi, .int .u64 bt, .int .i64 bc, v], Vec 5 1 encB v D, o] rs) : Parts [TkT T p bi bt bc D, o] rs := by
  obtain ⟨r1, r2, rfl, h1, r3, r4, rfl, h2, r5, r6, rfl, h3, h4⟩ := h
  cases h4
  exact ⟨r1 ++ r3, r5, by simp, ⟨v, r1, r3, by simp, h1, r3, [], by simp, h2, rfl⟩, r5, [], by simp, h3, rfl⟩
theorem TkT.new {T : TypeId} {p : Nat} {bi bt bc : Int} {rs : List RowT} (h : Parts [cell p T #[.int .u64 bi, .int .u64 bt, .int .i64 bc, .slice none 0 0]] rs) : Parts [TkT T p bi bt bc []] rs :=
  Parts.one ⟨.slice none 0 0, rs, [], by simp, h.one', [], [], rfl, nilVec _ _ _, rfl⟩
/-- the bytes that are kept, and what comes of a piece -/
def keepL (bi bt bc ci ct cc : Int) (D : List UInt8) : List UInt8 := if bi = ci ∧ bt = ct ∧ bc = cc then D else []
def takeL (D : List UInt8) (o : Int) (p : List UInt8) (last : Bool) : Bool × List UInt8 := if o = (D.length : Int) ∧ p.length + D.length ≤ 32768 then (last, D ++ p) else (false, D)
theorem takeL_len {D p R : List UInt8} {o : Int} {last b : Bool} (hD : D.length ≤ 32768) (h : takeL D o p last = (b, R)) : R.length ≤ 32768 := by
  unfold takeL at h
  split at h
  · cases h; rw [List.length_append]; omega
  · cases h; exact hD
theorem keepL_len {bi bt bc ci ct cc : Int} {D : List UInt8} (hD : D.length ≤ 32768) : (keepL bi bt bc ci ct cc D).length ≤ 32768 := by
  unfold keepL
  split
  · exact hD
  · exact Nat.zero_le _
end Go.Proofs.Ytikcleaicbihfaa.Sep
