/-
  Loop · Bytes · Rd · Re
-/
import Derived.Test.YtljpjfefjidakaaGreatAA02
import Derived.LoopN
import Derived.Lib.SlBytesRow
import Derived.Lib.SliceRun
import Derived.Laws.Cover3
import Derived.Deep.AppendSrc
import Derived.Deep.Upon
set_option linter.unusedSimpArgs false
set_option linter.unusedVariables false

namespace Go.Proofs.YtljpjfefjidakaaGreat
open Go.RowKit
section loops
variable {P : Program} {Q : Exit → Act → World → Prop} {n B : Nat} {w0 : World} {rs rs' : List RowT} {env env' : List (Nat × Value)} {c : Code} {α : Type}
theorem RowsOf.drop {w : World} : ∀ {rs : List RowT} (k : Nat), RowsOf w rs → RowsOf w (rs.drop k)
  | _, 0, h => h
  | [], k + 1, _ => trivial
  | (g, t, cs) :: r, k + 1, h => RowsOf.drop (rs := r) k h.2
theorem Apart.drop : ∀ {rs : List RowT} (k : Nat), Apart B rs → Apart B (rs.drop k)
  | _, 0, h => h
  | [], k + 1, _ => trivial
  | x :: r, k + 1, h => Apart.drop (rs := r) k h.2.2
theorem Hp.drop {w : World} (h : Hp B w0 w rs) (k : Nat) : Hp B w0 w (rs.drop k) := h.sub (fun h => h.drop k) (fun h => h.drop k)
theorem WC2.at_ (hs : Sub env env') (hr : rs = rs') (h : WC2 P Q n env' B w0 rs' c) : WC2 P Q n env B w0 rs c := fun a w hF hH => h a w (hF.keep hs) (hr ▸ hH)
end loops

/-! ## Order by order: a call, a sum -/
section orders3
variable {P : Program} {ops : Array Oper} {Q : Exit → Act → World → Prop} {n fu i d B : Nat} {w0 : World} {rs : List RowT} {env : List (Nat × Value)} {listed : Array Bool} {o : Oper}
end orders3

/-! ## An array's place -/
section index
variable {P : Program} {n : Nat} {w : World} {env : List (Nat × Value)} {o : Oper}
end index
end Go.Proofs.YtljpjfefjidakaaGreat

namespace Go.Proofs.YtljpjfefjidakaaGreat
open Go.RowKit
section
variable {P : Program} {ops : Array Oper} {Q : Exit → Act → World → Prop} {n B : Nat} {w0 w : World} {rs : List RowT} {env : List (Nat × Value)} {rest : List Oper} {o : Oper} {d : Nat}
theorem bs_get (l : List UInt8) (i : Nat) : (bs l)[i]? = l[i]? := by
  by_cases h : i < l.length
  · rw [List.getElem?_eq_getElem h]
    have h' : i < (bs l).size := by rw [bs_size]; exact h
    rw [getElem?_pos (bs l) i h']
    simp [bs, ByteArray.getElem_eq_getElem_data]
  · rw [List.getElem?_eq_none (by omega)]
    have h' : ¬ i < (bs l).size := by rw [bs_size]; exact h
    rw [getElem?_neg (bs l) i h']
end
end Go.Proofs.YtljpjfefjidakaaGreat

namespace Go.Proofs.YtljpjfefjidakaaGreat.Run
noncomputable section
open Go.RowKit

/-! ## Texts -/
def eqL : List UInt8 → List UInt8 → Bool
  | [], [] => true
  | a :: x, b :: y => match Nat.beq a.toNat b.toNat with | true => eqL x y | false => false
  | _, _ => false
theorem eqL_iff : ∀ {l m : List UInt8}, eqL l m = true ↔ l = m
  | [], [] => by simp [eqL]
  | [], _ :: _ => by simp [eqL]
  | _ :: _, [] => by simp [eqL]
  | a :: x, b :: y => by
    unfold eqL
    by_cases h : a.toNat = b.toNat
    · have e : a = b := UInt8.toNat_inj.1 h
      subst e
      rw [Tr.beqT]
      simp [eqL_iff (l := x) (m := y)]
    · rw [Tr.beqF h]
      simp only [Bool.false_eq_true, List.cons.injEq, false_iff, not_and]
      intro e; exact absurd (by rw [e]) h
theorem eqL_beq (l m : List UInt8) : (l == m) = eqL l m := by
  cases h : eqL l m with
  | true => have := eqL_iff.1 h; subst this; simp
  | false =>
    have : l ≠ m := fun e => by rw [eqL_iff.2 e] at h; cases h
    simpa using this
def lessL : List UInt8 → List UInt8 → Bool
  | _, [] => false
  | [], _ :: _ => true
  | a :: x, b :: y => match Nat.blt a.toNat b.toNat with | true => true | false => match Nat.beq a.toNat b.toNat with | true => lessL x y | false => false
theorem lessL_eq : ∀ (l m : List UInt8), Op.bytesLess l m = lessL l m
  | l, [] => by cases l <;> rfl
  | [], _ :: _ => rfl
  | a :: x, b :: y => by
    unfold Op.bytesLess lessL
    rw [lessL_eq x y]
    have h1 : decide (a < b) = Nat.blt a.toNat b.toNat := by
      cases hb : Nat.blt a.toNat b.toNat with
      | true => have : a.toNat < b.toNat := Nat.le_of_ble_eq_true hb; simpa [UInt8.lt_iff_toNat_lt] using this
      | false =>
        have : ¬ a.toNat < b.toNat := fun h => by rw [show Nat.blt a.toNat b.toNat = true from Nat.ble_eq_true_of_le h] at hb; cases hb
        simpa [UInt8.lt_iff_toNat_lt] using this
    have h2 : (a == b) = Nat.beq a.toNat b.toNat := by
      by_cases h : a.toNat = b.toNat
      · have e : a = b := UInt8.toNat_inj.1 h
        subst e; rw [Tr.beqT]; simp
      · rw [Tr.beqF h]
        have : a ≠ b := fun e => h (by rw [e])
        simpa using this
    rw [h1, h2]
    cases Nat.blt a.toNat b.toNat <;> cases Nat.beq a.toNat b.toNat <;> rfl
def strOp (op : BinOp) (l m : List UInt8) : Option Value := match op with
  | .add => match Nat.ble (l.length + m.length) 9223372036854775807 with | true => some (.string ⟨⟨l ++ m⟩⟩) | false => none
  | .eql => some (.bool (eqL l m))
  | .neq => some (.bool (!eqL l m))
  | .lss => some (.bool (lessL l m))
  | .leq => some (.bool (lessL l m || eqL l m))
  | .gtr => some (.bool (!(lessL l m || eqL l m)))
  | .geq => some (.bool (!lessL l m))
  | _ => none
theorem strOp_run {P : Program} {op : BinOp} {l m : List UInt8} {v : Value} (h : strOp op l m = some v) (T : TypeId) (x y : Operand) (w : World) : (do eqGuard op T x y (.string ⟨⟨l⟩⟩) (.string ⟨⟨m⟩⟩); binOp op T (.string ⟨⟨l⟩⟩) (.string ⟨⟨m⟩⟩) : Sem Value).run P w = .ok v w ∧ nb v = true := by
  have e1 : (⟨⟨l⟩⟩ : ByteArray) = bs l := rfl
  have e2 : (⟨⟨m⟩⟩ : ByteArray) = bs m := rfl
  rw [e1, e2]
  unfold strOp at h
  split at h
  · split at h
    · rename_i hb
      cases h
      have hs := Nat.le_of_ble_eq_true hb
      have h : ¬ (((bs l).size + (bs m).size : Nat) : Int) > IntKind.i64.max := by rw [bs_size, bs_size]; show ¬ _ > (9223372036854775807 : Int); omega
      refine ⟨?_, rfl⟩
      simp only [eqGuard, binOp, Op.stringOp, if_neg h, bs_cat]
      simp
      rfl
    · cases h
  all_goals first
    | (cases h; done)
    | (cases h
       refine ⟨?_, rfl⟩
       simp [eqGuard, binOp, Op.stringOp, bs_list, lessL_eq, eqL_beq, bne]; done)
section ops
variable {P : Program} {o : Oper} {env : Env} {H H' : Tr AO} {nx : Nat} {v : Value} {outs : List Out}
def evStr (env : Env) (op : BinOp) (x y : Operand) : Option Value := match evO env x, evO env y with
  | some (.string ⟨⟨l⟩⟩), some (.string ⟨⟨m⟩⟩) => strOp op l m
  | _, _ => none
theorem vr_str {ρ : Rn} {s : ByteArray} {u : Value} (h : VR ρ (.string s) u) : u = .string s := by cases h; rfl
theorem vr_int {ρ : Rn} {k : IntKind} {z : Int} {u : Value} (h : VR ρ (.int k z) u) : u = .int k z := by cases h; rfl
theorem s_str {op : BinOp} {T T' : TypeId} {x y : Operand} (ho : o.op = .binOp op T x y T') (h : one (evStr env op x y) H nx = some outs) : OpS P o env H nx outs := by
  obtain ⟨v, h1, rfl⟩ := one_eq h
  refine ops_val (fun c hc => by rw [ho] at hc; cases hc) fun n ρ a w hF hR => ?_
  unfold evStr at h1
  split at h1
  · rename_i l m hx hy
    have h2 := vr_str (hF.ev hx)
    have h3 := vr_str (hF.ev hy)
    obtain ⟨h4, h5⟩ := strOp_run (P := P) h1 T x y w
    refine ⟨v, nb.self h5, ?_⟩
    unfold execOp
    simp only [ho, h2, h3]
    rw [Sem.run_bind, h4]
    rfl
  · cases h1
/-- a bound -/
def bnd (env : Env) (x : Option Operand) (dflt most : Nat) : Option Nat := match x with
  | none => some dflt
  | some y => match evO env y with
    | some (.int _ (.ofNat z)) => match Nat.ble z most with | true => some z | false => none
    | _ => none
theorem bnd_run {n : Nat} {ρ : Rn} {a : Act} (hF : FrR n ρ a env) {y : Operand} {dflt most j : Nat} (h : bnd env (some y) dflt most = some j) (code : Instr.sliceBound (a.eval y) most = Instr.sliceBound (a.eval y) most := rfl) : j ≤ most ∧ ∃ k, a.eval y = .int k (j : Int) := by
  unfold bnd at h
  simp only at h
  split at h
  · rename_i k z hy
    split at h
    · rename_i hb
      cases h
      exact ⟨Nat.le_of_ble_eq_true hb, k, vr_int (hF.ev hy)⟩
    · cases h
  · cases h
theorem run_bound {k : IntKind} {j most : Nat} (h : j ≤ most) (code : BoundsCode) (w : World) : (Instr.sliceBound (.int k (j : Int)) most code).run P w = .ok j w := by
  have : (0 : Int) ≤ (j : Int) ∧ (j : Int) ≤ (most : Int) := by omega
  simp [Instr.sliceBound, asIntOf, this]
/-- low, high, and the end of what there is -/
def bndH (env : Env) (hi mx : Option Operand) (len m : Nat) : Option Nat := match hi, mx with
  | none, some _ => none
  | none, none => some len
  | some y, _ => bnd env (some y) len m
def bnds (env : Env) (len cap : Nat) (lo hi mx : Option Operand) : Option (Nat × Nat × Nat) :=
  (bnd env mx cap cap).bind fun m => (bndH env hi mx len m).bind fun h => (bnd env lo 0 h).bind fun l => some (l, h, m)
theorem bnds_at {len cap : Nat} {lo hi mx : Option Operand} {l h m : Nat} (hb : bnds env len cap lo hi mx = some (l, h, m)) : bnd env mx cap cap = some m ∧ bndH env hi mx len m = some h ∧ bnd env lo 0 h = some l := by
  unfold bnds at hb
  simp only [Option.bind_eq_some_iff, Option.some.injEq, Prod.mk.injEq] at hb
  obtain ⟨m', h1, h', h2, l', h3, rfl, rfl, rfl⟩ := hb
  exact ⟨h1, h2, h3⟩
theorem bnds_of {len cap : Nat} {lo hi mx : Option Operand} {l h m : Nat} (h1 : bnd env mx cap cap = some m) (h2 : bndH env hi mx len m = some h) (h3 : bnd env lo 0 h = some l) : bnds env len cap lo hi mx = some (l, h, m) := by
  unfold bnds
  simp [h1, h2, h3]
theorem bnd_mono {x : Option Operand} {d m m' j : Nat} (h : bnd env x d m = some j) (hm : m ≤ m') : bnd env x d m' = some j := by
  cases x with
  | none => exact h
  | some y =>
    unfold bnd at h ⊢
    simp only at h ⊢
    split at h
    · rename_i k z hy
      split at h
      · rename_i hbl
        cases h
        rw [show Nat.ble j m' = true from Nat.ble_eq_true_of_le (by have := Nat.le_of_ble_eq_true hbl; omega)]
      · cases h
    · cases h
theorem bnds_run {n : Nat} {ρ : Rn} {a : Act} (hF : FrR n ρ a env) {len cap : Nat} {lo hi mx : Option Operand} {l h m : Nat} (hb : bnds env len cap lo hi mx = some (l, h, m)) (w : World) (isS : Bool) : (Instr.sliceBounds isS len cap (lo.map a.eval) (hi.map a.eval) (mx.map a.eval)).run P w = .ok (l, h, m) w ∧ (mx = none → m = cap) ∧ m ≤ cap := by
  obtain ⟨hm, hh, hl⟩ := bnds_at hb
  unfold Instr.sliceBounds
  have e1 : mx = none ∧ m = cap ∨ ∃ y k, mx = some y ∧ m ≤ cap ∧ a.eval y = .int k (m : Int) := by
    cases mx with
    | none => unfold bnd at hm; cases hm; exact .inl ⟨rfl, rfl⟩
    | some y => obtain ⟨h1, k, h2⟩ := bnd_run hF hm; exact .inr ⟨y, k, rfl, h1, h2⟩
  have e2 : hi = none ∧ mx = none ∧ h = len ∨ ∃ y k, hi = some y ∧ h ≤ m ∧ a.eval y = .int k (h : Int) := by
    cases hi with
    | none =>
      cases mx with
      | none => unfold bndH at hh; cases hh; exact .inl ⟨rfl, rfl, rfl⟩
      | some _ => cases hh
    | some y => obtain ⟨h1, k, h2⟩ := bnd_run hF (show bnd env (some y) len m = some h from by cases mx <;> exact hh); exact .inr ⟨y, k, rfl, h1, h2⟩
  have e3 : lo = none ∧ l = 0 ∨ ∃ y k, lo = some y ∧ l ≤ h ∧ a.eval y = .int k (l : Int) := by
    cases lo with
    | none => unfold bnd at hl; cases hl; exact .inl ⟨rfl, rfl⟩
    | some y => obtain ⟨h1, k, h2⟩ := bnd_run hF hl; exact .inr ⟨y, k, rfl, h1, h2⟩
  refine ⟨?_, ?_, ?_⟩
  · rcases e1 with ⟨rfl, rfl⟩ | ⟨y1, k1, rfl, h1, h1'⟩ <;> rcases e2 with ⟨rfl, e, rfl⟩ | ⟨y2, k2, rfl, h2, h2'⟩ <;> rcases e3 with ⟨rfl, rfl⟩ | ⟨y3, k3, rfl, h3, h3'⟩ <;>
      first
      | (cases e; done)
      | (simp_all [run_bound]; done)
  · intro e; subst e; rcases e1 with ⟨_, h⟩ | ⟨y, k, e, _⟩
    · exact h
    · cases e
  · rcases e1 with ⟨_, h⟩ | ⟨y, k, _, h, _⟩
    · omega
    · exact h
def addA (i off m l sz : Nat) : Addr := match Nat.beq m l with | true => ⟨i, off, none⟩ | false => ⟨i, off + l * sz, none⟩
theorem addA_eq (i off m l sz : Nat) : addA i off m l sz = if m = l then ⟨i, off, none⟩ else ⟨i, off + l * sz, none⟩ := by
  unfold addA
  by_cases h : m = l
  · subst h; rw [Tr.beqT]; simp
  · rw [Tr.beqF h, if_neg h]
/-- a part of a slice, of an array, of a text -/
def evSlice (P : Program) (env : Env) (T : TypeId) (x : Operand) (lo hi mx : Option Operand) : Option Value := match P.underlying T, evO env x with
  | some .string, some (.string ⟨⟨s⟩⟩) => match mx with
    | some _ => none
    | none => match bnds env s.length s.length lo hi none with
      | some (l, h, _) => some (.string ⟨⟨(s.take h).drop l⟩⟩)
      | none => none
  | some (.slice e), some (.slice A n c) => match szT P e with
    | none => none
    | some sz => match A with
      | none => match bnds env n c lo hi mx with
        | some (l, h, m) => some (.slice none (h - l) (m - l))
        | none => none
      | some ⟨i, off, some _⟩ => none
      | some ⟨i, off, none⟩ => match Nat.blt c BIG with
        | true => match bnds env n c lo hi mx with
          | some (l, h, m) => some (.slice (some (addA i off m l sz)) (h - l) (m - l))
          | none => none
        | false => match mx with
          | none => match bnds env n n lo hi none with
            | some (l, h, _) => match Nat.beq l 0 with
              | true => some (.slice (some ⟨i, off, none⟩) h c)
              | false => match Nat.blt l n with
                | true => some (.slice (some ⟨i, off + l * sz, none⟩) (h - l) (c + l))
                | false => some (.slice (some ⟨0, 0, some 0⟩) 0 0)
            | none => none
          | some _ => match bnds env n n lo hi mx with
            | some (l, h, m) => match Nat.blt m BIG with
              | true => some (.slice (some (addA i off m l sz)) (h - l) (m - l))
              | false => none
            | none => none
  | some (.array N e), some (.pointer (some ⟨i, off, none⟩)) => match szT P e with
    | some sz => match bnds env N N lo hi mx with
      | some (l, h, m) => match Nat.blt N BIG with
        | true => some (.slice (some (addA i off m l sz)) (h - l) (m - l))
        | false => none
      | none => none
    | none => none
  | _, _ => none
theorem run_slice_in {T e : TypeId} (hT : P.underlying T = some (.slice e)) {sz : Nat} (hs : szT P e = some sz) {A : Option Addr} {n c l h m : Nat} {lo hi mx : Option Value} (w : World) (hb : (Instr.sliceBounds true n c lo hi mx).run P w = .ok (l, h, m) w) : (Instr.sliceAt T (.slice A n c) lo hi mx).run P w = .ok (.slice (if m = l then A else A.map (·.add (l * sz))) (h - l) (m - l)) w := by
  simp [Instr.sliceAt, Instr.slice, run_underlying hT, hb, szT_run hs]
theorem addlit (i off m : Nat) : (⟨i, off, none⟩ : Addr).add m = ⟨i, off + m, none⟩ := by rw [Addr.add_lit]
theorem bnds_more {n : Nat} {ρ : Rn} {a : Act} (hF : FrR n ρ a env) {len cap : Nat} {lo hi : Option Operand} {l h m : Nat} (hb : bnds env len len lo hi none = some (l, h, m)) (hc : len ≤ cap) (w : World) : (Instr.sliceBounds true len cap (lo.map a.eval) (hi.map a.eval) none).run P w = .ok (l, h, cap) w ∧ l ≤ h ∧ h ≤ len := by
  obtain ⟨hm, hh, hl⟩ := bnds_at hb
  cases hm
  have h2 : bndH env hi none len cap = some h ∧ h ≤ len := by
    cases hi with
    | none => cases hh; exact ⟨rfl, Nat.le_refl _⟩
    | some y =>
      have hh : bnd env (some y) len len = some h := hh
      exact ⟨bnd_mono hh hc, (bnd_run hF hh).1⟩
  have h3 : l ≤ h := by
    cases lo with
    | none => cases hl; exact Nat.zero_le _
    | some y => exact (bnd_run hF hl).1
  have := bnds_run (P := P) hF (bnds_of (mx := none) (show bnd env none cap cap = some cap from rfl) h2.1 hl) w true
  exact ⟨this.1, h3, h2.2⟩
theorem s_slice {T : TypeId} {x : Operand} {lo hi mx : Option Operand} (ho : o.op = .slice T x lo hi mx) (h : one (evSlice P env T x lo hi mx) H nx = some outs) : OpS P o env H nx outs := by
  obtain ⟨v, h1, rfl⟩ := one_eq h
  refine ops_val (fun c hc => by rw [ho] at hc; cases hc) fun n ρ a w hF hR => ?_
  have fin : ∀ {u r : Value}, a.eval x = u → (Instr.sliceAt T u (lo.map a.eval) (hi.map a.eval) (mx.map a.eval)).run P w = .ok r w → (execOp a.eval o).run P w = .ok (.value r) w := fun hu hr => by
    unfold execOp
    simp only [ho, hu]
    rw [Sem.run_bind, hr]
    rfl
  unfold evSlice at h1
  split at h1
  · rename_i s hT hx
    split at h1
    · cases h1
    · split at h1
      · rename_i l h' m hb
        cases h1
        have hu := vr_str (hF.ev hx)
        have hbs := bnds_run (P := P) hF hb w false
        refine ⟨_, .str _, fin hu ?_⟩
        have e1 : (⟨⟨s⟩⟩ : ByteArray) = bs s := rfl
        have h2 := hbs.1
        simp only [Option.map_none] at h2
        rw [e1]
        simp only [Instr.sliceAt, Instr.slice, Sem.run_bind, run_underlying hT, Result.andThen_ok, Option.map_none, Option.isSome_none, Bool.false_eq_true, if_false, bs_size, h2, Sem.run_pure, bs_cut]
        rfl
      · cases h1
  · rename_i e A n' c hT hx
    have hv := hF.ev hx
    split at h1
    · cases h1
    · rename_i sz hs
      split at h1
      · split at h1
        · rename_i l h' m hb
          cases h1
          generalize hu : a.eval x = u at hv
          cases hv with
          | snil =>
            refine ⟨_, .snil _ _, fin hu ?_⟩
            rw [run_slice_in hT hs w (bnds_run hF hb w true).1]
            simp
        · cases h1
      · cases h1
      · rename_i i off
        split at h1
        · rename_i hlt
          have hlt' : c < BIG := Nat.le_of_ble_eq_true hlt
          split at h1
          · rename_i l h' m hb
            cases h1
            have hbs := bnds_run (P := P) hF hb w true
            generalize hu : a.eval x = u at hv
            cases hv with
            | sl hg hk =>
              refine ⟨_, ?_, fin hu (run_slice_in hT hs w hbs.1)⟩
              rw [addA_eq]
              have hm : m - l < BIG := by have := hbs.2.2; omega
              by_cases e : m = l
              · rw [if_pos e, if_pos e]; exact .sl hg hm
              · rw [if_neg e, if_neg e]; simp only [Option.map_some, addlit]; exact .sl hg hm
            | slu => omega
          · cases h1
        · rename_i hlt
          have hge : ¬ c < BIG := fun h => by rw [show Nat.blt c BIG = true from Nat.ble_eq_true_of_le h] at hlt; cases hlt
          split at h1
          · split at h1
            · rename_i l h' m hb
              generalize hu : a.eval x = u at hv
              cases hv with
              | sl hg hk => exact absurd hk hge
              | slu hg hs' =>
                rename_i g cc s
                obtain ⟨hb1, hb2, hb3⟩ := bnds_more (P := P) (cap := cc - s) hF hb (by omega) w
                have hrun := run_slice_in (P := P) hT hs (A := some ⟨g, off, none⟩) w hb1
                split at h1
                · rename_i h0
                  have h0 := Nat.eq_of_beq_eq_true h0
                  subst h0
                  cases h1
                  refine ⟨_, ?_, fin hu hrun⟩
                  have e1 : (if cc - s = 0 then some (⟨g, off, none⟩ : Addr) else Option.map (fun x : Addr => x.add (0 * sz)) (some (⟨g, off, none⟩ : Addr))) = some (⟨g, off, none⟩ : Addr) := by
                    split
                    · rfl
                    · simp [Addr.add]
                  rw [e1]
                  simp only [Nat.sub_zero]
                  exact .slu hg (by omega)
                · split at h1
                  · rename_i hln
                    have hln : l < n' := Nat.le_of_ble_eq_true hln
                    cases h1
                    refine ⟨_, ?_, fin hu hrun⟩
                    rw [if_neg (by omega)]
                    simp only [Option.map_some, addlit]
                    rw [show cc - s - l = cc - (s + l) by omega, show BIG + s + l = BIG + (s + l) by omega]
                    exact .slu hg (by omega)
                  · rename_i hln
                    have hln : ¬ l < n' := fun h => by rw [show Nat.blt l n' = true from Nat.ble_eq_true_of_le h] at hln; cases hln
                    cases h1
                    refine ⟨_, ?_, fin hu hrun⟩
                    rw [show h' - l = 0 by omega]
                    split
                    · exact .semp _ _
                    · exact .semp _ _
            · cases h1
          · rename_i y
            split at h1
            · rename_i l h' m hb
              split at h1
              case h_2 => cases h1
              rename_i hmB
              have hmB : m < BIG := Nat.le_of_ble_eq_true hmB
              cases h1
              generalize hu : a.eval x = u at hv
              cases hv with
              | sl hg hk => exact absurd hk hge
              | slu hg hs' =>
                rename_i g cc s
                obtain ⟨q1, q2, q3⟩ := bnds_at hb
                have hmn : m ≤ n' := (bnd_run hF q1).1
                have hb3 : bnds env n' (cc - s) lo hi (some y) = some (l, h', m) := bnds_of (bnd_mono (show bnd env (some y) (cc - s) n' = some m from q1) (by omega)) q2 q3
                have hbs := bnds_run (P := P) hF hb3 w true
                refine ⟨_, ?_, fin hu (run_slice_in hT hs w hbs.1)⟩
                rw [addA_eq]
                by_cases e : m = l
                · rw [if_pos e, if_pos e, show m - l = 0 by omega]; exact .sl hg (by decide)
                · rw [if_neg e, if_neg e]; simp only [Option.map_some, addlit]
                  exact .sl hg (by omega)
            · cases h1
  · rename_i N e i off hT hx
    split at h1
    · rename_i sz hs
      split at h1
      · rename_i l h' m hb
        split at h1
        · rename_i hN
          have hN : N < BIG := Nat.le_of_ble_eq_true hN
          cases h1
          have hv := hF.ev hx
          generalize hu : a.eval x = u at hv
          cases hv with
          | ptr hg =>
            have hbs := bnds_run (P := P) hF hb w false
            have hm : m - l < BIG := by have := hbs.2.2; omega
            rename_i g c
            have hrun : (Instr.sliceAt T (.pointer (some ⟨g, off, none⟩)) (lo.map a.eval) (hi.map a.eval) (mx.map a.eval)).run P w = .ok (.slice (some (if m = l then ⟨g, off, none⟩ else (⟨g, off, none⟩ : Addr).add (l * sz))) (h' - l) (m - l)) w := by
              simp [Instr.sliceAt, run_underlying hT, Instr.sureAddr, hbs.1, szT_run hs]
            refine ⟨_, ?_, fin hu hrun⟩
            rw [addA_eq]
            by_cases e : m = l
            · rw [if_pos e, if_pos e]; exact .sl hg hm
            · rw [if_neg e, if_neg e, addlit]; exact .sl hg hm
        · cases h1
      · cases h1
    · cases h1
  · cases h1
end ops
end
end Go.Proofs.YtljpjfefjidakaaGreat.Run

namespace Go.Proofs.YtljpjfefjidakaaGreat.Run
noncomputable section
open Go.RowKit
section ops
variable {P : Program} {o : Oper} {env : Env} {H H' : Tr AO} {nx : Nat} {v : Value} {outs : List Out}

/-! ## Elements -/
def evSIdx (P : Program) (env : Env) (T : TypeId) (x y : Operand) : Option Value := match P.underlying T, evO env x, evO env y with
  | some .string, some (.string ⟨⟨l⟩⟩), some (.int _ (.ofNat i)) => match l[i]? with | some b => some (.int .u8 (b.toNat : Int)) | none => none
  | _, _, _ => none
theorem s_sidx {T : TypeId} {x y : Operand} (ho : o.op = .index T x y) (h : one (evSIdx P env T x y) H nx = some outs) : OpS P o env H nx outs := by
  obtain ⟨v, h1, rfl⟩ := one_eq h
  refine ops_val (fun c hc => by rw [ho] at hc; cases hc) fun n ρ a w hF hR => ?_
  unfold evSIdx at h1
  split at h1
  · rename_i l k i hT hx hy
    split at h1
    · rename_i b hb
      cases h1
      have h2 := vr_str (hF.ev hx)
      have h3 := vr_int (hF.ev hy)
      refine ⟨_, .int _ _, ?_⟩
      have e1 : (⟨⟨l⟩⟩ : ByteArray) = bs l := rfl
      rw [e1] at h2
      have h0 : (0 : Int) ≤ (i : Int) := by omega
      have hg : (bs l)[i]? = some b := by rw [bs_get, hb]
      have h3' : a.eval y = .int k (i : Int) := h3
      unfold execOp
      simp [ho, h2, h3', Instr.index, asIntOf, run_underlying hT, h0, hg]
    · cases h1
  · cases h1
def evIdx (P : Program) (env : Env) (T : TypeId) (x y : Operand) : Option Value := match P.underlying T, evO env x, evO env y with
  | some (.slice e), some (.slice (some ⟨i, off, none⟩) n _), some (.int _ (.ofNat j)) => match Nat.blt j n, szT P e with
    | true, some sz => some (.pointer (some ⟨i, off + j * sz, none⟩))
    | _, _ => none
  | some (.array n e), some (.pointer (some ⟨i, off, none⟩)), some (.int _ (.ofNat j)) => match Nat.blt j n, szT P e with
    | true, some sz => some (.pointer (some ⟨i, off + j * sz, none⟩))
    | _, _ => none
  | _, _, _ => none
theorem s_idx {T : TypeId} {x y : Operand} (ho : o.op = .indexAddr T x y) (h : one (evIdx P env T x y) H nx = some outs) : OpS P o env H nx outs := by
  obtain ⟨v, h1, rfl⟩ := one_eq h
  refine ops_val (fun c hc => by rw [ho] at hc; cases hc) fun n ρ a w hF hR => ?_
  unfold evIdx at h1
  split at h1
  · rename_i e i off m c k j hT hx hy
    split at h1
    · rename_i sz hj hs
      cases h1
      have hj : j < m := Nat.le_of_ble_eq_true hj
      have h3 : a.eval y = .int k (j : Int) := vr_int (hF.ev hy)
      have h2 := hF.ev hx
      generalize hu : a.eval x = u at h2
      have hj' : (0 : Int) ≤ (j : Int) ∧ (j : Int) < (m : Int) := by omega
      cases h2 with
      | sl hg hk =>
        refine ⟨_, .ptr hg, ?_⟩
        unfold execOp
        simp [ho, hu, h3, Instr.indexAt, asIntOf, run_underlying hT, hj', hj, szT_run hs, addlit]
      | slu hg hs' =>
        refine ⟨_, .ptr hg, ?_⟩
        unfold execOp
        simp [ho, hu, h3, Instr.indexAt, asIntOf, run_underlying hT, hj', hj, szT_run hs, addlit]
    · cases h1
  · rename_i m e i off k j hT hx hy
    split at h1
    · rename_i sz hj hs
      cases h1
      have hj : j < m := Nat.le_of_ble_eq_true hj
      have h3 : a.eval y = .int k (j : Int) := vr_int (hF.ev hy)
      have h2 := hF.ev hx
      generalize hu : a.eval x = u at h2
      have hj' : (0 : Int) ≤ (j : Int) ∧ (j : Int) < (m : Int) := by omega
      cases h2 with
      | ptr hg =>
        refine ⟨_, .ptr hg, ?_⟩
        unfold execOp
        simp [ho, hu, h3, Instr.indexAt, asIntOf, run_underlying hT, hj', hj, szT_run hs, addlit, Instr.sureAddr]
    · cases h1
  · cases h1
/-- a field of a struct that is a value -/
def evFld (P : Program) (env : Env) (T : TypeId) (x : Operand) (f : Nat) : Option Value := match P.underlying T, evO env x with
  | some (.struct fs), some (.agg ⟨cs⟩) => match fs.toList[f]? with
    | some fl => rdV P fl.type cs fl.offset
    | none => none
  | _, _ => none
theorem rdV_part {ρ : Rn} {T : TypeId} {cs ds : List Value} {off : Nat} {v : Value} (h : rdV P T cs off = some v) (hv : VRL ρ cs ds) (w : World) : ∃ u, VR ρ v u ∧ (part T ⟨ds⟩ off).run P w = .ok u w := by
  unfold rdV at h
  split at h
  · rename_i k hk
    split at h
    · rename_i hb
      cases h
      have hA := aggk_some hk
      refine ⟨_, .agg ((hv.drop off).take k), ?_⟩
      simp [part, hA.1, hA.2, List.extract_eq_take_drop]
    · cases h
  · rename_i hk
    have hO := aggk_none hk
    obtain ⟨u, h1, h2⟩ := hv.get off v h
    refine ⟨u, h2, ?_⟩
    simp [part, hO.1, h1]
  · cases h
theorem s_fld {T f : Nat} {x : Operand} (ho : o.op = .field T x f) (h : one (evFld P env T x f) H nx = some outs) : OpS P o env H nx outs := by
  obtain ⟨v, h1, rfl⟩ := one_eq h
  refine ops_val (fun c hc => by rw [ho] at hc; cases hc) fun n ρ a w hF hR => ?_
  unfold evFld at h1
  split at h1
  · rename_i fs cs hT hx
    split at h1
    · rename_i fl hf
      have h2 := hF.ev hx
      generalize hu : a.eval x = u at h2
      cases h2 with
      | agg hs =>
        rename_i ds
        obtain ⟨r, h3, h4⟩ := rdV_part h1 hs w
        refine ⟨r, h3, ?_⟩
        have hf' : fs[f]? = some fl := by simpa using hf
        unfold execOp
        simp [ho, hu, Instr.field, run_underlying hT, hf', asAgg, h4]
    · cases h1
  · cases h1

/-! ## Closures, interfaces -/
def evFn (env : Env) (fn : Fn) (first caps : Array Operand) : Option Value := match fn, evL env first.toList, evL env caps.toList with
  | .func F, some p, some q => some (.func (.func F) ⟨p⟩ ⟨q⟩)
  | _, _, _ => none
theorem s_fn {fn : Fn} {first caps : Array Operand} (ho : o.op = .makeFunc fn first caps) (h : one (evFn env fn first caps) H nx = some outs) : OpS P o env H nx outs := by
  obtain ⟨v, h1, rfl⟩ := one_eq h
  refine ops_val (fun c hc => by rw [ho] at hc; cases hc) fun n ρ a w hF hR => ?_
  unfold evFn at h1
  split at h1
  · rename_i F p q hp hq
    cases h1
    refine ⟨_, .func F (hF.evL hp) (hF.evL hq), ?_⟩
    unfold execOp
    simp only [ho, Instr.makeFunc]
    rw [Sem.run_bind]
    simp only [Sem.run_pure, Result.andThen_ok]
    have e : ∀ xs : Array Operand, xs.map a.eval = ⟨xs.toList.map a.eval⟩ := fun xs => by cases xs; simp
    rw [e, e]
  · cases h1
def evIface (P : Program) (env : Env) (T : TypeId) (x : Operand) : Option Value := match P.underlying T, evO env x with
  | some (.interface _), _ => none
  | some _, some v => some (.iface T v)
  | _, _ => none
theorem s_iface {T : TypeId} {x : Operand} (ho : o.op = .makeInterface T x) (h : one (evIface P env T x) H nx = some outs) : OpS P o env H nx outs := by
  obtain ⟨v, h1, rfl⟩ := one_eq h
  refine ops_val (fun c hc => by rw [ho] at hc; cases hc) fun n ρ a w hF hR => ?_
  unfold evIface at h1
  split at h1
  · cases h1
  · rename_i d v hne hT hx
    cases h1
    refine ⟨_, .iface T (hF.ev hx), ?_⟩
    unfold execOp
    simp only [ho, Instr.makeInterface]
    rw [Sem.run_bind, Sem.run_bind, run_underlying hT]
    simp only [Result.andThen_ok]
    cases d with
    | interface ms => exact (hne _ rfl).elim
    | _ => rfl
  · cases h1
/-! ## Is it nil? -/
/-- some b: whether it is nil -/
def nilOf (d : TypeDesc) (v : Value) : Option Bool := match d, v with
  | .pointer _, .pointer x => some (match x with | none => true | some _ => false)
  | .slice _, .slice x _ _ => some (match x with | none => true | some _ => false)
  | .map _ _, .map x => some (match x with | none => true | some _ => false)
  | .func _ _ _, .nilFunc => some true
  | .func _ _ _, .func (.func _) _ _ => some false
  | .func _ _ _, .func (.yield _) _ _ => some false
  | _, _ => none
def isNil (d : TypeDesc) (v : Value) : Bool := match d, v with
  | .pointer _, .pointer none => true
  | .slice _, .slice none _ _ => true
  | .map _ _, .map none => true
  | .func _ _ _, .nilFunc => true
  | _, _ => false
def evEqNil (P : Program) (env : Env) (op : BinOp) (T : TypeId) (x y : Operand) : Option Value := match P.underlying T, evO env x, evO env y with
  | some d, some v, some u => match isNil d u with
    | true => match nilOf d v, op with
      | some b, .eql => some (.bool b)
      | some b, .neq => some (.bool (!b))
      | _, _ => none
    | false => none
  | _, _, _ => none
theorem s_eqnil {op : BinOp} {T T' : TypeId} {x y : Operand} (ho : o.op = .binOp op T x y T') (h : one (evEqNil P env op T x y) H nx = some outs) : OpS P o env H nx outs := by
  obtain ⟨v, h1, rfl⟩ := one_eq h
  refine ops_val (fun c hc => by rw [ho] at hc; cases hc) fun n ρ a w hF hR => ?_
  unfold evEqNil at h1
  split at h1
  · rename_i d p q hT hx hy
    split at h1
    · rename_i hn
      have h2 := hF.ev hx
      have h3 := hF.ev hy
      generalize hu : a.eval x = u at h2
      generalize hu' : a.eval y = u' at h3
      have key : ∀ b, nilOf d p = some b → (Op.equal T u u').run P w = .ok b w := fun b hb => by
        show (Op.equalIn (9999 + 1) T u u').run P w = _
        unfold nilOf at hb
        split at hb
        · cases hb
          unfold isNil at hn
          split at hn <;> first
            | (exfalso; simp_all; done)
            | (cases h3; cases h2 <;> (unfold Op.equalIn; simp [run_underlying hT]; done))
        · cases hb
          unfold isNil at hn
          split at hn <;> first
            | (exfalso; simp_all; done)
            | (cases h3; cases h2 <;> (unfold Op.equalIn; simp [run_underlying hT]; done))
        · cases hb
          unfold isNil at hn
          split at hn <;> first
            | (exfalso; simp_all; done)
            | (cases h3; cases h2 <;> (unfold Op.equalIn; simp [run_underlying hT]; done))
        · cases hb
          unfold isNil at hn
          split at hn <;> first
            | (exfalso; simp_all; done)
            | (cases h3; cases h2 <;> (unfold Op.equalIn; simp [run_underlying hT]; done))
        · cases hb
          unfold isNil at hn
          split at hn <;> first
            | (exfalso; simp_all; done)
            | (cases h3; cases h2 <;> (unfold Op.equalIn; simp [run_underlying hT]; done))
        · cases hb
          unfold isNil at hn
          split at hn <;> first
            | (exfalso; simp_all; done)
            | (cases h3; cases h2 <;> (unfold Op.equalIn; simp [run_underlying hT]; done))
        · cases hb
      have hshape : (∃ z, u = .pointer z) ∨ (∃ z i j, u = .slice z i j) ∨ (∃ z, u = .map z) ∨ u = .nilFunc ∨ ∃ f i j, u = .func f i j := by
        cases hb : nilOf d p with
        | none => simp [hb] at h1
        | some b =>
          unfold nilOf at hb
          split at hb <;> first
            | (cases hb; done)
            | (cases h2 <;> simp; done)
      have hguard : (eqGuard op T x y u u').run P w = .ok () w := by
        rcases hshape with ⟨z, rfl⟩ | ⟨z, i, j, rfl⟩ | ⟨z, rfl⟩ | rfl | ⟨f, i, j, rfl⟩ <;> cases op <;> rfl
      split at h1
      · rename_i b hb
        cases h1
        refine ⟨_, .bool b, ?_⟩
        unfold execOp
        simp only [ho, hu, hu', Sem.run_bind, hguard, Result.andThen_ok]
        have : (binOp .eql T u u').run P w = .ok (.bool b) w := by
          rcases hshape with ⟨z, rfl⟩ | ⟨z, i, j, rfl⟩ | ⟨z, rfl⟩ | rfl | ⟨f, i, j, rfl⟩ <;> (simp only [binOp]; rw [Sem.run_bind, key b hb]; rfl)
        rw [this]
        rfl
      · rename_i b hb
        cases h1
        refine ⟨_, .bool (!b), ?_⟩
        unfold execOp
        simp only [ho, hu, hu', Sem.run_bind, hguard, Result.andThen_ok]
        have : (binOp .neq T u u').run P w = .ok (.bool (!b)) w := by
          rcases hshape with ⟨z, rfl⟩ | ⟨z, i, j, rfl⟩ | ⟨z, rfl⟩ | rfl | ⟨f, i, j, rfl⟩ <;> (simp only [binOp]; rw [Sem.run_bind, key b hb]; rfl)
        rw [this]
        rfl
      · cases h1
    · cases h1
  · cases h1
end ops
end
end Go.Proofs.YtljpjfefjidakaaGreat.Run
