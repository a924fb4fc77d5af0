/-
  Bytes · Num · TextR · DigR
-/
import Derived.Test.YtfalllekhcocgaaDoorB03
import Derived.Lib.SlBytesRow
import Derived.Lib.ItoaNum
import Derived.Lib.ParseIntB
set_option linter.unusedSimpArgs false
set_option linter.unusedVariables false

namespace Go.Proofs.YtfalllekhcocgaaDoor
open Go.RowKit
section
variable {P : Program} {ops : Array Oper} {Q : Exit → Act → World → Prop} {n B : Nat} {w0 w : World} {rs : List RowT} {env : List (Nat × Value)} {rest : List Oper} {o : Oper} {d : Nat}
theorem bs_get (l : List UInt8) (i : Nat) : (bs l)[i]? = l[i]? := by
  by_cases h : i < l.length
  · rw [List.getElem?_eq_getElem h]
    have h' : i < (bs l).size := by rw [bs_size]; exact h
    rw [getElem?_pos (bs l) i h']
    simp [bs, ByteArray.getElem_eq_getElem_data]
  · rw [List.getElem?_eq_none (by omega)]
    have h' : ¬ i < (bs l).size := by rw [bs_size]; exact h
    rw [getElem?_neg (bs l) i h']
theorem exec_index {a : Act} {T : TypeId} (hT : P.underlying T = some .string) {x y : Operand} {l : List UInt8} {i : Nat} {b : UInt8} {k : IntKind} (hb : l[i]? = some b) (ho : o.op = .index T x y) (hx : evs env x = some (.string (bs l))) (hy : evs env y = some (.int k (i : Int))) (hF : Fr n a env) : (execOp a.eval o).run P w = .ok (.value (.int .u8 (b.toNat : Int))) w := by
  unfold execOp
  have h0 : (0 : Int) ≤ (i : Int) := by omega
  have hg : (bs l)[i]? = some b := by rw [bs_get, hb]
  simp [ho, hF.evs hx, hF.evs hy, Instr.index, asIntOf, run_underlying hT, h0, hg]
theorem exec_conv {a : Act} {T T' : TypeId} {u : TypeDesc} {k k' : IntKind} {p z : Int} {x : Operand} (hs : P.underlying T = some u) (hd : P.underlying T' = some (.int k)) (hz : k.wrap p = z) (ho : o.op = .convert T T' x) (hx : evs env x = some (.int k' p)) (hF : Fr n a env) : (execOp a.eval o).run P w = .ok (.value (.int k z)) w := by
  unfold execOp
  simp [ho, hF.evs hx, convert, run_underlying hs, run_underlying hd, Conv.intToInt, hz]
/-- a list of one byte, laid -/
def Bs1 (P : Program) (T E : TypeId) : Prop := ∀ z w, (Instr.buildSlice T 1 #[(0, .int .u8 z)]).run P w = .ok (.slice (some ⟨w.heap.size, 0, none⟩) 1 1) (w.alloc (.cells #[.int .u8 z] E))
theorem h_bs1 {T E : TypeId} (hB : Bs1 P T E) {x : Operand} {z : Int} (h1 : at1 ops n o env = some d) (ho : o.op = .buildSlice T 1 #[(0, x)]) (hx : evs env x = some (.int .u8 z)) (h : ∀ g, WL2 P ops Q n ((d, .slice (some ⟨g, 0, none⟩) 1 1) :: env) B w0 ((g, E, #[.int .u8 z]) :: rs) rest) : WL2 P ops Q n env B w0 rs (o :: rest) :=
  fun a w hF hH => wpList_on hF (at1_parts h1).1 fun K hK => by
    have hrun : (execOp a.eval o).run P w = .ok (.value (.slice (some ⟨w.heap.size, 0, none⟩) 1 1)) (w.alloc (.cells #[.int .u8 z] E)) := by
      unfold execOp
      have := hB z w
      simp [ho, hF.evs hx, Sem.run_bind, this]
    unfold Oper.wp
    rw [hrun, Oper.upon_value, (at1_parts h1).2.1]
    exact hK _ _ (h w.heap.size _ _ (hF.put (at1_parts h1).2.2 _) (hH.new E _))
theorem h_bstr (i : Nat) {T e T' : TypeId} (hs : P.underlying T = some (.slice e)) (he : P.underlying e = some (.int .u8)) (hd : P.underlying T' = some .string) {x : Operand} {g : Nat} {t : TypeId} {b : UInt8} (h1 : at1 ops n o env = some d) (ho : o.op = .convert T T' x) (hx : evs env x = some (.slice (some ⟨g, 0, none⟩) 1 1)) (hi : rs[i]? = some (g, t, #[.int .u8 (b.toNat : Int)])) (h : WL2 P ops Q n ((d, .string (bs [b])) :: env) B w0 rs rest) : WL2 P ops Q n env B w0 rs (o :: rest) :=
  h_val h1 _ (fun a w hF hH => by
    have hR := hH.row i hi
    have hc : Lib.Bytes w g 0 (bs [b]) := fun j hj => by
      have : j = 0 := by rw [bs_size] at hj; simpa using hj
      subst this
      rw [hR.cell]
      rfl
    have hrun : (convert T T' (.slice (some ⟨g, 0, none⟩) 1 1)).run P w = .ok (.string (bs [b])) w := Lib.run_convert_whole (P := P) w T e T' hs he hd g 0 (bs [b]) hc 1
    unfold execOp
    simp [ho, hF.evs hx, Sem.run_bind, hrun]) h
theorem exec_sidx {a : Act} {T E : TypeId} (hT : P.underlying T = some (.slice E)) (hE : OneOf P E) {x y : Operand} {A : Option Addr} {g off len cap i : Nat} (hA : A = some ⟨g, off, none⟩) (hi : i < len) (ho : o.op = .indexAddr T x y) (hx : evs env x = some (.slice A len cap)) (hy : evs env y = some (.int .i64 (i : Int))) (hF : Fr n a env) : (execOp a.eval o).run P w = .ok (.value (.pointer (some ⟨g, off + i, none⟩))) w := by
  subst hA
  unfold execOp
  have hs := hE.2 w
  have hi1 : (0 : Int) ≤ (i : Int) ∧ (i : Int) < (len : Int) := by omega
  simp [ho, hF.evs hx, hF.evs hy, Instr.indexAt, asIntOf, run_underlying hT, hs, Addr.add]
  rw [if_pos (by omega)]
  simp
theorem exec_load1 {a : Act} {T : TypeId} (hO : OneOf P T) {x : Operand} {g off : Nat} {v : Value} (hc : w.cell? ⟨g, off, none⟩ = some v) (ho : o.op = .load T x) (hx : evs env x = some (.pointer (some ⟨g, off, none⟩))) (hF : Fr n a env) : (execOp a.eval o).run P w = .ok (.value v) w := by
  unfold execOp
  simp [ho, hF.evs hx, Instr.loadAt, Instr.sureAddr, loadVar, Sem.run_bind, hO.1, run_load, hc]
/-- 'is it nil?', of a value of an interface type -/
def EqNil (P : Program) (T : TypeId) (u : Value) (c : Bool) : Prop := ∀ x w, (do eqGuard .eql T x (.const .nilIface) u .nilIface; binOp .eql T u .nilIface : Sem Value).run P w = .ok (.bool c) w
theorem exec_eqnil {a : Act} {T T' : TypeId} {x : Operand} {u : Value} {c : Bool} (he : EqNil P T u c) (ho : o.op = .binOp .eql T x (.const .nilIface) T') (hx : evs env x = some u) (hF : Fr n a env) : (execOp a.eval o).run P w = .ok (.value (.bool c)) w := by
  unfold execOp
  have := he x w
  simp only [ho, hF.evs hx]
  rw [Sem.run_bind]
  show Result.andThen ((do eqGuard .eql T x (.const .nilIface) u .nilIface; binOp .eql T u .nilIface : Sem Value).run P w) _ = _
  rw [this]
  rfl
/-- a function of the library's that has no body here -/
theorem exec_ext {a : Act} {F : FuncId} {f : Operand} {args : Array Operand} {ats : Array TypeId} {vs : List Value} {v : Value} (hr : ∀ w, (callFunc F vs.toArray).run P w = .ok (.value v) w) (ho : o.op = .call { callee := .value f, args := args, argTypes := ats }) (hf : evs env f = some (.func (.func F) #[] #[])) (hx : evl env args.toList = some vs) (hF : Fr n a env) : (execOp a.eval o).run P w = .ok (.value v) w := by
  unfold execOp
  have h1 : args.map a.eval = vs.toArray := by
    have := hF.evl hx
    rw [← this]
    cases args; simp
  have h2 := hr w
  simp [ho, resolve, h1, hF.evs hf, Deferred.ofValue, invoke, h2]
end
end Go.Proofs.YtfalllekhcocgaaDoor

namespace Go.Proofs.YtfalllekhcocgaaDoor
open Go
def isD (b : UInt8) : Prop := 48 ≤ b.toNat ∧ b.toNat ≤ 57
instance (b : UInt8) : Decidable (isD b) := inferInstanceAs (Decidable (_ ∧ _))
def allD (l : List UInt8) : Prop := ∀ b ∈ l, isD b
instance (l : List UInt8) : Decidable (allD l) := inferInstanceAs (Decidable (∀ b ∈ l, isD b))
def nvStep (a : Nat) (b : UInt8) : Nat := a * 10 + (b.toNat - 48)
def nvA (a : Nat) (l : List UInt8) : Nat := l.foldl nvStep a
theorem nvA_nil (a : Nat) : nvA a [] = a := rfl
theorem nvA_cons (a : Nat) (b : UInt8) (r : List UInt8) : nvA a (b :: r) = nvA (a * 10 + (b.toNat - 48)) r := by unfold nvA; rw [List.foldl_cons, nvStep]
/-- the number that digits spell -/
def nv (l : List UInt8) : Nat := nvA 0 l
theorem nvA_eq (l : List UInt8) (a : Nat) : nvA a l = a * 10 ^ l.length + nv l := by
  induction l generalizing a with
  | nil => simp [nvA_nil, nv]
  | cons b r ih =>
    unfold nv
    rw [nvA_cons, nvA_cons, ih, ih (0 * 10 + (b.toNat - 48)), List.length_cons, Nat.pow_succ, Nat.zero_mul, Nat.zero_add, Nat.add_mul, Nat.mul_assoc a 10, Nat.mul_comm 10]
    exact Nat.add_assoc ..
theorem nvA_app : ∀ (l m : List UInt8) (a : Nat), nvA a (l ++ m) = nvA (nvA a l) m
  | [], _, _ => rfl
  | b :: r, m, a => by rw [List.cons_append, nvA_cons, nvA_cons, nvA_app r m]
theorem nv_app (l m : List UInt8) : nv (l ++ m) = nv l * 10 ^ m.length + nv m := by
  unfold nv; rw [nvA_app, nvA_eq m (nvA 0 l)]; rfl
theorem nv_one (b : UInt8) : nv [b] = b.toNat - 48 := by simp [nv, nvA_cons, nvA_nil]
theorem nv_snoc (l : List UInt8) (b : UInt8) : nv (l ++ [b]) = nv l * 10 + (b.toNat - 48) := by rw [nv_app, nv_one]; simp
theorem allD_app {l m : List UInt8} : allD (l ++ m) ↔ allD l ∧ allD m := by
  unfold allD; constructor
  · exact fun h => ⟨fun b hb => h b (by simp [hb]), fun b hb => h b (by simp [hb])⟩
  · exact fun h b hb => by
      rcases List.mem_append.1 hb with hb | hb
      · exact h.1 b hb
      · exact h.2 b hb
theorem nv_lt : ∀ {l : List UInt8}, allD l → nv l < 10 ^ l.length
  | [], _ => by simp [nv, nvA_cons, nvA_nil]
  | b :: r, h => by
    have h1 := h b (by simp)
    have h2 := nv_lt (l := r) fun x hx => h x (by simp [hx])
    unfold isD at h1
    unfold nv
    rw [nvA_cons, nvA_eq, List.length_cons, Nat.pow_succ]
    have : (0 * 10 + (b.toNat - 48)) * 10 ^ r.length ≤ 9 * 10 ^ r.length := Nat.mul_le_mul_right _ (by omega)
    omega
theorem nv_pos {b : UInt8} {r : List UInt8} (h : isD b) (h0 : b.toNat ≠ 48) : 10 ^ r.length ≤ nv (b :: r) := by
  unfold isD at h
  unfold nv
  rw [nvA_cons, nvA_eq]
  have : 1 * 10 ^ r.length ≤ (0 * 10 + (b.toNat - 48)) * 10 ^ r.length := Nat.mul_le_mul_right _ (by omega)
  omega
def dgt (k : Nat) : UInt8 := UInt8.ofNat (48 + k)
theorem dgt_toNat {k : Nat} (h : k < 10) : (dgt k).toNat = 48 + k := by
  unfold dgt; simp; omega
theorem dgt_of {b : UInt8} (h : isD b) : dgt (b.toNat - 48) = b := by
  unfold isD at h
  apply UInt8.toNat_inj.1
  rw [dgt_toNat (by omega)]; omega
theorem isD_dgt {k : Nat} (h : k < 10) : isD (dgt k) := by unfold isD; rw [dgt_toNat h]; omega
theorem ddS {u : Nat} (h : u < 10) : Lib.decDigits u = [dgt u] := by rw [Lib.decDigits, dif_pos h]; rfl
theorem ddB {u : Nat} (h : ¬ u < 10) : Lib.decDigits u = Lib.decDigits (u / 10) ++ [dgt (u % 10)] := by rw [Lib.decDigits, dif_neg h]; rfl
theorem dd_allD (u : Nat) : allD (Lib.decDigits u) := by
  induction u using Nat.strongRecOn with
  | _ u ih =>
    by_cases h : u < 10
    · rw [ddS h]; intro b hb; rw [List.mem_singleton.1 hb]; exact isD_dgt h
    · rw [ddB h, allD_app]; exact ⟨ih _ (by omega), fun b hb => by rw [List.mem_singleton.1 hb]; exact isD_dgt (by omega)⟩
theorem nv_dd (u : Nat) : nv (Lib.decDigits u) = u := by
  induction u using Nat.strongRecOn with
  | _ u ih =>
    by_cases h : u < 10
    · rw [ddS h, nv_one, dgt_toNat h]; omega
    · rw [ddB h, nv_snoc, ih _ (by omega), dgt_toNat (by omega)]; omega
/-- digits alone, no 0 ahead of others -/
def plainN (l : List UInt8) : Prop := l ≠ [] ∧ allD l ∧ (1 < l.length → l.head? ≠ some 48)
instance (l : List UInt8) : Decidable (plainN l) := inferInstanceAs (Decidable (_ ∧ _))
theorem ddN (u : Nat) : Lib.decDigits u ≠ [] := by
  by_cases h : u < 10
  · rw [ddS h]; simp
  · rw [ddB h]; simp
theorem head_app {l m : List UInt8} (h : l ≠ []) : (l ++ m).head? = l.head? := by
  cases l with
  | nil => exact absurd rfl h
  | cons a r => rfl
theorem dd_head {u : Nat} (h : 0 < u) : (Lib.decDigits u).head? ≠ some 48 := by
  induction u using Nat.strongRecOn with
  | _ u ih =>
    by_cases h1 : u < 10
    · rw [ddS h1]; intro e
      have := congrArg UInt8.toNat (Option.some.inj e)
      rw [dgt_toNat h1] at this
      simp at this; omega
    · rw [ddB h1, head_app (ddN _)]; exact ih _ (by omega) (by omega)
theorem plain_dd (u : Nat) : plainN (Lib.decDigits u) := by
  refine ⟨ddN u, dd_allD u, fun h => ?_⟩
  by_cases h1 : u < 10
  · rw [ddS h1] at h; simp at h
  · exact dd_head (by omega)
theorem dd_nv {l : List UInt8} (h : plainN l) : Lib.decDigits (nv l) = l := by
  have key : ∀ n (l : List UInt8), l.length = n → plainN l → Lib.decDigits (nv l) = l := by
    intro n
    induction n with
    | zero => intro l hl h; exact absurd (List.length_eq_zero_iff.1 hl) h.1
    | succ n ih =>
      intro l hl ⟨hne, hall, hh⟩
      obtain ⟨m, b, rfl⟩ : ∃ m b, l = m ++ [b] := ⟨l.dropLast, l.getLast hne, (List.dropLast_concat_getLast hne).symm⟩
      have hb : isD b := hall b (by simp)
      have hb' := hb
      unfold isD at hb'
      have hm : allD m := (allD_app.1 hall).1
      cases m with
      | nil =>
        rw [List.nil_append, nv_one, ddS (by omega), dgt_of hb]
      | cons c r =>
        have hc := hh (by simp)
        have hc0 : c.toNat ≠ 48 := fun e => hc (by
          rw [List.cons_append, List.head?_cons]
          congr 1
          exact UInt8.toNat_inj.1 (by simpa using e))
        have hp := nv_pos (r := r) (hm c (by simp)) hc0
        have : 0 < 10 ^ r.length := Nat.pow_pos (by decide)
        have ihm := ih (c :: r) (by simp at hl ⊢; omega) ⟨by simp, hm, fun _ => by
          intro e
          exact hc0 (by have := Option.some.inj e; rw [this]; rfl)⟩
        rw [nv_snoc, ddB (by omega), show (nv (c :: r) * 10 + (b.toNat - 48)) / 10 = nv (c :: r) by omega, show (nv (c :: r) * 10 + (b.toNat - 48)) % 10 = b.toNat - 48 by omega, ihm, dgt_of hb]
  exact key _ l rfl h
theorem dd_zero : Lib.decDigits 0 = [48] := by rw [ddS (by decide)]; rfl
theorem plain_zero {l : List UInt8} (h : plainN l) : nv l = 0 ↔ l = [48] := by
  constructor
  · intro e; rw [← dd_nv h, e]; exact dd_zero
  · rintro rfl; rfl
theorem dd_len : ∀ (k u : Nat), 0 < k → u < 10 ^ k → (Lib.decDigits u).length ≤ k
  | 0, _, h, _ => absurd h (by decide)
  | 1, u, _, h => by rw [ddS (by simpa using h)]; simp
  | k + 2, u, _, h => by
    by_cases h1 : u < 10
    · rw [ddS h1]; simp
    · have : u / 10 < 10 ^ (k + 1) := by rw [Nat.pow_succ] at h; omega
      have := dd_len (k + 1) (u / 10) (by omega) this
      rw [ddB h1]; simp; omega
theorem take_snoc {l : List UInt8} {j : Nat} {b : UInt8} (h : l[j]? = some b) : l.take (j + 1) = l.take j ++ [b] := by
  rw [List.take_add_one, h]; rfl
theorem nv_step {l : List UInt8} {j : Nat} {b : UInt8} (h : l[j]? = some b) : nv (l.take j) * 10 + (b.toNat - 48) = nv (l.take (j + 1)) := by
  rw [take_snoc h, nv_snoc]
theorem allD_step {l : List UInt8} {j : Nat} {b : UInt8} (h : l[j]? = some b) (ha : allD (l.take j)) (hb : isD b) : allD (l.take (j + 1)) := by
  rw [take_snoc h, allD_app]
  exact ⟨ha, fun x hx => by rw [List.mem_singleton.1 hx]; exact hb⟩
theorem take_all {l : List UInt8} {j : Nat} (h : ¬ j < l.length) : l.take j = l := List.take_of_length_le (by omega)
theorem dig_ways (b : UInt8) : b.toNat < 48 ∨ 57 < b.toNat ∨ isD b := by unfold isD; omega
theorem not_allD {l : List UInt8} {j : Nat} {b : UInt8} (h : l[j]? = some b) (hb : ¬ isD b) : ¬ allD l := fun ha => hb (ha b (List.mem_of_getElem? h))
/-- what strconv makes of digits -/
theorem parseM_digits : ∀ (l : List UInt8) (a : Nat), allD l → a ≤ 18446744073709551615 → Lib.parseUintM 18446744073709551615 a l = if nvA a l ≤ 18446744073709551615 then .ok (nvA a l) else .range
  | [], a, _, ha => by rw [Lib.parseUintM, nvA_nil, if_pos ha]
  | c :: r, a, h, ha => by
    have hc := h c (by simp)
    unfold isD at hc
    have hr : allD r := fun x hx => h x (by simp [hx])
    have hge : (a * 10 + (c.toNat - 48)) ≤ nvA (a * 10 + (c.toNat - 48)) r := by
      rw [nvA_eq]
      have : (a * 10 + (c.toNat - 48)) * 1 ≤ (a * 10 + (c.toNat - 48)) * 10 ^ r.length := Nat.mul_le_mul_left _ (Nat.pow_pos (by decide))
      omega
    rw [Lib.parseUintM, if_pos hc, nvA_cons]
    by_cases h1 : 1844674407370955162 ≤ a
    · rw [if_pos h1, if_neg (by omega)]
    · rw [if_neg h1]
      by_cases h2 : 18446744073709551615 < a * 10 + (c.toNat - 48)
      · rw [if_pos h2, if_neg (by omega)]
      · rw [if_neg h2]
        exact parseM_digits r _ hr (by omega)
theorem parseB_digits {l : List UInt8} (h : allD l) (hne : l ≠ []) : Lib.parseUintB 64 l = if nv l ≤ 18446744073709551615 then .ok (nv l) else .range := by
  unfold Lib.parseUintB
  rw [if_neg hne]
  exact parseM_digits l 0 h (by decide)
end Go.Proofs.YtfalllekhcocgaaDoor

namespace Go.Proofs.YtfalllekhcocgaaDoor
open Go.RowKit

theorem bsOne : Bs1 Tryd.prog 46 5 := fun z w => by kernel_rfl
theorem over_010 : (over? (digs 0).toList 0 [Value.int .u64 10]).toArray = digs 10 := by kernel_rfl
theorem dg_small {n : Nat} (h : n < 4294967296) : dg n 0 = n := by unfold dg; rw [BP_zero, Nat.div_one]; omega
theorem ten15 : 10 < BP 15 := Nat.le_of_ble_eq_true (by kernel_rfl)
/-- how far the digits are laid: of N, what is left is n, what is laid is l -/
def txI (N n : Nat) (l : List UInt8) : Prop := n ≤ N ∧ Lib.decDigits N = if l = [] then Lib.decDigits n else if n = 0 then l else Lib.decDigits n ++ l
theorem tx_start (N : Nat) : txI N N [] := ⟨Nat.le_refl _, by rw [if_pos rfl]⟩
theorem tx_ways (n : Nat) (l : List UInt8) : l = [] ∨ (l ≠ [] ∧ n ≠ 0) ∨ (l ≠ [] ∧ n = 0) := by
  by_cases h : l = []
  · exact .inl h
  · by_cases h' : n = 0
    · exact .inr (.inr ⟨h, h'⟩)
    · exact .inr (.inl ⟨h, h'⟩)
theorem tx_step {N n : Nat} {l : List UInt8} (h : txI N n l) (hc : l = [] ∨ n ≠ 0) : txI N (n / 10) (dgt (n % 10) :: l) := by
  have e : Lib.decDigits N = Lib.decDigits n ++ l := by
    rw [h.2]
    by_cases hl : l = []
    · rw [if_pos hl, hl, List.append_nil]
    · rw [if_neg hl, if_neg (by rcases hc with hc | hc; exact absurd hc hl; exact hc)]
  refine ⟨by have := h.1; omega, ?_⟩
  rw [e, if_neg (by simp)]
  by_cases h1 : n < 10
  · rw [ddS h1, if_pos (by omega), show n % 10 = n by omega]; rfl
  · rw [ddB h1, if_neg (by omega), List.append_assoc]; rfl
theorem tx_end {N n : Nat} {l : List UInt8} (h : txI N n l) (hl : l ≠ []) (h0 : n = 0) : bs l = bs (Lib.decDigits N) := by rw [h.2, if_neg hl, if_pos h0]
theorem tx_len {N n : Nat} {l : List UInt8} (h : txI N n l) : l.length ≤ (Lib.decDigits N).length := by
  rw [h.2]
  by_cases hl : l = []
  · rw [hl]; simp
  · rw [if_neg hl]; split <;> simp
theorem conv_dgt (n : Nat) : IntKind.wrap .u8 (48 + ((n % 10 : Nat) : Int)) = ((dgt (n % 10)).toNat : Int) := by
  rw [dgt_toNat (by omega), IntWalk.u8_in _ (by omega)]; omega

theorem rtext_any (w : World) (N : Nat) (hN : N < BP 16) (hlen : (Lib.decDigits N).length ≤ 1000000) : Calls Tryd.prog 68 #[DV N] w fun e w' => e = .returned (.string (bs (Lib.decDigits N))) ∧ Below w.heap.size w w' := by
  refine d_in (args := [.agg (digs N)]) 31 Tryd.func68 rfl rfl rfl ?_
  refine d_reg ?_
  refine h_box (cs := digs N) rfl rfl rfl rfl ?_; intro g1_1
  refine h_q hflW rfl ?_
  refine h_done (d_reg ?_)
  refine h_q hflW rfl ?_
  refine h_done (d_reg ?_)
  refine h_alloc zeDig rfl rfl ?_; intro g4_2
  refine h_done (d_reg ?_)
  refine h_val rfl (.pointer (some ⟨g4_2, 0, none⟩)) (fun b w hb hH => by exact exec_idx (off := 0) (ixDigits 0 (by decide)) rfl rfl rfl hb) ?_
  refine h_store 0 (v := .int .u64 10) (digs 10) tyUint64.2 rfl (ble_size1 (digs_size _) (by decide)) rfl over_010 rfl rfl rfl rfl rfl rfl ?_
  refine h_done (d_seq (d_block ?_))
  refine d_loop (α := Nat × List UInt8) (fun (n, l) => [(1, .pointer (some ⟨g1_1, 0, none⟩)), (2, .string (bs ([]))), (3, .string (bs l)), (4, .pointer (some ⟨g4_2, 0, none⟩))]) (fun (n, l) => [(g4_2, 74, digs 10), (g1_1, 74, digs n)]) (fun (n, l) => txI N n l) (fun (n, l) => n + (if l = [] then 1 else 0)) (N, []) (tx_start N) ⟨rfl, rfl, rfl, rfl, trivial⟩ rfl ?_
  rintro ⟨n, l⟩ hI
  refine WC2.at_ (env' := [(1, .pointer (some ⟨g1_1, 0, none⟩)), (2, .string (bs ([]))), (3, .string (bs l)), (4, .pointer (some ⟨g4_2, 0, none⟩))]) (rs' := [(g4_2, 74, digs 10), (g1_1, 74, digs n)]) ⟨rfl, rfl, rfl, rfl, trivial⟩ rfl ?_
  refine d_seq ?_
  rcases tx_ways n l with hl | ⟨hl, hn⟩ | ⟨hl, hn⟩
  · skip
    have hdg : dg (n % 10) 0 = n % 10 := dg_small (by omega)
    refine d_reg ?_
    refine h_q hflW rfl ?_
    refine h_same (beq_iff_eq.2 hl) rfl rfl rfl rfl ?_
    refine h_q hflW rfl ?_
    refine h_done (d_then rfl (d_skip (f_to (d_block (d_reg ?_)))))
    refine h_load 1 (v := .agg (digs n)) (reads_all (tyDigC _)) rfl rfl rfl rfl ?_
    refine h_load 0 (v := .agg (digs 10)) (reads_all (tyDigC _)) rfl rfl rfl rfl ?_
    refine h_call (ent_of Tryd.func65 (by kernel_rfl) rfl) (fun w hH => rdiv_any _ n 10 (Nat.lt_of_le_of_lt hI.1 hN) ten15 (by decide)) rfl rfl rfl rfl ?_
    refine h_q hflW rfl ?_
    refine h_alloc zeDig rfl rfl ?_; intro g5_3
    refine h_alloc zeDig rfl rfl ?_; intro g6_4
    refine h_store 1 (v := .agg (digs (n / 10))) (digs (n / 10)) tyDigits.2 (digs_size _) (ble_size (digs_size _)) (digs_oneL _) (over_all (c := digs 0) (v := digs (n / 10)) (((digs_size _) : (digs 0).size = 16).trans ((digs_size _) : (digs (n / 10)).size = 16).symm)) rfl rfl rfl rfl rfl rfl ?_
    refine h_store 0 (v := .agg (digs (n % 10))) (digs (n % 10)) tyDigits.2 (digs_size _) (ble_size (digs_size _)) (digs_oneL _) (over_all (c := digs 0) (v := digs (n % 10)) (((digs_size _) : (digs 0).size = 16).trans ((digs_size _) : (digs (n % 10)).size = 16).symm)) rfl rfl rfl rfl rfl rfl ?_
    refine h_done (d_reg ?_)
    refine h_val rfl (.pointer (some ⟨g6_4, 0, none⟩)) (fun b w hb hH => by exact exec_idx (off := 0) (ixDigits 0 (by decide)) rfl rfl rfl hb) ?_
    refine h_load 0 (v := .int .u64 (dg (n % 10) 0 : Int)) (reads_one tyUint64 (digs_get _ (by decide))) rfl rfl rfl rfl ?_
    refine h_ar (z' := 48 + (dg (n % 10) 0 : Int)) (IntWalk.u64_in _ (by omega)) rfl rfl rfl rfl rfl ?_
    refine h_val rfl (.int .u8 ((dgt (n % 10)).toNat : Int)) (fun b w hb hH => by exact exec_conv Tryd.underlying22 Tryd.underlying5 (by rw [hdg]; exact conv_dgt n) rfl rfl hb) ?_
    refine h_bs1 bsOne rfl rfl rfl ?_; intro g25_5
    refine h_bstr 0 (b := (dgt (n % 10))) Tryd.underlying46 Tryd.underlying5 Tryd.underlying9 rfl rfl rfl rfl ?_
    refine h_q hflW rfl ?_
    refine h_cat (r := dgt (n % 10) :: l) rfl (by have := tx_len hI; simp only [List.length_cons, List.length_nil]; omega) rfl rfl rfl rfl ?_
    refine h_q hflW rfl ?_
    refine h_done (d_reg1 ?_)
    refine h_load 2 (v := .agg (digs (n / 10))) (reads_all (tyDigC _)) rfl rfl rfl rfl ?_
    refine h_store 4 (v := .agg (digs (n / 10))) (digs (n / 10)) tyDigits.2 (digs_size _) (ble_size (digs_size _)) (digs_oneL _) (over_all (c := digs n) (v := digs (n / 10)) (((digs_size _) : (digs n).size = 16).trans ((digs_size _) : (digs (n / 10)).size = 16).symm)) rfl rfl rfl rfl rfl rfl ?_
    refine h_nil (f_block ?_)
    exact f_again (n / 10, dgt (n % 10) :: l) 3 (tx_step hI (.inl hl)) (by simp [hl] <;> omega) ⟨rfl, rfl, rfl, rfl, trivial⟩ rfl
  · skip
    have hdg : dg (n % 10) 0 = n % 10 := dg_small (by omega)
    refine d_reg ?_
    refine h_q hflW rfl ?_
    refine h_same (beq_false_of_ne hl) rfl rfl rfl rfl ?_
    refine h_q hflW rfl ?_
    refine h_load 1 (v := .agg (digs n)) (reads_all (tyDigC _)) rfl rfl rfl rfl ?_
    refine h_call (ent_of Tryd.func64 (by kernel_rfl) rfl) (fun w hH => zeroB _ n false (Nat.lt_of_le_of_lt hI.1 hN) (by simp [hn])) rfl rfl rfl rfl ?_
    refine h_q hflW rfl ?_
    refine h_done (d_then rfl (d_skip (f_to (d_block (d_reg ?_)))))
    refine h_load 1 (v := .agg (digs n)) (reads_all (tyDigC _)) rfl rfl rfl rfl ?_
    refine h_load 0 (v := .agg (digs 10)) (reads_all (tyDigC _)) rfl rfl rfl rfl ?_
    refine h_call (ent_of Tryd.func65 (by kernel_rfl) rfl) (fun w hH => rdiv_any _ n 10 (Nat.lt_of_le_of_lt hI.1 hN) ten15 (by decide)) rfl rfl rfl rfl ?_
    refine h_q hflW rfl ?_
    refine h_alloc zeDig rfl rfl ?_; intro g5_6
    refine h_alloc zeDig rfl rfl ?_; intro g6_7
    refine h_store 1 (v := .agg (digs (n / 10))) (digs (n / 10)) tyDigits.2 (digs_size _) (ble_size (digs_size _)) (digs_oneL _) (over_all (c := digs 0) (v := digs (n / 10)) (((digs_size _) : (digs 0).size = 16).trans ((digs_size _) : (digs (n / 10)).size = 16).symm)) rfl rfl rfl rfl rfl rfl ?_
    refine h_store 0 (v := .agg (digs (n % 10))) (digs (n % 10)) tyDigits.2 (digs_size _) (ble_size (digs_size _)) (digs_oneL _) (over_all (c := digs 0) (v := digs (n % 10)) (((digs_size _) : (digs 0).size = 16).trans ((digs_size _) : (digs (n % 10)).size = 16).symm)) rfl rfl rfl rfl rfl rfl ?_
    refine h_done (d_reg ?_)
    refine h_val rfl (.pointer (some ⟨g6_7, 0, none⟩)) (fun b w hb hH => by exact exec_idx (off := 0) (ixDigits 0 (by decide)) rfl rfl rfl hb) ?_
    refine h_load 0 (v := .int .u64 (dg (n % 10) 0 : Int)) (reads_one tyUint64 (digs_get _ (by decide))) rfl rfl rfl rfl ?_
    refine h_ar (z' := 48 + (dg (n % 10) 0 : Int)) (IntWalk.u64_in _ (by omega)) rfl rfl rfl rfl rfl ?_
    refine h_val rfl (.int .u8 ((dgt (n % 10)).toNat : Int)) (fun b w hb hH => by exact exec_conv Tryd.underlying22 Tryd.underlying5 (by rw [hdg]; exact conv_dgt n) rfl rfl hb) ?_
    refine h_bs1 bsOne rfl rfl rfl ?_; intro g25_8
    refine h_bstr 0 (b := (dgt (n % 10))) Tryd.underlying46 Tryd.underlying5 Tryd.underlying9 rfl rfl rfl rfl ?_
    refine h_q hflW rfl ?_
    refine h_cat (r := dgt (n % 10) :: l) rfl (by have := tx_len hI; simp only [List.length_cons, List.length_nil]; omega) rfl rfl rfl rfl ?_
    refine h_q hflW rfl ?_
    refine h_done (d_reg1 ?_)
    refine h_load 2 (v := .agg (digs (n / 10))) (reads_all (tyDigC _)) rfl rfl rfl rfl ?_
    refine h_store 4 (v := .agg (digs (n / 10))) (digs (n / 10)) tyDigits.2 (digs_size _) (ble_size (digs_size _)) (digs_oneL _) (over_all (c := digs n) (v := digs (n / 10)) (((digs_size _) : (digs n).size = 16).trans ((digs_size _) : (digs (n / 10)).size = 16).symm)) rfl rfl rfl rfl rfl rfl ?_
    refine h_nil (f_block ?_)
    exact f_again (n / 10, dgt (n % 10) :: l) 3 (tx_step hI (.inr hn)) (by simp [hl] <;> omega) ⟨rfl, rfl, rfl, rfl, trivial⟩ rfl
  · skip
    refine d_reg ?_
    refine h_q hflW rfl ?_
    refine h_same (beq_false_of_ne hl) rfl rfl rfl rfl ?_
    refine h_q hflW rfl ?_
    refine h_load 1 (v := .agg (digs n)) (reads_all (tyDigC _)) rfl rfl rfl rfl ?_
    refine h_call (ent_of Tryd.func64 (by kernel_rfl) rfl) (fun w hH => zeroB _ n true (Nat.lt_of_le_of_lt hI.1 hN) (by simp [hn])) rfl rfl rfl rfl ?_
    refine h_q hflW rfl ?_
    refine h_done (d_else rfl (d_exit (f_then_exit (f_then_exit (f_block_exit (f_to (d_reg ?_)))))))
    refine h_q hflW rfl ?_
    refine h_done (d_ret ?_)
    exact f_fin1 (.tmp rfl) (fun w h => ⟨by rw [tx_end hI hl hn], h.up.below⟩) rfl
end Go.Proofs.YtfalllekhcocgaaDoor

namespace Go.Proofs.YtfalllekhcocgaaDoor
open Go.RowKit

theorem over_14 : (over? (digs 0).toList 4 [Value.int .u64 1]).toArray = digs (BP 4) := by kernel_rfl
theorem over_dig {c v : Nat} (hc : c < 4294967296) (hv : v < 4294967296) : (over? (digs c).toList 0 [Value.int .u64 (v : Int)]).toArray = digs v := by
  have h := digs_set c (j := 0) hv
  have e : put c 0 v = v := by unfold put dg; rw [BP_zero]; omega
  rw [e] at h
  rw [← h]
  apply Array.toList_inj.1
  rw [Array.toList_setIfInBounds]
  have hl : 0 < (digs c).toList.length := by simp [digs_size]
  unfold over?
  cases hd : (digs c).toList with
  | nil => rw [hd] at hl; exact absurd hl (by simp)
  | cons a r => simp
/-- what the reference reads of a text -/
def digitsV (l : List UInt8) : Value := if plainN l then .tuple #[.agg (digs (if 60 < l.length then BP 4 else nv l)), .bool true] else .tuple #[.agg (digs 0), .bool false]
theorem conv_sub {b : UInt8} (h : isD b) : IntKind.wrap .u8 ((b.toNat : Int) - 48) = ((b.toNat - 48 : Nat) : Int) := by
  unfold isD at h
  rw [IntWalk.u8_in _ (by omega)]; omega
theorem conv_up {b : UInt8} : IntKind.wrap .u64 ((b.toNat - 48 : Nat) : Int) = ((b.toNat - 48 : Nat) : Int) := by
  have := b.toNat_lt
  exact IntWalk.u64_in _ (by omega)
theorem digits_no {l : List UInt8} (h : ¬ plainN l) : digitsV l = .tuple #[.agg (digs 0), .bool false] := if_neg h
theorem pw7 : 10 ^ 60 < BP 7 := Nat.le_of_ble_eq_true (by kernel_rfl)
theorem ten7 : 10 < BP 7 := Nat.le_of_ble_eq_true (by kernel_rfl)
theorem nv_small {l : List UInt8} {j : Nat} (ha : allD l) (hl : ¬ 60 < l.length) : nv (l.take j) < BP 7 := by
  have h1 := nv_lt (l := l.take j) fun x hx => ha x (List.mem_of_mem_take hx)
  have h2 : 10 ^ (l.take j).length ≤ 10 ^ 60 := Nat.pow_le_pow_right (by decide) (by rw [List.length_take]; omega)
  have := pw7
  omega
theorem head_ways (l : List UInt8) : l = [] ∨ (l ≠ [] ∧ l.length ≤ 1) ∨ (l ≠ [] ∧ 1 < l.length ∧ ∃ b, l[0]? = some b ∧ b.toNat = 48) ∨ (l ≠ [] ∧ 1 < l.length ∧ ∃ b, l[0]? = some b ∧ b.toNat ≠ 48) := by
  cases l with
  | nil => exact .inl rfl
  | cons c r =>
    by_cases h : (c :: r).length ≤ 1
    · exact .inr (.inl ⟨by simp, h⟩)
    · by_cases hc : c.toNat = 48
      · exact .inr (.inr (.inl ⟨by simp, by omega, c, rfl, hc⟩))
      · exact .inr (.inr (.inr ⟨by simp, by omega, c, rfl, hc⟩))
theorem head_48 {l : List UInt8} {b : UInt8} (h : l[0]? = some b) (e : b.toNat = 48) : l.head? = some 48 := by
  rw [List.head?_eq_getElem?, h]
  congr 1
  exact UInt8.toNat_inj.1 (by simpa using e)
theorem head_no48 {l : List UInt8} {b : UInt8} (h : l[0]? = some b) (e : b.toNat ≠ 48) : l.head? ≠ some 48 := by
  rw [List.head?_eq_getElem?, h]
  intro he
  apply e
  rw [Option.some.inj he]; rfl

theorem rdigits_any (w : World) (l : List UInt8) (hlen : l.length ≤ 9223372036854775807) : Calls Tryd.prog 69 #[.string (bs l)] w fun e w' => e = .returned (digitsV l) ∧ Below w.heap.size w w' := by
  refine d_in (args := [.string (bs l)]) 63 Tryd.func69 rfl rfl rfl ?_
  refine d_reg ?_
  refine h_alloc zeDig rfl rfl ?_; intro g2_1
  refine h_q hflW rfl ?_
  refine h_done (d_reg ?_)
  refine h_alloc zeDig rfl rfl ?_; intro g4_2
  refine h_alloc zeDig rfl rfl ?_; intro g5_3
  refine h_alloc zeDig rfl rfl ?_; intro g6_4
  refine h_done (d_reg ?_)
  refine h_val rfl (.pointer (some ⟨g5_3, 0, none⟩)) (fun b w hb hH => by exact exec_idx (off := 0) (ixDigits 0 (by decide)) rfl rfl rfl hb) ?_
  refine h_store 1 (v := .int .u64 10) (digs 10) tyUint64.2 rfl (ble_size1 (digs_size _) (by decide)) rfl over_010 rfl rfl rfl rfl rfl rfl ?_
  refine h_done (d_seq ?_)
  rcases head_ways l with hl | ⟨hne, h1⟩ | ⟨hne, h1, b0, hb0, e0⟩ | ⟨hne, h1, b0, hb0, e0⟩
  · skip
    have hno : ¬ plainN l := fun hp => hp.1 hl
    refine d_reg ?_
    refine h_q hflW rfl ?_
    refine h_same (beq_iff_eq.2 hl) rfl rfl rfl rfl ?_
    refine h_q hflW rfl ?_
    refine h_done (d_then rfl (d_reg ?_))
    refine h_load 2 (v := .agg (digs 0)) (reads_all (tyDigC _)) rfl rfl rfl rfl ?_
    refine h_store 3 (v := .agg (digs 0)) (digs 0) tyDigits.2 (digs_size _) (ble_size (digs_size _)) (digs_oneL _) (over_all (c := digs 0) (v := digs 0) (((digs_size _) : (digs 0).size = 16).trans ((digs_size _) : (digs 0).size = 16).symm)) rfl rfl rfl rfl rfl rfl ?_
    refine h_q hflW rfl ?_
    refine h_done (d_ret (f_then_ret ?_))
    exact f_fin2 (.cell 3 (v := .agg (digs 0)) (reads_all (tyDigC _)) rfl rfl) (.tmp rfl) (fun w h => ⟨by rw [digits_no hno], h.up.below⟩) rfl
  · skip
    have hh : 1 < l.length → l.head? ≠ some 48 := fun h => absurd h (by omega)
    refine d_reg ?_
    refine h_q hflW rfl ?_
    refine h_same (beq_false_of_ne hne) rfl rfl rfl rfl ?_
    refine h_q hflW rfl ?_
    refine h_builtin (v := .int .i64 (l.length : Int)) (fun w cs => run_len_bs Tryd.underlying9 _ _ w cs) rfl rfl rfl ?_
    refine h_cmp (cmp_gtr_f (by omega)) rfl rfl rfl rfl ?_
    refine h_q hflW rfl ?_
    refine h_done (d_else rfl (d_skip (f_to (d_seq (d_reg ?_)))))
    refine h_q hflW rfl ?_
    refine h_done (d_block ?_)
    refine d_loop (α := Nat) (fun i => [(0, .string (bs l)), (2, .pointer (some ⟨g2_1, 0, none⟩)), (3, .bool false), (4, .pointer (some ⟨g4_2, 0, none⟩)), (5, .pointer (some ⟨g5_3, 0, none⟩)), (6, .pointer (some ⟨g6_4, 0, none⟩)), (7, .int .i64 (i : Int))]) (fun i => [(g6_4, 74, digs 0), (g5_3, 74, digs 10), (g4_2, 74, digs 0), (g2_1, 74, digs 0)]) (fun i => i ≤ l.length ∧ allD (l.take i)) (fun i => l.length - i) 0 ⟨by omega, by simp [allD]⟩ ⟨rfl, rfl, rfl, rfl, rfl, rfl, rfl, trivial⟩ rfl ?_
    rintro i ⟨hi, ha⟩
    refine WC2.at_ (env' := [(0, .string (bs l)), (2, .pointer (some ⟨g2_1, 0, none⟩)), (3, .bool false), (4, .pointer (some ⟨g4_2, 0, none⟩)), (5, .pointer (some ⟨g5_3, 0, none⟩)), (6, .pointer (some ⟨g6_4, 0, none⟩)), (7, .int .i64 (i : Int))]) (rs' := [(g6_4, 74, digs 0), (g5_3, 74, digs 10), (g4_2, 74, digs 0), (g2_1, 74, digs 0)]) ⟨rfl, rfl, rfl, rfl, rfl, rfl, rfl, trivial⟩ rfl ?_
    refine d_seq ?_
    by_cases hil : i < l.length
    · skip
      obtain ⟨ch, hch⟩ : ∃ ch, l[i]? = some ch := ⟨_, List.getElem?_eq_getElem hil⟩
      refine d_reg ?_
      refine h_q hflW rfl ?_
      refine h_builtin (v := .int .i64 (l.length : Int)) (fun w cs => run_len_bs Tryd.underlying9 _ _ w cs) rfl rfl rfl ?_
      refine h_cmp (cmp_lss_t (by omega)) rfl rfl rfl rfl ?_
      refine h_done (d_then rfl (d_skip (f_to (d_seq (d_block ?_)))))
      rcases dig_ways ch with hw | hw | hw
      · skip
        have hno : ¬ plainN l := fun hp => not_allD hch (by unfold isD; omega) hp.2.1
        refine d_reg ?_
        refine h_q hflW rfl ?_
        refine h_val rfl (.int .u8 (ch.toNat : Int)) (fun b w hb hH => by exact exec_index (i := i) Tryd.underlying9 hch rfl rfl rfl hb) ?_
        refine h_cmp (cmp_lss_t (by omega)) rfl rfl rfl rfl ?_
        refine h_q hflW rfl ?_
        refine h_done (d_then rfl (d_reg ?_))
        refine h_load 2 (v := .agg (digs 0)) (reads_all (tyDigC _)) rfl rfl rfl rfl ?_
        refine h_store 3 (v := .agg (digs 0)) (digs 0) tyDigits.2 (digs_size _) (ble_size (digs_size _)) (digs_oneL _) (over_all (c := digs 0) (v := digs 0) (((digs_size _) : (digs 0).size = 16).trans ((digs_size _) : (digs 0).size = 16).symm)) rfl rfl rfl rfl rfl rfl ?_
        refine h_q hflW rfl ?_
        refine h_done (d_ret (f_block_ret (f_then_ret (f_then_ret (f_block_ret (f_then_ret ?_))))))
        exact f_fin2 (.cell 3 (v := .agg (digs 0)) (reads_all (tyDigC _)) rfl rfl) (.tmp rfl) (fun w h => ⟨by rw [digits_no hno], h.up.below⟩) rfl
      · skip
        have hno : ¬ plainN l := fun hp => not_allD hch (by unfold isD; omega) hp.2.1
        refine d_reg ?_
        refine h_q hflW rfl ?_
        refine h_val rfl (.int .u8 (ch.toNat : Int)) (fun b w hb hH => by exact exec_index (i := i) Tryd.underlying9 hch rfl rfl rfl hb) ?_
        refine h_cmp (cmp_lss_f (by omega)) rfl rfl rfl rfl ?_
        refine h_q hflW rfl ?_
        refine h_val rfl (.int .u8 (ch.toNat : Int)) (fun b w hb hH => by exact exec_index (i := i) Tryd.underlying9 hch rfl rfl rfl hb) ?_
        refine h_cmp (cmp_gtr_t (by omega)) rfl rfl rfl rfl ?_
        refine h_q hflW rfl ?_
        refine h_done (d_then rfl (d_reg ?_))
        refine h_load 2 (v := .agg (digs 0)) (reads_all (tyDigC _)) rfl rfl rfl rfl ?_
        refine h_store 3 (v := .agg (digs 0)) (digs 0) tyDigits.2 (digs_size _) (ble_size (digs_size _)) (digs_oneL _) (over_all (c := digs 0) (v := digs 0) (((digs_size _) : (digs 0).size = 16).trans ((digs_size _) : (digs 0).size = 16).symm)) rfl rfl rfl rfl rfl rfl ?_
        refine h_q hflW rfl ?_
        refine h_done (d_ret (f_block_ret (f_then_ret (f_then_ret (f_block_ret (f_then_ret ?_))))))
        exact f_fin2 (.cell 3 (v := .agg (digs 0)) (reads_all (tyDigC _)) rfl rfl) (.tmp rfl) (fun w h => ⟨by rw [digits_no hno], h.up.below⟩) rfl
      · skip
        refine d_reg ?_
        refine h_q hflW rfl ?_
        refine h_val rfl (.int .u8 (ch.toNat : Int)) (fun b w hb hH => by exact exec_index (i := i) Tryd.underlying9 hch rfl rfl rfl hb) ?_
        refine h_cmp (cmp_lss_f (by unfold isD at hw; omega)) rfl rfl rfl rfl ?_
        refine h_q hflW rfl ?_
        refine h_val rfl (.int .u8 (ch.toNat : Int)) (fun b w hb hH => by exact exec_index (i := i) Tryd.underlying9 hch rfl rfl rfl hb) ?_
        refine h_cmp (cmp_gtr_f (by unfold isD at hw; omega)) rfl rfl rfl rfl ?_
        refine h_q hflW rfl ?_
        refine h_done (d_else rfl (d_skip (f_block (f_to (d_reg1 ?_)))))
        refine h_q hflW rfl ?_
        refine h_ar (z' := ((i + 1 : Nat) : Int)) (by rw [IntWalk.i64_in _ (by omega)]; omega) rfl rfl rfl rfl rfl ?_
        refine h_q hflW rfl ?_
        refine h_nil ?_
        exact f_again (i + 1) 0 ⟨by omega, allD_step hch ha hw⟩ (by omega) ⟨rfl, rfl, rfl, rfl, rfl, rfl, rfl, trivial⟩ rfl
    · skip
      have hp : plainN l := ⟨hne, take_all hil ▸ ha, hh⟩
      refine d_reg ?_
      refine h_q hflW rfl ?_
      refine h_builtin (v := .int .i64 (l.length : Int)) (fun w cs => run_len_bs Tryd.underlying9 _ _ w cs) rfl rfl rfl ?_
      refine h_cmp (cmp_lss_f (by omega)) rfl rfl rfl rfl ?_
      refine h_done (d_else rfl (d_exit (f_then_exit (f_then_exit (f_block_exit (f_to (d_seq ?_)))))))
      by_cases h60 : 60 < l.length
      · skip
        refine d_reg ?_
        refine h_q hflW rfl ?_
        refine h_builtin (v := .int .i64 (l.length : Int)) (fun w cs => run_len_bs Tryd.underlying9 _ _ w cs) rfl rfl rfl ?_
        refine h_cmp (cmp_gtr_t (by omega)) rfl rfl rfl rfl ?_
        refine h_done (d_then rfl (d_reg ?_))
        refine h_val rfl (.pointer (some ⟨g4_2, 4, none⟩)) (fun b w hb hH => by exact exec_idx (off := 0) (ixDigits 4 (by decide)) rfl rfl rfl hb) ?_
        refine h_store 2 (v := .int .u64 1) (digs (BP 4)) tyUint64.2 rfl (ble_size1 (digs_size _) (by decide)) rfl over_14 rfl rfl rfl rfl rfl rfl ?_
        refine h_done (d_reg ?_)
        refine h_load 2 (v := .agg (digs (BP 4))) (reads_all (tyDigC _)) rfl rfl rfl rfl ?_
        refine h_store 3 (v := .agg (digs (BP 4))) (digs (BP 4)) tyDigits.2 (digs_size _) (ble_size (digs_size _)) (digs_oneL _) (over_all (c := digs 0) (v := digs (BP 4)) (((digs_size _) : (digs 0).size = 16).trans ((digs_size _) : (digs (BP 4)).size = 16).symm)) rfl rfl rfl rfl rfl rfl ?_
        refine h_q hflW rfl ?_
        refine h_done (d_ret (f_then_ret ?_))
        exact f_fin2 (.cell 3 (v := .agg (digs (BP 4))) (reads_all (tyDigC _)) rfl rfl) (.tmp rfl) (fun w h => ⟨by rw [digitsV, if_pos hp, if_pos h60], h.up.below⟩) rfl
      · skip
        refine d_reg ?_
        refine h_q hflW rfl ?_
        refine h_builtin (v := .int .i64 (l.length : Int)) (fun w cs => run_len_bs Tryd.underlying9 _ _ w cs) rfl rfl rfl ?_
        refine h_cmp (cmp_gtr_f (by omega)) rfl rfl rfl rfl ?_
        refine h_done (d_else rfl (d_skip (f_to (d_seq (d_reg ?_)))))
        refine h_q hflW rfl ?_
        refine h_done (d_block ?_)
        refine d_loop (α := Nat × Nat) (fun (j, c) => [(0, .string (bs l)), (2, .pointer (some ⟨g2_1, 0, none⟩)), (3, .bool false), (4, .pointer (some ⟨g4_2, 0, none⟩)), (5, .pointer (some ⟨g5_3, 0, none⟩)), (6, .pointer (some ⟨g6_4, 0, none⟩)), (8, .int .i64 (j : Int))]) (fun (j, c) => [(g6_4, 74, digs c), (g5_3, 74, digs 10), (g4_2, 74, digs (nv (l.take j))), (g2_1, 74, digs 0)]) (fun (j, c) => j ≤ l.length ∧ c < 10) (fun (j, c) => l.length - j) (0, 0) ⟨by omega, by omega⟩ ⟨rfl, rfl, rfl, rfl, rfl, rfl, rfl, trivial⟩ rfl ?_
        rintro ⟨j, c⟩ ⟨hj, hc⟩
        refine WC2.at_ (env' := [(0, .string (bs l)), (2, .pointer (some ⟨g2_1, 0, none⟩)), (3, .bool false), (4, .pointer (some ⟨g4_2, 0, none⟩)), (5, .pointer (some ⟨g5_3, 0, none⟩)), (6, .pointer (some ⟨g6_4, 0, none⟩)), (8, .int .i64 (j : Int))]) (rs' := [(g6_4, 74, digs c), (g5_3, 74, digs 10), (g4_2, 74, digs (nv (l.take j))), (g2_1, 74, digs 0)]) ⟨rfl, rfl, rfl, rfl, rfl, rfl, rfl, trivial⟩ rfl ?_
        refine d_seq ?_
        by_cases hjl : j < l.length
        · skip
          obtain ⟨ch, hch⟩ : ∃ ch, l[j]? = some ch := ⟨_, List.getElem?_eq_getElem hjl⟩
          have hbd : isD ch := hp.2.1 ch (List.mem_of_getElem? hch)
          have hbn : ch.toNat - 48 < 10 := by unfold isD at hbd; omega
          refine d_reg ?_
          refine h_q hflW rfl ?_
          refine h_builtin (v := .int .i64 (l.length : Int)) (fun w cs => run_len_bs Tryd.underlying9 _ _ w cs) rfl rfl rfl ?_
          refine h_cmp (cmp_lss_t (by omega)) rfl rfl rfl rfl ?_
          refine h_done (d_then rfl (d_skip (f_to (d_seq (d_block (d_reg ?_))))))
          refine h_q hflW rfl ?_
          refine h_val rfl (.int .u8 (ch.toNat : Int)) (fun b w hb hH => by exact exec_index (i := j) Tryd.underlying9 hch rfl rfl rfl hb) ?_
          refine h_ar (z' := ((ch.toNat - 48 : Nat) : Int)) (conv_sub hbd) rfl rfl rfl rfl rfl ?_
          refine h_val rfl (.int .u64 ((ch.toNat - 48 : Nat) : Int)) (fun b w hb hH => by exact exec_conv Tryd.underlying5 Tryd.underlying22 conv_up rfl rfl hb) ?_
          refine h_val rfl (.pointer (some ⟨g6_4, 0, none⟩)) (fun b w hb hH => by exact exec_idx (off := 0) (ixDigits 0 (by decide)) rfl rfl rfl hb) ?_
          refine h_store 0 (v := .int .u64 ((ch.toNat - 48 : Nat) : Int)) (digs (ch.toNat - 48)) tyUint64.2 rfl (ble_size1 (digs_size _) (by decide)) rfl (over_dig (by omega) (by omega)) rfl rfl rfl rfl rfl rfl ?_
          refine h_done ?_
          refine d_par 5 2 [⟨.quiet, 0, fun _ => .agg (digs (nv (l.take j))), []⟩, ⟨.quiet, 0, fun _ => .agg (digs 10), []⟩, ⟨.call, 1, fun _ => .agg (digs (nv (l.take j) * 10)), [0, 1]⟩, ⟨.quiet, 0, fun _ => .agg (digs (ch.toNat - 48)), []⟩, ⟨.call, 2, fun _ => .agg (digs (nv (l.take (j + 1)))), [2, 3]⟩] [(0, .string (bs l)), (2, .pointer (some ⟨g2_1, 0, none⟩)), (3, .bool false), (4, .pointer (some ⟨g4_2, 0, none⟩)), (5, .pointer (some ⟨g5_3, 0, none⟩)), (6, .pointer (some ⟨g6_4, 0, none⟩)), (8, .int .i64 (j : Int)), (45, .int .i64 (j : Int)), (46, .string (bs l)), (47, .int .i64 (l.length : Int)), (48, .bool true), (51, .string (bs l)), (52, .int .i64 (j : Int)), (53, .int .u8 (ch.toNat : Int)), (54, .int .u8 ((ch.toNat - 48 : Nat) : Int)), (55, .int .u64 ((ch.toNat - 48 : Nat) : Int)), (56, .pointer (some ⟨g6_4, 0, none⟩))] (by kernel_rfl) (by kernel_rfl) ⟨rfl, rfl, rfl, rfl, rfl, rfl, rfl, rfl, rfl, rfl, rfl, rfl, rfl, rfl, rfl, rfl, rfl, trivial⟩ ?_ ?_
          · skip
            refine o_cons (o_load 2 (reads_all (tyDigC _)) (fun _ _ => rfl) rfl (fun _ _ => rfl) rfl) ?_
            refine o_cons (o_load 1 (reads_all (tyDigC _)) (fun _ _ => rfl) rfl (fun _ _ => rfl) rfl) ?_
            refine o_cons (o_call (ent_of Tryd.func92 (by kernel_rfl) rfl) (fun w hU => rmul_any _ (nv (l.take j)) 10 (Nat.lt_of_lt_of_le (nv_small hp.2.1 h60) (BP_le (by decide))) ten7) (fun _ _ => rfl) rfl (fun _ _ => rfl) (fun _ _ => rfl)) ?_
            refine o_cons (o_load 0 (reads_all (tyDigC _)) (fun _ _ => rfl) rfl (fun _ _ => rfl) rfl) ?_
            refine o_cons (o_call (ent_of Tryd.func87 (by kernel_rfl) rfl) (fun w hU => (nv_step hch ▸ radd_any _ (nv (l.take j) * 10) (ch.toNat - 48) (by rw [nv_step hch]; exact Nat.lt_of_lt_of_le (nv_small hp.2.1 h60) (BP_le (by decide))))) (fun _ _ => rfl) rfl (fun _ _ => rfl) (fun _ _ => rfl)) ?_
            exact o_nil
          intro σ5 gs5
          refine WL2.keep (env' := [(0, .string (bs l)), (2, .pointer (some ⟨g2_1, 0, none⟩)), (3, .bool false), (4, .pointer (some ⟨g4_2, 0, none⟩)), (5, .pointer (some ⟨g5_3, 0, none⟩)), (6, .pointer (some ⟨g6_4, 0, none⟩)), (8, .int .i64 (j : Int)), (45, .int .i64 (j : Int)), (46, .string (bs l)), (47, .int .i64 (l.length : Int)), (48, .bool true), (51, .string (bs l)), (52, .int .i64 (j : Int)), (53, .int .u8 (ch.toNat : Int)), (54, .int .u8 ((ch.toNat - 48 : Nat) : Int)), (55, .int .u64 ((ch.toNat - 48 : Nat) : Int)), (56, .pointer (some ⟨g6_4, 0, none⟩)), (57, .agg (digs (nv (l.take j)))), (58, .agg (digs 10)), (59, .agg (digs (nv (l.take j) * 10))), (60, .agg (digs (ch.toNat - 48))), (61, .agg (digs (nv (l.take (j + 1)))))]) ⟨rfl, rfl, rfl, rfl, rfl, rfl, rfl, rfl, rfl, rfl, rfl, rfl, rfl, rfl, rfl, rfl, rfl, rfl, rfl, rfl, rfl, rfl, trivial⟩ ?_
          refine h_store 2 (v := .agg (digs (nv (l.take (j + 1))))) (digs (nv (l.take (j + 1)))) tyDigits.2 (digs_size _) (ble_size (digs_size _)) (digs_oneL _) (over_all (c := digs (nv (l.take j))) (v := digs (nv (l.take (j + 1)))) (((digs_size _) : (digs (nv (l.take j))).size = 16).trans ((digs_size _) : (digs (nv (l.take (j + 1)))).size = 16).symm)) rfl rfl rfl rfl rfl rfl ?_
          refine h_nil (f_block (f_to (d_reg1 ?_)))
          refine h_q hflW rfl ?_
          refine h_ar (z' := ((j + 1 : Nat) : Int)) (by rw [IntWalk.i64_in _ (by omega)]; omega) rfl rfl rfl rfl rfl ?_
          refine h_q hflW rfl ?_
          refine h_nil ?_
          exact f_again (j + 1, ch.toNat - 48) 0 ⟨by omega, hbn⟩ (by show l.length - (j + 1) < l.length - j; omega) ⟨rfl, rfl, rfl, rfl, rfl, rfl, rfl, trivial⟩ rfl
        · skip
          refine d_reg ?_
          refine h_q hflW rfl ?_
          refine h_builtin (v := .int .i64 (l.length : Int)) (fun w cs => run_len_bs Tryd.underlying9 _ _ w cs) rfl rfl rfl ?_
          refine h_cmp (cmp_lss_f (by omega)) rfl rfl rfl rfl ?_
          refine h_done (d_else rfl (d_exit (f_then_exit (f_then_exit (f_block_exit (f_to (d_reg ?_)))))))
          refine h_load 2 (v := .agg (digs (nv (l.take j)))) (reads_all (tyDigC _)) rfl rfl rfl rfl ?_
          refine h_store 3 (v := .agg (digs (nv (l.take j)))) (digs (nv (l.take j))) tyDigits.2 (digs_size _) (ble_size (digs_size _)) (digs_oneL _) (over_all (c := digs 0) (v := digs (nv (l.take j))) (((digs_size _) : (digs 0).size = 16).trans ((digs_size _) : (digs (nv (l.take j))).size = 16).symm)) rfl rfl rfl rfl rfl rfl ?_
          refine h_q hflW rfl ?_
          refine h_done (d_ret ?_)
          exact f_fin2 (.cell 3 (v := .agg (digs (nv (l.take j)))) (reads_all (tyDigC _)) rfl rfl) (.tmp rfl) (fun w h => ⟨by rw [digitsV, if_pos hp, if_neg h60, take_all hjl], h.up.below⟩) rfl
  · skip
    have hno : ¬ plainN l := fun hp => hp.2.2 h1 (head_48 hb0 e0)
    refine d_reg ?_
    refine h_q hflW rfl ?_
    refine h_same (beq_false_of_ne hne) rfl rfl rfl rfl ?_
    refine h_q hflW rfl ?_
    refine h_builtin (v := .int .i64 (l.length : Int)) (fun w cs => run_len_bs Tryd.underlying9 _ _ w cs) rfl rfl rfl ?_
    refine h_cmp (cmp_gtr_t (by omega)) rfl rfl rfl rfl ?_
    refine h_q hflW rfl ?_
    refine h_val rfl (.int .u8 (b0.toNat : Int)) (fun b w hb hH => by exact exec_index (i := 0) Tryd.underlying9 hb0 rfl rfl rfl hb) ?_
    refine h_cmp (cmp_eql_t (by omega)) rfl rfl rfl rfl ?_
    refine h_q hflW rfl ?_
    refine h_done (d_then rfl (d_reg ?_))
    refine h_load 2 (v := .agg (digs 0)) (reads_all (tyDigC _)) rfl rfl rfl rfl ?_
    refine h_store 3 (v := .agg (digs 0)) (digs 0) tyDigits.2 (digs_size _) (ble_size (digs_size _)) (digs_oneL _) (over_all (c := digs 0) (v := digs 0) (((digs_size _) : (digs 0).size = 16).trans ((digs_size _) : (digs 0).size = 16).symm)) rfl rfl rfl rfl rfl rfl ?_
    refine h_q hflW rfl ?_
    refine h_done (d_ret (f_then_ret ?_))
    exact f_fin2 (.cell 3 (v := .agg (digs 0)) (reads_all (tyDigC _)) rfl rfl) (.tmp rfl) (fun w h => ⟨by rw [digits_no hno], h.up.below⟩) rfl
  · skip
    have hh : 1 < l.length → l.head? ≠ some 48 := fun _ => head_no48 hb0 e0
    refine d_reg ?_
    refine h_q hflW rfl ?_
    refine h_same (beq_false_of_ne hne) rfl rfl rfl rfl ?_
    refine h_q hflW rfl ?_
    refine h_builtin (v := .int .i64 (l.length : Int)) (fun w cs => run_len_bs Tryd.underlying9 _ _ w cs) rfl rfl rfl ?_
    refine h_cmp (cmp_gtr_t (by omega)) rfl rfl rfl rfl ?_
    refine h_q hflW rfl ?_
    refine h_val rfl (.int .u8 (b0.toNat : Int)) (fun b w hb hH => by exact exec_index (i := 0) Tryd.underlying9 hb0 rfl rfl rfl hb) ?_
    refine h_cmp (cmp_eql_f (by omega)) rfl rfl rfl rfl ?_
    refine h_q hflW rfl ?_
    refine h_done (d_else rfl (d_skip (f_to (d_seq (d_reg ?_)))))
    refine h_q hflW rfl ?_
    refine h_done (d_block ?_)
    refine d_loop (α := Nat) (fun i => [(0, .string (bs l)), (2, .pointer (some ⟨g2_1, 0, none⟩)), (3, .bool false), (4, .pointer (some ⟨g4_2, 0, none⟩)), (5, .pointer (some ⟨g5_3, 0, none⟩)), (6, .pointer (some ⟨g6_4, 0, none⟩)), (7, .int .i64 (i : Int))]) (fun i => [(g6_4, 74, digs 0), (g5_3, 74, digs 10), (g4_2, 74, digs 0), (g2_1, 74, digs 0)]) (fun i => i ≤ l.length ∧ allD (l.take i)) (fun i => l.length - i) 0 ⟨by omega, by simp [allD]⟩ ⟨rfl, rfl, rfl, rfl, rfl, rfl, rfl, trivial⟩ rfl ?_
    rintro i ⟨hi, ha⟩
    refine WC2.at_ (env' := [(0, .string (bs l)), (2, .pointer (some ⟨g2_1, 0, none⟩)), (3, .bool false), (4, .pointer (some ⟨g4_2, 0, none⟩)), (5, .pointer (some ⟨g5_3, 0, none⟩)), (6, .pointer (some ⟨g6_4, 0, none⟩)), (7, .int .i64 (i : Int))]) (rs' := [(g6_4, 74, digs 0), (g5_3, 74, digs 10), (g4_2, 74, digs 0), (g2_1, 74, digs 0)]) ⟨rfl, rfl, rfl, rfl, rfl, rfl, rfl, trivial⟩ rfl ?_
    refine d_seq ?_
    by_cases hil : i < l.length
    · skip
      obtain ⟨ch, hch⟩ : ∃ ch, l[i]? = some ch := ⟨_, List.getElem?_eq_getElem hil⟩
      refine d_reg ?_
      refine h_q hflW rfl ?_
      refine h_builtin (v := .int .i64 (l.length : Int)) (fun w cs => run_len_bs Tryd.underlying9 _ _ w cs) rfl rfl rfl ?_
      refine h_cmp (cmp_lss_t (by omega)) rfl rfl rfl rfl ?_
      refine h_done (d_then rfl (d_skip (f_to (d_seq (d_block ?_)))))
      rcases dig_ways ch with hw | hw | hw
      · skip
        have hno : ¬ plainN l := fun hp => not_allD hch (by unfold isD; omega) hp.2.1
        refine d_reg ?_
        refine h_q hflW rfl ?_
        refine h_val rfl (.int .u8 (ch.toNat : Int)) (fun b w hb hH => by exact exec_index (i := i) Tryd.underlying9 hch rfl rfl rfl hb) ?_
        refine h_cmp (cmp_lss_t (by omega)) rfl rfl rfl rfl ?_
        refine h_q hflW rfl ?_
        refine h_done (d_then rfl (d_reg ?_))
        refine h_load 2 (v := .agg (digs 0)) (reads_all (tyDigC _)) rfl rfl rfl rfl ?_
        refine h_store 3 (v := .agg (digs 0)) (digs 0) tyDigits.2 (digs_size _) (ble_size (digs_size _)) (digs_oneL _) (over_all (c := digs 0) (v := digs 0) (((digs_size _) : (digs 0).size = 16).trans ((digs_size _) : (digs 0).size = 16).symm)) rfl rfl rfl rfl rfl rfl ?_
        refine h_q hflW rfl ?_
        refine h_done (d_ret (f_block_ret (f_then_ret (f_then_ret (f_block_ret (f_then_ret ?_))))))
        exact f_fin2 (.cell 3 (v := .agg (digs 0)) (reads_all (tyDigC _)) rfl rfl) (.tmp rfl) (fun w h => ⟨by rw [digits_no hno], h.up.below⟩) rfl
      · skip
        have hno : ¬ plainN l := fun hp => not_allD hch (by unfold isD; omega) hp.2.1
        refine d_reg ?_
        refine h_q hflW rfl ?_
        refine h_val rfl (.int .u8 (ch.toNat : Int)) (fun b w hb hH => by exact exec_index (i := i) Tryd.underlying9 hch rfl rfl rfl hb) ?_
        refine h_cmp (cmp_lss_f (by omega)) rfl rfl rfl rfl ?_
        refine h_q hflW rfl ?_
        refine h_val rfl (.int .u8 (ch.toNat : Int)) (fun b w hb hH => by exact exec_index (i := i) Tryd.underlying9 hch rfl rfl rfl hb) ?_
        refine h_cmp (cmp_gtr_t (by omega)) rfl rfl rfl rfl ?_
        refine h_q hflW rfl ?_
        refine h_done (d_then rfl (d_reg ?_))
        refine h_load 2 (v := .agg (digs 0)) (reads_all (tyDigC _)) rfl rfl rfl rfl ?_
        refine h_store 3 (v := .agg (digs 0)) (digs 0) tyDigits.2 (digs_size _) (ble_size (digs_size _)) (digs_oneL _) (over_all (c := digs 0) (v := digs 0) (((digs_size _) : (digs 0).size = 16).trans ((digs_size _) : (digs 0).size = 16).symm)) rfl rfl rfl rfl rfl rfl ?_
        refine h_q hflW rfl ?_
        refine h_done (d_ret (f_block_ret (f_then_ret (f_then_ret (f_block_ret (f_then_ret ?_))))))
        exact f_fin2 (.cell 3 (v := .agg (digs 0)) (reads_all (tyDigC _)) rfl rfl) (.tmp rfl) (fun w h => ⟨by rw [digits_no hno], h.up.below⟩) rfl
      · skip
        refine d_reg ?_
        refine h_q hflW rfl ?_
        refine h_val rfl (.int .u8 (ch.toNat : Int)) (fun b w hb hH => by exact exec_index (i := i) Tryd.underlying9 hch rfl rfl rfl hb) ?_
        refine h_cmp (cmp_lss_f (by unfold isD at hw; omega)) rfl rfl rfl rfl ?_
        refine h_q hflW rfl ?_
        refine h_val rfl (.int .u8 (ch.toNat : Int)) (fun b w hb hH => by exact exec_index (i := i) Tryd.underlying9 hch rfl rfl rfl hb) ?_
        refine h_cmp (cmp_gtr_f (by unfold isD at hw; omega)) rfl rfl rfl rfl ?_
        refine h_q hflW rfl ?_
        refine h_done (d_else rfl (d_skip (f_block (f_to (d_reg1 ?_)))))
        refine h_q hflW rfl ?_
        refine h_ar (z' := ((i + 1 : Nat) : Int)) (by rw [IntWalk.i64_in _ (by omega)]; omega) rfl rfl rfl rfl rfl ?_
        refine h_q hflW rfl ?_
        refine h_nil ?_
        exact f_again (i + 1) 0 ⟨by omega, allD_step hch ha hw⟩ (by omega) ⟨rfl, rfl, rfl, rfl, rfl, rfl, rfl, trivial⟩ rfl
    · skip
      have hp : plainN l := ⟨hne, take_all hil ▸ ha, hh⟩
      refine d_reg ?_
      refine h_q hflW rfl ?_
      refine h_builtin (v := .int .i64 (l.length : Int)) (fun w cs => run_len_bs Tryd.underlying9 _ _ w cs) rfl rfl rfl ?_
      refine h_cmp (cmp_lss_f (by omega)) rfl rfl rfl rfl ?_
      refine h_done (d_else rfl (d_exit (f_then_exit (f_then_exit (f_block_exit (f_to (d_seq ?_)))))))
      by_cases h60 : 60 < l.length
      · skip
        refine d_reg ?_
        refine h_q hflW rfl ?_
        refine h_builtin (v := .int .i64 (l.length : Int)) (fun w cs => run_len_bs Tryd.underlying9 _ _ w cs) rfl rfl rfl ?_
        refine h_cmp (cmp_gtr_t (by omega)) rfl rfl rfl rfl ?_
        refine h_done (d_then rfl (d_reg ?_))
        refine h_val rfl (.pointer (some ⟨g4_2, 4, none⟩)) (fun b w hb hH => by exact exec_idx (off := 0) (ixDigits 4 (by decide)) rfl rfl rfl hb) ?_
        refine h_store 2 (v := .int .u64 1) (digs (BP 4)) tyUint64.2 rfl (ble_size1 (digs_size _) (by decide)) rfl over_14 rfl rfl rfl rfl rfl rfl ?_
        refine h_done (d_reg ?_)
        refine h_load 2 (v := .agg (digs (BP 4))) (reads_all (tyDigC _)) rfl rfl rfl rfl ?_
        refine h_store 3 (v := .agg (digs (BP 4))) (digs (BP 4)) tyDigits.2 (digs_size _) (ble_size (digs_size _)) (digs_oneL _) (over_all (c := digs 0) (v := digs (BP 4)) (((digs_size _) : (digs 0).size = 16).trans ((digs_size _) : (digs (BP 4)).size = 16).symm)) rfl rfl rfl rfl rfl rfl ?_
        refine h_q hflW rfl ?_
        refine h_done (d_ret (f_then_ret ?_))
        exact f_fin2 (.cell 3 (v := .agg (digs (BP 4))) (reads_all (tyDigC _)) rfl rfl) (.tmp rfl) (fun w h => ⟨by rw [digitsV, if_pos hp, if_pos h60], h.up.below⟩) rfl
      · skip
        refine d_reg ?_
        refine h_q hflW rfl ?_
        refine h_builtin (v := .int .i64 (l.length : Int)) (fun w cs => run_len_bs Tryd.underlying9 _ _ w cs) rfl rfl rfl ?_
        refine h_cmp (cmp_gtr_f (by omega)) rfl rfl rfl rfl ?_
        refine h_done (d_else rfl (d_skip (f_to (d_seq (d_reg ?_)))))
        refine h_q hflW rfl ?_
        refine h_done (d_block ?_)
        refine d_loop (α := Nat × Nat) (fun (j, c) => [(0, .string (bs l)), (2, .pointer (some ⟨g2_1, 0, none⟩)), (3, .bool false), (4, .pointer (some ⟨g4_2, 0, none⟩)), (5, .pointer (some ⟨g5_3, 0, none⟩)), (6, .pointer (some ⟨g6_4, 0, none⟩)), (8, .int .i64 (j : Int))]) (fun (j, c) => [(g6_4, 74, digs c), (g5_3, 74, digs 10), (g4_2, 74, digs (nv (l.take j))), (g2_1, 74, digs 0)]) (fun (j, c) => j ≤ l.length ∧ c < 10) (fun (j, c) => l.length - j) (0, 0) ⟨by omega, by omega⟩ ⟨rfl, rfl, rfl, rfl, rfl, rfl, rfl, trivial⟩ rfl ?_
        rintro ⟨j, c⟩ ⟨hj, hc⟩
        refine WC2.at_ (env' := [(0, .string (bs l)), (2, .pointer (some ⟨g2_1, 0, none⟩)), (3, .bool false), (4, .pointer (some ⟨g4_2, 0, none⟩)), (5, .pointer (some ⟨g5_3, 0, none⟩)), (6, .pointer (some ⟨g6_4, 0, none⟩)), (8, .int .i64 (j : Int))]) (rs' := [(g6_4, 74, digs c), (g5_3, 74, digs 10), (g4_2, 74, digs (nv (l.take j))), (g2_1, 74, digs 0)]) ⟨rfl, rfl, rfl, rfl, rfl, rfl, rfl, trivial⟩ rfl ?_
        refine d_seq ?_
        by_cases hjl : j < l.length
        · skip
          obtain ⟨ch, hch⟩ : ∃ ch, l[j]? = some ch := ⟨_, List.getElem?_eq_getElem hjl⟩
          have hbd : isD ch := hp.2.1 ch (List.mem_of_getElem? hch)
          have hbn : ch.toNat - 48 < 10 := by unfold isD at hbd; omega
          refine d_reg ?_
          refine h_q hflW rfl ?_
          refine h_builtin (v := .int .i64 (l.length : Int)) (fun w cs => run_len_bs Tryd.underlying9 _ _ w cs) rfl rfl rfl ?_
          refine h_cmp (cmp_lss_t (by omega)) rfl rfl rfl rfl ?_
          refine h_done (d_then rfl (d_skip (f_to (d_seq (d_block (d_reg ?_))))))
          refine h_q hflW rfl ?_
          refine h_val rfl (.int .u8 (ch.toNat : Int)) (fun b w hb hH => by exact exec_index (i := j) Tryd.underlying9 hch rfl rfl rfl hb) ?_
          refine h_ar (z' := ((ch.toNat - 48 : Nat) : Int)) (conv_sub hbd) rfl rfl rfl rfl rfl ?_
          refine h_val rfl (.int .u64 ((ch.toNat - 48 : Nat) : Int)) (fun b w hb hH => by exact exec_conv Tryd.underlying5 Tryd.underlying22 conv_up rfl rfl hb) ?_
          refine h_val rfl (.pointer (some ⟨g6_4, 0, none⟩)) (fun b w hb hH => by exact exec_idx (off := 0) (ixDigits 0 (by decide)) rfl rfl rfl hb) ?_
          refine h_store 0 (v := .int .u64 ((ch.toNat - 48 : Nat) : Int)) (digs (ch.toNat - 48)) tyUint64.2 rfl (ble_size1 (digs_size _) (by decide)) rfl (over_dig (by omega) (by omega)) rfl rfl rfl rfl rfl rfl ?_
          refine h_done ?_
          refine d_par 5 2 [⟨.quiet, 0, fun _ => .agg (digs (nv (l.take j))), []⟩, ⟨.quiet, 0, fun _ => .agg (digs 10), []⟩, ⟨.call, 1, fun _ => .agg (digs (nv (l.take j) * 10)), [0, 1]⟩, ⟨.quiet, 0, fun _ => .agg (digs (ch.toNat - 48)), []⟩, ⟨.call, 2, fun _ => .agg (digs (nv (l.take (j + 1)))), [2, 3]⟩] [(0, .string (bs l)), (2, .pointer (some ⟨g2_1, 0, none⟩)), (3, .bool false), (4, .pointer (some ⟨g4_2, 0, none⟩)), (5, .pointer (some ⟨g5_3, 0, none⟩)), (6, .pointer (some ⟨g6_4, 0, none⟩)), (8, .int .i64 (j : Int)), (45, .int .i64 (j : Int)), (46, .string (bs l)), (47, .int .i64 (l.length : Int)), (48, .bool true), (51, .string (bs l)), (52, .int .i64 (j : Int)), (53, .int .u8 (ch.toNat : Int)), (54, .int .u8 ((ch.toNat - 48 : Nat) : Int)), (55, .int .u64 ((ch.toNat - 48 : Nat) : Int)), (56, .pointer (some ⟨g6_4, 0, none⟩))] (by kernel_rfl) (by kernel_rfl) ⟨rfl, rfl, rfl, rfl, rfl, rfl, rfl, rfl, rfl, rfl, rfl, rfl, rfl, rfl, rfl, rfl, rfl, trivial⟩ ?_ ?_
          · skip
            refine o_cons (o_load 2 (reads_all (tyDigC _)) (fun _ _ => rfl) rfl (fun _ _ => rfl) rfl) ?_
            refine o_cons (o_load 1 (reads_all (tyDigC _)) (fun _ _ => rfl) rfl (fun _ _ => rfl) rfl) ?_
            refine o_cons (o_call (ent_of Tryd.func92 (by kernel_rfl) rfl) (fun w hU => rmul_any _ (nv (l.take j)) 10 (Nat.lt_of_lt_of_le (nv_small hp.2.1 h60) (BP_le (by decide))) ten7) (fun _ _ => rfl) rfl (fun _ _ => rfl) (fun _ _ => rfl)) ?_
            refine o_cons (o_load 0 (reads_all (tyDigC _)) (fun _ _ => rfl) rfl (fun _ _ => rfl) rfl) ?_
            refine o_cons (o_call (ent_of Tryd.func87 (by kernel_rfl) rfl) (fun w hU => (nv_step hch ▸ radd_any _ (nv (l.take j) * 10) (ch.toNat - 48) (by rw [nv_step hch]; exact Nat.lt_of_lt_of_le (nv_small hp.2.1 h60) (BP_le (by decide))))) (fun _ _ => rfl) rfl (fun _ _ => rfl) (fun _ _ => rfl)) ?_
            exact o_nil
          intro σ6 gs6
          refine WL2.keep (env' := [(0, .string (bs l)), (2, .pointer (some ⟨g2_1, 0, none⟩)), (3, .bool false), (4, .pointer (some ⟨g4_2, 0, none⟩)), (5, .pointer (some ⟨g5_3, 0, none⟩)), (6, .pointer (some ⟨g6_4, 0, none⟩)), (8, .int .i64 (j : Int)), (45, .int .i64 (j : Int)), (46, .string (bs l)), (47, .int .i64 (l.length : Int)), (48, .bool true), (51, .string (bs l)), (52, .int .i64 (j : Int)), (53, .int .u8 (ch.toNat : Int)), (54, .int .u8 ((ch.toNat - 48 : Nat) : Int)), (55, .int .u64 ((ch.toNat - 48 : Nat) : Int)), (56, .pointer (some ⟨g6_4, 0, none⟩)), (57, .agg (digs (nv (l.take j)))), (58, .agg (digs 10)), (59, .agg (digs (nv (l.take j) * 10))), (60, .agg (digs (ch.toNat - 48))), (61, .agg (digs (nv (l.take (j + 1)))))]) ⟨rfl, rfl, rfl, rfl, rfl, rfl, rfl, rfl, rfl, rfl, rfl, rfl, rfl, rfl, rfl, rfl, rfl, rfl, rfl, rfl, rfl, rfl, trivial⟩ ?_
          refine h_store 2 (v := .agg (digs (nv (l.take (j + 1))))) (digs (nv (l.take (j + 1)))) tyDigits.2 (digs_size _) (ble_size (digs_size _)) (digs_oneL _) (over_all (c := digs (nv (l.take j))) (v := digs (nv (l.take (j + 1)))) (((digs_size _) : (digs (nv (l.take j))).size = 16).trans ((digs_size _) : (digs (nv (l.take (j + 1)))).size = 16).symm)) rfl rfl rfl rfl rfl rfl ?_
          refine h_nil (f_block (f_to (d_reg1 ?_)))
          refine h_q hflW rfl ?_
          refine h_ar (z' := ((j + 1 : Nat) : Int)) (by rw [IntWalk.i64_in _ (by omega)]; omega) rfl rfl rfl rfl rfl ?_
          refine h_q hflW rfl ?_
          refine h_nil ?_
          exact f_again (j + 1, ch.toNat - 48) 0 ⟨by omega, hbn⟩ (by show l.length - (j + 1) < l.length - j; omega) ⟨rfl, rfl, rfl, rfl, rfl, rfl, rfl, trivial⟩ rfl
        · skip
          refine d_reg ?_
          refine h_q hflW rfl ?_
          refine h_builtin (v := .int .i64 (l.length : Int)) (fun w cs => run_len_bs Tryd.underlying9 _ _ w cs) rfl rfl rfl ?_
          refine h_cmp (cmp_lss_f (by omega)) rfl rfl rfl rfl ?_
          refine h_done (d_else rfl (d_exit (f_then_exit (f_then_exit (f_block_exit (f_to (d_reg ?_)))))))
          refine h_load 2 (v := .agg (digs (nv (l.take j)))) (reads_all (tyDigC _)) rfl rfl rfl rfl ?_
          refine h_store 3 (v := .agg (digs (nv (l.take j)))) (digs (nv (l.take j))) tyDigits.2 (digs_size _) (ble_size (digs_size _)) (digs_oneL _) (over_all (c := digs 0) (v := digs (nv (l.take j))) (((digs_size _) : (digs 0).size = 16).trans ((digs_size _) : (digs (nv (l.take j))).size = 16).symm)) rfl rfl rfl rfl rfl rfl ?_
          refine h_q hflW rfl ?_
          refine h_done (d_ret ?_)
          exact f_fin2 (.cell 3 (v := .agg (digs (nv (l.take j)))) (reads_all (tyDigC _)) rfl rfl) (.tmp rfl) (fun w h => ⟨by rw [digitsV, if_pos hp, if_neg h60, take_all hjl], h.up.below⟩) rfl
end Go.Proofs.YtfalllekhcocgaaDoor
