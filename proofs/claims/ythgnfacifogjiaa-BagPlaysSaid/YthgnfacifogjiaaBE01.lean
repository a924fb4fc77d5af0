/-
  TabT · TabP · TabR · TabY · Arg · TabK
-/
import Derived.Test.YthgnfacifogjiaaBD04
import Derived.Test.YthgnfacifogjiaaBD05
import Derived.ProofKit
import Derived.OpenShut
import Derived.JoinedCond
set_option linter.unusedSimpArgs false
set_option linter.unusedVariables false

namespace Go.Proofs.Ythgnfacifogjiaa.Sep
open Go.RowKit
structure TOK {κ ν : Type} (lt : κ → κ → Bool) (m : Int) (K : List κ) (V : List ν) : Prop where
  len : V.length = K.length
  srt : Srt lt K
  le : (K.length : Int) ≤ m
  lim : m ≤ 4096
def rem {α : Type} (l : List α) (q : Nat) : List α := l.take q ++ l.drop (q + 1)
section
variable {κ ν : Type} [DecidableEq κ] (lt : κ → κ → Bool)
end
section
variable {κ ν : Type} [DecidableEq κ] {lt : κ → κ → Bool} {m : Int} {K K' : List κ} {V V' : List ν} {k : κ} {v : ν} {b : Bool}
end
/-- a table at p, for m entries, with the keys K and the values V -/
def Tab (TT eK eV : TypeId) {κ ν : Type} (encK : κ → List Value) (encV : ν → List Value) (lt : κ → κ → Bool) (p : Nat) (m : Int) (K : List κ) (V : List ν) : Ass := fun rs =>
  ∃ kv vv, Parts [cell p TT #[.int .i64 m, kv, vv], Vec eK 1 encK kv K, Vec eV 1 encV vv V] rs ∧ TOK lt m K V
theorem Tab.open_ {TT eK eV : TypeId} {κ ν : Type} {encK : κ → List Value} {encV : ν → List Value} {lt : κ → κ → Bool} {p : Nat} {m : Int} {K : List κ} {V : List ν} : ∀ rs, Tab TT eK eV encK encV lt p m K V rs → ∃ x : { _z : Value × Value // TOK lt m K V }, Parts [cell p TT #[.int .i64 m, x.1.1, x.1.2], Vec eK 1 encK x.1.1 K, Vec eV 1 encV x.1.2 V] rs :=
  fun rs ⟨kv, vv, h, hk⟩ => ⟨⟨(kv, vv), hk⟩, h⟩
theorem Tab.mk_ {TT eK eV : TypeId} {κ ν : Type} {encK : κ → List Value} {encV : ν → List Value} {lt : κ → κ → Bool} {p : Nat} {m : Int} {K : List κ} {V : List ν} {kv vv : Value} (hk : TOK lt m K V) {y : List RowT} (h : Parts [cell p TT #[.int .i64 m, kv, vv], Vec eK 1 encK kv K, Vec eV 1 encV vv V] y) : Tab TT eK eV encK encV lt p m K V y := ⟨kv, vv, h, hk⟩
theorem Tab.ok {TT eK eV : TypeId} {κ ν : Type} {encK : κ → List Value} {encV : ν → List Value} {lt : κ → κ → Bool} {p : Nat} {m : Int} {K : List κ} {V : List ν} : ∀ rs, Tab TT eK eV encK encV lt p m K V rs → TOK lt m K V := fun _ ⟨_, _, _, h⟩ => h
end Go.Proofs.Ythgnfacifogjiaa.Sep

namespace Go.Proofs.Ythgnfacifogjiaa.Sep
open Go.RowKit
open Go.Proofs.Ythgnfacifogjiaa.Mem (Dist Blk Chg below0)

end Go.Proofs.Ythgnfacifogjiaa.Sep

namespace Go.Proofs.Ythgnfacifogjiaa.Sep
open Go.RowKit
open Go.Proofs.Ythgnfacifogjiaa.Mem (Dist Blk Chg below0)

end Go.Proofs.Ythgnfacifogjiaa.Sep

namespace Go.Proofs.Ythgnfacifogjiaa.Sep
open Go.RowKit
open Go.Proofs.Ythgnfacifogjiaa.Mem (Dist Blk Chg below0)

end Go.Proofs.Ythgnfacifogjiaa.Sep

namespace Go.Proofs.Ythgnfacifogjiaa.Sep
open Go.ChangeShapes Go.WideShapes Go.ChangeAt Go.RowKit
section
variable {H : Type} {enc : TypeId × Value → H} {P : Program}
theorem spot0 {w : World} {a : Addr} {v : Value} (h : w.cell? a = some v) : a = ⟨a.block, a.off, none⟩ := by
  obtain ⟨b, o, s⟩ := a
  have : s = none := by simpa using World.cell?_spot h
  subst this
  rfl
theorem flat_pick {α : Type} {k : Nat} {enc' : α → List Value} (he : EncOf k enc') (hk : 0 < k) {l : List α} {q : Nat} {x : Value} (h : (flat enc' l)[q]? = some x) : ∃ y, l[q / k]? = some y ∧ (enc' y)[q % k]? = some x := by
  have hlt : q < l.length * k := by rw [← flat_len he]; exact (List.getElem?_eq_some_iff.1 h).1
  have hi : q / k < l.length := Nat.div_lt_of_lt_mul (by rwa [Nat.mul_comm])
  refine ⟨l[q / k], List.getElem?_eq_getElem hi, ?_⟩
  rw [← flat_get he (List.getElem?_eq_getElem hi) (Nat.mod_lt q hk), ← h]
  congr 1
  rw [Nat.mul_comm]
  exact Nat.div_add_mod q k
theorem open_slice {α : Type} [Inhabited α] {k : Nat} {enc' : α → List Value} {ok : α → Prop} {t e : TypeId} (he : EncOf k enc') (hk : 0 < k) (hu : P.underlying t = some (.slice e)) (hC : P.cellsOf e = k) {W : World} {base b0 : Nat} {r : Reach} {spare : Nat → Bool} {held : Bool} {v : Value} {d : DataW H} {p : List MemPlace}
    (hel : ∀ (n : Nat) (cs : List Value) (x : DataW H × List MemPlace), cs.length = k → DataW.trod enc P W base spare held n e cs = some x → ∃ y : α, cs = enc' y ∧ ok y)
    (hval : Value.okWide P W r b0 t v) (h : DataW.Trod enc P W base spare held t v d p) : ∃ A c, ∃ l : List α, v = .slice A l.length c ∧ l.length ≤ maxLen ∧ SlRd W k v l.length (flat enc' l) ∧ ∀ y ∈ l, ok y := by
  obtain ⟨a, len, cap, rfl⟩ := okWide_slice hu hval
  obtain ⟨fuel, hf⟩ := h
  rcases DataW.trod_slice hu hf with ⟨hcs, hx⟩ | ⟨a, len', cap', elems, rest, n, _, hcs, hx, _, hl, hm, hlen, hels, _, _⟩
  · simp [Value.cells] at hcs
    obtain ⟨rfl, rfl, rfl⟩ := hcs
    exact ⟨none, 0, [], rfl, Nat.zero_le _, ⟨by simp [flat], none, 0, rfl, .inl ⟨rfl, rfl⟩⟩, fun y hy => by cases hy⟩
  · simp [Value.cells] at hcs
    obtain ⟨rfl, rfl, rfl⟩ := hcs
    rw [hC] at hels
    have each : ∀ i, i < len → ∃ y : α, ok y ∧ ∀ j x, (enc' y)[j]? = some x → W.cell? ((a.add (i * k)).add j) = some x := by
      intro i hi
      have h1 := hels i hi
      rw [List.getElem?_eq_getElem (show i < elems.length by omega), Option.bind_eq_some_iff] at h1
      obtain ⟨cs', hcs, ht⟩ := h1
      obtain ⟨_, hcl, hat⟩ := World.cells?_some hcs
      obtain ⟨y, rfl, hy⟩ := hel _ _ _ hcl ht
      exact ⟨y, hy, fun j x hj => (hat j (by rw [← hcl]; exact (List.getElem?_eq_some_iff.1 hj).1)).trans hj⟩
    obtain ⟨f, hf⟩ := Go.Deep.choose_lt each
    have hll : ((List.range len).map f).length = len := by simp
    have hat : ∀ {i : Nat} {y : α}, ((List.range len).map f)[i]? = some y → i < len ∧ y = f i := by
      intro i y hi
      have hil : i < len := by have := (List.getElem?_eq_some_iff.1 hi).1; simpa using this
      rw [List.getElem?_map, List.getElem?_range hil] at hi
      simp only [Option.map_some, Option.some.injEq] at hi
      exact ⟨hil, hi.symm⟩
    refine ⟨some a, cap, (List.range len).map f, by rw [hll], by rw [hll]; omega, ?_, ?_⟩
    · rw [hll]
      refine ⟨by rw [flat_len he, hll], some a, cap, rfl, .inr ⟨a, rfl, fun q x hq => ?_⟩⟩
      obtain ⟨y, hy, hyx⟩ := flat_pick he hk hq
      obtain ⟨hil, rfl⟩ := hat hy
      have hc := (hf (q / k) hil).2 (q % k) x hyx
      have ha : a = ⟨a.block, a.off, none⟩ := by
        obtain ⟨z, hz⟩ : ∃ z, (enc' (f 0))[0]? = some z := ⟨_, List.getElem?_eq_getElem (by have := he.len (f 0); omega)⟩
        have h0 := (hf 0 (Nat.lt_of_le_of_lt (Nat.zero_le _) hil)).2 0 _ hz
        rw [Nat.zero_mul, show (a.add 0).add 0 = a by simp [Addr.add]] at h0
        exact spot0 h0
      rw [ha, Addr.add_lit, Addr.add_lit] at hc
      rw [ha, Addr.add_lit]
      have e1 : a.off + q / k * k + q % k = a.off + q := by rw [Nat.add_assoc, Nat.mul_comm]; congr 1; exact Nat.div_add_mod q k
      rw [e1] at hc
      exact hc
    · intro y hy
      obtain ⟨i, hi⟩ := List.getElem?_of_mem hy
      obtain ⟨hil, rfl⟩ := hat hi
      exact (hf i hil).1
/-- what has only been added to leaves what is read -/
theorem arg_rd {w0 w : World} {os : List Ass} {k m : Nat} {u : Value} {ys : List Value} (h : SlRd w0 k u m ys) (hH : Hp Nil w0 w os) : SlRd w k u m ys := by
  obtain ⟨h1, A, c, e, hA⟩ := h
  refine ⟨h1, A, c, e, hA.imp id fun ⟨a, ha, hc⟩ => ⟨a, ha, fun j x hx => ?_⟩⟩
  have h0 := hc j x hx
  have hb := World.block_lt_of_cell? _ _ h0
  rw [hH.up.cell hb (fun hn => hn.elim)]
  exact h0
end
section
variable {P : Program} {n : Nat} {w : World} {env : List (Nat × Value)} {o : Oper} {act : Act} {t e : TypeId} {k : Nat} {α : Type} {enc : α → List Value} {u : Value} {m : List α}
theorem SlRd.at_ (he : EncOf k enc) (hk : 0 < k) (hu : SlRd w k u m.length (flat enc m)) {j : Nat} {a : α} (hj : m[j]? = some a) : ∃ g off c, u = .slice (some ⟨g, off, none⟩) m.length c ∧ ∀ q x, (enc a)[q]? = some x → w.cell? ⟨g, off + j * k + q, none⟩ = some x := by
  obtain ⟨_, A, c, rfl, hA⟩ := hu
  rcases hA with ⟨_, h0⟩ | ⟨b, rfl, hc⟩
  · rw [List.length_eq_zero_iff.1 h0] at hj; simp at hj
  · obtain ⟨z, hz⟩ : ∃ z, (flat enc m)[0]? = some z := ⟨_, List.getElem?_eq_getElem (by
      rw [flat_len he]
      have := (List.getElem?_eq_some_iff.1 hj).1
      exact Nat.mul_pos (by omega) hk)⟩
    have h0 := hc 0 z hz
    rw [show b.add 0 = b by simp [Addr.add]] at h0
    have hb := spot0 h0
    refine ⟨b.block, b.off, c, by rw [← hb], fun q x hx => ?_⟩
    have hq : q < k := by rw [← he.len a]; exact (List.getElem?_eq_some_iff.1 hx).1
    have := hc (j * k + q) x ((flat_get he hj hq).trans hx)
    rw [hb, Addr.add_lit] at this
    rw [Nat.add_assoc]
    exact this
theorem e_slen (hu : SlRd w k u m.length (flat enc m)) (hT : P.underlying t = some (.slice e)) {x : Operand} (ho : o.op = .call { callee := .builtin .len, args := #[x], argTypes := #[t] }) (hx : evs env x = some u) (hF : Fr n act env) : (execOp act.eval o).run P w = .ok (.value (.int .i64 (m.length : Int))) w := by
  obtain ⟨_, A, c, rfl, _⟩ := hu
  exact exec_bi ho (vs := [.slice A m.length c]) (by simp [evl, hx]) (fun cs => run_len_slice hT A _ c _ w cs) hF
theorem e_sidx (he : EncOf k enc) (hu : SlRd w k u m.length (flat enc m)) (hT : SliceT P t e k) {j : Nat} {a : α} (hj : m[j]? = some a) {x y : Operand} {kk : IntKind} (ho : o.op = .indexAddr t x y) (hx : evs env x = some u) (hy : evs env y = some (.int kk (j : Int))) (hF : Fr n act env) : (execOp act.eval o).run P w = .ok (.value (elp u (j * k))) w := by
  obtain ⟨g, off, c, rfl, _⟩ := hu.at_ he hT.pos hj
  have hs : (sizeOf e).run P w = .ok k w := hT.sizeOf w
  have hlt : (0 : Int) ≤ (j : Int) ∧ (j : Int) < (m.length : Int) := by have := (List.getElem?_eq_some_iff.1 hj).1; omega
  unfold execOp
  simp only [ho, hF.evs hx, hF.evs hy, Instr.indexAt, asIntOf, Sem.run_bind, Sem.run_pure, Result.andThen_ok, run_underlying hT.ht w]
  simp [hlt, hs, elp, Addr.add_lit]
theorem e_sfield (he : EncOf k enc) (hk : 0 < k) (hu : SlRd w k u m.length (flat enc m)) {j : Nat} {a : α} (hj : m[j]? = some a) {S : TypeId} {f off : Nat} (hf : FieldAt P S f off) {x : Operand} (ho : o.op = .fieldAddr S x f) (hx : evs env x = some (elp u (j * k))) (hF : Fr n act env) : (execOp act.eval o).run P w = .ok (.value (elp u (j * k + off))) w := by
  obtain ⟨g, b, c, rfl, _⟩ := hu.at_ he hk hj
  have := exec_field (n := n) (a := act) (env := env) (w := w) (g := g) (off := b + j * k) hf ho (by rw [hx]; rfl) hF
  rw [this]
  simp [elp, Nat.add_assoc]
theorem e_sload (he : EncOf k enc) (hk : 0 < k) (hu : SlRd w k u m.length (flat enc m)) {j : Nat} {a : α} (hj : m[j]? = some a) {T : TypeId} (hO : OneOf P T) {off : Nat} {c : Value} (hc : (enc a)[off]? = some c) {x : Operand} (ho : o.op = .load T x) (hx : evs env x = some (elp u (j * k + off))) (hF : Fr n act env) : (execOp act.eval o).run P w = .ok (.value c) w := by
  obtain ⟨g, b, cap, rfl, hcell⟩ := hu.at_ he hk hj
  have h1 := hcell off c hc
  have hx' : evs env x = some (.pointer (some ⟨g, b + j * k + off, none⟩)) := by rw [hx]; simp [elp, Nat.add_assoc]
  unfold execOp
  simp only [ho, hF.evs hx', Instr.loadAt, Instr.sureAddr, Sem.run_bind, Sem.run_pure, Result.andThen_ok, loadVar, hO.1]
  simp [run_load, h1]
end
end Go.Proofs.Ythgnfacifogjiaa.Sep

namespace Go.Proofs.Ythgnfacifogjiaa.Sep
open Go.RowKit
open Go.Proofs.Ythgnfacifogjiaa.Mem (Dist Blk Chg below0)

theorem eqB (b c : Bool) : EqAt Try.prog 4 (.bool b) (.bool c) (b == c) := fun x y w => by
  cases b <;> cases c <;> go_simp
/-- what remains of a division, of the sign of what is divided -/
theorem exec_remI {P : Program} {n : Nat} {env : List (Nat × Value)} {a : Act} {w : World} {o : Oper} {T T' : TypeId} {x y : Operand} {k : IntKind} {p q r : Int} (ho : o.op = .binOp .rem T x y T') (hx : evs env x = some (.int k p)) (hy : evs env y = some (.int k q)) (hq : q ≠ 0) (hr : p.tmod q = r) (hF : Fr n a env) : (execOp a.eval o).run P w = .ok (.value (.int k r)) w := by
  unfold execOp
  simp only [ho, hF.evs hx, hF.evs hy]
  simp [eqGuard, binOp, Op.intArith, Op.intDiv, hq, hr]
theorem eqB_same (b : Bool) : EqAt Try.prog 4 (.bool b) (.bool b) true := by
  have h := eqB b b
  rwa [show (b == b) = true by simp] at h
section
variable {κ : Type} [DecidableEq κ] {lt : κ → κ → Bool} {l K : List κ} {k : κ}
end

set_option maxRecDepth 100000 in
theorem pick (w : World) (a m : Int) (ha : -9223372036854775808 ≤ a ∧ a ≤ 9223372036854775807) (hm : 1 ≤ m ∧ m ≤ 9223372036854775807) {r : Int} (hr : a % m = r) : Calls Try.prog 15 #[.int .i64 a, .int .i64 m] w fun e w' => e = .returned (.int .i64 r) ∧ Below w.heap.size w w' := by
  have hlt := Int.emod_lt_of_pos a (show 0 < m by omega)
  have hge := Int.emod_nonneg a (show m ≠ 0 by omega)
  have ht : (0 ≤ a.tmod m ∧ a.tmod m = r) ∨ (a.tmod m < 0 ∧ a.tmod m + m = r) := by
    rw [Int.tmod_eq_emod, ← hr]
    split
    · left; omega
    · rename_i h
      right
      have hne : a % m ≠ 0 := fun e => h (.inr (Int.dvd_of_emod_eq_zero e))
      omega
  rw [hr] at hlt hge
  obtain ⟨t, htm⟩ : ∃ t, a.tmod m = t := ⟨_, rfl⟩
  rw [htm] at ht
  refine d_in (args := [.int .i64 a, .int .i64 m]) 14 Try.func15 rfl rfl rfl ?_
  refine d_reg ?_
  refine h_q hflS rfl ?_
  refine h_done (d_reg ?_)
  refine h_q hflS rfl ?_
  refine h_val rfl (.int .i64 t) (fun b w hb hH => exec_remI rfl rfl rfl (by omega) htm hb) ?_
  refine h_q hflS rfl ?_
  refine h_done (d_seq ?_)
  rcases ht with ⟨h1, h2⟩ | ⟨h1, h2⟩
  · skip
    subst h2
    refine d_reg ?_
    refine h_q hflS rfl ?_
    refine h_val rfl (.bool false) (fun b w hb hH => exec_cmp rfl rfl rfl (cmp_lss_f (by omega)) hb) ?_
    refine h_done (d_else rfl (d_skip (f_to (d_reg ?_))))
    refine h_q hflS rfl ?_
    refine h_done (d_ret ?_)
    exact f_fin1 (.tmp rfl) (fun w h => ⟨rfl, below0 h.up⟩) rfl
  · skip
    refine d_reg ?_
    refine h_q hflS rfl ?_
    refine h_val rfl (.bool true) (fun b w hb hH => exec_cmp rfl rfl rfl (cmp_lss_t (by omega)) hb) ?_
    refine h_done (d_then rfl (d_reg1 ?_))
    refine h_q hflS rfl ?_
    refine h_val rfl (.int .i64 r) (fun b w hb hH => exec_ar rfl rfl rfl rfl (by rw [IntWalk.i64_in _ (by omega)]; omega) hb) ?_
    refine h_q hflS rfl ?_
    refine h_nil (f_to (d_reg ?_))
    refine h_q hflS rfl ?_
    refine h_done (d_ret ?_)
    exact f_fin1 (.tmp rfl) (fun w h => ⟨rfl, below0 h.up⟩) rfl

end Go.Proofs.Ythgnfacifogjiaa.Sep
