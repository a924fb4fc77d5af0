/-
  Arg
-/
import Derived.Test.YtmlfgdedhhmkpaaB03
import Derived.ProofKit
import Derived.OpenShut
import Derived.JoinedCond
set_option linter.unusedSimpArgs false
set_option linter.unusedVariables false

namespace Go.Proofs.Ytmlfgdedhhmkpaa.Sep
open Go.ChangeShapes Go.WideShapes Go.ChangeAt Go.RowKit
section
variable {H : Type} {enc : TypeId × Value → H} {P : Program}
theorem spot0 {w : World} {a : Addr} {v : Value} (h : w.cell? a = some v) : a = ⟨a.block, a.off, none⟩ := by
  obtain ⟨b, o, s⟩ := a
  have : s = none := by simpa using World.cell?_spot h
  subst this
  rfl
theorem flat_pick {α : Type} {k : Nat} {enc' : α → List Value} (he : EncOf k enc') (hk : 0 < k) {l : List α} {q : Nat} {x : Value} (h : (flat enc' l)[q]? = some x) : ∃ y, l[q / k]? = some y ∧ (enc' y)[q % k]? = some x := by
  have hlt : q < l.length * k := by rw [← flat_len he]; exact (List.getElem?_eq_some_iff.1 h).1
  have hi : q / k < l.length := Nat.div_lt_of_lt_mul (by rwa [Nat.mul_comm])
  refine ⟨l[q / k], List.getElem?_eq_getElem hi, ?_⟩
  rw [← flat_get he (List.getElem?_eq_getElem hi) (Nat.mod_lt q hk), ← h]
  congr 1
  rw [Nat.mul_comm]
  exact Nat.div_add_mod q k
theorem open_slice {α : Type} [Inhabited α] {k : Nat} {enc' : α → List Value} {ok : α → Prop} {t e : TypeId} (he : EncOf k enc') (hk : 0 < k) (hu : P.underlying t = some (.slice e)) (hC : P.cellsOf e = k) {W : World} {base b0 : Nat} {r : Reach} {spare : Nat → Bool} {held : Bool} {v : Value} {d : DataW H} {p : List MemPlace}
    (hel : ∀ (n : Nat) (cs : List Value) (x : DataW H × List MemPlace), cs.length = k → DataW.trod enc P W base spare held n e cs = some x → ∃ y : α, cs = enc' y ∧ ok y)
    (hval : Value.okWide P W r b0 t v) (h : DataW.Trod enc P W base spare held t v d p) : ∃ A c, ∃ l : List α, v = .slice A l.length c ∧ l.length ≤ maxLen ∧ SlRd W k v l.length (flat enc' l) ∧ ∀ y ∈ l, ok y := by
  obtain ⟨a, len, cap, rfl⟩ := okWide_slice hu hval
  obtain ⟨fuel, hf⟩ := h
  rcases DataW.trod_slice hu hf with ⟨hcs, hx⟩ | ⟨a, len', cap', elems, rest, n, _, hcs, hx, _, hl, hm, hlen, hels, _, _⟩
  · simp [Value.cells] at hcs
    obtain ⟨rfl, rfl, rfl⟩ := hcs
    exact ⟨none, 0, [], rfl, Nat.zero_le _, ⟨by simp [flat], none, 0, rfl, .inl ⟨rfl, rfl⟩⟩, fun y hy => by cases hy⟩
  · simp [Value.cells] at hcs
    obtain ⟨rfl, rfl, rfl⟩ := hcs
    rw [hC] at hels
    have each : ∀ i, i < len → ∃ y : α, ok y ∧ ∀ j x, (enc' y)[j]? = some x → W.cell? ((a.add (i * k)).add j) = some x := by
      intro i hi
      have h1 := hels i hi
      rw [List.getElem?_eq_getElem (show i < elems.length by omega), Option.bind_eq_some_iff] at h1
      obtain ⟨cs', hcs, ht⟩ := h1
      obtain ⟨_, hcl, hat⟩ := World.cells?_some hcs
      obtain ⟨y, rfl, hy⟩ := hel _ _ _ hcl ht
      exact ⟨y, hy, fun j x hj => (hat j (by rw [← hcl]; exact (List.getElem?_eq_some_iff.1 hj).1)).trans hj⟩
    obtain ⟨f, hf⟩ := Go.Deep.choose_lt each
    have hll : ((List.range len).map f).length = len := by simp
    have hat : ∀ {i : Nat} {y : α}, ((List.range len).map f)[i]? = some y → i < len ∧ y = f i := by
      intro i y hi
      have hil : i < len := by have := (List.getElem?_eq_some_iff.1 hi).1; simpa using this
      rw [List.getElem?_map, List.getElem?_range hil] at hi
      simp only [Option.map_some, Option.some.injEq] at hi
      exact ⟨hil, hi.symm⟩
    refine ⟨some a, cap, (List.range len).map f, by rw [hll], by rw [hll]; omega, ?_, ?_⟩
    · rw [hll]
      refine ⟨by rw [flat_len he, hll], some a, cap, rfl, .inr ⟨a, rfl, fun q x hq => ?_⟩⟩
      obtain ⟨y, hy, hyx⟩ := flat_pick he hk hq
      obtain ⟨hil, rfl⟩ := hat hy
      have hc := (hf (q / k) hil).2 (q % k) x hyx
      have ha : a = ⟨a.block, a.off, none⟩ := by
        obtain ⟨z, hz⟩ : ∃ z, (enc' (f 0))[0]? = some z := ⟨_, List.getElem?_eq_getElem (by have := he.len (f 0); omega)⟩
        have h0 := (hf 0 (Nat.lt_of_le_of_lt (Nat.zero_le _) hil)).2 0 _ hz
        rw [Nat.zero_mul, show (a.add 0).add 0 = a by simp [Addr.add]] at h0
        exact spot0 h0
      rw [ha, Addr.add_lit, Addr.add_lit] at hc
      rw [ha, Addr.add_lit]
      have e1 : a.off + q / k * k + q % k = a.off + q := by rw [Nat.add_assoc, Nat.mul_comm]; congr 1; exact Nat.div_add_mod q k
      rw [e1] at hc
      exact hc
    · intro y hy
      obtain ⟨i, hi⟩ := List.getElem?_of_mem hy
      obtain ⟨hil, rfl⟩ := hat hi
      exact (hf i hil).1
/-- what has only been added to leaves what is read -/
theorem arg_rd {w0 w : World} {os : List Ass} {k m : Nat} {u : Value} {ys : List Value} (h : SlRd w0 k u m ys) (hH : Hp Nil w0 w os) : SlRd w k u m ys := by
  obtain ⟨h1, A, c, e, hA⟩ := h
  refine ⟨h1, A, c, e, hA.imp id fun ⟨a, ha, hc⟩ => ⟨a, ha, fun j x hx => ?_⟩⟩
  have h0 := hc j x hx
  have hb := World.block_lt_of_cell? _ _ h0
  rw [hH.up.cell hb (fun hn => hn.elim)]
  exact h0
end
section
variable {P : Program} {n : Nat} {w : World} {env : List (Nat × Value)} {o : Oper} {act : Act} {t e : TypeId} {k : Nat} {α : Type} {enc : α → List Value} {u : Value} {m : List α}
theorem SlRd.at_ (he : EncOf k enc) (hk : 0 < k) (hu : SlRd w k u m.length (flat enc m)) {j : Nat} {a : α} (hj : m[j]? = some a) : ∃ g off c, u = .slice (some ⟨g, off, none⟩) m.length c ∧ ∀ q x, (enc a)[q]? = some x → w.cell? ⟨g, off + j * k + q, none⟩ = some x := by
  obtain ⟨_, A, c, rfl, hA⟩ := hu
  rcases hA with ⟨_, h0⟩ | ⟨b, rfl, hc⟩
  · rw [List.length_eq_zero_iff.1 h0] at hj; simp at hj
  · obtain ⟨z, hz⟩ : ∃ z, (flat enc m)[0]? = some z := ⟨_, List.getElem?_eq_getElem (by
      rw [flat_len he]
      have := (List.getElem?_eq_some_iff.1 hj).1
      exact Nat.mul_pos (by omega) hk)⟩
    have h0 := hc 0 z hz
    rw [show b.add 0 = b by simp [Addr.add]] at h0
    have hb := spot0 h0
    refine ⟨b.block, b.off, c, by rw [← hb], fun q x hx => ?_⟩
    have hq : q < k := by rw [← he.len a]; exact (List.getElem?_eq_some_iff.1 hx).1
    have := hc (j * k + q) x ((flat_get he hj hq).trans hx)
    rw [hb, Addr.add_lit] at this
    rw [Nat.add_assoc]
    exact this
theorem e_slen (hu : SlRd w k u m.length (flat enc m)) (hT : P.underlying t = some (.slice e)) {x : Operand} (ho : o.op = .call { callee := .builtin .len, args := #[x], argTypes := #[t] }) (hx : evs env x = some u) (hF : Fr n act env) : (execOp act.eval o).run P w = .ok (.value (.int .i64 (m.length : Int))) w := by
  obtain ⟨_, A, c, rfl, _⟩ := hu
  exact exec_bi ho (vs := [.slice A m.length c]) (by simp [evl, hx]) (fun cs => run_len_slice hT A _ c _ w cs) hF
theorem e_sidx (he : EncOf k enc) (hu : SlRd w k u m.length (flat enc m)) (hT : SliceT P t e k) {j : Nat} {a : α} (hj : m[j]? = some a) {x y : Operand} {kk : IntKind} (ho : o.op = .indexAddr t x y) (hx : evs env x = some u) (hy : evs env y = some (.int kk (j : Int))) (hF : Fr n act env) : (execOp act.eval o).run P w = .ok (.value (elp u (j * k))) w := by
  obtain ⟨g, off, c, rfl, _⟩ := hu.at_ he hT.pos hj
  have hs : (sizeOf e).run P w = .ok k w := hT.sizeOf w
  have hlt : (0 : Int) ≤ (j : Int) ∧ (j : Int) < (m.length : Int) := by have := (List.getElem?_eq_some_iff.1 hj).1; omega
  unfold execOp
  simp only [ho, hF.evs hx, hF.evs hy, Instr.indexAt, asIntOf, Sem.run_bind, Sem.run_pure, Result.andThen_ok, run_underlying hT.ht w]
  simp [hlt, hs, elp, Addr.add_lit]
theorem e_sagg (he : EncOf k enc) (hk : 0 < k) (hu : SlRd w k u m.length (flat enc m)) {j : Nat} {a : α} (hj : m[j]? = some a) {T : TypeId} (hA : AggOf P T k) {x : Operand} (ho : o.op = .load T x) (hx : evs env x = some (elp u (j * k))) (hF : Fr n act env) : (execOp act.eval o).run P w = .ok (.value (.agg (enc a).toArray)) w := by
  obtain ⟨g, b, cap, rfl, hcell⟩ := hu.at_ he hk hj
  have hx' : evs env x = some (.pointer (some ⟨g, b + j * k, none⟩)) := by rw [hx]; simp [elp]
  have h := run_loadCells_list (P := P) w ⟨g, b + j * k, none⟩ (enc a) (fun q v hv => by rw [Addr.add_lit]; exact hcell q v hv)
  rw [he.len a] at h
  have hl : (loadVar T ⟨g, b + j * k, none⟩).run P w = .ok (.agg (enc a).toArray) w := by
    simp [loadVar, Sem.run_bind, hA.1, hA.2, h]
  unfold execOp
  simp only [ho, hF.evs hx', Instr.loadAt, Instr.sureAddr, Sem.run_bind, Sem.run_pure, Result.andThen_ok, hl]
end
end Go.Proofs.Ytmlfgdedhhmkpaa.Sep
