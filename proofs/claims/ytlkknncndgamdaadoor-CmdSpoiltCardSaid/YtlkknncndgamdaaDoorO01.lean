/-
  Law · CmdO
-/
import Derived.Test.YtlkknncndgamdaaDoorA01
import Derived.Test.YtlkknncndgamdaaDoorC01
import Derived.Test.YtlkknncndgamdaaDoorRows
import Derived.ProofKit
import Derived.OpenShut
import Derived.JoinedCond
import Derived.Lib.SmallJoins
import Derived.ChangeMaps5
import Derived.SizedLaws
set_option linter.unusedSimpArgs false
set_option linter.unusedVariables false

namespace Go.Proofs.YtlkknncndgamdaaDoor
open Go.ChangeShapes Go.WideShapes Go.ChangeAt Go.RowKit

theorem own : ownKnob Tryd.prog.godebug = none := by kernel_rfl
theorem laidOut : laidOutB Tryd.prog = true := by kernel_rfl

section
variable {H : Type} {enc : TypeId × Value → H} {P : Program}

/-- what the arguments read as stays, where nothing that was there has changed -/
theorem trodAll_stays (hl : laidOutB P = true) {W W' : World} (hb : Below W.heap.size W W') :
    ∀ {ts : List TypeId} {vs : List Value} {ds : List (DataW H)} {ps : List MemPlace}, (∀ t ∈ ts, P.readableRec t = true ∧ t < P.types.size) → (∀ x ∈ ps, x.block < W.heap.size) →
      DataW.TrodAll enc P W 0 (fun _ => true) true ts vs ds ps → DataW.TrodAll enc P W' 0 (fun b => decide (b < W.heap.size)) true ts vs ds ps
  | [], vs, ds, ps, _, _, h => by
    obtain ⟨rfl, rfl, rfl⟩ := trodAll_nil h
    rfl
  | t :: ts, vs, ds, ps, ht, hp, h => by
    obtain ⟨v, vs1, d, ds1, a, b, rfl, rfl, rfl, h1, h2⟩ := trodAll_cons h
    obtain ⟨hr, hrow⟩ := ht t List.mem_cons_self
    exact ⟨a, b, Below.trod hl hr hrow h1 hb (fun x hx => hp x (List.mem_append_left _ hx)), trodAll_stays hl hb (fun t h => ht t (List.mem_cons_of_mem _ h)) (fun x hx => hp x (List.mem_append_right _ hx)) h2, rfl⟩

theorem law_post {f : Func} {s : ChangeSpec} {tb : TypeId} {W W' : World} {args : Array Value} {ds gs : List (DataW H)} {before : List MemPlace}
    (hl : laidOutB P = true) (hr : f.resultTypes = #[tb]) (htb : P.underlying tb = some .bool) (hread : ∀ t ∈ f.params.toList, P.readableRec t = true ∧ t < P.types.size)
    (hvars : s.vars = []) (hs : s.fn H ds = { results := [.lit (.bool true)], args := ds })
    (hW : DataW.Whole enc P f.params.toList s.vars false W args.toList ds gs before) (hb : Below W.heap.size W W') :
    s.post enc P f false true false false W args (.bool true) W' := by
  have hW' := hW
  obtain ⟨p, q, hA, hV, rfl, hfz, hnd⟩ := hW
  rw [hvars] at hV
  obtain ⟨rfl, rfl⟩ := trodVars_none hV
  have hlt : ∀ x ∈ p, x.block < W.heap.size := fun x hx => hW'.lt x (by simpa using hx)
  refine ⟨ds, [], p ++ [], [], p, [], hW', ?_, ?_, ?_, ?_, fun h => by cases h⟩
  · rw [List.append_nil, hs, hr]
    exact trodAll_cons_mk (shut_bool htb true) trodAll_mk0
  · rw [List.append_nil, hs]
    exact trodAll_stays hl hb hread hlt hA
  · rw [List.append_nil, hs, hvars]
    rfl
  · exact World.keptBut_mono (fun x hx => ⟨hx, .inr (.inl (by simpa using hx))⟩) (hb.frame (· ∈ p ++ []))
end

/-! ## Arguments, opened -/
section
variable {H : Type} {enc : TypeId × Value → H} {P : Program}

end


theorem wf_i64 {x : Int} (h : (Lit.int .i64 x).wf = true) : -9223372036854775808 ≤ x ∧ x ≤ 9223372036854775807 := by
  simpa [Lit.wf, IntKind.min, IntKind.max, IntKind.signed, IntKind.bits] using h
theorem wf_u64 {x : Int} (h : (Lit.int .u64 x).wf = true) : 0 ≤ x ∧ x ≤ 18446744073709551615 := by
  simpa [Lit.wf, IntKind.min, IntKind.max, IntKind.signed, IntKind.bits] using h
theorem readable_of {P : Program} {l : List TypeId} (h : l.all (fun t => P.readableRec t && decide (t < P.types.size)) = true) : ∀ t ∈ l, P.readableRec t = true ∧ t < P.types.size := by
  intro t ht
  have := List.all_eq_true.1 h t ht
  simpa using this
/-! ## The bound of the second form -/
theorem bound {H : Type} {l : List (DataW H)} (hk : Rows.uptoSmall H l = true) : Rows.uptoBulkAll l ≤ 1048576 := of_decide_eq_true hk
end Go.Proofs.YtlkknncndgamdaaDoor

namespace Go.Proofs.YtlkknncndgamdaaDoor.Sep
open Go.ChangeShapes Go.WideShapes Go.ChangeAt Go.RowKit
section
variable {H : Type} {enc : TypeId × Value → H} {W : World} {base b0 : Nat} {r : Reach} {spare : Nat → Bool} {held : Bool} {v : Value} {d : DataW H} {p : List MemPlace}
theorem bs_arr (s : ByteArray) : s = bs s.data.toList := by cases s; simp [bs]
theorem bs_lens {s : ByteArray} (h : s.size ≤ maxLen) : s.data.toList.length ≤ 9223372036854775807 := by
  have h2 : s.size = s.data.toList.length := rfl
  rw [← h2]
  exact h
theorem fldk {P : Program} {n j k off : Nat} {f : Field} {cs zs : List Value} {ys : List (DataW H × List MemPlace)} {y : DataW H × List MemPlace} (hc : P.cellsOf f.type = k) (ho : f.offset = off) (h : DataW.trod enc P W base spare held n f.type ((cs.drop f.offset).take (P.cellsOf f.type)) = ys[j]?) (ha : (cs.drop off).take k = zs) (hy : ys[j]? = some y) : DataW.trod enc P W base spare held n f.type zs = some y := by
  rw [ho, hc, ha, hy] at h
  exact h
set_option maxRecDepth 100000 in
theorem open_dec3 {n : Nat} {c0 c1 c2 : Value} {x : DataW H × List MemPlace} (hf : DataW.trod enc Tryd.prog W base spare held n 26 [c0, c1, c2] = some x) : ∃ hi lo sc, c0 = .int .i64 hi ∧ c1 = .int .u64 lo ∧ c2 = .int .i64 sc ∧ I64 hi ∧ U64 lo ∧ I64 sc := by
  obtain ⟨y0, y1, n, _, _, h0, h1⟩ := trod_struct2 Tryd.underlying26 hf
  have k0 : Tryd.prog.cellsOf 24 = 2 := by kernel_rfl
  have k1 : Tryd.prog.cellsOf 3 = 1 := by kernel_rfl
  have k2 : Tryd.prog.cellsOf 2 = 1 := by kernel_rfl
  have k3 : Tryd.prog.cellsOf 22 = 1 := by kernel_rfl
  have h0' : DataW.trod enc Tryd.prog W base spare held n 24 [c0, c1] = some y0 := by simpa [Value.cells, k0] using h0
  have h1' : DataW.trod enc Tryd.prog W base spare held n 3 [c2] = some y1 := by simpa [Value.cells, k1] using h1
  obtain ⟨u0, u1, n', _, _, g0, g1⟩ := trod_struct2 Tryd.underlying24 h0'
  have g0' : DataW.trod enc Tryd.prog W base spare held n' 2 [c0] = some u0 := by simpa [k2] using g0
  have g1' : DataW.trod enc Tryd.prog W base spare held n' 22 [c1] = some u1 := by simpa [k3] using g1
  obtain ⟨z0, e0, _, w0⟩ := DataW.trod_int Tryd.underlying2 g0'
  obtain ⟨z1, e1, _, w1⟩ := DataW.trod_int Tryd.underlying22 g1'
  obtain ⟨z2, e2, _, w2⟩ := DataW.trod_int Tryd.underlying3 h1'
  cases e0; cases e1; cases e2
  exact ⟨z0, z1, z2, rfl, rfl, rfl, wf_i64 w0, wf_u64 w1, wf_i64 w2⟩
set_option maxRecDepth 100000 in
theorem open_cmd (hval : Value.okWide Tryd.prog W r b0 28 v) (h : DataW.Trod enc Tryd.prog W base spare held 28 v d p) : ∃ c : CmdD, c.ok ∧ v = .agg #[.int .i64 c.k, .int .u64 c.s, .int .u64 c.q, .int .u64 c.a, .int .u64 c.b, .int .i64 c.hi, .int .u64 c.lo, .int .i64 c.sc, .string (bs c.x), .string (bs c.y)] := by
  obtain ⟨cs, rfl, hsz⟩ := okWide_struct Tryd.underlying28 hval
  have hcl : cs.toList.length = 10 := by rw [Array.length_toList]; exact hsz.trans (by kernel_rfl)
  obtain ⟨fuel, hf⟩ := h
  obtain ⟨l⟩ := cs
  match l, hcl with
  | [c0, c1, c2, c3, c4, c5, c6, c7, c8, c9], _ =>
    obtain ⟨ys, n, _, hx, _, hyl, hf⟩ := DataW.trod_struct Tryd.underlying28 hf
    have hyl : ys.length = 8 := hyl
    obtain ⟨y0, g0⟩ : ∃ y, ys[0]? = some y := ⟨_, List.getElem?_eq_getElem (by omega)⟩
    obtain ⟨y1, g1⟩ : ∃ y, ys[1]? = some y := ⟨_, List.getElem?_eq_getElem (by omega)⟩
    obtain ⟨y2, g2⟩ : ∃ y, ys[2]? = some y := ⟨_, List.getElem?_eq_getElem (by omega)⟩
    obtain ⟨y3, g3⟩ : ∃ y, ys[3]? = some y := ⟨_, List.getElem?_eq_getElem (by omega)⟩
    obtain ⟨y4, g4⟩ : ∃ y, ys[4]? = some y := ⟨_, List.getElem?_eq_getElem (by omega)⟩
    obtain ⟨y5, g5⟩ : ∃ y, ys[5]? = some y := ⟨_, List.getElem?_eq_getElem (by omega)⟩
    obtain ⟨y6, g6⟩ : ∃ y, ys[6]? = some y := ⟨_, List.getElem?_eq_getElem (by omega)⟩
    obtain ⟨y7, g7⟩ : ∃ y, ys[7]? = some y := ⟨_, List.getElem?_eq_getElem (by omega)⟩
    have h0 := fldk (k := 1) (off := 0) (zs := [c0]) (by kernel_rfl) rfl (hf 0 _ rfl) rfl g0
    have h1 := fldk (k := 1) (off := 1) (zs := [c1]) (by kernel_rfl) rfl (hf 1 _ rfl) rfl g1
    have h2 := fldk (k := 1) (off := 2) (zs := [c2]) (by kernel_rfl) rfl (hf 2 _ rfl) rfl g2
    have h3 := fldk (k := 1) (off := 3) (zs := [c3]) (by kernel_rfl) rfl (hf 3 _ rfl) rfl g3
    have h4 := fldk (k := 1) (off := 4) (zs := [c4]) (by kernel_rfl) rfl (hf 4 _ rfl) rfl g4
    have h5 := fldk (k := 3) (off := 5) (zs := [c5, c6, c7]) (by kernel_rfl) rfl (hf 5 _ rfl) rfl g5
    have h6 := fldk (k := 1) (off := 8) (zs := [c8]) (by kernel_rfl) rfl (hf 6 _ rfl) rfl g6
    have h7 := fldk (k := 1) (off := 9) (zs := [c9]) (by kernel_rfl) rfl (hf 7 _ rfl) rfl g7
    obtain ⟨z0, e0, _, w0⟩ := DataW.trod_int Tryd.underlying3 h0
    obtain ⟨z1, e1, _, w1⟩ := DataW.trod_int Tryd.underlying22 h1
    obtain ⟨z2, e2, _, w2⟩ := DataW.trod_int Tryd.underlying22 h2
    obtain ⟨z3, e3, _, w3⟩ := DataW.trod_int Tryd.underlying22 h3
    obtain ⟨z4, e4, _, w4⟩ := DataW.trod_int Tryd.underlying22 h4
    obtain ⟨hi, lo, sc, rfl, rfl, rfl, w5, w6, w7⟩ := open_dec3 h5
    obtain ⟨x, e8, _, w8⟩ := DataW.trod_string Tryd.underlying9 h6
    obtain ⟨y, e9, _, w9⟩ := DataW.trod_string Tryd.underlying9 h7
    cases e0; cases e1; cases e2; cases e3; cases e4; cases e8; cases e9
    refine ⟨⟨z0, z1, z2, z3, z4, hi, lo, sc, x.data.toList, y.data.toList⟩, ⟨wf_i64 w0, wf_u64 w1, wf_u64 w2, wf_u64 w3, wf_u64 w4, w5, w6, w7, bs_lens w8, bs_lens w9⟩, ?_⟩
    rw [← bs_arr x, ← bs_arr y]
end
end Go.Proofs.YtlkknncndgamdaaDoor.Sep
