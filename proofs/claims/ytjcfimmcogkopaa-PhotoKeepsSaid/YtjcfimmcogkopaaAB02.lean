/-
  Law · Opz · Prt · DskM · TyC · Fil · CmdA · CmdB · CmdR · CmdL · CmdO · CmdP · CmdQ · CmdE · CmdF · CmdG · CmdN
-/
import Derived.Test.YtjcfimmcogkopaaAA01
import Derived.Test.YtjcfimmcogkopaaAA06
import Derived.Test.YtjcfimmcogkopaaAA07
import Derived.Test.YtjcfimmcogkopaaAB01
import Derived.Test.YtjcfimmcogkopaaRows
import Derived.ProofKit
import Derived.OpenShut
import Derived.JoinedCond
import Derived.SizedLaws
import Derived.Test.YtjcfimmcogkopaaChecked
import Derived.Lib.SmallJoins
import Derived.ChangeMaps5
set_option linter.unusedSimpArgs false
set_option linter.unusedVariables false

namespace Go.Proofs.Ytjcfimmcogkopaa
open Go.ChangeShapes Go.WideShapes Go.ChangeAt Go.RowKit

theorem own : ownKnob Try.prog.godebug = none := by kernel_rfl
theorem laidOut : laidOutB Try.prog = true := by kernel_rfl

section
variable {H : Type} {enc : TypeId × Value → H} {P : Program}

/-- what the arguments read as stays, where nothing that was there has changed -/
theorem trodAll_stays (hl : laidOutB P = true) {W W' : World} (hb : Below W.heap.size W W') :
    ∀ {ts : List TypeId} {vs : List Value} {ds : List (DataW H)} {ps : List MemPlace}, (∀ t ∈ ts, P.readableRec t = true ∧ t < P.types.size) → (∀ x ∈ ps, x.block < W.heap.size) →
      DataW.TrodAll enc P W 0 (fun _ => true) true ts vs ds ps → DataW.TrodAll enc P W' 0 (fun b => decide (b < W.heap.size)) true ts vs ds ps
  | [], vs, ds, ps, _, _, h => by
    obtain ⟨rfl, rfl, rfl⟩ := trodAll_nil h
    rfl
  | t :: ts, vs, ds, ps, ht, hp, h => by
    obtain ⟨v, vs1, d, ds1, a, b, rfl, rfl, rfl, h1, h2⟩ := trodAll_cons h
    obtain ⟨hr, hrow⟩ := ht t List.mem_cons_self
    exact ⟨a, b, Below.trod hl hr hrow h1 hb (fun x hx => hp x (List.mem_append_left _ hx)), trodAll_stays hl hb (fun t h => ht t (List.mem_cons_of_mem _ h)) (fun x hx => hp x (List.mem_append_right _ hx)) h2, rfl⟩

theorem law_post {f : Func} {s : ChangeSpec} {tb : TypeId} {W W' : World} {args : Array Value} {ds gs : List (DataW H)} {before : List MemPlace}
    (hl : laidOutB P = true) (hr : f.resultTypes = #[tb]) (htb : P.underlying tb = some .bool) (hread : ∀ t ∈ f.params.toList, P.readableRec t = true ∧ t < P.types.size)
    (hvars : s.vars = []) (hs : s.fn H ds = { results := [.lit (.bool true)], args := ds })
    (hW : DataW.Whole enc P f.params.toList s.vars false W args.toList ds gs before) (hb : Below W.heap.size W W') :
    s.post enc P f false true false false W args (.bool true) W' := by
  have hW' := hW
  obtain ⟨p, q, hA, hV, rfl, hfz, hnd⟩ := hW
  rw [hvars] at hV
  obtain ⟨rfl, rfl⟩ := trodVars_none hV
  have hlt : ∀ x ∈ p, x.block < W.heap.size := fun x hx => hW'.lt x (by simpa using hx)
  refine ⟨ds, [], p ++ [], [], p, [], hW', ?_, ?_, ?_, ?_, fun h => by cases h⟩
  · rw [List.append_nil, hs, hr]
    exact trodAll_cons_mk (shut_bool htb true) trodAll_mk0
  · rw [List.append_nil, hs]
    exact trodAll_stays hl hb hread hlt hA
  · rw [List.append_nil, hs, hvars]
    rfl
  · exact World.keptBut_mono (fun x hx => ⟨hx, .inr (.inl (by simpa using hx))⟩) (hb.frame (· ∈ p ++ []))
end

/-! ## Arguments, opened -/
section
variable {H : Type} {enc : TypeId × Value → H} {P : Program}

theorem spot_none {w : World} {a : Addr} {v : Value} (h : w.cell? a = some v) : a = ⟨a.block, a.off, none⟩ := by
  obtain ⟨b, o, s⟩ := a
  have : s = none := by simpa using World.cell?_spot h
  subst this
  rfl

/-- a []byte, wherever it is met -/
theorem trod_u8s {W : World} {base : Nat} {spare : Nat → Bool} {held : Bool} {t e : TypeId} {fuel : Nat} {cs : List Value} {x : DataW H × List MemPlace} (hu : U8 P t e) (hc : P.cellsOf e = 1)
    (hf : DataW.trod enc P W base spare held fuel t cs = some x) : ∃ A c l, cs = [.slice A l.length c] ∧ Bs (fun k => k < W.heap.size) W A c l ∧ ((x.1 = .nil ∧ l = []) ∨ ∃ es sp, x.1 = .slice es sp ∧ es.length = l.length) := by
  rcases open_ints hu.ht hu.he hc hf with ⟨hcs, hx⟩ | ⟨a, len, cap, zs, hcs, _, hl, hm, hz, hx, hcell, hwz⟩
  · subst hcs
    exact ⟨none, 0, [], rfl, Bs.nil _ _ _ (by simp [maxLen]), .inl ⟨by rw [hx], rfl⟩⟩
  · subst hcs
    have hlz : len ≤ zs.length := by rw [hz]; split <;> omega
    have e0 : ((zs.take len).map (fun z => UInt8.ofNat z.toNat)).length = len := by simp; omega
    refine ⟨some a, cap, (zs.take len).map (fun z => UInt8.ofNat z.toNat), by rw [e0], ⟨by omega, hm, fun hn => ?_⟩, .inr ⟨_, _, by rw [hx], by simp [lits]⟩⟩
    have h0 := hcell 0 (by omega)
    have hs : a = ⟨a.block, a.off, none⟩ := by
      have := h0
      rw [show a.add 0 = a by simp [Addr.add]] at this
      exact spot_none this
    have hb := World.block_lt_of_cell? _ _ h0
    rw [hs, Addr.add_lit] at hb
    refine ⟨a.block, a.off, by rw [← hs], hb, fun j b hj => ?_⟩
    have hjl := (List.getElem?_eq_some_iff.1 hj).1
    rw [e0] at hjl
    have hcj := hcell j (by omega)
    rw [hs, Addr.add_lit] at hcj
    rw [hcj]
    have hbj : b = UInt8.ofNat (zs.getD j 0).toNat := by
      rw [List.getElem?_map, List.getElem?_take, if_pos (by omega), List.getElem?_eq_getElem (by omega)] at hj
      simp only [Option.map_some, Option.some.injEq] at hj
      rw [← hj, List.getD, List.getElem?_eq_getElem (by omega)]
      rfl
    have hw : 0 ≤ zs.getD j 0 ∧ zs.getD j 0 ≤ 255 := by
      have hmem : zs.getD j 0 ∈ zs := by
        rw [List.getD, List.getElem?_eq_getElem (show j < zs.length by omega)]
        exact List.getElem_mem _
      simpa [Lit.wf, IntKind.min, IntKind.max, IntKind.signed, IntKind.bits] using hwz _ hmem
    rw [hbj]
    unfold u8v
    simp only [UInt8.toNat_ofNat']
    congr 2
    omega
end


theorem wf_i64 {x : Int} (h : (Lit.int .i64 x).wf = true) : -9223372036854775808 ≤ x ∧ x ≤ 9223372036854775807 := by
  simpa [Lit.wf, IntKind.min, IntKind.max, IntKind.signed, IntKind.bits] using h
theorem wf_u64 {x : Int} (h : (Lit.int .u64 x).wf = true) : 0 ≤ x ∧ x ≤ 18446744073709551615 := by
  simpa [Lit.wf, IntKind.min, IntKind.max, IntKind.signed, IntKind.bits] using h
theorem readable_of {P : Program} {l : List TypeId} (h : l.all (fun t => P.readableRec t && decide (t < P.types.size)) = true) : ∀ t ∈ l, P.readableRec t = true ∧ t < P.types.size := by
  intro t ht
  have := List.all_eq_true.1 h t ht
  simpa using this
theorem cells_u8 : Try.prog.cellsOf 5 = 1 := by kernel_rfl
theorem bytes_u8 : Try.prog.bytesOf 5 = 1 := by kernel_rfl

/-! ## The bound of the second form -/
theorem bound {H : Type} {l : List (DataW H)} (hk : Rows.uptoSmall H l = true) : Rows.uptoBulkAll l ≤ 1048576 := of_decide_eq_true hk
end Go.Proofs.Ytjcfimmcogkopaa

namespace Go.Proofs.Ytjcfimmcogkopaa.Sep
open Go.ChangeShapes Go.WideShapes Go.ChangeAt Go.RowKit
section
variable {H : Type} {enc : TypeId × Value → H} {P : Program}
/-- no slice or string in it is greater than memory may be -/
def SizedD (P : Program) (t : TypeId) (d : DataW H) : Prop := ∀ n ∈ d.weights P t, n ≤ reachBytes
theorem sized_arg {ts : List TypeId} {ds : List (DataW H)} (h : (DataW.weightsEach P ts ds).all (· ≤ reachBytes) = true) {j : Nat} {t : TypeId} {d : DataW H} (ht : ts[j]? = some t) (hd : ds[j]? = some d) : SizedD P t d := fun n hn => by
  have := List.all_eq_true.1 h n (DataW.weights_mem_each ht hd n hn)
  simpa using this
theorem SizedD.field {t : TypeId} {fs : Array Field} {parts : List (DataW H)} {j : Nat} {f : Field} {d : DataW H} (h : SizedD P t (.agg parts)) (hu : P.underlying t = some (.struct fs)) (hf : fs[j]? = some f) (hd : parts[j]? = some d) : SizedD P f.type d := fun n hn => by
  refine h n ?_
  have hm := DataW.weights_mem_each (P := P) (ts := fs.toList.map (·.type)) (ds := parts) (j := j) (t := f.type) (d := d) (by simp [hf]) hd n hn
  simpa [DataW.weights, hu] using hm
theorem SizedD.len {t e : TypeId} {es sp : List (DataW H)} (h : SizedD P t (.slice es sp)) (hu : P.underlying t = some (.slice e)) : es.length * P.bytesOf e ≤ reachBytes := by
  have := h ((es.length + sp.length) * P.bytesOf e) (by simp [DataW.weights, hu])
  exact Nat.le_trans (Nat.mul_le_mul_right _ (Nat.le_add_right _ _)) this
theorem weights_all {e : TypeId} : ∀ {es : List (DataW H)} {j : Nat} {d : DataW H}, es[j]? = some d → ∀ n ∈ d.weights P e, n ∈ DataW.weightsAll P e es
  | [], _, _, h, _, _ => by simp at h
  | d0 :: r, 0, d, h, n, hn => by
    simp only [List.getElem?_cons_zero, Option.some.injEq] at h
    subst h
    simp only [DataW.weightsAll, List.mem_append]
    exact .inl hn
  | d0 :: r, j + 1, d, h, n, hn => by
    simp only [List.getElem?_cons_succ] at h
    simp only [DataW.weightsAll, List.mem_append]
    exact .inr (weights_all h n hn)
theorem SizedD.elem {t e : TypeId} {es sp : List (DataW H)} (h : SizedD P t (.slice es sp)) (hu : P.underlying t = some (.slice e)) {j : Nat} {d : DataW H} (hd : es[j]? = some d) : SizedD P e d := fun n hn => by
  refine h n ?_
  have := weights_all (P := P) hd n hn
  simp [DataW.weights, hu, this]
theorem open_slice_s {α : Type} [Inhabited α] {k : Nat} {enc' : α → List Value} {ok : α → Prop} {t e : TypeId} (he : EncOf k enc') (hk : 0 < k) (hu : P.underlying t = some (.slice e)) (hC : P.cellsOf e = k) {W : World} {base : Nat} {spare : Nat → Bool} {held : Bool} {v : Value} {n0 : Nat} {x0 : DataW H × List MemPlace}
    (hel : ∀ (n : Nat) (cs : List Value) (x : DataW H × List MemPlace), cs.length = k → DataW.trod enc P W base spare held n e cs = some x → SizedD P e x.1 → ∃ y : α, cs = enc' y ∧ ok y)
    (hf : DataW.trod enc P W base spare held n0 t [v] = some x0) (hs : SizedD P t x0.1) : ∃ A c, ∃ l : List α, v = .slice A l.length c ∧ l.length * P.bytesOf e ≤ reachBytes ∧ SlRd W k v l.length (flat enc' l) ∧ ∀ y ∈ l, ok y := by
  rcases DataW.trod_slice hu hf with ⟨hcs, hx⟩ | ⟨a, len, cap, elems, rest, n, _, hcs, hx, _, hl, hm, hlen, hels, _, _⟩
  · simp at hcs
    subst hcs
    exact ⟨none, 0, [], rfl, by simp, ⟨by simp [flat], none, 0, rfl, .inl ⟨rfl, rfl⟩⟩, fun y hy => by cases hy⟩
  · simp at hcs
    subst hcs
    rw [hC] at hels
    rw [(Prod.mk.inj hx).1] at hs
    have hsl := hs.len hu
    rw [List.length_map] at hsl
    have each : ∀ i, i < len → ∃ y : α, ok y ∧ ∀ j x, (enc' y)[j]? = some x → W.cell? ((a.add (i * k)).add j) = some x := by
      intro i hi
      have h1 := hels i hi
      rw [List.getElem?_eq_getElem (show i < elems.length by omega), Option.bind_eq_some_iff] at h1
      obtain ⟨cs', hcs, ht⟩ := h1
      obtain ⟨_, hcl, hat⟩ := World.cells?_some hcs
      obtain ⟨y, rfl, hy⟩ := hel _ _ _ hcl ht (hs.elem hu (j := i) (by rw [List.getElem?_map, List.getElem?_eq_getElem (show i < elems.length by omega)]; rfl))
      exact ⟨y, hy, fun j x hj => (hat j (by rw [← hcl]; exact (List.getElem?_eq_some_iff.1 hj).1)).trans hj⟩
    obtain ⟨f, hf⟩ := Go.Deep.choose_lt each
    have hll : ((List.range len).map f).length = len := by simp
    have hat : ∀ {i : Nat} {y : α}, ((List.range len).map f)[i]? = some y → i < len ∧ y = f i := by
      intro i y hi
      have hil : i < len := by have := (List.getElem?_eq_some_iff.1 hi).1; simpa using this
      rw [List.getElem?_map, List.getElem?_range hil] at hi
      simp only [Option.map_some, Option.some.injEq] at hi
      exact ⟨hil, hi.symm⟩
    refine ⟨some a, cap, (List.range len).map f, by rw [hll], by rw [hll]; rw [show elems.length = len by omega] at hsl; exact hsl, ?_, ?_⟩
    · rw [hll]
      refine ⟨by rw [flat_len he, hll], some a, cap, rfl, .inr ⟨a, rfl, fun q x hq => ?_⟩⟩
      obtain ⟨y, hy, hyx⟩ := flat_pick he hk hq
      obtain ⟨hil, rfl⟩ := hat hy
      have hc := (hf (q / k) hil).2 (q % k) x hyx
      have ha : a = ⟨a.block, a.off, none⟩ := by
        obtain ⟨z, hz⟩ : ∃ z, (enc' (f 0))[0]? = some z := ⟨_, List.getElem?_eq_getElem (by have := he.len (f 0); omega)⟩
        have h0 := (hf 0 (Nat.lt_of_le_of_lt (Nat.zero_le _) hil)).2 0 _ hz
        rw [Nat.zero_mul, show (a.add 0).add 0 = a by simp [Addr.add]] at h0
        exact spot0 h0
      rw [ha, Addr.add_lit, Addr.add_lit] at hc
      rw [ha, Addr.add_lit]
      have e1 : a.off + q / k * k + q % k = a.off + q := by rw [Nat.add_assoc, Nat.mul_comm]; congr 1; exact Nat.div_add_mod q k
      rw [e1] at hc
      exact hc
    · intro y hy
      obtain ⟨i, hi⟩ := List.getElem?_of_mem hy
      obtain ⟨hil, rfl⟩ := hat hi
      exact (hf i hil).1
/-- a []byte, met anywhere -/
theorem open_8s {W : World} {base : Nat} {spare : Nat → Bool} {held : Bool} {v : Value} {n0 : Nat} {x0 : DataW H × List MemPlace} (hf : DataW.trod enc Try.prog W base spare held n0 29 [v] = some x0) (hs : SizedD Try.prog 29 x0.1) :
    ∃ A c l, v = .slice A l.length c ∧ Sl8 W (.slice A l.length c) l ∧ l.length ≤ reachBytes := by
  obtain ⟨A, c, l, hcs, hb, hd⟩ := trod_u8s tyU8 cells_u8 hf
  simp at hcs
  refine ⟨A, c, l, hcs, ⟨A, c, rfl, hb.weaken fun _ _ _ => trivial⟩, ?_⟩
  rcases hd with ⟨_, rfl⟩ | ⟨es, sp, e, he⟩
  · simp
  · rw [e] at hs
    have := hs.len Try.underlying29
    rw [bytes_u8] at this
    omega
end
end Go.Proofs.Ytjcfimmcogkopaa.Sep

namespace Go.Proofs.Ytjcfimmcogkopaa.Sep
open Go.RowKit
open Go.Proofs.Ytjcfimmcogkopaa.Mem (Dist Blk Chg below0)

/-- a value of one cell, as itself -/
def encW (v : Value) : List Value := [if v.oneCell' = true then v else .nilIface]
theorem okW : EncOf 1 encW := ⟨fun _ => rfl, fun v x h => by
  unfold encW at h
  rw [List.mem_singleton] at h
  subst h
  split
  · assumption
  · rfl⟩
theorem encW_one {v : Value} (h : v.oneCell' = true) : encW v = [v] := by unfold encW; rw [if_pos h]
/-- a slice, and its bytes -/
abbrev PtT := Value × List UInt8
def PartsT (te : TypeId) (v : Value) (l : List PtT) : Ass := star [Vec te 1 encW v (l.map (·.1)), Each (fun x : PtT => Vec 5 1 encB x.1 x.2) l]
section
variable {P : Program} {te t : TypeId} {v u : Value} {l : List PtT} {d : List UInt8} {w w0 : World} {rs : List RowT} {B : Nat → Prop} {os : List Ass} {Q : Exit → Act → World → Prop} {n : Nat} {env : List (Nat × Value)} {o : Oper} {act : Act}
theorem prts_open : ∀ rs, PartsT te v l rs → ∃ _ : Unit, Parts [Vec te 1 encW v (l.map (·.1)), Each (fun x : PtT => Vec 5 1 encB x.1 x.2) l] rs := fun _ h => ⟨(), h⟩
theorem prts_push : ∀ rs, Parts [Vec te 1 encW v (l.map (·.1) ++ [u]), Each (fun x : PtT => Vec 5 1 encB x.1 x.2) l, Vec 5 1 encB u d] rs → PartsT te v (l ++ [(u, d)]) rs := fun rs h => by
  obtain ⟨a, b, e, h1, h2⟩ := h
  refine ⟨a, b, e, ?_, Parts.one (each_close (x := ((u, d) : PtT)) _ h2)⟩
  rw [List.map_append]; exact h1
theorem prts_nil : PartsT te (.slice none 0 0) [] [] := ⟨[], [], rfl, nilVec _ _ _, [], [], rfl, each_nil, rfl⟩
theorem PartsT.at_ (h : PartsT te v l rs) (hr : RowsOf w rs) {j : Nat} (hj : l[j]? = some (u, d)) : ∃ ys, Vec 5 1 encB u d ys ∧ RowsOf w ys := by
  obtain ⟨a, b, e, h1, h2⟩ := h
  subst e
  exact (Parts.one' h2).at_ (f := fun x : PtT => Vec 5 1 encB x.1 x.2) (x := ((u, d) : PtT)) (rows_iff.2 fun z hz => rows_iff.1 hr z (by simp [hz])) hj
theorem prt_rd8 {j : Nat} (hj : l[j]? = some (u, d)) : Rd8 (PartsT te v l) u d := fun rs w h1 h2 => by
  obtain ⟨ys, h3, h4⟩ := h1.at_ h2 hj
  exact vec_sl8 h3 h4
theorem Hp.prtVec (h : Hp B w0 w os) (i : Nat) (hi : os[i]? = some (PartsT te v l)) : ∃ rs, Vec te 1 encW v (l.map (·.1)) rs ∧ RowsOf w rs := by
  obtain ⟨rs, ⟨a, b, e, h1, _⟩, h2⟩ := h.thing i hi
  exact ⟨a, h1, rows_iff.2 fun z hz => rows_iff.1 h2 z (by rw [e]; simp [hz])⟩
theorem e_plen (i : Nat) (hu : P.underlying t = some (.slice te)) (hi : os[i]? = some (PartsT te v l)) {x : Operand} (ho : o.op = .call { callee := .builtin .len, args := #[x], argTypes := #[t] }) (hx : evs env x = some v) (hH : Hp B w0 w os) (hF : Fr n act env) : (execOp act.eval o).run P w = .ok (.value (.int .i64 (l.length : Int))) w := by
  obtain ⟨rs, hv, _⟩ := hH.prtVec i hi
  obtain ⟨A, c, rfl⟩ := hv.is
  rw [List.length_map] at hx
  exact exec_bi ho (vs := [.slice A l.length c]) (by simp [evl, hx]) (fun cs => run_len_slice hu A _ c _ w cs) hF
/-- a load out of an element, where the slice is a thing by itself -/
theorem vec_loadW {a : List Value} (hO : OneOf P te) (hv : Vec te 1 encW v a rs) (hr : RowsOf w rs) {j : Nat} (hj : a[j]? = some u) (h1 : u.oneCell' = true) {x : Operand} (ho : o.op = .load te x) (hx : evs env x = some (elp v (j * 1))) (hF : Fr n act env) : (execOp act.eval o).run P w = .ok (.value u) w := by
  rcases hv with ⟨_, h2, _⟩ | ⟨g, cap, cs, h2, _, _, _, h5, h6⟩
  · subst h2; simp at hj
  · subst h2; subst h6
    have hcell : cs[j]? = some u := by
      refine Vec.take_ okW h5 ?_
      have := flat_get okW hj (j := 0) (by decide)
      rw [Nat.mul_one, Nat.add_zero] at this
      rw [this, encW_one h1]; rfl
    refine exec_load ho (off := j) (t := te) (g := g) (cs := cs) ?_ (reads_one hO hcell) hr.1 hF
    rw [hx]; simp [elp]
theorem e_pidx (i : Nat) (hT : SliceT P t te 1) (hi : os[i]? = some (PartsT te v l)) (j : Nat) (hj : j < l.length) {x y : Operand} {kk : IntKind} (ho : o.op = .indexAddr t x y) (hx : evs env x = some v) (hy : evs env y = some (.int kk (j : Int))) (hH : Hp B w0 w os) (hF : Fr n act env) : (execOp act.eval o).run P w = .ok (.value (elp v (j * 1))) w := by
  obtain ⟨rs, h1, h2⟩ := hH
  obtain ⟨a, y', b, e, h3, h4⟩ := Parts.at_ h1 hi
  obtain ⟨c, z, e2, h5, h6⟩ := h3
  have hH2 : Hp B w0 w [Vec te 1 encW v (l.map (·.1)), fun r => ∃ p q, r = p ++ q ∧ p = a ∧ (Parts [Each (fun x : PtT => Vec 5 1 encB x.1 x.2) l] z ∧ q = z ++ b)] := by
    refine ⟨c ++ (a ++ (z ++ b)), ⟨c, a ++ (z ++ b), rfl, h5, a ++ (z ++ b), [], by simp, ⟨a, z ++ b, rfl, rfl, h6, rfl⟩, rfl⟩, hp_perm h2 ?_⟩
    rw [e, e2]
    have : (a ++ (c ++ z ++ b)).Perm (c ++ (a ++ (z ++ b))) := by
      rw [List.append_assoc, ← List.append_assoc, ← List.append_assoc c a]
      exact List.perm_append_comm.append_right _
    simpa using this
  exact e_vidx 0 hT okW rfl j (by rw [List.length_map]; exact hj) ho hx hy hH2 hF
theorem e_pload (i : Nat) (hO : OneOf P te) (hi : os[i]? = some (PartsT te v l)) (j : Nat) (hj : l[j]? = some (u, d)) {x : Operand} (ho : o.op = .load te x) (hx : evs env x = some (elp v (j * 1))) (hH : Hp B w0 w os) (hF : Fr n act env) : (execOp act.eval o).run P w = .ok (.value u) w := by
  obtain ⟨rs, h1, h2⟩ := hH.thing i hi
  obtain ⟨ys, h3, _⟩ := h1.at_ h2 hj
  obtain ⟨rs2, h4, h5⟩ := hH.prtVec i hi
  exact vec_loadW hO h4 h5 (j := j) (by rw [List.getElem?_map, hj]; rfl) h3.c1.2 ho hx hF
/-- a slice of one slice -/
theorem a_buildV (q : Nat) {e' : TypeId} {k' : Nat} {α : Type} {enc' : α → List Value} {l' : List α} (hT : SliceT P t te 1) (hq : os[q]? = some (Vec e' k' enc' u l')) {x : Operand} (ho : o.op = .buildSlice t 1 #[(0, x)]) (hx : evs env x = some u) : Acts P Q n env B w0 os o (fun v : Value => v) (fun v => Vec te 1 encW v [u] :: os) := fun b w hH hF K hK => by
  obtain ⟨rs, h1, _⟩ := hH.thing q hq
  exact a_build1 hT okW u (encW_one h1.c1.2) ho hx b w hH hF K hK
end

/-! ## Such as came in -/
structure PtV where
  A : Option Addr
  c : Nat
  d : List UInt8
def PtV.v (x : PtV) : Value := .slice x.A x.d.length x.c
def encPt (x : PtV) : List Value := [x.v]
instance : Inhabited PtV := ⟨⟨none, 0, []⟩⟩
def PtsRd (w : World) (v : Value) (l : List PtV) : Prop := SlRd w 1 v l.length (flat encPt l) ∧ ∀ x, x ∈ l → Sl8 w x.v x.d
section
variable {u w w0 : World} {v : Value} {l : List PtV} {B : Nat → Prop} {os : List Ass}
theorem PtsRd.below (h : PtsRd u v l) (hb : Below u.heap.size u w) : PtsRd w v l := ⟨h.1.below hb, fun x hx => (h.2 x hx).below hb⟩
end
theorem subTake {A : Option Addr} {n c j : Nat} : subv 1 (.slice A n c) 0 j = .slice A j c := by
  have e : A.map (·.add 0) = A := by
    cases A with
    | none => rfl
    | some a =>
      have : a.add 0 = a := by obtain ⟨b, o, q⟩ := a; cases q <;> simp [Addr.add]
      simp [this]
  simp [subv, e]
/-! ## A list of parts, and its value -/
structure PsV where
  v : Value
  l : List PtT
end Go.Proofs.Ytjcfimmcogkopaa.Sep

namespace Go.Proofs.Ytjcfimmcogkopaa.Sep

/-! ## Files -/
abbrev FS := List (List UInt8 × List UInt8)
/-- what may be pending -/
inductive OpD where
  | app (n b : List UInt8)
  | cut (n : List UInt8) (size : Nat)
  | ren (a b : List UInt8)
  | del (n : List UInt8)
def doneF (f : FS) : OpD → FS
  | .app n b => putM f n ((getM f n).getD [] ++ b)
  | .cut n s => match getM f n with | some x => putM f n (x.take s) | none => f
  | .ren a b => match getM f a with | some x => putM (delM f a) b x | none => f
  | .del n => delM f n
def usedF (f : FS) : Nat := (f.map fun p => p.2.length).sum
theorem nodup_done {f : FS} (h : (keysM f).Nodup) (o : OpD) : (keysM (doneF f o)).Nodup := by
  cases o with
  | app n b => exact nodup_put h
  | cut n s =>
    show (keysM (match getM f n with | some x => putM f n (x.take s) | none => f)).Nodup
    split
    · exact nodup_put h
    · exact h
  | ren a b =>
    show (keysM (match getM f a with | some x => putM (delM f a) b x | none => f)).Nodup
    split
    · exact nodup_put (nodup_del h)
    · exact h
  | del n => exact nodup_del h
theorem nodup_all : ∀ (l : List OpD) {f : FS}, (keysM f).Nodup → (keysM (l.foldl doneF f)).Nodup
  | [], _, h => h
  | o :: r, _, h => nodup_all r (nodup_done h o)
theorem nodup_of_keys {f : FS} (h : (keysM f).Nodup) : f.Nodup := (List.Pairwise.of_map (fun p : List UInt8 × List UInt8 => p.1) (fun a b (hab : a.1 ≠ b.1) e => hab (by rw [e])) h)
/-- the order in which files lie is nobody's business -/
theorem perm_of_mem {f g : FS} (hf : (keysM f).Nodup) (hg : (keysM g).Nodup) (h : ∀ p, p ∈ f ↔ p ∈ g) : f.Perm g :=
  (List.perm_ext_iff_of_nodup (nodup_of_keys hf) (nodup_of_keys hg)).2 h
theorem keys_perm' {f g : FS} (h : f.Perm g) : (keysM f).Perm (keysM g) := h.map _
theorem perm_get {f g : FS} (h : f.Perm g) (hf : (keysM f).Nodup) (k : List UInt8) : getM f k = getM g k := by
  have hg : (keysM g).Nodup := (keys_perm' h).nodup_iff.1 hf
  cases e : getM g k with
  | none => rw [getM_none] at e ⊢; exact fun hm => e ((keys_perm' h).mem_iff.1 hm)
  | some x => exact (getM_some hf).2 (h.mem_iff.2 ((getM_some hg).1 e))
theorem perm_put {f g : FS} (h : f.Perm g) (hf : (keysM f).Nodup) (k x : List UInt8) : (putM f k x).Perm (putM g k x) := by
  have hg : (keysM g).Nodup := (keys_perm' h).nodup_iff.1 hf
  refine perm_of_mem (nodup_put hf) (nodup_put hg) fun p => ?_
  rw [mem_put hf, mem_put hg, h.mem_iff]
theorem perm_del {f g : FS} (h : f.Perm g) (hf : (keysM f).Nodup) (k : List UInt8) : (delM f k).Perm (delM g k) := by
  have hg : (keysM g).Nodup := (keys_perm' h).nodup_iff.1 hf
  refine perm_of_mem (nodup_del hf) (nodup_del hg) fun p => ?_
  rw [mem_del hf, mem_del hg, h.mem_iff]
theorem perm_done {f g : FS} (h : f.Perm g) (hf : (keysM f).Nodup) (o : OpD) : (doneF f o).Perm (doneF g o) := by
  cases o with
  | app n b =>
    show (putM f n _).Perm (putM g n _)
    rw [perm_get h hf]; exact perm_put h hf _ _
  | cut n s =>
    show List.Perm (match getM f n with | some x => putM f n (x.take s) | none => f) (match getM g n with | some x => putM g n (x.take s) | none => g)
    rw [perm_get h hf]
    split
    · exact perm_put h hf _ _
    · exact h
  | ren a b =>
    show List.Perm (match getM f a with | some x => putM (delM f a) b x | none => f) (match getM g a with | some x => putM (delM g a) b x | none => g)
    rw [perm_get h hf]
    split
    · exact perm_put (perm_del h hf _) (nodup_del hf) _ _
    · exact h
  | del n => exact perm_del h hf _
theorem perm_used {f g : FS} (h : f.Perm g) : usedF f = usedF g := (h.map _).sum_nat
theorem used_cons (p : List UInt8 × List UInt8) (f : FS) : usedF (p :: f) = p.2.length + usedF f := by simp [usedF]
theorem used_app (f g : FS) : usedF (f ++ g) = usedF f + usedF g := by simp [usedF]
theorem perm_split {f : FS} {k x : List UInt8} (hf : (keysM f).Nodup) (h : getM f k = some x) : f.Perm ((k, x) :: delM f k) := by
  have hm := (getM_some hf).1 h
  have hd := nodup_del (k := k) hf
  have hn : (keysM ((k, x) :: delM f k)).Nodup := List.nodup_cons.2 ⟨fun hm => by
    obtain ⟨p, hp, e⟩ := List.mem_map.1 hm
    exact ((mem_del hf p).1 hp).2 e, hd⟩
  refine perm_of_mem hf hn fun p => ?_
  rw [List.mem_cons, mem_del hf]
  constructor
  · intro hp
    by_cases e : p.1 = k
    · left
      have := (getM_some (x := p.2) hf).2 (show (k, p.2) ∈ f by rw [← e]; exact hp)
      rw [h] at this
      exact Prod.ext e (Option.some.inj this).symm
    · exact .inr ⟨hp, e⟩
  · rintro (rfl | ⟨hp, _⟩)
    · exact hm
    · exact hp
theorem used_del {f : FS} {k x : List UInt8} (hf : (keysM f).Nodup) (h : getM f k = some x) : usedF (delM f k) + x.length = usedF f := by
  rw [perm_used (perm_split hf h), used_cons]; simp only; omega
theorem del_none {f : FS} {k : List UInt8} (h : getM f k = none) : delM f k = f := by
  unfold delM
  unfold getM at h
  rw [Option.map_eq_none_iff.1 h]
theorem used_put_new {f : FS} {k x : List UInt8} (h : getM f k = none) : usedF (putM f k x) = usedF f + x.length := by
  rw [keys_put_new h, used_app]; simp [usedF]
theorem used_put_old {f : FS} {k x y : List UInt8} (hf : (keysM f).Nodup) (h : getM f k = some y) : usedF (putM f k x) + y.length = usedF f + x.length := by
  have hp := nodup_put (k := k) (x := x) hf
  have h1 : getM (putM f k x) k = some x := by rw [getM_put hf, if_pos rfl]
  have h2 := used_del hp h1
  have h3 := used_del hf h
  have h4 : (delM (putM f k x) k).Perm (delM f k) := perm_of_mem (nodup_del hp) (nodup_del hf) fun p => by
    rw [mem_del hp, mem_put hf, mem_del hf]
    constructor
    · rintro ⟨rfl | h, h'⟩
      · exact absurd rfl h'
      · exact h
    · rintro ⟨h, h'⟩
      exact ⟨.inr ⟨h, h'⟩, h'⟩
  rw [perm_used h4] at h2
  omega
theorem used_append {f : FS} (hf : (keysM f).Nodup) (n b : List UInt8) : usedF (doneF f (.app n b)) = usedF f + b.length := by
  show usedF (putM f n _) = _
  cases h : getM f n with
  | none => rw [used_put_new h]; simp
  | some y =>
    have := used_put_old (x := y ++ b) hf h
    rw [List.length_append] at this
    simp only [Option.getD_some]
    omega

/-! ## A disk -/
structure DiskD where
  room : Int
  syn : FS
  wait : List OpD
  fuse : Option Nat
  down : Bool
def DiskD.now (d : DiskD) : FS := d.wait.foldl doneF d.syn
/-- what each operation does first -/
def beginD (d : DiskD) : DiskD × Nat :=
  if d.down = true ∨ d.fuse = some 0 then ({ d with down := true }, 3) else ({ d with fuse := d.fuse.map (· - 1) }, 0)
def nameB (n : List UInt8) : Bool := decide (1 ≤ n.length) && decide (n.length ≤ 16)
def doesD (d : DiskD) (o : OpD) : DiskD := { d with wait := d.wait ++ [o] }
theorem now_does (d : DiskD) (o : OpD) : (doesD d o).now = doneF d.now o := by
  show (d.wait ++ [o]).foldl doneF d.syn = _
  rw [List.foldl_append]; rfl
def fitsD (d : DiskD) (n b : List UInt8) : Bool := decide ((usedF d.now : Int) + (b.length : Int) ≤ d.room) && !((getM d.now n).isNone && decide (64 ≤ d.now.length))
def appendD (d : DiskD) (n b : List UInt8) : DiskD × Nat :=
  match beginD d with
  | (d1, e) => if e ≠ 0 then (d1, e) else if nameB n = false then (d1, 1) else if fitsD d1 n b = false then (d1, 2) else (doesD d1 (.app n b), 0)
def cutD (d : DiskD) (n : List UInt8) (s : Int) : DiskD × Nat :=
  match beginD d with
  | (d1, e) => if e ≠ 0 then (d1, e) else match getM d1.now n with
    | none => (d1, 4)
    | some x => if s < 0 ∨ (x.length : Int) < s then (d1, 1) else (doesD d1 (.cut n s.toNat), 0)
def renD (d : DiskD) (a b : List UInt8) : DiskD × Nat :=
  match beginD d with
  | (d1, e) => if e ≠ 0 then (d1, e) else if nameB b = false then (d1, 1) else match getM d1.now a with
    | none => (d1, 4)
    | some _ => (doesD d1 (.ren a b), 0)
def delD (d : DiskD) (n : List UInt8) : DiskD × Nat :=
  match beginD d with
  | (d1, e) => if e ≠ 0 then (d1, e) else match getM d1.now n with
    | none => (d1, 4)
    | some _ => (doesD d1 (.del n), 0)
def syncD (d : DiskD) : DiskD × Nat :=
  match beginD d with
  | (d1, e) => if e ≠ 0 then (d1, e) else ({ d1 with syn := d1.now, wait := [] }, 0)
def readD (d : DiskD) (n : List UInt8) : Option (List UInt8) := if d.down = true then none else getM d.now n
/-- how many of what is pending a crash keeps -/
def keepD (d : DiskD) (keep : Int) : Nat := (keep % ((d.wait.length : Int) + 1)).toNat
/-- the files behind a crash -/
def leftF (d : DiskD) (keep torn : Int) : FS :=
  match d.wait[keepD d keep]? with
  | some (.app n b) => if (torn % (b.length : Int)).toNat = 0 ∨ b = [] then (d.wait.take (keepD d keep)).foldl doneF d.syn else doneF ((d.wait.take (keepD d keep)).foldl doneF d.syn) (.app n (b.take (torn % (b.length : Int)).toNat))
  | _ => (d.wait.take (keepD d keep)).foldl doneF d.syn
def crashD (d : DiskD) (keep torn : Int) : DiskD := ⟨d.room, leftF d keep torn, [], none, false⟩
def newD (room : Int) : DiskD := ⟨room, [], [], none, false⟩
theorem keepD_le (d : DiskD) (keep : Int) : keepD d keep ≤ d.wait.length := by
  unfold keepD
  have h1 := Int.emod_nonneg keep (show ((d.wait.length : Int) + 1) ≠ 0 by omega)
  have h2 := Int.emod_lt_of_pos keep (show 0 < (d.wait.length : Int) + 1 by omega)
  omega

/-! ## One file that is appended to -/
end Go.Proofs.Ytjcfimmcogkopaa.Sep

namespace Go.Proofs.Ytjcfimmcogkopaa.Sep
open Go.RowKit
open Go.Proofs.Ytjcfimmcogkopaa.Mem (Dist Blk Chg below0)
theorem ty_s_s_uint8 : OneOf Try.prog 72 := oneOf Try.underlying72 rfl (by kernel_rfl)
theorem ze_s_s_uint8 : Zero Try.prog 72 #[.slice none 0 0] := zero_of (z := .slice none 0 0) (by kernel_rfl) rfl
theorem ty_s_disk_operation : OneOf Try.prog 51 := oneOf Try.underlying51 rfl (by kernel_rfl)
theorem ty_s_uint8 : OneOf Try.prog 29 := oneOf Try.underlying29 rfl (by kernel_rfl)
theorem ty_api_Base : AggOf Try.prog 28 3 := aggOf Try.underlying28 rfl (by kernel_rfl)
theorem ty_api_Errno : OneOf Try.prog 23 := oneOf Try.underlying23 rfl (by kernel_rfl)
theorem ty_bool : OneOf Try.prog 4 := oneOf Try.underlying4 rfl (by kernel_rfl)
theorem ty_disk_files : OneOf Try.prog 50 := oneOf Try.underlying50 rfl (by kernel_rfl)
theorem ty_disk_kind : OneOf Try.prog 66 := oneOf Try.underlying66 rfl (by kernel_rfl)
theorem ty_disk_operation : AggOf Try.prog 68 5 := aggOf Try.underlying68 rfl (by kernel_rfl)
theorem ze_disk_operation : Zero Try.prog 68 #[.int .i64 0, .string { data := #[] }, .slice none 0 0, .int .i64 0, .string { data := #[] }] := zero_of (z := .agg #[.int .i64 0, .string { data := #[] }, .slice none 0 0, .int .i64 0, .string { data := #[] }]) (by kernel_rfl) rfl
theorem ty_int : OneOf Try.prog 3 := oneOf Try.underlying3 rfl (by kernel_rfl)
theorem ze_int : Zero Try.prog 3 #[.int .i64 0] := zero_of (z := .int .i64 0) (by kernel_rfl) rfl
theorem ty_string : OneOf Try.prog 9 := oneOf Try.underlying9 rfl (by kernel_rfl)
theorem ty_uint64 : OneOf Try.prog 26 := oneOf Try.underlying26 rfl (by kernel_rfl)
theorem ty_uint8 : OneOf Try.prog 5 := oneOf Try.underlying5 rfl (by kernel_rfl)
theorem fd_api_Base_0 : FieldAt Try.prog 28 0 0 := fun g off w => by kernel_rfl
theorem fd_api_Base_1 : FieldAt Try.prog 28 1 1 := fun g off w => by kernel_rfl
theorem fd_api_Base_2 : FieldAt Try.prog 28 2 2 := fun g off w => by kernel_rfl
theorem fd_bursarhand_Harm_0 : FieldAt Try.prog 43 0 0 := fun g off w => by kernel_rfl
theorem fd_bursarhand_Harm_1 : FieldAt Try.prog 43 1 1 := fun g off w => by kernel_rfl
theorem fd_bursarhand_Harm_2 : FieldAt Try.prog 43 2 2 := fun g off w => by kernel_rfl
theorem fd_disk_Disk_0 : FieldAt Try.prog 53 0 0 := fun g off w => by kernel_rfl
theorem fd_disk_Disk_1 : FieldAt Try.prog 53 1 1 := fun g off w => by kernel_rfl
theorem fd_disk_Disk_2 : FieldAt Try.prog 53 2 2 := fun g off w => by kernel_rfl
theorem fd_disk_Disk_3 : FieldAt Try.prog 53 3 3 := fun g off w => by kernel_rfl
theorem fd_disk_Disk_4 : FieldAt Try.prog 53 4 4 := fun g off w => by kernel_rfl
theorem fd_disk_Disk_5 : FieldAt Try.prog 53 5 5 := fun g off w => by kernel_rfl
theorem fd_disk_operation_0 : FieldAt Try.prog 68 0 0 := fun g off w => by kernel_rfl
theorem fd_disk_operation_1 : FieldAt Try.prog 68 1 1 := fun g off w => by kernel_rfl
theorem fd_disk_operation_2 : FieldAt Try.prog 68 2 2 := fun g off w => by kernel_rfl
theorem fd_disk_operation_3 : FieldAt Try.prog 68 3 3 := fun g off w => by kernel_rfl
theorem fd_disk_operation_4 : FieldAt Try.prog 68 4 4 := fun g off w => by kernel_rfl
theorem fd_pack_Reader_0 : FieldAt Try.prog 101 0 0 := fun g off w => by kernel_rfl
theorem fd_pack_Reader_1 : FieldAt Try.prog 101 1 1 := fun g off w => by kernel_rfl
theorem sl_s_uint8 : SliceT Try.prog 72 29 1 := sliceT_of (z := .slice none 0 0) Try.underlying72 (by kernel_rfl) rfl rfl (by decide)
theorem sl_disk_operation : SliceT Try.prog 51 68 5 := sliceT_of (z := .agg #[.int .i64 0, .string { data := #[] }, .slice none 0 0, .int .i64 0, .string { data := #[] }]) Try.underlying51 (by kernel_rfl) rfl rfl (by decide)
theorem sl_uint8 : SliceT Try.prog 29 5 1 := sliceT_of (z := .int .u8 0) Try.underlying29 (by kernel_rfl) rfl rfl (by decide)
def flS : List ((Nat × Nat) × Nat) := [((28, 0), 0), ((28, 1), 1), ((28, 2), 2), ((43, 0), 0), ((43, 1), 1), ((43, 2), 2), ((53, 0), 0), ((53, 1), 1), ((53, 2), 2), ((53, 3), 3), ((53, 4), 4), ((53, 5), 5), ((68, 0), 0), ((68, 1), 1), ((68, 2), 2), ((68, 3), 3), ((68, 4), 4), ((101, 0), 0), ((101, 1), 1)]
theorem hflS : Flds Try.prog flS := flds_of ⟨fd_api_Base_0, fd_api_Base_1, fd_api_Base_2, fd_bursarhand_Harm_0, fd_bursarhand_Harm_1, fd_bursarhand_Harm_2, fd_disk_Disk_0, fd_disk_Disk_1, fd_disk_Disk_2, fd_disk_Disk_3, fd_disk_Disk_4, fd_disk_Disk_5, fd_disk_operation_0, fd_disk_operation_1, fd_disk_operation_2, fd_disk_operation_3, fd_disk_operation_4, fd_pack_Reader_0, fd_pack_Reader_1, trivial⟩

theorem eqBase (a b c d e f : Int) : EqAt Try.prog 28 (.agg #[.int .u64 a, .int .u64 b, .int .i64 c]) (.agg #[.int .u64 d, .int .u64 e, .int .i64 f]) (a == d && (b == e && c == f)) := fun x y w => by
  go_simp
  by_cases h1 : a = d <;> by_cases h2 : b = e <;> by_cases h3 : c = f <;> simp [h1, h2, h3]
end Go.Proofs.Ytjcfimmcogkopaa.Sep

namespace Go.Proofs.Ytjcfimmcogkopaa.Sep
open Go.RowKit
open Go.Proofs.Ytjcfimmcogkopaa.Mem (Dist Blk Chg below0)

def encKey (s : List UInt8) : Value := .string (bs s)
def encFil (x : PtT) : Value := x.1
abbrev FilL := List (List UInt8 × PtT)
theorem mapTyF : MapTy Try.prog 50 9 29 .string encKey (.slice none 0 0) := mapTy_str Try.underlying50 Try.underlying9 (fun w => by kernel_rfl)
/-- the bytes behind the slices of a list of files -/
def FilE (L : FilL) : Ass := Each (fun p : List UInt8 × PtT => Vec 5 1 encB p.2.1 p.2.2) L
/-- the files of a list -/
def fsL (L : FilL) : FS := L.map fun p => (p.1, p.2.2)
theorem keys_fsL (L : FilL) : keysM (fsL L) = keysM L := by simp [keysM, fsL]
theorem rd8_fil {L : FilL} {p : List UInt8 × PtT} (h : p ∈ L) : Rd8 (FilE L) p.2.1 p.2.2 := fun rs w h1 h2 => by
  obtain ⟨j, hj⟩ := List.getElem?_of_mem h
  obtain ⟨ys, h3, h4⟩ := Each.at_ h1 h2 hj
  exact vec_sl8 h3 h4
theorem fnd_map {α β γ : Type} [DecidableEq α] (g : β → γ) (k : α) : ∀ (L : List (α × β)) (i : Nat), fnd k (L.map fun p => (p.1, g p.2)) i = (fnd k L i).map fun q => (q.1, g q.2)
  | [], i => rfl
  | p :: L, i => by
    simp only [List.map_cons, fnd]
    split
    · rfl
    · exact fnd_map g k L (i + 1)
theorem getM_map {α β γ : Type} [DecidableEq α] (g : β → γ) (k : α) (L : List (α × β)) : getM (L.map fun p => (p.1, g p.2)) k = (getM L k).map g := by
  unfold getM
  rw [fnd_map, Option.map_map, Option.map_map]; rfl
theorem putM_map {α β γ : Type} [DecidableEq α] (g : β → γ) (k : α) (x : β) (L : List (α × β)) : putM (L.map fun p => (p.1, g p.2)) k (g x) = (putM L k x).map fun p => (p.1, g p.2) := by
  unfold putM
  rw [fnd_map]
  cases fnd k L 0 with
  | none => simp
  | some q => simp [List.map_set]
theorem delM_map {α β γ : Type} [DecidableEq α] (g : β → γ) (k : α) (L : List (α × β)) : delM (L.map fun p => (p.1, g p.2)) k = (delM L k).map fun p => (p.1, g p.2) := by
  unfold delM
  rw [fnd_map]
  cases fnd k L 0 with
  | none => rfl
  | some q => simp [List.eraseIdx_eq_take_drop_succ, List.map_take, List.map_drop]
theorem getM_fsL (L : FilL) (k : List UInt8) : getM (fsL L) k = (getM L k).map (·.2) := getM_map (fun x : PtT => x.2) k L
theorem putM_fsL (L : FilL) (k : List UInt8) (x : PtT) : putM (fsL L) k x.2 = fsL (putM L k x) := putM_map (fun x : PtT => x.2) k x L
theorem delM_fsL (L : FilL) (k : List UInt8) : delM (fsL L) k = fsL (delM L k) := delM_map (fun x : PtT => x.2) k L
/-! ## The map and the bytes as one thing -/
def FilesT (v : Value) (f : FS) : Ass := fun rs => ∃ L : FilL, f = fsL L ∧ Parts [MapT encKey encFil v L, FilE L] rs
theorem files_open {v : Value} {f : FS} : ∀ rs, FilesT v f rs → ∃ x : { L : FilL // f = fsL L }, Parts [MapT encKey encFil v x.1, FilE x.1] rs := fun _ ⟨L, h, h'⟩ => ⟨⟨L, h⟩, h'⟩
/-- a file's entry: what lies ahead of it, its bytes, what lies behind -/
theorem fnd_at0 {L : FilL} {k : List UInt8} {q : Nat × PtT} (h : fnd k L 0 = some q) : L[q.1]? = some (k, q.2) := (fnd_some h).2
theorem fil_open {L : FilL} {k : List UInt8} {q : Nat × PtT} (h : fnd k L 0 = some q) : ∀ rs, FilE L rs → ∃ _ : Unit, Parts [FilE (L.take q.1), Vec 5 1 encB q.2.1 q.2.2, FilE (L.drop (q.1 + 1))] rs := each_open (fnd_at0 h)
theorem fil_put {L : FilL} {k : List UInt8} {q : Nat × PtT} (h : fnd k L 0 = some q) (y : PtT) : ∀ rs, Parts [FilE (L.take q.1), Vec 5 1 encB y.1 y.2, FilE (L.drop (q.1 + 1))] rs → FilE (putM L k y) rs := fun rs hr => by
  have h1 := each_back (f := fun p : List UInt8 × PtT => Vec 5 1 encB p.2.1 p.2.2) (y := (k, y)) rs hr
  rw [each_set (y := (k, y)) (List.getElem?_eq_some_iff.1 (fnd_at0 h)).1] at h1
  unfold FilE putM
  rw [h]
  exact h1
theorem fil_new {L : FilL} {k : List UInt8} (h : fnd k L 0 = none) (y : PtT) : ∀ rs, Parts [FilE L, Vec 5 1 encB y.1 y.2] rs → FilE (putM L k y) rs := fun rs hr => by
  have h1 := each_close (f := fun p : List UInt8 × PtT => Vec 5 1 encB p.2.1 p.2.2) (x := (k, y)) rs hr
  unfold FilE putM
  rw [h]
  exact h1
theorem erase_less {α : Type} {l : List α} {j : Nat} {x : α} (h : l[j]? = some x) : (l.eraseIdx j).length < l.length := by
  have := (List.getElem?_eq_some_iff.1 h).1
  rw [List.length_eraseIdx, if_pos this]; omega
theorem used_erase {l : FilL} {j : Nat} {p : List UInt8 × PtT} (h : l[j]? = some p) : usedF (fsL (l.eraseIdx j)) + p.2.2.length = usedF (fsL l) := by
  have hlt := (List.getElem?_eq_some_iff.1 h).1
  have hx := (List.getElem?_eq_some_iff.1 h).2
  have h1 : l = l.take j ++ p :: l.drop (j + 1) := by rw [← hx]; simp
  have h2 : l.eraseIdx j = l.take j ++ l.drop (j + 1) := List.eraseIdx_eq_take_drop_succ ..
  have e1 : fsL l = fsL (l.take j) ++ (p.1, p.2.2) :: fsL (l.drop (j + 1)) := by
    have := congrArg fsL h1
    rw [this]; simp [fsL]
  have e2 : fsL (l.eraseIdx j) = fsL (l.take j) ++ fsL (l.drop (j + 1)) := by rw [h2]; simp [fsL]
  rw [e1, e2, used_app, used_app, used_cons]
  show _ + p.2.2.length = _ + (p.2.2.length + _)
  omega
end Go.Proofs.Ytjcfimmcogkopaa.Sep

namespace Go.Proofs.Ytjcfimmcogkopaa.Sep
open Go.RowKit
open Go.Proofs.Ytjcfimmcogkopaa.Mem (Dist Blk Chg below0)

end Go.Proofs.Ytjcfimmcogkopaa.Sep

namespace Go.Proofs.Ytjcfimmcogkopaa.Sep
open Go.RowKit
open Go.Proofs.Ytjcfimmcogkopaa.Mem (Dist Blk Chg below0)

end Go.Proofs.Ytjcfimmcogkopaa.Sep

namespace Go.Proofs.Ytjcfimmcogkopaa.Sep
open Go.RowKit
open Go.Proofs.Ytjcfimmcogkopaa.Mem (Dist Blk Chg below0)

theorem rbyte_stop {most f : Nat} {l : List UInt8} (h : f ≠ 0) : rbyte most l f = (0, l, f) := rbyte_stuck h
theorem rbyte_nil {most f : Nat} {l : List UInt8} (hf : f = 0) (h : l.length = 0) : rbyte most l f = (0, l, 10) := by
  subst hf
  rw [List.eq_nil_of_length_eq_zero h]; rfl
theorem rbyte_big {most f : Nat} {l : List UInt8} {x : UInt8} (hf : f = 0) (hx : l[0]? = some x) (h : most < x.toNat) : rbyte most l f = (0, l, 12) := by
  subst hf
  cases l with
  | nil => simp at hx
  | cons b r =>
    simp only [List.getElem?_cons_zero, Option.some.injEq] at hx
    subst hx
    simp only [rbyte]
    rw [if_neg (by simp), if_pos h]
theorem rbyte_fine {most f : Nat} {l : List UInt8} {x : UInt8} (hf : f = 0) (hx : l[0]? = some x) (h : ¬ most < x.toNat) : rbyte most l f = (x.toNat, l.drop 1, f) := by
  subst hf
  cases l with
  | nil => simp at hx
  | cons b r =>
    simp only [List.getElem?_cons_zero, Option.some.injEq] at hx
    subst hx
    simp only [rbyte]
    rw [if_neg (by simp), if_neg h]; rfl
theorem vnum_sz (most : Nat) (l : List UInt8) : (vnum most l 0 0).2.1 ≤ l.length := by
  rcases vnum_ends most l 0 0 (by omega) (by decide) with h | h <;> omega
theorem byteR (most : Nat) (l : List UInt8) (f : Nat) : ∃ (x : UInt8) (l1 : List UInt8) (f1 : Nat), rbyte most l f = (x.toNat, l1, f1) := by
  have h := rbyte_lt most l f
  obtain ⟨⟨n, l1, f1⟩, e⟩ : ∃ R, rbyte most l f = R := ⟨_, rfl⟩
  rw [e] at h
  exact ⟨UInt8.ofNat n, l1, f1, by rw [e, byte_of n h]⟩
section
variable {P : Program} {n : Nat} {B : Nat → Prop} {w0 w : World} {os : List Ass} {env : List (Nat × Value)} {o : Oper} {a : Act}
end

set_option maxRecDepth 100000 in
theorem rd_new (u : World) (v : Value) (l : List UInt8) (hv : Sl8 u v l) (hl : l.length ≤ 140737488355328) : DoesU u Try.prog 48 #[v] [] (fun (g : Nat) => .pointer (some ⟨g, 0, none⟩)) (fun (g : Nat) => [RdT g l 0]) := by
  refine d_insU (args := [v]) 7 Try.func48 rfl rfl rfl ?_; intro w rs hU hS
  refine d_reg ?_
  refine h_q hflS rfl ?_
  refine h_done (d_reg ?_)
  refine h_q hflS rfl ?_
  refine h_act (post := fun v2 => [Vec 5 1 encB v2 l]) rfl (a_doesU hU hS (os' := fun v2 => [Vec 5 1 encB v2 l]) [] 0 (ent_of Try.func32 (by kernel_rfl) rfl) (clone8U u hv hl) rfl rfl rfl (fun _ => rfl) rfl rfl rfl) ?_; rintro v2
  refine WL2.fact 0 rfl (fun _ h => Vec.is h) ?_; rintro ⟨A, c, rfl⟩
  refine h_val rfl (.agg #[.slice A l.length c, .int .i64 0]) (fun b w hb hH => exec_build rfl rfl (by kernel_rfl) hb) ?_
  refine h_act (post := fun g1 => [cell g1 101 #[.slice A l.length c, .int .i64 0], Vec 5 1 encB (.slice A l.length c) l]) rfl (a_box (cs := #[.slice A l.length c, .int .i64 0]) rfl rfl rfl) ?_; rintro g1
  refine h_q hflS rfl ?_
  refine h_done (d_ret ?_)
  exact f_fin1 (.tmp rfl) (fun w h => tells g1 rfl [0, 1] rfl h (fun z hz => ⟨z, .refl _, Parts.one (RdT.mk_ rfl rd8_vec hl z hz)⟩)) rfl

set_option maxRecDepth 100000 in
theorem rd_byte (g : Nat) (l : List UInt8) (f most : Nat) (hm : most < 256) (R : Nat × List UInt8 × Nat) (h : rbyte most l f = R) : Does Try.prog 50 #[.pointer (some ⟨g, 0, none⟩), .int .u8 (most : Int)] [RdT g l f] (fun (_ : Unit) => .int .u8 (R.1 : Int)) (fun (_ : Unit) => [RdT g R.2.1 R.2.2]) := by
  refine d_ins (args := [.pointer (some ⟨g, 0, none⟩), .int .u8 (most : Int)]) 41 Try.func50 rfl rfl rfl ?_; intro w rs
  refine d_open 0 rfl RdT.open_ (fun _ => rfl) ?_; rintro ⟨⟨X, A, c⟩, hR, hL⟩
  refine WC2.keep (env' := [(0, .pointer (some ⟨g, 0, none⟩)), (1, .int .u8 (most : Int))]) ⟨rfl, rfl, trivial⟩ ?_
  refine WC2.mid [cell g 101 #[.slice A l.length c, .int .i64 (f : Int)], X] (.refl _) ?_
  refine d_reg ?_
  refine h_q hflS rfl ?_
  refine h_done (d_seq ?_)
  by_cases hf : f = 0
  · skip
    refine d_reg ?_
    refine h_q hflS rfl ?_
    refine h_val rfl (.pointer (some ⟨g, 0, none⟩)) (fun b w hb hH => by exact exec_nilCheck rfl rfl hb) ?_
    refine h_q hflS rfl ?_
    refine h_val rfl (.int .i64 (f : Int)) (fun b w hb hH => exec_load rfl rfl (reads_one ty_api_Errno rfl) (hH.row 0 rfl) hb) ?_
    refine h_val rfl (.bool false) (fun b w hb hH => exec_cmp rfl rfl rfl (cmp_neq_f (by omega)) hb) ?_
    refine h_done (d_else rfl (d_skip (f_to (d_seq ?_))))
    rcases Nat.eq_zero_or_pos l.length with h0 | h0
    · skip
      obtain rfl : R = (0, l, 10) := h.symm.trans (rbyte_nil hf h0)
      refine d_reg ?_
      refine h_q hflS rfl ?_
      refine h_val rfl (.pointer (some ⟨g, 0, none⟩)) (fun b w hb hH => by exact exec_nilCheck rfl rfl hb) ?_
      refine h_q hflS rfl ?_
      refine h_val rfl (.slice A l.length c) (fun b w hb hH => exec_load rfl rfl (reads_one ty_s_uint8 rfl) (hH.row 0 rfl) hb) ?_
      refine h_val rfl (.int .i64 (l.length : Int)) (fun b w hb hH => e_len sl_uint8 rfl rfl hH hb) ?_
      refine h_val rfl (.bool true) (fun b w hb hH => exec_cmp rfl rfl rfl (cmp_eql_t (by omega)) hb) ?_
      refine h_done (d_then rfl (d_reg ?_))
      refine h_q hflS rfl ?_
      refine h_val rfl (.pointer (some ⟨g, 0, none⟩)) (fun b w hb hH => by exact exec_nilCheck rfl rfl hb) ?_
      refine h_q hflS rfl ?_
      refine h_acts (post := fun _ => [cell g 101 #[.slice A l.length c, .int .i64 10], X]) rfl rfl (a_store 0 (v := .int .i64 10) #[.slice A l.length c, .int .i64 10] ty_api_Errno.2 rfl rfl rfl rfl rfl rfl rfl rfl rfl) ?_; rintro ⟨⟩
      refine h_done (d_reg ?_)
      refine h_q hflS rfl ?_
      refine h_done (d_ret (f_then_ret ?_))
      exact f_fin1 (.tmp rfl) (fun w h => tells () rfl [0, 1] rfl h (fun z hz => ⟨z, .refl _, Parts.one (RdT.mk_ rfl hR hL z hz)⟩)) rfl
    · skip
      obtain ⟨x, hx⟩ : ∃ x, l[0]? = some x := ⟨_, List.getElem?_eq_getElem h0⟩
      refine d_reg ?_
      refine h_q hflS rfl ?_
      refine h_val rfl (.pointer (some ⟨g, 0, none⟩)) (fun b w hb hH => by exact exec_nilCheck rfl rfl hb) ?_
      refine h_q hflS rfl ?_
      refine h_val rfl (.slice A l.length c) (fun b w hb hH => exec_load rfl rfl (reads_one ty_s_uint8 rfl) (hH.row 0 rfl) hb) ?_
      refine h_val rfl (.int .i64 (l.length : Int)) (fun b w hb hH => e_len sl_uint8 rfl rfl hH hb) ?_
      refine h_val rfl (.bool false) (fun b w hb hH => exec_cmp rfl rfl rfl (cmp_eql_f (by omega)) hb) ?_
      refine h_done (d_else rfl (d_skip (f_to (d_reg ?_))))
      refine h_q hflS rfl ?_
      refine h_val rfl (.pointer (some ⟨g, 0, none⟩)) (fun b w hb hH => by exact exec_nilCheck rfl rfl hb) ?_
      refine h_q hflS rfl ?_
      refine h_val rfl (.slice A l.length c) (fun b w hb hH => exec_load rfl rfl (reads_one ty_s_uint8 rfl) (hH.row 0 rfl) hb) ?_
      refine h_val rfl (elp' (.slice A l.length c) (0 * 1)) (fun b w hb hH => e_ridx 1 hR.rd sl_uint8 rfl 0 h0 rfl rfl rfl hH hb) ?_
      refine h_val rfl (.int .u8 ((x).toNat : Int)) (fun b w hb hH => e_rload1 1 hR.rd ty_uint8 okB rfl 0 (a := x) hx rfl rfl rfl hH hb) ?_
      refine h_q hflS rfl ?_
      refine h_done (d_seq ?_)
      by_cases hb : most < x.toNat
      · skip
        obtain rfl : R = (0, l, 12) := h.symm.trans (rbyte_big hf hx hb)
        refine d_reg ?_
        refine h_q hflS rfl ?_
        refine h_val rfl (.bool true) (fun b w hb hH => exec_cmp rfl rfl rfl (cmp_gtr_t (by omega)) hb) ?_
        refine h_done (d_then rfl (d_reg ?_))
        refine h_q hflS rfl ?_
        refine h_val rfl (.pointer (some ⟨g, 0, none⟩)) (fun b w hb hH => by exact exec_nilCheck rfl rfl hb) ?_
        refine h_q hflS rfl ?_
        refine h_acts (post := fun _ => [cell g 101 #[.slice A l.length c, .int .i64 12], X]) rfl rfl (a_store 0 (v := .int .i64 12) #[.slice A l.length c, .int .i64 12] ty_api_Errno.2 rfl rfl rfl rfl rfl rfl rfl rfl rfl) ?_; rintro ⟨⟩
        refine h_done (d_reg ?_)
        refine h_q hflS rfl ?_
        refine h_done (d_ret (f_then_ret ?_))
        exact f_fin1 (.tmp rfl) (fun w h => tells () rfl [0, 1] rfl h (fun z hz => ⟨z, .refl _, Parts.one (RdT.mk_ rfl hR hL z hz)⟩)) rfl
      · skip
        obtain ⟨A2, hA2⟩ : ∃ A2, (if c = 1 then A else A.map (·.add 1)) = A2 := ⟨_, rfl⟩
        obtain ⟨l2, hl2⟩ : ∃ l2, l.drop 1 = l2 := ⟨_, rfl⟩
        have hR2 : Rd8 X (.slice A2 l2.length (c - 1)) l2 := by rw [← hA2, ← hl2]; exact hR.drop (by omega)
        have hn2 : l2.length = l.length - 1 := by rw [← hl2, List.length_drop]
        have hL2 : l2.length ≤ 140737488355328 := by omega
        have hsub : subv 1 (.slice A l.length c) 1 l.length = .slice A2 l2.length (c - 1) := by rw [← hA2]; exact sub_drop (by omega) (by omega)
        obtain rfl : R = (x.toNat, l2, f) := by rw [← h, ← hl2]; exact rbyte_fine hf hx hb
        refine d_reg ?_
        refine h_q hflS rfl ?_
        refine h_val rfl (.bool false) (fun b w hb hH => exec_cmp rfl rfl rfl (cmp_gtr_f (by omega)) hb) ?_
        refine h_done (d_else rfl (d_skip (f_to (d_reg ?_))))
        refine h_q hflS rfl ?_
        refine h_val rfl (.pointer (some ⟨g, 0, none⟩)) (fun b w hb hH => by exact exec_nilCheck rfl rfl hb) ?_
        refine h_q hflS rfl ?_
        refine h_val rfl (.slice A l.length c) (fun b w hb hH => exec_load rfl rfl (reads_one ty_s_uint8 rfl) (hH.row 0 rfl) hb) ?_
        refine h_val rfl (.slice A2 l2.length (c - 1)) (fun b w hb hH => e_sub_lo (i := 1) sl_uint8 hsub h0 rfl rfl rfl hH hb) ?_
        refine h_val rfl (.pointer (some ⟨g, 0, none⟩)) (fun b w hb hH => by exact exec_nilCheck rfl rfl hb) ?_
        refine h_q hflS rfl ?_
        refine h_acts (post := fun _ => [cell g 101 #[.slice A2 l2.length (c - 1), .int .i64 (f : Int)], X]) rfl rfl (a_store 0 (v := .slice A2 l2.length (c - 1)) #[.slice A2 l2.length (c - 1), .int .i64 (f : Int)] ty_s_uint8.2 rfl rfl rfl rfl rfl rfl rfl rfl rfl) ?_; rintro ⟨⟩
        refine h_done (d_reg ?_)
        refine h_q hflS rfl ?_
        refine h_done (d_ret ?_)
        exact f_fin1 (.tmp rfl) (fun w h => tells () rfl [0, 1] rfl h (fun z hz => ⟨z, .refl _, Parts.one (RdT.mk_ rfl hR2 hL2 z hz)⟩)) rfl
  · skip
    obtain rfl : R = (0, l, f) := h.symm.trans (rbyte_stop hf)
    refine d_reg ?_
    refine h_q hflS rfl ?_
    refine h_val rfl (.pointer (some ⟨g, 0, none⟩)) (fun b w hb hH => by exact exec_nilCheck rfl rfl hb) ?_
    refine h_q hflS rfl ?_
    refine h_val rfl (.int .i64 (f : Int)) (fun b w hb hH => exec_load rfl rfl (reads_one ty_api_Errno rfl) (hH.row 0 rfl) hb) ?_
    refine h_val rfl (.bool true) (fun b w hb hH => exec_cmp rfl rfl rfl (cmp_neq_t (by omega)) hb) ?_
    refine h_done (d_then rfl (d_reg ?_))
    refine h_q hflS rfl ?_
    refine h_done (d_ret (f_then_ret ?_))
    exact f_fin1 (.tmp rfl) (fun w h => tells () rfl [0, 1] rfl h (fun z hz => ⟨z, .refl _, Parts.one (RdT.mk_ rfl hR hL z hz)⟩)) rfl

set_option maxRecDepth 100000 in
theorem rd_num (g : Nat) (l : List UInt8) (f most : Nat) (hm : most < 18446744073709551616) (R : Nat × List UInt8 × Nat) (h : rnum most l f = R) : Does Try.prog 49 #[.pointer (some ⟨g, 0, none⟩), .int .u64 (most : Int)] [RdT g l f] (fun (_ : Unit) => .int .u64 (R.1 : Int)) (fun (_ : Unit) => [RdT g R.2.1 R.2.2]) := by
  refine d_ins (args := [.pointer (some ⟨g, 0, none⟩), .int .u64 (most : Int)]) 37 Try.func49 rfl rfl rfl ?_; intro w rs
  refine d_open 0 rfl RdT.open_ (fun _ => rfl) ?_; rintro ⟨⟨X, A, c⟩, hR, hL⟩
  refine WC2.keep (env' := [(0, .pointer (some ⟨g, 0, none⟩)), (1, .int .u64 (most : Int))]) ⟨rfl, rfl, trivial⟩ ?_
  refine WC2.mid [cell g 101 #[.slice A l.length c, .int .i64 (f : Int)], X] (.refl _) ?_
  refine d_reg ?_
  refine h_q hflS rfl ?_
  refine h_done (d_seq ?_)
  by_cases hf : f = 0
  · skip
    have hz := vnum_sz most l
    obtain ⟨⟨n, sz, e2⟩, hv⟩ : ∃ R, vnum most l 0 0 = R := ⟨_, rfl⟩
    rw [hv] at hz
    simp only at hz
    obtain ⟨A2, hA2⟩ : ∃ A2, (if c = sz then A else A.map (·.add sz)) = A2 := ⟨_, rfl⟩
    obtain ⟨l2, hl2⟩ : ∃ l2, l.drop sz = l2 := ⟨_, rfl⟩
    have hR2 : Rd8 X (.slice A2 l2.length (c - sz)) l2 := by rw [← hA2, ← hl2]; exact hR.drop (by omega)
    have hn2 : l2.length = l.length - sz := by rw [← hl2, List.length_drop]
    have hL2 : l2.length ≤ 140737488355328 := by omega
    have hsub : subv 1 (.slice A l.length c) sz l.length = .slice A2 l2.length (c - sz) := by rw [← hA2]; exact sub_drop (by omega) (by omega)
    obtain rfl : R = (n, l2, e2) := by rw [← h, ← hl2]; unfold rnum; rw [if_neg (by simp [hf]), hv]
    refine d_reg ?_
    refine h_q hflS rfl ?_
    refine h_val rfl (.pointer (some ⟨g, 0, none⟩)) (fun b w hb hH => by exact exec_nilCheck rfl rfl hb) ?_
    refine h_q hflS rfl ?_
    refine h_val rfl (.int .i64 (f : Int)) (fun b w hb hH => exec_load rfl rfl (reads_one ty_api_Errno rfl) (hH.row 0 rfl) hb) ?_
    refine h_val rfl (.bool false) (fun b w hb hH => exec_cmp rfl rfl rfl (cmp_neq_f (by omega)) hb) ?_
    refine h_done (d_else rfl (d_skip (f_to (d_reg ?_))))
    refine h_q hflS rfl ?_
    refine h_val rfl (.pointer (some ⟨g, 0, none⟩)) (fun b w hb hH => by exact exec_nilCheck rfl rfl hb) ?_
    refine h_q hflS rfl ?_
    refine h_val rfl (.slice A l.length c) (fun b w hb hH => exec_load rfl rfl (reads_one ty_s_uint8 rfl) (hH.row 0 rfl) hb) ?_
    refine h_q hflS rfl ?_
    refine h_act (post := fun _ => [cell g 101 #[.slice A l.length c, .int .i64 (f : Int)], X]) rfl (a_call (ent_of Try.func55 (by kernel_rfl) rfl) (fun w hH => varint8 (hH.rd8 1 rfl hR) hL most hm (n, sz, e2) hv) rfl rfl rfl) ?_; rintro ⟨⟩
    refine h_q hflS rfl ?_
    refine h_done (d_reg ?_)
    refine h_q hflS rfl ?_
    refine h_val rfl (.pointer (some ⟨g, 0, none⟩)) (fun b w hb hH => by exact exec_nilCheck rfl rfl hb) ?_
    refine h_q hflS rfl ?_
    refine h_acts (post := fun _ => [cell g 101 #[.slice A l.length c, .int .i64 (e2 : Int)], X]) rfl rfl (a_store 0 (v := .int .i64 (e2 : Int)) #[.slice A l.length c, .int .i64 (e2 : Int)] ty_api_Errno.2 rfl rfl rfl rfl rfl rfl rfl rfl rfl) ?_; rintro ⟨⟩
    refine h_done (d_reg ?_)
    refine h_q hflS rfl ?_
    refine h_val rfl (.pointer (some ⟨g, 0, none⟩)) (fun b w hb hH => by exact exec_nilCheck rfl rfl hb) ?_
    refine h_q hflS rfl ?_
    refine h_val rfl (.slice A l.length c) (fun b w hb hH => exec_load rfl rfl (reads_one ty_s_uint8 rfl) (hH.row 0 rfl) hb) ?_
    refine h_q hflS rfl ?_
    refine h_val rfl (.slice A2 l2.length (c - sz)) (fun b w hb hH => e_sub_lo (i := sz) sl_uint8 hsub hz rfl rfl rfl hH hb) ?_
    refine h_val rfl (.pointer (some ⟨g, 0, none⟩)) (fun b w hb hH => by exact exec_nilCheck rfl rfl hb) ?_
    refine h_q hflS rfl ?_
    refine h_acts (post := fun _ => [cell g 101 #[.slice A2 l2.length (c - sz), .int .i64 (e2 : Int)], X]) rfl rfl (a_store 0 (v := .slice A2 l2.length (c - sz)) #[.slice A2 l2.length (c - sz), .int .i64 (e2 : Int)] ty_s_uint8.2 rfl rfl rfl rfl rfl rfl rfl rfl rfl) ?_; rintro ⟨⟩
    refine h_done (d_reg ?_)
    refine h_q hflS rfl ?_
    refine h_done (d_ret ?_)
    exact f_fin1 (.tmp rfl) (fun w h => tells () rfl [0, 1] rfl h (fun z hz => ⟨z, .refl _, Parts.one (RdT.mk_ rfl hR2 hL2 z hz)⟩)) rfl
  · skip
    obtain rfl : R = (0, l, f) := h.symm.trans (rnum_stuck hf)
    refine d_reg ?_
    refine h_q hflS rfl ?_
    refine h_val rfl (.pointer (some ⟨g, 0, none⟩)) (fun b w hb hH => by exact exec_nilCheck rfl rfl hb) ?_
    refine h_q hflS rfl ?_
    refine h_val rfl (.int .i64 (f : Int)) (fun b w hb hH => exec_load rfl rfl (reads_one ty_api_Errno rfl) (hH.row 0 rfl) hb) ?_
    refine h_val rfl (.bool true) (fun b w hb hH => exec_cmp rfl rfl rfl (cmp_neq_t (by omega)) hb) ?_
    refine h_done (d_then rfl (d_reg ?_))
    refine h_q hflS rfl ?_
    refine h_done (d_ret (f_then_ret ?_))
    exact f_fin1 (.tmp rfl) (fun w h => tells () rfl [0, 1] rfl h (fun z hz => ⟨z, .refl _, Parts.one (RdT.mk_ rfl hR hL z hz)⟩)) rfl

set_option maxRecDepth 100000 in
theorem rd_end (g : Nat) (l : List UInt8) (f r : Nat) (h : rend l f = r) : Does Try.prog 52 #[.pointer (some ⟨g, 0, none⟩)] [RdT g l f] (fun (_ : Unit) => .int .i64 (r : Int)) (fun (_ : Unit) => [RdT g l f]) := by
  refine d_ins (args := [.pointer (some ⟨g, 0, none⟩)]) 20 Try.func52 rfl rfl rfl ?_; intro w rs
  refine d_open 0 rfl RdT.open_ (fun _ => rfl) ?_; rintro ⟨⟨X, A, c⟩, hR, hL⟩
  refine WC2.keep (env' := [(0, .pointer (some ⟨g, 0, none⟩))]) ⟨rfl, trivial⟩ ?_
  refine WC2.mid [cell g 101 #[.slice A l.length c, .int .i64 (f : Int)], X] (.refl _) ?_
  refine d_reg ?_
  refine h_q hflS rfl ?_
  refine h_done (d_seq ?_)
  have hc : (f = 0 ∧ 0 < l.length) ∨ (f = 0 ∧ ¬ 0 < l.length) ∨ f ≠ 0 := by omega
  rcases hc with ⟨hf, h0⟩ | ⟨hf, h0⟩ | hf
  · skip
    obtain rfl : r = 11 := by rw [← h]; unfold rend; rw [if_pos ⟨hf, h0⟩]
    refine d_reg ?_
    refine h_q hflS rfl ?_
    refine h_val rfl (.pointer (some ⟨g, 0, none⟩)) (fun b w hb hH => by exact exec_nilCheck rfl rfl hb) ?_
    refine h_q hflS rfl ?_
    refine h_val rfl (.int .i64 (f : Int)) (fun b w hb hH => exec_load rfl rfl (reads_one ty_api_Errno rfl) (hH.row 0 rfl) hb) ?_
    refine h_val rfl (.bool true) (fun b w hb hH => exec_cmp rfl rfl rfl (cmp_eql_t (by omega)) hb) ?_
    refine h_q hflS rfl ?_
    refine h_val rfl (.pointer (some ⟨g, 0, none⟩)) (fun b w hb hH => by exact exec_nilCheck rfl rfl hb) ?_
    refine h_q hflS rfl ?_
    refine h_val rfl (.slice A l.length c) (fun b w hb hH => exec_load rfl rfl (reads_one ty_s_uint8 rfl) (hH.row 0 rfl) hb) ?_
    refine h_val rfl (.int .i64 (l.length : Int)) (fun b w hb hH => e_len sl_uint8 rfl rfl hH hb) ?_
    refine h_val rfl (.bool true) (fun b w hb hH => exec_cmp rfl rfl rfl (cmp_gtr_t (by omega)) hb) ?_
    refine h_q hflS rfl ?_
    refine h_done (d_then rfl (d_reg ?_))
    refine h_q hflS rfl ?_
    refine h_done (d_ret (f_then_ret ?_))
    exact f_fin1 (.tmp rfl) (fun w h => tells () rfl [0, 1] rfl h (fun z hz => ⟨z, .refl _, Parts.one (RdT.mk_ rfl hR hL z hz)⟩)) rfl
  · skip
    have hr : r = f := by rw [← h]; unfold rend; rw [if_neg (fun hh => h0 hh.2)]
    refine d_reg ?_
    refine h_q hflS rfl ?_
    refine h_val rfl (.pointer (some ⟨g, 0, none⟩)) (fun b w hb hH => by exact exec_nilCheck rfl rfl hb) ?_
    refine h_q hflS rfl ?_
    refine h_val rfl (.int .i64 (f : Int)) (fun b w hb hH => exec_load rfl rfl (reads_one ty_api_Errno rfl) (hH.row 0 rfl) hb) ?_
    refine h_val rfl (.bool true) (fun b w hb hH => exec_cmp rfl rfl rfl (cmp_eql_t (by omega)) hb) ?_
    refine h_q hflS rfl ?_
    refine h_val rfl (.pointer (some ⟨g, 0, none⟩)) (fun b w hb hH => by exact exec_nilCheck rfl rfl hb) ?_
    refine h_q hflS rfl ?_
    refine h_val rfl (.slice A l.length c) (fun b w hb hH => exec_load rfl rfl (reads_one ty_s_uint8 rfl) (hH.row 0 rfl) hb) ?_
    refine h_val rfl (.int .i64 (l.length : Int)) (fun b w hb hH => e_len sl_uint8 rfl rfl hH hb) ?_
    refine h_val rfl (.bool false) (fun b w hb hH => exec_cmp rfl rfl rfl (cmp_gtr_f (by omega)) hb) ?_
    refine h_q hflS rfl ?_
    refine h_done (d_else rfl (d_skip (f_to (d_reg ?_))))
    refine h_q hflS rfl ?_
    refine h_val rfl (.pointer (some ⟨g, 0, none⟩)) (fun b w hb hH => by exact exec_nilCheck rfl rfl hb) ?_
    refine h_q hflS rfl ?_
    refine h_val rfl (.int .i64 (f : Int)) (fun b w hb hH => exec_load rfl rfl (reads_one ty_api_Errno rfl) (hH.row 0 rfl) hb) ?_
    refine h_q hflS rfl ?_
    refine h_done (d_ret ?_)
    exact f_fin1 (.tmp rfl) (fun w h => tells () (by rw [hr]) [0, 1] rfl h (fun z hz => ⟨z, .refl _, Parts.one (RdT.mk_ rfl hR hL z hz)⟩)) rfl
  · skip
    have hr : r = f := by rw [← h]; unfold rend; rw [if_neg (fun hh => hf hh.1)]
    refine d_reg ?_
    refine h_q hflS rfl ?_
    refine h_val rfl (.pointer (some ⟨g, 0, none⟩)) (fun b w hb hH => by exact exec_nilCheck rfl rfl hb) ?_
    refine h_q hflS rfl ?_
    refine h_val rfl (.int .i64 (f : Int)) (fun b w hb hH => exec_load rfl rfl (reads_one ty_api_Errno rfl) (hH.row 0 rfl) hb) ?_
    refine h_val rfl (.bool false) (fun b w hb hH => exec_cmp rfl rfl rfl (cmp_eql_f (by omega)) hb) ?_
    refine h_q hflS rfl ?_
    refine h_done (d_else rfl (d_skip (f_to (d_reg ?_))))
    refine h_q hflS rfl ?_
    refine h_val rfl (.pointer (some ⟨g, 0, none⟩)) (fun b w hb hH => by exact exec_nilCheck rfl rfl hb) ?_
    refine h_q hflS rfl ?_
    refine h_val rfl (.int .i64 (f : Int)) (fun b w hb hH => exec_load rfl rfl (reads_one ty_api_Errno rfl) (hH.row 0 rfl) hb) ?_
    refine h_q hflS rfl ?_
    refine h_done (d_ret ?_)
    exact f_fin1 (.tmp rfl) (fun w h => tells () (by rw [hr]) [0, 1] rfl h (fun z hz => ⟨z, .refl _, Parts.one (RdT.mk_ rfl hR hL z hz)⟩)) rfl
end Go.Proofs.Ytjcfimmcogkopaa.Sep

namespace Go.Proofs.Ytjcfimmcogkopaa.Sep
open Go.RowKit
open Go.Proofs.Ytjcfimmcogkopaa.Mem (Dist Blk Chg below0)

end Go.Proofs.Ytjcfimmcogkopaa.Sep

namespace Go.Proofs.Ytjcfimmcogkopaa.Sep
open Go.ChangeShapes Go.WideShapes Go.ChangeAt Go.RowKit
section
variable {H : Type} {enc : TypeId × Value → H} {W : World} {base b0 : Nat} {r : Reach} {spare : Nat → Bool} {held : Bool} {v : Value} {d : DataW H} {p : List MemPlace}
end
end Go.Proofs.Ytjcfimmcogkopaa.Sep

namespace Go.Proofs.Ytjcfimmcogkopaa.Sep
open Go.RowKit
open Go.Proofs.Ytjcfimmcogkopaa.Mem (Dist Blk Chg below0)

end Go.Proofs.Ytjcfimmcogkopaa.Sep

namespace Go.Proofs.Ytjcfimmcogkopaa.Sep
open Go.RowKit
open Go.Proofs.Ytjcfimmcogkopaa.Mem (Dist Blk Chg below0)

end Go.Proofs.Ytjcfimmcogkopaa.Sep

namespace Go.Proofs.Ytjcfimmcogkopaa.Sep
open Go.RowKit
open Go.Proofs.Ytjcfimmcogkopaa.Mem (Dist Blk Chg below0)

end Go.Proofs.Ytjcfimmcogkopaa.Sep

namespace Go.Proofs.Ytjcfimmcogkopaa.Sep
open Go.RowKit
open Go.Proofs.Ytjcfimmcogkopaa.Mem (Dist Blk Chg below0)

end Go.Proofs.Ytjcfimmcogkopaa.Sep

namespace Go.Proofs.Ytjcfimmcogkopaa.Sep
open Go.RowKit
open Go.Proofs.Ytjcfimmcogkopaa.Mem (Dist Blk Chg below0)

structure RepD where
  code : Int
  val : Int
  hi : Int
  lo : Int
  sc : Int
deriving DecidableEq
structure RepD.ok (r : RepD) : Prop where
  code : I64 r.code
  val : U64 r.val
  hi : I64 r.hi
  lo : U64 r.lo
  sc : I64 r.sc
def RepD.right (r : RepD) : Bool := (decide (0 ≤ r.code) && decide (r.code ≤ 99)) && scB r.sc
end Go.Proofs.Ytjcfimmcogkopaa.Sep

namespace Go.Proofs.Ytjcfimmcogkopaa.Sep
open Go.RowKit
open Go.Proofs.Ytjcfimmcogkopaa.Mem (Dist Blk Chg below0)

end Go.Proofs.Ytjcfimmcogkopaa.Sep
