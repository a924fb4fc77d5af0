/-
  Law · Opz · Prt · DskM · TyC · Fil · CmdA · CmdB
-/
import Derived.Test.YtjcfimmcogkopaaGreatPA01
import Derived.Test.YtjcfimmcogkopaaGreatPA06
import Derived.Test.YtjcfimmcogkopaaGreatPA08
import Derived.Test.YtjcfimmcogkopaaGreatPB01
import Derived.Test.YtjcfimmcogkopaaGreatRows
import Derived.ProofKit
import Derived.OpenShut
import Derived.JoinedCond
import Derived.SizedLaws
import Derived.Test.YtjcfimmcogkopaaGreatChecked
set_option linter.unusedSimpArgs false
set_option linter.unusedVariables false
set_option maxRecDepth 100000
namespace Go.Proofs.YtjcfimmcogkopaaGreat
open Go.ChangeShapes Go.WideShapes Go.ChangeAt Go.RowKit
theorem own : ownKnob Tryz.prog.godebug = none := by kernel_rfl
theorem Vg : laidOutB Tryz.prog = true := by kernel_rfl
section
variable {H : Type} {enc : TypeId × Value → H} {P : Program}
theorem Ir (hl : laidOutB P = true) {W W' : World} (hb : Below W.heap.size W W') :
    ∀ {ts : List TypeId} {vs : List Value} {ds : List (DataW H)} {ps : List MemPlace}, (∀ t ∈ ts, P.readableRec t = true ∧ t < P.types.size) → (∀ x ∈ ps, x.block < W.heap.size) →
      DataW.TrodAll enc P W 0 (fun _ => true) true ts vs ds ps → DataW.TrodAll enc P W' 0 (fun b => decide (b < W.heap.size)) true ts vs ds ps
  | [], vs, ds, ps, _, _, h => by
    obtain ⟨rfl, rfl, rfl⟩ := trodAll_nil h
    rfl
  | t :: ts, vs, ds, ps, ht, hp, h => by
    obtain ⟨v, vs1, d, ds1, a, b, rfl, rfl, rfl, h1, h2⟩ := trodAll_cons h
    obtain ⟨hr, hrow⟩ := ht t List.mem_cons_self
    exact ⟨a, b, Below.trod hl hr hrow h1 hb (fun x hx => hp x (List.mem_append_left _ hx)), Ir hl hb (fun t h => ht t (List.mem_cons_of_mem _ h)) (fun x hx => hp x (List.mem_append_right _ hx)) h2, rfl⟩
theorem Tg {f : Func} {s : ChangeSpec} {tb : TypeId} {W W' : World} {args : Array Value} {ds gs : List (DataW H)} {before : List MemPlace}
    (hl : laidOutB P = true) (hr : f.resultTypes = #[tb]) (htb : P.underlying tb = some .bool) (hread : ∀ t ∈ f.params.toList, P.readableRec t = true ∧ t < P.types.size)
    (hvars : s.vars = []) (hs : s.fn H ds = { results := [.lit (.bool true)], args := ds })
    (hW : DataW.Whole enc P f.params.toList s.vars false W args.toList ds gs before) (hb : Below W.heap.size W W') :
    s.post enc P f false true false false W args (.bool true) W' := by
  have hW' := hW
  obtain ⟨p, q, hA, hV, rfl, hfz, hnd⟩ := hW
  rw [hvars] at hV
  obtain ⟨rfl, rfl⟩ := trodVars_none hV
  have hlt : ∀ x ∈ p, x.block < W.heap.size := fun x hx => hW'.lt x (by simpa using hx)
  refine ⟨ds, [], p ++ [], [], p, [], hW', ?_, ?_, ?_, ?_, fun h => by cases h⟩
  · rw [List.append_nil, hs, hr]
    exact trodAll_cons_mk (shut_bool htb true) trodAll_mk0
  · rw [List.append_nil, hs]
    exact Ir hl hb hread hlt hA
  · rw [List.append_nil, hs, hvars]
    rfl
  · exact World.keptBut_mono (fun x hx => ⟨hx, .inr (.inl (by simpa using hx))⟩) (hb.frame (· ∈ p ++ []))
end
section
variable {H : Type} {enc : TypeId × Value → H} {P : Program}
theorem R6 {w : World} {a : Addr} {v : Value} (h : w.cell? a = some v) : a = ⟨a.block, a.off, none⟩ := by
 obtain ⟨b, o, s⟩ := a
 have : s = none := by simpa using World.cell?_spot h
 subst this
 rfl
theorem TD {W : World} {base : Nat} {spare : Nat → Bool} {held : Bool} {t e : TypeId} {fuel : Nat} {cs : List Value} {x : DataW H × List MemPlace} (hu : U8 P t e) (hc : P.cellsOf e = 1)
    (hf : DataW.trod enc P W base spare held fuel t cs = some x) : ∃ A c l, cs = [.slice A l.length c] ∧ Bs (fun k => k < W.heap.size) W A c l ∧ ((x.1 = .nil ∧ l = []) ∨ ∃ es sp, x.1 = .slice es sp ∧ es.length = l.length) := by
  rcases open_ints hu.ht hu.he hc hf with ⟨hcs, hx⟩ | ⟨a, len, cap, zs, hcs, _, hl, hm, hz, hx, hcell, hwz⟩
  · subst hcs
    exact ⟨none, 0, [], rfl, Bs.nil _ _ _ (by simp [maxLen]), .inl ⟨by rw [hx], rfl⟩⟩
  · subst hcs
    have hlz : len ≤ zs.length := by rw [hz]; split <;> omega
    have e0 : ((zs.take len).map (fun z => UInt8.ofNat z.toNat)).length = len := by simp; omega
    refine ⟨some a, cap, (zs.take len).map (fun z => UInt8.ofNat z.toNat), by rw [e0], ⟨by omega, hm, fun hn => ?_⟩, .inr ⟨_, _, by rw [hx], by simp [lits]⟩⟩
    have h0 := hcell 0 (by omega)
    have hs : a = ⟨a.block, a.off, none⟩ := by
      have := h0
      rw [show a.add 0 = a by simp [Addr.add]] at this
      exact R6 this
    have hb := World.block_lt_of_cell? _ _ h0
    rw [hs, Addr.add_lit] at hb
    refine ⟨a.block, a.off, by rw [← hs], hb, fun j b hj => ?_⟩
    have hjl := (List.getElem?_eq_some_iff.1 hj).1
    rw [e0] at hjl
    have hcj := hcell j (by omega)
    rw [hs, Addr.add_lit] at hcj
    rw [hcj]
    have hbj : b = UInt8.ofNat (zs.getD j 0).toNat := by
      rw [List.getElem?_map, List.getElem?_take, if_pos (by omega), List.getElem?_eq_getElem (by omega)] at hj
      simp only [Option.map_some, Option.some.injEq] at hj
      rw [← hj, List.getD, List.getElem?_eq_getElem (by omega)]
      rfl
    have hw : 0 ≤ zs.getD j 0 ∧ zs.getD j 0 ≤ 255 := by
      have hmem : zs.getD j 0 ∈ zs := by
        rw [List.getD, List.getElem?_eq_getElem (show j < zs.length by omega)]
        exact List.getElem_mem _
      simpa [Lit.wf, IntKind.min, IntKind.max, IntKind.signed, IntKind.bits] using hwz _ hmem
    rw [hbj]
    unfold Pa
    simp only [UInt8.toNat_ofNat']
    congr 2
    omega
end
theorem Lc {x : Int} (h : (Lit.int .i64 x).wf = true) : -9223372036854775808 ≤ x ∧ x ≤ 9223372036854775807 := by
 simpa [Lit.wf, IntKind.min, IntKind.max, IntKind.signed, IntKind.bits] using h
theorem TE {x : Int} (h : (Lit.int .u64 x).wf = true) : 0 ≤ x ∧ x ≤ 18446744073709551615 := by
 simpa [Lit.wf, IntKind.min, IntKind.max, IntKind.signed, IntKind.bits] using h
theorem NC {P : Program} {l : List TypeId} (h : l.all (fun t => P.readableRec t && decide (t < P.types.size)) = true) : ∀ t ∈ l, P.readableRec t = true ∧ t < P.types.size := by
 intro t ht
 have := List.all_eq_true.1 h t ht
 simpa using this
theorem TF : Tryz.prog.cellsOf 5 = 1 := by kernel_rfl
theorem TG : Tryz.prog.bytesOf 5 = 1 := by kernel_rfl
theorem Yk {H : Type} {l : List (DataW H)} (hk : Rows.uptoSmall H l = true) : Rows.uptoBulkAll l ≤ 1048576 := of_decide_eq_true hk
end Go.Proofs.YtjcfimmcogkopaaGreat
namespace Go.Proofs.YtjcfimmcogkopaaGreat.Sep
open Go.ChangeShapes Go.WideShapes Go.ChangeAt Go.RowKit
section
variable {H : Type} {enc : TypeId × Value → H} {P : Program}
def DI (P : Program) (t : TypeId) (d : DataW H) : Prop := ∀ n ∈ d.weights P t, n ≤ reachBytes
theorem sized_arg {ts : List TypeId} {ds : List (DataW H)} (h : (DataW.weightsEach P ts ds).all (· ≤ reachBytes) = true) {j : Nat} {t : TypeId} {d : DataW H} (ht : ts[j]? = some t) (hd : ds[j]? = some d) : DI P t d := fun n hn => by
  have := List.all_eq_true.1 h n (DataW.weights_mem_each ht hd n hn)
  simpa using this
theorem DI.field {t : TypeId} {fs : Array Field} {parts : List (DataW H)} {j : Nat} {f : Field} {d : DataW H} (h : DI P t (.agg parts)) (hu : P.underlying t = some (.struct fs)) (hf : fs[j]? = some f) (hd : parts[j]? = some d) : DI P f.type d := fun n hn => by
  refine h n ?_
  have hm := DataW.weights_mem_each (P := P) (ts := fs.toList.map (·.type)) (ds := parts) (j := j) (t := f.type) (d := d) (by simp [hf]) hd n hn
  simpa [DataW.weights, hu] using hm
theorem DI.len {t e : TypeId} {es sp : List (DataW H)} (h : DI P t (.slice es sp)) (hu : P.underlying t = some (.slice e)) : es.length * P.bytesOf e ≤ reachBytes := by
 have := h ((es.length + sp.length) * P.bytesOf e) (by simp [DataW.weights, hu])
 exact Nat.le_trans (Nat.mul_le_mul_right _ (Nat.le_add_right _ _)) this
theorem Kh {e : TypeId} : ∀ {es : List (DataW H)} {j : Nat} {d : DataW H}, es[j]? = some d → ∀ n ∈ d.weights P e, n ∈ DataW.weightsAll P e es
  | [], _, _, h, _, _ => by simp at h
  | d0 :: r, 0, d, h, n, hn => by
    simp only [List.getElem?_cons_zero, Option.some.injEq] at h
    subst h
    simp only [DataW.weightsAll, List.mem_append]
    exact .inl hn
  | d0 :: r, j + 1, d, h, n, hn => by
    simp only [List.getElem?_cons_succ] at h
    simp only [DataW.weightsAll, List.mem_append]
    exact .inr (Kh h n hn)
theorem DI.elem {t e : TypeId} {es sp : List (DataW H)} (h : DI P t (.slice es sp)) (hu : P.underlying t = some (.slice e)) {j : Nat} {d : DataW H} (hd : es[j]? = some d) : DI P e d := fun n hn => by
 refine h n ?_
 have := Kh (P := P) hd n hn
 simp [DataW.weights, hu, this]
theorem M9 {α : Type} [Inhabited α] {k : Nat} {enc' : α → List Value} {ok : α → Prop} {t e : TypeId} (he : EncOf k enc') (hk : 0 < k) (hu : P.underlying t = some (.slice e)) (hC : P.cellsOf e = k) {W : World} {base : Nat} {spare : Nat → Bool} {held : Bool} {v : Value} {n0 : Nat} {x0 : DataW H × List MemPlace}
    (hel : ∀ (n : Nat) (cs : List Value) (x : DataW H × List MemPlace), cs.length = k → DataW.trod enc P W base spare held n e cs = some x → DI P e x.1 → ∃ y : α, cs = enc' y ∧ ok y)
    (hf : DataW.trod enc P W base spare held n0 t [v] = some x0) (hs : DI P t x0.1) : ∃ A c, ∃ l : List α, v = .slice A l.length c ∧ l.length * P.bytesOf e ≤ reachBytes ∧ Dy W k v l.length (flat enc' l) ∧ ∀ y ∈ l, ok y := by
  rcases DataW.trod_slice hu hf with ⟨hcs, hx⟩ | ⟨a, len, cap, elems, rest, n, _, hcs, hx, _, hl, hm, hlen, hels, _, _⟩
  · simp at hcs
    subst hcs
    exact ⟨none, 0, [], rfl, by simp, ⟨by simp [flat], none, 0, rfl, .inl ⟨rfl, rfl⟩⟩, fun y hy => by cases hy⟩
  · simp at hcs
    subst hcs
    rw [hC] at hels
    rw [(Prod.mk.inj hx).1] at hs
    have hsl := hs.len hu
    rw [List.length_map] at hsl
    have each : ∀ i, i < len → ∃ y : α, ok y ∧ ∀ j x, (enc' y)[j]? = some x → W.cell? ((a.add (i * k)).add j) = some x := by
      intro i hi
      have h1 := hels i hi
      rw [List.getElem?_eq_getElem (show i < elems.length by omega), Option.bind_eq_some_iff] at h1
      obtain ⟨cs', hcs, ht⟩ := h1
      obtain ⟨_, hcl, hat⟩ := World.cells?_some hcs
      obtain ⟨y, rfl, hy⟩ := hel _ _ _ hcl ht (hs.elem hu (j := i) (by rw [List.getElem?_map, List.getElem?_eq_getElem (show i < elems.length by omega)]; rfl))
      exact ⟨y, hy, fun j x hj => (hat j (by rw [← hcl]; exact (List.getElem?_eq_some_iff.1 hj).1)).trans hj⟩
    obtain ⟨f, hf⟩ := Go.Deep.choose_lt each
    have hll : ((List.range len).map f).length = len := by simp
    have hat : ∀ {i : Nat} {y : α}, ((List.range len).map f)[i]? = some y → i < len ∧ y = f i := by
      intro i y hi
      have hil : i < len := by have := (List.getElem?_eq_some_iff.1 hi).1; simpa using this
      rw [List.getElem?_map, List.getElem?_range hil] at hi
      simp only [Option.map_some, Option.some.injEq] at hi
      exact ⟨hil, hi.symm⟩
    refine ⟨some a, cap, (List.range len).map f, by rw [hll], by rw [hll]; rw [show elems.length = len by omega] at hsl; exact hsl, ?_, ?_⟩
    · rw [hll]
      refine ⟨by rw [DF he, hll], some a, cap, rfl, .inr ⟨a, rfl, fun q x hq => ?_⟩⟩
      obtain ⟨y, hy, hyx⟩ := RR he hk hq
      obtain ⟨hil, rfl⟩ := hat hy
      have hc := (hf (q / k) hil).2 (q % k) x hyx
      have ha : a = ⟨a.block, a.off, none⟩ := by
        obtain ⟨z, hz⟩ : ∃ z, (enc' (f 0))[0]? = some z := ⟨_, List.getElem?_eq_getElem (by have := he.len (f 0); omega)⟩
        have h0 := (hf 0 (Nat.lt_of_le_of_lt (Nat.zero_le _) hil)).2 0 _ hz
        rw [Nat.zero_mul, show (a.add 0).add 0 = a by simp [Addr.add]] at h0
        exact Wl h0
      rw [ha, Addr.add_lit, Addr.add_lit] at hc
      rw [ha, Addr.add_lit]
      have e1 : a.off + q / k * k + q % k = a.off + q := by rw [Nat.add_assoc, Nat.mul_comm]; congr 1; exact Nat.div_add_mod q k
      rw [e1] at hc
      exact hc
    · intro y hy
      obtain ⟨i, hi⟩ := List.getElem?_of_mem hy
      obtain ⟨hil, rfl⟩ := hat hi
      exact (hf i hil).1
theorem Vx {W : World} {base : Nat} {spare : Nat → Bool} {held : Bool} {v : Value} {n0 : Nat} {x0 : DataW H × List MemPlace} (hf : DataW.trod enc Tryz.prog W base spare held n0 32 [v] = some x0) (hs : DI Tryz.prog 32 x0.1) :
    ∃ A c l, v = .slice A l.length c ∧ D6 W (.slice A l.length c) l ∧ l.length ≤ reachBytes := by
  obtain ⟨A, c, l, hcs, hb, hd⟩ := TD K1 TF hf
  simp at hcs
  refine ⟨A, c, l, hcs, ⟨A, c, rfl, hb.weaken fun _ _ _ => trivial⟩, ?_⟩
  rcases hd with ⟨_, rfl⟩ | ⟨es, sp, e, he⟩
  · simp
  · rw [e] at hs
    have := hs.len Tryz.underlying32
    rw [TG] at this
    omega
end
end Go.Proofs.YtjcfimmcogkopaaGreat.Sep
namespace Go.Proofs.YtjcfimmcogkopaaGreat.Sep
open Go.RowKit
open Go.Proofs.YtjcfimmcogkopaaGreat.Mem (Bh Cs Chg AA)
def encW (v : Value) : List Value := [if v.oneCell' = true then v else .nilIface]
theorem Wm : EncOf 1 encW := ⟨fun _ => rfl, fun v x h => by
  unfold encW at h
  rw [List.mem_singleton] at h
  subst h
  split
  · assumption
  · rfl⟩
theorem N7 {v : Value} (h : v.oneCell' = true) : encW v = [v] := by unfold encW; rw [if_pos h]
abbrev PtT := Value × List UInt8
def Bb (te : TypeId) (v : Value) (l : List PtT) : Ass := FQ [Ar te 1 encW v (l.map (·.1)), Dw (fun x : PtT => Ar 5 1 encB x.1 x.2) l]
section
variable {P : Program} {te t : TypeId} {v u : Value} {l : List PtT} {d : List UInt8} {w w0 : World} {rs : List RowT} {B : Nat → Prop} {os : List Ass} {Q : Exit → Act → World → Prop} {n : Nat} {env : List (Nat × Value)} {o : Oper} {act : Act}
theorem Mg : ∀ rs, Bb te v l rs → ∃ _ : Unit, Al [Ar te 1 encW v (l.map (·.1)), Dw (fun x : PtT => Ar 5 1 encB x.1 x.2) l] rs := fun _ h => ⟨(), h⟩
theorem Mh : ∀ rs, Al [Ar te 1 encW v (l.map (·.1) ++ [u]), Dw (fun x : PtT => Ar 5 1 encB x.1 x.2) l, Ar 5 1 encB u d] rs → Bb te v (l ++ [(u, d)]) rs := fun rs h => by
  obtain ⟨a, b, e, h1, h2⟩ := h
  refine ⟨a, b, e, ?_, Al.one (Iz (x := ((u, d) : PtT)) _ h2)⟩
  rw [List.map_append]; exact h1
theorem N8 : Bb te (.slice none 0 0) [] [] := ⟨[], [], rfl, Pd _ _ _, [], [], rfl, E4, rfl⟩
theorem Bb.at_ (h : Bb te v l rs) (hr : RowsOf w rs) {j : Nat} (hj : l[j]? = some (u, d)) : ∃ ys, Ar 5 1 encB u d ys ∧ RowsOf w ys := by
 obtain ⟨a, b, e, h1, h2⟩ := h
 subst e
 exact (Al.one' h2).at_ (f := fun x : PtT => Ar 5 1 encB x.1 x.2) (x := ((u, d) : PtT)) (AT.2 fun z hz => AT.1 hr z (by simp [hz])) hj
theorem Vy {j : Nat} (hj : l[j]? = some (u, d)) : CO (Bb te v l) u d := fun rs w h1 h2 => by
 obtain ⟨ys, h3, h4⟩ := h1.at_ h2 hj
 exact H1 h3 h4
theorem Hp.prtVec (h : Hp B w0 w os) (i : Nat) (hi : os[i]? = some (Bb te v l)) : ∃ rs, Ar te 1 encW v (l.map (·.1)) rs ∧ RowsOf w rs := by
  obtain ⟨rs, ⟨a, b, e, h1, _⟩, h2⟩ := h.thing i hi
  exact ⟨a, h1, AT.2 fun z hz => AT.1 h2 z (by rw [e]; simp [hz])⟩
theorem Hb (i : Nat) (hu : P.underlying t = some (.slice te)) (hi : os[i]? = some (Bb te v l)) {x : Operand} (ho : o.op = .call { callee := .builtin .len, args := #[x], argTypes := #[t] }) (hx : evs env x = some v) (hH : Hp B w0 w os) (hF : Fr n act env) : (execOp act.eval o).run P w = .ok (.value (.int .i64 (l.length : Int))) w := by
 obtain ⟨rs, hv, _⟩ := hH.prtVec i hi
 obtain ⟨A, c, rfl⟩ := hv.is
 rw [List.length_map] at hx
 exact Fl ho (vs := [.slice A l.length c]) (by simp [evl, hx]) (fun cs => E0 hu A _ c _ w cs) hF
theorem R7 {a : List Value} (hO : Eb P te) (hv : Ar te 1 encW v a rs) (hr : RowsOf w rs) {j : Nat} (hj : a[j]? = some u) (h1 : u.oneCell' = true) {x : Operand} (ho : o.op = .load te x) (hx : evs env x = some (BN v (j * 1))) (hF : Fr n act env) : (execOp act.eval o).run P w = .ok (.value u) w := by
  rcases hv with ⟨_, h2, _⟩ | ⟨g, cap, cs, h2, _, _, _, h5, h6⟩
  · subst h2; simp at hj
  · subst h2; subst h6
    have hcell : cs[j]? = some u := by
      refine Ar.take_ Wm h5 ?_
      have := G1 Wm hj (j := 0) (by decide)
      rw [Nat.mul_one, Nat.add_zero] at this
      rw [this, N7 h1]; rfl
    refine Ba ho (off := j) (t := te) (g := g) (cs := cs) ?_ (Bm hO hcell) hr.1 hF
    rw [hx]; simp [BN]
theorem Na (i : Nat) (hT : SliceT P t te 1) (hi : os[i]? = some (Bb te v l)) (j : Nat) (hj : j < l.length) {x y : Operand} {kk : IntKind} (ho : o.op = .indexAddr t x y) (hx : evs env x = some v) (hy : evs env y = some (.int kk (j : Int))) (hH : Hp B w0 w os) (hF : Fr n act env) : (execOp act.eval o).run P w = .ok (.value (BN v (j * 1))) w := by
  obtain ⟨rs, h1, h2⟩ := hH
  obtain ⟨a, y', b, e, h3, h4⟩ := Al.at_ h1 hi
  obtain ⟨c, z, e2, h5, h6⟩ := h3
  have hH2 : Hp B w0 w [Ar te 1 encW v (l.map (·.1)), fun r => ∃ p q, r = p ++ q ∧ p = a ∧ (Al [Dw (fun x : PtT => Ar 5 1 encB x.1 x.2) l] z ∧ q = z ++ b)] := by
    refine ⟨c ++ (a ++ (z ++ b)), ⟨c, a ++ (z ++ b), rfl, h5, a ++ (z ++ b), [], by simp, ⟨a, z ++ b, rfl, rfl, h6, rfl⟩, rfl⟩, C7 h2 ?_⟩
    rw [e, e2]
    have : (a ++ (c ++ z ++ b)).Perm (c ++ (a ++ (z ++ b))) := by
      rw [List.append_assoc, ← List.append_assoc, ← List.append_assoc c a]
      exact List.perm_append_comm.append_right _
    simpa using this
  exact El 0 hT Wm rfl j (by rw [List.length_map]; exact hj) ho hx hy hH2 hF
theorem Kt (i : Nat) (hO : Eb P te) (hi : os[i]? = some (Bb te v l)) (j : Nat) (hj : l[j]? = some (u, d)) {x : Operand} (ho : o.op = .load te x) (hx : evs env x = some (BN v (j * 1))) (hH : Hp B w0 w os) (hF : Fr n act env) : (execOp act.eval o).run P w = .ok (.value u) w := by
 obtain ⟨rs, h1, h2⟩ := hH.thing i hi
 obtain ⟨ys, h3, _⟩ := h1.at_ h2 hj
 obtain ⟨rs2, h4, h5⟩ := hH.prtVec i hi
 exact R7 hO h4 h5 (j := j) (by rw [List.getElem?_map, hj]; rfl) h3.c1.2 ho hx hF
theorem N9 (q : Nat) {e' : TypeId} {k' : Nat} {α : Type} {enc' : α → List Value} {l' : List α} (hT : SliceT P t te 1) (hq : os[q]? = some (Ar e' k' enc' u l')) {x : Operand} (ho : o.op = .buildSlice t 1 #[(0, x)]) (hx : evs env x = some u) : Bk P Q n env B w0 os o (fun v : Value => v) (fun v => Ar te 1 encW v [u] :: os) := fun b w hH hF K hK => by
 obtain ⟨rs, h1, _⟩ := hH.thing q hq
 exact KY hT Wm u (N7 h1.c1.2) ho hx b w hH hF K hK
end
structure PtV where
  A : Option Addr
  c : Nat
  d : List UInt8
def PtV.v (x : PtV) : Value := .slice x.A x.d.length x.c
def XU (x : PtV) : List Value := [x.v]
instance : Inhabited PtV := ⟨⟨none, 0, []⟩⟩
def TH (w : World) (v : Value) (l : List PtV) : Prop := Dy w 1 v l.length (flat XU l) ∧ ∀ x, x ∈ l → D6 w x.v x.d
section
variable {u w w0 : World} {v : Value} {l : List PtV} {B : Nat → Prop} {os : List Ass}
theorem TH.below (h : TH u v l) (hb : Below u.heap.size u w) : TH w v l := ⟨h.1.below hb, fun x hx => (h.2 x hx).below hb⟩
end
theorem Jf {A : Option Addr} {n c j : Nat} : CB 1 (.slice A n c) 0 j = .slice A j c := by
  have e : A.map (·.add 0) = A := by
    cases A with
    | none => rfl
    | some a =>
      have : a.add 0 = a := by obtain ⟨b, o, q⟩ := a; cases q <;> simp [Addr.add]
      simp [this]
  simp [CB, e]
structure PsV where
  v : Value
  l : List PtT
end Go.Proofs.YtjcfimmcogkopaaGreat.Sep
namespace Go.Proofs.YtjcfimmcogkopaaGreat.Sep
abbrev FS := List (List UInt8 × List UInt8)
inductive OpD where
  | app (n b : List UInt8)
  | cut (n : List UInt8) (size : Nat)
  | ren (a b : List UInt8)
  | del (n : List UInt8)
def AG (f : FS) : OpD → FS
  | .app n b => BF f n ((AS f n).getD [] ++ b)
  | .cut n s => match AS f n with | some x => BF f n (x.take s) | none => f
  | .ren a b => match AS f a with | some x => BF (BY f a) b x | none => f
  | .del n => BY f n
def AN (f : FS) : Nat := (f.map fun p => p.2.length).sum
theorem GD {f : FS} (h : (AO f).Nodup) (o : OpD) : (AO (AG f o)).Nodup := by
  cases o with
  | app n b => exact Cd h
  | cut n s =>
    show (AO (match AS f n with | some x => BF f n (x.take s) | none => f)).Nodup
    split
    · exact Cd h
    · exact h
  | ren a b =>
    show (AO (match AS f a with | some x => BF (BY f a) b x | none => f)).Nodup
    split
    · exact Cd (B4 h)
    · exact h
  | del n => exact B4 h
theorem Ed : ∀ (l : List OpD) {f : FS}, (AO f).Nodup → (AO (l.foldl AG f)).Nodup
  | [], _, h => h
  | o :: r, _, h => Ed r (GD h o)
theorem Is {f : FS} (h : (AO f).Nodup) : f.Nodup := (List.Pairwise.of_map (fun p : List UInt8 × List UInt8 => p.1) (fun a b (hab : a.1 ≠ b.1) e => hab (by rw [e])) h)
theorem Ee {f g : FS} (hf : (AO f).Nodup) (hg : (AO g).Nodup) (h : ∀ p, p ∈ f ↔ p ∈ g) : f.Perm g :=
 (List.perm_ext_iff_of_nodup (Is hf) (Is hg)).2 h
theorem CY {f g : FS} (h : f.Perm g) : (AO f).Perm (AO g) := h.map _
theorem En {f g : FS} (h : f.Perm g) (hf : (AO f).Nodup) (k : List UInt8) : AS f k = AS g k := by
  have hg : (AO g).Nodup := (CY h).nodup_iff.1 hf
  cases e : AS g k with
  | none => rw [CM] at e ⊢; exact fun hm => e ((CY h).mem_iff.1 hm)
  | some x => exact (Cz hf).2 (h.mem_iff.2 ((Cz hg).1 e))
theorem Ld {f g : FS} (h : f.Perm g) (hf : (AO f).Nodup) (k x : List UInt8) : (BF f k x).Perm (BF g k x) := by
 have hg : (AO g).Nodup := (CY h).nodup_iff.1 hf
 refine Ee (Cd hf) (Cd hg) fun p => ?_
 rw [Fo hf, Fo hg, h.mem_iff]
theorem Oa {f g : FS} (h : f.Perm g) (hf : (AO f).Nodup) (k : List UInt8) : (BY f k).Perm (BY g k) := by
 have hg : (AO g).Nodup := (CY h).nodup_iff.1 hf
 refine Ee (B4 hf) (B4 hg) fun p => ?_
 rw [DB hf, DB hg, h.mem_iff]
theorem R8 {f g : FS} (h : f.Perm g) (hf : (AO f).Nodup) (o : OpD) : (AG f o).Perm (AG g o) := by
  cases o with
  | app n b =>
    show (BF f n _).Perm (BF g n _)
    rw [En h hf]; exact Ld h hf _ _
  | cut n s =>
    show List.Perm (match AS f n with | some x => BF f n (x.take s) | none => f) (match AS g n with | some x => BF g n (x.take s) | none => g)
    rw [En h hf]
    split
    · exact Ld h hf _ _
    · exact h
  | ren a b =>
    show List.Perm (match AS f a with | some x => BF (BY f a) b x | none => f) (match AS g a with | some x => BF (BY g a) b x | none => g)
    rw [En h hf]
    split
    · exact Ld (Oa h hf _) (B4 hf) _ _
    · exact h
  | del n => exact Oa h hf _
theorem Dl {f g : FS} (h : f.Perm g) : AN f = AN g := (h.map _).sum_nat
theorem Mi (p : List UInt8 × List UInt8) (f : FS) : AN (p :: f) = p.2.length + AN f := by simp [AN]
theorem Le (f g : FS) : AN (f ++ g) = AN f + AN g := by simp [AN]
theorem PE {f : FS} {k x : List UInt8} (hf : (AO f).Nodup) (h : AS f k = some x) : f.Perm ((k, x) :: BY f k) := by
  have hm := (Cz hf).1 h
  have hd := B4 (k := k) hf
  have hn : (AO ((k, x) :: BY f k)).Nodup := List.nodup_cons.2 ⟨fun hm => by
    obtain ⟨p, hp, e⟩ := List.mem_map.1 hm
    exact ((DB hf p).1 hp).2 e, hd⟩
  refine Ee hf hn fun p => ?_
  rw [List.mem_cons, DB hf]
  constructor
  · intro hp
    by_cases e : p.1 = k
    · left
      have := (Cz (x := p.2) hf).2 (show (k, p.2) ∈ f by rw [← e]; exact hp)
      rw [h] at this
      exact Prod.ext e (Option.some.inj this).symm
    · exact .inr ⟨hp, e⟩
  · rintro (rfl | ⟨hp, _⟩)
    · exact hm
    · exact hp
theorem Gg {f : FS} {k x : List UInt8} (hf : (AO f).Nodup) (h : AS f k = some x) : AN (BY f k) + x.length = AN f := by
 rw [Dl (PE hf h), Mi]; simp only; omega
theorem Lf {f : FS} {k : List UInt8} (h : AS f k = none) : BY f k = f := by
 unfold BY
 unfold AS at h
 rw [Option.map_eq_none_iff.1 h]
theorem Jg {f : FS} {k x : List UInt8} (h : AS f k = none) : AN (BF f k x) = AN f + x.length := by
 rw [Fm h, Le]; simp [AN]
theorem GE {f : FS} {k x y : List UInt8} (hf : (AO f).Nodup) (h : AS f k = some y) : AN (BF f k x) + y.length = AN f + x.length := by
  have hp := Cd (k := k) (x := x) hf
  have h1 : AS (BF f k x) k = some x := by rw [Da hf, if_pos rfl]
  have h2 := Gg hp h1
  have h3 := Gg hf h
  have h4 : (BY (BF f k x) k).Perm (BY f k) := Ee (B4 hp) (B4 hf) fun p => by
    rw [DB hp, Fo hf, DB hf]
    constructor
    · rintro ⟨rfl | h, h'⟩
      · exact absurd rfl h'
      · exact h
    · rintro ⟨h, h'⟩
      exact ⟨.inr ⟨h, h'⟩, h'⟩
  rw [Dl h4] at h2
  omega
theorem FX {f : FS} (hf : (AO f).Nodup) (n b : List UInt8) : AN (AG f (.app n b)) = AN f + b.length := by
  show AN (BF f n _) = _
  cases h : AS f n with
  | none => rw [Jg h]; simp
  | some y =>
    have := GE (x := y ++ b) hf h
    rw [List.length_append] at this
    simp only [Option.getD_some]
    omega
structure DiskD where
  room : Int
  syn : FS
  wait : List OpD
  fuse : Option Nat
  down : Bool
def DiskD.now (d : DiskD) : FS := d.wait.foldl AG d.syn
def Bv (d : DiskD) : DiskD × Nat :=
  if d.down = true ∨ d.fuse = some 0 then ({ d with down := true }, 3) else ({ d with fuse := d.fuse.map (· - 1) }, 0)
def CI (n : List UInt8) : Bool := decide (1 ≤ n.length) && decide (n.length ≤ 16)
def Cp (d : DiskD) (o : OpD) : DiskD := { d with wait := d.wait ++ [o] }
theorem Cq (d : DiskD) (o : OpD) : (Cp d o).now = AG d.now o := by
 show (d.wait ++ [o]).foldl AG d.syn = _
 rw [List.foldl_append]; rfl
def Eo (d : DiskD) (n b : List UInt8) : Bool := decide ((AN d.now : Int) + (b.length : Int) ≤ d.room) && !((AS d.now n).isNone && decide (64 ≤ d.now.length))
def Ci (d : DiskD) (n b : List UInt8) : DiskD × Nat :=
  match Bv d with
  | (d1, e) => if e ≠ 0 then (d1, e) else if CI n = false then (d1, 1) else if Eo d1 n b = false then (d1, 2) else (Cp d1 (.app n b), 0)
def Oc (d : DiskD) (n : List UInt8) (s : Int) : DiskD × Nat :=
  match Bv d with
  | (d1, e) => if e ≠ 0 then (d1, e) else match AS d1.now n with
    | none => (d1, 4)
    | some x => if s < 0 ∨ (x.length : Int) < s then (d1, 1) else (Cp d1 (.cut n s.toNat), 0)
def Ie (d : DiskD) (a b : List UInt8) : DiskD × Nat :=
  match Bv d with
  | (d1, e) => if e ≠ 0 then (d1, e) else if CI b = false then (d1, 1) else match AS d1.now a with
    | none => (d1, 4)
    | some _ => (Cp d1 (.ren a b), 0)
def Fp (d : DiskD) (n : List UInt8) : DiskD × Nat :=
  match Bv d with
  | (d1, e) => if e ≠ 0 then (d1, e) else match AS d1.now n with
    | none => (d1, 4)
    | some _ => (Cp d1 (.del n), 0)
def E5 (d : DiskD) : DiskD × Nat :=
  match Bv d with
  | (d1, e) => if e ≠ 0 then (d1, e) else ({ d1 with syn := d1.now, wait := [] }, 0)
def Bx (d : DiskD) (n : List UInt8) : Option (List UInt8) := if d.down = true then none else AS d.now n
def Q1 (d : DiskD) : Nat := if d.down = true then 0 else AN d.now
def FI (d : DiskD) (n : Int) : DiskD := { d with fuse := if 0 ≤ n then some n.toNat else none }
def Cw (d : DiskD) (keep : Int) : Nat := (keep % ((d.wait.length : Int) + 1)).toNat
def CJ (d : DiskD) (keep torn : Int) : FS :=
  match d.wait[Cw d keep]? with
  | some (.app n b) => if (torn % (b.length : Int)).toNat = 0 ∨ b = [] then (d.wait.take (Cw d keep)).foldl AG d.syn else AG ((d.wait.take (Cw d keep)).foldl AG d.syn) (.app n (b.take (torn % (b.length : Int)).toNat))
  | _ => (d.wait.take (Cw d keep)).foldl AG d.syn
def Cg (d : DiskD) (keep torn : Int) : DiskD := ⟨d.room, CJ d keep torn, [], none, false⟩
def Hc (room : Int) : DiskD := ⟨room, [], [], none, false⟩
theorem Hd (d : DiskD) (keep : Int) : Cw d keep ≤ d.wait.length := by
 unfold Cw
 have h1 := Int.emod_nonneg keep (show ((d.wait.length : Int) + 1) ≠ 0 by omega)
 have h2 := Int.emod_lt_of_pos keep (show 0 < (d.wait.length : Int) + 1 by omega)
 omega
end Go.Proofs.YtjcfimmcogkopaaGreat.Sep
namespace Go.Proofs.YtjcfimmcogkopaaGreat.Sep
open Go.RowKit
open Go.Proofs.YtjcfimmcogkopaaGreat.Mem (Bh Cs Chg AA)
theorem Fq : Eb Tryz.prog 78 := F8 Tryz.underlying78 rfl (by kernel_rfl)
theorem Nb : MP Tryz.prog 78 #[.slice none 0 0] := IS (z := .slice none 0 0) (by kernel_rfl) rfl
theorem Ap : Eb Tryz.prog 55 := F8 Tryz.underlying55 rfl (by kernel_rfl)
theorem AM : Eb Tryz.prog 59 := F8 Tryz.underlying59 rfl (by kernel_rfl)
theorem B2 : Eb Tryz.prog 66 := F8 Tryz.underlying66 rfl (by kernel_rfl)
theorem Cx : Eb Tryz.prog 32 := F8 Tryz.underlying32 rfl (by kernel_rfl)
theorem CU : GQ Tryz.prog 31 3 := KK Tryz.underlying31 rfl (by kernel_rfl)
theorem BU : Eb Tryz.prog 40 := F8 Tryz.underlying40 rfl (by kernel_rfl)
theorem Bt : Eb Tryz.prog 4 := F8 Tryz.underlying4 rfl (by kernel_rfl)
theorem IA : GQ Tryz.prog 36 3 := KK Tryz.underlying36 rfl (by kernel_rfl)
theorem D7 : GQ Tryz.prog 54 2 := KK Tryz.underlying54 rfl (by kernel_rfl)
theorem CV : GQ Tryz.prog 107 5 := KK Tryz.underlying107 rfl (by kernel_rfl)
theorem JO : MP Tryz.prog 107 #[.int .i64 0, .string { data := #[] }, .string { data := #[] }, .slice none 0 0, .int .i64 0] := IS (z := .agg #[.int .i64 0, .string { data := #[] }, .string { data := #[] }, .slice none 0 0, .int .i64 0]) (by kernel_rfl) rfl
theorem AY : Eb Tryz.prog 68 := F8 Tryz.underlying68 rfl (by kernel_rfl)
theorem Fs : Eb Tryz.prog 101 := F8 Tryz.underlying101 rfl (by kernel_rfl)
theorem Cy : GQ Tryz.prog 103 5 := KK Tryz.underlying103 rfl (by kernel_rfl)
theorem Jh : MP Tryz.prog 103 #[.int .i64 0, .string { data := #[] }, .slice none 0 0, .int .i64 0, .string { data := #[] }] := IS (z := .agg #[.int .i64 0, .string { data := #[] }, .slice none 0 0, .int .i64 0, .string { data := #[] }]) (by kernel_rfl) rfl
theorem Bc : Eb Tryz.prog 3 := F8 Tryz.underlying3 rfl (by kernel_rfl)
theorem WT : MP Tryz.prog 3 #[.int .i64 0] := IS (z := .int .i64 0) (by kernel_rfl) rfl
theorem Bd : Eb Tryz.prog 9 := F8 Tryz.underlying9 rfl (by kernel_rfl)
theorem By : Eb Tryz.prog 29 := F8 Tryz.underlying29 rfl (by kernel_rfl)
theorem B9 : Eb Tryz.prog 5 := F8 Tryz.underlying5 rfl (by kernel_rfl)
theorem LY : Bz Tryz.prog 31 0 0 := fun g off w => by kernel_rfl
theorem LZ : Bz Tryz.prog 31 1 1 := fun g off w => by kernel_rfl
theorem L0 : Bz Tryz.prog 31 2 2 := fun g off w => by kernel_rfl
theorem He : Bz Tryz.prog 36 0 0 := fun g off w => by kernel_rfl
theorem Hf : Bz Tryz.prog 36 1 1 := fun g off w => by kernel_rfl
theorem Hg : Bz Tryz.prog 36 2 2 := fun g off w => by kernel_rfl
theorem GG : Bz Tryz.prog 83 0 0 := fun g off w => by kernel_rfl
theorem GH : Bz Tryz.prog 83 2 2 := fun g off w => by kernel_rfl
theorem Hh : Bz Tryz.prog 61 0 0 := fun g off w => by kernel_rfl
theorem Hi : Bz Tryz.prog 61 1 1 := fun g off w => by kernel_rfl
theorem Hj : Bz Tryz.prog 61 2 2 := fun g off w => by kernel_rfl
theorem Hk : Bz Tryz.prog 61 3 3 := fun g off w => by kernel_rfl
theorem Hl : Bz Tryz.prog 61 4 4 := fun g off w => by kernel_rfl
theorem Hm : Bz Tryz.prog 61 5 5 := fun g off w => by kernel_rfl
theorem Hn : Bz Tryz.prog 61 6 6 := fun g off w => by kernel_rfl
theorem BE : Bz Tryz.prog 54 0 0 := fun g off w => by kernel_rfl
theorem BP : Bz Tryz.prog 54 1 1 := fun g off w => by kernel_rfl
theorem CF : Bz Tryz.prog 107 0 0 := fun g off w => by kernel_rfl
theorem IB : Bz Tryz.prog 107 1 1 := fun g off w => by kernel_rfl
theorem IC : Bz Tryz.prog 107 2 2 := fun g off w => by kernel_rfl
theorem D8 : Bz Tryz.prog 107 3 3 := fun g off w => by kernel_rfl
theorem ID : Bz Tryz.prog 107 4 4 := fun g off w => by kernel_rfl
theorem Lg : Bz Tryz.prog 70 0 0 := fun g off w => by kernel_rfl
theorem Lh : Bz Tryz.prog 70 1 1 := fun g off w => by kernel_rfl
theorem Li : Bz Tryz.prog 70 2 2 := fun g off w => by kernel_rfl
theorem Lj : Bz Tryz.prog 70 3 3 := fun g off w => by kernel_rfl
theorem Lk : Bz Tryz.prog 70 4 4 := fun g off w => by kernel_rfl
theorem Ll : Bz Tryz.prog 70 5 5 := fun g off w => by kernel_rfl
theorem If : Bz Tryz.prog 103 0 0 := fun g off w => by kernel_rfl
theorem Ig : Bz Tryz.prog 103 1 1 := fun g off w => by kernel_rfl
theorem Ih : Bz Tryz.prog 103 2 2 := fun g off w => by kernel_rfl
theorem Ii : Bz Tryz.prog 103 3 3 := fun g off w => by kernel_rfl
theorem Ij : Bz Tryz.prog 103 4 4 := fun g off w => by kernel_rfl
theorem JP : Bz Tryz.prog 138 0 0 := fun g off w => by kernel_rfl
theorem JQ : Bz Tryz.prog 138 1 1 := fun g off w => by kernel_rfl
theorem DJ : SliceT Tryz.prog 78 32 1 := EP (z := .slice none 0 0) Tryz.underlying78 (by kernel_rfl) rfl rfl (by decide)
theorem AD : SliceT Tryz.prog 55 54 2 := EP (z := .agg #[.string { data := #[] }, .slice none 0 0]) Tryz.underlying55 (by kernel_rfl) rfl rfl (by decide)
theorem BJ : SliceT Tryz.prog 59 107 5 := EP (z := .agg #[.int .i64 0, .string { data := #[] }, .string { data := #[] }, .slice none 0 0, .int .i64 0]) Tryz.underlying59 (by kernel_rfl) rfl rfl (by decide)
theorem CN : SliceT Tryz.prog 66 103 5 := EP (z := .agg #[.int .i64 0, .string { data := #[] }, .slice none 0 0, .int .i64 0, .string { data := #[] }]) Tryz.underlying66 (by kernel_rfl) rfl rfl (by decide)
theorem Fw : SliceT Tryz.prog 93 9 1 := EP (z := .string { data := #[] }) Tryz.underlying93 (by kernel_rfl) rfl rfl (by decide)
theorem AJ : SliceT Tryz.prog 32 5 1 := EP (z := .int .u8 0) Tryz.underlying32 (by kernel_rfl) rfl rfl (by decide)
def flS : List ((Nat × Nat) × Nat) := [((31, 0), 0), ((31, 1), 1), ((31, 2), 2), ((36, 0), 0), ((36, 1), 1), ((36, 2), 2), ((83, 0), 0), ((83, 2), 2), ((61, 0), 0), ((61, 1), 1), ((61, 2), 2), ((61, 3), 3), ((61, 4), 4), ((61, 5), 5), ((61, 6), 6), ((54, 0), 0), ((54, 1), 1), ((107, 0), 0), ((107, 1), 1), ((107, 2), 2), ((107, 3), 3), ((107, 4), 4), ((70, 0), 0), ((70, 1), 1), ((70, 2), 2), ((70, 3), 3), ((70, 4), 4), ((70, 5), 5), ((103, 0), 0), ((103, 1), 1), ((103, 2), 2), ((103, 3), 3), ((103, 4), 4), ((138, 0), 0), ((138, 1), 1)]
theorem Au : KP Tryz.prog flS := MU ⟨LY, LZ, L0, He, Hf, Hg, GG, GH, Hh, Hi, Hj, Hk, Hl, Hm, Hn, BE, BP, CF, IB, IC, D8, ID, Lg, Lh, Li, Lj, Lk, Ll, If, Ig, Ih, Ii, Ij, JP, JQ, trivial⟩
theorem Yd (b c : Bool) : Ti Tryz.prog 4 (.bool b) (.bool c) (b == c) := fun x y w => by
 cases b <;> cases c <;> go_simp
theorem Yl (b c : Bool) : XK Tryz.prog 4 (.bool b) (.bool c) (b != c) := fun x y w => by
 cases b <;> cases c <;> go_simp
theorem Od (b : Bool) : Ti Tryz.prog 4 (.bool b) (.bool b) true := by
 have h := Yd b b
 rwa [show (b == b) = true by simp] at h
theorem WU (a b c d e f : Int) : Ti Tryz.prog 31 (.agg #[.int .u64 a, .int .u64 b, .int .i64 c]) (.agg #[.int .u64 d, .int .u64 e, .int .i64 f]) (a == d && (b == e && c == f)) := fun x y w => by
 go_simp
 by_cases h1 : a = d <;> by_cases h2 : b = e <;> by_cases h3 : c = f <;> simp [h1, h2, h3]
end Go.Proofs.YtjcfimmcogkopaaGreat.Sep
namespace Go.Proofs.YtjcfimmcogkopaaGreat.Sep
open Go.RowKit
open Go.Proofs.YtjcfimmcogkopaaGreat.Mem (Bh Cs Chg AA)
def encKey (s : List UInt8) : Value := .string (bs s)
def AR (x : PtT) : Value := x.1
abbrev FilL := List (List UInt8 × PtT)
theorem Dz : MapTy Tryz.prog 68 9 32 .string encKey (.slice none 0 0) := RY Tryz.underlying68 Tryz.underlying9 (fun w => by kernel_rfl)
def BA (L : FilL) : Ass := Dw (fun p : List UInt8 × PtT => Ar 5 1 encB p.2.1 p.2.2) L
def Cm (L : FilL) : FS := L.map fun p => (p.1, p.2.2)
theorem E6 (L : FilL) : AO (Cm L) = AO L := by simp [AO, Cm]
theorem Ku {L : FilL} {p : List UInt8 × PtT} (h : p ∈ L) : CO (BA L) p.2.1 p.2.2 := fun rs w h1 h2 => by
 obtain ⟨j, hj⟩ := List.getElem?_of_mem h
 obtain ⟨ys, h3, h4⟩ := Dw.at_ h1 h2 hj
 exact H1 h3 h4
theorem Kv {α β γ : Type} [DecidableEq α] (g : β → γ) (k : α) : ∀ (L : List (α × β)) (i : Nat), Fb k (L.map fun p => (p.1, g p.2)) i = (Fb k L i).map fun q => (q.1, g q.2)
  | [], i => rfl
  | p :: L, i => by
    simp only [List.map_cons, Fb]
    split
    · rfl
    · exact Kv g k L (i + 1)
theorem TI {α β γ : Type} [DecidableEq α] (g : β → γ) (k : α) (L : List (α × β)) : AS (L.map fun p => (p.1, g p.2)) k = (AS L k).map g := by
 unfold AS
 rw [Kv, Option.map_map, Option.map_map]; rfl
theorem TJ {α β γ : Type} [DecidableEq α] (g : β → γ) (k : α) (x : β) (L : List (α × β)) : BF (L.map fun p => (p.1, g p.2)) k (g x) = (BF L k x).map fun p => (p.1, g p.2) := by
  unfold BF
  rw [Kv]
  cases Fb k L 0 with
  | none => simp
  | some q => simp [List.map_set]
theorem TK {α β γ : Type} [DecidableEq α] (g : β → γ) (k : α) (L : List (α × β)) : BY (L.map fun p => (p.1, g p.2)) k = (BY L k).map fun p => (p.1, g p.2) := by
  unfold BY
  rw [Kv]
  cases Fb k L 0 with
  | none => rfl
  | some q => simp [List.eraseIdx_eq_take_drop_succ, List.map_take, List.map_drop]
theorem Ep (L : FilL) (k : List UInt8) : AS (Cm L) k = (AS L k).map (·.2) := TI (fun x : PtT => x.2) k L
theorem Ji (L : FilL) (k : List UInt8) (x : PtT) : BF (Cm L) k x.2 = Cm (BF L k x) := TJ (fun x : PtT => x.2) k x L
theorem Oe (L : FilL) (k : List UInt8) : BY (Cm L) k = Cm (BY L k) := TK (fun x : PtT => x.2) k L
def AC (v : Value) (f : FS) : Ass := fun rs => ∃ L : FilL, f = Cm L ∧ Al [BK encKey AR v L, BA L] rs
theorem FJ {v : Value} {f : FS} : ∀ rs, AC v f rs → ∃ x : { L : FilL // f = Cm L }, Al [BK encKey AR v x.1, BA x.1] rs := fun _ ⟨L, h, h'⟩ => ⟨⟨L, h⟩, h'⟩
theorem Q2 {L : FilL} {k : List UInt8} {q : Nat × PtT} (h : Fb k L 0 = some q) : L[q.1]? = some (k, q.2) := (DH h).2
theorem Ho {L : FilL} {k : List UInt8} {q : Nat × PtT} (h : Fb k L 0 = some q) : ∀ rs, BA L rs → ∃ _ : Unit, Al [BA (L.take q.1), Ar 5 1 encB q.2.1 q.2.2, BA (L.drop (q.1 + 1))] rs := R4 (Q2 h)
theorem Vz {L : FilL} {k : List UInt8} {q : Nat × PtT} (h : Fb k L 0 = some q) (y : PtT) : ∀ rs, Al [BA (L.take q.1), Ar 5 1 encB y.1 y.2, BA (L.drop (q.1 + 1))] rs → BA (BF L k y) rs := fun rs hr => by
 have h1 := R5 (f := fun p : List UInt8 × PtT => Ar 5 1 encB p.2.1 p.2.2) (y := (k, y)) rs hr
 rw [TC (y := (k, y)) (List.getElem?_eq_some_iff.1 (Q2 h)).1] at h1
 unfold BA BF
 rw [h]
 exact h1
theorem Q3 {L : FilL} {k : List UInt8} (h : Fb k L 0 = none) (y : PtT) : ∀ rs, Al [BA L, Ar 5 1 encB y.1 y.2] rs → BA (BF L k y) rs := fun rs hr => by
 have h1 := Iz (f := fun p : List UInt8 × PtT => Ar 5 1 encB p.2.1 p.2.2) (x := (k, y)) rs hr
 unfold BA BF
 rw [h]
 exact h1
theorem IE {α : Type} {l : List α} {j : Nat} {x : α} (h : l[j]? = some x) : (l.eraseIdx j).length < l.length := by
 have := (List.getElem?_eq_some_iff.1 h).1
 rw [List.length_eraseIdx, if_pos this]; omega
theorem Lm {l : FilL} {j : Nat} {p : List UInt8 × PtT} (h : l[j]? = some p) : AN (Cm (l.eraseIdx j)) + p.2.2.length = AN (Cm l) := by
 have hlt := (List.getElem?_eq_some_iff.1 h).1
 have hx := (List.getElem?_eq_some_iff.1 h).2
 have h1 : l = l.take j ++ p :: l.drop (j + 1) := by rw [← hx]; simp
 have h2 : l.eraseIdx j = l.take j ++ l.drop (j + 1) := List.eraseIdx_eq_take_drop_succ ..
 have e1 : Cm l = Cm (l.take j) ++ (p.1, p.2.2) :: Cm (l.drop (j + 1)) := by
  have := congrArg Cm h1
  rw [this]; simp [Cm]
 have e2 : Cm (l.eraseIdx j) = Cm (l.take j) ++ Cm (l.drop (j + 1)) := by rw [h2]; simp [Cm]
 rw [e1, e2, Le, Le, Mi]
 show _ + p.2.2.length = _ + (p.2.2.length + _)
 omega
end Go.Proofs.YtjcfimmcogkopaaGreat.Sep
namespace Go.Proofs.YtjcfimmcogkopaaGreat.Sep
open Go.RowKit
open Go.Proofs.YtjcfimmcogkopaaGreat.Mem (Bh Cs Chg AA)
theorem R9 (w : World) (n : Int) (r : Bool) (hr : (n == 0) = r) : Calls Tryz.prog 78 #[.bool false, .int .u64 n] w fun e w' => e = .returned (.bool r) ∧ Below w.heap.size w w' := by
 refine Fj (args := [.bool false, .int .u64 n]) 15 Tryz.func78 rfl rfl rfl (Ad (Ae Au rfl (Ab (Av (Ad (Ae Au rfl (Ab (AI rfl ?_))))))))
 by_cases h0 : n = 0
 obtain rfl : r = true := by rw [← hr]; simp [h0]
 refine Ad (Ae Au rfl (Aa rfl (.bool true) (fun b w hb hH => AZ rfl rfl rfl (GT h0) hb) (Ae Au rfl (Ab (Ax (C4 ?_))))))
 exact Aw (.tmp rfl) (fun w h => ⟨rfl, AA h.up⟩) rfl
 obtain rfl : r = false := by rw [← hr]; simp [h0]
 refine Ad (Ae Au rfl (Aa rfl (.bool false) (fun b w hb hH => AZ rfl rfl rfl (Fu h0) hb) (Ae Au rfl (Ab (Ax (C4 ?_))))))
 exact Aw (.tmp rfl) (fun w h => ⟨rfl, AA h.up⟩) rfl
theorem Sa (w : World) (n : Int) (r : Bool) (hr : EC n = r) : Calls Tryz.prog 78 #[.bool true, .int .u64 n] w fun e w' => e = .returned (.bool r) ∧ Below w.heap.size w w' := by
 refine Fj (args := [.bool true, .int .u64 n]) 15 Tryz.func78 rfl rfl rfl (Ad (Ae Au rfl (Ab (Av (Ad (Ae Au rfl (Ab (As rfl (AB (AL ?_))))))))))
 have hc : n < 1 ∨ (1 ≤ n ∧ n ≤ 72057594037927935) ∨ 72057594037927935 < n := by omega
 rcases hc with h1 | ⟨h1, h2⟩ | h1
 obtain rfl : r = false := by rw [← hr]; simp [EC]; omega
 refine Ad (Ae Au rfl (Aa rfl (.bool false) (fun b w hb hH => AZ rfl rfl rfl (C6 (by omega)) hb) (Ae Au rfl (Ab (Ax ?_)))))
 exact Aw (.tmp rfl) (fun w h => ⟨rfl, AA h.up⟩) rfl
 obtain rfl : r = true := by rw [← hr]; simp [EC]; omega
 refine Ad (Ae Au rfl (Aa rfl (.bool true) (fun b w hb hH => AZ rfl rfl rfl (B1 (by omega)) hb) (Ae Au rfl (Aa rfl (.bool true) (fun b w hb hH => AZ rfl rfl rfl (Dk (by omega)) hb) (Ae Au rfl (Ab (Ax ?_)))))))
 exact Aw (.tmp rfl) (fun w h => ⟨rfl, AA h.up⟩) rfl
 obtain rfl : r = false := by rw [← hr]; simp [EC]; omega
 refine Ad (Ae Au rfl (Aa rfl (.bool true) (fun b w hb hH => AZ rfl rfl rfl (B1 (by omega)) hb) (Ae Au rfl (Aa rfl (.bool false) (fun b w hb hH => AZ rfl rfl rfl (DO (by omega)) hb) (Ae Au rfl (Ab (Ax ?_)))))))
 exact Aw (.tmp rfl) (fun w h => ⟨rfl, AA h.up⟩) rfl
theorem Db (w : World) (there : Bool) (n : Int) (r : Bool) (hr : G6 there (EC n) (n == 0) = r) : Calls Tryz.prog 78 #[.bool there, .int .u64 n] w fun e w' => e = .returned (.bool r) ∧ Below w.heap.size w w' := by
  cases there
  · exact R9 w n r hr
  · exact Sa w n r hr
end Go.Proofs.YtjcfimmcogkopaaGreat.Sep
namespace Go.Proofs.YtjcfimmcogkopaaGreat.Sep
open Go.RowKit
open Go.Proofs.YtjcfimmcogkopaaGreat.Mem (Bh Cs Chg AA)
end Go.Proofs.YtjcfimmcogkopaaGreat.Sep
