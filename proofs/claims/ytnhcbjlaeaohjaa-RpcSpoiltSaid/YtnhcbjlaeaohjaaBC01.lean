/-
  May · Opz · RpcO · RpcE0 · RpcE
-/
import Derived.Test.YtnhcbjlaeaohjaaBA07
import Derived.Test.YtnhcbjlaeaohjaaBA09
import Derived.Test.YtnhcbjlaeaohjaaBB01
import Derived.Test.YtnhcbjlaeaohjaaBB02
import Derived.Test.YtnhcbjlaeaohjaaBB03
import Derived.Test.YtnhcbjlaeaohjaaBB07
import Derived.SizedLaws
set_option linter.unusedSimpArgs false
set_option linter.unusedVariables false

namespace Go.Proofs.Ytnhcbjlaeaohjaa.Sep
open Go.RowKit
open Go.Proofs.Ytnhcbjlaeaohjaa.Mem (Dist Blk Chg)
section
variable {P : Program} {ops : Array Oper} {Q : Exit → Act → World → Prop} {n : Nat} {jobs : List Job} {env env0 : List (Nat × Value)} {B : Nat → Prop} {w0 w : World} {rs os : List Ass} {o : Oper} {deps : List Nat} {kk d : Nat} {v : Value} {rest : List Oper}
theorem o_off (hg : ∀ σ g, wants ops o (depEnv ops jobs σ g deps ++ env0) = some false) : OB2 P ops Q n jobs env0 B w0 rs o ⟨.quiet, kk, fun _ => undef, deps⟩ := fun _ _ σ g _ _ _ _ _ => .inr ⟨hg σ g, rfl⟩
theorem o_coff (hg : ∀ σ g, wants ops o (depEnv ops jobs σ g deps ++ env0) = some false) : OB2 P ops Q n jobs env0 B w0 rs o ⟨.call, kk, fun _ => undef, deps⟩ := fun _ _ σ g _ _ _ hU _ _ => .inr ⟨hg σ g, rfl, hU⟩
def MayOp (P : Program) (ops : Array Oper) (Q : Exit → Act → World → Prop) (n : Nat) (env : List (Nat × Value)) (B : Nat → Prop) (w0 : World) (os : List Ass) (o : Oper) (v : Value) : Prop :=
  ∀ a w, Fr n a env → Hp B w0 w os → (wants ops o env = some true ∧ ∀ K : Act → World → Prop, (∀ w', Hp B w0 w' os → K (a.put o.dst v) w') → o.wp P a w K Q) ∨ (wants ops o env = some false ∧ v = undef)
theorem may_val (hg : wants ops o env = some true) (hrun : ∀ b w, Fr n b env → Hp B w0 w os → (execOp b.eval o).run P w = .ok (.value v) w) : MayOp P ops Q n env B w0 os o v := fun a w hF hH => .inl ⟨hg, fun K hK => by
  unfold Oper.wp
  rw [hrun a w hF hH, Oper.upon_value]
  exact hK w hH⟩
theorem may_act (hg : wants ops o env = some true) (ha : Acts P Q n env B w0 os o (fun _ : Unit => v) (fun _ => os)) : MayOp P ops Q n env B w0 os o v := fun a w hF hH => .inl ⟨hg, fun K hK => ha a w hH hF K fun _ w' hp => hK w' hp⟩
theorem may_off (hg : wants ops o env = some false) : MayOp P ops Q n env B w0 os o undef := fun _ _ _ _ => .inr ⟨hg, rfl⟩
theorem h_may (v : Value) (hd : o.dst = some d) (hn : Nat.blt d n = true) (hm : MayOp P ops Q n env B w0 os o v) (h : WL2 P ops Q n ((d, v) :: env) B w0 os rest) : WL2 P ops Q n env B w0 os (o :: rest) := fun a w hF hH => by
  rcases hm a w hF hH with ⟨hg, hk⟩ | ⟨hg, rfl⟩
  · exact wpList_on hF hg fun K hK => hk K fun w' hp => by rw [hd]; exact hK _ _ (h _ _ (hF.put (blt_lt hn) _) hp)
  · exact st_skip hF hg hd (blt_lt hn) fun b hb => h b w hb hH
end
end Go.Proofs.Ytnhcbjlaeaohjaa.Sep

namespace Go.Proofs.Ytnhcbjlaeaohjaa.Sep
open Go.ChangeShapes Go.WideShapes Go.ChangeAt Go.RowKit
section
variable {H : Type} {enc : TypeId × Value → H} {P : Program}
/-- no slice or string in it is greater than memory may be -/
def SizedD (P : Program) (t : TypeId) (d : DataW H) : Prop := ∀ n ∈ d.weights P t, n ≤ reachBytes
theorem sized_arg {ts : List TypeId} {ds : List (DataW H)} (h : (DataW.weightsEach P ts ds).all (· ≤ reachBytes) = true) {j : Nat} {t : TypeId} {d : DataW H} (ht : ts[j]? = some t) (hd : ds[j]? = some d) : SizedD P t d := fun n hn => by
  have := List.all_eq_true.1 h n (DataW.weights_mem_each ht hd n hn)
  simpa using this
theorem SizedD.field {t : TypeId} {fs : Array Field} {parts : List (DataW H)} {j : Nat} {f : Field} {d : DataW H} (h : SizedD P t (.agg parts)) (hu : P.underlying t = some (.struct fs)) (hf : fs[j]? = some f) (hd : parts[j]? = some d) : SizedD P f.type d := fun n hn => by
  refine h n ?_
  have hm := DataW.weights_mem_each (P := P) (ts := fs.toList.map (·.type)) (ds := parts) (j := j) (t := f.type) (d := d) (by simp [hf]) hd n hn
  simpa [DataW.weights, hu] using hm
theorem SizedD.len {t e : TypeId} {es sp : List (DataW H)} (h : SizedD P t (.slice es sp)) (hu : P.underlying t = some (.slice e)) : es.length * P.bytesOf e ≤ reachBytes := by
  have := h ((es.length + sp.length) * P.bytesOf e) (by simp [DataW.weights, hu])
  exact Nat.le_trans (Nat.mul_le_mul_right _ (Nat.le_add_right _ _)) this
theorem weights_all {e : TypeId} : ∀ {es : List (DataW H)} {j : Nat} {d : DataW H}, es[j]? = some d → ∀ n ∈ d.weights P e, n ∈ DataW.weightsAll P e es
  | [], _, _, h, _, _ => by simp at h
  | d0 :: r, 0, d, h, n, hn => by
    simp only [List.getElem?_cons_zero, Option.some.injEq] at h
    subst h
    simp only [DataW.weightsAll, List.mem_append]
    exact .inl hn
  | d0 :: r, j + 1, d, h, n, hn => by
    simp only [List.getElem?_cons_succ] at h
    simp only [DataW.weightsAll, List.mem_append]
    exact .inr (weights_all h n hn)
theorem SizedD.elem {t e : TypeId} {es sp : List (DataW H)} (h : SizedD P t (.slice es sp)) (hu : P.underlying t = some (.slice e)) {j : Nat} {d : DataW H} (hd : es[j]? = some d) : SizedD P e d := fun n hn => by
  refine h n ?_
  have := weights_all (P := P) hd n hn
  simp [DataW.weights, hu, this]
theorem open_slice_s {α : Type} [Inhabited α] {k : Nat} {enc' : α → List Value} {ok : α → Prop} {t e : TypeId} (he : EncOf k enc') (hk : 0 < k) (hu : P.underlying t = some (.slice e)) (hC : P.cellsOf e = k) {W : World} {base : Nat} {spare : Nat → Bool} {held : Bool} {v : Value} {n0 : Nat} {x0 : DataW H × List MemPlace}
    (hel : ∀ (n : Nat) (cs : List Value) (x : DataW H × List MemPlace), cs.length = k → DataW.trod enc P W base spare held n e cs = some x → SizedD P e x.1 → ∃ y : α, cs = enc' y ∧ ok y)
    (hf : DataW.trod enc P W base spare held n0 t [v] = some x0) (hs : SizedD P t x0.1) : ∃ A c, ∃ l : List α, v = .slice A l.length c ∧ l.length * P.bytesOf e ≤ reachBytes ∧ SlRd W k v l.length (flat enc' l) ∧ ∀ y ∈ l, ok y := by
  rcases DataW.trod_slice hu hf with ⟨hcs, hx⟩ | ⟨a, len, cap, elems, rest, n, _, hcs, hx, _, hl, hm, hlen, hels, _, _⟩
  · simp at hcs
    subst hcs
    exact ⟨none, 0, [], rfl, by simp, ⟨by simp [flat], none, 0, rfl, .inl ⟨rfl, rfl⟩⟩, fun y hy => by cases hy⟩
  · simp at hcs
    subst hcs
    rw [hC] at hels
    rw [(Prod.mk.inj hx).1] at hs
    have hsl := hs.len hu
    rw [List.length_map] at hsl
    have each : ∀ i, i < len → ∃ y : α, ok y ∧ ∀ j x, (enc' y)[j]? = some x → W.cell? ((a.add (i * k)).add j) = some x := by
      intro i hi
      have h1 := hels i hi
      rw [List.getElem?_eq_getElem (show i < elems.length by omega), Option.bind_eq_some_iff] at h1
      obtain ⟨cs', hcs, ht⟩ := h1
      obtain ⟨_, hcl, hat⟩ := World.cells?_some hcs
      obtain ⟨y, rfl, hy⟩ := hel _ _ _ hcl ht (hs.elem hu (j := i) (by rw [List.getElem?_map, List.getElem?_eq_getElem (show i < elems.length by omega)]; rfl))
      exact ⟨y, hy, fun j x hj => (hat j (by rw [← hcl]; exact (List.getElem?_eq_some_iff.1 hj).1)).trans hj⟩
    obtain ⟨f, hf⟩ := Go.Deep.choose_lt each
    have hll : ((List.range len).map f).length = len := by simp
    have hat : ∀ {i : Nat} {y : α}, ((List.range len).map f)[i]? = some y → i < len ∧ y = f i := by
      intro i y hi
      have hil : i < len := by have := (List.getElem?_eq_some_iff.1 hi).1; simpa using this
      rw [List.getElem?_map, List.getElem?_range hil] at hi
      simp only [Option.map_some, Option.some.injEq] at hi
      exact ⟨hil, hi.symm⟩
    refine ⟨some a, cap, (List.range len).map f, by rw [hll], by rw [hll]; rw [show elems.length = len by omega] at hsl; exact hsl, ?_, ?_⟩
    · rw [hll]
      refine ⟨by rw [flat_len he, hll], some a, cap, rfl, .inr ⟨a, rfl, fun q x hq => ?_⟩⟩
      obtain ⟨y, hy, hyx⟩ := flat_pick he hk hq
      obtain ⟨hil, rfl⟩ := hat hy
      have hc := (hf (q / k) hil).2 (q % k) x hyx
      have ha : a = ⟨a.block, a.off, none⟩ := by
        obtain ⟨z, hz⟩ : ∃ z, (enc' (f 0))[0]? = some z := ⟨_, List.getElem?_eq_getElem (by have := he.len (f 0); omega)⟩
        have h0 := (hf 0 (Nat.lt_of_le_of_lt (Nat.zero_le _) hil)).2 0 _ hz
        rw [Nat.zero_mul, show (a.add 0).add 0 = a by simp [Addr.add]] at h0
        exact spot0 h0
      rw [ha, Addr.add_lit, Addr.add_lit] at hc
      rw [ha, Addr.add_lit]
      have e1 : a.off + q / k * k + q % k = a.off + q := by rw [Nat.add_assoc, Nat.mul_comm]; congr 1; exact Nat.div_add_mod q k
      rw [e1] at hc
      exact hc
    · intro y hy
      obtain ⟨i, hi⟩ := List.getElem?_of_mem hy
      obtain ⟨hil, rfl⟩ := hat hi
      exact (hf i hil).1
/-- a []byte, met anywhere -/
theorem open_8s {W : World} {base : Nat} {spare : Nat → Bool} {held : Bool} {v : Value} {n0 : Nat} {x0 : DataW H × List MemPlace} (hf : DataW.trod enc Try.prog W base spare held n0 26 [v] = some x0) (hs : SizedD Try.prog 26 x0.1) :
    ∃ A c l, v = .slice A l.length c ∧ Sl8 W (.slice A l.length c) l ∧ l.length ≤ reachBytes := by
  obtain ⟨A, c, l, hcs, hb, hd⟩ := trod_u8s tyU8 cells_u8 hf
  simp at hcs
  refine ⟨A, c, l, hcs, ⟨A, c, rfl, hb.weaken fun _ _ _ => trivial⟩, ?_⟩
  rcases hd with ⟨_, rfl⟩ | ⟨es, sp, e, he⟩
  · simp
  · rw [e] at hs
    have := hs.len Try.underlying26
    rw [bytes_u8] at this
    omega
end
end Go.Proofs.Ytnhcbjlaeaohjaa.Sep

namespace Go.Proofs.Ytnhcbjlaeaohjaa.Sep
open Go.ChangeShapes Go.WideShapes Go.ChangeAt Go.RowKit
/-- a struct's field of one cell -/
structure F1 (f : Field) (t : TypeId) (o : Nat) : Prop where
  t : f.type = t
  o : f.offset = o
section
variable {H : Type} {enc : TypeId × Value → H} {W : World} {base b0 : Nat} {r : Reach} {spare : Nat → Bool} {held : Bool} {v : Value} {d : DataW H} {p : List MemPlace}
theorem fldF {P : Program} {n j k off : Nat} {f : Field} {t : TypeId} {cs zs : List Value} {ys : List (DataW H × List MemPlace)} {y : DataW H × List MemPlace} (hF : F1 f t off) (hc : P.cellsOf t = k) (h : DataW.trod enc P W base spare held n f.type ((cs.drop f.offset).take (P.cellsOf f.type)) = ys[j]?) (ha : (cs.drop off).take k = zs) (hy : ys[j]? = some y) : DataW.trod enc P W base spare held n t zs = some y := by
  rw [hF.t, hF.o, hc, ha, hy] at h
  exact h
theorem sizedF {P : Program} {t t' : TypeId} {fs : Array Field} {ys : List (DataW H × List MemPlace)} {x : DataW H × List MemPlace} {j off : Nat} {f : Field} {y : DataW H × List MemPlace} {zs : List MemPlace} (hs : SizedD P t x.1) (hx : x = (.agg (ys.map (·.1)), zs)) (hu : P.underlying t = some (.struct fs)) (hf : fs[j]? = some f) (hF : F1 f t' off) (hy : ys[j]? = some y) : SizedD P t' y.1 := by
  subst hx
  have := SizedD.field hs hu hf (d := y.1) (by rw [List.getElem?_map, hy]; rfl)
  rwa [hF.t] at this
theorem b_sized {n : Nat} (h : n ≤ reachBytes) : n ≤ 140737488351232 := h

/-! ## An entry -/
structure EntT (te : TypeId) (f0 f1 f2 f3 f4 : Field) : Prop where
  hu : Try.prog.underlying te = some (.struct #[f0, f1, f2, f3, f4])
  h0 : F1 f0 3 0
  h1 : F1 f1 22 1
  h2 : F1 f2 22 2
  h3 : F1 f3 26 3
  h4 : F1 f4 3 4
def EntOk (W : World) (x : EntV) : Prop := x.e.ok ∧ Sl8 W x.v x.e.d ∧ x.e.d.length ≤ 140737488351232
theorem k_int : Try.prog.cellsOf 3 = 1 := by kernel_rfl
theorem k_u64 : Try.prog.cellsOf 22 = 1 := by kernel_rfl
theorem k_u8s : Try.prog.cellsOf 26 = 1 := by kernel_rfl
theorem k_bool : Try.prog.cellsOf 4 = 1 := by kernel_rfl
set_option maxRecDepth 100000 in
theorem open_ent {te : TypeId} {f0 f1 f2 f3 f4 : Field} (hE : EntT te f0 f1 f2 f3 f4) {n : Nat} {cs : List Value} {x : DataW H × List MemPlace} (hcl : cs.length = 5) (h : DataW.trod enc Try.prog W base spare held n te cs = some x) (hs : SizedD Try.prog te x.1) : ∃ y : EntV, cs = encV y ∧ EntOk W y := by
  obtain ⟨ys, n', _, hx, _, hyl, hf⟩ := DataW.trod_struct hE.hu h
  have hyl : ys.length = 5 := hyl
  match cs, hcl with
  | [a0, a1, a2, a3, a4], _ =>
    obtain ⟨y0, g0⟩ : ∃ y, ys[0]? = some y := ⟨_, List.getElem?_eq_getElem (by omega)⟩
    obtain ⟨y1, g1⟩ : ∃ y, ys[1]? = some y := ⟨_, List.getElem?_eq_getElem (by omega)⟩
    obtain ⟨y2, g2⟩ : ∃ y, ys[2]? = some y := ⟨_, List.getElem?_eq_getElem (by omega)⟩
    obtain ⟨y3, g3⟩ : ∃ y, ys[3]? = some y := ⟨_, List.getElem?_eq_getElem (by omega)⟩
    obtain ⟨y4, g4⟩ : ∃ y, ys[4]? = some y := ⟨_, List.getElem?_eq_getElem (by omega)⟩
    have h0 := fldF hE.h0 k_int (hf 0 _ rfl) (zs := [a0]) rfl g0
    have h1 := fldF hE.h1 k_u64 (hf 1 _ rfl) (zs := [a1]) rfl g1
    have h2 := fldF hE.h2 k_u64 (hf 2 _ rfl) (zs := [a2]) rfl g2
    have h3 := fldF hE.h3 k_u8s (hf 3 _ rfl) (zs := [a3]) rfl g3
    have h4 := fldF hE.h4 k_int (hf 4 _ rfl) (zs := [a4]) rfl g4
    have s3 := sizedF hs hx hE.hu (j := 3) rfl hE.h3 g3
    obtain ⟨z0, e0, _, w0⟩ := DataW.trod_int Try.underlying3 h0
    obtain ⟨z1, e1, _, w1⟩ := DataW.trod_int Try.underlying22 h1
    obtain ⟨z2, e2, _, w2⟩ := DataW.trod_int Try.underlying22 h2
    obtain ⟨A, c, l, rfl, hl, hl2⟩ := open_8s h3 s3
    obtain ⟨z4, e4, _, w4⟩ := DataW.trod_int Try.underlying3 h4
    simp at e0 e1 e2 e4
    subst e0; subst e1; subst e2; subst e4
    have hl3 := b_sized hl2
    exact ⟨⟨⟨z0, z1, z2, l, z4⟩, A, c⟩, rfl, ⟨wf_i64 w0, wf_u64 w1, wf_u64 w2, by show l.length ≤ _; omega, wf_i64 w4⟩, hl, hl3⟩
instance : Inhabited EntV := ⟨⟨.zero, none, 0⟩⟩
theorem open_ents {te ts : TypeId} {f0 f1 f2 f3 f4 : Field} (hE : EntT te f0 f1 f2 f3 f4) (hT : Try.prog.underlying ts = some (.slice te)) (hC : Try.prog.cellsOf te = 5) (hB : Try.prog.bytesOf te = 56) {n : Nat} {x : DataW H × List MemPlace} (h : DataW.trod enc Try.prog W base spare held n ts [v] = some x) (hs : SizedD Try.prog ts x.1) :
    ∃ A c, ∃ l : List EntV, v = .slice A l.length c ∧ l.length * 56 ≤ 140737488351232 ∧ EntsRd W v l ∧ ∀ y ∈ l, EntOk W y := by
  obtain ⟨A, c, l, hv, hl, hr, ho⟩ := open_slice_s okV (by decide) hT hC (ok := EntOk W) (fun n cs x hcl h hs => open_ent hE hcl h hs) h hs
  rw [hB] at hl
  exact ⟨A, c, l, hv, b_sized hl, ⟨hr, fun x hx => (ho x hx).2.1⟩, ho⟩

/-! ## A message -/
structure BaseT (tb : TypeId) (f0 f1 f2 : Field) : Prop where
  hu : Try.prog.underlying tb = some (.struct #[f0, f1, f2])
  h0 : F1 f0 22 0
  h1 : F1 f1 22 1
  h2 : F1 f2 3 2
theorem open_base {tb : TypeId} {f0 f1 f2 : Field} (hE : BaseT tb f0 f1 f2) {n : Nat} {a0 a1 a2 : Value} {x : DataW H × List MemPlace} (h : DataW.trod enc Try.prog W base spare held n tb [a0, a1, a2] = some x) : ∃ z0 z1 z2, a0 = .int .u64 z0 ∧ a1 = .int .u64 z1 ∧ a2 = .int .i64 z2 ∧ U64 z0 ∧ U64 z1 ∧ I64 z2 := by
  obtain ⟨ys, n', _, hx, _, hyl, hf⟩ := DataW.trod_struct hE.hu h
  have hyl : ys.length = 3 := hyl
  obtain ⟨y0, g0⟩ : ∃ y, ys[0]? = some y := ⟨_, List.getElem?_eq_getElem (by omega)⟩
  obtain ⟨y1, g1⟩ : ∃ y, ys[1]? = some y := ⟨_, List.getElem?_eq_getElem (by omega)⟩
  obtain ⟨y2, g2⟩ : ∃ y, ys[2]? = some y := ⟨_, List.getElem?_eq_getElem (by omega)⟩
  have h0 := fldF hE.h0 k_u64 (hf 0 _ rfl) (zs := [a0]) rfl g0
  have h1 := fldF hE.h1 k_u64 (hf 1 _ rfl) (zs := [a1]) rfl g1
  have h2 := fldF hE.h2 k_int (hf 2 _ rfl) (zs := [a2]) rfl g2
  obtain ⟨z0, e0, _, w0⟩ := DataW.trod_int Try.underlying22 h0
  obtain ⟨z1, e1, _, w1⟩ := DataW.trod_int Try.underlying22 h1
  obtain ⟨z2, e2, _, w2⟩ := DataW.trod_int Try.underlying3 h2
  simp at e0 e1 e2
  subst e0; subst e1; subst e2
  exact ⟨z0, z1, z2, rfl, rfl, rfl, wf_u64 w0, wf_u64 w1, wf_i64 w2⟩
structure MsgT (tm tb ts : TypeId) (f0 f1 f2 f3 f4 f5 f6 f7 f8 f9 f10 f11 f12 : Field) : Prop where
  hu : Try.prog.underlying tm = some (.struct #[f0, f1, f2, f3, f4, f5, f6, f7, f8, f9, f10, f11, f12])
  h0 : F1 f0 3 0
  h1 : F1 f1 3 1
  h2 : F1 f2 3 2
  h3 : F1 f3 22 3
  h4 : F1 f4 22 4
  h5 : F1 f5 22 5
  h6 : F1 f6 ts 6
  h7 : F1 f7 22 7
  h8 : F1 f8 4 8
  h9 : F1 f9 tb 9
  h10 : F1 f10 3 12
  h11 : F1 f11 26 13
  h12 : F1 f12 4 14
  ks : Try.prog.cellsOf ts = 1
  kb : Try.prog.cellsOf tb = 3
/-- a message, and where its entries and its bytes lie -/
structure MsgV where
  m : MsgD
  es : List EntV
  EA : Option Addr
  ec : Nat
  A : Option Addr
  c : Nat
def MsgV.ev (x : MsgV) : Value := .slice x.EA x.es.length x.ec
def MsgV.dv (x : MsgV) : Value := .slice x.A x.m.d.length x.c
def MsgV.cells (x : MsgV) : List Value := cellsM x.m.k x.m.a x.m.b x.m.t x.m.i x.m.lt x.ev x.m.co x.m.rf x.m.bi x.m.bt x.m.bc x.m.o x.dv x.m.la
structure MsgOk (W : World) (x : MsgV) : Prop where
  ok : x.m.ok
  es : x.m.es = x.es.map (·.e)
  rd : EntsRd W x.ev x.es
  le : x.es.length * 56 ≤ 140737488351232
  each : ∀ y ∈ x.es, EntOk W y
  d : Sl8 W x.dv x.m.d
  dl : x.m.d.length ≤ 140737488351232
theorem EntOk.below {u w : World} {x : EntV} (h : EntOk u x) (hb : Below u.heap.size u w) : EntOk w x := ⟨h.1, h.2.1.below hb, h.2.2⟩
theorem MsgOk.below {u w : World} {x : MsgV} (h : MsgOk u x) (hb : Below u.heap.size u w) : MsgOk w x := ⟨h.ok, h.es, h.rd.below hb, h.le, fun y hy => (h.each y hy).below hb, h.d.below hb, h.dl⟩
theorem argM {u w0 w : World} {B : Nat → Prop} {os : List Ass} {x : MsgV} (h : MsgOk u x) (hU : Below u.heap.size u w0) (hS : ∀ k, B k → u.heap.size ≤ k) (hH : Hp B w0 w os) : MsgOk w x := h.below (hU.trans (hH.up.below hU.size hS))
theorem argM0 {w0 w : World} {os : List Ass} {x : MsgV} (h : MsgOk w0 x) (hH : Hp Nil w0 w os) : MsgOk w x := h.below (hH.up.below (Nat.le_refl _) (fun _ h => h.elim))
theorem argMm {w0 w : World} {x : MsgV} (h : MsgOk w0 x) (hm : Mod Nil w0 w) : MsgOk w x := h.below (hm.below (Nat.le_refl _) (fun _ h => h.elim))
set_option maxRecDepth 100000 in
theorem open_msg {te ts tb tm : TypeId} {f0 f1 f2 f3 f4 f5 f6 f7 f8 f9 f10 f11 f12 a0 a1 a2 a3 a4 c0 c1 c2 : Field} (hM : MsgT tm tb ts f0 f1 f2 f3 f4 f5 f6 f7 f8 f9 f10 f11 f12) (hE : EntT te a0 a1 a2 a3 a4) (hT : Try.prog.underlying ts = some (.slice te)) (hC : Try.prog.cellsOf te = 5) (hB : Try.prog.bytesOf te = 56) (hb : BaseT tb c0 c1 c2)
    {n : Nat} {cs : List Value} {x : DataW H × List MemPlace} (hcl : cs.length = 15) (h : DataW.trod enc Try.prog W base spare held n tm cs = some x) (hs : SizedD Try.prog tm x.1) : ∃ y : MsgV, cs = y.cells ∧ MsgOk W y := by
  obtain ⟨ys, n', _, hx, _, hyl, hf⟩ := DataW.trod_struct hM.hu h
  have hyl : ys.length = 13 := hyl
  match cs, hcl with
  | [b0, b1, b2, b3, b4, b5, b6, b7, b8, b9, b10, b11, b12, b13, b14], _ =>
    obtain ⟨y0, g0⟩ : ∃ y, ys[0]? = some y := ⟨_, List.getElem?_eq_getElem (by omega)⟩
    obtain ⟨y1, g1⟩ : ∃ y, ys[1]? = some y := ⟨_, List.getElem?_eq_getElem (by omega)⟩
    obtain ⟨y2, g2⟩ : ∃ y, ys[2]? = some y := ⟨_, List.getElem?_eq_getElem (by omega)⟩
    obtain ⟨y3, g3⟩ : ∃ y, ys[3]? = some y := ⟨_, List.getElem?_eq_getElem (by omega)⟩
    obtain ⟨y4, g4⟩ : ∃ y, ys[4]? = some y := ⟨_, List.getElem?_eq_getElem (by omega)⟩
    obtain ⟨y5, g5⟩ : ∃ y, ys[5]? = some y := ⟨_, List.getElem?_eq_getElem (by omega)⟩
    obtain ⟨y6, g6⟩ : ∃ y, ys[6]? = some y := ⟨_, List.getElem?_eq_getElem (by omega)⟩
    obtain ⟨y7, g7⟩ : ∃ y, ys[7]? = some y := ⟨_, List.getElem?_eq_getElem (by omega)⟩
    obtain ⟨y8, g8⟩ : ∃ y, ys[8]? = some y := ⟨_, List.getElem?_eq_getElem (by omega)⟩
    obtain ⟨y9, g9⟩ : ∃ y, ys[9]? = some y := ⟨_, List.getElem?_eq_getElem (by omega)⟩
    obtain ⟨y10, g10⟩ : ∃ y, ys[10]? = some y := ⟨_, List.getElem?_eq_getElem (by omega)⟩
    obtain ⟨y11, g11⟩ : ∃ y, ys[11]? = some y := ⟨_, List.getElem?_eq_getElem (by omega)⟩
    obtain ⟨y12, g12⟩ : ∃ y, ys[12]? = some y := ⟨_, List.getElem?_eq_getElem (by omega)⟩
    have h0 := fldF hM.h0 k_int (hf 0 _ rfl) (zs := [b0]) rfl g0
    have h1 := fldF hM.h1 k_int (hf 1 _ rfl) (zs := [b1]) rfl g1
    have h2 := fldF hM.h2 k_int (hf 2 _ rfl) (zs := [b2]) rfl g2
    have h3 := fldF hM.h3 k_u64 (hf 3 _ rfl) (zs := [b3]) rfl g3
    have h4 := fldF hM.h4 k_u64 (hf 4 _ rfl) (zs := [b4]) rfl g4
    have h5 := fldF hM.h5 k_u64 (hf 5 _ rfl) (zs := [b5]) rfl g5
    have h6 := fldF hM.h6 hM.ks (hf 6 _ rfl) (zs := [b6]) rfl g6
    have h7 := fldF hM.h7 k_u64 (hf 7 _ rfl) (zs := [b7]) rfl g7
    have h8 := fldF hM.h8 k_bool (hf 8 _ rfl) (zs := [b8]) rfl g8
    have h9 := fldF hM.h9 hM.kb (hf 9 _ rfl) (zs := [b9, b10, b11]) rfl g9
    have h10 := fldF hM.h10 k_int (hf 10 _ rfl) (zs := [b12]) rfl g10
    have h11 := fldF hM.h11 k_u8s (hf 11 _ rfl) (zs := [b13]) rfl g11
    have h12 := fldF hM.h12 k_bool (hf 12 _ rfl) (zs := [b14]) rfl g12
    have s6 := sizedF hs hx hM.hu (j := 6) rfl hM.h6 g6
    have s11 := sizedF hs hx hM.hu (j := 11) rfl hM.h11 g11
    obtain ⟨z0, e0, _, w0⟩ := DataW.trod_int Try.underlying3 h0
    obtain ⟨z1, e1, _, w1⟩ := DataW.trod_int Try.underlying3 h1
    obtain ⟨z2, e2, _, w2⟩ := DataW.trod_int Try.underlying3 h2
    obtain ⟨z3, e3, _, w3⟩ := DataW.trod_int Try.underlying22 h3
    obtain ⟨z4, e4, _, w4⟩ := DataW.trod_int Try.underlying22 h4
    obtain ⟨z5, e5, _, w5⟩ := DataW.trod_int Try.underlying22 h5
    obtain ⟨A6, c6, es, e6, hl6, hr6, ho6⟩ := open_ents hE hT hC hB h6 s6
    obtain ⟨z7, e7, _, w7⟩ := DataW.trod_int Try.underlying22 h7
    obtain ⟨z8, e8, _⟩ := DataW.trod_bool Try.underlying4 h8
    obtain ⟨q0, q1, q2, e9, e10, e11, w9, w10, w11⟩ := open_base hb h9
    obtain ⟨z12, e12, _, w12⟩ := DataW.trod_int Try.underlying3 h10
    obtain ⟨A, c, l, e13, hl, hl2⟩ := open_8s h11 s11
    obtain ⟨z14, e14, _⟩ := DataW.trod_bool Try.underlying4 h12
    simp at e0 e1 e2 e3 e4 e5 e7 e8 e12 e14
    subst e0; subst e1; subst e2; subst e3; subst e4; subst e5; subst e7; subst e8; subst e9; subst e10; subst e11; subst e12; subst e13; subst e14; subst e6
    have hl3 := b_sized hl2
    refine ⟨⟨⟨z0, z1, z2, z3, z4, z5, es.map (·.e), z7, z8, q0, q1, q2, z12, l, z14⟩, es, A6, c6, A, c⟩, rfl, ⟨⟨wf_i64 w0, wf_i64 w1, wf_i64 w2, wf_u64 w3, wf_u64 w4, wf_u64 w5, ⟨?_, ?_⟩, wf_u64 w7, w9, w10, w11, wf_i64 w12, ?_⟩, rfl, hr6, hl6, ho6, hl, hl3⟩⟩
    · show (es.map (·.e)).length ≤ _
      rw [List.length_map]; omega
    · intro e he
      obtain ⟨y, hy, rfl⟩ := List.mem_map.1 he
      exact (ho6 y hy).1
    · show l.length ≤ _
      omega
end
end Go.Proofs.Ytnhcbjlaeaohjaa.Sep

namespace Go.Proofs.Ytnhcbjlaeaohjaa.Sep
open Go.RowKit
open Go.Proofs.Ytnhcbjlaeaohjaa.Mem (Dist Blk Chg below0)

theorem neBase (a b c d e f : Int) (z : Bool) (h : (!(a == d && (b == e && c == f))) = z) : NeAt Try.prog 25 (.agg #[.int .u64 a, .int .u64 b, .int .i64 c]) (.agg #[.int .u64 d, .int .u64 e, .int .i64 f]) z := fun x y w => by
  subst h
  go_simp
  by_cases h1 : a = d <;> by_cases h2 : b = e <;> by_cases h3 : c = f <;> simp [h1, h2, h3]
theorem wrap_u64 {z : Int} : ∃ r : Int, IntKind.u64.wrap z = r ∧ r = z % 18446744073709551616 := ⟨_, rfl, by rw [IntKind.wrap_u64]⟩
/-- one entry's test, as the two say it: the index reckoned around 2^64 -/
theorem follow1_u {t i p at_ : Int} {e : EntD} (hi : U64 i) (ha : at_ = (i + 1) % 18446744073709551616) (b : Bool) (hb : rightE e = b) : follow1 t i p e = (b && e.i == at_ && decide (p ≤ e.t) && decide (e.t ≤ t)) := by
  subst hb
  cases h : rightE e
  · unfold follow1; rw [h]; rfl
  · have h2 := (rightE_iff h).2.1
    have : (e.i == i + 1) = (e.i == at_) := by
      unfold U64 at hi
      rw [Bool.eq_iff_iff]
      simp only [beq_iff_eq]
      omega
    unfold follow1
    rw [h, this]
theorem rightE_wrap {t i p : Int} {e : EntD} (h : follow1 t i p e = true) : e.i = i + 1 ∧ 1 ≤ i + 1 ∧ i + 1 ≤ 72057594037927935 := by
  have h1 := follow1_iff.1 h
  have h2 := (rightE_iff h1.1).2.1
  omega
end Go.Proofs.Ytnhcbjlaeaohjaa.Sep

namespace Go.Proofs.Ytnhcbjlaeaohjaa.Sep
open Go.RowKit
open Go.Proofs.Ytnhcbjlaeaohjaa.Mem (Dist Blk Chg below0)

set_option maxRecDepth 100000 in
theorem follow_any (w : World) (x : MsgV) (hx : MsgOk w x) (r : Bool) (hr : entsB x.m = r) : Calls Try.prog 51 #[.agg #[.int .i64 x.m.k, .int .i64 x.m.a, .int .i64 x.m.b, .int .u64 x.m.t, .int .u64 x.m.i, .int .u64 x.m.lt, x.ev, .int .u64 x.m.co, .bool x.m.rf, .int .u64 x.m.bi, .int .u64 x.m.bt, .int .i64 x.m.bc, .int .i64 x.m.o, x.dv, .bool x.m.la]] w fun e w' => e = .returned (.bool r) ∧ Below w.heap.size w w' := by
  have hi0 := hx.ok.i
  have hes := hx.es
  have hln : x.m.es.length = x.es.length := by rw [hes, List.length_map]
  obtain ⟨ff, hff⟩ : ∃ ff, follow x.m.t x.m.i x.m.lt x.m.es = ff := ⟨_, rfl⟩
  have hR : (decide (x.es.length ≤ 4) && ff) = r := by rw [← hr, ← hff]; unfold entsB; rw [hln]
  refine d_in (args := [.agg #[.int .i64 x.m.k, .int .i64 x.m.a, .int .i64 x.m.b, .int .u64 x.m.t, .int .u64 x.m.i, .int .u64 x.m.lt, x.ev, .int .u64 x.m.co, .bool x.m.rf, .int .u64 x.m.bi, .int .u64 x.m.bt, .int .i64 x.m.bc, .int .i64 x.m.o, x.dv, .bool x.m.la]]) 49 Try.func51 rfl rfl rfl ?_
  refine d_reg ?_
  refine h_q hflS rfl ?_
  refine h_act (post := fun g1 => [cell g1 28 #[.int .i64 x.m.k, .int .i64 x.m.a, .int .i64 x.m.b, .int .u64 x.m.t, .int .u64 x.m.i, .int .u64 x.m.lt, x.ev, .int .u64 x.m.co, .bool x.m.rf, .int .u64 x.m.bi, .int .u64 x.m.bt, .int .i64 x.m.bc, .int .i64 x.m.o, x.dv, .bool x.m.la]]) rfl (a_box (cs := #[.int .i64 x.m.k, .int .i64 x.m.a, .int .i64 x.m.b, .int .u64 x.m.t, .int .u64 x.m.i, .int .u64 x.m.lt, x.ev, .int .u64 x.m.co, .bool x.m.rf, .int .u64 x.m.bi, .int .u64 x.m.bt, .int .i64 x.m.bc, .int .i64 x.m.o, x.dv, .bool x.m.la]) rfl rfl rfl) ?_; rintro g1
  refine h_q hflS rfl ?_
  refine h_done (d_seq ?_)
  by_cases h4 : 4 < x.es.length
  · skip
    obtain rfl : r = false := by rw [← hR]; simp; omega
    refine d_reg ?_
    refine h_q hflS rfl ?_
    refine h_val rfl (x.ev) (fun b w hb hH => exec_load rfl rfl (reads_one ty_s_api_Entry rfl) (hH.row 0 rfl) hb) ?_
    refine h_val rfl (.int .i64 (x.es.length : Int)) (fun b w hb hH => e_slen (((argM0 hx hH)).rd.1) Try.underlying23 rfl rfl hb) ?_
    refine h_val rfl (.bool true) (fun b w hb hH => exec_cmp rfl rfl rfl (cmp_gtr_t (by omega)) hb) ?_
    refine h_done (d_then rfl (d_reg ?_))
    refine h_q hflS rfl ?_
    refine h_done (d_ret (f_then_ret ?_))
    exact f_fin1 (.tmp rfl) (fun w h => ⟨rfl, below0 h.up⟩) rfl
  · skip
    refine d_reg ?_
    refine h_q hflS rfl ?_
    refine h_val rfl (x.ev) (fun b w hb hH => exec_load rfl rfl (reads_one ty_s_api_Entry rfl) (hH.row 0 rfl) hb) ?_
    refine h_val rfl (.int .i64 (x.es.length : Int)) (fun b w hb hH => e_slen (((argM0 hx hH)).rd.1) Try.underlying23 rfl rfl hb) ?_
    refine h_val rfl (.bool false) (fun b w hb hH => exec_cmp rfl rfl rfl (cmp_gtr_f (by omega)) hb) ?_
    refine h_done (d_else rfl (d_skip (f_to (d_seq ?_))))
    refine d_parS 5 0 [⟨.quiet, [], fun _ => .pointer (some ⟨g1, 4, none⟩), []⟩, ⟨.quiet, [], fun _ => .int .u64 x.m.i, [0]⟩, ⟨.quiet, [], fun _ => .pointer (some ⟨g1, 5, none⟩), []⟩, ⟨.quiet, [], fun _ => .int .u64 x.m.lt, [2]⟩, ⟨.quiet, [], fun _ => .int .u64 x.m.i, [1]⟩] [(1, .pointer (some ⟨g1, 0, none⟩)), (2, .bool false)] (fun _ => [cell g1 28 #[.int .i64 x.m.k, .int .i64 x.m.a, .int .i64 x.m.b, .int .u64 x.m.t, .int .u64 x.m.i, .int .u64 x.m.lt, x.ev, .int .u64 x.m.co, .bool x.m.rf, .int .u64 x.m.bi, .int .u64 x.m.bt, .int .i64 x.m.bc, .int .i64 x.m.o, x.dv, .bool x.m.la]]) (by kernel_rfl) (by kernel_rfl) ⟨rfl, rfl, trivial⟩ rfl ?_ ?_
    · skip
      refine s_cons (by exact ⟨rfl, fun b w hH hb => exec_q1 hflS rfl hb⟩) ?_
      refine s_cons (by exact ⟨rfl, fun b w hH hb => exec_load rfl rfl (reads_one ty_uint64 rfl) (hH.row 0 rfl) hb⟩) ?_
      refine s_cons (by exact ⟨rfl, fun b w hH hb => exec_q1 hflS rfl hb⟩) ?_
      refine s_cons (by exact ⟨rfl, fun b w hH hb => exec_load rfl rfl (reads_one ty_uint64 rfl) (hH.row 0 rfl) hb⟩) ?_
      refine s_cons (by exact ⟨rfl, fun b w hH hb => exec_q1 hflS rfl hb⟩) ?_
      exact s_nil
    refine WL2.keep (env' := [(1, .pointer (some ⟨g1, 0, none⟩)), (2, .bool false), (14, .int .u64 x.m.lt), (3, .int .u64 x.m.i)]) ⟨rfl, rfl, rfl, rfl, trivial⟩ ?_
    refine h_q hflS rfl ?_
    refine h_nil (f_to (d_seq (d_reg ?_)))
    refine h_q hflS rfl ?_
    refine h_val rfl (x.ev) (fun b w hb hH => exec_load rfl rfl (reads_one ty_s_api_Entry rfl) (hH.row 0 rfl) hb) ?_
    refine h_val rfl (.int .i64 (x.es.length : Int)) (fun b w hb hH => e_slen (((argM0 hx hH)).rd.1) Try.underlying23 rfl rfl hb) ?_
    refine h_q hflS rfl ?_
    refine h_done (d_block ?_)
    refine d_loop (α := Nat × Int × Int) (fun ⟨j, at_, p⟩ => [(1, .pointer (some ⟨g1, 0, none⟩)), (2, .bool false), (3, .int .u64 at_), (4, .int .u64 p), (16, x.ev), (17, .int .i64 (x.es.length : Int)), (18, .int .i64 ((j : Nat) : Int))]) (fun ⟨j, at_, p⟩ => [cell g1 28 #[.int .i64 x.m.k, .int .i64 x.m.a, .int .i64 x.m.b, .int .u64 x.m.t, .int .u64 x.m.i, .int .u64 x.m.lt, x.ev, .int .u64 x.m.co, .bool x.m.rf, .int .u64 x.m.bi, .int .u64 x.m.bt, .int .i64 x.m.bc, .int .i64 x.m.o, x.dv, .bool x.m.la]]) (fun ⟨j, at_, p⟩ => j ≤ x.es.length ∧ follow x.m.t (x.m.i + (j : Int)) p (x.m.es.drop j) = ff ∧ U64 at_ ∧ at_ = (x.m.i + (j : Int)) % 18446744073709551616 ∧ (j = 0 ∨ x.m.i + (j : Int) ≤ 72057594037927935)) (fun ⟨j, at_, p⟩ => x.es.length - j) (0, x.m.i, x.m.lt) ⟨Nat.zero_le _, by rw [← hff]; simp, hx.ok.i, (by have := hx.ok.i; unfold U64 at this; simp; omega), .inl rfl⟩ ⟨rfl, rfl, rfl, rfl, rfl, rfl, rfl, trivial⟩ rfl ?_
    rintro ⟨j, at_, p⟩ hI
    refine WC2.at_ (env' := [(1, .pointer (some ⟨g1, 0, none⟩)), (2, .bool false), (3, .int .u64 at_), (4, .int .u64 p), (16, x.ev), (17, .int .i64 (x.es.length : Int)), (18, .int .i64 ((j : Nat) : Int))]) (rs' := [cell g1 28 #[.int .i64 x.m.k, .int .i64 x.m.a, .int .i64 x.m.b, .int .u64 x.m.t, .int .u64 x.m.i, .int .u64 x.m.lt, x.ev, .int .u64 x.m.co, .bool x.m.rf, .int .u64 x.m.bi, .int .u64 x.m.bt, .int .i64 x.m.bc, .int .i64 x.m.o, x.dv, .bool x.m.la]]) ⟨rfl, rfl, rfl, rfl, rfl, rfl, rfl, trivial⟩ rfl ?_
    have hI1 : j ≤ x.es.length := hI.1
    have hI2 : follow x.m.t (x.m.i + (j : Int)) p (x.m.es.drop j) = ff := hI.2.1
    have hI3 : U64 at_ := hI.2.2.1
    have hI4 : at_ = (x.m.i + (j : Int)) % 18446744073709551616 := hI.2.2.2.1
    have hI5 : j = 0 ∨ x.m.i + (j : Int) ≤ 72057594037927935 := hI.2.2.2.2
    rcases Nat.lt_or_ge j x.es.length with hj | hj
    · skip
      obtain ⟨e, he⟩ : ∃ e, x.es[j]? = some e := ⟨_, List.getElem?_eq_getElem hj⟩
      have hm := List.mem_of_getElem? he
      have hE : x.m.es[j]? = some e.e := by rw [hes, List.getElem?_map, he]; rfl
      have hij : U64 (x.m.i + (j : Int)) := by unfold U64 at hi0 ⊢; have := hx.le; omega
      obtain ⟨a2, ha2, ha3⟩ := wrap_u64 (z := at_ + 1)
      have ha4 : a2 = (x.m.i + (j : Int) + 1) % 18446744073709551616 := by rw [ha3, hI4]; omega
      obtain ⟨b, hb0⟩ : ∃ b, rightE e.e = b := ⟨_, rfl⟩
      have h1 := follow1_u (t := x.m.t) (p := p) hij ha4 b hb0
      obtain ⟨q, hq⟩ : ∃ q, follow1 x.m.t (x.m.i + (j : Int)) p e.e = q := ⟨_, rfl⟩
      rw [hq] at h1
      obtain ⟨c1, hc1⟩ : ∃ c1, (e.e.i != a2) = c1 := ⟨_, rfl⟩
      obtain ⟨c2, hc2⟩ : ∃ c2, decide (e.e.t < p) = c2 := ⟨_, rfl⟩
      obtain ⟨c3, hc3⟩ : ∃ c3, decide (e.e.t > x.m.t) = c3 := ⟨_, rfl⟩
      obtain ⟨d1, hd1⟩ : ∃ d1, (!b || c1) = d1 := ⟨_, rfl⟩
      obtain ⟨d2, hd2⟩ : ∃ d2, (d1 || c2) = d2 := ⟨_, rfl⟩
      obtain ⟨d3, hd3⟩ : ∃ d3, (d2 || c3) = d3 := ⟨_, rfl⟩
      have hqd : q = !d3 := by rw [h1, ← hd3, ← hd2, ← hd1, ← hc1, ← hc2, ← hc3]; simp only [Bool.not_or, Bool.not_not, bne, Bool.and_assoc, ← decide_not, Int.not_lt, gt_iff_lt]
      refine d_reg ?_
      refine h_q hflS rfl ?_
      refine h_val rfl (.bool true) (fun b w hb hH => exec_cmp rfl rfl rfl (cmp_lss_t (by omega)) hb) ?_
      refine h_done (d_seq (d_then rfl (d_skip (f_to (d_seq (d_block (d_reg ?_)))))))
      refine h_q hflS rfl ?_
      refine h_val rfl (elp x.ev (j * 5)) (fun b w hb hH => e_sidx okV (((argM0 hx hH)).rd.1) sl_api_Entry (j := j) he rfl rfl rfl hb) ?_
      refine h_val rfl (.agg (encV e).toArray) (fun b w hb hH => e_sagg okV (by decide) (((argM0 hx hH)).rd.1) (j := j) he ty_api_Entry rfl rfl hb) ?_
      refine h_act (post := fun g6 => [cell g6 36 #[.int .i64 0, .int .u64 0, .int .u64 0, .slice none 0 0, .int .i64 0], cell g1 28 #[.int .i64 x.m.k, .int .i64 x.m.a, .int .i64 x.m.b, .int .u64 x.m.t, .int .u64 x.m.i, .int .u64 x.m.lt, x.ev, .int .u64 x.m.co, .bool x.m.rf, .int .u64 x.m.bi, .int .u64 x.m.bt, .int .i64 x.m.bc, .int .i64 x.m.o, x.dv, .bool x.m.la]]) rfl (a_alloc ze_api_Entry rfl) ?_; rintro g6
      refine h_acts (post := fun _ => [cell g6 36 #[.int .i64 e.e.k, .int .u64 e.e.t, .int .u64 e.e.i, e.v, .int .i64 e.e.c], cell g1 28 #[.int .i64 x.m.k, .int .i64 x.m.a, .int .i64 x.m.b, .int .u64 x.m.t, .int .u64 x.m.i, .int .u64 x.m.lt, x.ev, .int .u64 x.m.co, .bool x.m.rf, .int .u64 x.m.bi, .int .u64 x.m.bt, .int .i64 x.m.bc, .int .i64 x.m.o, x.dv, .bool x.m.la]]) rfl rfl (a_store 0 (v := .agg (encV e).toArray) #[.int .i64 e.e.k, .int .u64 e.e.t, .int .u64 e.e.i, e.v, .int .i64 e.e.c] ty_api_Entry.2 rfl rfl rfl rfl rfl rfl rfl rfl rfl) ?_; rintro ⟨⟩
      refine h_done (d_reg ?_)
      refine h_q hflS rfl ?_
      refine h_val rfl (.int .u64 a2) (fun b w hb hH => exec_ar rfl rfl rfl rfl ha2 hb) ?_
      refine h_q hflS rfl ?_
      refine h_done (d_seq (d_reg ?_))
      refine h_may (.agg #[.int .i64 e.e.k, .int .u64 e.e.t, .int .u64 e.e.i, e.v, .int .i64 e.e.c]) rfl rfl (by exact may_val rfl (fun b w hb hH => exec_load rfl rfl (reads_agg (cs := [.int .i64 e.e.k, .int .u64 e.e.t, .int .u64 e.e.i, e.v, .int .i64 e.e.c]) ty_api_Entry rfl) (hH.row 0 rfl) hb)) ?_
      refine h_may (.bool b) rfl rfl (by exact may_act rfl (a_call (ent_of Try.func20 (by kernel_rfl) rfl) (fun w hH => rightE_any w e ((argM0 hx hH).rd.2 e hm) b hb0) rfl rfl rfl)) ?_
      refine h_may (.bool (!b)) rfl rfl (by exact may_val rfl (fun b w hb hH => by exact exec_not rfl rfl rfl hb)) ?_
      refine h_may (.bool (!b)) rfl rfl (by exact may_val rfl (fun b w hb hH => exec_q1 hflS rfl hb)) ?_
      refine h_may (cond b (.pointer (some ⟨g6, 2, none⟩)) undef) rfl rfl (by (cases b; exact may_off rfl; exact may_val rfl (fun b w hb hH => exec_q1 hflS rfl hb))) ?_
      refine h_may (cond b (.int .u64 e.e.i) undef) rfl rfl (by (cases b; exact may_off rfl; exact may_val rfl (fun b w hb hH => exec_load rfl rfl (reads_one ty_uint64 rfl) (hH.row 0 rfl) hb))) ?_
      refine h_may (cond b (.int .u64 a2) undef) rfl rfl (by (cases b; exact may_off rfl; exact may_val rfl (fun b w hb hH => exec_q1 hflS rfl hb))) ?_
      refine h_may (cond b (.bool c1) undef) rfl rfl (by subst hc1; (cases b; exact may_off rfl; exact may_val rfl (fun b w hb hH => exec_cmp rfl rfl rfl rfl hb))) ?_
      refine h_may (.bool d1) rfl rfl (by subst hd1; (cases b <;> exact may_val rfl (fun b w hb hH => exec_q1 hflS rfl hb))) ?_
      refine h_may (.bool d1) rfl rfl (by exact may_val rfl (fun b w hb hH => exec_q1 hflS rfl hb)) ?_
      refine h_may (cond d1 undef (.pointer (some ⟨g6, 1, none⟩))) rfl rfl (by (cases d1; exact may_val rfl (fun b w hb hH => exec_q1 hflS rfl hb); exact may_off rfl)) ?_
      refine h_may (cond d1 undef (.int .u64 e.e.t)) rfl rfl (by (cases d1; exact may_val rfl (fun b w hb hH => exec_load rfl rfl (reads_one ty_uint64 rfl) (hH.row 0 rfl) hb); exact may_off rfl)) ?_
      refine h_may (cond d1 undef (.int .u64 p)) rfl rfl (by (cases d1; exact may_val rfl (fun b w hb hH => exec_q1 hflS rfl hb); exact may_off rfl)) ?_
      refine h_may (cond d1 undef (.bool c2)) rfl rfl (by subst hc2; (cases d1; exact may_val rfl (fun b w hb hH => exec_cmp rfl rfl rfl rfl hb); exact may_off rfl)) ?_
      refine h_may (.bool d2) rfl rfl (by subst hd2; (cases d1 <;> exact may_val rfl (fun b w hb hH => exec_q1 hflS rfl hb))) ?_
      refine h_may (.bool d2) rfl rfl (by exact may_val rfl (fun b w hb hH => exec_q1 hflS rfl hb)) ?_
      refine h_may (cond d2 undef (.pointer (some ⟨g6, 1, none⟩))) rfl rfl (by (cases d2; exact may_val rfl (fun b w hb hH => exec_q1 hflS rfl hb); exact may_off rfl)) ?_
      refine h_may (cond d2 undef (.int .u64 e.e.t)) rfl rfl (by (cases d2; exact may_val rfl (fun b w hb hH => exec_load rfl rfl (reads_one ty_uint64 rfl) (hH.row 0 rfl) hb); exact may_off rfl)) ?_
      refine h_may (cond d2 undef (.pointer (some ⟨g1, 3, none⟩))) rfl rfl (by (cases d2; exact may_val rfl (fun b w hb hH => exec_q1 hflS rfl hb); exact may_off rfl)) ?_
      refine h_may (cond d2 undef (.int .u64 x.m.t)) rfl rfl (by (cases d2; exact may_val rfl (fun b w hb hH => exec_load rfl rfl (reads_one ty_uint64 rfl) (hH.row 1 rfl) hb); exact may_off rfl)) ?_
      refine h_may (cond d2 undef (.bool c3)) rfl rfl (by subst hc3; (cases d2; exact may_val rfl (fun b w hb hH => exec_cmp rfl rfl rfl rfl hb); exact may_off rfl)) ?_
      refine h_may (.bool d3) rfl rfl (by subst hd3; (cases d2 <;> exact may_val rfl (fun b w hb hH => exec_q1 hflS rfl hb))) ?_
      refine h_done ?_
      cases d3
      · skip
        have hq1 : q = true := by simpa using hqd
        have hw := rightE_wrap (hq.trans hq1)
        refine d_else rfl (d_skip (f_to (d_reg1 ?_)))
        refine h_q hflS rfl ?_
        refine h_val rfl (.int .u64 e.e.t) (fun b w hb hH => exec_load rfl rfl (reads_one ty_uint64 rfl) (hH.row 0 rfl) hb) ?_
        refine h_q hflS rfl ?_
        refine h_nil (f_block (f_to (d_reg1 ?_)))
        refine h_q hflS rfl ?_
        refine h_val rfl (.int .i64 ((j + 1 : Nat) : Int)) (fun b w hb hH => exec_ar rfl rfl rfl rfl (by rw [IntWalk.i64_in _ (by omega)]; omega) hb) ?_
        refine h_q hflS rfl ?_
        refine h_nil ?_
        exact f_again (j + 1, a2, e.e.t) 1 ⟨by omega, (follow_yes hE (hq.trans hq1)).symm.trans hI2, ⟨by omega, by omega⟩, by omega, .inr (by omega)⟩ (show x.es.length - (j + 1) < x.es.length - j by omega) ⟨rfl, rfl, rfl, rfl, rfl, rfl, rfl, trivial⟩ rfl
      · skip
        have hq0 : q = false := by simpa using hqd
        obtain rfl : r = false := by rw [← hR, ← hI2, follow_no hE (hq.trans hq0)]; simp
        refine d_then rfl (d_reg ?_)
        refine h_q hflS rfl ?_
        refine h_done (d_ret (f_then_ret (f_block_ret (f_then_ret (f_then_ret (f_block_ret (f_then_ret ?_)))))))
        exact f_fin1 (.tmp rfl) (fun w h => ⟨rfl, below0 h.up⟩) rfl
    · skip
      have hf1 : ff = true := by rw [← hI2, follow_end (by omega)]
      obtain rfl : r = true := by rw [← hR, hf1]; simp; omega
      refine d_reg ?_
      refine h_q hflS rfl ?_
      refine h_val rfl (.bool false) (fun b w hb hH => exec_cmp rfl rfl rfl (cmp_lss_f (by omega)) hb) ?_
      refine h_done (d_seq (d_else rfl (d_exit (f_then_exit (f_then_exit (f_block_exit (f_to (d_reg ?_))))))))
      refine h_q hflS rfl ?_
      refine h_done (d_ret ?_)
      exact f_fin1 (.tmp rfl) (fun w h => ⟨rfl, below0 h.up⟩) rfl

set_option maxRecDepth 100000 in
theorem rentries_any (w : World) (x : MsgV) (hx : MsgOk w x) (r : Bool) (hr : entsB x.m = r) : Calls Try.prog 69 #[.agg #[.int .i64 x.m.k, .int .i64 x.m.a, .int .i64 x.m.b, .int .u64 x.m.t, .int .u64 x.m.i, .int .u64 x.m.lt, x.ev, .int .u64 x.m.co, .bool x.m.rf, .int .u64 x.m.bi, .int .u64 x.m.bt, .int .i64 x.m.bc, .int .i64 x.m.o, x.dv, .bool x.m.la]] w fun e w' => e = .returned (.bool r) ∧ Below w.heap.size w w' := by
  have hi0 := hx.ok.i
  have hes := hx.es
  have hln : x.m.es.length = x.es.length := by rw [hes, List.length_map]
  obtain ⟨ff, hff⟩ : ∃ ff, follow x.m.t x.m.i x.m.lt x.m.es = ff := ⟨_, rfl⟩
  have hR : (decide (x.es.length ≤ 4) && ff) = r := by rw [← hr, ← hff]; unfold entsB; rw [hln]
  refine d_in (args := [.agg #[.int .i64 x.m.k, .int .i64 x.m.a, .int .i64 x.m.b, .int .u64 x.m.t, .int .u64 x.m.i, .int .u64 x.m.lt, x.ev, .int .u64 x.m.co, .bool x.m.rf, .int .u64 x.m.bi, .int .u64 x.m.bt, .int .i64 x.m.bc, .int .i64 x.m.o, x.dv, .bool x.m.la]]) 53 Try.func69 rfl rfl rfl ?_
  refine d_reg ?_
  refine h_q hflS rfl ?_
  refine h_act (post := fun g1 => [cell g1 28 #[.int .i64 x.m.k, .int .i64 x.m.a, .int .i64 x.m.b, .int .u64 x.m.t, .int .u64 x.m.i, .int .u64 x.m.lt, x.ev, .int .u64 x.m.co, .bool x.m.rf, .int .u64 x.m.bi, .int .u64 x.m.bt, .int .i64 x.m.bc, .int .i64 x.m.o, x.dv, .bool x.m.la]]) rfl (a_box (cs := #[.int .i64 x.m.k, .int .i64 x.m.a, .int .i64 x.m.b, .int .u64 x.m.t, .int .u64 x.m.i, .int .u64 x.m.lt, x.ev, .int .u64 x.m.co, .bool x.m.rf, .int .u64 x.m.bi, .int .u64 x.m.bt, .int .i64 x.m.bc, .int .i64 x.m.o, x.dv, .bool x.m.la]) rfl rfl rfl) ?_; rintro g1
  refine h_q hflS rfl ?_
  refine h_done (d_reg ?_)
  refine h_q hflS rfl ?_
  refine h_val rfl (.int .u64 x.m.lt) (fun b w hb hH => exec_load rfl rfl (reads_one ty_uint64 rfl) (hH.row 0 rfl) hb) ?_
  refine h_q hflS rfl ?_
  refine h_done (d_seq (d_reg ?_))
  refine h_q hflS rfl ?_
  refine h_done (d_block ?_)
  refine d_loop (α := Nat × Int) (fun ⟨j, p⟩ => [(1, .pointer (some ⟨g1, 0, none⟩)), (2, .bool false), (3, .int .u64 p), (4, .int .i64 ((j : Nat) : Int))]) (fun ⟨j, p⟩ => [cell g1 28 #[.int .i64 x.m.k, .int .i64 x.m.a, .int .i64 x.m.b, .int .u64 x.m.t, .int .u64 x.m.i, .int .u64 x.m.lt, x.ev, .int .u64 x.m.co, .bool x.m.rf, .int .u64 x.m.bi, .int .u64 x.m.bt, .int .i64 x.m.bc, .int .i64 x.m.o, x.dv, .bool x.m.la]]) (fun ⟨j, p⟩ => j ≤ x.es.length ∧ follow x.m.t (x.m.i + (j : Int)) p (x.m.es.drop j) = ff ∧ (j = 0 ∨ x.m.i + (j : Int) ≤ 72057594037927935)) (fun ⟨j, p⟩ => x.es.length - j) (0, x.m.lt) ⟨Nat.zero_le _, by rw [← hff]; simp, .inl rfl⟩ ⟨rfl, rfl, rfl, rfl, trivial⟩ rfl ?_
  rintro ⟨j, p⟩ hI
  refine WC2.at_ (env' := [(1, .pointer (some ⟨g1, 0, none⟩)), (2, .bool false), (3, .int .u64 p), (4, .int .i64 ((j : Nat) : Int))]) (rs' := [cell g1 28 #[.int .i64 x.m.k, .int .i64 x.m.a, .int .i64 x.m.b, .int .u64 x.m.t, .int .u64 x.m.i, .int .u64 x.m.lt, x.ev, .int .u64 x.m.co, .bool x.m.rf, .int .u64 x.m.bi, .int .u64 x.m.bt, .int .i64 x.m.bc, .int .i64 x.m.o, x.dv, .bool x.m.la]]) ⟨rfl, rfl, rfl, rfl, trivial⟩ rfl ?_
  have hI1 : j ≤ x.es.length := hI.1
  have hI2 : follow x.m.t (x.m.i + (j : Int)) p (x.m.es.drop j) = ff := hI.2.1
  have hI5 : j = 0 ∨ x.m.i + (j : Int) ≤ 72057594037927935 := hI.2.2
  refine d_seq ?_
  rcases Nat.lt_or_ge j x.es.length with hj | hj
  · skip
    have hle := hx.le
    obtain ⟨e, he⟩ : ∃ e, x.es[j]? = some e := ⟨_, List.getElem?_eq_getElem hj⟩
    have hm := List.mem_of_getElem? he
    have hE : x.m.es[j]? = some e.e := by rw [hes, List.getElem?_map, he]; rfl
    have hij : U64 (x.m.i + (j : Int)) := by unfold U64 at hi0 ⊢; have := hx.le; omega
    obtain ⟨b1, hb1, hb2⟩ := wrap_u64 (z := x.m.i + 1)
    obtain ⟨a2, ha2, ha3⟩ := wrap_u64 (z := b1 + (j : Int))
    have ha4 : a2 = (x.m.i + (j : Int) + 1) % 18446744073709551616 := by rw [ha3, hb2]; omega
    obtain ⟨b, hb0⟩ : ∃ b, rightE e.e = b := ⟨_, rfl⟩
    have h1 := follow1_u (t := x.m.t) (p := p) hij ha4 b hb0
    obtain ⟨q, hq⟩ : ∃ q, follow1 x.m.t (x.m.i + (j : Int)) p e.e = q := ⟨_, rfl⟩
    rw [hq] at h1
    obtain ⟨c1, hc1⟩ : ∃ c1, (e.e.i != a2) = c1 := ⟨_, rfl⟩
    obtain ⟨c2, hc2⟩ : ∃ c2, decide (e.e.t < p) = c2 := ⟨_, rfl⟩
    obtain ⟨c3, hc3⟩ : ∃ c3, decide (e.e.t > x.m.t) = c3 := ⟨_, rfl⟩
    obtain ⟨d1, hd1⟩ : ∃ d1, (!b || c1) = d1 := ⟨_, rfl⟩
    obtain ⟨d2, hd2⟩ : ∃ d2, (d1 || c2) = d2 := ⟨_, rfl⟩
    obtain ⟨d3, hd3⟩ : ∃ d3, (d2 || c3) = d3 := ⟨_, rfl⟩
    have hqd : q = !d3 := by rw [h1, ← hd3, ← hd2, ← hd1, ← hc1, ← hc2, ← hc3]; simp only [Bool.not_or, Bool.not_not, bne, Bool.and_assoc, ← decide_not, Int.not_lt, gt_iff_lt]
    refine d_reg ?_
    refine h_q hflS rfl ?_
    refine h_val rfl (x.ev) (fun b w hb hH => exec_load rfl rfl (reads_one ty_s_api_Entry rfl) (hH.row 0 rfl) hb) ?_
    refine h_val rfl (.int .i64 (x.es.length : Int)) (fun b w hb hH => e_slen (((argM0 hx hH)).rd.1) Try.underlying23 rfl rfl hb) ?_
    refine h_val rfl (.bool true) (fun b w hb hH => exec_cmp rfl rfl rfl (cmp_lss_t (by omega)) hb) ?_
    refine h_done (d_then rfl (d_skip (f_to (d_seq (d_block (d_reg ?_))))))
    refine h_q hflS rfl ?_
    refine h_val rfl (x.ev) (fun b w hb hH => exec_load rfl rfl (reads_one ty_s_api_Entry rfl) (hH.row 0 rfl) hb) ?_
    refine h_q hflS rfl ?_
    refine h_val rfl (elp x.ev (j * 5)) (fun b w hb hH => e_sidx okV (((argM0 hx hH)).rd.1) sl_api_Entry (j := j) he rfl rfl rfl hb) ?_
    refine h_val rfl (.agg (encV e).toArray) (fun b w hb hH => e_sagg okV (by decide) (((argM0 hx hH)).rd.1) (j := j) he ty_api_Entry rfl rfl hb) ?_
    refine h_act (post := fun g5 => [cell g5 36 #[.int .i64 0, .int .u64 0, .int .u64 0, .slice none 0 0, .int .i64 0], cell g1 28 #[.int .i64 x.m.k, .int .i64 x.m.a, .int .i64 x.m.b, .int .u64 x.m.t, .int .u64 x.m.i, .int .u64 x.m.lt, x.ev, .int .u64 x.m.co, .bool x.m.rf, .int .u64 x.m.bi, .int .u64 x.m.bt, .int .i64 x.m.bc, .int .i64 x.m.o, x.dv, .bool x.m.la]]) rfl (a_alloc ze_api_Entry rfl) ?_; rintro g5
    refine h_acts (post := fun _ => [cell g5 36 #[.int .i64 e.e.k, .int .u64 e.e.t, .int .u64 e.e.i, e.v, .int .i64 e.e.c], cell g1 28 #[.int .i64 x.m.k, .int .i64 x.m.a, .int .i64 x.m.b, .int .u64 x.m.t, .int .u64 x.m.i, .int .u64 x.m.lt, x.ev, .int .u64 x.m.co, .bool x.m.rf, .int .u64 x.m.bi, .int .u64 x.m.bt, .int .i64 x.m.bc, .int .i64 x.m.o, x.dv, .bool x.m.la]]) rfl rfl (a_store 0 (v := .agg (encV e).toArray) #[.int .i64 e.e.k, .int .u64 e.e.t, .int .u64 e.e.i, e.v, .int .i64 e.e.c] ty_api_Entry.2 rfl rfl rfl rfl rfl rfl rfl rfl rfl) ?_; rintro ⟨⟩
    refine h_done (d_seq (d_reg ?_))
    refine h_may (.agg #[.int .i64 e.e.k, .int .u64 e.e.t, .int .u64 e.e.i, e.v, .int .i64 e.e.c]) rfl rfl (by exact may_val rfl (fun b w hb hH => exec_load rfl rfl (reads_agg (cs := [.int .i64 e.e.k, .int .u64 e.e.t, .int .u64 e.e.i, e.v, .int .i64 e.e.c]) ty_api_Entry rfl) (hH.row 0 rfl) hb)) ?_
    refine h_may (.bool b) rfl rfl (by exact may_act rfl (a_call (ent_of Try.func24 (by kernel_rfl) rfl) (fun w hH => rrightE_any w e ((argM0 hx hH).rd.2 e hm) b hb0) rfl rfl rfl)) ?_
    refine h_may (.bool (!b)) rfl rfl (by exact may_val rfl (fun b w hb hH => by exact exec_not rfl rfl rfl hb)) ?_
    refine h_may (.bool (!b)) rfl rfl (by exact may_val rfl (fun b w hb hH => exec_q1 hflS rfl hb)) ?_
    refine h_may (cond b (.pointer (some ⟨g5, 2, none⟩)) undef) rfl rfl (by (cases b; exact may_off rfl; exact may_val rfl (fun b w hb hH => exec_q1 hflS rfl hb))) ?_
    refine h_may (cond b (.int .u64 e.e.i) undef) rfl rfl (by (cases b; exact may_off rfl; exact may_val rfl (fun b w hb hH => exec_load rfl rfl (reads_one ty_uint64 rfl) (hH.row 0 rfl) hb))) ?_
    refine h_may (cond b (.pointer (some ⟨g1, 4, none⟩)) undef) rfl rfl (by (cases b; exact may_off rfl; exact may_val rfl (fun b w hb hH => exec_q1 hflS rfl hb))) ?_
    refine h_may (cond b (.int .u64 x.m.i) undef) rfl rfl (by (cases b; exact may_off rfl; exact may_val rfl (fun b w hb hH => exec_load rfl rfl (reads_one ty_uint64 rfl) (hH.row 1 rfl) hb))) ?_
    refine h_may (cond b (.int .u64 b1) undef) rfl rfl (by (cases b; exact may_off rfl; exact may_val rfl (fun b w hb hH => exec_ar rfl rfl rfl rfl hb1 hb))) ?_
    refine h_may (cond b (.int .i64 ((j : Nat) : Int)) undef) rfl rfl (by (cases b; exact may_off rfl; exact may_val rfl (fun b w hb hH => exec_q1 hflS rfl hb))) ?_
    refine h_may (cond b (.int .u64 ((j : Nat) : Int)) undef) rfl rfl (by (cases b; exact may_off rfl; exact may_val rfl (fun b w hb hH => exec_conv Try.underlying3 Try.underlying22 (IntWalk.u64_in _ (by omega)) rfl rfl hb))) ?_
    refine h_may (cond b (.int .u64 a2) undef) rfl rfl (by (cases b; exact may_off rfl; exact may_val rfl (fun b w hb hH => exec_ar rfl rfl rfl rfl ha2 hb))) ?_
    refine h_may (cond b (.bool c1) undef) rfl rfl (by subst hc1; (cases b; exact may_off rfl; exact may_val rfl (fun b w hb hH => exec_cmp rfl rfl rfl rfl hb))) ?_
    refine h_may (.bool d1) rfl rfl (by subst hd1; (cases b <;> exact may_val rfl (fun b w hb hH => exec_q1 hflS rfl hb))) ?_
    refine h_may (.bool d1) rfl rfl (by exact may_val rfl (fun b w hb hH => exec_q1 hflS rfl hb)) ?_
    refine h_may (cond d1 undef (.pointer (some ⟨g5, 1, none⟩))) rfl rfl (by (cases d1; exact may_val rfl (fun b w hb hH => exec_q1 hflS rfl hb); exact may_off rfl)) ?_
    refine h_may (cond d1 undef (.int .u64 e.e.t)) rfl rfl (by (cases d1; exact may_val rfl (fun b w hb hH => exec_load rfl rfl (reads_one ty_uint64 rfl) (hH.row 0 rfl) hb); exact may_off rfl)) ?_
    refine h_may (cond d1 undef (.int .u64 p)) rfl rfl (by (cases d1; exact may_val rfl (fun b w hb hH => exec_q1 hflS rfl hb); exact may_off rfl)) ?_
    refine h_may (cond d1 undef (.bool c2)) rfl rfl (by subst hc2; (cases d1; exact may_val rfl (fun b w hb hH => exec_cmp rfl rfl rfl rfl hb); exact may_off rfl)) ?_
    refine h_may (.bool d2) rfl rfl (by subst hd2; (cases d1 <;> exact may_val rfl (fun b w hb hH => exec_q1 hflS rfl hb))) ?_
    refine h_may (.bool d2) rfl rfl (by exact may_val rfl (fun b w hb hH => exec_q1 hflS rfl hb)) ?_
    refine h_may (cond d2 undef (.pointer (some ⟨g5, 1, none⟩))) rfl rfl (by (cases d2; exact may_val rfl (fun b w hb hH => exec_q1 hflS rfl hb); exact may_off rfl)) ?_
    refine h_may (cond d2 undef (.int .u64 e.e.t)) rfl rfl (by (cases d2; exact may_val rfl (fun b w hb hH => exec_load rfl rfl (reads_one ty_uint64 rfl) (hH.row 0 rfl) hb); exact may_off rfl)) ?_
    refine h_may (cond d2 undef (.pointer (some ⟨g1, 3, none⟩))) rfl rfl (by (cases d2; exact may_val rfl (fun b w hb hH => exec_q1 hflS rfl hb); exact may_off rfl)) ?_
    refine h_may (cond d2 undef (.int .u64 x.m.t)) rfl rfl (by (cases d2; exact may_val rfl (fun b w hb hH => exec_load rfl rfl (reads_one ty_uint64 rfl) (hH.row 1 rfl) hb); exact may_off rfl)) ?_
    refine h_may (cond d2 undef (.bool c3)) rfl rfl (by subst hc3; (cases d2; exact may_val rfl (fun b w hb hH => exec_cmp rfl rfl rfl rfl hb); exact may_off rfl)) ?_
    refine h_may (.bool d3) rfl rfl (by subst hd3; (cases d2 <;> exact may_val rfl (fun b w hb hH => exec_q1 hflS rfl hb))) ?_
    refine h_done ?_
    cases d3
    · skip
      have hq1 : q = true := by simpa using hqd
      have hw := rightE_wrap (hq.trans hq1)
      refine d_else rfl (d_skip (f_to (d_reg1 ?_)))
      refine h_q hflS rfl ?_
      refine h_val rfl (.int .u64 e.e.t) (fun b w hb hH => exec_load rfl rfl (reads_one ty_uint64 rfl) (hH.row 0 rfl) hb) ?_
      refine h_q hflS rfl ?_
      refine h_nil (f_block (f_to (d_reg1 ?_)))
      refine h_q hflS rfl ?_
      refine h_val rfl (.int .i64 ((j + 1 : Nat) : Int)) (fun b w hb hH => exec_ar rfl rfl rfl rfl (by rw [IntWalk.i64_in _ (by omega)]; omega) hb) ?_
      refine h_q hflS rfl ?_
      refine h_nil ?_
      exact f_again (j + 1, e.e.t) 1 ⟨by omega, (follow_yes hE (hq.trans hq1)).symm.trans hI2, .inr (by omega)⟩ (show x.es.length - (j + 1) < x.es.length - j by omega) ⟨rfl, rfl, rfl, rfl, trivial⟩ rfl
    · skip
      have hq0 : q = false := by simpa using hqd
      obtain rfl : r = false := by rw [← hR, ← hI2, follow_no hE (hq.trans hq0)]; simp
      refine d_then rfl (d_reg ?_)
      refine h_q hflS rfl ?_
      refine h_done (d_ret (f_then_ret (f_block_ret (f_then_ret (f_then_ret (f_block_ret (f_then_ret ?_)))))))
      exact f_fin1 (.tmp rfl) (fun w h => ⟨rfl, below0 h.up⟩) rfl
  · skip
    have hf1 : ff = true := by rw [← hI2, follow_end (by omega)]
    refine d_reg ?_
    refine h_q hflS rfl ?_
    refine h_val rfl (x.ev) (fun b w hb hH => exec_load rfl rfl (reads_one ty_s_api_Entry rfl) (hH.row 0 rfl) hb) ?_
    refine h_val rfl (.int .i64 (x.es.length : Int)) (fun b w hb hH => e_slen (((argM0 hx hH)).rd.1) Try.underlying23 rfl rfl hb) ?_
    refine h_val rfl (.bool false) (fun b w hb hH => exec_cmp rfl rfl rfl (cmp_lss_f (by omega)) hb) ?_
    refine h_done (d_else rfl (d_exit (f_then_exit (f_then_exit (f_block_exit (f_to ?_))))))
    by_cases h4 : x.es.length ≤ 4
    · skip
      obtain rfl : r = true := by rw [← hR, hf1]; simp; omega
      refine d_reg ?_
      refine h_q hflS rfl ?_
      refine h_val rfl (x.ev) (fun b w hb hH => exec_load rfl rfl (reads_one ty_s_api_Entry rfl) (hH.row 0 rfl) hb) ?_
      refine h_val rfl (.int .i64 (x.es.length : Int)) (fun b w hb hH => e_slen (((argM0 hx hH)).rd.1) Try.underlying23 rfl rfl hb) ?_
      refine h_val rfl (.bool true) (fun b w hb hH => exec_cmp rfl rfl rfl (cmp_leq_t (by omega)) hb) ?_
      refine h_q hflS rfl ?_
      refine h_done (d_ret ?_)
      exact f_fin1 (.tmp rfl) (fun w h => ⟨rfl, below0 h.up⟩) rfl
    · skip
      obtain rfl : r = false := by rw [← hR]; simp; omega
      refine d_reg ?_
      refine h_q hflS rfl ?_
      refine h_val rfl (x.ev) (fun b w hb hH => exec_load rfl rfl (reads_one ty_s_api_Entry rfl) (hH.row 0 rfl) hb) ?_
      refine h_val rfl (.int .i64 (x.es.length : Int)) (fun b w hb hH => e_slen (((argM0 hx hH)).rd.1) Try.underlying23 rfl rfl hb) ?_
      refine h_val rfl (.bool false) (fun b w hb hH => exec_cmp rfl rfl rfl (cmp_leq_f (by omega)) hb) ?_
      refine h_q hflS rfl ?_
      refine h_done (d_ret ?_)
      exact f_fin1 (.tmp rfl) (fun w h => ⟨rfl, below0 h.up⟩) rfl
end Go.Proofs.Ytnhcbjlaeaohjaa.Sep
