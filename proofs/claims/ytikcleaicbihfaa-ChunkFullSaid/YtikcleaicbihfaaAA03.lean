/-
  Rc · Hp · Bs · Loop · Bytes
-/
import Derived.Test.YtikcleaicbihfaaAA02
import Derived.Laws.Concat
import Derived.Lib.SmallJoins
import Derived.LoopN
import Derived.Lib.SlBytesRow
set_option linter.unusedSimpArgs false
set_option linter.unusedVariables false

namespace Go.Proofs.Ytikcleaicbihfaa.Run
noncomputable section
open Go.RowKit

/-! ## Rows, read and written -/
section rowf
variable {w : World} {g : Nat} {t : TypeId} {ds : List Value}
theorem RowF.cell (h : RowF w g t ds) (i : Nat) : w.cell? ⟨g, i, none⟩ = ds[i]? := by
  obtain ⟨fz, h1, _⟩ := h
  simp [World.cell?, h1]
theorem RowF.frozen (h : RowF w g t ds) {i : Nat} (hi : i < ds.length) : w.frozen? ⟨g, i, none⟩ = false := by
  obtain ⟨⟨lo, hi'⟩, h1, h2⟩ := h
  simp only [World.frozen?, h1]
  rcases h2 with h2 | h2
  · cases h2; simp
  · have : ¬ lo ≤ i := by simp only at h2; omega
    simp [this]
theorem RowF.lt (h : RowF w g t ds) : g < w.heap.size := by obtain ⟨fz, h1, _⟩ := h; exact (Array.getElem?_eq_some_iff.1 h1).1
theorem RowF.set (h : RowF w g t ds) (i : Nat) (u : Value) : RowF (w.setCell ⟨g, i, none⟩ u) g t (ds.set i u) := by
  obtain ⟨fz, h1, h2⟩ := h
  refine ⟨fz, ?_, by simpa using h2⟩
  simp [World.setCell, Array.getElem?_modify, h1]
theorem RowF.new (w : World) (t : TypeId) (ds : List Value) : RowF (w.alloc (.cells ⟨ds⟩ t)) w.heap.size t ds := ⟨(0, 0), heap_alloc_new w _, .inl rfl⟩
end rowf
theorem VR.oneCell {ρ : Rn} {v u : Value} (h : VR ρ v u) : u.oneCell' = v.oneCell' := by cases h <;> rfl
theorem oneL_vr {ρ : Rn} : ∀ {a b : List Value}, VRL ρ a b → oneL a = true → ∀ v ∈ b, v.oneCell' = true
  | _, _, .nil, _, v, hv => by simp at hv
  | x :: a, y :: b, .cons h hs, ho, v, hv => by
    unfold oneL at ho
    cases hx : x.oneCell' with
    | false => rw [hx] at ho; cases ho
    | true =>
      rw [hx] at ho
      rcases List.mem_cons.1 hv with rfl | hv
      · rw [h.oneCell]; exact hx
      · exact oneL_vr hs ho v hv
/-- written over -/
def ovr : List Value → Nat → List Value → List Value
  | cs, _, [] => cs
  | cs, off, v :: r => ovr (cs.set off v) (off + 1) r
theorem ovr_len : ∀ (vs cs : List Value) (off : Nat), (ovr cs off vs).length = cs.length
  | [], _, _ => rfl
  | v :: r, cs, off => by unfold ovr; rw [ovr_len r]; simp
theorem ovr_vr {ρ : Rn} : ∀ {vs us : List Value}, VRL ρ vs us → ∀ {cs ds : List Value} (off : Nat), VRL ρ cs ds → VRL ρ (ovr cs off vs) (ovr ds off us)
  | _, _, .nil, _, _, _, h => h
  | _, _, .cons h hs, _, _, off, h' => ovr_vr hs (off + 1) (h'.set off h)
theorem ovr_app : ∀ (vs : List Value) (ds zs : List Value) (off : Nat), off + vs.length ≤ ds.length → ovr (ds ++ zs) off vs = ovr ds off vs ++ zs
  | [], _, _, _, _ => rfl
  | v :: r, ds, zs, off, h => by
    unfold ovr
    have h0 : off < ds.length := by simp at h; omega
    rw [List.set_append_left _ _ h0]
    exact ovr_app r _ zs (off + 1) (by simp at h ⊢; omega)
theorem run_storeF {P : Program} (g : Nat) (t : TypeId) (off : Nat) : ∀ (vs : List Value) (i : Nat) (cur : List Value) (w : World), RowF w g t cur → off + i + vs.length ≤ cur.length → (∀ v ∈ vs, v.oneCell' = true) →
    ∃ w', (storeCells ⟨g, off, none⟩ vs i).run P w = .ok () w' ∧ RowF w' g t (ovr cur (off + i) vs) ∧ Mod (One g) w w'
  | [], i, cur, w, hR, hl, _ => ⟨w, rfl, hR, Mod.refl _ _⟩
  | v :: rest, i, cur, w, hR, hl, h1 => by
    have hi : off + i < cur.length := by simp at hl; omega
    have hadd : (⟨g, off, none⟩ : Addr).add i = ⟨g, off + i, none⟩ := by simp [Addr.add]
    have hcell : w.cell? ⟨g, off + i, none⟩ = some cur[off + i] := by rw [hR.cell]; simp [hi]
    have hfro := hR.frozen hi
    have hst : (store ((⟨g, off, none⟩ : Addr).add i) v).run P w = .ok () (w.setCell ⟨g, off + i, none⟩ v) := by
      rw [hadd, run_store P w _ v _ (h1 v (by simp)), hcell]
      simp [hfro]
    obtain ⟨w', hr, hR', hm⟩ := run_storeF (P := P) g t off rest (i + 1) (cur.set (off + i) v) (w.setCell ⟨g, off + i, none⟩ v) (hR.set (off + i) v) (by simp at hl ⊢; omega) (fun x hx => h1 x (by simp [hx]))
    refine ⟨w', ?_, hR', (Mod.one w g (off + i) v).same hm⟩
    simp only [storeCells, Sem.run_bind, hst, Result.andThen_ok, hr]
theorem run_loadF {P : Program} {w : World} {g off : Nat} {t : TypeId} {ds : List Value} (hR : RowF w g t ds) (k : Nat) (hk : off + k ≤ ds.length) : (loadCells ⟨g, off, none⟩ k).run P w = .ok ⟨(ds.drop off).take k⟩ w := by
  have h := run_loadCells_list (P := P) w ⟨g, off, none⟩ ((ds.drop off).take k) (fun j v hv => by
    rw [Addr.add_lit, hR.cell]
    rw [List.getElem?_take] at hv
    split at hv
    · rwa [List.getElem?_drop] at hv
    · cases hv)
  have hl : ((ds.drop off).take k).length = k := by simp; omega
  rw [hl] at h
  exact h

/-! ## Types -/
def isA (d : TypeDesc) : Bool := match d with | .struct _ | .array _ _ => true | _ => false
def szT (P : Program) (T : TypeId) : Option Nat := (P.info? T).map (·.size)
theorem szT_run {P : Program} {T : TypeId} {k : Nat} (h : szT P T = some k) (w : World) : (sizeOf T).run P w = .ok k w := by
  unfold szT at h
  cases hi : P.info? T with
  | none => simp [hi] at h
  | some i =>
    have hs : i.size = k := by simpa [hi] using h
    simp [sizeOf, typeInfo, hi, hs]
/-- some: so many cells; none: one -/
def aggk (P : Program) (T : TypeId) : Option (Option Nat) := match P.underlying T with
  | some d => match isA d with
    | true => match szT P T with | some k => some (some k) | none => none
    | false => match szT P T with | some k => (match Nat.beq k 1 with | true => some none | false => none) | none => none
  | none => none
theorem aggk_some {P : Program} {T : TypeId} {k : Nat} (h : aggk P T = some (some k)) : AggOf P T k := by
  unfold aggk at h
  split at h
  · rename_i d hd
    split at h
    · rename_i hA
      split at h
      · rename_i k' hk; cases h
        exact aggOf hd (by cases d <;> simp_all [isA]) hk
      · cases h
    · split at h
      · split at h <;> cases h
      · cases h
  · cases h
theorem aggk_none {P : Program} {T : TypeId} (h : aggk P T = some none) : OneOf P T := by
  unfold aggk at h
  split at h
  · rename_i d hd
    split at h
    · split at h <;> cases h
    · rename_i hA
      split at h
      · rename_i k hk
        split at h
        · rename_i hb
          have : k = 1 := Nat.eq_of_beq_eq_true hb
          subst this
          exact oneOf hd (by cases d <;> simp_all [isA]) hk
        · cases h
      · cases h
  · cases h
def rdV (P : Program) (T : TypeId) (cs : List Value) (off : Nat) : Option Value := match aggk P T with
  | some (some k) => match Nat.ble (off + k) cs.length with | true => some (.agg ⟨(cs.drop off).take k⟩) | false => none
  | some none => cs[off]?
  | none => none
theorem rdV_run {P : Program} {ρ : Rn} {T : TypeId} {cs ds zs : List Value} {off : Nat} {v : Value} (h : rdV P T cs off = some v) (hv : VRL ρ cs ds) {w : World} {g : Nat} {t : TypeId} (hR : RowF w g t (ds ++ zs)) : ∃ u, VR ρ v u ∧ (loadVar T ⟨g, off, none⟩).run P w = .ok u w := by
  unfold rdV at h
  split at h
  · rename_i k hk
    split at h
    · rename_i hb
      cases h
      have hle := Nat.le_of_ble_eq_true hb
      have hl := hv.length
      have hA := aggk_some hk
      refine ⟨_, .agg ((hv.drop off).take k), ?_⟩
      have h1 := run_loadF (P := P) hR k (off := off) (by simp; omega)
      have h2 : ((ds ++ zs).drop off).take k = (ds.drop off).take k := by
        rw [List.drop_append_of_le_length (by omega), List.take_append_of_le_length (by simp; omega)]
      rw [h2] at h1
      simp [loadVar, Sem.run_bind, hA.1, hA.2, h1]
    · cases h
  · rename_i hk
    have hO := aggk_none hk
    obtain ⟨u, h1, h2⟩ := hv.get off v h
    have hc : w.cell? ⟨g, off, none⟩ = some u := by
      rw [hR.cell, List.getElem?_append_left (List.getElem?_eq_some_iff.1 h1).1]; exact h1
    refine ⟨u, h2, ?_⟩
    simp [loadVar, Sem.run_bind, hO.1, run_load, hc]
  · cases h
/-- the zero of a type -/
def zeroT (P : Program) (T : TypeId) : Option (List Value) := match (P.info? T).map (·.zero) with
  | some (some z) => match z.cells.toList.all nb with | true => some z.cells.toList | false => none
  | _ => none
theorem zeroT_at {P : Program} {T : TypeId} {zs : List Value} (h : zeroT P T = some zs) : zs.all nb = true ∧ ∃ z : Value, (P.info? T).map (·.zero) = some (some z) ∧ z.cells.toList = zs := by
  unfold zeroT at h
  split at h
  · rename_i z hz
    split at h
    · rename_i ha; cases h; exact ⟨ha, z, hz, rfl⟩
    · cases h
  · cases h

section ops
variable {P : Program} {o : Oper} {env : Env} {H H' : Tr AO} {nx : Nat} {v : Value} {outs : List Out}
def rowAt (H : Tr AO) (i : Nat) : Option (TypeId × Option Nat × List Value) := match H.get i with | some (.cells t ex cs) => some (t, ex, cs) | _ => none
theorem rowAt_get {H : Tr AO} {i : Nat} {t : TypeId} {ex : Option Nat} {cs : List Value} (h : rowAt H i = some (t, ex, cs)) : H.get i = some (.cells t ex cs) := by
  unfold rowAt at h
  split at h
  · rename_i h1; cases h; exact h1
  · cases h
theorem Rep.row {ρ : Rn} {w : World} (hR : Rep ρ H w) {i : Nat} {t : TypeId} {ex : Option Nat} {cs : List Value} (h : rowAt H i = some (t, ex, cs)) : ∃ g c ds zs, ρ i = some (g, c) ∧ VRL ρ cs ds ∧ RowF w g t (ds ++ zs) ∧ exOK ex cs.length zs.length c := by
  obtain ⟨g, c, h1, ds, zs, h2, h3, h4⟩ := hR.ok i _ (rowAt_get h)
  exact ⟨g, c, ds, zs, h1, h2, h3, h4⟩
def evLoad (P : Program) (env : Env) (H : Tr AO) (T : TypeId) (x : Operand) : Option Value := match evO env x with
  | some (.pointer (some ⟨i, off, none⟩)) => match rowAt H i with
    | some (_, _, cs) => rdV P T cs off
    | none => none
  | _ => none
theorem s_load {T : TypeId} {x : Operand} (ho : o.op = .load T x) (h : one (evLoad P env H T x) H nx = some outs) : OpS P o env H nx outs := by
  obtain ⟨v, h1, rfl⟩ := one_eq h
  refine ops_val (fun c hc => by rw [ho] at hc; cases hc) fun n ρ a w hF hR => ?_
  unfold evLoad at h1
  split at h1
  · rename_i i off hx
    split at h1
    · rename_i t ex cs hr
      have h2 := hF.ev hx
      generalize hce : a.eval x = y at h2
      cases h2 with
      | ptr hg =>
        obtain ⟨g', c', ds, zs, h3, h4, h5, _⟩ := hR.row hr
        rw [hg] at h3; cases h3
        obtain ⟨u, h6, h7⟩ := rdV_run h1 h4 h5
        refine ⟨u, h6, ?_⟩
        unfold execOp
        simp only [ho, hce, Instr.loadAt, Instr.sureAddr, Sem.run_bind, Sem.run_pure, Result.andThen_ok, h7]
    · cases h1
  · cases h1
def evStore (P : Program) (env : Env) (H : Tr AO) (T : TypeId) (x y : Operand) : Option (Nat × Tr AO) := match evO env x, evO env y, szT P T with
  | some (.pointer (some ⟨i, off, none⟩)), some v, some k => match rowAt H i with
    | some (t, ex, cs) => match Nat.beq v.cells.toList.length k && Nat.ble (off + k) cs.length && oneL v.cells.toList && inT i with
      | true => some (i, put H i (some (.cells t ex (ovr cs off v.cells.toList))))
      | false => none
    | none => none
  | _, _, _ => none
theorem s_store {T : TypeId} {x y : Operand} (ho : o.op = .store T x y) {H' : Tr AO} {i0 : Nat} (h : evStore P env H T x y = some (i0, H')) : OpS P o env H nx [⟨undef, H', nx, [i0]⟩] := by
  have hwr : Wr H H' nx nx [i0] := by
    unfold evStore at h
    split at h
    · split at h
      · split at h
        · rename_i hb; cases h; simp only [Bool.and_eq_true] at hb; exact .put hb.2 _ _ _
        · cases h
      · cases h
    · cases h
  refine ops_one (fun c hc => by rw [ho] at hc; cases hc) (Nat.le_refl _) hwr fun n ρ a w hF hR _ => ?_
  unfold evStore at h
  split at h
  · rename_i i off v k hx hy hk
    split at h
    · rename_i t ex cs hr
      split at h
      · rename_i hb
        cases h
        simp only [Bool.and_eq_true] at hb
        obtain ⟨⟨⟨hb1, hb2⟩, hb3⟩, hb4⟩ := hb
        have hlen := Nat.eq_of_beq_eq_true hb1
        have hle := Nat.le_of_ble_eq_true hb2
        have h2 := hF.ev hx
        generalize hce : a.eval x = y' at h2
        cases h2 with
        | ptr hg =>
          rename_i g c
          obtain ⟨g', c', ds, zs, h3, h4, h5, h6⟩ := hR.row hr
          rw [hg] at h3; cases h3
          have hu := (hF.ev hy).cells
          generalize hv' : a.eval y = u at hu
          have hul := hu.length
          have hdl := h4.length
          obtain ⟨w', hrun, hrow, hm⟩ := run_storeF (P := P) g t off u.cells.toList 0 (ds ++ zs) w h5 (by rw [List.length_append, hul, hlen]; omega) (oneL_vr hu hb3)
          refine ⟨ρ, undef, w', Aft.turn hR (rowAt_get hr) hg hb4 hm ⟨ovr ds off u.cells.toList, zs, ovr_vr hu off h4, ?_, by rw [ovr_len]; exact h6⟩, .undef, .inr ⟨?_, rfl⟩⟩
          · rw [← ovr_app _ _ _ _ (by omega)]; exact hrow
          · unfold execOp
            have hsz : u.cells.size = k := by rw [← hlen, ← hul]; simp
            simp [ho, hce, hv', Instr.storeAt, Instr.sureAddr, storeVar, szT_run hk, hsz, hrun]
      · cases h
    · cases h
  · cases h
def newP (nx : Nat) : Value := .pointer (some ⟨nx, 0, none⟩)
def evNew (H : Tr AO) (nx : Nat) (T : TypeId) (cs : List Value) : Option (List Out) := match inT nx with
  | true => some [⟨newP nx, put H nx (some (.cells T none cs)), nx + 1, []⟩]
  | false => none
theorem s_new {T : TypeId} {cs : List Value} (hd : ∀ c, o.op ≠ .defer c) (h : evNew H nx T cs = some outs) (hrun : ∀ (n : Nat) (ρ : Rn) (a : Act) (w : World), FrR n ρ a env → ∃ ds, VRL ρ cs ds ∧ (execOp a.eval o).run P w = .ok (.value (.pointer (some ⟨w.heap.size, 0, none⟩))) (w.alloc (.cells ⟨ds⟩ T))) : OpS P o env H nx outs := by
  unfold evNew at h
  split at h
  · rename_i hn
    cases h
    refine ops_one hd (Nat.le_succ _) (.new hn _) fun n ρ a w hF hR hS => ?_
    obtain ⟨ds, h1, h2⟩ := hrun n ρ a w hF
    refine ⟨upd ρ nx w.heap.size 0, _, _, Aft.new hR hS hn (.cells ⟨ds⟩ T) 0 _ ⟨ds, [], h1.mono (upd_le (hS nx (Nat.le_refl _) (by omega))), by rw [List.append_nil]; exact RowF.new w T ds, rfl⟩, .ptr (c := 0) (upd_same _ _ _ _), .inl h2⟩
  · cases h
def evAlloc (P : Program) (H : Tr AO) (nx : Nat) (T : TypeId) : Option (List Out) := match zeroT P T with | some zs => evNew H nx T zs | none => none
theorem s_alloc {T : TypeId} (ho : o.op = .alloc T) (h : evAlloc P H nx T = some outs) : OpS P o env H nx outs := by
  unfold evAlloc at h
  split at h
  · rename_i zs hz
    obtain ⟨h1, z, h2, h3⟩ := zeroT_at hz
    refine s_new (fun c hc => by rw [ho] at hc; cases hc) h fun n ρ a w hF => ⟨zs, nb.selfs h1, ?_⟩
    have := exec_alloc (P := P) (a := a) (w := w) ho (zero_of h2 (zs := ⟨zs⟩) (by rw [← h3]))
    exact this
  · cases h
def evBox (env : Env) (H : Tr AO) (nx : Nat) (T : TypeId) (x : Operand) : Option (List Out) := match evO env x with | some v => evNew H nx T v.cells.toList | none => none
theorem s_box {T : TypeId} {x : Operand} (ho : o.op = .box T x) (h : evBox env H nx T x = some outs) : OpS P o env H nx outs := by
  unfold evBox at h
  split at h
  · rename_i v hx
    refine s_new (fun c hc => by rw [ho] at hc; cases hc) h fun n ρ a w hF => ⟨(a.eval x).cells.toList, (hF.ev hx).cells, ?_⟩
    unfold execOp
    simp [ho, Instr.box, newVar, newRow]
  · cases h
/-! ### Structs and arrays built -/
def fillL (place : Nat → Option (Nat × Nat)) : List Value → List (Nat × Value) → Option (List Value)
  | cs, [] => some cs
  | cs, (i, v) :: r => match place i with
    | none => none
    | some (off, size) => match Nat.beq v.cells.toList.length size && Nat.ble (off + size) cs.length with
      | true => fillL place (ovr cs off v.cells.toList) r
      | false => none
theorem foldl_ovr : ∀ (vs : List Value) (cs : Array Value) (off k : Nat), (vs.zipIdx k).foldl (fun (c : Array Value) (p : Value × Nat) => c.setIfInBounds (off + p.2) p.1) cs = ⟨ovr cs.toList (off + k) vs⟩
  | [], cs, off, k => rfl
  | v :: r, cs, off, k => by
    rw [List.zipIdx_cons, List.foldl_cons, foldl_ovr r _ off (k + 1)]
    show _ = (⟨ovr (cs.toList.set (off + k) v) (off + k + 1) r⟩ : Array Value)
    rw [Array.toList_setIfInBounds, Nat.add_assoc]
inductive PRL (ρ : Rn) : List (Nat × Value) → List (Nat × Value) → Prop
  | nil : PRL ρ [] []
  | cons {i : Nat} {v u : Value} {a b : List (Nat × Value)} (h : VR ρ v u) (hs : PRL ρ a b) : PRL ρ ((i, v) :: a) ((i, u) :: b)
theorem fillL_run {ρ : Rn} {place : Nat → Option (Nat × Nat)} : ∀ {ps qs : List (Nat × Value)}, PRL ρ ps qs → ∀ {cs ds r : List Value}, VRL ρ cs ds → fillL place cs ps = some r → ∃ r', Instr.fill place ⟨ds⟩ qs = some ⟨r'⟩ ∧ VRL ρ r r'
  | _, _, .nil, cs, ds, r, hv, h => by cases h; exact ⟨ds, rfl, hv⟩
  | (i, v) :: ps, (_, u) :: qs, .cons hu hs, cs, ds, r, hv, h => by
    unfold fillL at h
    cases hp : place i with
    | none => simp [hp] at h
    | some q =>
      obtain ⟨off, size⟩ := q
      simp only [hp] at h
      split at h
      · rename_i hb
        simp only [Bool.and_eq_true] at hb
        have h1 := Nat.eq_of_beq_eq_true hb.1
        have h2 := Nat.le_of_ble_eq_true hb.2
        have hc := hu.cells
        have h3 := hc.length
        have h4 := hv.length
        simp only [Array.length_toList] at h1 h3
        obtain ⟨r', h5, h6⟩ := fillL_run hs (ovr_vr hc off hv) h
        refine ⟨r', ?_, h6⟩
        unfold Instr.fill
        simp only [hp]
        rw [if_neg (by simp; omega)]
        have := foldl_ovr u.cells.toList ⟨ds⟩ off 0
        rw [← h5]
        congr 1
        rw [← Array.foldl_toList, Array.toList_zipIdx]
        exact this
      · cases h
def places (P : Program) : List Field → Option (List (Nat × Nat))
  | [] => some []
  | f :: r => match szT P f.type, places P r with | some k, some l => some ((f.offset, k) :: l) | _, _ => none
theorem places_run {P : Program} : ∀ {fs : List Field} {l : List (Nat × Nat)}, places P fs = some l → ∀ w, (fs.mapM (m := Sem) fun f => Prod.mk f.offset <$> sizeOf f.type).run P w = .ok l w
  | [], l, h, w => by cases h; rfl
  | f :: r, l, h, w => by
    unfold places at h
    split at h
    · rename_i k l' h1 h2
      cases h
      have ih := places_run h2 w
      simp only [List.mapM_cons, Sem.run_bind, Sem.run_map, szT_run h1, ih, Result.andThen_ok]
      rfl
    · cases h
def evParts (env : Env) : List (Nat × Operand) → Option (List (Nat × Value))
  | [] => some []
  | (i, x) :: r => match evO env x, evParts env r with | some v, some l => some ((i, v) :: l) | _, _ => none
theorem evParts_vr {n : Nat} {ρ : Rn} {a : Act} (hF : FrR n ρ a env) : ∀ {ps : List (Nat × Operand)} {l : List (Nat × Value)}, evParts env ps = some l → PRL ρ l (ps.map fun p => (p.1, a.eval p.2))
  | [], l, h => by cases h; exact .nil
  | (i, x) :: r, l, h => by
    unfold evParts at h
    split at h
    · rename_i v l' h1 h2
      cases h
      exact .cons (hF.ev h1) (evParts_vr hF h2)
    · cases h
def evBuild (P : Program) (env : Env) (T : TypeId) (ps : Array (Nat × Operand)) : Option Value := match zeroT P T, evParts env ps.toList, P.underlying T with
  | some zs, some l, some (.struct fs) => match places P fs.toList with
    | some pl => match fillL (pl[·]?) zs l with | some r => some (.agg ⟨r⟩) | none => none
    | none => none
  | some zs, some l, some (.array _ e) => match szT P e with
    | some k => match fillL (fun i => some (i * k, k)) zs l with | some r => some (.agg ⟨r⟩) | none => none
    | none => none
  | _, _, _ => none
theorem run_zero {T : TypeId} {z : Value} (h : (P.info? T).map (·.zero) = some (some z)) (w : World) : (zeroValue T).run P w = .ok z w := by
  cases hq : P.info? T with
  | none => simp [hq] at h
  | some i =>
    have hs : i.zero = some z := by simpa [hq] using h
    simp [zeroValue, typeInfo, hq, hs]
theorem s_build {T : TypeId} {ps : Array (Nat × Operand)} (ho : o.op = .build T ps) (h : one (evBuild P env T ps) H nx = some outs) : OpS P o env H nx outs := by
  obtain ⟨v, h1, rfl⟩ := one_eq h
  refine ops_val (fun c hc => by rw [ho] at hc; cases hc) fun n ρ a w hF hR => ?_
  unfold evBuild at h1
  have hparts : ∀ l, evParts env ps.toList = some l → PRL ρ l (ps.map fun p => (p.1, a.eval p.2)).toList := fun l hl => by
    have := evParts_vr hF hl
    simpa using this
  split at h1
  · rename_i zs l fs hz hl hu
    obtain ⟨h2, z, h3, h4⟩ := zeroT_at hz
    split at h1
    · rename_i pl hpl
      split at h1
      · rename_i r hr
        cases h1
        obtain ⟨r', h5, h6⟩ := fillL_run (hparts l hl) (nb.selfs (ρ := ρ) h2) hr
        refine ⟨_, .agg h6, ?_⟩
        have hz' : z.cells = ⟨zs⟩ := by rw [← h4]
        have hpl' : (fs.mapM fun f => (do pure (f.offset, ← sizeOf f.type) : Sem (Nat × Nat))).run P w = .ok ⟨pl⟩ w := by
          rw [Array.mapM_eq_mapM_toList]
          simp [places_run hpl w]
        have hpl2 : (fun i : Nat => (⟨pl⟩ : Array (Nat × Nat))[i]?) = fun i : Nat => pl[i]? := by funext i; simp
        unfold execOp
        simp only [ho, Instr.build, Sem.run_bind, run_zero h3, Result.andThen_ok, run_underlying hu, hpl', hz', hpl2]
        have h5' : Instr.fill (fun i => pl[i]?) ⟨zs⟩ (ps.map fun p => (p.1, a.eval p.2)).toList = some ⟨r'⟩ := h5
        simp only [h5']
        rfl
      · cases h1
    · cases h1
  · rename_i zs l n' e hz hl hu
    obtain ⟨h2, z, h3, h4⟩ := zeroT_at hz
    split at h1
    · rename_i k hk
      split at h1
      · rename_i r hr
        cases h1
        obtain ⟨r', h5, h6⟩ := fillL_run (hparts l hl) (nb.selfs (ρ := ρ) h2) hr
        refine ⟨_, .agg h6, ?_⟩
        have hz' : z.cells = ⟨zs⟩ := by rw [← h4]
        unfold execOp
        simp only [ho, Instr.build, Sem.run_bind, run_zero h3, Result.andThen_ok, run_underlying hu, szT_run hk, hz']
        have h5' : Instr.fill (fun i => some (i * k, k)) ⟨zs⟩ (ps.map fun p => (p.1, a.eval p.2)).toList = some ⟨r'⟩ := h5
        simp only [h5']
        rfl
      · cases h1
    · cases h1
  · cases h1
end ops
end
end Go.Proofs.Ytikcleaicbihfaa.Run

namespace Go.Proofs.Ytikcleaicbihfaa
open Go.RowKit

/-! ## The rows that a call has made -/
/-- what a row is of: cells of a type, or a loop's record -/
inductive RTy
  | ty (t : TypeId)
  | loop (l : Loop)
instance : Coe TypeId RTy := ⟨.ty⟩
instance (n : Nat) : OfNat RTy n := ⟨.ty n⟩
abbrev RowT := Nat × Option RTy × Array Value
abbrev tyR (t : TypeId) : Option RTy := some (.ty t)
instance (n : Nat) : OfNat (Option RTy) n := ⟨some (.ty n)⟩
/-- a map's entry, a map and what a range over one has seen, as values -/
def codeE (x : MapEntry) : Value := .tuple #[x.key, x.val, .int .i64 (x.born : Int)]
def mapC (es : Array MapEntry) (c : Nat) : Array Value := #[.bool true, .int .i64 (c : Int), .tuple (es.map codeE)]
def iterC (b since : Nat) (seen : Array Nat) (c : Nat) : Array Value := #[.bool false, .int .i64 (b : Int), .int .i64 (since : Int), .tuple (seen.map fun z : Nat => Value.int .i64 (z : Int)), .int .i64 (c : Int)]
/-- cells of which some are frozen -/
def litC (C : Array Value) (e : TypeId) (f : Nat × Nat) : Array Value := #[.tuple C, .int .i64 (e : Int), .int .i64 (f.1 : Int), .int .i64 (f.2 : Int)]
/-- block g is a map, or a range over one, or cells of which some are frozen -/
def ObjRow (w : World) (g : Nat) (cs : Array Value) : Prop := (∃ es c, w.heap[g]? = some (.map es c) ∧ cs = mapC es c) ∨ (∃ b s seen c, w.heap[g]? = some (.mapIter (some b) s seen c) ∧ cs = iterC b s seen c) ∨ ∃ C e f, w.heap[g]? = some (.cells C e f) ∧ cs = litC C e f
/-- what a row says of the world: cells of a type, or (without a type) a map -/
def RowX (w : World) (x : RowT) : Prop := match x.2.1 with
  | some (.ty t) => Row w x.1 t x.2.2
  | some (.loop l) => w.heap[x.1]? = some (.loop l)
  | none => ObjRow w x.1 x.2.2
def RowsOf (w : World) : List RowT → Prop
  | [] => True
  | x :: r => RowX w x ∧ RowsOf w r
section rowx
variable {S : Nat → Prop} {w w' : World} {x : RowT}
theorem RowX.obj (h : RowX w x) : ∃ o, w.heap[x.1]? = some o ∧ ∀ w' : World, w'.heap[x.1]? = some o → RowX w' x := by
  obtain ⟨g, t, cs⟩ := x
  cases t with
  | some t => cases t <;> exact ⟨_, h, fun w' h' => h'⟩
  | none =>
    rcases h with ⟨es, c, h1, h2⟩ | ⟨b, s, seen, c, h1, h2⟩ | ⟨C, e, f, h1, h2⟩
    · exact ⟨_, h1, fun w' h' => .inl ⟨es, c, h', h2⟩⟩
    · exact ⟨_, h1, fun w' h' => .inr (.inl ⟨b, s, seen, c, h', h2⟩)⟩
    · exact ⟨_, h1, fun w' h' => .inr (.inr ⟨C, e, f, h', h2⟩)⟩
theorem RowX.lt (h : RowX w x) : x.1 < w.heap.size := by
  obtain ⟨o, h1, _⟩ := h.obj
  exact (Array.getElem?_eq_some_iff.1 h1).1
theorem RowX.same (h : RowX w x) (e : w'.heap[x.1]? = w.heap[x.1]?) : RowX w' x := by
  obtain ⟨o, h1, h2⟩ := h.obj
  exact h2 w' (e.trans h1)
theorem RowX.mod (h : RowX w x) (hm : Mod S w w') (hn : ¬ S x.1) : RowX w' x := h.same (hm.block x.1 h.lt hn)
theorem RowX.below {B : Nat} (h : RowX w x) (hb : Below B w w') (hg : x.1 < B) : RowX w' x := h.same (hb.block x.1 hg)
theorem RowX.old (h : RowX w x) (hb : Below w.heap.size w w') : RowX w' x := h.below hb h.lt
theorem RowX.alloc (h : RowX w x) (o : Obj) : RowX (w.alloc o) x := h.same (Below.heap_alloc w o x.1 h.lt)
theorem RowX.drew (h : RowX w x) : RowX w.drew x := h.same rfl
theorem RowX.mod_ne {g' : Nat} (h : RowX w x) (hm : Mod (One g') w w') (hn : x.1 ≠ g') : RowX w' x := h.mod hm (fun e => hn e)
end rowx
def Apart (B : Nat) : List RowT → Prop
  | [] => True
  | x :: r => B ≤ x.1 ∧ (∀ y ∈ r, y.1 ≠ x.1) ∧ Apart B r
/-- what stood before the call is as it was; of its own rows these are known -/
structure Hp (B : Nat) (w0 w : World) (rs : List RowT) : Prop where
  up : Up B w0 w
  rows : RowsOf w rs
  apart : Apart B rs
section hp
variable {B : Nat} {w0 w w' : World} {rs : List RowT}
theorem RowsOf.at_ : ∀ {rs : List RowT}, RowsOf w rs → ∀ (i : Nat) g (t : TypeId) cs, rs[i]? = some (g, tyR t, cs) → Row w g t cs
  | [], _, i, g, t, cs, h => by simp at h
  | x :: r, hr, 0, g, t, cs, h => by
    simp only [List.getElem?_cons_zero, Option.some.injEq] at h
    subst h
    exact hr.1
  | x :: r, hr, i + 1, g, t, cs, h => by
    simp only [List.getElem?_cons_succ] at h
    exact RowsOf.at_ hr.2 i g t cs h
theorem RowsOf.map_ : ∀ {rs : List RowT}, RowsOf w rs → (∀ x ∈ rs, RowX w x → RowX w' x) → RowsOf w' rs
  | [], _, _ => trivial
  | (g, t, cs) :: r, hr, h => ⟨h (g, t, cs) (by simp) hr.1, RowsOf.map_ hr.2 fun x hx => h x (by simp [hx])⟩
theorem RowsOf.mem : ∀ {rs : List RowT}, RowsOf w rs → ∀ x ∈ rs, RowX w x
  | [], _, x, h => by simp at h
  | (g, t, cs) :: r, hr, x, h => by
    rcases List.mem_cons.1 h with rfl | h
    · exact hr.1
    · exact RowsOf.mem hr.2 x h
theorem Apart.ge : ∀ {rs : List RowT}, Apart B rs → ∀ x ∈ rs, B ≤ x.1
  | [], _, x, h => by simp at h
  | y :: r, ha, x, h => by
    rcases List.mem_cons.1 h with rfl | h
    · exact ha.1
    · exact Apart.ge ha.2.2 x h
theorem Hp.start (w : World) : Hp w.heap.size w w [] := ⟨Up.refl w, trivial, trivial⟩
theorem Hp.row (h : Hp B w0 w rs) (i : Nat) {g : Nat} {t : TypeId} {cs : Array Value} (hi : rs[i]? = some (g, tyR t, cs)) : Row w g t cs := h.rows.at_ i g t cs hi
theorem Hp.call (h : Hp B w0 w rs) (hb : Below w.heap.size w w') : Hp B w0 w' rs := ⟨h.up.trans hb, h.rows.map_ fun _ _ r => r.old hb, h.apart⟩
theorem Hp.new (h : Hp B w0 w rs) (t : TypeId) (cs : Array Value) : Hp B w0 (w.alloc (.cells cs t)) ((w.heap.size, tyR t, cs) :: rs) :=
  ⟨h.up.alloc _, ⟨Row.new w t cs, h.rows.map_ fun _ _ r => r.alloc _⟩, h.up.size, fun y hy => by have := (h.rows.mem y hy).lt; omega, h.apart⟩
/-- row i holds other cells now -/
def setRowT : List RowT → Nat → Array Value → List RowT
  | [], _, _ => []
  | (g, t, _) :: r, 0, c => (g, t, c) :: r
  | x :: r, i + 1, c => x :: setRowT r i c
theorem setRowT_mem : ∀ {rs : List RowT} {i : Nat} {c : Array Value}, ∀ y ∈ setRowT rs i c, ∃ x ∈ rs, x.1 = y.1
  | [], _, _, y, h => by simp [setRowT] at h
  | (g, t, c0) :: r, 0, c, y, h => by
    unfold setRowT at h
    rcases List.mem_cons.1 h with rfl | h
    · exact ⟨(g, t, c0), by simp, rfl⟩
    · exact ⟨y, by simp [h], rfl⟩
  | x :: r, i + 1, c, y, h => by
    unfold setRowT at h
    rcases List.mem_cons.1 h with rfl | h
    · exact ⟨_, by simp, rfl⟩
    · obtain ⟨z, hz, e⟩ := setRowT_mem y h
      exact ⟨z, by simp [hz], e⟩
theorem Apart.set : ∀ {rs : List RowT} {i : Nat} {c : Array Value}, Apart B rs → Apart B (setRowT rs i c)
  | [], _, _, _ => trivial
  | (g, t, _) :: r, 0, c, h => h
  | x :: r, i + 1, c, h => ⟨h.1, fun y hy => by obtain ⟨z, hz, e⟩ := setRowT_mem y hy; rw [← e]; exact h.2.1 z hz, Apart.set h.2.2⟩
theorem Hp.set (h : Hp B w0 w rs) : ∀ (i : Nat) {g : Nat} {t : TypeId} {cs c : Array Value}, rs[i]? = some (g, tyR t, cs) → Mod (One g) w w' → Row w' g t c → Hp B w0 w' (setRowT rs i c) := by
  intro i g t cs c hi hm hR
  have hmem : (g, tyR t, cs) ∈ rs := List.mem_of_getElem? hi
  refine ⟨h.up.one hm (h.apart.ge _ hmem), ?_, h.apart.set⟩
  have key : ∀ {rs : List RowT} (i : Nat), RowsOf w rs → Apart B rs → rs[i]? = some (g, tyR t, cs) → RowsOf w' (setRowT rs i c) := by
    intro rs
    induction rs with
    | nil => intro i _ _ hi; simp at hi
    | cons x r ih =>
      intro i hr ha hi
      obtain ⟨g', t', cs'⟩ := x
      cases i with
      | zero =>
        simp only [List.getElem?_cons_zero, Option.some.injEq, Prod.mk.injEq] at hi
        obtain ⟨rfl, rfl, rfl⟩ := hi
        exact ⟨hR, hr.2.map_ fun y hy r => r.mod_ne hm (ha.2.1 y hy)⟩
      | succ i =>
        simp only [List.getElem?_cons_succ] at hi
        refine ⟨hr.1.mod_ne hm (fun e => ?_), ih i hr.2 ha.2.2 hi⟩
        exact ha.2.1 _ (List.mem_of_getElem? hi) e.symm
  exact key i h.rows h.apart hi
theorem Hp.drew (h : Hp B w0 w rs) : Hp B w0 w.drew rs := ⟨h.up.drew, h.rows.map_ fun _ _ r => r.drew, h.apart⟩
theorem Hp.sub (h : Hp B w0 w rs) {rs' : List RowT} (h1 : RowsOf w rs → RowsOf w rs') (h2 : Apart B rs → Apart B rs') : Hp B w0 w rs' := ⟨h.up, h1 h.rows, h2 h.apart⟩
end hp

/-- from any frame that holds env and any world with the rows rs, the operations l -/
def WL2 (P : Program) (ops : Array Oper) (Q : Exit → Act → World → Prop) (n : Nat) (env : List (Nat × Value)) (B : Nat) (w0 : World) (rs : List RowT) (l : List Oper) : Prop := ∀ a w, Fr n a env → Hp B w0 w rs → wpList P ops Q l a w
def WC2 (P : Program) (Q : Exit → Act → World → Prop) (n : Nat) (env : List (Nat × Value)) (B : Nat) (w0 : World) (rs : List RowT) (c : Code) : Prop := ∀ a w, Fr n a env → Hp B w0 w rs → c.wp P Q a w
def WE2 (Q : Exit → Act → World → Prop) (n : Nat) (env : List (Nat × Value)) (B : Nat) (w0 : World) (rs : List RowT) (e : Exit) : Prop := ∀ a w, Fr n a env → Hp B w0 w rs → Q e a w

/-! ## What needs no memory, as much of it as stands in a row -/
def fld : List ((Nat × Nat) × Nat) → Nat → Nat → Option Nat
  | [], _, _ => none
  | ((s, f), k) :: r, S, F => match Nat.beq s S, Nat.beq f F with | true, true => some k | _, _ => fld r S F
def Flds (P : Program) (fl : List ((Nat × Nat) × Nat)) : Prop := ∀ S f k, fld fl S f = some k → FieldAt P S f k
def AllFlds (P : Program) : List ((Nat × Nat) × Nat) → Prop
  | [] => True
  | ((s, f), k) :: r => FieldAt P s f k ∧ AllFlds P r
theorem flds_of {P : Program} : ∀ {fl : List ((Nat × Nat) × Nat)}, AllFlds P fl → Flds P fl
  | [], _, S, f, k, h => by cases h
  | ((s, g), j) :: r, ha, S, f, k, h => by
    unfold fld at h
    cases h1 : Nat.beq s S with
    | false => simp only [h1] at h; exact flds_of ha.2 S f k h
    | true =>
      cases h2 : Nat.beq g f with
      | false => simp only [h1, h2] at h; exact flds_of ha.2 S f k h
      | true =>
        simp only [h1, h2, Option.some.injEq] at h
        have e1 := Nat.eq_of_beq_eq_true h1
        have e2 := Nat.eq_of_beq_eq_true h2
        subst e1; subst e2; subst h
        exact ha.1
def q1 (fl : List ((Nat × Nat) × Nat)) (o : Oper) (env : List (Nat × Value)) : Option Value :=
  match o.op with
  | .move x => evs env x
  | .assign x => evs env x
  | .extract x i => match evs env x with | some (.tuple vs) => vs[i]? | _ => none
  | .pick c a b => match evs env c with | some (.bool true) => evs env a | some (.bool false) => evs env b | _ => none
  | .unOp .not _ x => match evs env x with | some (.bool true) => some (.bool false) | some (.bool false) => some (.bool true) | _ => none
  | .fieldAddr S x f => match evs env x with
    | some (.pointer (some ⟨g, off, none⟩)) => match fld fl S f with | some k => some (.pointer (some ⟨g, off + k, none⟩)) | none => none
    | _ => none
  | _ => none
theorem exec_q1 {P : Program} {fl : List ((Nat × Nat) × Nat)} (hfl : Flds P fl) {o : Oper} {n : Nat} {env : List (Nat × Value)} {v : Value} {a : Act} {w : World} (h : q1 fl o env = some v) (hF : Fr n a env) : (execOp a.eval o).run P w = .ok (.value v) w := by
  unfold q1 at h
  split at h
  · exact exec_move ‹_› h hF
  · exact exec_assign ‹_› h hF
  · rename_i x i ho
    cases hx : evs env x with
    | none => simp [hx] at h
    | some u =>
      cases u with
      | tuple vs => simp only [hx] at h; exact exec_extract ho hx h hF
      | _ => simp [hx] at h
  · rename_i c x y ho
    cases hx : evs env c with
    | none => simp [hx] at h
    | some u =>
      cases u with
      | bool b =>
        cases b with
        | true => simp only [hx] at h; exact exec_pick (c := true) ho hx (by simpa using h) hF
        | false => simp only [hx] at h; exact exec_pick (c := false) ho hx (by simpa using h) hF
      | _ => simp [hx] at h
  · rename_i T x ho
    cases hx : evs env x with
    | none => simp [hx] at h
    | some u =>
      cases u with
      | bool b =>
        cases b with
        | true => simp only [hx, Option.some.injEq] at h; subst h; exact exec_not ho hx rfl hF
        | false => simp only [hx, Option.some.injEq] at h; subst h; exact exec_not ho hx rfl hF
      | _ => simp [hx] at h
  · rename_i S x f ho
    cases hx : evs env x with
    | none => simp [hx] at h
    | some u =>
      cases u with
      | pointer p =>
        cases p with
        | none => simp [hx] at h
        | some ad =>
          obtain ⟨g, off, b⟩ := ad
          cases b with
          | some b => simp [hx] at h
          | none =>
            simp only [hx] at h
            cases hf : fld fl S f with
            | none => simp [hf] at h
            | some k =>
              simp only [hf, Option.some.injEq] at h
              subst h
              exact exec_field (hfl S f k hf) ho hx hF
      | _ => simp [hx] at h
  · cases h
/-- as many as need no memory; what is left -/
def runQ (fl : List ((Nat × Nat) × Nat)) (ops : Array Oper) (n : Nat) : List Oper → List (Nat × Value) → Option (List (Nat × Value) × List Oper)
  | [], env => some (env, [])
  | o :: r, env => match wants ops o env with
    | some false => match o.dst with
      | some d => match Nat.blt d n with | true => runQ fl ops n r ((d, undef) :: env) | false => none
      | none => none
    | some true => match q1 fl o env with
      | some v => match o.dst with
        | some d => match Nat.blt d n with | true => runQ fl ops n r ((d, v) :: env) | false => none
        | none => none
      | none => some (env, o :: r)
    | none => some (env, o :: r)

section wl2
variable {P : Program} {ops : Array Oper} {Q : Exit → Act → World → Prop} {n B : Nat} {w0 : World} {rs rs' : List RowT} {env env' : List (Nat × Value)} {l rest : List Oper} {o : Oper} {d : Nat} {fl : List ((Nat × Nat) × Nat)}
theorem h_q (hfl : Flds P fl) : ∀ {l : List Oper} {env : List (Nat × Value)}, runQ fl ops n l env = some (env', rest) → WL2 P ops Q n env' B w0 rs rest → WL2 P ops Q n env B w0 rs l
  | [], env, h, hk => by
    simp only [runQ, Option.some.injEq, Prod.mk.injEq] at h
    obtain ⟨rfl, rfl⟩ := h
    exact hk
  | o :: r, env, h, hk => by
    unfold runQ at h
    cases hw : wants ops o env with
    | none =>
      simp only [hw, Option.some.injEq, Prod.mk.injEq] at h
      obtain ⟨rfl, rfl⟩ := h
      exact hk
    | some b =>
      cases b with
      | false =>
        simp only [hw] at h
        cases hd : o.dst with
        | none => simp [hd] at h
        | some d =>
          simp only [hd] at h
          cases hn : Nat.blt d n with
          | false => simp [hn] at h
          | true =>
            simp only [hn] at h
            exact fun a w hF hH => st_skip hF hw hd (blt_lt hn) fun b hb => h_q hfl h hk b w hb hH
      | true =>
        simp only [hw] at h
        cases hq : q1 fl o env with
        | none =>
          simp only [hq, Option.some.injEq, Prod.mk.injEq] at h
          obtain ⟨rfl, rfl⟩ := h
          exact hk
        | some v =>
          simp only [hq] at h
          cases hd : o.dst with
          | none => simp [hd] at h
          | some d =>
            simp only [hd] at h
            cases hn : Nat.blt d n with
            | false => simp [hn] at h
            | true =>
              simp only [hn] at h
              exact fun a w hF hH => st_q hF hw hd (blt_lt hn) v (fun b hb => exec_q1 hfl hq hb) fun b hb => h_q hfl h hk b w hb hH
/-- what one operation writes where -/
def at1 (ops : Array Oper) (n : Nat) (o : Oper) (env : List (Nat × Value)) : Option Nat := match wants ops o env with
  | some true => match o.dst with
    | some d => match Nat.blt d n with | true => some d | false => none
    | none => none
  | _ => none
theorem at1_parts (h : at1 ops n o env = some d) : wants ops o env = some true ∧ o.dst = some d ∧ d < n := by
  unfold at1 at h
  cases hw : wants ops o env with
  | none => simp [hw] at h
  | some b =>
    cases b with
    | false => simp [hw] at h
    | true =>
      simp only [hw] at h
      cases hd : o.dst with
      | none => simp [hd] at h
      | some d' =>
        simp only [hd] at h
        cases hn : Nat.blt d' n with
        | false => simp [hn] at h
        | true =>
          simp only [hn, Option.some.injEq] at h
          subst h
          exact ⟨rfl, rfl, blt_lt hn⟩
theorem h_val (h1 : at1 ops n o env = some d) (v : Value) (hrun : ∀ b w, Fr n b env → Hp B w0 w rs → (execOp b.eval o).run P w = .ok (.value v) w) (h : WL2 P ops Q n ((d, v) :: env) B w0 rs rest) : WL2 P ops Q n env B w0 rs (o :: rest) :=
  fun a w hF hH => st_q hF (at1_parts h1).1 (at1_parts h1).2.1 (at1_parts h1).2.2 v (fun b hb => hrun b w hb hH) fun b hb => h b w hb hH
/-- what '==' and '!=' give of two values that are no numbers -/
def EqAt (P : Program) (T : TypeId) (u v : Value) (c : Bool) : Prop := ∀ x y w, (do eqGuard .eql T x y u v; binOp .eql T u v : Sem Value).run P w = .ok (.bool c) w
def NeAt (P : Program) (T : TypeId) (u v : Value) (c : Bool) : Prop := ∀ x y w, (do eqGuard .neq T x y u v; binOp .neq T u v : Sem Value).run P w = .ok (.bool c) w
theorem exec_eqs {a : Act} {w : World} {T T' : TypeId} {x y : Operand} {u v : Value} {c : Bool} (he : EqAt P T u v c) (ho : o.op = .binOp .eql T x y T') (hx : evs env x = some u) (hy : evs env y = some v) (hF : Fr n a env) : (execOp a.eval o).run P w = .ok (.value (.bool c)) w := by
  unfold execOp
  have := he x y w
  simp only [ho, hF.evs hx, hF.evs hy]
  rw [Sem.run_bind, this]
  rfl
theorem exec_nes {a : Act} {w : World} {T T' : TypeId} {x y : Operand} {u v : Value} {c : Bool} (he : NeAt P T u v c) (ho : o.op = .binOp .neq T x y T') (hx : evs env x = some u) (hy : evs env y = some v) (hF : Fr n a env) : (execOp a.eval o).run P w = .ok (.value (.bool c)) w := by
  unfold execOp
  have := he x y w
  simp only [ho, hF.evs hx, hF.evs hy]
  rw [Sem.run_bind, this]
  rfl
theorem h_nil (h : WE2 Q n env B w0 rs .normal) : WL2 P ops Q n env B w0 rs [] := h
theorem h_done {y : Code} (h : WC2 P Q n env B w0 rs y) : WL2 P ops (Exit.then (fun a w => y.wp P Q a w) Q) n env B w0 rs [] := h
theorem WL2.keep (hs : Sub env env') (h : WL2 P ops Q n env' B w0 rs l) : WL2 P ops Q n env B w0 rs l := fun a w hF hH => h a w (hF.keep hs) hH
theorem WC2.keep {c : Code} (hs : Sub env env') (h : WC2 P Q n env' B w0 rs c) : WC2 P Q n env B w0 rs c := fun a w hF hH => h a w (hF.keep hs) hH
theorem WE2.keep {e : Exit} (hs : Sub env env') (h : WE2 Q n env' B w0 rs e) : WE2 Q n env B w0 rs e := fun a w hF hH => h a w (hF.keep hs) hH
end wl2

section wc2
variable {P : Program} {Q : Exit → Act → World → Prop} {n B : Nat} {w0 : World} {rs : List RowT} {env : List (Nat × Value)}
theorem d_reg {id : Nat} {l : List Oper} {y : Code} (h : WL2 P l.toArray (Exit.then (fun a w => y.wp P Q a w) Q) n env B w0 rs l) : WC2 P Q n env B w0 rs (.seq (.region id l.toArray false) y) := fun a w hF hH => wp_seq (wp_region_lit (h a w hF hH))
theorem d_reg1 {id : Nat} {l : List Oper} (h : WL2 P l.toArray Q n env B w0 rs l) : WC2 P Q n env B w0 rs (.region id l.toArray false) := fun a w hF hH => wp_region_lit (h a w hF hH)
theorem d_seq {x y : Code} (h : WC2 P (Exit.then (fun a w => y.wp P Q a w) Q) n env B w0 rs x) : WC2 P Q n env B w0 rs (.seq x y) := fun a w hF hH => wp_seq (h a w hF hH)
theorem d_then {c : Operand} {x y : Code} (hc : evs env c = some (.bool true)) (h : WC2 P Q n env B w0 rs x) : WC2 P Q n env B w0 rs (.cond c x y) := fun a w hF hH => cd_then hF hc (h a w hF hH)
theorem d_else {c : Operand} {x y : Code} (hc : evs env c = some (.bool false)) (h : WC2 P Q n env B w0 rs y) : WC2 P Q n env B w0 rs (.cond c x y) := fun a w hF hH => cd_else hF hc (h a w hF hH)
theorem d_skip (h : WE2 Q n env B w0 rs .normal) : WC2 P Q n env B w0 rs .skip := fun a w hF hH => wp_skip (h a w hF hH)
theorem d_ret (h : WE2 Q n env B w0 rs .ret) : WC2 P Q n env B w0 rs .ret := fun a w hF hH => wp_ret (h a w hF hH)
theorem d_block {id : Nat} {c : Code} (h : WC2 P (Exit.inBlock id Q) n env B w0 rs c) : WC2 P Q n env B w0 rs (.block id c) := fun a w hF hH => wp_block (h a w hF hH)
theorem d_exit {id : Nat} (h : WE2 Q n env B w0 rs (.exit id)) : WC2 P Q n env B w0 rs (.exit id) := fun a w hF hH => wp_exit (h a w hF hH)
theorem f_to {y : Code} (h : WC2 P Q n env B w0 rs y) : WE2 (Exit.then (fun a w => y.wp P Q a w) Q) n env B w0 rs .normal := h
theorem f_block {id : Nat} (h : WE2 Q n env B w0 rs .normal) : WE2 (Exit.inBlock id Q) n env B w0 rs .normal := h
theorem f_then_ret {K : Act → World → Prop} (h : WE2 Q n env B w0 rs .ret) : WE2 (Exit.then K Q) n env B w0 rs .ret := h
theorem f_block_ret {id : Nat} (h : WE2 Q n env B w0 rs .ret) : WE2 (Exit.inBlock id Q) n env B w0 rs .ret := h
theorem f_then_exit {K : Act → World → Prop} {id : Nat} (h : WE2 Q n env B w0 rs (.exit id)) : WE2 (Exit.then K Q) n env B w0 rs (.exit id) := h
theorem f_block_exit {id : Nat} (h : WE2 Q n env B w0 rs .normal) : WE2 (Exit.inBlock id Q) n env B w0 rs (.exit id) := fun a w hF hH => (if_pos rfl).mpr (h a w hF hH)
variable {fn : Func} {R : Ending → World → Prop}
inductive Res2 (P : Program) (env : List (Nat × Value)) (rs : List RowT) : ResultVar → Value → Prop
  | tmp {t : Tmp} {v : Value} (h : look env t = some v) : Res2 P env rs (.tmp t) v
  | cell (i : Nat) {s : Tmp} {T : TypeId} {g off : Nat} {t : TypeId} {cs : Array Value} {v : Value} (hv : Reads P T cs off v) (h : look env s = some (.pointer (some ⟨g, off, none⟩))) (hi : rs[i]? = some (g, tyR t, cs)) : Res2 P env rs (.cell s T) v
theorem Res2.res {r : ResultVar} {v : Value} {w : World} (h : Res2 P env rs r v) (hH : Hp B w0 w rs) : Res P env w r v := by
  cases h with
  | tmp h => exact .tmp h
  | cell i hv h hi => exact .cell h hv (hH.row i hi)
theorem f_fin1 {r1 : ResultVar} {v1 : Value} (h1 : Res2 P env rs r1 v1) (hR : ∀ w, Hp B w0 w rs → R (.returned v1) w) (hr : fn.results = #[r1]) : WE2 (bodyPost P fn R) n env B w0 rs .ret := fun _ w hF hH => fin1 hF hr (h1.res hH) (hR w hH)
theorem f_fin2 {r1 r2 : ResultVar} {v1 v2 : Value} (h1 : Res2 P env rs r1 v1) (h2 : Res2 P env rs r2 v2) (hR : ∀ w, Hp B w0 w rs → R (.returned (.tuple #[v1, v2])) w) (hr : fn.results = #[r1, r2]) : WE2 (bodyPost P fn R) n env B w0 rs .ret := fun _ w hF hH => fin2 hF hr (h1.res hH) (h2.res hH) (hR w hH)
theorem f_fin3 {r1 r2 r3 : ResultVar} {v1 v2 v3 : Value} (h1 : Res2 P env rs r1 v1) (h2 : Res2 P env rs r2 v2) (h3 : Res2 P env rs r3 v3) (hR : ∀ w, Hp B w0 w rs → R (.returned (.tuple #[v1, v2, v3])) w) (hr : fn.results = #[r1, r2, r3]) : WE2 (bodyPost P fn R) n env B w0 rs .ret := fun _ w hF hH => fin3 hF hr (h1.res hH) (h2.res hH) (h3.res hH) (hR w hH)
theorem f_fin0n (hR : ∀ w, Hp B w0 w rs → R (.returned (.tuple #[])) w) (hr : fn.results = #[]) : WE2 (bodyPost P fn R) n env B w0 rs .normal := fun _ w hF hH => fin0n hF hr (hR w hH)
theorem d_in {f : FuncId} {c : Code} {args : List Value} {w : World} (n : Nat) (hf : P.funcs[f]? = some fn) (hb : fn.body = some c) (hn : fn.ntmps = n) (hs : Nat.ble args.length n = true) (h : WC2 P (bodyPost P fn R) n (argEnv 0 args) w.heap.size w [] c) : Calls P f args.toArray w R := calls_in n hf hb hn (Nat.le_of_ble_eq_true hs) fun a hF => h a w hF (Hp.start w)
end wc2

/-! ## A region that draws its order -/
section par2
variable {P : Program} {ops : Array Oper} {Q : Exit → Act → World → Prop} {n B : Nat} {w0 : World} {rs : List RowT} {env env0 : List (Nat × Value)} {jobs : List Job} {o : Oper} {deps : List Nat} {v : Value} {fl : List ((Nat × Nat) × Nat)} {kk : Nat}
def OB2 (P : Program) (ops : Array Oper) (Q : Exit → Act → World → Prop) (n : Nat) (jobs : List Job) (env0 : List (Nat × Value)) (B : Nat) (w0 : World) (rs : List RowT) (o : Oper) (j : Job) : Prop := ∀ w, Hp B w0 w rs → OB P ops Q n jobs env0 w o j
def AllOB2 (P : Program) (ops : Array Oper) (Q : Exit → Act → World → Prop) (n : Nat) (jobs : List Job) (env0 : List (Nat × Value)) (B : Nat) (w0 : World) (rs : List RowT) : List Oper → List Job → Prop
  | o :: os, j :: js => OB2 P ops Q n jobs env0 B w0 rs o j ∧ AllOB2 P ops Q n jobs env0 B w0 rs os js
  | _, _ => True
theorem AllOB2.all : ∀ {os : List Oper} {js : List Job}, AllOB2 P ops Q n jobs env0 B w0 rs os js → ∀ w, Hp B w0 w rs → AllOb P ops Q n w.heap.size jobs env0 (UpΦ w) os js
  | [], _, _, _, _ => by unfold AllOb; trivial
  | _ :: _, [], _, _, _ => by unfold AllOb; trivial
  | _ :: _, _ :: _, h, w, hH => ⟨h.1 w hH, AllOB2.all h.2 w hH⟩
theorem RowsOf.app {w : World} : ∀ {a b : List RowT}, (∀ x ∈ a, RowX w x) → RowsOf w b → RowsOf w (a ++ b)
  | [], _, _, hb => hb
  | (g, t, cs) :: r, _, ha, hb => ⟨ha (g, t, cs) (by simp), RowsOf.app (fun x hx => ha x (by simp [hx])) hb⟩
end par2

/-! ## A small region, order by order -/
section orders2
variable {P : Program} {ops : Array Oper} {Q : Exit → Act → World → Prop} {n f i d B : Nat} {w0 : World} {rs : List RowT} {env env' : List (Nat × Value)} {listed : Array Bool} {o : Oper} {fl : List ((Nat × Nat) × Nat)}
def WA2 (P : Program) (ops : Array Oper) (Q : Exit → Act → World → Prop) (n : Nat) (env : List (Nat × Value)) (B : Nat) (w0 : World) (rs : List RowT) (f : Nat) (listed : Array Bool) : Prop := ∀ a w, Fr n a env → Hp B w0 w rs → wpAny P .any ops Q f listed a w
end orders2
end Go.Proofs.Ytikcleaicbihfaa

namespace Go.Proofs.Ytikcleaicbihfaa
open Go.RowKit
/-- a string of these bytes -/
def bs (l : List UInt8) : ByteArray := ⟨l.toArray⟩
theorem bs_size (l : List UInt8) : (bs l).size = l.length := by simp [bs, ByteArray.size]
theorem bs_list (l : List UInt8) : (bs l).toList = l := by simp [bs, ByteArray.toList_eq]
theorem bs_of (s : ByteArray) : s = bs s.data.toList := by cases s; simp [bs]
theorem bs_cat (a b : List UInt8) : bs a ++ bs b = bs (a ++ b) := ByteArray.mk_append_mk a b
theorem bs_cut (l : List UInt8) (i j : Nat) : (bs l).extract i j = bs ((l.take j).drop i) := by
  rw [bs_of ((bs l).extract i j)]
  congr 1
  simp [bs, ByteArray.data_extract, List.drop_take]
section
variable {P : Program} {ops : Array Oper} {Q : Exit → Act → World → Prop} {n B d : Nat} {w0 : World} {rs : List RowT} {env env0 : List (Nat × Value)} {rest : List Oper} {o : Oper} {a : Act} {w : World} {jobs : List Job} {deps : List Nat} {kk : Nat}
theorem exec_same {T T' : TypeId} {x y : Operand} {l m : List UInt8} {c : Bool} (ho : o.op = .binOp .eql T x y T') (hx : evs env x = some (.string (bs l))) (hy : evs env y = some (.string (bs m))) (hc : (l == m) = c) (hF : Fr n a env) : (execOp a.eval o).run P w = .ok (.value (.bool c)) w := by
  unfold execOp
  subst hc
  simp only [ho, hF.evs hx, hF.evs hy]
  simp [eqGuard, binOp, Op.stringOp, bs_list]
end
end Go.Proofs.Ytikcleaicbihfaa

namespace Go.Proofs.Ytikcleaicbihfaa
open Go.RowKit
section loops
variable {P : Program} {Q : Exit → Act → World → Prop} {n B : Nat} {w0 : World} {rs rs' : List RowT} {env env' : List (Nat × Value)} {c : Code} {α : Type}
theorem RowsOf.drop {w : World} : ∀ {rs : List RowT} (k : Nat), RowsOf w rs → RowsOf w (rs.drop k)
  | _, 0, h => h
  | [], k + 1, _ => trivial
  | (g, t, cs) :: r, k + 1, h => RowsOf.drop (rs := r) k h.2
theorem Apart.drop : ∀ {rs : List RowT} (k : Nat), Apart B rs → Apart B (rs.drop k)
  | _, 0, h => h
  | [], k + 1, _ => trivial
  | x :: r, k + 1, h => Apart.drop (rs := r) k h.2.2
theorem Hp.drop {w : World} (h : Hp B w0 w rs) (k : Nat) : Hp B w0 w (rs.drop k) := h.sub (fun h => h.drop k) (fun h => h.drop k)
theorem WC2.less (k : Nat) (h : WC2 P Q n env B w0 (rs.drop k) c) : WC2 P Q n env B w0 rs c := fun a w hF hH => h a w hF (hH.drop k)
theorem WC2.at_ (hs : Sub env env') (hr : rs = rs') (h : WC2 P Q n env' B w0 rs' c) : WC2 P Q n env B w0 rs c := fun a w hF hH => h a w (hF.keep hs) (hr ▸ hH)
def Again (n B : Nat) (w0 : World) (E : α → List (Nat × Value)) (R : α → List RowT) (Inv : α → Prop) (μ : α → Nat) (x : α) : Act → World → Prop := fun a w => ∃ y, Inv y ∧ μ y < μ x ∧ Fr n a (E y) ∧ Hp B w0 w (R y)
theorem d_loop (E : α → List (Nat × Value)) (R : α → List RowT) (Inv : α → Prop) (μ : α → Nat) (x : α) (hx : Inv x) (hE : Sub env (E x)) (hR : rs = R x) (h : ∀ x, Inv x → WC2 P (Exit.then (Again n B w0 E R Inv μ x) Q) n (E x) B w0 (R x) c) : WC2 P Q n env B w0 rs (.loop c) := by
  subst hR
  intro a w hF hH
  have key : ∀ m x, μ x < m → Inv x → ∀ a w, Fr n a (E x) → Hp B w0 w (R x) → Code.rounds P c Q m a w := by
    intro m
    induction m with
    | zero => intro x hx; omega
    | succ m ih =>
      intro x hm hx a w hF hH
      refine Code.wp_mono (fun e a' w' q => ?_) (h x hx a w hF hH)
      cases e with
      | normal =>
        obtain ⟨y, hy, hlt, hF', hH'⟩ := q
        exact ih y (by omega) hy a' w' hF' hH'
      | _ => exact q
  exact wp_loop_rounds _ (key _ x (Nat.lt_succ_self _) hx a w (hF.keep hE) hH)
theorem f_again {E : α → List (Nat × Value)} {R : α → List RowT} {Inv : α → Prop} {μ : α → Nat} {x : α} (y : α) (k : Nat) (hy : Inv y) (hμ : μ y < μ x) (hs : Sub env (E y)) (hr : rs.drop k = R y) : WE2 (Exit.then (Again n B w0 E R Inv μ x) Q) n env B w0 rs .normal := fun _ _ hF hH => ⟨y, hy, hμ, hF.keep hs, hr ▸ hH.drop k⟩
end loops

/-! ## Order by order: a call, a sum -/
section orders3
variable {P : Program} {ops : Array Oper} {Q : Exit → Act → World → Prop} {n fu i d B : Nat} {w0 : World} {rs : List RowT} {env : List (Nat × Value)} {listed : Array Bool} {o : Oper}
end orders3

/-! ## An array's place -/
section index
variable {P : Program} {n : Nat} {w : World} {env : List (Nat × Value)} {o : Oper}
theorem exec_nilCheck {a : Act} {x : Operand} {p : Addr} (ho : o.op = .nilCheck x) (hx : evs env x = some (.pointer (some p))) (hF : Fr n a env) : (execOp a.eval o).run P w = .ok (.value (.pointer (some p))) w := by
  unfold execOp
  simp [ho, hF.evs hx]
end index
end Go.Proofs.Ytikcleaicbihfaa

namespace Go.Proofs.Ytikcleaicbihfaa
open Go.RowKit
section
variable {P : Program} {ops : Array Oper} {Q : Exit → Act → World → Prop} {n B : Nat} {w0 w : World} {rs : List RowT} {env : List (Nat × Value)} {rest : List Oper} {o : Oper} {d : Nat}
theorem bs_get (l : List UInt8) (i : Nat) : (bs l)[i]? = l[i]? := by
  by_cases h : i < l.length
  · rw [List.getElem?_eq_getElem h]
    have h' : i < (bs l).size := by rw [bs_size]; exact h
    rw [getElem?_pos (bs l) i h']
    simp [bs, ByteArray.getElem_eq_getElem_data]
  · rw [List.getElem?_eq_none (by omega)]
    have h' : ¬ i < (bs l).size := by rw [bs_size]; exact h
    rw [getElem?_neg (bs l) i h']
theorem exec_conv {a : Act} {T T' : TypeId} {u : TypeDesc} {k k' : IntKind} {p z : Int} {x : Operand} (hs : P.underlying T = some u) (hd : P.underlying T' = some (.int k)) (hz : k.wrap p = z) (ho : o.op = .convert T T' x) (hx : evs env x = some (.int k' p)) (hF : Fr n a env) : (execOp a.eval o).run P w = .ok (.value (.int k z)) w := by
  unfold execOp
  simp [ho, hF.evs hx, convert, run_underlying hs, run_underlying hd, Conv.intToInt, hz]
end
end Go.Proofs.Ytikcleaicbihfaa
