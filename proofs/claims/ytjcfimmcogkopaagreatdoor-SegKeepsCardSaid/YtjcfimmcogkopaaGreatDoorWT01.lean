/-
  SgKc · SgPd
-/
import Derived.Test.YtjcfimmcogkopaaGreatDoorWM02
import Derived.Test.YtjcfimmcogkopaaGreatDoorWO02
import Derived.Test.YtjcfimmcogkopaaGreatDoorWS01
set_option linter.unusedSimpArgs false
set_option linter.unusedVariables false
namespace Go.Proofs.YtjcfimmcogkopaaGreatDoor.Sep
open Go.RowKit
theorem Td {es : List EntD} (h : ∀ e, e ∈ es → BN e = true) {x : List UInt8} (hx : Dt x = none) : H5 (Bd es ++ x) = Fo 0 es := by
 have h1 := H4 (es.map Cj) (fun y hy => by
  obtain ⟨e, he, rfl⟩ := List.mem_map.1 hy
  have := DX (h e he); omega) x
 rw [I5 hx] at h1
 unfold H5
 rw [JU, h1]
 show F6 0 (es.map Cj ++ []) = _
 rw [List.append_nil, Ky es 0 h]
theorem MC {d : DiskD} : ∀ {M : LogMs}, (∀ q, q ∈ M → Ca d q.1 = Fo 0 q.2) → Bz d (M.map (·.1)) = AU M
  | [], _ => rfl
  | q :: M, hs => by
    have h1 := MC (M := M) fun x hx => hs x (List.mem_cons_of_mem _ hx)
    show (Ca d q.1).map (·.1) ++ Bz d (M.map (·.1)) = q.2 ++ AU M
    rw [h1, hs q (List.mem_cons_self ..), Fi]
theorem Vc {d : DiskD} {M : LogMs} (hs : ∀ q, q ∈ M → Ca d q.1 = Fo 0 q.2) : Sep.marksM d (M.map (·.1)) = An M := by
  unfold Sep.marksM An
  rw [List.map_map]
  exact List.map_congr_left fun q hq => by
    show (q.1, Cg d q.1) = _
    unfold Cg
    rw [hs q hq]; rfl
theorem Wp {d : DiskD} {M : LogMs} (hc : LogC (AU M)) (hd1 : ∀ q, q ∈ M → ∀ e r, q.2 = e :: r → e.i = (q.1 : Int)) (hs : ∀ q, q ∈ M → Ca d q.1 = Fo 0 q.2) (j f i : Nat) (e : EntD) (n : Nat) (hj : (M.map (·.1))[j]? = some f) (hi : (Ca d f)[i]? = some (e, n)) : (i = 0 → e.i = f) ∧ ((AD (Cr d (M.map (·.1)) j f i)).2 = 0 ∨ ((AD (Cr d (M.map (·.1)) j f i)).2 ≠ 0 ∧ e.i = (AD (Cr d (M.map (·.1)) j f i)).2 + 1 ∧ (AD (Cr d (M.map (·.1)) j f i)).1 ≤ e.t)) ∧ 0 ≤ (AD (Cr d (M.map (·.1)) j f i)).2 ∧ (AD (Cr d (M.map (·.1)) j f i)).2 ≤ 72057594037927935 := by
  obtain ⟨q, hqj, rfl⟩ : ∃ q, M[j]? = some q ∧ q.1 = f := by
    rw [List.getElem?_map] at hj
    cases hq : M[j]? with
    | none => rw [hq] at hj; cases hj
    | some q => rw [hq] at hj; exact ⟨q, rfl, by simpa using hj⟩
  have hq := List.mem_of_getElem? hqj
  rw [hs q hq] at hi
  have hi1 : q.2[i]? = some e := by
    have := congrArg (·[i]?) (Fi q.2 0)
    simp only [List.getElem?_map, hi, Option.map_some] at this
    exact this.symm
  have hup : Cr d (M.map (·.1)) j q.1 i = AU (M.take j) ++ q.2.take i := by
    unfold Cr
    rw [← List.map_take, MC (M := M.take j) (fun x hx => hs x (List.mem_of_mem_take hx)), hs q hq, List.map_take, Fi]
  rw [hup]
  have hL : AU M = (AU (M.take j) ++ q.2.take i) ++ e :: (q.2.drop (i + 1) ++ AU (M.drop (j + 1))) := by
    conv => lhs; rw [← List.take_append_drop j M, En hqj, BP]
    show AU (M.take j) ++ (q.2 ++ AU (M.drop (j + 1))) = _
    conv => lhs; rw [← List.take_append_drop i q.2, En hi1]
    simp
  obtain ⟨h5, h6, h7⟩ := hc.fol _ _ _ hL
  refine ⟨fun h0 => ?_, h5, h6, h7⟩
  subst h0
  cases hq2 : q.2 with
  | nil => rw [hq2] at hi1; cases hi1
  | cons e' r =>
    rw [hq2] at hi1
    simp only [List.getElem?_cons_zero, Option.some.injEq] at hi1
    rw [← hi1]
    exact hd1 q hq e' r hq2
structure CutD (d : DiskD) (M : LogMs) (f : Nat) (es : List EntD) (e : EntD) (x : List UInt8) (w : Nat) : Prop where
  down : d.down = false
  fuse : d.fuse = none
  room : d.room = 1048576
  wl : d.wait.length ≤ w
  ws : AT d.syn + (d.wait.map OpD.size).sum ≤ 1000000 + 155 * w
  now : d.now = BX M ++ [(nameL f, Bd es ++ x)]
  g : LogG (M ++ [(f, es ++ [e])])
  x0 : x ≠ []
  xl : x.length ≤ 1000
  nx : Dt x = none
section
variable {d : DiskD} {M : LogMs} {f : Nat} {es : List EntD} {e : EntD} {x : List UInt8} {w : Nat}
theorem CutD.keys (h : CutD d M f es e x w) : AW d.now = AW (BX (M ++ [(f, es ++ [e])])) := by
 rw [h.now, CF]
 unfold AW
 rw [List.map_append, List.map_append]
 rfl
theorem CutD.nodup (h : CutD d M f es e x w) : (AW d.now).Nodup := by rw [h.keys]; exact D4 h.g
theorem CutD.names (h : CutD d M f es e x w) : Gl d.now = ((M ++ [(f, es)]).map (·.1)).map nameL := by
  have h1 := KY h.g
  unfold Gl at h1 ⊢
  rw [h.keys, h1]
  simp only [List.map_append, List.map_cons, List.map_nil]
theorem CutD.rd0 (h : CutD d M f es e x w) {q : Nat × List EntD} (hq : q ∈ M) : Cn d (nameL q.1) = some (Bd q.2) := by
 unfold Cn
 rw [if_neg (by rw [h.down]; decide)]
 exact (Cc h.nodup).2 (by rw [h.now]; exact List.mem_append_left _ (List.mem_map.2 ⟨q, hq, rfl⟩))
theorem CutD.rd1 (h : CutD d M f es e x w) : Cn d (nameL f) = some (Bd es ++ x) := by
 unfold Cn
 rw [if_neg (by rw [h.down]; decide)]
 exact (Cc h.nodup).2 (by rw [h.now]; exact List.mem_append_right _ (List.mem_singleton.2 rfl))
theorem CutD.rights (h : CutD d M f es e x w) : ∀ y, y ∈ es → BN y = true := fun y hy => (h.g.seg (q := (f, es ++ [e])) (by simp)).right y (by simp [hy])
theorem CutD.ents (h : CutD d M f es e x w) : ∀ q, q ∈ M ++ [(f, es)] → Ca d q.1 = Fo 0 q.2 := fun q hq => by
  unfold Ca
  rcases List.mem_append.1 hq with hq | hq
  · rw [h.rd0 hq]
    exact KX (h.g.seg (List.mem_append_left _ hq)).right
  · rw [List.mem_singleton.1 hq]
    show H5 ((Cn d (nameL f)).getD []) = Fo 0 es
    rw [h.rd1]
    exact Td h.rights h.nx
theorem CutD.c (h : CutD d M f es e x w) : LogC (AU (M ++ [(f, es)])) := by
 have h1 := h.g.c
 rw [BP] at h1 ⊢
 have h2 : AU [(f, es ++ [e])] = AU [(f, es)] ++ [e] := by simp [AU]
 rw [h2, ← List.append_assoc] at h1
 exact h1.front
theorem CutD.hd (h : CutD d M f es e x w) : ∀ q, q ∈ M ++ [(f, es)] → ∀ y r, q.2 = y :: r → y.i = (q.1 : Int) := fun q hq y r hy => by
  rcases List.mem_append.1 hq with hq | hq
  · exact h.g.hd q (List.mem_append_left _ hq) y r hy
  · rw [List.mem_singleton.1 hq] at hy ⊢
    have hy' : es = y :: r := hy
    exact h.g.hd (f, es ++ [e]) (by simp) y (r ++ [e]) (by show es ++ [e] = _; rw [hy']; rfl)
theorem CutD.many (h : CutD d M f es e x w) : (AU (M ++ [(f, es)])).length + 1 ≤ 1000 := by
 have h1 := h.g.many
 rw [BP, List.length_append] at h1 ⊢
 have h2 : (AU [(f, es ++ [e])]).length = (AU [(f, es)]).length + 1 := by simp [AU]
 omega
theorem CutD.front (h : CutD d M f es e x w) : LogG M := h.g.front
theorem CutD.grow (h : CutD d M f es e x w) (h0 : es ≠ []) : LogG (M ++ [(f, es)]) := ⟨fun q hq => by
  rcases List.mem_append.1 hq with hq | hq
  · exact h.g.ne q (List.mem_append_left _ hq)
  · rw [List.mem_singleton.1 hq]; exact h0, h.c, h.hd, by have := h.many; omega⟩
theorem CutD.fit (h : CutD d M f es e x w) (hw : w ≤ 10000) : d.fit := ⟨by have := h.ws; omega, by have := h.wl; omega⟩
theorem CutD.del (h : CutD d M f es e x w) : Iy d (nameL f) = (Cw d (.del (nameL f)), 0) ∧ LogD (Cw d (.del (nameL f))) M (w + 1) := by
  have hl := h.wl
  have hs := h.ws
  have hn := h.nodup
  have hg : Bw d.now (nameL f) = some (Bd es ++ x) := (Cc hn).2 (by rw [h.now]; exact List.mem_append_right _ (List.mem_singleton.2 rfl))
  constructor
  · unfold Iy
    rw [FG h.down h.fuse]
    simp only
    rw [if_neg (by simp), hg]
  · exact ⟨h.down, h.fuse, h.room, by show (d.wait ++ [_]).length ≤ _; rw [List.length_append]; simp only [List.length_cons, List.length_nil]; omega, by
      show AT d.syn + ((d.wait ++ [OpD.del (nameL f)]).map OpD.size).sum ≤ _
      rw [List.map_append, List.sum_append]
      simp only [List.map_cons, List.map_nil, List.sum_cons, List.sum_nil, OpD.size]
      omega, by
      rw [Gv]
      rw [h.now] at hn ⊢
      exact Pp hn, h.front⟩
theorem CutD.cut (h : CutD d M f es e x w) (h0 : es ≠ []) : OG d (nameL f) (((Bd es).length : Nat) : Int) = (Cw d (.cut (nameL f) (Bd es).length), 0) ∧ LogD (Cw d (.cut (nameL f) (Bd es).length)) (M ++ [(f, es)]) (w + 1) := by
  have hl := h.wl
  have hs := h.ws
  have hn := h.nodup
  have hg : Bw d.now (nameL f) = some (Bd es ++ x) := (Cc hn).2 (by rw [h.now]; exact List.mem_append_right _ (List.mem_singleton.2 rfl))
  constructor
  · unfold OG
    rw [FG h.down h.fuse]
    simp only
    rw [if_neg (by simp), hg]
    simp only
    rw [if_neg (by rw [List.length_append]; omega)]
    simp
  · exact ⟨h.down, h.fuse, h.room, by show (d.wait ++ [_]).length ≤ _; rw [List.length_append]; simp only [List.length_cons, List.length_nil]; omega, by
      show AT d.syn + ((d.wait ++ [OpD.cut (nameL f) (Bd es).length]).map OpD.size).sum ≤ _
      rw [List.map_append, List.sum_append]
      simp only [List.map_cons, List.map_nil, List.sum_cons, List.sum_nil, OpD.size]
      omega, by
      rw [Gv]
      show (match Bw d.now (nameL f) with | some y => BM d.now (nameL f) (y.take (Bd es).length) | none => d.now) = _
      rw [hg]
      simp only
      rw [List.take_left]
      rw [h.now] at hn ⊢
      rw [JV hn, CF]
      rfl, h.grow h0⟩
theorem CutD.len (h : CutD d M f es e x w) {q : Nat × List EntD} (hq : q ∈ M ++ [(f, es)]) : q.2.length ≤ 1000 ∧ (Bd q.2).length ≤ 155000 := by
 have h1 := h.many
 have h2 : q.2.length ≤ (AU (M ++ [(f, es)])).length := by
  obtain ⟨A, B, e⟩ := List.append_of_mem hq
  rw [e, BP]
  show _ ≤ (AU A ++ (q.2 ++ AU B)).length
  simp only [List.length_append]; omega
 have h3 : ∀ y, y ∈ q.2 → BN y = true := fun y hy => h.c.right y (List.mem_flatMap.2 ⟨q, hq, hy⟩)
 have h4 := DJ h3
 exact ⟨by omega, by omega⟩
theorem CutD.opensA {lim : Nat} (tb : Tb) (h : CutD d M f es e x w) (hw : w ≤ 9999) (hl1 : 64 ≤ lim) (hl2 : lim ≤ 16384) : ∃ d' M', LogD d' M' (w + 1) ∧ AU M' = AU (M ++ [(f, es)]) ∧ ∀ dk, AV Tryz.prog 9 #[.pointer (some ⟨dk, 0, none⟩), .int .i64 (lim : Int)] [Ag dk d, Ao tb] (fun (p : Nat) => .tuple #[.pointer (some ⟨p, 0, none⟩), .int .i64 0]) (fun (p : Nat) => [Ay p dk lim (An M'), Ag dk d', Ao tb]) := by
  have hfew := h.g.few
  have hgm := h.g.many
  have hmany := h.many
  rw [List.length_append] at hfew
  simp only [List.length_cons, List.length_nil] at hfew
  have hfs : ∀ g, g ∈ (M ++ [(f, es)]).map (·.1) → g ≤ 72057594037927935 := fun g hg => by
    obtain ⟨q, hq, rfl⟩ := List.mem_map.1 hg
    rcases List.mem_append.1 hq with hq | hq
    · exact (h.g.first (List.mem_append_left _ hq)).2
    · rw [List.mem_singleton.1 hq]
      exact (h.g.first (q := (f, es ++ [e])) (by simp)).2
  have hfl : ((M ++ [(f, es)]).map (·.1)).length = M.length + 1 := by rw [List.length_map, List.length_append]; rfl
  have hL : (Bz d ((M ++ [(f, es)]).map (·.1))).length ≤ 1000000 := by rw [MC h.ents]; omega
  have hrd : ∀ q, q ∈ M ++ [(f, es)] → ∃ z, Cn d (nameL q.1) = some (Bd q.2 ++ z) ∧ z.length ≤ 1000 := fun q hq => by
    rcases List.mem_append.1 hq with hq | hq
    · exact ⟨[], by rw [List.append_nil]; exact h.rd0 hq, Nat.zero_le _⟩
    · rw [List.mem_singleton.1 hq]; exact ⟨x, h.rd1, h.xl⟩
  have hbl : ∀ g b, g ∈ (M ++ [(f, es)]).map (·.1) → (Cn d (nameL g)).getD [] = b → b.length ≤ 137438953472 := fun g b hg hb => by
    obtain ⟨q, hq, rfl⟩ := List.mem_map.1 hg
    obtain ⟨z, hz, hzl⟩ := hrd q hq
    have := (h.len hq).2
    rw [hz] at hb
    rw [← hb]
    show (Bd q.2 ++ z).length ≤ _
    rw [List.length_append]; omega
  have hmk : ∀ q, q ∈ M ++ [(f, es)] → Cg d q.1 = CG q.2 := fun q hq => by unfold Cg; rw [h.ents q hq]; rfl
  have hat : ∀ {j g : Nat}, j < M.length → ((M ++ [(f, es)]).map (·.1))[j]? = some g → ∃ q, M[j]? = some q ∧ q.1 = g ∧ q ∈ M := fun {j g} hjl hj => by
    rw [List.getElem?_map, List.getElem?_append_left hjl] at hj
    cases hq : M[j]? with
    | none => rw [hq] at hj; cases hj
    | some q => rw [hq] at hj; exact ⟨q, rfl, by simpa using hj, List.mem_of_getElem? hq⟩
  have hlast : ∀ {g : Nat}, ((M ++ [(f, es)]).map (·.1))[M.length]? = some g → g = f := fun {g} hj => by
    rw [List.getElem?_map, List.getElem?_append_right (Nat.le_refl _), Nat.sub_self] at hj
    simpa using hj.symm
  have hwh : ∀ (j g : Nat) (b : List UInt8), j < M.length → ((M ++ [(f, es)]).map (·.1))[j]? = some g → (Cn d (nameL g)).getD [] = b → ∃ m, (Cg d g).getLast? = some m ∧ m.2 = b.length := fun j g b hjl hj hb => by
    obtain ⟨q, _, rfl, hq⟩ := hat hjl hj
    rw [h.rd0 hq] at hb
    rw [hmk q (List.mem_append_left _ hq)]
    rcases Cz q.2 with h0 | ⟨r, y, he⟩
    · exact absurd h0 (h.g.ne q (List.mem_append_left _ hq))
    · rw [he, Es]
      exact ⟨_, rfl, by rw [← hb, he]; rfl⟩
  have hok := fun (j g i : Nat) (y : EntD) (n : Nat) (_ : j ≤ M.length) => Wp h.c h.hd h.ents j g i y n
  have hst : Ga d ((M ++ [(f, es)]).map (·.1)) (M.length + 1) 0 = An (M ++ [(f, es)]) := by rw [RO hfl]; exact Vc h.ents
  have hml : (An (M ++ [(f, es)])).length = M.length + 1 := by unfold An; rw [List.length_map, List.length_append]; rfl
  have hnow : d.now.length ≤ 1000000 := by rw [h.now, List.length_append]; unfold BX; rw [List.length_map]; simp only [List.length_cons, List.length_nil]; omega
  have hmf : (f, es) ∈ M ++ [(f, es)] := List.mem_append_right _ (List.mem_singleton.2 rfl)
  have hsf : (An (M ++ [(f, es)]))[M.length]? = some (f, CG es) := GC (M := M ++ [(f, es)]) (i := M.length) (q := (f, es)) (by rw [List.getElem?_append_right (Nat.le_refl _), Nat.sub_self]; rfl)
  by_cases h0 : es = []
  · obtain ⟨hd1, hd2⟩ := h.del
    have hload : ∀ dk p, AV Tryz.prog 36 #[.pointer (some ⟨p, 0, none⟩)] [Ay p dk lim (((M ++ [(f, es)]).map (·.1)).map fun f => (f, [])), Ag dk d, Ao tb] (fun _ : Unit => .tuple #[]) (fun _ => [Ay p dk lim (An (M ++ [(f, es)])), Ag dk d, Ao tb]) := fun dk p => by
      have h1 := Mk (p := p) (dk := dk) (lim := lim) (N := M.length) (K := M.length + 1) tb (h.fit (by omega)) hfs (by omega) (.inr ⟨rfl, rfl, by omega⟩) hL hbl hok hwh (fun g hg => .inl <| by
        rw [hlast hg]
        have h2 := h.ents (f, es) hmf
        rw [h0] at h2
        exact h2)
      rw [hst] at h1
      exact h1
    obtain ⟨D, hD1, hD2⟩ : ∃ D : Nat → DiskD, D (M.length + 1) = d ∧ ∀ i, i ≤ M.length → D i = Cw d (.del (nameL f)) := ⟨fun i => if i ≤ M.length then Cw d (.del (nameL f)) else d, if_neg (by omega), fun i hi => if_pos hi⟩
    have hdl : ∀ (i g : Nat) (l : List (Int × Nat)), M.length ≤ i → (An (M ++ [(f, es)]))[i]? = some (g, l) → l = [] ∧ g ≤ 72057594037927935 ∧ (D (i + 1)).fit ∧ Iy (D (i + 1)) (nameL g) = (D i, 0) := fun i g l hi hg => by
      have hil := (List.getElem?_eq_some_iff.1 hg).1
      obtain rfl : i = M.length := by omega
      rw [hsf] at hg
      simp only [Option.some.injEq, Prod.mk.injEq] at hg
      obtain ⟨rfl, rfl⟩ := hg
      rw [hD1, hD2 _ (Nat.le_refl _)]
      exact ⟨by rw [h0]; rfl, hfs _ (List.mem_map.2 ⟨_, hmf, rfl⟩), h.fit (by omega), hd1⟩
    have htk : (An (M ++ [(f, es)])).take M.length = An M := by
      rw [C4, List.take_left' (by unfold An; rw [List.length_map])]
    refine ⟨_, M, hd2, by rw [BP, h0]; simp [AU], fun dk => PB hl1 hl2 h.down hnow h.names tb hfs (by omega) (hload dk) (ss2 := An M) (fun p => ?_)⟩
    rcases Cz M with hM | ⟨M1, q, hM⟩
    · have h1 := Pz (p := p) (dk := dk) (lim := lim) (r := 0) (ss := An (M ++ [(f, es)])) (D := D) tb (by omega) (fun i g l _ hg => hdl i g l (by rw [hM]; exact Nat.zero_le _) hg)
      rw [hml, hD1, hD2 0 (Nat.zero_le _)] at h1
      rw [show An M = [] by rw [hM]; rfl]
      exact h1
    · have hMl : M.length = M1.length + 1 := by rw [hM, List.length_append]; rfl
      have hqM : q ∈ M := by rw [hM]; simp
      have hq1 : M[M1.length]? = some q := by rw [hM, List.getElem?_append_right (Nat.le_refl _), Nat.sub_self]; rfl
      have hqs : (An (M ++ [(f, es)]))[M1.length]? = some (q.1, CG q.2) := GC (by rw [List.getElem?_append_left (by omega)]; exact hq1)
      have hqne := h.front.ne q hqM
      obtain ⟨r, y, hy⟩ := (Cz q.2).resolve_left hqne
      have hlen := h.len (List.mem_append_left _ hqM)
      have h1 := PA (p := p) (dk := dk) (lim := lim) (r := M1.length) (ss := An (M ++ [(f, es)])) (D := D) tb (by omega) (fun i g l hi hg => hdl i g l (by omega) hg) hqs (hfs _ (List.mem_map.2 ⟨q, List.mem_append_left _ hqM, rfl⟩)) (E5 hqne) (by rw [Dh]; omega) (m := (y.t, (Bd q.2).length)) (by rw [← List.getLast?_eq_getElem?, hy, Es]) (by rw [hD2 _ (by omega)]; exact hd2.fit (by omega)) rfl rfl (by rw [hD2 _ (by omega), hd2.read hqM]; show (Bd q.2).length ≤ _; omega) (by rw [hD2 _ (by omega), hd2.read hqM]; rfl)
      rw [hml, hD1, hD2 _ (by omega), ← hMl, htk] at h1
      exact h1
  · obtain ⟨hd1, hd2⟩ := h.cut h0
    obtain ⟨r, y, hy⟩ := (Cz es).resolve_left h0
    have hm1 : (CG es).getLast? = some (y.t, (Bd es).length) := by rw [hy, Es]
    have hxp := List.length_pos_iff.2 h.x0
    have hload : ∀ dk p, AV Tryz.prog 36 #[.pointer (some ⟨p, 0, none⟩)] [Ay p dk lim (((M ++ [(f, es)]).map (·.1)).map fun f => (f, [])), Ag dk d, Ao tb] (fun _ : Unit => .tuple #[]) (fun _ => [Ay p dk lim (An (M ++ [(f, es)])), Ag dk d, Ao tb]) := fun dk p => by
      have h1 := Mk (p := p) (dk := dk) (lim := lim) (N := M.length) (K := M.length + 1) tb (h.fit (by omega)) hfs (by omega) (.inr ⟨rfl, rfl, by omega⟩) hL hbl hok hwh (fun g hg => .inr fun b hb => by
        rw [hlast hg] at hb ⊢
        rw [h.rd1] at hb
        rw [hmk (f, es) hmf]
        refine ⟨_, hm1, ?_⟩
        rw [← hb]
        show (Bd es).length < (Bd es ++ x).length
        rw [List.length_append]; omega)
      rw [hst] at h1
      exact h1
    have hlen : es.length ≤ 1000 ∧ (Bd es).length ≤ 155000 := h.len hmf
    refine ⟨_, M ++ [(f, es)], hd2, rfl, fun dk => PB hl1 hl2 h.down hnow h.names tb hfs (by omega) (hload dk) (ss2 := An (M ++ [(f, es)])) (fun p => ?_)⟩
    have h1 := QX (p := p) (dk := dk) (lim := lim) (r := M.length) (ss := An (M ++ [(f, es)])) (D := fun _ => d) tb (by omega) (fun i g l hi hg => by
      have hil := (List.getElem?_eq_some_iff.1 hg).1
      omega) hsf (hfs _ (List.mem_map.2 ⟨_, hmf, rfl⟩)) (E5 h0) (by rw [Dh]; omega) (by rw [← List.getLast?_eq_getElem?]; exact hm1) (h.fit (by omega)) rfl rfl (by rw [h.rd1]; show (Bd es ++ x).length ≤ _; rw [List.length_append]; have := h.xl; omega) (by rw [h.rd1]; show (Bd es).length < (Bd es ++ x).length; rw [List.length_append]; omega) hd1
    rw [List.take_of_length_le (by omega)] at h1
    exact h1
theorem CutD.opens {dk lim : Nat} (tb : Tb) (h : CutD d M f es e x w) (hw : w ≤ 9999) (hl1 : 64 ≤ lim) (hl2 : lim ≤ 16384) : ∃ d' M', LogD d' M' (w + 1) ∧ AU M' = AU (M ++ [(f, es)]) ∧ AV Tryz.prog 9 #[.pointer (some ⟨dk, 0, none⟩), .int .i64 (lim : Int)] [Ag dk d, Ao tb] (fun (p : Nat) => .tuple #[.pointer (some ⟨p, 0, none⟩), .int .i64 0]) (fun (p : Nat) => [Ay p dk lim (An M'), Ag dk d', Ao tb]) := by
 obtain ⟨d', M', h1, h2, h3⟩ := h.opensA (lim := lim) tb hw hl1 hl2
 exact ⟨d', M', h1, h2, h3 dk⟩
end
end Go.Proofs.YtjcfimmcogkopaaGreatDoor.Sep
namespace Go.Proofs.YtjcfimmcogkopaaGreatDoor.Sep
open Go.RowKit
def CP (lim : Nat) (M : LogMs) (L : List EntD) : LogMs := L.foldl (Gn lim) M
theorem Nl {lim : Nat} {M : LogMs} {L : List EntD} {k : Nat} {e : EntD} (h : L[k]? = some e) : CP lim M (L.take (k + 1)) = Gn lim (CP lim M (L.take k)) e := by
  unfold CP
  rw [List.take_add_one, h, List.foldl_append]
  rfl
inductive OpAt (lim : Nat) (M : LogMs) (e : EntD) (o : OpD) : Prop
  | new (h : Gn lim M e = M ++ [(e.i.toNat, [e])]) (ho : o = .app (nameL e.i.toNat) (Fg e))
  | old (M1 : LogMs) (q : Nat × List EntD) (hM : M = M1 ++ [q]) (h : Gn lim M e = M1 ++ [(q.1, q.2 ++ [e])]) (ho : o = .app (nameL q.1) (Fg e))
theorem LogD.stepP {lim w : Nat} {d : DiskD} {M : LogMs} {e : EntD} (h : LogD d M w) (hw : w ≤ 9999) (hr : BN e = true) (hf : Fh (AD (AU M)) e) (hm : (AU M).length < 60) : ∃ o, OpAt lim M e o ∧ LogD (Cw d o) (Gn lim M e) (w + 1) ∧ Kx lim (An M, d) e = (An (Gn lim M e), Cw d o) := by
  have hfl := G1 hr
  have hle := DX hr
  have hbl := DJ h.g.c.right
  have hfew := h.g.few
  have happ : ∀ n, CD d (nameL n) (Fg e) = (Cw d (.app (nameL n) (Fg e)), 0) := fun n => h.appends (N4 _) (by omega) (by omega)
  obtain ⟨_, d', hA, hD⟩ := h.add (lim := lim) hw hr hf hm
  rcases Cz M with rfl | ⟨M0, q, rfl⟩
  · have h1 : Kx lim (An [], d) e = Je (An [], d) e := rfl
    have h2 : d' = Cw d (.app (nameL e.i.toNat) (Fg e)) := by
      have h3 := congrArg Prod.snd hA
      rw [h1] at h3
      refine Eq.trans (show d' = _ from h3.symm) ?_
      show (CD d (nameL e.i.toNat) (Fg e)).1 = _
      rw [happ]
    subst h2
    exact ⟨_, .new rfl rfl, hD, hA⟩
  · have hlast : (An (M0 ++ [q])).getLast? = some (q.1, CG q.2) := by rw [C4, List.getLast?_append]; rfl
    by_cases hb : lim < (Bd q.2).length + (Fg e).length
    · have h1 : Kx lim (An (M0 ++ [q]), d) e = Je (An (M0 ++ [q]), d) e := by
        unfold Kx
        simp only [hlast]
        rw [G2, if_pos hb]
      have h2 : d' = Cw d (.app (nameL e.i.toNat) (Fg e)) := by
        have h3 := congrArg Prod.snd hA
        rw [h1] at h3
        refine Eq.trans (show d' = _ from h3.symm) ?_
        show (CD d (nameL e.i.toNat) (Fg e)).1 = _
        rw [happ]
      subst h2
      exact ⟨_, .new (by rw [E6, if_pos hb]) rfl, hD, hA⟩
    · have h2 : d' = Cw d (.app (nameL q.1) (Fg e)) := by
        have h3 := congrArg Prod.snd hA
        unfold Kx at h3
        simp only [hlast] at h3
        rw [G2, if_neg hb] at h3
        refine Eq.trans (show d' = _ from h3.symm) ?_
        show (CD d (nameL q.1) (Fg e)).1 = _
        rw [happ]
      subst h2
      exact ⟨_, .old M0 q rfl (by rw [E6, if_neg hb]) rfl, hD, hA⟩
structure PendOk (lim : Nat) (M0 : LogMs) (L : List EntD) (d : DiskD) : Prop where
  syn : d.syn = BX M0
  wl : d.wait.length = L.length
  pre : ∀ k, k ≤ L.length → (d.wait.take k).foldl BJ d.syn = BX (CP lim M0 (L.take k))
  op : ∀ k e, L[k]? = some e → ∃ o, d.wait[k]? = some o ∧ OpAt lim (CP lim M0 (L.take k)) e o
  g : ∀ k, k ≤ L.length → LogG (CP lim M0 (L.take k))
theorem PendOk.start {lim : Nat} {M0 : LogMs} {d : DiskD} (h1 : d.syn = BX M0) (h2 : d.wait = []) (hg : LogG M0) : PendOk lim M0 [] d := ⟨h1, by rw [h2]; rfl, fun k _ => by rw [h2, List.take_nil, List.take_nil]; exact h1, fun k e h => by simp at h, fun k _ => by rw [List.take_nil]; exact hg⟩
theorem PendOk.step {lim w : Nat} {M0 : LogMs} {L : List EntD} {d : DiskD} {e : EntD} {o : OpD} (h : PendOk lim M0 L d) (ho : OpAt lim (CP lim M0 L) e o) (hD : LogD (Cw d o) (Gn lim (CP lim M0 L) e) w) : PendOk lim M0 (L ++ [e]) (Cw d o) := by
  have hlast : CP lim M0 (L ++ [e]) = Gn lim (CP lim M0 L) e := by unfold CP; rw [List.foldl_append]; rfl
  have hw : (Cw d o).wait = d.wait ++ [o] := rfl
  have hwl := h.wl
  refine ⟨h.syn, by rw [hw, List.length_append, List.length_append, hwl]; rfl, fun k hk => ?_, fun k y hy => ?_, fun k hk => ?_⟩
  · rcases Nat.lt_or_ge L.length k with hlt | hle
    · rw [List.take_of_length_le (by rw [hw, List.length_append, hwl]; simp only [List.length_cons, List.length_nil]; omega), List.take_of_length_le (by rw [List.length_append]; simp only [List.length_cons, List.length_nil]; omega), hlast]
      exact hD.now
    · rw [hw, List.take_append_of_le_length (by omega), List.take_append_of_le_length hle]
      exact h.pre k hle
  · rcases Nat.lt_or_ge k L.length with hlt | hge
    · rw [List.getElem?_append_left hlt] at hy
      obtain ⟨o1, h1, h2⟩ := h.op k y hy
      exact ⟨o1, by rw [hw, List.getElem?_append_left (by omega)]; exact h1, by rw [List.take_append_of_le_length (by omega)]; exact h2⟩
    · rw [List.getElem?_append_right hge] at hy
      have hk0 : k - L.length = 0 := by
        have := (List.getElem?_eq_some_iff.1 hy).1
        simp only [List.length_cons, List.length_nil] at this
        omega
      rw [hk0] at hy
      simp only [List.getElem?_cons_zero, Option.some.injEq] at hy
      subst hy
      obtain rfl : k = L.length := by omega
      exact ⟨o, by rw [hw, List.getElem?_append_right (by omega), hwl, Nat.sub_self]; rfl, by rw [List.take_left]; exact ho⟩
  · rcases Nat.lt_or_ge L.length k with hlt | hle
    · rw [List.take_of_length_le (by rw [List.length_append]; simp only [List.length_cons, List.length_nil]; omega), hlast]
      exact hD.g
    · rw [List.take_append_of_le_length hle]
      exact h.g k hle
theorem PC {M : LogMs} (h : LogG M) : AT (BX M) ≤ 155000 := by
 rw [Jf]
 have h1 := DJ h.c.right
 have h2 := h.many
 omega
theorem PendOk.crash {lim w : Nat} {M0 : LogMs} {L : List EntD} {d : DiskD} (h : PendOk lim M0 L d) (hD : LogD d (CP lim M0 L) w) (hL : ∀ e, e ∈ L → BN e = true) (keep torn : Int) : ∃ k, k ≤ L.length ∧ (LogD (FZ d keep torn) (CP lim M0 (L.take k)) 0 ∨ ∃ M f es e x, CutD (FZ d keep torn) M f es e x 0 ∧ AU (M ++ [(f, es)]) = AU (CP lim M0 (L.take k))) := by
  have hkl : Dr d keep ≤ L.length := by rw [← h.wl]; exact OH d keep
  refine ⟨Dr d keep, hkl, ?_⟩
  have hpre := h.pre _ hkl
  have hg := h.g _ hkl
  have hus := PC hg
  have hok : Ds d keep torn = BX (CP lim M0 (L.take (Dr d keep))) → LogD (FZ d keep torn) (CP lim M0 (L.take (Dr d keep))) 0 := fun hl => ⟨rfl, rfl, hD.room, Nat.le_refl _, by show AT (Ds d keep torn) + 0 ≤ _; rw [hl]; omega, hl, hg⟩
  have hlt := GW d keep torn
  rw [hpre] at hlt
  cases hw : d.wait[Dr d keep]? with
  | none => rw [hw] at hlt; exact .inl (hok hlt)
  | some o =>
    rw [hw] at hlt
    simp only at hlt
    have hkk : Dr d keep < L.length := by rw [← h.wl]; exact (List.getElem?_eq_some_iff.1 hw).1
    obtain ⟨e, he⟩ : ∃ e, L[Dr d keep]? = some e := ⟨_, List.getElem?_eq_getElem hkk⟩
    obtain ⟨o1, ho1, hop⟩ := h.op _ e he
    obtain rfl : o = o1 := Option.some.inj (hw.symm.trans ho1)
    have hre := hL e (List.mem_of_getElem? he)
    have hfl := G1 hre
    have hle := DX hre
    have hg1 := h.g (Dr d keep + 1) (by omega)
    rw [Nl he] at hg1
    have hcut : ∀ t, t ≠ 0 → t < (Fg e).length → (Fg e).take t ≠ [] ∧ ((Fg e).take t).length ≤ 155 ∧ Dt ((Fg e).take t) = none := fun t h0 h1 => by
      refine ⟨fun h2 => ?_, by rw [List.length_take]; omega, Ur (by omega) (by omega)⟩
      have := congrArg List.length h2
      rw [List.length_take] at this
      simp only [List.length_nil] at this
      omega
    have htn : ∀ n, o = .app n (Fg e) → Ds d keep torn = BX (CP lim M0 (L.take (Dr d keep))) ∨ ∃ t, t ≠ 0 ∧ t < (Fg e).length ∧ Ds d keep torn = BJ (BX (CP lim M0 (L.take (Dr d keep)))) (.app n ((Fg e).take t)) := fun n hn => by
      subst hn
      unfold Gy at hlt
      simp only at hlt
      by_cases hc : (torn % ((Fg e).length : Int)).toNat = 0 ∨ Fg e = []
      · rw [if_pos hc] at hlt; exact .inl hlt
      · rw [if_neg hc] at hlt
        have h1 := Int.emod_lt_of_pos torn (show (0 : Int) < ((Fg e).length : Int) by omega)
        exact .inr ⟨_, fun h0 => hc (.inl h0), by omega, hlt⟩
    cases hop with
    | new ha ho =>
      rcases htn _ ho with h1 | ⟨t, ht0, htl, h1⟩
      · exact .inl (hok h1)
      · obtain ⟨c1, c2, c3⟩ := hcut t ht0 htl
        rw [ha] at hg1
        have h0 := Pr hg1
        have hnow : Ds d keep torn = BX (CP lim M0 (L.take (Dr d keep))) ++ [(nameL e.i.toNat, Bd [] ++ (Fg e).take t)] := by
          rw [h1]
          show BM _ _ ((Bw _ _).getD [] ++ _) = _
          rw [ED h0, h0]
          rfl
        refine .inr ⟨_, e.i.toNat, [], e, (Fg e).take t, ⟨rfl, rfl, hD.room, Nat.le_refl _, ?_, hnow, hg1, c1, by omega, c3⟩, by rw [BP]; simp [AU]⟩
        show AT (Ds d keep torn) + 0 ≤ _
        rw [hnow]
        unfold AT at hus ⊢
        rw [List.map_append, List.sum_append]
        simp only [List.map_cons, List.map_nil, List.sum_cons, List.sum_nil]
        have : (Bd [] ++ (Fg e).take t).length ≤ 155 := c2
        omega
    | old M1 q hM ha ho =>
      rcases htn _ ho with h1 | ⟨t, ht0, htl, h1⟩
      · exact .inl (hok h1)
      · obtain ⟨c1, c2, c3⟩ := hcut t ht0 htl
        rw [ha] at hg1
        rw [hM] at hg h1 hus
        have h2 := GB hg (q := q) (List.mem_append_right _ (List.mem_singleton.2 rfl))
        have h3 := D4 hg
        have hnow : Ds d keep torn = BX M1 ++ [(nameL q.1, Bd q.2 ++ (Fg e).take t)] := by
          rw [h1]
          show BM _ _ ((Bw _ _).getD [] ++ _) = _
          rw [h2]
          rw [CF] at h3 ⊢
          exact JV h3
        refine .inr ⟨M1, q.1, q.2, e, (Fg e).take t, ⟨rfl, rfl, hD.room, Nat.le_refl _, ?_, hnow, hg1, c1, by omega, c3⟩, by rw [hM]⟩
        show AT (Ds d keep torn) + 0 ≤ _
        rw [hnow]
        rw [CF] at hus
        unfold AT at hus ⊢
        rw [List.map_append, List.sum_append] at hus ⊢
        simp only [BX, List.map_cons, List.map_nil, List.sum_cons, List.sum_nil, List.length_append] at hus ⊢
        omega
end Go.Proofs.YtjcfimmcogkopaaGreatDoor.Sep
