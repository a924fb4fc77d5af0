/-
  SgKc · SgPd
-/
import Derived.Test.YtjcfimmcogkopaaGreatDoorWX01
import Derived.Test.YtjcfimmcogkopaaGreatDoorWM02
import Derived.Test.YtjcfimmcogkopaaGreatDoorWO02
import Derived.Test.YtjcfimmcogkopaaGreatDoorWS01
set_option linter.unusedSimpArgs false
set_option linter.unusedVariables false
set_option maxHeartbeats 4000000
namespace Go.Proofs.YtjcfimmcogkopaaGreatDoor.Sep
variable {M : LogMs} {d : DiskD} {lim : Nat} {q : Nat × List EntD}
open Go.RowKit
theorem Tm {es : List EntD} (h : ∀ e, e ∈ es → Be e = true) {x : List UInt8} (hx : CH x = none) : HF (AI es ++ x) = E1 0 es := by
 have h1 := Hz (es.map BR) (fun y hy => by
  obtain ⟨e, he, rfl⟩ := List.mem_map.1 hy
  have := Dq (h e he); omega) x
 rw [IU hx] at h1
 unfold HF
 rw [JL, h1]
 show FG 0 (es.map BR ++ []) = _
 rw [List.append_nil, Kx es 0 h]
theorem MF {d : DiskD} : ∀ {M : LogMs}, (∀ q, q ∈ M → BB d q.1 = E1 0 q.2) → Ba d (M.map (·.1)) = AB M
  | [], _ => rfl
  | q :: M, hs => by
    have h1 := MF (M := M) fun x hx => hs x (List.mem_cons_of_mem _ hx)
    show (BB d q.1).map (·.1) ++ Ba d (M.map (·.1)) = q.2 ++ AB M
    rw [h1, hs q (List.mem_cons_self ..), EX]
theorem Vp (hs : ∀ q, q ∈ M → BB d q.1 = E1 0 q.2) : Sep.marksM d (M.map (·.1)) = Ag M := by
  unfold Sep.marksM Ag
  rw [List.map_map]
  exact List.map_congr_left fun q hq => by
    show (q.1, BA d q.1) = _
    unfold BA
    rw [hs q hq]; rfl
theorem WP (hc : LogC (AB M)) (hd1 : ∀ q, q ∈ M → ∀ e r, q.2 = e :: r → e.i = (q.1 : Int)) (hs : ∀ q, q ∈ M → BB d q.1 = E1 0 q.2) (j f i : Nat) (e : EntD) (n : Nat) (hj : (M.map (·.1))[j]? = some f) (hi : (BB d f)[i]? = some (e, n)) : (i = 0 → e.i = f) ∧ ((Ar (BL d (M.map (·.1)) j f i)).2 = 0 ∨ ((Ar (BL d (M.map (·.1)) j f i)).2 ≠ 0 ∧ e.i = (Ar (BL d (M.map (·.1)) j f i)).2 + 1 ∧ (Ar (BL d (M.map (·.1)) j f i)).1 ≤ e.t)) ∧ 0 ≤ (Ar (BL d (M.map (·.1)) j f i)).2 ∧ (Ar (BL d (M.map (·.1)) j f i)).2 ≤ 72057594037927935 := by
  obtain ⟨q, hqj, rfl⟩ : ∃ q, M[j]? = some q ∧ q.1 = f := by
    rw [List.getElem?_map] at hj
    cases hq : M[j]? with
    | none => rw [hq] at hj; cases hj
    | some q => rw [hq] at hj; exact ⟨q, rfl, by simpa using hj⟩
  have hq := List.mem_of_getElem? hqj
  rw [hs q hq] at hi
  have hi1 : q.2[i]? = some e := by
    have := congrArg (·[i]?) (EX q.2 0)
    simp only [List.getElem?_map, hi, Option.map_some] at this
    exact this.symm
  have hup : BL d (M.map (·.1)) j q.1 i = AB (M.take j) ++ q.2.take i := by
    unfold BL
    rw [← List.map_take, MF (M := M.take j) (fun x hx => hs x (List.mem_of_mem_take hx)), hs q hq, List.map_take, EX]
  rw [hup]
  have hL : AB M = (AB (M.take j) ++ q.2.take i) ++ e :: (q.2.drop (i + 1) ++ AB (M.drop (j + 1))) := by
    conv => lhs; rw [← List.take_append_drop j M, DM hqj, Bi]
    show AB (M.take j) ++ (q.2 ++ AB (M.drop (j + 1))) = _
    conv => lhs; rw [← List.take_append_drop i q.2, DM hi1]
    simp
  obtain ⟨h5, h6, h7⟩ := hc.fol _ _ _ hL
  refine ⟨fun h0 => ?_, h5, h6, h7⟩
  subst h0
  cases hq2 : q.2 with
  | nil => rw [hq2] at hi1; cases hi1
  | cons e' r =>
    rw [hq2] at hi1
    simp only [List.getElem?_cons_zero, Option.some.injEq] at hi1
    rw [← hi1]
    exact hd1 q hq e' r hq2
structure CutD (d : DiskD) (M : LogMs) (f : Nat) (es : List EntD) (e : EntD) (x : List UInt8) (w : Nat) : Prop where
  down : d.down = false
  fuse : d.fuse = none
  room : d.room = 1048576
  wl : d.wait.length ≤ w
  ws : Az d.syn + (d.wait.map OpD.size).sum ≤ 1000000 + 155 * w
  now : d.now = Bl M ++ [(nameL f, AI es ++ x)]
  g : LogG (M ++ [(f, es ++ [e])])
  x0 : x ≠ []
  xl : x.length ≤ 1000
  nx : CH x = none
section
variable {d : DiskD} {M : LogMs} {f : Nat} {es : List EntD} {e : EntD} {x : List UInt8} {w : Nat}
theorem CutD.keys (h : CutD d M f es e x w) : AC d.now = AC (Bl (M ++ [(f, es ++ [e])])) := by
 rw [h.now, BY]
 unfold AC
 rw [List.map_append, List.map_append]
 rfl
theorem CutD.nodup (h : CutD d M f es e x w) : (AC d.now).Nodup := by rw [h.keys]; exact Du h.g
theorem CutD.names (h : CutD d M f es e x w) : FU d.now = ((M ++ [(f, es)]).map (·.1)).map nameL := by
  have h1 := KX h.g
  unfold FU at h1 ⊢
  rw [h.keys, h1]
  simp only [List.map_append, List.map_cons, List.map_nil]
theorem CutD.rd0 (h : CutD d M f es e x w) (hq : q ∈ M) : BH d (nameL q.1) = some (AI q.2) := by
 unfold BH
 rw [if_neg (by rw [h.down]; decide)]
 exact (Bw h.nodup).2 (by rw [h.now]; exact List.mem_append_left _ (List.mem_map.2 ⟨q, hq, rfl⟩))
theorem CutD.rd1 (h : CutD d M f es e x w) : BH d (nameL f) = some (AI es ++ x) := by
 unfold BH
 rw [if_neg (by rw [h.down]; decide)]
 exact (Bw h.nodup).2 (by rw [h.now]; exact List.mem_append_right _ (List.mem_singleton.2 rfl))
theorem CutD.rights (h : CutD d M f es e x w) : ∀ y, y ∈ es → Be y = true := fun y hy => (h.g.seg (q := (f, es ++ [e])) (by simp)).right y (by simp [hy])
theorem CutD.ents (h : CutD d M f es e x w) : ∀ q, q ∈ M ++ [(f, es)] → BB d q.1 = E1 0 q.2 := fun q hq => by
  unfold BB
  rcases List.mem_append.1 hq with hq | hq
  · rw [h.rd0 hq]
    exact KW (h.g.seg (List.mem_append_left _ hq)).right
  · rw [List.mem_singleton.1 hq]
    show HF ((BH d (nameL f)).getD []) = E1 0 es
    rw [h.rd1]
    exact Tm h.rights h.nx
theorem CutD.c (h : CutD d M f es e x w) : LogC (AB (M ++ [(f, es)])) := by
 have h1 := h.g.c
 rw [Bi] at h1 ⊢
 have h2 : AB [(f, es ++ [e])] = AB [(f, es)] ++ [e] := by simp [AB]
 rw [h2, ← List.append_assoc] at h1
 exact h1.front
theorem CutD.hd (h : CutD d M f es e x w) : ∀ q, q ∈ M ++ [(f, es)] → ∀ y r, q.2 = y :: r → y.i = (q.1 : Int) := fun q hq y r hy => by
  rcases List.mem_append.1 hq with hq | hq
  · exact h.g.hd q (List.mem_append_left _ hq) y r hy
  · rw [List.mem_singleton.1 hq] at hy ⊢
    have hy' : es = y :: r := hy
    exact h.g.hd (f, es ++ [e]) (by simp) y (r ++ [e]) (by show es ++ [e] = _; rw [hy']; rfl)
theorem CutD.many (h : CutD d M f es e x w) : (AB (M ++ [(f, es)])).length + 1 ≤ 1000 := by
 have h1 := h.g.many
 rw [Bi, List.length_append] at h1 ⊢
 have h2 : (AB [(f, es ++ [e])]).length = (AB [(f, es)]).length + 1 := by simp [AB]
 omega
theorem CutD.front (h : CutD d M f es e x w) : LogG M := h.g.front
theorem CutD.grow (h : CutD d M f es e x w) (h0 : es ≠ []) : LogG (M ++ [(f, es)]) := ⟨fun q hq => by
  rcases List.mem_append.1 hq with hq | hq
  · exact h.g.ne q (List.mem_append_left _ hq)
  · rw [List.mem_singleton.1 hq]; exact h0, h.c, h.hd, by have := h.many; omega⟩
theorem CutD.fit (h : CutD d M f es e x w) (hw : w ≤ 10000) : d.fit := ⟨by have := h.ws; omega, by have := h.wl; omega⟩
theorem CutD.del (h : CutD d M f es e x w) : Ik d (nameL f) = (B3 d (.del (nameL f)), 0) ∧ LogD (B3 d (.del (nameL f))) M (w + 1) := by
  have hl := h.wl
  have hs := h.ws
  have hn := h.nodup
  have hg : AW d.now (nameL f) = some (AI es ++ x) := (Bw hn).2 (by rw [h.now]; exact List.mem_append_right _ (List.mem_singleton.2 rfl))
  constructor
  · unfold Ik
    rw [Ff h.down h.fuse]
    simp only
    rw [if_neg (by simp), hg]
  · exact ⟨h.down, h.fuse, h.room, by show (d.wait ++ [_]).length ≤ _; rw [List.length_append]; simp only [List.length_cons, List.length_nil]; omega, by
      show Az d.syn + ((d.wait ++ [OpD.del (nameL f)]).map OpD.size).sum ≤ _
      rw [List.map_append, List.sum_append]
      simp only [List.map_cons, List.map_nil, List.sum_cons, List.sum_nil, OpD.size]
      omega, by
      rw [F4]
      rw [h.now] at hn ⊢
      exact Pt hn, h.front⟩
theorem CutD.cut (h : CutD d M f es e x w) (h0 : es ≠ []) : OK d (nameL f) (((AI es).length : Nat) : Int) = (B3 d (.cut (nameL f) (AI es).length), 0) ∧ LogD (B3 d (.cut (nameL f) (AI es).length)) (M ++ [(f, es)]) (w + 1) := by
  have hl := h.wl
  have hs := h.ws
  have hn := h.nodup
  have hg : AW d.now (nameL f) = some (AI es ++ x) := (Bw hn).2 (by rw [h.now]; exact List.mem_append_right _ (List.mem_singleton.2 rfl))
  constructor
  · unfold OK
    rw [Ff h.down h.fuse]
    simp only
    rw [if_neg (by simp), hg]
    simp only
    rw [if_neg (by rw [List.length_append]; omega)]
    simp
  · exact ⟨h.down, h.fuse, h.room, by show (d.wait ++ [_]).length ≤ _; rw [List.length_append]; simp only [List.length_cons, List.length_nil]; omega, by
      show Az d.syn + ((d.wait ++ [OpD.cut (nameL f) (AI es).length]).map OpD.size).sum ≤ _
      rw [List.map_append, List.sum_append]
      simp only [List.map_cons, List.map_nil, List.sum_cons, List.sum_nil, OpD.size]
      omega, by
      rw [F4]
      show (match AW d.now (nameL f) with | some y => Bd d.now (nameL f) (y.take (AI es).length) | none => d.now) = _
      rw [hg]
      simp only
      rw [List.take_left]
      rw [h.now] at hn ⊢
      rw [JM hn, BY]
      rfl, h.grow h0⟩
theorem CutD.len (h : CutD d M f es e x w) (hq : q ∈ M ++ [(f, es)]) : q.2.length ≤ 1000 ∧ (AI q.2).length ≤ 155000 := by
 have h1 := h.many
 have h2 : q.2.length ≤ (AB (M ++ [(f, es)])).length := by
  obtain ⟨A, B, e⟩ := List.append_of_mem hq
  rw [e, Bi]
  show _ ≤ (AB A ++ (q.2 ++ AB B)).length
  simp only [List.length_append]; omega
 have h3 : ∀ y, y ∈ q.2 → Be y = true := fun y hy => h.c.right y (List.mem_flatMap.2 ⟨q, hq, hy⟩)
 have h4 := C8 h3
 exact ⟨by omega, by omega⟩
theorem CutD.opensA (tb : Tb) (h : CutD d M f es e x w) (hw : w ≤ 9999) (hl1 : 64 ≤ lim) (hl2 : lim ≤ 16384) : ∃ d' M', LogD d' M' (w + 1) ∧ AB M' = AB (M ++ [(f, es)]) ∧ ∀ dk, AA Tryz.prog 9 #[.pointer (some ⟨dk, 0, none⟩), .int .i64 (lim : Int)] [Ab dk d, Aj tb] (fun (p : Nat) => .tuple #[.pointer (some ⟨p, 0, none⟩), .int .i64 0]) (fun (p : Nat) => [Ao p dk lim (Ag M'), Ab dk d', Aj tb]) := by
  have hfew := h.g.few
  have hgm := h.g.many
  have hmany := h.many
  rw [List.length_append] at hfew
  simp only [List.length_cons, List.length_nil] at hfew
  have hfs : ∀ g, g ∈ (M ++ [(f, es)]).map (·.1) → g ≤ 72057594037927935 := fun g hg => by
    obtain ⟨q, hq, rfl⟩ := List.mem_map.1 hg
    rcases List.mem_append.1 hq with hq | hq
    · exact (h.g.first (List.mem_append_left _ hq)).2
    · rw [List.mem_singleton.1 hq]
      exact (h.g.first (q := (f, es ++ [e])) (by simp)).2
  have hfl : ((M ++ [(f, es)]).map (·.1)).length = M.length + 1 := by rw [List.length_map, List.length_append]; rfl
  have hL : (Ba d ((M ++ [(f, es)]).map (·.1))).length ≤ 1000000 := by rw [MF h.ents]; omega
  have hrd : ∀ q, q ∈ M ++ [(f, es)] → ∃ z, BH d (nameL q.1) = some (AI q.2 ++ z) ∧ z.length ≤ 1000 := fun q hq => by
    rcases List.mem_append.1 hq with hq | hq
    · exact ⟨[], by rw [List.append_nil]; exact h.rd0 hq, Nat.zero_le _⟩
    · rw [List.mem_singleton.1 hq]; exact ⟨x, h.rd1, h.xl⟩
  have hbl : ∀ g b, g ∈ (M ++ [(f, es)]).map (·.1) → (BH d (nameL g)).getD [] = b → b.length ≤ 137438953472 := fun g b hg hb => by
    obtain ⟨q, hq, rfl⟩ := List.mem_map.1 hg
    obtain ⟨z, hz, hzl⟩ := hrd q hq
    have := (h.len hq).2
    rw [hz] at hb
    rw [← hb]
    show (AI q.2 ++ z).length ≤ _
    rw [List.length_append]; omega
  have hmk : ∀ q, q ∈ M ++ [(f, es)] → BA d q.1 = BZ q.2 := fun q hq => by unfold BA; rw [h.ents q hq]; rfl
  have hat : ∀ {j g : Nat}, j < M.length → ((M ++ [(f, es)]).map (·.1))[j]? = some g → ∃ q, M[j]? = some q ∧ q.1 = g ∧ q ∈ M := fun {j g} hjl hj => by
    rw [List.getElem?_map, List.getElem?_append_left hjl] at hj
    cases hq : M[j]? with
    | none => rw [hq] at hj; cases hj
    | some q => rw [hq] at hj; exact ⟨q, rfl, by simpa using hj, List.mem_of_getElem? hq⟩
  have hlast : ∀ {g : Nat}, ((M ++ [(f, es)]).map (·.1))[M.length]? = some g → g = f := fun {g} hj => by
    rw [List.getElem?_map, List.getElem?_append_right (Nat.le_refl _), Nat.sub_self] at hj
    simpa using hj.symm
  have hwh : ∀ (j g : Nat) (b : List UInt8), j < M.length → ((M ++ [(f, es)]).map (·.1))[j]? = some g → (BH d (nameL g)).getD [] = b → ∃ m, (BA d g).getLast? = some m ∧ m.2 = b.length := fun j g b hjl hj hb => by
    obtain ⟨q, _, rfl, hq⟩ := hat hjl hj
    rw [h.rd0 hq] at hb
    rw [hmk q (List.mem_append_left _ hq)]
    rcases BP q.2 with h0 | ⟨r, y, he⟩
    · exact absurd h0 (h.g.ne q (List.mem_append_left _ hq))
    · rw [he, DR]
      exact ⟨_, rfl, by rw [← hb, he]; rfl⟩
  have hok := fun (j g i : Nat) (y : EntD) (n : Nat) (_ : j ≤ M.length) => WP h.c h.hd h.ents j g i y n
  have hst : FK d ((M ++ [(f, es)]).map (·.1)) (M.length + 1) 0 = Ag (M ++ [(f, es)]) := by rw [RQ hfl]; exact Vp h.ents
  have hml : (Ag (M ++ [(f, es)])).length = M.length + 1 := by unfold Ag; rw [List.length_map, List.length_append]; rfl
  have hnow : d.now.length ≤ 1000000 := by rw [h.now, List.length_append]; unfold Bl; rw [List.length_map]; simp only [List.length_cons, List.length_nil]; omega
  have hmf : (f, es) ∈ M ++ [(f, es)] := List.mem_append_right _ (List.mem_singleton.2 rfl)
  have hsf : (Ag (M ++ [(f, es)]))[M.length]? = some (f, BZ es) := Ge (M := M ++ [(f, es)]) (i := M.length) (q := (f, es)) (by rw [List.getElem?_append_right (Nat.le_refl _), Nat.sub_self]; rfl)
  by_cases h0 : es = []
  · obtain ⟨hd1, hd2⟩ := h.del
    have hload : ∀ dk p, AA Tryz.prog 36 #[.pointer (some ⟨p, 0, none⟩)] [Ao p dk lim (((M ++ [(f, es)]).map (·.1)).map fun f => (f, [])), Ab dk d, Aj tb] (fun _ : Unit => .tuple #[]) (fun _ => [Ao p dk lim (Ag (M ++ [(f, es)])), Ab dk d, Aj tb]) := fun dk p => by
      have h1 := Mn (p := p) (dk := dk) (lim := lim) (N := M.length) (K := M.length + 1) tb (h.fit (by omega)) hfs (by omega) (.inr ⟨rfl, rfl, by omega⟩) hL hbl hok hwh (fun g hg => .inl <| by
        rw [hlast hg]
        have h2 := h.ents (f, es) hmf
        rw [h0] at h2
        exact h2)
      rw [hst] at h1
      exact h1
    obtain ⟨D, hD1, hD2⟩ : ∃ D : Nat → DiskD, D (M.length + 1) = d ∧ ∀ i, i ≤ M.length → D i = B3 d (.del (nameL f)) := ⟨fun i => if i ≤ M.length then B3 d (.del (nameL f)) else d, if_neg (by omega), fun i hi => if_pos hi⟩
    have hdl : ∀ (i g : Nat) (l : List (Int × Nat)), M.length ≤ i → (Ag (M ++ [(f, es)]))[i]? = some (g, l) → l = [] ∧ g ≤ 72057594037927935 ∧ (D (i + 1)).fit ∧ Ik (D (i + 1)) (nameL g) = (D i, 0) := fun i g l hi hg => by
      have hil := (List.getElem?_eq_some_iff.1 hg).1
      obtain rfl : i = M.length := by omega
      rw [hsf] at hg
      simp only [Option.some.injEq, Prod.mk.injEq] at hg
      obtain ⟨rfl, rfl⟩ := hg
      rw [hD1, hD2 _ (Nat.le_refl _)]
      exact ⟨by rw [h0]; rfl, hfs _ (List.mem_map.2 ⟨_, hmf, rfl⟩), h.fit (by omega), hd1⟩
    have htk : (Ag (M ++ [(f, es)])).take M.length = Ag M := by
      rw [Cl, List.take_left' (by unfold Ag; rw [List.length_map])]
    refine ⟨_, M, hd2, by rw [Bi, h0]; simp [AB], fun dk => PF hl1 hl2 h.down hnow h.names tb hfs (by omega) (hload dk) (ss2 := Ag M) (fun p => ?_)⟩
    rcases BP M with hM | ⟨M1, q, hM⟩
    · have h1 := PD (p := p) (dk := dk) (lim := lim) (r := 0) (ss := Ag (M ++ [(f, es)])) (D := D) tb (by omega) (fun i g l _ hg => hdl i g l (by rw [hM]; exact Nat.zero_le _) hg)
      rw [hml, hD1, hD2 0 (Nat.zero_le _)] at h1
      rw [show Ag M = [] by rw [hM]; rfl]
      exact h1
    · have hMl : M.length = M1.length + 1 := by rw [hM, List.length_append]; rfl
      have hqM : q ∈ M := by rw [hM]; simp
      have hq1 : M[M1.length]? = some q := by rw [hM, List.getElem?_append_right (Nat.le_refl _), Nat.sub_self]; rfl
      have hqs : (Ag (M ++ [(f, es)]))[M1.length]? = some (q.1, BZ q.2) := Ge (by rw [List.getElem?_append_left (by omega)]; exact hq1)
      have hqne := h.front.ne q hqM
      obtain ⟨r, y, hy⟩ := (BP q.2).resolve_left hqne
      have hlen := h.len (List.mem_append_left _ hqM)
      have h1 := PE (p := p) (dk := dk) (lim := lim) (r := M1.length) (ss := Ag (M ++ [(f, es)])) (D := D) tb (by omega) (fun i g l hi hg => hdl i g l (by omega) hg) hqs (hfs _ (List.mem_map.2 ⟨q, List.mem_append_left _ hqM, rfl⟩)) (EH hqne) (by rw [Cv]; omega) (m := (y.t, (AI q.2).length)) (by rw [← List.getLast?_eq_getElem?, hy, DR]) (by rw [hD2 _ (by omega)]; exact hd2.fit (by omega)) rfl rfl (by rw [hD2 _ (by omega), hd2.read hqM]; show (AI q.2).length ≤ _; omega) (by rw [hD2 _ (by omega), hd2.read hqM]; rfl)
      rw [hml, hD1, hD2 _ (by omega), ← hMl, htk] at h1
      exact h1
  · obtain ⟨hd1, hd2⟩ := h.cut h0
    obtain ⟨r, y, hy⟩ := (BP es).resolve_left h0
    have hm1 : (BZ es).getLast? = some (y.t, (AI es).length) := by rw [hy, DR]
    have hxp := List.length_pos_iff.2 h.x0
    have hload : ∀ dk p, AA Tryz.prog 36 #[.pointer (some ⟨p, 0, none⟩)] [Ao p dk lim (((M ++ [(f, es)]).map (·.1)).map fun f => (f, [])), Ab dk d, Aj tb] (fun _ : Unit => .tuple #[]) (fun _ => [Ao p dk lim (Ag (M ++ [(f, es)])), Ab dk d, Aj tb]) := fun dk p => by
      have h1 := Mn (p := p) (dk := dk) (lim := lim) (N := M.length) (K := M.length + 1) tb (h.fit (by omega)) hfs (by omega) (.inr ⟨rfl, rfl, by omega⟩) hL hbl hok hwh (fun g hg => .inr fun b hb => by
        rw [hlast hg] at hb ⊢
        rw [h.rd1] at hb
        rw [hmk (f, es) hmf]
        refine ⟨_, hm1, ?_⟩
        rw [← hb]
        show (AI es).length < (AI es ++ x).length
        rw [List.length_append]; omega)
      rw [hst] at h1
      exact h1
    have hlen : es.length ≤ 1000 ∧ (AI es).length ≤ 155000 := h.len hmf
    refine ⟨_, M ++ [(f, es)], hd2, rfl, fun dk => PF hl1 hl2 h.down hnow h.names tb hfs (by omega) (hload dk) (ss2 := Ag (M ++ [(f, es)])) (fun p => ?_)⟩
    have h1 := Q0 (p := p) (dk := dk) (lim := lim) (r := M.length) (ss := Ag (M ++ [(f, es)])) (D := fun _ => d) tb (by omega) (fun i g l hi hg => by
      have hil := (List.getElem?_eq_some_iff.1 hg).1
      omega) hsf (hfs _ (List.mem_map.2 ⟨_, hmf, rfl⟩)) (EH h0) (by rw [Cv]; omega) (by rw [← List.getLast?_eq_getElem?]; exact hm1) (h.fit (by omega)) rfl rfl (by rw [h.rd1]; show (AI es ++ x).length ≤ _; rw [List.length_append]; have := h.xl; omega) (by rw [h.rd1]; show (AI es).length < (AI es ++ x).length; rw [List.length_append]; omega) hd1
    rw [List.take_of_length_le (by omega)] at h1
    exact h1
end
end Go.Proofs.YtjcfimmcogkopaaGreatDoor.Sep
namespace Go.Proofs.YtjcfimmcogkopaaGreatDoor.Sep
variable {L : List EntD} {M M0 : LogMs} {d : DiskD} {e : EntD} {lim : Nat}
open Go.RowKit
def Ca (lim : Nat) (M : LogMs) (L : List EntD) : LogMs := L.foldl (FV lim) M
theorem Nn {k : Nat} (h : L[k]? = some e) : Ca lim M (L.take (k + 1)) = FV lim (Ca lim M (L.take k)) e := by
  unfold Ca
  rw [List.take_add_one, h, List.foldl_append]
  rfl
inductive OpAt (lim : Nat) (M : LogMs) (e : EntD) (o : OpD) : Prop
  | new (h : FV lim M e = M ++ [(e.i.toNat, [e])]) (ho : o = .app (nameL e.i.toNat) (EV e))
  | old (M1 : LogMs) (q : Nat × List EntD) (hM : M = M1 ++ [q]) (h : FV lim M e = M1 ++ [(q.1, q.2 ++ [e])]) (ho : o = .app (nameL q.1) (EV e))
theorem LogD.stepP {w : Nat} (h : LogD d M w) (hw : w ≤ 9999) (hr : Be e = true) (hf : EW (Ar (AB M)) e) (hm : (AB M).length < 60) : ∃ o, OpAt lim M e o ∧ LogD (B3 d o) (FV lim M e) (w + 1) ∧ Kw lim (Ag M, d) e = (Ag (FV lim M e), B3 d o) := by
  have hfl := GE hr
  have hle := Dq hr
  have hbl := C8 h.g.c.right
  have hfew := h.g.few
  have happ : ∀ n, BU d (nameL n) (EV e) = (B3 d (.app (nameL n) (EV e)), 0) := fun n => h.appends (N7 _) (by omega) (by omega)
  obtain ⟨_, d', hA, hD⟩ := h.add (lim := lim) hw hr hf hm
  rcases BP M with rfl | ⟨M0, q, rfl⟩
  · have h1 : Kw lim (Ag [], d) e = I3 (Ag [], d) e := rfl
    have h2 : d' = B3 d (.app (nameL e.i.toNat) (EV e)) := by
      have h3 := congrArg Prod.snd hA
      rw [h1] at h3
      refine Eq.trans (show d' = _ from h3.symm) ?_
      show (BU d (nameL e.i.toNat) (EV e)).1 = _
      rw [happ]
    subst h2
    exact ⟨_, .new rfl rfl, hD, hA⟩
  · have hlast : (Ag (M0 ++ [q])).getLast? = some (q.1, BZ q.2) := by rw [Cl, List.getLast?_append]; rfl
    by_cases hb : lim < (AI q.2).length + (EV e).length
    · have h1 : Kw lim (Ag (M0 ++ [q]), d) e = I3 (Ag (M0 ++ [q]), d) e := by
        unfold Kw
        simp only [hlast]
        rw [GG, if_pos hb]
      have h2 : d' = B3 d (.app (nameL e.i.toNat) (EV e)) := by
        have h3 := congrArg Prod.snd hA
        rw [h1] at h3
        refine Eq.trans (show d' = _ from h3.symm) ?_
        show (BU d (nameL e.i.toNat) (EV e)).1 = _
        rw [happ]
      subst h2
      exact ⟨_, .new (by rw [EI, if_pos hb]) rfl, hD, hA⟩
    · have h2 : d' = B3 d (.app (nameL q.1) (EV e)) := by
        have h3 := congrArg Prod.snd hA
        unfold Kw at h3
        simp only [hlast] at h3
        rw [GG, if_neg hb] at h3
        refine Eq.trans (show d' = _ from h3.symm) ?_
        show (BU d (nameL q.1) (EV e)).1 = _
        rw [happ]
      subst h2
      exact ⟨_, .old M0 q rfl (by rw [EI, if_neg hb]) rfl, hD, hA⟩
structure PendOk (lim : Nat) (M0 : LogMs) (L : List EntD) (d : DiskD) : Prop where
  syn : d.syn = Bl M0
  wl : d.wait.length = L.length
  pre : ∀ k, k ≤ L.length → (d.wait.take k).foldl Bf d.syn = Bl (Ca lim M0 (L.take k))
  op : ∀ k e, L[k]? = some e → ∃ o, d.wait[k]? = some o ∧ OpAt lim (Ca lim M0 (L.take k)) e o
  g : ∀ k, k ≤ L.length → LogG (Ca lim M0 (L.take k))
theorem PendOk.start (h1 : d.syn = Bl M0) (h2 : d.wait = []) (hg : LogG M0) : PendOk lim M0 [] d := ⟨h1, by rw [h2]; rfl, fun k _ => by rw [h2, List.take_nil, List.take_nil]; exact h1, fun k e h => by simp at h, fun k _ => by rw [List.take_nil]; exact hg⟩
theorem PendOk.step {w : Nat} {o : OpD} (h : PendOk lim M0 L d) (ho : OpAt lim (Ca lim M0 L) e o) (hD : LogD (B3 d o) (FV lim (Ca lim M0 L) e) w) : PendOk lim M0 (L ++ [e]) (B3 d o) := by
  have hlast : Ca lim M0 (L ++ [e]) = FV lim (Ca lim M0 L) e := by unfold Ca; rw [List.foldl_append]; rfl
  have hw : (B3 d o).wait = d.wait ++ [o] := rfl
  have hwl := h.wl
  refine ⟨h.syn, by rw [hw, List.length_append, List.length_append, hwl]; rfl, fun k hk => ?_, fun k y hy => ?_, fun k hk => ?_⟩
  · rcases Nat.lt_or_ge L.length k with hlt | hle
    · rw [List.take_of_length_le (by rw [hw, List.length_append, hwl]; simp only [List.length_cons, List.length_nil]; omega), List.take_of_length_le (by rw [List.length_append]; simp only [List.length_cons, List.length_nil]; omega), hlast]
      exact hD.now
    · rw [hw, List.take_append_of_le_length (by omega), List.take_append_of_le_length hle]
      exact h.pre k hle
  · rcases Nat.lt_or_ge k L.length with hlt | hge
    · rw [List.getElem?_append_left hlt] at hy
      obtain ⟨o1, h1, h2⟩ := h.op k y hy
      exact ⟨o1, by rw [hw, List.getElem?_append_left (by omega)]; exact h1, by rw [List.take_append_of_le_length (by omega)]; exact h2⟩
    · rw [List.getElem?_append_right hge] at hy
      have hk0 : k - L.length = 0 := by
        have := (List.getElem?_eq_some_iff.1 hy).1
        simp only [List.length_cons, List.length_nil] at this
        omega
      rw [hk0] at hy
      simp only [List.getElem?_cons_zero, Option.some.injEq] at hy
      subst hy
      obtain rfl : k = L.length := by omega
      exact ⟨o, by rw [hw, List.getElem?_append_right (by omega), hwl, Nat.sub_self]; rfl, by rw [List.take_left]; exact ho⟩
  · rcases Nat.lt_or_ge L.length k with hlt | hle
    · rw [List.take_of_length_le (by rw [List.length_append]; simp only [List.length_cons, List.length_nil]; omega), hlast]
      exact hD.g
    · rw [List.take_append_of_le_length hle]
      exact h.g k hle
theorem PG (h : LogG M) : Az (Bl M) ≤ 155000 := by
 rw [I4]
 have h1 := C8 h.c.right
 have h2 := h.many
 omega
theorem PendOk.crash {w : Nat} (h : PendOk lim M0 L d) (hD : LogD d (Ca lim M0 L) w) (hL : ∀ e, e ∈ L → Be e = true) (keep torn : Int) : ∃ k, k ≤ L.length ∧ (LogD (Fy d keep torn) (Ca lim M0 (L.take k)) 0 ∨ ∃ M f es e x, CutD (Fy d keep torn) M f es e x 0 ∧ AB (M ++ [(f, es)]) = AB (Ca lim M0 (L.take k))) := by
  have hkl : CG d keep ≤ L.length := by rw [← h.wl]; exact OL d keep
  refine ⟨CG d keep, hkl, ?_⟩
  have hpre := h.pre _ hkl
  have hg := h.g _ hkl
  have hus := PG hg
  have hok : DZ d keep torn = Bl (Ca lim M0 (L.take (CG d keep))) → LogD (Fy d keep torn) (Ca lim M0 (L.take (CG d keep))) 0 := fun hl => ⟨rfl, rfl, hD.room, Nat.le_refl _, by show Az (DZ d keep torn) + 0 ≤ _; rw [hl]; omega, hl, hg⟩
  have hlt := Gz d keep torn
  rw [hpre] at hlt
  cases hw : d.wait[CG d keep]? with
  | none => rw [hw] at hlt; exact .inl (hok hlt)
  | some o =>
    rw [hw] at hlt
    simp only at hlt
    have hkk : CG d keep < L.length := by rw [← h.wl]; exact (List.getElem?_eq_some_iff.1 hw).1
    obtain ⟨e, he⟩ : ∃ e, L[CG d keep]? = some e := ⟨_, List.getElem?_eq_getElem hkk⟩
    obtain ⟨o1, ho1, hop⟩ := h.op _ e he
    obtain rfl : o = o1 := Option.some.inj (hw.symm.trans ho1)
    have hre := hL e (List.mem_of_getElem? he)
    have hfl := GE hre
    have hle := Dq hre
    have hg1 := h.g (CG d keep + 1) (by omega)
    rw [Nn he] at hg1
    have hcut : ∀ t, t ≠ 0 → t < (EV e).length → (EV e).take t ≠ [] ∧ ((EV e).take t).length ≤ 155 ∧ CH ((EV e).take t) = none := fun t h0 h1 => by
      refine ⟨fun h2 => ?_, by rw [List.length_take]; omega, UE (by omega) (by omega)⟩
      have := congrArg List.length h2
      rw [List.length_take] at this
      simp only [List.length_nil] at this
      omega
    have htn : ∀ n, o = .app n (EV e) → DZ d keep torn = Bl (Ca lim M0 (L.take (CG d keep))) ∨ ∃ t, t ≠ 0 ∧ t < (EV e).length ∧ DZ d keep torn = Bf (Bl (Ca lim M0 (L.take (CG d keep)))) (.app n ((EV e).take t)) := fun n hn => by
      subst hn
      unfold Ga at hlt
      simp only at hlt
      by_cases hc : (torn % ((EV e).length : Int)).toNat = 0 ∨ EV e = []
      · rw [if_pos hc] at hlt; exact .inl hlt
      · rw [if_neg hc] at hlt
        have h1 := Int.emod_lt_of_pos torn (show (0 : Int) < ((EV e).length : Int) by omega)
        exact .inr ⟨_, fun h0 => hc (.inl h0), by omega, hlt⟩
    cases hop with
    | new ha ho =>
      rcases htn _ ho with h1 | ⟨t, ht0, htl, h1⟩
      · exact .inl (hok h1)
      · obtain ⟨c1, c2, c3⟩ := hcut t ht0 htl
        rw [ha] at hg1
        have h0 := Pv hg1
        have hnow : DZ d keep torn = Bl (Ca lim M0 (L.take (CG d keep))) ++ [(nameL e.i.toNat, AI [] ++ (EV e).take t)] := by
          rw [h1]
          show Bd _ _ ((AW _ _).getD [] ++ _) = _
          rw [Eb h0, h0]
          rfl
        refine .inr ⟨_, e.i.toNat, [], e, (EV e).take t, ⟨rfl, rfl, hD.room, Nat.le_refl _, ?_, hnow, hg1, c1, by omega, c3⟩, by rw [Bi]; simp [AB]⟩
        show Az (DZ d keep torn) + 0 ≤ _
        rw [hnow]
        unfold Az at hus ⊢
        rw [List.map_append, List.sum_append]
        simp only [List.map_cons, List.map_nil, List.sum_cons, List.sum_nil]
        have : (AI [] ++ (EV e).take t).length ≤ 155 := c2
        omega
    | old M1 q hM ha ho =>
      rcases htn _ ho with h1 | ⟨t, ht0, htl, h1⟩
      · exact .inl (hok h1)
      · obtain ⟨c1, c2, c3⟩ := hcut t ht0 htl
        rw [ha] at hg1
        rw [hM] at hg h1 hus
        have h2 := Gd hg (q := q) (List.mem_append_right _ (List.mem_singleton.2 rfl))
        have h3 := Du hg
        have hnow : DZ d keep torn = Bl M1 ++ [(nameL q.1, AI q.2 ++ (EV e).take t)] := by
          rw [h1]
          show Bd _ _ ((AW _ _).getD [] ++ _) = _
          rw [h2]
          rw [BY] at h3 ⊢
          exact JM h3
        refine .inr ⟨M1, q.1, q.2, e, (EV e).take t, ⟨rfl, rfl, hD.room, Nat.le_refl _, ?_, hnow, hg1, c1, by omega, c3⟩, by rw [hM]⟩
        show Az (DZ d keep torn) + 0 ≤ _
        rw [hnow]
        rw [BY] at hus
        unfold Az at hus ⊢
        rw [List.map_append, List.sum_append] at hus ⊢
        simp only [Bl, List.map_cons, List.map_nil, List.sum_cons, List.sum_nil, List.length_append] at hus ⊢
        omega
end Go.Proofs.YtjcfimmcogkopaaGreatDoor.Sep
