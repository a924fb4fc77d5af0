/-
  SgL
-/
import Derived.Test.YtjcfimmcogkopaaGreatDoorWL01
set_option linter.unusedSimpArgs false
set_option linter.unusedVariables false
namespace Go.Proofs.YtjcfimmcogkopaaGreatDoor.Sep
open Go.RowKit
open Go.Proofs.YtjcfimmcogkopaaGreatDoor.Mem (Bb Ci Chg Aw)
def Ca (d : DiskD) (f : Nat) : List (EntD × Nat) := H5 ((Cn d (nameL f)).getD [])
def Bz (d : DiskD) (fs : List Nat) : List EntD := fs.flatMap fun f => (Ca d f).map (·.1)
theorem GZ {d : DiskD} {fs : List Nat} {j f : Nat} (h : fs[j]? = some f) : Bz d (fs.take (j + 1)) = Bz d (fs.take j) ++ (Ca d f).map (·.1) := by
  unfold Bz
  rw [List.take_add_one, h, List.flatMap_append]
  simp
theorem Ph (d : DiskD) (fs : List Nat) (j : Nat) : (Bz d (fs.take j)).length ≤ (Bz d fs).length := by
 have h : Bz d fs = Bz d (fs.take j) ++ Bz d (fs.drop j) := by
  unfold Bz
  rw [← List.flatMap_append, List.take_append_drop]
 rw [h, List.length_append]; omega
def F9 (g : Nat) (L : List EntD) : Ass := fun rs => ∃ x : EsV, Am [cell g 39 #[x.v], Cm 53 x.v x.l, fact (x.l.map (·.e) = L)] rs
theorem F9.open_ {g : Nat} {L : List EntD} : ∀ rs, F9 g L rs → ∃ x : EsV, Am [cell g 39 #[x.v], Cm 53 x.v x.l, fact (x.l.map (·.e) = L)] rs := fun _ h => h
theorem V7 {g : Nat} {L : List EntD} {v : Value} {l : List EntV} (h : l.map (·.e) = L) : ∀ rs, Am [cell g 39 #[v], Cm 53 v l] rs → F9 g L rs := fun _ hz => ⟨⟨v, l⟩, D1 h hz⟩
theorem UJ {g : Nat} : ∀ rs, Am [cell g 39 #[.slice none 0 0]] rs → F9 g [] rs := fun rs hz => ⟨⟨.slice none 0 0, []⟩, D1 (xs := [cell g 39 #[.slice none 0 0], Cm 53 (.slice none 0 0) []]) rfl (by
 obtain ⟨a, b, e, h1, h2⟩ := hz
 unfold Am at h2
 subst h2
 exact ⟨a, [], e, h1, [], [], rfl, MW, rfl⟩)⟩
theorem X1 (k : Fn) (caps : Array Value) (g : Nat) (T : Nat → Ass) {A0 : Option Addr} {c0 : Nat} {y : List UInt8} {es : List (EntD × Nat)} {N : Nat} (hl : y.length ≤ 137438953472) (hes : H5 y = es) (hN : es.length = N)
    (hyy : ∀ (j : Nat) (A : Option Addr) (c : Nat) (e : EntD) (n : Nat), es[j]? = some (e, n) → Dn Tryz.prog (.func k #[] caps) [.agg #[.int .i64 e.k, .int .u64 e.t, .int .u64 e.i, .slice A e.d.length c, .int .i64 e.c], .int .i64 (n : Int)] [T j, Aj 5 1 encB (.slice A e.d.length c) e.d] (fun _ : Unit => .bool true) (fun _ : Unit => [T (j + 1)])) :
    AV Tryz.prog 118 #[.func k #[] caps, .pointer (some ⟨g, 0, none⟩)] [T 0, Aj 5 1 encB (.slice A0 y.length c0) y, cell g 49 #[.slice A0 y.length c0]] (fun (_ : Unit) => .tuple #[]) (fun (_ : Unit) => [T N, Aj 5 1 encB (.slice A0 y.length c0) y, cell g 49 #[.slice A0 y.length c0]]) := by
  have hle := Iu (Db y).1 0
  change (H5 y).length ≤ _ at hle
  rw [hes, hN] at hle
  rcases Nat.lt_or_eq_of_le hle with h | h
  · exact Xo k caps g T hl rfl hes hN h hyy
  · exact Xn k caps g T hl rfl hes hN h.symm hyy
theorem UK (k : Fn) (caps : Array Value) (g : Nat) (T : Nat → Ass) (T0 Tn : Ass) {A0 : Option Addr} {c0 : Nat} {y : List UInt8} {es : List (EntD × Nat)} {N : Nat} (h0 : T 0 = T0) (hn : T N = Tn) (hl : y.length ≤ 137438953472) (hes : H5 y = es) (hN : es.length = N)
  (hyy : ∀ (j : Nat) (A : Option Addr) (c : Nat) (e : EntD) (n : Nat), es[j]? = some (e, n) → Dn Tryz.prog (.func k #[] caps) [.agg #[.int .i64 e.k, .int .u64 e.t, .int .u64 e.i, .slice A e.d.length c, .int .i64 e.c], .int .i64 (n : Int)] [T j, Aj 5 1 encB (.slice A e.d.length c) e.d] (fun _ : Unit => .bool true) (fun _ : Unit => [T (j + 1)])) :
  AV Tryz.prog 118 #[.func k #[] caps, .pointer (some ⟨g, 0, none⟩)] [T0, Aj 5 1 encB (.slice A0 y.length c0) y, cell g 49 #[.slice A0 y.length c0]] (fun (_ : Unit) => .tuple #[]) (fun (_ : Unit) => [Tn, Aj 5 1 encB (.slice A0 y.length c0) y, cell g 49 #[.slice A0 y.length c0]]) := by
 subst h0; subst hn
 exact X1 k caps g T hl hes hN hyy
theorem Xq {d : DiskD} {fs : List Nat} {j f i : Nat} (hf : fs[j]? = some f) (hi : i < (Ca d f).length) (hL : (Bz d fs).length ≤ 1000000) : (Bz d (fs.take j) ++ ((Ca d f).take i).map (·.1)).length < 1000000 := by
  have h1 := Ph d fs (j + 1)
  rw [GZ hf] at h1
  simp only [List.length_append, List.length_map, List.length_take] at h1 ⊢
  omega
theorem UL {l : List EntV} {d : DiskD} {f i n : Nat} {M : List EntD} {e : EntD} {A : Option Addr} {c : Nat} (h : l.map (·.e) = M ++ ((Ca d f).take i).map (·.1)) (hi : (Ca d f)[i]? = some (e, n)) : (l ++ [(⟨e, A, c⟩ : EntV)]).map (·.e) = M ++ ((Ca d f).take (i + 1)).map (·.1) := by
  rw [List.map_append, h, List.append_assoc, List.take_add_one, hi]
  simp
theorem Iv {l : List Ass} : ∀ rs, Fk l rs → ∃ _ : Unit, Am l rs := fun _ h => ⟨(), h⟩
theorem Jd {l : List Ass} : ∀ rs, Am l rs → Fk l rs := fun _ h => h
set_option maxRecDepth 100000 in
theorem SY {p dk lim : Nat} {ss : SegsM} {d : DiskD} {fs : List Nat} {N : Nat} (tb : Tb) (hd : d.fit) (hs0 : ss.map (·.1) = fs) (hfs : ∀ f, f ∈ fs → f ≤ 72057594037927935) (hfl : fs.length ≤ 1000000) (hN : fs.length = N) (hL : (Bz d fs).length ≤ 1000000) (hbl : ∀ f b, f ∈ fs → (Cn d (nameL f)).getD [] = b → b.length ≤ 137438953472) : AV Tryz.prog 23 #[.pointer (some ⟨p, 0, none⟩)] [Ay p dk lim ss, Ag dk d, Ao tb] (fun (x : EsV) => x.v) (fun (x : EsV) => [Cm 53 x.v x.l, Ay p dk lim ss, Ag dk d, Ao tb, fact (x.l.map (·.e) = Bz d fs)]) := by
  refine Ks (args := [.pointer (some ⟨p, 0, none⟩)]) 20 Tryz.func23 rfl rfl rfl ?_; intro w rs
  refine AX 0 rfl Ay.open_ (fun _ => rfl) ?_; rintro ⟨sv, svs⟩
  refine AL.fact 3 rfl (fun _ h => h.2) ?_; rintro hm0
  have hf0 : svs.map SegV.f = fs := by rw [← hs0, ← hm0, List.map_map]; rfl
  refine Ad (Af Ae rfl (Ab (Ad (Af Ae rfl (Al (post := fun gl => [cell gl 39 #[.slice none 0 0], cell p 76 #[.pointer (some ⟨dk, 0, none⟩), .int .i64 (lim : Int), sv], Aj 83 2 encSg sv svs, Bc svs, fact (svs.map SegV.m = ss), Ag dk d, Ao tb]) rfl (Cl LL rfl) ?_))))); rintro gl
  refine Ab (Ar (Bj [0] rfl (UJ : ∀ rs, _ → F9 gl (Bz d (fs.take 0)) rs) rfl (Bj [0, 3, 4] rfl Jd rfl (Bj [1, 2, 3, 4, 0] rfl (F8 (R := (fun svs => Fk [F9 gl (Bz d (fs.take 0)), Bc svs, fact (svs.map SegV.m = ss)])) hf0) rfl (AL.keep (env' := [(0, .pointer (some ⟨p, 0, none⟩)), (2, .slice none 0 0), (3, .pointer (some ⟨gl, 0, none⟩))]) ⟨rfl, rfl, rfl, trivial⟩ (AL.mid [EO p dk lim sv d tb fs (fun svs => Fk [F9 gl (Bz d (fs.take 0)), Bc svs, fact (svs.map SegV.m = ss)])] (.refl _) (Ad (Af Ae rfl (Al rfl (As (os' := fun gf => [cell gf 29 #[.pointer (some ⟨p, 0, none⟩)], EO p dk lim sv d tb fs (fun svs => Fk [F9 gl (Bz d (fs.take 0)), Bc svs, fact (svs.map SegV.m = ss)])]) [] 0 (Ai Tryz.func71 (by kernel_rfl) rfl) (Mi) rfl rfl rfl (fun _ => rfl) rfl rfl rfl) ?_))))))))); rintro gf
  refine Ab (AK (AL.keep (env' := [(0, .pointer (some ⟨p, 0, none⟩)), (2, .slice none 0 0), (3, .pointer (some ⟨gl, 0, none⟩)), (7, .pointer (some ⟨p, 0, none⟩)), (8, .func (.func 117) #[] #[.pointer (some ⟨gf, 0, none⟩)])]) ⟨rfl, rfl, rfl, rfl, rfl, trivial⟩ (AL.mid [cell gf 29 #[.pointer (some ⟨p, 0, none⟩)], EO p dk lim sv d tb fs (fun svs => Fk [F9 gl (Bz d (fs.take 0)), Bc svs, fact (svs.map SegV.m = ss)])] (.refl _) ?_)))
  refine FF (caps := [.pointer (some ⟨gf, 0, none⟩)]) (post := [EO p dk lim sv d tb fs (fun svs => Fk [F9 gl (Bz d (fs.take N)), Bc svs, fact (svs.map SegV.m = ss)]), cell gf 29 #[.pointer (some ⟨p, 0, none⟩)]]) (os' := [EO p dk lim sv d tb fs (fun svs => Fk [F9 gl (Bz d (fs.take N)), Bc svs, fact (svs.map SegV.m = ss)]), cell gf 29 #[.pointer (some ⟨p, 0, none⟩)]]) (.normal) [1, 0] rfl (Ai Tryz.func117 (by kernel_rfl) rfl) (fun L1 fn1 tm1 hf1 r1 k11 k12 k13 k14 k15 k16 => WH (UI (.yield L1) #[] gf p dk lim sv tb (fun j svs => Ed L1 r1 (Fk [F9 gl (Bz d (fs.take j)), Bc svs, fact (svs.map SegV.m = ss)])) hd hfs hfl hN ?_)) rfl rfl rfl ?_
  intro j f bv b hf hb_
  refine WI (CZ (n := 20) (env := [(10, bv), (9, AN sv (j * 2)), (0, .pointer (some ⟨p, 0, none⟩)), (2, .slice none 0 0), (3, .pointer (some ⟨gl, 0, none⟩)), (7, .pointer (some ⟨p, 0, none⟩)), (8, .func (.func 117) #[] #[.pointer (some ⟨gf, 0, none⟩)])]) (.normal) k12 k11 (by rw [k14]; rfl) ?_ ?_)
  · rw [k14, k13]
    refine (congrArg (fun t => Fr 20 { tmps := t, defers := [] } _) (?_ : _ = ((tm1.setIfInBounds 9 (AN sv (j * 2))).setIfInBounds 10 bv))).mpr ((hf1.put (d := 9) (by decide) _).put (d := 10) (by decide) _)
    simp
  · intro w0 rs
    rw [k15]
    refine Dz (by kernel_rfl) (by rintro ⟨a, w, h⟩; first | exact h.elim | exact nomatch h.1 | (obtain ⟨_, h, _⟩ := h; exact nomatch h)) (Af Ae rfl (AG (E9 0 rfl k11 ?_)))
    rw [k16]
    refine Ec.fact 2 rfl (fun _ h => Aj.is h) ?_; rintro ⟨A0, c0, rfl⟩
    refine Ec.keep (env' := [(10, .slice A0 b.length c0), (9, AN sv (j * 2)), (0, .pointer (some ⟨p, 0, none⟩)), (2, .slice none 0 0), (3, .pointer (some ⟨gl, 0, none⟩)), (7, .pointer (some ⟨p, 0, none⟩)), (8, .func (.func 117) #[] #[.pointer (some ⟨gf, 0, none⟩)]), (5, .slice A0 b.length c0)]) ⟨rfl, rfl, rfl, rfl, rfl, rfl, rfl, rfl, trivial⟩ (Ec.mid [BL L1 (B7 r1), EO p dk lim sv d tb fs (fun svs => Fk [F9 gl (Bz d (fs.take j)), Bc svs, fact (svs.map SegV.m = ss)]), Aj 5 1 encB (.slice A0 b.length c0) b] (.refl _) (Er 1 rfl EO.open_ (fun _ => rfl) ?_)); rintro svs
    refine Ec.fact 5 rfl (fun _ h => h.2) ?_; rintro hfc
    refine Ec.leave [5] rfl rfl (Er 4 rfl Iv (fun _ => rfl) ?_); rintro ⟨⟩
    refine Eo (DO (Dz (by kernel_rfl) (by rintro ⟨a, w, h⟩; first | exact h.elim | exact nomatch h.1 | (obtain ⟨_, h, _⟩ := h; exact nomatch h)) (Af Ae rfl (Al rfl (As (os' := fun ge => [cell ge 49 #[.slice A0 b.length c0], F9 gl (Bz d (fs.take j)), Bc svs, fact (svs.map SegV.m = ss), cell p 76 #[.pointer (some ⟨dk, 0, none⟩), .int .i64 (lim : Int), sv], Aj 83 2 encSg sv svs, Ag dk d, Ao tb, BL L1 (B7 r1), Aj 5 1 encB (.slice A0 b.length c0) b]) [] 0 (Ai Tryz.func72 (by kernel_rfl) rfl) (JP) rfl rfl rfl (fun _ => rfl) rfl rfl rfl) ?_)))); rintro ge
    refine AG (FA (Eo (Ec.keep (env' := [(10, .slice A0 b.length c0), (9, AN sv (j * 2)), (0, .pointer (some ⟨p, 0, none⟩)), (2, .slice none 0 0), (3, .pointer (some ⟨gl, 0, none⟩)), (7, .pointer (some ⟨p, 0, none⟩)), (8, .func (.func 117) #[] #[.pointer (some ⟨gf, 0, none⟩)]), (5, .slice A0 b.length c0), (11, .slice A0 b.length c0), (12, .func (.func 118) #[] #[.pointer (some ⟨ge, 0, none⟩)])]) ⟨rfl, rfl, rfl, rfl, rfl, rfl, rfl, rfl, rfl, rfl, trivial⟩ (Ec.mid [cell ge 49 #[.slice A0 b.length c0], F9 gl (Bz d (fs.take j)), Bc svs, fact (svs.map SegV.m = ss), cell p 76 #[.pointer (some ⟨dk, 0, none⟩), .int .i64 (lim : Int), sv], Aj 83 2 encSg sv svs, Ag dk d, Ao tb, BL L1 (B7 r1), Aj 5 1 encB (.slice A0 b.length c0) b] (.refl _) ?_))))
    refine Pa (caps := [.pointer (some ⟨ge, 0, none⟩)]) (post := [F9 gl (Bz d (fs.take (j + 1))), Aj 5 1 encB (.slice A0 b.length c0) b, cell ge 49 #[.slice A0 b.length c0]]) (os' := [F9 gl (Bz d (fs.take (j + 1))), Aj 5 1 encB (.slice A0 b.length c0) b, cell ge 49 #[.slice A0 b.length c0], Bc svs, fact (svs.map SegV.m = ss), cell p 76 #[.pointer (some ⟨dk, 0, none⟩), .int .i64 (lim : Int), sv], Aj 83 2 encSg sv svs, Ag dk d, Ao tb, BL L1 (B7 r1)]) (.normal) 8 rfl [1, 9, 0] rfl (Ai Tryz.func118 (by kernel_rfl) rfl) (fun L2 fn2 tm2 hf2 r2 k21 k22 k23 k24 k25 k26 => M8 (UK (.yield L2) #[] ge (fun i => Ed L2 r2 (F9 gl (Bz d (fs.take j) ++ ((Ca d f).take i).map (·.1)))) _ _ (A0 := A0) (c0 := c0) (N := (Ca d f).length) (by rw [List.take_zero, List.map_nil, List.append_nil]) (by rw [List.take_length, ← GZ hf]; rfl) (hbl f b (List.mem_of_getElem? hf) hb_) (show H5 b = Ca d f by rw [← hb_]; rfl) rfl ?_)) rfl rfl rfl ?_
    intro i A c e n hei
    have hil : i < (Ca d f).length := (List.getElem?_eq_some_iff.1 hei).1
    have hacc := Xq hf hil hL
    refine KO (CZ (n := 20) (env := [(14, .int .i64 (n : Int)), (13, .agg #[.int .i64 e.k, .int .u64 e.t, .int .u64 e.i, .slice A e.d.length c, .int .i64 e.c]), (10, .slice A0 b.length c0), (9, AN sv (j * 2)), (0, .pointer (some ⟨p, 0, none⟩)), (2, .slice none 0 0), (3, .pointer (some ⟨gl, 0, none⟩)), (7, .pointer (some ⟨p, 0, none⟩)), (8, .func (.func 117) #[] #[.pointer (some ⟨gf, 0, none⟩)]), (5, .slice A0 b.length c0), (11, .slice A0 b.length c0), (12, .func (.func 118) #[] #[.pointer (some ⟨ge, 0, none⟩)])]) (.normal) k22 k21 (by rw [k24]; rfl) ?_ ?_)
    · rw [k24, k23]
      refine (congrArg (fun t => Fr 20 { tmps := t, defers := [] } _) (?_ : _ = ((tm2.setIfInBounds 13 (.agg #[.int .i64 e.k, .int .u64 e.t, .int .u64 e.i, .slice A e.d.length c, .int .i64 e.c])).setIfInBounds 14 (.int .i64 (n : Int))))).mpr ((hf2.put (d := 13) (by decide) _).put (d := 14) (by decide) _)
      simp
    · intro w0 rs
      rw [k25]
      refine Dz (by kernel_rfl) (by rintro ⟨a, w, h⟩; first | exact h.elim | exact nomatch h.1 | (obtain ⟨_, h, _⟩ := h; exact nomatch h)) (Af Ae rfl (Al (post := fun gx => [cell gx 53 #[.int .i64 0, .int .u64 0, .int .u64 0, .slice none 0 0, .int .i64 0], BL L2 r2, F9 gl (Bz d (fs.take j) ++ ((Ca d f).take i).map (·.1)), Aj 5 1 encB (.slice A e.d.length c) e.d]) rfl (Cl BQ rfl) ?_)); rintro gx
      refine AR (post := fun _ => [cell gx 53 #[.int .i64 e.k, .int .u64 e.t, .int .u64 e.i, .slice A e.d.length c, .int .i64 e.c], BL L2 r2, F9 gl (Bz d (fs.take j) ++ ((Ca d f).take i).map (·.1)), Aj 5 1 encB (.slice A e.d.length c) e.d]) rfl rfl (AZ 0 (v := .agg #[.int .i64 e.k, .int .u64 e.t, .int .u64 e.i, .slice A e.d.length c, .int .i64 e.c]) #[.int .i64 e.k, .int .u64 e.t, .int .u64 e.i, .slice A e.d.length c, .int .i64 e.c] B0.2 rfl rfl rfl rfl rfl rfl rfl rfl rfl) ?_; rintro ⟨⟩
      refine AG (E9 1 rfl k21 ?_)
      rw [k26]
      refine Er 2 rfl F9.open_ (fun _ => rfl) ?_; rintro ⟨v, l⟩
      refine Ec.fact 2 rfl (fun _ h => h.2) ?_; rintro hl1
      refine Ec.leave [2] rfl rfl ?_
      replace hl1 : l.map (·.e) = Bz d (fs.take j) ++ ((Ca d f).take i).map (·.1) := hl1
      have hl2 : l.length < 1000000 := by have := congrArg List.length hl1; rw [List.length_map] at this; omega
      refine Er 1 rfl C5 (fun _ => rfl) ?_; rintro ⟨⟩
      refine Eo (Dz (by kernel_rfl) (by rintro ⟨a, w, h⟩; first | exact h.elim | exact nomatch h.1 | (obtain ⟨_, h, _⟩ := h; exact nomatch h)) (Af Ae rfl (Aa rfl (v) (fun b w hb hH => Ba rfl rfl (Bl F0 rfl) (hH.row 2 rfl) hb) (Aa rfl (.agg #[.int .i64 e.k, .int .u64 e.t, .int .u64 e.i, .slice A e.d.length c, .int .i64 e.c]) (fun b w hb hH => Ba rfl rfl (Ft (cs := [.int .i64 e.k, .int .u64 e.t, .int .u64 e.i, .slice A e.d.length c, .int .i64 e.c]) B0 rfl) (hH.row 3 rfl) hb) ?_))))
      refine Al (X := Value) (val := fun v : Value => v) (post := fun u1 => [Aj 53 5 encV u1 ([(⟨e, A, c⟩ : EntV)]), Aj 53 5 encV v l, AY (fun x : EntV => Aj 5 1 encB x.v x.e.d) l, cell gl 39 #[v], cell gx 53 #[.int .i64 e.k, .int .u64 e.t, .int .u64 e.i, .slice A e.d.length c, .int .i64 e.c], BL L2 (B7 r2), Aj 5 1 encB (.slice A e.d.length c) e.d]) rfl (by refine Dm (e := 53) (t := 39) (k := 5) (enc := encV) (x := .tmp 16) (c := .agg #[.int .i64 e.k, .int .u64 e.t, .int .u64 e.i, .slice A e.d.length c, .int .i64 e.c]) ?_ ?_ ?_ (⟨e, A, c⟩ : EntV) ?_ ?_ ?_; exact AP; exact (by decide); exact Ea; exact rfl; exact rfl; exact rfl) ?_; rintro u1
      refine Al (post := fun ev2 => [Aj 53 5 encV u1 ([(⟨e, A, c⟩ : EntV)]), Aj 53 5 encV ev2 (l ++ [(⟨e, A, c⟩ : EntV)]), AY (fun x : EntV => Aj 5 1 encB x.v x.e.d) l, cell gl 39 #[v], cell gx 53 #[.int .i64 e.k, .int .u64 e.t, .int .u64 e.i, .slice A e.d.length c, .int .i64 e.c], BL L2 (B7 r2), Aj 5 1 encB (.slice A e.d.length c) e.d]) rfl (Df (nb := 56) 1 AP Ea (by kernel_rfl) (by decide) rfl ([(⟨e, A, c⟩ : EntV)]) (fun w hH => hH.vec 0 rfl Ea) (by simp only [List.length_cons, List.length_nil]; omega) rfl rfl rfl rfl) ?_; rintro ev2
      refine AR (post := fun _ => [Aj 53 5 encV u1 ([(⟨e, A, c⟩ : EntV)]), Aj 53 5 encV ev2 (l ++ [(⟨e, A, c⟩ : EntV)]), AY (fun x : EntV => Aj 5 1 encB x.v x.e.d) l, cell gl 39 #[ev2], cell gx 53 #[.int .i64 e.k, .int .u64 e.t, .int .u64 e.i, .slice A e.d.length c, .int .i64 e.c], BL L2 (B7 r2), Aj 5 1 encB (.slice A e.d.length c) e.d]) rfl rfl (Ez 3 1 (v := ev2) #[ev2] F0.2 rfl (fun _ h => Aj.c1 h) rfl rfl rfl rfl rfl rfl rfl) ?_; rintro ⟨⟩
      refine AG (A6 (CU [1, 2, 6] rfl (Gt (x := (⟨e, A, c⟩ : EntV))) rfl (CU [2, 0] rfl (V7 (UL hl1 hei)) rfl ?_)))
      exact Fm [3, 0] rfl rfl
    refine A6 (A6 (CU [0, 3, 4] rfl Jd rfl (CU [3, 4, 5, 6, 0] rfl (F8 (R := (fun svs => Fk [F9 gl (Bz d (fs.take (j + 1))), Bc svs, fact (svs.map SegV.m = ss)])) hfc) rfl ?_)))
    exact Fm [3, 0] rfl rfl
  intro D aT wT hDm hD0 hdf hF hH
  obtain ⟨svs, hH⟩ := FB 0 rfl EO.open_ hH
  obtain ⟨_, hH⟩ := FB 4 rfl Iv hH
  have hm3 := Fc (p := svs.map SegV.m = ss) 2 rfl (fun _ h => h.2) hH
  obtain ⟨⟨v, l⟩, hH⟩ := FB 0 rfl F9.open_ hH
  have hl3 := Fc (p := l.map (·.e) = Bz d (fs.take N)) 2 rfl (fun _ h => h.2) hH
  rw [← hN, List.take_length] at hl3
  replace hH := Pg (os := [cell gl 39 #[v], Cm 53 v l, fact (l.map (·.e) = Bz d (fs.take N)), Bc svs, fact (svs.map SegV.m = ss), cell p 76 #[.pointer (some ⟨dk, 0, none⟩), .int .i64 (lim : Int), sv], Aj 83 2 encSg sv svs, Ag dk d, Ao tb, fact (svs.map SegV.f = fs), cell gf 29 #[.pointer (some ⟨p, 0, none⟩)]]) (t := Ay p dk lim ss) [5, 6, 3] rfl (CV hm3) hH
  refine XU (env := [(2, .slice none 0 0), (3, .pointer (some ⟨gl, 0, none⟩))]) (os := [Ay p dk lim ss, cell gl 39 #[v], Cm 53 v l, fact (l.map (·.e) = Bz d (fs.take N)), fact (svs.map SegV.m = ss), Ag dk d, Ao tb, fact (svs.map SegV.f = fs), cell gf 29 #[.pointer (some ⟨p, 0, none⟩)]]) ?_ aT wT hDm hD0 hdf (hF.keep ⟨rfl, rfl, trivial⟩) hH
  refine WG rfl (v) (fun b w hb hH => Ba rfl rfl (Bl F0 rfl) (hH.row 1 rfl) hb) (WG rfl (v) (fun b w hb hH => Ah Ae rfl hb) ?_)
  exact Xl (XV (fun a w hD hD0 hd hF hH => Xk (os := [Ay p dk lim ss, cell gl 39 #[v], Cm 53 v l, fact (l.map (·.e) = Bz d (fs.take N)), fact (svs.map SegV.m = ss), Ag dk d, Ao tb, fact (svs.map SegV.f = fs), cell gf 29 #[.pointer (some ⟨p, 0, none⟩)]]) (.tmp rfl) rfl (fun w' h => AH (X := EsV) ⟨v, l⟩ rfl [2, 0, 5, 6] rfl h (fun z hz => ⟨z, .refl _, D1 (xs := [Cm 53 v l, Ay p dk lim ss, Ag dk d, Ao tb]) hl3 hz⟩)) D a w hD hD0 hd hF hH))
end Go.Proofs.YtjcfimmcogkopaaGreatDoor.Sep
