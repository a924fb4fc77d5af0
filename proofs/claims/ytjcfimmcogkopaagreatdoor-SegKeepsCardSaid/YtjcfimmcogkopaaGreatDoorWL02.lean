/-
  SgL
-/
import Derived.Test.YtjcfimmcogkopaaGreatDoorWX01
import Derived.Test.YtjcfimmcogkopaaGreatDoorWL01
set_option linter.unusedSimpArgs false
set_option linter.unusedVariables false
set_option maxHeartbeats 4000000
namespace Go.Proofs.YtjcfimmcogkopaaGreatDoor.Sep
variable {A0 : Option Addr} {L : List EntD} {N c0 f g : Nat} {d : DiskD} {es : List (EntD × Nat)} {fs : List Nat} {l : List EntV} {y : List UInt8}
open Go.RowKit
open Go.Proofs.YtjcfimmcogkopaaGreatDoor.Mem (AG BC Chg Ak)
def BB (d : DiskD) (f : Nat) : List (EntD × Nat) := HF ((BH d (nameL f)).getD [])
def Ba (d : DiskD) (fs : List Nat) : List EntD := fs.flatMap fun f => (BB d f).map (·.1)
theorem GB {j : Nat} (h : fs[j]? = some f) : Ba d (fs.take (j + 1)) = Ba d (fs.take j) ++ (BB d f).map (·.1) := by
  unfold Ba
  rw [List.take_add_one, h, List.flatMap_append]
  simp
theorem Pl (d : DiskD) (fs : List Nat) (j : Nat) : (Ba d (fs.take j)).length ≤ (Ba d fs).length := by
 have h : Ba d fs = Ba d (fs.take j) ++ Ba d (fs.drop j) := by
  unfold Ba
  rw [← List.flatMap_append, List.take_append_drop]
 rw [h, List.length_append]; omega
def GC (g : Nat) (L : List EntD) : Ass := fun rs => ∃ x : EsV, Ae [cell g 39 #[x.v], B9 53 x.v x.l, fact (x.l.map (·.e) = L)] rs
theorem GC.open_ : ∀ rs, GC g L rs → ∃ x : EsV, Ae [cell g 39 #[x.v], B9 53 x.v x.l, fact (x.l.map (·.e) = L)] rs := fun _ h => h
theorem Wq {v : Value} (h : l.map (·.e) = L) : ∀ rs, Ae [cell g 39 #[v], B9 53 v l] rs → GC g L rs := fun _ hz => ⟨⟨v, l⟩, Ds h hz⟩
theorem UW : ∀ rs, Ae [cell g 39 #[.slice none 0 0]] rs → GC g [] rs := fun rs hz => ⟨⟨.slice none 0 0, []⟩, Ds (xs := [cell g 39 #[.slice none 0 0], B9 53 (.slice none 0 0) []]) rfl (by
 obtain ⟨a, b, e, h1, h2⟩ := hz
 unfold Ae at h2
 subst h2
 exact ⟨a, [], e, h1, [], [], rfl, MY, rfl⟩)⟩
theorem Yw (k : Fn) (caps : Array Value) (g : Nat) (T : Nat → Ass) (hl : y.length ≤ 137438953472) (hes : HF y = es) (hN : es.length = N)
    (hyy : ∀ (j : Nat) (A : Option Addr) (c : Nat) (e : EntD) (n : Nat), es[j]? = some (e, n) → CB Tryz.prog (.func k #[] caps) [.agg #[.int .i64 e.k, .int .u64 e.t, .int .u64 e.i, .slice A e.d.length c, .int .i64 e.c], .int .i64 (n : Int)] [T j, Af 5 1 encB (.slice A e.d.length c) e.d] (fun _ : Unit => .bool true) (fun _ : Unit => [T (j + 1)])) :
    AA Tryz.prog 118 #[.func k #[] caps, .pointer (some ⟨g, 0, none⟩)] [T 0, Af 5 1 encB (.slice A0 y.length c0) y, cell g 49 #[.slice A0 y.length c0]] (fun (_ : Unit) => .tuple #[]) (fun (_ : Unit) => [T N, Af 5 1 encB (.slice A0 y.length c0) y, cell g 49 #[.slice A0 y.length c0]]) := by
  have hle := If (Cs y).1 0
  change (HF y).length ≤ _ at hle
  rw [hes, hN] at hle
  rcases Nat.lt_or_eq_of_le hle with h | h
  · exact XR k caps g T hl rfl hes hN h hyy
  · exact XP k caps g T hl rfl hes hN h.symm hyy
theorem UX (k : Fn) (caps : Array Value) (g : Nat) (T : Nat → Ass) (T0 Tn : Ass) (h0 : T 0 = T0) (hn : T N = Tn) (hl : y.length ≤ 137438953472) (hes : HF y = es) (hN : es.length = N)
  (hyy : ∀ (j : Nat) (A : Option Addr) (c : Nat) (e : EntD) (n : Nat), es[j]? = some (e, n) → CB Tryz.prog (.func k #[] caps) [.agg #[.int .i64 e.k, .int .u64 e.t, .int .u64 e.i, .slice A e.d.length c, .int .i64 e.c], .int .i64 (n : Int)] [T j, Af 5 1 encB (.slice A e.d.length c) e.d] (fun _ : Unit => .bool true) (fun _ : Unit => [T (j + 1)])) :
  AA Tryz.prog 118 #[.func k #[] caps, .pointer (some ⟨g, 0, none⟩)] [T0, Af 5 1 encB (.slice A0 y.length c0) y, cell g 49 #[.slice A0 y.length c0]] (fun (_ : Unit) => .tuple #[]) (fun (_ : Unit) => [Tn, Af 5 1 encB (.slice A0 y.length c0) y, cell g 49 #[.slice A0 y.length c0]]) := by
 subst h0; subst hn
 exact Yw k caps g T hl hes hN hyy
theorem XT {j i : Nat} (hf : fs[j]? = some f) (hi : i < (BB d f).length) (hL : (Ba d fs).length ≤ 1000000) : (Ba d (fs.take j) ++ ((BB d f).take i).map (·.1)).length < 1000000 := by
  have h1 := Pl d fs (j + 1)
  rw [GB hf] at h1
  simp only [List.length_append, List.length_map, List.length_take] at h1 ⊢
  omega
theorem UY {i n : Nat} {M : List EntD} {e : EntD} {A : Option Addr} {c : Nat} (h : l.map (·.e) = M ++ ((BB d f).take i).map (·.1)) (hi : (BB d f)[i]? = some (e, n)) : (l ++ [(⟨e, A, c⟩ : EntV)]).map (·.e) = M ++ ((BB d f).take (i + 1)).map (·.1) := by
  rw [List.map_append, h, List.append_assoc, List.take_add_one, hi]
  simp
theorem Ig {l : List Ass} : ∀ rs, Fk l rs → ∃ _ : Unit, Ae l rs := fun _ h => ⟨(), h⟩
theorem I2 {l : List Ass} : ∀ rs, Ae l rs → Fk l rs := fun _ h => h
set_option maxRecDepth 100000 in
theorem S6 {p dk lim : Nat} {ss : SegsM} (tb : Tb) (hd : d.fit) (hs0 : ss.map (·.1) = fs) (hfs : ∀ f, f ∈ fs → f ≤ 72057594037927935) (hfl : fs.length ≤ 1000000) (hN : fs.length = N) (hL : (Ba d fs).length ≤ 1000000) (hbl : ∀ f b, f ∈ fs → (BH d (nameL f)).getD [] = b → b.length ≤ 137438953472) : AA Tryz.prog 23 #[.pointer (some ⟨p, 0, none⟩)] [Ao p dk lim ss, Ab dk d, Aj tb] (fun (x : EsV) => x.v) (fun (x : EsV) => [B9 53 x.v x.l, Ao p dk lim ss, Ab dk d, Aj tb, fact (x.l.map (·.e) = Ba d fs)]) := by
  refine Kr (args := [.pointer (some ⟨p, 0, none⟩)]) 20 Tryz.func23 rfl rfl rfl ?_; intro w rs
  refine oC 0 Ao.open_ ?_; rintro ⟨sv, svs⟩
  refine AH.fact 3 rfl (fun _ h => h.2) ?_; rintro hm0
  have hf0 : svs.map SegV.f = fs := by rw [← hs0, ← hm0, List.map_map]; rfl
  refine AK ?_
  refine Am Ac rfl (K5 ?_); rintro gl
  refine Aq ?_
  refine cC [0] (UW : ∀ rs, _ → GC gl (Ba d (fs.take 0)) rs) ?_
  refine cC [0, 3, 4] I2 ?_
  refine cC [1, 2, 3, 4, 0] (FI (R := (fun svs => Fk [GC gl (Ba d (fs.take 0)), AX svs, fact (svs.map SegV.m = ss)])) hf0) ?_
  refine kC [0, 2, 3] ?_
  refine AH.mid [EF p dk lim sv d tb fs (fun svs => Fk [GC gl (Ba d (fs.take 0)), AX svs, fact (svs.map SegV.m = ss)])] (.refl _) (Al (Am Ac rfl (GI [] (Ml) ?_))); rintro gf
  refine Aq ?_
  refine kC [0, 2, 3, 7, 8] ?_
  refine AH.mid [cell gf 29 #[.pointer (some ⟨p, 0, none⟩)], EF p dk lim sv d tb fs (fun svs => Fk [GC gl (Ba d (fs.take 0)), AX svs, fact (svs.map SegV.m = ss)])] (.refl _) ?_
  refine Fe (caps := [.pointer (some ⟨gf, 0, none⟩)]) (post := [EF p dk lim sv d tb fs (fun svs => Fk [GC gl (Ba d (fs.take N)), AX svs, fact (svs.map SegV.m = ss)]), cell gf 29 #[.pointer (some ⟨p, 0, none⟩)]]) (os' := [EF p dk lim sv d tb fs (fun svs => Fk [GC gl (Ba d (fs.take N)), AX svs, fact (svs.map SegV.m = ss)]), cell gf 29 #[.pointer (some ⟨p, 0, none⟩)]]) (.normal) [1, 0] rfl (Ah Tryz.func117 (by kernel_rfl) rfl) (fun L1 fn1 tm1 hf1 r1 k11 k12 k13 k14 k15 k16 => Xa (UV (.yield L1) #[] gf p dk lim sv tb (fun j svs => DD L1 r1 (Fk [GC gl (Ba d (fs.take j)), AX svs, fact (svs.map SegV.m = ss)])) hd hfs hfl hN ?_)) rfl rfl rfl ?_
  intro j f bv b hf hb_
  refine Xb (Cj (n := 20) (env := [(10, bv), (9, AN sv (j * 2)), (0, .pointer (some ⟨p, 0, none⟩)), (2, .slice none 0 0), (3, .pointer (some ⟨gl, 0, none⟩)), (7, .pointer (some ⟨p, 0, none⟩)), (8, .func (.func 117) #[] #[.pointer (some ⟨gf, 0, none⟩)])]) (.normal) k12 k11 (by rw [k14]; rfl) ?_ ?_)
  · rw [k14, k13]
    refine (congrArg (fun t => Fr 20 { tmps := t, defers := [] } _) (?_ : _ = ((tm1.setIfInBounds 9 (AN sv (j * 2))).setIfInBounds 10 bv))).mpr ((hf1.put (d := 9) (by decide) _).put (d := 10) (by decide) _)
    simp
  · intro w0 rs
    rw [k15]
    refine CS (by kernel_rfl) (by rintro ⟨a, w, h⟩; first | exact h.elim | exact nomatch h.1 | (obtain ⟨_, h, _⟩ := h; exact nomatch h)) (Ai ?_)
    refine EN 0 rfl k11 ?_
    rw [k16]
    refine DC.fact 2 rfl (fun _ h => Af.is h) ?_; rintro ⟨A0, c0, rfl⟩
    refine DC.keep (env' := [(10, .slice A0 b.length c0), (9, AN sv (j * 2)), (0, .pointer (some ⟨p, 0, none⟩)), (2, .slice none 0 0), (3, .pointer (some ⟨gl, 0, none⟩)), (7, .pointer (some ⟨p, 0, none⟩)), (8, .func (.func 117) #[] #[.pointer (some ⟨gf, 0, none⟩)]), (5, .slice A0 b.length c0)]) ⟨rfl, rfl, rfl, rfl, rfl, rfl, rfl, rfl, trivial⟩ (DC.mid [Bq L1 (BV r1), EF p dk lim sv d tb fs (fun svs => Fk [GC gl (Ba d (fs.take j)), AX svs, fact (svs.map SegV.m = ss)]), Af 5 1 encB (.slice A0 b.length c0) b] (.refl _) (DQ 1 rfl EF.open_ (fun _ => rfl) ?_)); rintro svs
    refine DC.fact 5 rfl (fun _ h => h.2) ?_; rintro hfc
    refine DC.leave [5] rfl rfl (DQ 4 rfl Ig (fun _ => rfl) ?_); rintro ⟨⟩
    refine DN (Dg (CS (by kernel_rfl) (by rintro ⟨a, w, h⟩; first | exact h.elim | exact nomatch h.1 | (obtain ⟨_, h, _⟩ := h; exact nomatch h)) (Am Ac rfl (GI [] (JG) ?_)))); rintro ge
    refine DU (E8 (DN (DC.keep (env' := [(10, .slice A0 b.length c0), (9, AN sv (j * 2)), (0, .pointer (some ⟨p, 0, none⟩)), (2, .slice none 0 0), (3, .pointer (some ⟨gl, 0, none⟩)), (7, .pointer (some ⟨p, 0, none⟩)), (8, .func (.func 117) #[] #[.pointer (some ⟨gf, 0, none⟩)]), (5, .slice A0 b.length c0), (11, .slice A0 b.length c0), (12, .func (.func 118) #[] #[.pointer (some ⟨ge, 0, none⟩)])]) ⟨rfl, rfl, rfl, rfl, rfl, rfl, rfl, rfl, rfl, rfl, trivial⟩ (DC.mid [cell ge 49 #[.slice A0 b.length c0], GC gl (Ba d (fs.take j)), AX svs, fact (svs.map SegV.m = ss), cell p 76 #[.pointer (some ⟨dk, 0, none⟩), .int .i64 (lim : Int), sv], Af 83 2 encSg sv svs, Ab dk d, Aj tb, Bq L1 (BV r1), Af 5 1 encB (.slice A0 b.length c0) b] (.refl _) ?_))))
    refine Pe (caps := [.pointer (some ⟨ge, 0, none⟩)]) (post := [GC gl (Ba d (fs.take (j + 1))), Af 5 1 encB (.slice A0 b.length c0) b, cell ge 49 #[.slice A0 b.length c0]]) (os' := [GC gl (Ba d (fs.take (j + 1))), Af 5 1 encB (.slice A0 b.length c0) b, cell ge 49 #[.slice A0 b.length c0], AX svs, fact (svs.map SegV.m = ss), cell p 76 #[.pointer (some ⟨dk, 0, none⟩), .int .i64 (lim : Int), sv], Af 83 2 encSg sv svs, Ab dk d, Aj tb, Bq L1 (BV r1)]) (.normal) 8 rfl [1, 9, 0] rfl (Ah Tryz.func118 (by kernel_rfl) rfl) (fun L2 fn2 tm2 hf2 r2 k21 k22 k23 k24 k25 k26 => Na (UX (.yield L2) #[] ge (fun i => DD L2 r2 (GC gl (Ba d (fs.take j) ++ ((BB d f).take i).map (·.1)))) _ _ (A0 := A0) (c0 := c0) (N := (BB d f).length) (by rw [List.take_zero, List.map_nil, List.append_nil]) (by rw [List.take_length, ← GB hf]; rfl) (hbl f b (List.mem_of_getElem? hf) hb_) (show HF b = BB d f by rw [← hb_]; rfl) rfl ?_)) rfl rfl rfl ?_
    intro i A c e n hei
    have hil : i < (BB d f).length := (List.getElem?_eq_some_iff.1 hei).1
    have hacc := XT hf hil hL
    refine KN (Cj (n := 20) (env := [(14, .int .i64 (n : Int)), (13, .agg #[.int .i64 e.k, .int .u64 e.t, .int .u64 e.i, .slice A e.d.length c, .int .i64 e.c]), (10, .slice A0 b.length c0), (9, AN sv (j * 2)), (0, .pointer (some ⟨p, 0, none⟩)), (2, .slice none 0 0), (3, .pointer (some ⟨gl, 0, none⟩)), (7, .pointer (some ⟨p, 0, none⟩)), (8, .func (.func 117) #[] #[.pointer (some ⟨gf, 0, none⟩)]), (5, .slice A0 b.length c0), (11, .slice A0 b.length c0), (12, .func (.func 118) #[] #[.pointer (some ⟨ge, 0, none⟩)])]) (.normal) k22 k21 (by rw [k24]; rfl) ?_ ?_)
    · rw [k24, k23]
      refine (congrArg (fun t => Fr 20 { tmps := t, defers := [] } _) (?_ : _ = ((tm2.setIfInBounds 13 (.agg #[.int .i64 e.k, .int .u64 e.t, .int .u64 e.i, .slice A e.d.length c, .int .i64 e.c])).setIfInBounds 14 (.int .i64 (n : Int))))).mpr ((hf2.put (d := 13) (by decide) _).put (d := 14) (by decide) _)
      simp
    · intro w0 rs
      rw [k25]
      refine CS (by kernel_rfl) (by rintro ⟨a, w, h⟩; first | exact h.elim | exact nomatch h.1 | (obtain ⟨_, h, _⟩ := h; exact nomatch h)) (Am Ac rfl (K5 ?_)); rintro gx
      refine Aq ?_
      refine EN 1 rfl k21 ?_
      rw [k26]
      refine DQ 2 rfl GC.open_ (fun _ => rfl) ?_; rintro ⟨v, l⟩
      refine DC.fact 2 rfl (fun _ h => h.2) ?_; rintro hl1
      refine DC.leave [2] rfl rfl ?_
      replace hl1 : l.map (·.e) = Ba d (fs.take j) ++ ((BB d f).take i).map (·.1) := hl1
      have hl2 : l.length < 1000000 := by have := congrArg List.length hl1; rw [List.length_map] at this; omega
      refine DQ 1 rfl Cm (fun _ => rfl) ?_; rintro ⟨⟩
      refine DN (CS (by kernel_rfl) (by rintro ⟨a, w, h⟩; first | exact h.elim | exact nomatch h.1 | (obtain ⟨_, h, _⟩ := h; exact nomatch h)) (Aq ?_))
      refine AQ (X := Value) (val := fun v : Value => v) (post := fun u1 => [Af 53 5 encV u1 ([(⟨e, A, c⟩ : EntV)]), Af 53 5 encV v l, AE (fun x : EntV => Af 5 1 encB x.v x.e.d) l, cell gl 39 #[v], cell gx 53 #[.int .i64 e.k, .int .u64 e.t, .int .u64 e.i, .slice A e.d.length c, .int .i64 e.c], Bq L2 (BV r2), Af 5 1 encB (.slice A e.d.length c) e.d]) rfl (by refine CA (e := 53) (t := 39) (k := 5) (enc := encV) (x := .tmp 16) (c := .agg #[.int .i64 e.k, .int .u64 e.t, .int .u64 e.i, .slice A e.d.length c, .int .i64 e.c]) ?_ ?_ ?_ (⟨e, A, c⟩ : EntV) ?_ ?_ ?_; exact Av; exact (by decide); exact Dy; exact rfl; exact rfl; exact rfl) ?_; rintro u1
      refine AQ (post := fun ev2 => [Af 53 5 encV u1 ([(⟨e, A, c⟩ : EntV)]), Af 53 5 encV ev2 (l ++ [(⟨e, A, c⟩ : EntV)]), AE (fun x : EntV => Af 5 1 encB x.v x.e.d) l, cell gl 39 #[v], cell gx 53 #[.int .i64 e.k, .int .u64 e.t, .int .u64 e.i, .slice A e.d.length c, .int .i64 e.c], Bq L2 (BV r2), Af 5 1 encB (.slice A e.d.length c) e.d]) rfl (Ct (nb := 56) 1 Av Dy (by kernel_rfl) (by decide) rfl ([(⟨e, A, c⟩ : EntV)]) (fun w hH => hH.vec 0 rfl Dy) (by simp only [List.length_cons, List.length_nil]; omega) rfl rfl rfl rfl) ?_; rintro ev2
      refine Bt (post := fun _ => [Af 53 5 encV u1 ([(⟨e, A, c⟩ : EntV)]), Af 53 5 encV ev2 (l ++ [(⟨e, A, c⟩ : EntV)]), AE (fun x : EntV => Af 5 1 encB x.v x.e.d) l, cell gl 39 #[ev2], cell gx 53 #[.int .i64 e.k, .int .u64 e.t, .int .u64 e.i, .slice A e.d.length c, .int .i64 e.c], Bq L2 (BV r2), Af 5 1 encB (.slice A e.d.length c) e.d]) rfl rfl (D8 3 1 (v := ev2) #[ev2] Fz.2 rfl (fun _ h => Af.c1 h) rfl rfl rfl rfl rfl rfl rfl) ?_; rintro ⟨⟩
      refine Aq ?_
      refine Cg [1, 2, 6] rfl (F2 (x := (⟨e, A, c⟩ : EntV))) rfl (Cg [2, 0] rfl (Wq (UY hl1 hei)) rfl ?_)
      exact E0 [3, 0] rfl rfl
    refine Aq ?_
    refine Cg [0, 3, 4] rfl I2 rfl (Cg [3, 4, 5, 6, 0] rfl (FI (R := (fun svs => Fk [GC gl (Ba d (fs.take (j + 1))), AX svs, fact (svs.map SegV.m = ss)])) hfc) rfl ?_)
    exact E0 [3, 0] rfl rfl
  intro D aT wT hDm hD0 hdf hF hH
  obtain ⟨svs, hH⟩ := E9 0 rfl EF.open_ hH
  obtain ⟨_, hH⟩ := E9 4 rfl Ig hH
  have hm3 := ER (p := svs.map SegV.m = ss) 2 rfl (fun _ h => h.2) hH
  obtain ⟨⟨v, l⟩, hH⟩ := E9 0 rfl GC.open_ hH
  have hl3 := ER (p := l.map (·.e) = Ba d (fs.take N)) 2 rfl (fun _ h => h.2) hH
  rw [← hN, List.take_length] at hl3
  replace hH := Pk (os := [cell gl 39 #[v], B9 53 v l, fact (l.map (·.e) = Ba d (fs.take N)), AX svs, fact (svs.map SegV.m = ss), cell p 76 #[.pointer (some ⟨dk, 0, none⟩), .int .i64 (lim : Int), sv], Af 83 2 encSg sv svs, Ab dk d, Aj tb, fact (svs.map SegV.f = fs), cell gf 29 #[.pointer (some ⟨p, 0, none⟩)]]) (t := Ao p dk lim ss) [5, 6, 3] rfl (Ch hm3) hH
  refine Yp (env := [(2, .slice none 0 0), (3, .pointer (some ⟨gl, 0, none⟩))]) (os := [Ao p dk lim ss, cell gl 39 #[v], B9 53 v l, fact (l.map (·.e) = Ba d (fs.take N)), fact (svs.map SegV.m = ss), Ab dk d, Aj tb, fact (svs.map SegV.f = fs), cell gf 29 #[.pointer (some ⟨p, 0, none⟩)]]) ?_ aT wT hDm hD0 hdf (hF.keep ⟨rfl, rfl, trivial⟩) hH
  refine W9 rfl (v) (fun b w hb hH => GN rfl rfl (JO Fz rfl) (hH.row 1 rfl) hb) (W9 rfl (v) (fun b w hb hH => Cx NW rfl hb) ?_)
  exact XN (Yq (fun a w hD hD0 hd hF hH => XM (os := [Ao p dk lim ss, cell gl 39 #[v], B9 53 v l, fact (l.map (·.e) = Ba d (fs.take N)), fact (svs.map SegV.m = ss), Ab dk d, Aj tb, fact (svs.map SegV.f = fs), cell gf 29 #[.pointer (some ⟨p, 0, none⟩)]]) (.tmp rfl) rfl (fun w' h => As (X := EsV) ⟨v, l⟩ rfl [2, 0, 5, 6] rfl h (fun z hz => ⟨z, .refl _, Ds (xs := [B9 53 v l, Ao p dk lim ss, Ab dk d, Aj tb]) hl3 hz⟩)) D a w hD hD0 hd hF hH))
end Go.Proofs.YtjcfimmcogkopaaGreatDoor.Sep
