/-
  SgW
-/
import Derived.Test.YtjcfimmcogkopaaGreatDoorWX01
import Derived.Test.YtjcfimmcogkopaaGreatDoorWM01
set_option linter.unusedSimpArgs false
set_option linter.unusedVariables false
set_option maxHeartbeats 4000000
namespace Go.Proofs.YtjcfimmcogkopaaGreatDoor.Sep
variable {K N : Nat} {d : DiskD} {e0 : Exit} {fs : List Nat}
open Go.RowKit
open Go.Proofs.YtjcfimmcogkopaaGreatDoor.Mem (AG BC Chg Ak)
theorem Wv (L g p dk lim : Nat) (sv : Value) (tb : Tb) (R : Nat → List SegV → Ass) (r : Loop) (hd : d.fit) (hfs : ∀ f, f ∈ fs → f ≤ 72057594037927935) (hl : fs.length ≤ 1000000) (hm : (e0 = .normal ∧ K = N ∧ fs.length = N) ∨ (e0 = .exit 0 ∧ K = N + 1 ∧ N < fs.length))
  (hu : ∀ (xe : Exit) (j f : Nat) (bv : Value) (b : List UInt8), W8 xe = true → fs[j]? = some f → (BH d (nameL f)).getD [] = b → (xe = .normal ∧ j < N) ∨ (xe = .exit 0 ∧ j = N) → CB Tryz.prog (.func (.yield L) #[] #[]) [AN sv (j * 2), bv] [EF p dk lim sv d tb fs (fun s => DD L r (R j s)), Af 5 1 encB bv b] (fun _ : Unit => .bool (UK xe)) (fun _ : Unit => [EF p dk lim sv d tb fs (fun s => DD L (GT xe r) (R (j + 1) s))])) :
  AA Tryz.prog 117 #[.func (.yield L) #[] #[], .pointer (some ⟨g, 0, none⟩)] [EF p dk lim sv d tb fs (fun s => DD L r (R 0 s)), cell g 29 #[.pointer (some ⟨p, 0, none⟩)]] (fun (_ : Unit) => .tuple #[]) (fun (_ : Unit) => [EF p dk lim sv d tb fs (fun s => DD L (GT e0 r) (R K s)), cell g 29 #[.pointer (some ⟨p, 0, none⟩)]]) := by
  rcases hm with ⟨rfl, hK, h⟩ | ⟨rfl, hK, h⟩
  · subst hK
    exact UV (.yield L) #[] g p dk lim sv tb (fun j s => DD L r (R j s)) hd hfs hl h fun j f bv b hf hb => hu .normal j f bv b rfl hf hb (.inl ⟨rfl, by have := (List.getElem?_eq_some_iff.1 hf).1; omega⟩)
  · subst hK
    exact Wp (.yield L) #[] g p dk lim sv tb (fun j s => DD L r (R j s)) (EF p dk lim sv d tb fs (fun s => DD L (GT (.exit 0) r) (R (N + 1) s))) hd hfs hl h (fun j f bv b hf hb hj => hu .normal j f bv b rfl hf hb (.inl ⟨rfl, hj⟩)) (fun j f bv b hf hb hj => by subst hj; exact hu (.exit 0) j f bv b rfl hf hb (.inr ⟨rfl, rfl⟩))
set_option maxRecDepth 100000 in
theorem Mn {p dk lim : Nat} (tb : Tb) (hd : d.fit) (hfs : ∀ f, f ∈ fs → f ≤ 72057594037927935) (hfl : fs.length ≤ 1000000) (hm : (e0 = .normal ∧ K = N ∧ fs.length = N) ∨ (e0 = .exit 0 ∧ K = N + 1 ∧ N < fs.length)) (hL : (Ba d fs).length ≤ 1000000) (hbl : ∀ f b, f ∈ fs → (BH d (nameL f)).getD [] = b → b.length ≤ 137438953472)
  (hok : ∀ (j f i : Nat) (e : EntD) (n : Nat), j ≤ N → fs[j]? = some f → (BB d f)[i]? = some (e, n) → (i = 0 → e.i = f) ∧ ((Ar (BL d fs j f i)).2 = 0 ∨ ((Ar (BL d fs j f i)).2 ≠ 0 ∧ e.i = (Ar (BL d fs j f i)).2 + 1 ∧ (Ar (BL d fs j f i)).1 ≤ e.t)) ∧ 0 ≤ (Ar (BL d fs j f i)).2 ∧ (Ar (BL d fs j f i)).2 ≤ 72057594037927935)
  (hwh : ∀ (j f : Nat) (b : List UInt8), j < N → fs[j]? = some f → (BH d (nameL f)).getD [] = b → ∃ m, (BA d f).getLast? = some m ∧ m.2 = b.length)
  (hbr : ∀ f, fs[N]? = some f → BB d f = [] ∨ ∀ b, (BH d (nameL f)).getD [] = b → ∃ m, (BA d f).getLast? = some m ∧ m.2 < b.length) : AA Tryz.prog 36 #[.pointer (some ⟨p, 0, none⟩)] [Ao p dk lim (fs.map fun f => (f, [])), Ab dk d, Aj tb] (fun (_ : Unit) => .tuple #[]) (fun (_ : Unit) => [Ao p dk lim (FK d fs K 0), Ab dk d, Aj tb]) := by
  refine Kr (args := [.pointer (some ⟨p, 0, none⟩)]) 65 Tryz.func36 rfl rfl rfl ?_; intro w rs
  have hoe0 : W8 e0 = true := by rcases hm with ⟨h, _⟩ | ⟨h, _⟩ <;> subst h <;> rfl
  refine oC 0 Ao.open_ ?_; rintro ⟨sv, svs⟩
  refine AH.fact 3 rfl (fun _ h => h.2) ?_; rintro hm0
  refine lC [3] ?_
  replace hm0 : svs.map SegV.m = FK d fs 0 0 := by rw [Yx]; exact hm0
  refine Wr (Al (Am Ac rfl (K5 ?_))); rintro gp
  refine Aq ?_
  refine Ws (Eu (cC [0] (Wu (d := d) (fs := fs)) ?_))
  refine cC [3, 0] (Lh hm0) ?_
  refine cC [1, 2, 3, 4, 0] (FI (R := (fun svs => Fk [AX svs, Ck gp (Ar (Ba d (fs.take 0))), fact (svs.map SegV.m = FK d fs 0 0)])) (RR hm0)) ?_
  refine kC [0, 2] ?_
  refine AH.mid [EF p dk lim sv d tb fs (fun svs => Fk [AX svs, Ck gp (Ar (Ba d (fs.take 0))), fact (svs.map SegV.m = FK d fs 0 0)])] (.refl _) (Al (Am Ac rfl (GI [] (Ml) ?_))); rintro gf
  refine Aq ?_
  refine kC [0, 2, 7, 8] ?_
  refine AH.mid [cell gf 29 #[.pointer (some ⟨p, 0, none⟩)], EF p dk lim sv d tb fs (fun svs => Fk [AX svs, Ck gp (Ar (Ba d (fs.take 0))), fact (svs.map SegV.m = FK d fs 0 0)])] (.refl _) ?_
  refine Fe (caps := [.pointer (some ⟨gf, 0, none⟩)]) (post := [EF p dk lim sv d tb fs (fun svs => Fk [AX svs, Ck gp (Ar (Ba d (fs.take K))), fact (svs.map SegV.m = FK d fs K 0)]), cell gf 29 #[.pointer (some ⟨p, 0, none⟩)]]) (os' := [EF p dk lim sv d tb fs (fun svs => Fk [AX svs, Ck gp (Ar (Ba d (fs.take K))), fact (svs.map SegV.m = FK d fs K 0)]), cell gf 29 #[.pointer (some ⟨p, 0, none⟩)]]) (e0) [1, 0] rfl (Ah Tryz.func117 (by kernel_rfl) rfl) (fun L1 fn1 tm1 hf1 r1 k11 k12 k13 k14 k15 k16 => Xa (Wv L1 gf p dk lim sv tb (fun j svs => Fk [AX svs, Ck gp (Ar (Ba d (fs.take j))), fact (svs.map SegV.m = FK d fs j 0)]) r1 hd hfs hfl hm ?_)) rfl rfl rfl ?_ (hx := hoe0)
  · skip
    intro xe j f bv b hoe hf hb_ hcase
    have hjN : j ≤ N := by rcases hcase with ⟨_, h⟩ | ⟨_, h⟩ <;> omega
    refine Xb (Cj (n := 65) (env := [(10, bv), (9, AN sv (j * 2)), (0, .pointer (some ⟨p, 0, none⟩)), (2, .pointer (some ⟨gp, 0, none⟩)), (7, .pointer (some ⟨p, 0, none⟩)), (8, .func (.func 117) #[] #[.pointer (some ⟨gf, 0, none⟩)])]) (xe) k12 k11 (by rw [k14]; rfl) ?_ ?_ (he := hoe))
    · rw [k14, k13]
      refine (congrArg (fun t => Fr 65 { tmps := t, defers := [] } _) (?_ : _ = ((tm1.setIfInBounds 9 (AN sv (j * 2))).setIfInBounds 10 bv))).mpr ((hf1.put (d := 9) (by decide) _).put (d := 10) (by decide) _)
      simp
    · intro w0 rs
      rw [k15]
      refine DC.fact 2 rfl (fun _ h => Af.is h) ?_; rintro ⟨A0, c0, rfl⟩
      refine DC.keep (env' := [(10, .slice A0 b.length c0), (9, AN sv (j * 2)), (0, .pointer (some ⟨p, 0, none⟩)), (2, .pointer (some ⟨gp, 0, none⟩)), (7, .pointer (some ⟨p, 0, none⟩)), (8, .func (.func 117) #[] #[.pointer (some ⟨gf, 0, none⟩)])]) ⟨rfl, rfl, rfl, rfl, rfl, rfl, trivial⟩ (DC.mid [Bq L1 r1, EF p dk lim sv d tb fs (fun svs => Fk [AX svs, Ck gp (Ar (Ba d (fs.take j))), fact (svs.map SegV.m = FK d fs j 0)]), Af 5 1 encB (.slice A0 b.length c0) b] (.refl _) (DQ 1 rfl EF.open_ (fun _ => rfl) ?_)); rintro svs
      refine DC.fact 5 rfl (fun _ h => h.2) ?_; rintro hfc
      refine DC.leave [5] rfl rfl (DQ 4 rfl Ig (fun _ => rfl) ?_); rintro ⟨⟩
      refine DC.fact 2 rfl (fun _ h => h.2) ?_; rintro hm
      refine DC.leave [2] rfl rfl ?_
      replace hm : svs.map SegV.m = FK d fs j 0 := hm
      obtain ⟨x, hx, hxf, hxl⟩ := QU hf hm
      refine Dg (CS (by kernel_rfl) (by rintro ⟨a, w, h⟩; first | exact h.elim | (have h9 := h.1; rw [← h9] at hoe; exact absurd hoe (by decide)) | (obtain ⟨_, h9, _⟩ := h; rw [← h9] at hoe; exact absurd hoe (by decide))) (Am Ac rfl (K5 ?_))); rintro gs
      refine Bt (post := fun _ => [cell gs 124 #[AN sv (j * 2)], AX svs, Ck gp (Ar (Ba d (fs.take j))), cell p 76 #[.pointer (some ⟨dk, 0, none⟩), .int .i64 (lim : Int), sv], Af 83 2 encSg sv svs, Ab dk d, Aj tb, Bq L1 r1, Af 5 1 encB (.slice A0 b.length c0) b]) rfl rfl (D8 0 4 (v := AN sv (j * 2)) #[AN sv (j * 2)] F5.2 rfl (fun _ h => XU hx h) rfl rfl rfl rfl rfl rfl rfl) ?_; rintro ⟨⟩
      refine DU (E8 (CS (by kernel_rfl) (by rintro ⟨a, w, h⟩; first | exact h.elim | (have h9 := h.1; rw [← h9] at hoe; exact absurd hoe (by decide)) | (obtain ⟨_, h9, _⟩ := h; rw [← h9] at hoe; exact absurd hoe (by decide))) (Ai ?_)))
      refine EN 7 rfl k11 ?_
      rw [k16]
      refine DN (Dg (Dg (CS (by kernel_rfl) (by rintro ⟨a, w, h⟩; first | exact h.elim | (have h9 := h.1; rw [← h9] at hoe; exact absurd hoe (by decide)) | (obtain ⟨_, h9, _⟩ := h; rw [← h9] at hoe; exact absurd hoe (by decide))) (Am Ac rfl (GI [] (JG) ?_))))); rintro ge
      refine DU (E8 (DN (Wf [5, 2, 1, 3] rfl (Wt (f := f) hm) rfl (DC.keep (env' := [(10, .slice A0 b.length c0), (9, AN sv (j * 2)), (0, .pointer (some ⟨p, 0, none⟩)), (2, .pointer (some ⟨gp, 0, none⟩)), (7, .pointer (some ⟨p, 0, none⟩)), (8, .func (.func 117) #[] #[.pointer (some ⟨gf, 0, none⟩)]), (3, .pointer (some ⟨gs, 0, none⟩)), (4, .slice A0 b.length c0), (11, .slice A0 b.length c0), (12, .func (.func 118) #[] #[.pointer (some ⟨ge, 0, none⟩)])]) ⟨rfl, rfl, rfl, rfl, rfl, rfl, rfl, rfl, rfl, rfl, trivial⟩ (DC.mid [Td sv gs gp d fs j f 0, cell ge 49 #[.slice A0 b.length c0], cell p 76 #[.pointer (some ⟨dk, 0, none⟩), .int .i64 (lim : Int), sv], Ab dk d, Aj tb, Bq L1 (BV r1), Af 5 1 encB (.slice A0 b.length c0) b] (.refl _) (DC.keep (env' := [(10, .slice A0 b.length c0), (9, AN sv (j * 2)), (0, .pointer (some ⟨p, 0, none⟩)), (2, .pointer (some ⟨gp, 0, none⟩)), (7, .pointer (some ⟨p, 0, none⟩)), (8, .func (.func 117) #[] #[.pointer (some ⟨gf, 0, none⟩)]), (3, .pointer (some ⟨gs, 0, none⟩)), (4, .slice A0 b.length c0), (11, .slice A0 b.length c0), (12, .func (.func 118) #[] #[.pointer (some ⟨ge, 0, none⟩)])]) ⟨rfl, rfl, rfl, rfl, rfl, rfl, rfl, rfl, rfl, rfl, trivial⟩ (DC.mid [Td sv gs gp d fs j f 0, cell ge 49 #[.slice A0 b.length c0], cell p 76 #[.pointer (some ⟨dk, 0, none⟩), .int .i64 (lim : Int), sv], Ab dk d, Aj tb, Bq L1 (BV r1), Af 5 1 encB (.slice A0 b.length c0) b] (.refl _) ?_)))))))
      refine Pe (caps := [.pointer (some ⟨ge, 0, none⟩)]) (post := [Td sv gs gp d fs j f ((BB d f).length), Af 5 1 encB (.slice A0 b.length c0) b, cell ge 49 #[.slice A0 b.length c0]]) (os' := [Td sv gs gp d fs j f ((BB d f).length), Af 5 1 encB (.slice A0 b.length c0) b, cell ge 49 #[.slice A0 b.length c0], cell p 76 #[.pointer (some ⟨dk, 0, none⟩), .int .i64 (lim : Int), sv], Ab dk d, Aj tb, Bq L1 (BV r1)]) (.normal) 5 rfl [0, 6, 1] rfl (Ah Tryz.func118 (by kernel_rfl) rfl) (fun L2 fn2 tm2 hf2 r2 k21 k22 k23 k24 k25 k26 => Na (UX (.yield L2) #[] ge (fun i => DD L2 r2 (Td sv gs gp d fs j f i)) _ _ (A0 := A0) (c0 := c0) (N := (BB d f).length) rfl rfl (hbl f b (List.mem_of_getElem? hf) hb_) (show HF b = BB d f by rw [← hb_]; rfl) rfl ?_)) rfl rfl rfl ?_
      intro i A c e n hei
      have hil : i < (BB d f).length := (List.getElem?_eq_some_iff.1 hei).1
      obtain ⟨hi0, hfo, hb0⟩ := hok j f i e n hjN hf hei
      refine KN (Cj (n := 65) (env := [(14, .int .i64 (n : Int)), (13, .agg #[.int .i64 e.k, .int .u64 e.t, .int .u64 e.i, .slice A e.d.length c, .int .i64 e.c]), (10, .slice A0 b.length c0), (9, AN sv (j * 2)), (0, .pointer (some ⟨p, 0, none⟩)), (2, .pointer (some ⟨gp, 0, none⟩)), (7, .pointer (some ⟨p, 0, none⟩)), (8, .func (.func 117) #[] #[.pointer (some ⟨gf, 0, none⟩)]), (3, .pointer (some ⟨gs, 0, none⟩)), (4, .slice A0 b.length c0), (11, .slice A0 b.length c0), (12, .func (.func 118) #[] #[.pointer (some ⟨ge, 0, none⟩)])]) (.normal) k22 k21 (by rw [k24]; rfl) ?_ ?_)
      · rw [k24, k23]
        refine (congrArg (fun t => Fr 65 { tmps := t, defers := [] } _) (?_ : _ = ((tm2.setIfInBounds 13 (.agg #[.int .i64 e.k, .int .u64 e.t, .int .u64 e.i, .slice A e.d.length c, .int .i64 e.c])).setIfInBounds 14 (.int .i64 (n : Int))))).mpr ((hf2.put (d := 13) (by decide) _).put (d := 14) (by decide) _)
        simp
      · intro w0 rs
        rw [k25]
        refine Dg (CS (by kernel_rfl) (by rintro ⟨a, w, h⟩; first | exact h.elim | exact nomatch h.1 | (obtain ⟨_, h, _⟩ := h; exact nomatch h)) (Am Ac rfl (K5 ?_))); rintro gx
        refine Aq ?_
        refine E8 (CS (by kernel_rfl) (by rintro ⟨a, w, h⟩; first | exact h.elim | exact nomatch h.1 | (obtain ⟨_, h, _⟩ := h; exact nomatch h)) (Ai ?_))
        refine EN 1 rfl k21 ?_
        rw [k26]
        refine DQ 2 rfl Td.open_ (fun _ => rfl) ?_; rintro svs
        refine DC.fact 4 rfl (fun _ h => h.2) ?_; rintro hm
        refine DC.leave [4] rfl rfl ?_
        replace hm : svs.map SegV.m = FK d fs j i := hm
        obtain ⟨x, hx, hxf, hxl⟩ := QU hf hm
        have hxn : x.l.length = i := by rw [hxl, List.length_take]; unfold BA; rw [List.length_map]; omega
        have hjl : j < svs.length := (List.getElem?_eq_some_iff.1 hx).1
        have hle := N1 hf hL
        refine DQ 3 rfl Ck.open_ (fun _ => rfl) ?_; rintro q
        refine DN (Dg ?_)
        refine Yo [(2, .pointer (some ⟨gp, 0, none⟩)), (3, .pointer (some ⟨gs, 0, none⟩)), (5, .pointer (some ⟨gx, 0, none⟩)), (6, .int .i64 (n : Int))] [cell gp 53 #[.int .i64 q.k, .int .u64 ((Ar (BL d fs j f i)).1), .int .u64 ((Ar (BL d fs j f i)).2), .slice q.A q.n q.c, .int .i64 q.z], Af 83 2 encSg sv svs, AX svs, cell gs 124 #[AN sv (j * 2)], cell gx 53 #[.int .i64 e.k, .int .u64 e.t, .int .u64 e.i, .slice A e.d.length c, .int .i64 e.c], Bq L2 (BV r2), Af 5 1 encB (.slice A e.d.length c) e.d] ?_ ?_
        rcases Nat.eq_zero_or_pos i with hz | hz
        have hef := hi0 hz
        refine Dg ?_
        refine QH (by rintro ⟨a, w, h⟩; first | exact h.elim | exact nomatch h.1 | (obtain ⟨_, h, _⟩ := h; exact nomatch h)) 21 1 [⟨.quiet, [none], fun _ => AN sv (j * 2), []⟩, ⟨.quiet, [none], fun _ => AN sv (j * 2), [0]⟩, ⟨.quiet, [none], fun _ => AN sv (j * 2 + 1), [1]⟩, ⟨.quiet, [none], fun _ => .slice x.A x.l.length x.c, [2]⟩, ⟨.quiet, [none], fun _ => .int .i64 (x.l.length : Int), [3]⟩, ⟨.quiet, [none], fun _ => .bool true, [4]⟩, ⟨.quiet, [none], fun _ => .bool true, [5]⟩, ⟨.quiet, [none], fun _ => .pointer (some ⟨gx, 2, none⟩), [6]⟩, ⟨.quiet, [none], fun _ => .int .u64 e.i, [7, 6]⟩, ⟨.quiet, [none], fun _ => AN sv (j * 2), [6]⟩, ⟨.quiet, [none], fun _ => AN sv (j * 2), [9, 6]⟩, ⟨.quiet, [none], fun _ => AN sv (j * 2 + 0), [10, 6]⟩, ⟨.quiet, [none], fun _ => .int .u64 (x.f : Int), [11, 6]⟩, ⟨.quiet, [none], fun _ => .bool false, [8, 12, 6]⟩, ⟨.quiet, [none], fun _ => .bool false, [6, 13]⟩, ⟨.quiet, [none], fun _ => .bool false, [14]⟩, ⟨.quiet, [none], fun _ => .agg #[.int .i64 q.k, .int .u64 ((Ar (BL d fs j f i)).1), .int .u64 ((Ar (BL d fs j f i)).2), .slice q.A q.n q.c, .int .i64 q.z], [15]⟩, ⟨.quiet, [none], fun _ => .agg #[.int .i64 e.k, .int .u64 e.t, .int .u64 e.i, .slice A e.d.length c, .int .i64 e.c], [15]⟩, ⟨.actv 0, [some false], fun _ => .bool true, [16, 17, 15]⟩, ⟨.quiet, [some true], fun _ => .bool false, [18, 15]⟩, ⟨.quiet, [some true], fun _ => .bool false, [15, 19]⟩] [(2, .pointer (some ⟨gp, 0, none⟩)), (3, .pointer (some ⟨gs, 0, none⟩)), (5, .pointer (some ⟨gx, 0, none⟩)), (6, .int .i64 (n : Int))] (fun ρ => match ρ with | [rq0] => [cell gp 53 #[.int .i64 q.k, .int .u64 ((Ar (BL d fs j f i)).1), .int .u64 ((Ar (BL d fs j f i)).2), .slice q.A q.n q.c, .int .i64 q.z], Af 83 2 encSg sv svs, AX svs, cell gs 124 #[AN sv (j * 2)], cell gx 53 #[.int .i64 e.k, .int .u64 e.t, .int .u64 e.i, .slice A e.d.length c, .int .i64 e.c], Bq L2 (BV r2), Af 5 1 encB (.slice A e.d.length c) e.d] | _ => []) (by kernel_rfl) (by kernel_rfl) (by kernel_rfl) ⟨rfl, rfl, rfl, rfl, trivial⟩ rfl ?_ ?_
        refine Ai ?_
        refine Ad (by intro r0_; exact ⟨rfl, fun b w hH hb => A6 1 rfl (j := j) (List.getElem?_eq_some_iff.1 hx).1 rfl rfl hH hb⟩) ?_
        refine Ai ?_
        refine Ai ?_
        refine Ad (by intro r0_; exact ⟨rfl, fun b w hH hb => AJ ((B6 2 rfl hx hH)) Tryz.underlying81 rfl rfl hb⟩) (Ai ?_)
        refine Ai ?_
        refine Ai ?_
        refine Ai ?_
        refine Ai ?_
        refine Ad (by intro r0_; exact ⟨rfl, fun b w hH hb => A6 1 rfl (j := j) (List.getElem?_eq_some_iff.1 hx).1 rfl rfl hH hb⟩) ?_
        refine Ai ?_
        refine Ai ?_
        refine Ai ?_
        refine Ai ?_
        refine Ai ?_
        refine Ad (by intro r0_; exact ⟨rfl, fun b w hH hb => GN rfl rfl (Lj (cs := [.int .i64 q.k, .int .u64 ((Ar (BL d fs j f i)).1), .int .u64 ((Ar (BL d fs j f i)).2), .slice q.A q.n q.c, .int .i64 q.z]) Em rfl) (hH.row 0 rfl) hb⟩) (Ad (by intro r0_; exact ⟨rfl, fun b w hH hb => GN rfl rfl (Lj (cs := [.int .i64 e.k, .int .u64 e.t, .int .u64 e.i, .slice A e.d.length c, .int .i64 e.c]) Em rfl) (hH.row 4 rfl) hb⟩) (Ad (by exact ⟨rfl, AR.su (Da (Ah Tryz.func68 (by kernel_rfl) rfl) (fun w hH => Kv w hfo hb0) rfl rfl rfl) rfl⟩) (Aq ?_)))
        exact Bv
        intro v0_
        refine A5.keep (env' := [(2, .pointer (some ⟨gp, 0, none⟩)), (3, .pointer (some ⟨gs, 0, none⟩)), (5, .pointer (some ⟨gx, 0, none⟩)), (6, .int .i64 (n : Int)), (35, .bool false)]) ⟨rfl, rfl, rfl, rfl, rfl, trivial⟩ (DU (E8 (IY rfl (IZ ?_))))
        exact Q6 0 ⟨rfl, rfl, rfl, rfl, trivial⟩ rfl
        refine Dg ?_
        refine QH (by rintro ⟨a, w, h⟩; first | exact h.elim | exact nomatch h.1 | (obtain ⟨_, h, _⟩ := h; exact nomatch h)) 21 1 [⟨.quiet, [none], fun _ => AN sv (j * 2), []⟩, ⟨.quiet, [none], fun _ => AN sv (j * 2), [0]⟩, ⟨.quiet, [none], fun _ => AN sv (j * 2 + 1), [1]⟩, ⟨.quiet, [none], fun _ => .slice x.A x.l.length x.c, [2]⟩, ⟨.quiet, [none], fun _ => .int .i64 (x.l.length : Int), [3]⟩, ⟨.quiet, [none], fun _ => .bool false, [4]⟩, ⟨.quiet, [none], fun _ => .bool false, [5]⟩, ⟨.skip, [none], fun _ => undef, [6]⟩, ⟨.skip, [none], fun _ => undef, [7, 6]⟩, ⟨.skip, [none], fun _ => undef, [6]⟩, ⟨.skip, [none], fun _ => undef, [9, 6]⟩, ⟨.skip, [none], fun _ => undef, [10, 6]⟩, ⟨.skip, [none], fun _ => undef, [11, 6]⟩, ⟨.skip, [none], fun _ => undef, [8, 12, 6]⟩, ⟨.quiet, [none], fun _ => .bool false, [6, 13]⟩, ⟨.quiet, [none], fun _ => .bool false, [14]⟩, ⟨.quiet, [none], fun _ => .agg #[.int .i64 q.k, .int .u64 ((Ar (BL d fs j f i)).1), .int .u64 ((Ar (BL d fs j f i)).2), .slice q.A q.n q.c, .int .i64 q.z], [15]⟩, ⟨.quiet, [none], fun _ => .agg #[.int .i64 e.k, .int .u64 e.t, .int .u64 e.i, .slice A e.d.length c, .int .i64 e.c], [15]⟩, ⟨.actv 0, [some false], fun _ => .bool true, [16, 17, 15]⟩, ⟨.quiet, [some true], fun _ => .bool false, [18, 15]⟩, ⟨.quiet, [some true], fun _ => .bool false, [15, 19]⟩] [(2, .pointer (some ⟨gp, 0, none⟩)), (3, .pointer (some ⟨gs, 0, none⟩)), (5, .pointer (some ⟨gx, 0, none⟩)), (6, .int .i64 (n : Int))] (fun ρ => match ρ with | [rq0] => [cell gp 53 #[.int .i64 q.k, .int .u64 ((Ar (BL d fs j f i)).1), .int .u64 ((Ar (BL d fs j f i)).2), .slice q.A q.n q.c, .int .i64 q.z], Af 83 2 encSg sv svs, AX svs, cell gs 124 #[AN sv (j * 2)], cell gx 53 #[.int .i64 e.k, .int .u64 e.t, .int .u64 e.i, .slice A e.d.length c, .int .i64 e.c], Bq L2 (BV r2), Af 5 1 encB (.slice A e.d.length c) e.d] | _ => []) (by kernel_rfl) (by kernel_rfl) (by kernel_rfl) ⟨rfl, rfl, rfl, rfl, trivial⟩ rfl ?_ ?_
        refine Ai ?_
        refine Ad (by intro r0_; exact ⟨rfl, fun b w hH hb => A6 1 rfl (j := j) (List.getElem?_eq_some_iff.1 hx).1 rfl rfl hH hb⟩) ?_
        refine Ai ?_
        refine Ai ?_
        refine Ad (by intro r0_; exact ⟨rfl, fun b w hH hb => AJ ((B6 2 rfl hx hH)) Tryz.underlying81 rfl rfl hb⟩) (Ai ?_)
        refine Ai ?_
        refine Ai ?_
        refine Ai ?_
        refine Ai ?_
        refine Ai ?_
        refine Ai ?_
        refine Ai ?_
        refine Ai ?_
        refine Ai ?_
        refine Ai ?_
        refine Ad (by intro r0_; exact ⟨rfl, fun b w hH hb => GN rfl rfl (Lj (cs := [.int .i64 q.k, .int .u64 ((Ar (BL d fs j f i)).1), .int .u64 ((Ar (BL d fs j f i)).2), .slice q.A q.n q.c, .int .i64 q.z]) Em rfl) (hH.row 0 rfl) hb⟩) (Ad (by intro r0_; exact ⟨rfl, fun b w hH hb => GN rfl rfl (Lj (cs := [.int .i64 e.k, .int .u64 e.t, .int .u64 e.i, .slice A e.d.length c, .int .i64 e.c]) Em rfl) (hH.row 4 rfl) hb⟩) (Ad (by exact ⟨rfl, AR.su (Da (Ah Tryz.func68 (by kernel_rfl) rfl) (fun w hH => Kv w hfo hb0) rfl rfl rfl) rfl⟩) (Aq ?_)))
        exact Bv
        intro v0_
        refine A5.keep (env' := [(2, .pointer (some ⟨gp, 0, none⟩)), (3, .pointer (some ⟨gs, 0, none⟩)), (5, .pointer (some ⟨gx, 0, none⟩)), (6, .int .i64 (n : Int)), (35, .bool false)]) ⟨rfl, rfl, rfl, rfl, rfl, trivial⟩ (DU (E8 (IY rfl (IZ ?_))))
        exact Q6 0 ⟨rfl, rfl, rfl, rfl, trivial⟩ rfl
        refine E8 (DQ 2 rfl (JI hx) (fun _ => rfl) ?_); rintro ⟨⟩
        refine Dg (NV 1 rfl ?_)
        refine QH (by rintro ⟨a, w, h⟩; first | exact h.elim | exact nomatch h.1 | (obtain ⟨_, h, _⟩ := h; exact nomatch h)) 13 2 [⟨.quiet, [none, none], fun _ => AN sv (j * 2), []⟩, ⟨.quiet, [none, none], fun _ => AN sv (j * 2), []⟩, ⟨.quiet, [none, none], fun _ => AN sv (j * 2), [1]⟩, ⟨.quiet, [none, none], fun _ => AN sv (j * 2 + 1), [2]⟩, ⟨.quiet, [none, none], fun _ => .slice x.A x.l.length x.c, [3]⟩, ⟨.quiet, [none, none], fun _ => .pointer (some ⟨gx, 1, none⟩), []⟩, ⟨.quiet, [none, none], fun _ => .int .u64 e.t, [5]⟩, ⟨.quiet, [none, none], fun _ => .int .i64 (n : Int), []⟩, ⟨.quiet, [none, none], fun _ => .agg #[.int .u64 e.t, .int .i64 (n : Int)], [6, 7]⟩, ⟨.act 0, [some false, some false], fun _ => undef, [8]⟩, ⟨.act 1, [some true, some false], fun _ => undef, [4, 9]⟩, ⟨.quiet, [some true, some true], fun _ => AN sv (j * 2), [0]⟩, ⟨.quiet, [some true, some true], fun _ => AN sv (j * 2 + 1), [11]⟩] [(2, .pointer (some ⟨gp, 0, none⟩)), (3, .pointer (some ⟨gs, 0, none⟩)), (5, .pointer (some ⟨gx, 0, none⟩)), (6, .int .i64 (n : Int))] (fun ρ => match ρ with | [rq0, rq1] => [Dm rq0 (fun u1 => Af 137 2 encMk u1 ([(e.t, n)])) (emp), AE (fun x : SegV => Af 137 2 encMk x.v x.l) (svs.take j), Dm rq1 (fun mv2 => Af 137 2 encMk mv2 (x.l ++ [(e.t, n)])) (Af 137 2 encMk (.slice x.A x.l.length x.c) x.l), AE (fun x : SegV => Af 137 2 encMk x.v x.l) (svs.drop (j + 1)), cell gp 53 #[.int .i64 q.k, .int .u64 ((Ar (BL d fs j f i)).1), .int .u64 ((Ar (BL d fs j f i)).2), .slice q.A q.n q.c, .int .i64 q.z], Af 83 2 encSg sv svs, cell gs 124 #[AN sv (j * 2)], cell gx 53 #[.int .i64 e.k, .int .u64 e.t, .int .u64 e.i, .slice A e.d.length c, .int .i64 e.c], Bq L2 (BV r2), Af 5 1 encB (.slice A e.d.length c) e.d] | _ => []) (by kernel_rfl) (by kernel_rfl) (by kernel_rfl) ⟨rfl, rfl, rfl, rfl, trivial⟩ rfl ?_ ?_
        refine Aq ?_
        refine Ad (by intro r0_ r1_; exact ⟨rfl, fun b w hH hb => A6 5 rfl (j := j) (List.getElem?_eq_some_iff.1 hx).1 rfl rfl hH hb⟩) ?_
        refine Ai ?_
        refine Ai ?_
        refine Ai ?_
        refine Ai ?_
        refine Ai ?_
        refine Ad (by intro r0_ r1_; exact ⟨rfl, fun b w hH hb => AY rfl rfl (by kernel_rfl) hb⟩) ?_
        refine Ad (by exact ⟨rfl, AR.s (AR.place (val := fun u1 : Value => u1) (t := fun u1 => Af 137 2 encMk u1 ([(e.t, n)])) (os' := fun u1 => [Af 137 2 encMk u1 ([(e.t, n)]), AE (fun x : SegV => Af 137 2 encMk x.v x.l) (svs.take j), Af 137 2 encMk (.slice x.A x.l.length x.c) x.l, AE (fun x : SegV => Af 137 2 encMk x.v x.l) (svs.drop (j + 1)), cell gp 53 #[.int .i64 q.k, .int .u64 ((Ar (BL d fs j f i)).1), .int .u64 ((Ar (BL d fs j f i)).2), .slice q.A q.n q.c, .int .i64 q.z], Af 83 2 encSg sv svs, cell gs 124 #[AN sv (j * 2)], cell gx 53 #[.int .i64 e.k, .int .u64 e.t, .int .u64 e.i, .slice A e.d.length c, .int .i64 e.c], Bq L2 (BV r2), Af 5 1 encB (.slice A e.d.length c) e.d]) 0 rfl (by refine CA (e := 137) (t := 81) (k := 2) (enc := encMk) (x := .tmp 44) (c := .agg #[.int .u64 e.t, .int .i64 (n : Int)]) ?_ ?_ ?_ (e.t, n) ?_ ?_ ?_; exact B4; exact (by decide); exact GV; exact rfl; exact rfl; exact rfl) (fun _ => rfl)) (fun _ => rfl)⟩) ?_
        refine Ad (by intro u1; exact ⟨rfl, AR.s (Ct (nb := 16) 2 B4 GV (by kernel_rfl) (by decide) rfl ([(e.t, n)]) (fun w hH => hH.vec 0 rfl GV) (by simp only [List.length_cons, List.length_nil]; omega) rfl rfl rfl rfl) (fun _ => rfl)⟩) ?_
        refine Ad (by intro u1 mv2; exact ⟨rfl, fun b w hH hb => A6 5 rfl (j := j) (List.getElem?_eq_some_iff.1 hx).1 rfl rfl hH hb⟩) ?_
        refine Ai ?_
        exact Bv
        intro u1 mv2
        refine A5.keep (env' := [(2, .pointer (some ⟨gp, 0, none⟩)), (5, .pointer (some ⟨gx, 0, none⟩)), (46, mv2), (48, AN sv (j * 2 + 1))]) ⟨rfl, rfl, rfl, rfl, trivial⟩ (A5.fact 2 rfl (fun _ h => Af.is h) ?_); rintro ⟨A2, c2, rfl⟩
        refine A5.keep (env' := [(2, .pointer (some ⟨gp, 0, none⟩)), (5, .pointer (some ⟨gx, 0, none⟩)), (46, .slice A2 (x.l ++ [(e.t, n)]).length c2), (48, AN sv (j * 2 + 1))]) ⟨rfl, rfl, rfl, rfl, trivial⟩ (A5.mid [Af 137 2 encMk u1 ([(e.t, n)]), AE (fun x : SegV => Af 137 2 encMk x.v x.l) (svs.take j), Af 137 2 encMk (.slice A2 (x.l ++ [(e.t, n)]).length c2) (x.l ++ [(e.t, n)]), AE (fun x : SegV => Af 137 2 encMk x.v x.l) (svs.drop (j + 1)), cell gp 53 #[.int .i64 q.k, .int .u64 ((Ar (BL d fs j f i)).1), .int .u64 ((Ar (BL d fs j f i)).2), .slice q.A q.n q.c, .int .i64 q.z], Af 83 2 encSg sv svs, cell gs 124 #[AN sv (j * 2)], cell gx 53 #[.int .i64 e.k, .int .u64 e.t, .int .u64 e.i, .slice A e.d.length c, .int .i64 e.c], Bq L2 (BV r2), Af 5 1 encB (.slice A e.d.length c) e.d] (.refl _) (Am Ac rfl (Bt (post := fun _ => [Af 137 2 encMk u1 ([(e.t, n)]), AE (fun x : SegV => Af 137 2 encMk x.v x.l) (svs.take j), Af 137 2 encMk (.slice A2 (x.l ++ [(e.t, n)]).length c2) (x.l ++ [(e.t, n)]), AE (fun x : SegV => Af 137 2 encMk x.v x.l) (svs.drop (j + 1)), cell gp 53 #[.int .i64 q.k, .int .u64 ((Ar (BL d fs j f i)).1), .int .u64 ((Ar (BL d fs j f i)).2), .slice q.A q.n q.c, .int .i64 q.z], Af 83 2 encSg sv (svs.set j (⟨x.f, x.l ++ [(e.t, n)], A2, c2⟩ : SegV)), cell gs 124 #[AN sv (j * 2)], cell gx 53 #[.int .i64 e.k, .int .u64 e.t, .int .u64 e.i, .slice A e.d.length c, .int .i64 e.c], Bq L2 (BV r2), Af 5 1 encB (.slice A e.d.length c) e.d]) rfl rfl (LI 5 CI rfl j (a := x) (b := (⟨x.f, x.l ++ [(e.t, n)], A2, c2⟩ : SegV)) hx EK.2 rfl rfl (by decide) rfl rfl rfl rfl rfl) ?_))); rintro ⟨⟩
        refine DU (E8 (CS (by kernel_rfl) (by rintro ⟨a, w, h⟩; first | exact h.elim | exact nomatch h.1 | (obtain ⟨_, h, _⟩ := h; exact nomatch h)) (AV ?_)))
        refine Cg [1, 2, 3] rfl (Mm (y := (⟨x.f, x.l ++ [(e.t, n)], A2, c2⟩ : SegV)) hjl) rfl (Cg [2] rfl (JH (m := Ar (BL d fs j f (i + 1))) (by rw [Tc hei, Dt])) rfl (Cg [3, 1, 4, 0] rfl (U3 (XV hf hm hx hxf hxl hei)) rfl ?_))
        exact E0 [3, 0] rfl rfl
      refine Xo 0 rfl (Td.end_ hf) (fun _ => rfl) ?_; rintro svs
      refine BW.fact 4 rfl (fun _ h => h.2) ?_; rintro hm
      refine BW.leave [4] rfl rfl ?_
      replace hm : svs.map SegV.m = FK d fs j ((BB d f).length) := hm
      obtain ⟨x, hx, hxf, hxl⟩ := QU hf hm
      rw [U1 hf] at hm
      have hxl2 : x.l = BA d f := by rw [hxl]; exact List.take_of_length_le (by unfold BA; rw [List.length_map]; exact Nat.le_refl _)
      have hle := N1 hf hL
      have hxL : x.l.length ≤ 1000000 := by rw [hxl2]; unfold BA; rw [List.length_map]; exact hle
      refine BW.keep (env' := [(10, .slice A0 b.length c0), (9, AN sv (j * 2)), (0, .pointer (some ⟨p, 0, none⟩)), (2, .pointer (some ⟨gp, 0, none⟩)), (7, .pointer (some ⟨p, 0, none⟩)), (8, .func (.func 117) #[] #[.pointer (some ⟨gf, 0, none⟩)]), (3, .pointer (some ⟨gs, 0, none⟩)), (4, .slice A0 b.length c0), (11, .slice A0 b.length c0), (12, .func (.func 118) #[] #[.pointer (some ⟨ge, 0, none⟩)])]) ⟨rfl, rfl, rfl, rfl, rfl, rfl, rfl, rfl, rfl, rfl, trivial⟩ (BW.mid [Af 83 2 encSg sv svs, AX svs, cell gs 124 #[AN sv (j * 2)], Ck gp (Ar (Ba d (fs.take (j + 1)))), Af 5 1 encB (.slice A0 b.length c0) b, cell ge 49 #[.slice A0 b.length c0], cell p 76 #[.pointer (some ⟨dk, 0, none⟩), .int .i64 (lim : Int), sv], Ab dk d, Aj tb, Bq L1 (BV r1)] (.refl _) (D4 (E8 ?_)))
      rcases hcase with ⟨hxe, hjl⟩ | ⟨hxe, hjl⟩
      rotate_left
      rcases hbr f (hjl ▸ hf) with hz0 | hz1
      rotate_left
      subst hxe
      obtain ⟨m, hmw, hmn⟩ := hz1 b hb_
      have hmx : x.l[x.l.length - 1]? = some m := by rw [hxl2, ← List.getLast?_eq_getElem?]; exact hmw
      have hx0 : 0 < x.l.length := Nat.pos_of_ne_zero (fun h0 => by rw [List.length_eq_zero_iff.1 h0] at hmx; cases hmx)
      refine Dg (CS (by kernel_rfl) (by rintro ⟨a, w, h⟩; first | exact h.elim | (have h9 := h.1; rw [← h9] at hoe; exact absurd hoe (by decide)) | (obtain ⟨_, h9, _⟩ := h; rw [← h9] at hoe; exact absurd hoe (by decide))) (Ai ?_))
      refine Aa rfl (AN sv (j * 2)) (fun b w hb hH => A6 0 rfl (j := j) (List.getElem?_eq_some_iff.1 hx).1 rfl rfl hH hb) ?_
      refine Aq ?_
      refine Aa rfl (.int .i64 (x.l.length : Int)) (fun b w hb hH => AJ ((B6 1 rfl hx hH)) Tryz.underlying81 rfl rfl hb) (Aq ?_)
      refine Aa rfl (AN sv (j * 2)) (fun b w hb hH => A6 0 rfl (j := j) (List.getElem?_eq_some_iff.1 hx).1 rfl rfl hH hb) ?_
      refine Aa rfl (.agg (encSg x).toArray) (fun b w hb hH => CD CI (by decide) (hH.vec 0 rfl CI) (j := j) hx Bj rfl rfl hb) (FD (fun w hH => GD w (B6 1 rfl hx hH) hmx hx0 hxL) ?_)
      refine Am Ac rfl (Aa rfl (.int .i64 (b.length : Int)) (fun b w hb hH => ES AL rfl rfl hH hb) (Aq ?_))
      refine E8 (NU rfl (UJ (EJ (by decide) (Cg [1, 3] rfl (Lh hm) rfl (Cg [5, 1, 6, 7, 0] rfl (FI (R := (fun svs => Fk [AX svs, Ck gp (Ar (Ba d (fs.take (j + 1)))), fact (svs.map SegV.m = FK d fs (j + 1) 0)])) (RR hm)) rfl ?_)))))
      exact E0 [4, 0] rfl rfl
      subst hxe
      obtain ⟨m, hmw, hmn⟩ := hwh j f b hjl hf hb_
      have hmx : x.l[x.l.length - 1]? = some m := by rw [hxl2, ← List.getLast?_eq_getElem?]; exact hmw
      have hx0 : 0 < x.l.length := Nat.pos_of_ne_zero (fun h0 => by rw [List.length_eq_zero_iff.1 h0] at hmx; cases hmx)
      refine Dg (CS (by kernel_rfl) (by rintro ⟨a, w, h⟩; first | exact h.elim | (have h9 := h.1; rw [← h9] at hoe; exact absurd hoe (by decide)) | (obtain ⟨_, h9, _⟩ := h; rw [← h9] at hoe; exact absurd hoe (by decide))) (Ai ?_))
      refine Aa rfl (AN sv (j * 2)) (fun b w hb hH => A6 0 rfl (j := j) (List.getElem?_eq_some_iff.1 hx).1 rfl rfl hH hb) ?_
      refine Aq ?_
      refine Aa rfl (.int .i64 (x.l.length : Int)) (fun b w hb hH => AJ ((B6 1 rfl hx hH)) Tryz.underlying81 rfl rfl hb) (Aq ?_)
      refine Aa rfl (AN sv (j * 2)) (fun b w hb hH => A6 0 rfl (j := j) (List.getElem?_eq_some_iff.1 hx).1 rfl rfl hH hb) ?_
      refine Aa rfl (.agg (encSg x).toArray) (fun b w hb hH => CD CI (by decide) (hH.vec 0 rfl CI) (j := j) hx Bj rfl rfl hb) (FD (fun w hH => GD w (B6 1 rfl hx hH) hmx hx0 hxL) ?_)
      refine Am Ac rfl (Aa rfl (.int .i64 (b.length : Int)) (fun b w hb hH => ES AL rfl rfl hH hb) (Aq ?_))
      refine E8 (IY rfl (IZ (D4 (Cg [1, 3] rfl (Lh hm) rfl (Cg [5, 1, 6, 7, 0] rfl (FI (R := (fun svs => Fk [AX svs, Ck gp (Ar (Ba d (fs.take (j + 1)))), fact (svs.map SegV.m = FK d fs (j + 1) 0)])) (RR hm)) rfl ?_)))))
      exact E0 [4, 0] rfl rfl
      subst hxe
      have hx0 : x.l.length = 0 := by rw [hxl2]; unfold BA; rw [hz0]; rfl
      refine Dg (CS (by kernel_rfl) (by rintro ⟨a, w, h⟩; first | exact h.elim | (have h9 := h.1; rw [← h9] at hoe; exact absurd hoe (by decide)) | (obtain ⟨_, h9, _⟩ := h; rw [← h9] at hoe; exact absurd hoe (by decide))) (Ai ?_))
      refine Aa rfl (AN sv (j * 2)) (fun b w hb hH => A6 0 rfl (j := j) (List.getElem?_eq_some_iff.1 hx).1 rfl rfl hH hb) ?_
      refine Aq ?_
      refine Aa rfl (.int .i64 (x.l.length : Int)) (fun b w hb hH => AJ ((B6 1 rfl hx hH)) Tryz.underlying81 rfl rfl hb) (Aq ?_)
      refine E8 (NU rfl (UJ (EJ (by decide) (Cg [1, 3] rfl (Lh hm) rfl (Cg [5, 1, 6, 7, 0] rfl (FI (R := (fun svs => Fk [AX svs, Ck gp (Ar (Ba d (fs.take (j + 1)))), fact (svs.map SegV.m = FK d fs (j + 1) 0)])) (RR hm)) rfl ?_)))))
      exact E0 [4, 0] rfl rfl
  intro D aT wT hDm hD0 hdf hF hH
  obtain ⟨svs, hH⟩ := E9 0 rfl EF.open_ hH
  obtain ⟨_, hH⟩ := E9 4 rfl Ig hH
  have hm3 := ER (p := svs.map SegV.m = FK d fs K 0) 2 rfl (fun _ h => h.2) hH
  replace hH := Pk (os := [AX svs, Ck gp (Ar (Ba d (fs.take K))), fact (svs.map SegV.m = FK d fs K 0), cell p 76 #[.pointer (some ⟨dk, 0, none⟩), .int .i64 (lim : Int), sv], Af 83 2 encSg sv svs, Ab dk d, Aj tb, fact (svs.map SegV.f = fs), cell gf 29 #[.pointer (some ⟨p, 0, none⟩)]]) (t := Ao p dk lim (FK d fs K 0)) [3, 4, 0] rfl (Ch hm3) hH
  rcases hm with ⟨he9, _, _⟩ | ⟨he9, _, _⟩
  · subst he9
    exact Ks (e := .normal) rfl (fun w' h => As (X := Unit) (val := fun _ => .tuple #[]) (post := fun _ => [Ao p dk lim (FK d fs K 0), Ab dk d, Aj tb]) (os := [Ao p dk lim (FK d fs K 0), Ck gp (Ar (Ba d (fs.take K))), fact (svs.map SegV.m = FK d fs K 0), Ab dk d, Aj tb, fact (svs.map SegV.f = fs), cell gf 29 #[.pointer (some ⟨p, 0, none⟩)]]) () rfl [0, 3, 4] rfl h DK) (by simp) D aT wT hDm hD0 hdf hF hH
  · subst he9
    refine U4 ?_
    exact Ks (e := .normal) rfl (fun w' h => As (X := Unit) (val := fun _ => .tuple #[]) (post := fun _ => [Ao p dk lim (FK d fs K 0), Ab dk d, Aj tb]) (os := [Ao p dk lim (FK d fs K 0), Ck gp (Ar (Ba d (fs.take K))), fact (svs.map SegV.m = FK d fs K 0), Ab dk d, Aj tb, fact (svs.map SegV.f = fs), cell gf 29 #[.pointer (some ⟨p, 0, none⟩)]]) () rfl [0, 3, 4] rfl h DK) (by simp) D aT wT hDm hD0 hdf hF hH
theorem QV {p dk lim : Nat} (tb : Tb) (hd : d.fit) (hfs : ∀ f, f ∈ fs → f ≤ 72057594037927935) (hfl : fs.length ≤ 1000000) (hN : fs.length = N) (hL : (Ba d fs).length ≤ 1000000) (hbl : ∀ f b, f ∈ fs → (BH d (nameL f)).getD [] = b → b.length ≤ 137438953472)
 (hok : ∀ (j f i : Nat) (e : EntD) (n : Nat), fs[j]? = some f → (BB d f)[i]? = some (e, n) → (i = 0 → e.i = f) ∧ ((Ar (BL d fs j f i)).2 = 0 ∨ ((Ar (BL d fs j f i)).2 ≠ 0 ∧ e.i = (Ar (BL d fs j f i)).2 + 1 ∧ (Ar (BL d fs j f i)).1 ≤ e.t)) ∧ 0 ≤ (Ar (BL d fs j f i)).2 ∧ (Ar (BL d fs j f i)).2 ≤ 72057594037927935)
 (hwh : ∀ (j f : Nat) (b : List UInt8), fs[j]? = some f → (BH d (nameL f)).getD [] = b → ∃ m, (BA d f).getLast? = some m ∧ m.2 = b.length) : AA Tryz.prog 36 #[.pointer (some ⟨p, 0, none⟩)] [Ao p dk lim (fs.map fun f => (f, [])), Ab dk d, Aj tb] (fun (_ : Unit) => .tuple #[]) (fun (_ : Unit) => [Ao p dk lim (marksM d fs), Ab dk d, Aj tb]) := by
 have h := Mn (p := p) (dk := dk) (lim := lim) (K := N) tb hd hfs hfl (.inl ⟨rfl, rfl, hN⟩) hL hbl (fun j f i e n _ => hok j f i e n) (fun j f b _ => hwh j f b) (fun f hf => by rw [List.getElem?_eq_none (by omega)] at hf; cases hf)
 rwa [RQ hN] at h
end Go.Proofs.YtjcfimmcogkopaaGreatDoor.Sep
