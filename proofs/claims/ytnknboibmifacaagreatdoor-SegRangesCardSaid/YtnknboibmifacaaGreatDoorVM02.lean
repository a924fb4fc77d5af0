/-
  SgW
-/
import Derived.Test.YtnknboibmifacaaGreatDoorVM01
set_option linter.unusedSimpArgs false
set_option linter.unusedVariables false
namespace Go.Proofs.YtnknboibmifacaaGreatDoor.Sep
open Go.RowKit
open Go.Proofs.YtnknboibmifacaaGreatDoor.Mem (AR B3 Chg Av)
set_option maxRecDepth 100000 in
theorem P3 {p dk lim : Nat} {d : DiskD} {fs : List Nat} {N : Nat} (tb : Tb) (hd : d.fit) (hfs : ∀ f, f ∈ fs → f ≤ 72057594037927935) (hfl : fs.length ≤ 1000000) (hN : fs.length = N) (hL : (By d fs).length ≤ 1000000) (hbl : ∀ f b, f ∈ fs → (D6 d (nameL f)).getD [] = b → b.length ≤ 137438953472)
  (hok : ∀ (j f i : Nat) (e : EntD) (n : Nat), fs[j]? = some f → (Cn d f)[i]? = some (e, n) → (i = 0 → e.i = f) ∧ ((AG (Cr d fs j f i)).2 = 0 ∨ ((AG (Cr d fs j f i)).2 ≠ 0 ∧ e.i = (AG (Cr d fs j f i)).2 + 1 ∧ (AG (Cr d fs j f i)).1 ≤ e.t)) ∧ 0 ≤ (AG (Cr d fs j f i)).2 ∧ (AG (Cr d fs j f i)).2 ≤ 72057594037927935)
  (hwh : ∀ (j f : Nat) (b : List UInt8), fs[j]? = some f → (D6 d (nameL f)).getD [] = b → ∃ m, (CA d f).getLast? = some m ∧ m.2 = b.length) : AP Tryz.prog 41 #[.pointer (some ⟨p, 0, none⟩)] [AA p dk lim (fs.map fun f => (f, [])), Ag dk d, Ao tb] (fun (_ : Unit) => .tuple #[]) (fun (_ : Unit) => [AA p dk lim (marksM d fs), Ag dk d, Ao tb]) := by
  refine JC (args := [.pointer (some ⟨p, 0, none⟩)]) 65 Tryz.func41 rfl rfl rfl ?_; intro w rs
  refine A7 0 rfl AA.open_ (fun _ => rfl) ?_; rintro ⟨sv, svs⟩
  refine AN.fact 3 rfl (fun _ h => h.2) ?_; rintro hm0
  refine AN.leave [3] rfl rfl ?_
  replace hm0 : svs.map SegV.m = GK d fs 0 0 := by rw [Xl]; exact hm0
  refine Vf ?_
  refine Ad ?_
  refine Af Ae rfl ?_
  refine Am (post := fun gp => [cell gp 34 #[.int .i64 0, .int .u64 0, .int .u64 0, .slice none 0 0, .int .i64 0], cell p 87 #[.pointer (some ⟨dk, 0, none⟩), .int .i64 (lim : Int), sv], Ak 92 2 encSg sv svs, Bd svs, Ag dk d, Ao tb]) rfl (BW Bz rfl) ?_; rintro gp
  refine Ab (An ?_)
  refine Vg ?_
  refine AB ?_
  refine Bg [0] rfl (Vj (d := d) (fs := fs)) rfl ?_
  refine Bg [3, 0] rfl (QS hm0) rfl ?_
  refine Bg [1, 2, 3, 4, 0] rfl (JG (R := (fun svs => Fq [Bd svs, Ct gp (AG (By d (fs.take 0))), fact (svs.map SegV.m = GK d fs 0 0)])) (VT hm0)) rfl ?_
  refine AN.keep (env' := [(0, .pointer (some ⟨p, 0, none⟩)), (2, .pointer (some ⟨gp, 0, none⟩))]) ⟨rfl, rfl, trivial⟩ ?_
  refine AN.mid [F6 p dk lim sv d tb fs (fun svs => Fq [Bd svs, Ct gp (AG (By d (fs.take 0))), fact (svs.map SegV.m = GK d fs 0 0)])] (.refl _) ?_
  refine Ad ?_
  refine Af Ae rfl ?_
  refine Am rfl (Au (os' := fun gf => [cell gf 26 #[.pointer (some ⟨p, 0, none⟩)], F6 p dk lim sv d tb fs (fun svs => Fq [Bd svs, Ct gp (AG (By d (fs.take 0))), fact (svs.map SegV.m = GK d fs 0 0)])]) [] 0 (Aj Tryz.func85 (by kernel_rfl) rfl) (Li) rfl rfl rfl (fun _ => rfl) rfl rfl rfl) ?_; rintro gf
  refine Ab (AQ ?_)
  refine AN.keep (env' := [(0, .pointer (some ⟨p, 0, none⟩)), (2, .pointer (some ⟨gp, 0, none⟩)), (7, .pointer (some ⟨p, 0, none⟩)), (8, .func (.func 134) #[] #[.pointer (some ⟨gf, 0, none⟩)])]) ⟨rfl, rfl, rfl, rfl, trivial⟩ ?_
  refine AN.mid [cell gf 26 #[.pointer (some ⟨p, 0, none⟩)], F6 p dk lim sv d tb fs (fun svs => Fq [Bd svs, Ct gp (AG (By d (fs.take 0))), fact (svs.map SegV.m = GK d fs 0 0)])] (.refl _) ?_
  refine Fi (caps := [.pointer (some ⟨gf, 0, none⟩)]) (post := [F6 p dk lim sv d tb fs (fun svs => Fq [Bd svs, Ct gp (AG (By d (fs.take N))), fact (svs.map SegV.m = GK d fs N 0)]), cell gf 26 #[.pointer (some ⟨p, 0, none⟩)]]) (os' := [F6 p dk lim sv d tb fs (fun svs => Fq [Bd svs, Ct gp (AG (By d (fs.take N))), fact (svs.map SegV.m = GK d fs N 0)]), cell gf 26 #[.pointer (some ⟨p, 0, none⟩)]]) (.normal) [1, 0] rfl (Aj Tryz.func134 (by kernel_rfl) rfl) (fun L1 fn1 tm1 hf1 r1 k11 k12 k13 k14 k15 k16 => VR (TH (.yield L1) #[] gf p dk lim sv tb (fun j svs => EH L1 r1 (Fq [Bd svs, Ct gp (AG (By d (fs.take j))), fact (svs.map SegV.m = GK d fs j 0)])) hd hfs hfl hN ?_)) rfl rfl rfl ?_
  · skip
    intro j f bv b hf hb_
    refine VS (CE (n := 65) (env := [(10, bv), (9, AV sv (j * 2)), (0, .pointer (some ⟨p, 0, none⟩)), (2, .pointer (some ⟨gp, 0, none⟩)), (7, .pointer (some ⟨p, 0, none⟩)), (8, .func (.func 134) #[] #[.pointer (some ⟨gf, 0, none⟩)])]) (.normal) k12 k11 (by rw [k14]; rfl) ?_ ?_)
    · rw [k14, k13]
      refine (congrArg (fun t => Fr 65 { tmps := t, defers := [] } _) (?_ : _ = ((tm1.setIfInBounds 9 (AV sv (j * 2))).setIfInBounds 10 bv))).mpr ((hf1.put (d := 9) (by decide) _).put (d := 10) (by decide) _)
      simp
    · intro w0 rs
      rw [k15]
      refine D0.fact 2 rfl (fun _ h => Ak.is h) ?_; rintro ⟨A0, c0, rfl⟩
      refine D0.keep (env' := [(10, .slice A0 b.length c0), (9, AV sv (j * 2)), (0, .pointer (some ⟨p, 0, none⟩)), (2, .pointer (some ⟨gp, 0, none⟩)), (7, .pointer (some ⟨p, 0, none⟩)), (8, .func (.func 134) #[] #[.pointer (some ⟨gf, 0, none⟩)])]) ⟨rfl, rfl, rfl, rfl, rfl, rfl, trivial⟩ ?_
      refine D0.mid [BB L1 r1, F6 p dk lim sv d tb fs (fun svs => Fq [Bd svs, Ct gp (AG (By d (fs.take j))), fact (svs.map SegV.m = GK d fs j 0)]), Ak 5 1 encB (.slice A0 b.length c0) b] (.refl _) ?_
      refine DP 1 rfl F6.open_ (fun _ => rfl) ?_; rintro svs
      refine D0.fact 5 rfl (fun _ h => h.2) ?_; rintro hfc
      refine D0.leave [5] rfl rfl ?_
      refine DP 4 rfl HF (fun _ => rfl) ?_; rintro ⟨⟩
      refine D0.fact 2 rfl (fun _ h => h.2) ?_; rintro hm
      refine D0.leave [2] rfl rfl ?_
      replace hm : svs.map SegV.m = GK d fs j 0 := hm
      obtain ⟨x, hx, hxf, hxl⟩ := P0 hf hm
      refine DD (Dm (by kernel_rfl) (by rintro ⟨a, w, h⟩; first | exact h.elim | exact nomatch h.1 | (obtain ⟨_, h, _⟩ := h; exact nomatch h)) ?_)
      refine Af Ae rfl ?_
      refine Am (post := fun gs => [cell gs 100 #[.pointer none], Bd svs, Ct gp (AG (By d (fs.take j))), cell p 87 #[.pointer (some ⟨dk, 0, none⟩), .int .i64 (lim : Int), sv], Ak 92 2 encSg sv svs, Ag dk d, Ao tb, BB L1 r1, Ak 5 1 encB (.slice A0 b.length c0) b]) rfl (BW JF rfl) ?_; rintro gs
      refine AL (post := fun _ => [cell gs 100 #[AV sv (j * 2)], Bd svs, Ct gp (AG (By d (fs.take j))), cell p 87 #[.pointer (some ⟨dk, 0, none⟩), .int .i64 (lim : Int), sv], Ak 92 2 encSg sv svs, Ag dk d, Ao tb, BB L1 r1, Ak 5 1 encB (.slice A0 b.length c0) b]) rfl rfl (Ee 0 4 (v := AV sv (j * 2)) #[AV sv (j * 2)] BQ.2 rfl (fun _ h => WG hx h) rfl rfl rfl rfl rfl rfl rfl) ?_; rintro ⟨⟩
      refine AD (Fb ?_)
      refine Dm (by kernel_rfl) (by rintro ⟨a, w, h⟩; first | exact h.elim | exact nomatch h.1 | (obtain ⟨_, h, _⟩ := h; exact nomatch h)) ?_
      refine Af Ae rfl ?_
      refine AD ?_
      refine EM 7 rfl k11 ?_
      rw [k16]
      refine D1 ?_
      refine DD ?_
      refine DD (Dm (by kernel_rfl) (by rintro ⟨a, w, h⟩; first | exact h.elim | exact nomatch h.1 | (obtain ⟨_, h, _⟩ := h; exact nomatch h)) ?_)
      refine Af Ae rfl ?_
      refine Am rfl (Au (os' := fun ge => [cell ge 30 #[.slice A0 b.length c0], cell gs 100 #[AV sv (j * 2)], Bd svs, Ct gp (AG (By d (fs.take j))), cell p 87 #[.pointer (some ⟨dk, 0, none⟩), .int .i64 (lim : Int), sv], Ak 92 2 encSg sv svs, Ag dk d, Ao tb, BB L1 (BP r1), Ak 5 1 encB (.slice A0 b.length c0) b]) [] 0 (Aj Tryz.func86 (by kernel_rfl) rfl) (I6) rfl rfl rfl (fun _ => rfl) rfl rfl rfl) ?_; rintro ge
      refine AD (Fb ?_)
      refine D1 ?_
      refine U2 [5, 2, 1, 3] rfl (Vi (f := f) hm) rfl ?_
      refine D0.keep (env' := [(10, .slice A0 b.length c0), (9, AV sv (j * 2)), (0, .pointer (some ⟨p, 0, none⟩)), (2, .pointer (some ⟨gp, 0, none⟩)), (7, .pointer (some ⟨p, 0, none⟩)), (8, .func (.func 134) #[] #[.pointer (some ⟨gf, 0, none⟩)]), (3, .pointer (some ⟨gs, 0, none⟩)), (4, .slice A0 b.length c0), (11, .slice A0 b.length c0), (12, .func (.func 135) #[] #[.pointer (some ⟨ge, 0, none⟩)])]) ⟨rfl, rfl, rfl, rfl, rfl, rfl, rfl, rfl, rfl, rfl, trivial⟩ ?_
      refine D0.mid [P1 sv gs gp d fs j f 0, cell ge 30 #[.slice A0 b.length c0], cell p 87 #[.pointer (some ⟨dk, 0, none⟩), .int .i64 (lim : Int), sv], Ag dk d, Ao tb, BB L1 (BP r1), Ak 5 1 encB (.slice A0 b.length c0) b] (.refl _) ?_
      refine D0.keep (env' := [(10, .slice A0 b.length c0), (9, AV sv (j * 2)), (0, .pointer (some ⟨p, 0, none⟩)), (2, .pointer (some ⟨gp, 0, none⟩)), (7, .pointer (some ⟨p, 0, none⟩)), (8, .func (.func 134) #[] #[.pointer (some ⟨gf, 0, none⟩)]), (3, .pointer (some ⟨gs, 0, none⟩)), (4, .slice A0 b.length c0), (11, .slice A0 b.length c0), (12, .func (.func 135) #[] #[.pointer (some ⟨ge, 0, none⟩)])]) ⟨rfl, rfl, rfl, rfl, rfl, rfl, rfl, rfl, rfl, rfl, trivial⟩ ?_
      refine D0.mid [P1 sv gs gp d fs j f 0, cell ge 30 #[.slice A0 b.length c0], cell p 87 #[.pointer (some ⟨dk, 0, none⟩), .int .i64 (lim : Int), sv], Ag dk d, Ao tb, BB L1 (BP r1), Ak 5 1 encB (.slice A0 b.length c0) b] (.refl _) ?_
      refine Oh (caps := [.pointer (some ⟨ge, 0, none⟩)]) (post := [P1 sv gs gp d fs j f ((Cn d f).length), Ak 5 1 encB (.slice A0 b.length c0) b, cell ge 30 #[.slice A0 b.length c0]]) (os' := [P1 sv gs gp d fs j f ((Cn d f).length), Ak 5 1 encB (.slice A0 b.length c0) b, cell ge 30 #[.slice A0 b.length c0], cell p 87 #[.pointer (some ⟨dk, 0, none⟩), .int .i64 (lim : Int), sv], Ag dk d, Ao tb, BB L1 (BP r1)]) (.normal) 5 rfl [0, 6, 1] rfl (Aj Tryz.func135 (by kernel_rfl) rfl) (fun L2 fn2 tm2 hf2 r2 k21 k22 k23 k24 k25 k26 => Mg (TK (.yield L2) #[] ge (fun i => EH L2 r2 (P1 sv gs gp d fs j f i)) _ _ (A0 := A0) (c0 := c0) (N := (Cn d f).length) rfl rfl (hbl f b (List.mem_of_getElem? hf) hb_) (show J4 b = Cn d f by rw [← hb_]; rfl) rfl ?_)) rfl rfl rfl ?_
      · skip
        intro i A c e n hei
        have hil : i < (Cn d f).length := (List.getElem?_eq_some_iff.1 hei).1
        obtain ⟨hi0, hfo, hb0⟩ := hok j f i e n hf hei
        refine JZ (CE (n := 65) (env := [(14, .int .i64 (n : Int)), (13, .agg #[.int .i64 e.k, .int .u64 e.t, .int .u64 e.i, .slice A e.d.length c, .int .i64 e.c]), (10, .slice A0 b.length c0), (9, AV sv (j * 2)), (0, .pointer (some ⟨p, 0, none⟩)), (2, .pointer (some ⟨gp, 0, none⟩)), (7, .pointer (some ⟨p, 0, none⟩)), (8, .func (.func 134) #[] #[.pointer (some ⟨gf, 0, none⟩)]), (3, .pointer (some ⟨gs, 0, none⟩)), (4, .slice A0 b.length c0), (11, .slice A0 b.length c0), (12, .func (.func 135) #[] #[.pointer (some ⟨ge, 0, none⟩)])]) (.normal) k22 k21 (by rw [k24]; rfl) ?_ ?_)
        · rw [k24, k23]
          refine (congrArg (fun t => Fr 65 { tmps := t, defers := [] } _) (?_ : _ = ((tm2.setIfInBounds 13 (.agg #[.int .i64 e.k, .int .u64 e.t, .int .u64 e.i, .slice A e.d.length c, .int .i64 e.c])).setIfInBounds 14 (.int .i64 (n : Int))))).mpr ((hf2.put (d := 13) (by decide) _).put (d := 14) (by decide) _)
          simp
        · intro w0 rs
          rw [k25]
          refine DD (Dm (by kernel_rfl) (by rintro ⟨a, w, h⟩; first | exact h.elim | exact nomatch h.1 | (obtain ⟨_, h, _⟩ := h; exact nomatch h)) ?_)
          refine Af Ae rfl ?_
          refine Am (post := fun gx => [cell gx 34 #[.int .i64 0, .int .u64 0, .int .u64 0, .slice none 0 0, .int .i64 0], BB L2 r2, P1 sv gs gp d fs j f i, Ak 5 1 encB (.slice A e.d.length c) e.d]) rfl (BW Bz rfl) ?_; rintro gx
          refine AL (post := fun _ => [cell gx 34 #[.int .i64 e.k, .int .u64 e.t, .int .u64 e.i, .slice A e.d.length c, .int .i64 e.c], BB L2 r2, P1 sv gs gp d fs j f i, Ak 5 1 encB (.slice A e.d.length c) e.d]) rfl rfl (AU 0 (v := .agg #[.int .i64 e.k, .int .u64 e.t, .int .u64 e.i, .slice A e.d.length c, .int .i64 e.c]) #[.int .i64 e.k, .int .u64 e.t, .int .u64 e.i, .slice A e.d.length c, .int .i64 e.c] BH.2 rfl rfl rfl rfl rfl rfl rfl rfl rfl) ?_; rintro ⟨⟩
          refine AD (Fb ?_)
          refine Dm (by kernel_rfl) (by rintro ⟨a, w, h⟩; first | exact h.elim | exact nomatch h.1 | (obtain ⟨_, h, _⟩ := h; exact nomatch h)) ?_
          refine Af Ae rfl ?_
          refine AD ?_
          refine EM 1 rfl k21 ?_
          rw [k26]
          refine DP 2 rfl P1.open_ (fun _ => rfl) ?_; rintro svs
          refine D0.fact 4 rfl (fun _ h => h.2) ?_; rintro hm
          refine D0.leave [4] rfl rfl ?_
          replace hm : svs.map SegV.m = GK d fs j i := hm
          obtain ⟨x, hx, hxf, hxl⟩ := P0 hf hm
          have hxn : x.l.length = i := by rw [hxl, List.length_take]; unfold CA; rw [List.length_map]; omega
          have hjl : j < svs.length := (List.getElem?_eq_some_iff.1 hx).1
          have hle := M8 hf hL
          refine DP 3 rfl Ct.open_ (fun _ => rfl) ?_; rintro q
          refine D1 ?_
          refine DD ?_
          rcases Nat.eq_zero_or_pos i with hz | hz
          · skip
            have hef := hi0 hz
            refine DD ?_
            refine MY (by rintro ⟨a, w, h⟩; first | exact h.elim | exact nomatch h.1 | (obtain ⟨_, h, _⟩ := h; exact nomatch h)) 21 1 [⟨.quiet, [none], fun _ => AV sv (j * 2), []⟩, ⟨.quiet, [none], fun _ => AV sv (j * 2), [0]⟩, ⟨.quiet, [none], fun _ => AV sv (j * 2 + 1), [1]⟩, ⟨.quiet, [none], fun _ => .slice x.A x.l.length x.c, [2]⟩, ⟨.quiet, [none], fun _ => .int .i64 (x.l.length : Int), [3]⟩, ⟨.quiet, [none], fun _ => .bool true, [4]⟩, ⟨.quiet, [none], fun _ => .bool true, [5]⟩, ⟨.quiet, [none], fun _ => .pointer (some ⟨gx, 2, none⟩), [6]⟩, ⟨.quiet, [none], fun _ => .int .u64 e.i, [7, 6]⟩, ⟨.quiet, [none], fun _ => AV sv (j * 2), [6]⟩, ⟨.quiet, [none], fun _ => AV sv (j * 2), [9, 6]⟩, ⟨.quiet, [none], fun _ => AV sv (j * 2 + 0), [10, 6]⟩, ⟨.quiet, [none], fun _ => .int .u64 (x.f : Int), [11, 6]⟩, ⟨.quiet, [none], fun _ => .bool false, [8, 12, 6]⟩, ⟨.quiet, [none], fun _ => .bool false, [6, 13]⟩, ⟨.quiet, [none], fun _ => .bool false, [14]⟩, ⟨.quiet, [none], fun _ => .agg #[.int .i64 q.k, .int .u64 ((AG (Cr d fs j f i)).1), .int .u64 ((AG (Cr d fs j f i)).2), .slice q.A q.n q.c, .int .i64 q.z], [15]⟩, ⟨.quiet, [none], fun _ => .agg #[.int .i64 e.k, .int .u64 e.t, .int .u64 e.i, .slice A e.d.length c, .int .i64 e.c], [15]⟩, ⟨.actv 0, [some false], fun _ => .bool true, [16, 17, 15]⟩, ⟨.quiet, [some true], fun _ => .bool false, [18, 15]⟩, ⟨.quiet, [some true], fun _ => .bool false, [15, 19]⟩] [(2, .pointer (some ⟨gp, 0, none⟩)), (3, .pointer (some ⟨gs, 0, none⟩)), (5, .pointer (some ⟨gx, 0, none⟩)), (6, .int .i64 (n : Int))] (fun ρ => match ρ with | [r0] => [cell gp 34 #[.int .i64 q.k, .int .u64 ((AG (Cr d fs j f i)).1), .int .u64 ((AG (Cr d fs j f i)).2), .slice q.A q.n q.c, .int .i64 q.z], Ak 92 2 encSg sv svs, Bd svs, cell gs 100 #[AV sv (j * 2)], cell gx 34 #[.int .i64 e.k, .int .u64 e.t, .int .u64 e.i, .slice A e.d.length c, .int .i64 e.c], BB L2 (BP r2), Ak 5 1 encB (.slice A e.d.length c) e.d] | _ => []) (by kernel_rfl) (by kernel_rfl) (by kernel_rfl) ⟨rfl, rfl, rfl, rfl, trivial⟩ rfl ?_ ?_
            · skip
              refine Ac (by intro r0_; exact ⟨rfl, fun b w hH hb => AY rfl rfl (Bi BQ rfl) (hH.row 3 rfl) hb⟩) ?_
              refine Ac (by intro r0_; exact ⟨rfl, fun b w hH hb => B0 1 rfl (j := j) (List.getElem?_eq_some_iff.1 hx).1 rfl rfl hH hb⟩) ?_
              refine Ac (by intro r0_; exact ⟨rfl, fun b w hH hb => GJ AT (by decide) (hH.vec 1 rfl AT) (j := j) hx Bo rfl rfl hb⟩) ?_
              refine Ac (by intro r0_; exact ⟨rfl, fun b w hH hb => BD AT (by decide) (hH.vec 1 rfl AT) (j := j) hx Bw (off := 1) rfl rfl rfl hb⟩) ?_
              refine Ac (by intro r0_; exact ⟨rfl, fun b w hH hb => Bp ((DF 2 rfl hx hH)) Tryz.underlying90 rfl rfl hb⟩) ?_
              refine Ac (by intro r0_; exact ⟨rfl, fun b w hH hb => AZ rfl rfl rfl (FI (by omega)) hb⟩) ?_
              refine Ac (by intro r0_; exact ⟨rfl, fun b w hH hb => Ah Ae rfl hb⟩) ?_
              refine Ac (by intro r0_; exact ⟨rfl, fun b w hH hb => Ah Ae rfl hb⟩) ?_
              refine Ac (by intro r0_; exact ⟨rfl, fun b w hH hb => AY rfl rfl (Bi AO rfl) (hH.row 4 rfl) hb⟩) ?_
              refine Ac (by intro r0_; exact ⟨rfl, fun b w hH hb => AY rfl rfl (Bi BQ rfl) (hH.row 3 rfl) hb⟩) ?_
              refine Ac (by intro r0_; exact ⟨rfl, fun b w hH hb => B0 1 rfl (j := j) (List.getElem?_eq_some_iff.1 hx).1 rfl rfl hH hb⟩) ?_
              refine Ac (by intro r0_; exact ⟨rfl, fun b w hH hb => GJ AT (by decide) (hH.vec 1 rfl AT) (j := j) hx Bn rfl rfl hb⟩) ?_
              refine Ac (by intro r0_; exact ⟨rfl, fun b w hH hb => BD AT (by decide) (hH.vec 1 rfl AT) (j := j) hx AO (off := 0) rfl rfl rfl hb⟩) ?_
              refine Ac (by intro r0_; exact ⟨rfl, fun b w hH hb => AZ rfl rfl rfl (Bu (by rw [hxf]; omega)) hb⟩) ?_
              refine Ac (by intro r0_; exact ⟨rfl, fun b w hH hb => Ah Ae rfl hb⟩) ?_
              refine Ac (by intro r0_; exact ⟨rfl, fun b w hH hb => Ah Ae rfl hb⟩) ?_
              refine Ac (by intro r0_; exact ⟨rfl, fun b w hH hb => AY rfl rfl (EY (cs := [.int .i64 q.k, .int .u64 ((AG (Cr d fs j f i)).1), .int .u64 ((AG (Cr d fs j f i)).2), .slice q.A q.n q.c, .int .i64 q.z]) BH rfl) (hH.row 0 rfl) hb⟩) ?_
              refine Ac (by intro r0_; exact ⟨rfl, fun b w hH hb => AY rfl rfl (EY (cs := [.int .i64 e.k, .int .u64 e.t, .int .u64 e.i, .slice A e.d.length c, .int .i64 e.c]) BH rfl) (hH.row 4 rfl) hb⟩) ?_
              refine Ac (by exact ⟨rfl, Bm.su (Bc (Aj Tryz.func45 (by kernel_rfl) rfl) (fun w hH => JH w hfo hb0) rfl rfl rfl) rfl⟩) ?_
              refine Ac (by intro v0_; exact ⟨rfl, fun b w hH hb => Ah Ae rfl hb⟩) ?_
              refine Ac (by intro v0_; exact ⟨rfl, fun b w hH hb => Ah Ae rfl hb⟩) ?_
              exact B7
            intro v0_
            refine BT.keep (env' := [(2, .pointer (some ⟨gp, 0, none⟩)), (3, .pointer (some ⟨gs, 0, none⟩)), (5, .pointer (some ⟨gx, 0, none⟩)), (6, .int .i64 (n : Int)), (35, .bool false)]) ⟨rfl, rfl, rfl, rfl, rfl, trivial⟩ ?_
            refine AD ?_
            refine Fb ?_
            refine Iq rfl ?_
            refine Ir ?_
            refine Fb ?_
            refine DP 2 rfl (F7 hx) (fun _ => rfl) ?_; rintro ⟨⟩
            refine DD ?_
            refine K6 1 rfl ?_
            refine MY (by rintro ⟨a, w, h⟩; first | exact h.elim | exact nomatch h.1 | (obtain ⟨_, h, _⟩ := h; exact nomatch h)) 13 2 [⟨.quiet, [none, none], fun _ => AV sv (j * 2), []⟩, ⟨.quiet, [none, none], fun _ => AV sv (j * 2), []⟩, ⟨.quiet, [none, none], fun _ => AV sv (j * 2), [1]⟩, ⟨.quiet, [none, none], fun _ => AV sv (j * 2 + 1), [2]⟩, ⟨.quiet, [none, none], fun _ => .slice x.A x.l.length x.c, [3]⟩, ⟨.quiet, [none, none], fun _ => .pointer (some ⟨gx, 1, none⟩), []⟩, ⟨.quiet, [none, none], fun _ => .int .u64 e.t, [5]⟩, ⟨.quiet, [none, none], fun _ => .int .i64 (n : Int), []⟩, ⟨.quiet, [none, none], fun _ => .agg #[.int .u64 e.t, .int .i64 (n : Int)], [6, 7]⟩, ⟨.act 0, [some false, some false], fun _ => undef, [8]⟩, ⟨.act 1, [some true, some false], fun _ => undef, [4, 9]⟩, ⟨.quiet, [some true, some true], fun _ => AV sv (j * 2), [0]⟩, ⟨.quiet, [some true, some true], fun _ => AV sv (j * 2 + 1), [11]⟩] [(2, .pointer (some ⟨gp, 0, none⟩)), (3, .pointer (some ⟨gs, 0, none⟩)), (5, .pointer (some ⟨gx, 0, none⟩)), (6, .int .i64 (n : Int))] (fun ρ => match ρ with | [r0, r1] => [DR r0 (fun u1 => Ak 104 2 encMk u1 ([(e.t, n)])) (GE), Bb (fun x : SegV => Ak 104 2 encMk x.v x.l) (svs.take j), DR r1 (fun mv2 => Ak 104 2 encMk mv2 (x.l ++ [(e.t, n)])) (Ak 104 2 encMk (.slice x.A x.l.length x.c) x.l), Bb (fun x : SegV => Ak 104 2 encMk x.v x.l) (svs.drop (j + 1)), cell gp 34 #[.int .i64 q.k, .int .u64 ((AG (Cr d fs j f i)).1), .int .u64 ((AG (Cr d fs j f i)).2), .slice q.A q.n q.c, .int .i64 q.z], Ak 92 2 encSg sv svs, cell gs 100 #[AV sv (j * 2)], cell gx 34 #[.int .i64 e.k, .int .u64 e.t, .int .u64 e.i, .slice A e.d.length c, .int .i64 e.c], BB L2 (BP r2), Ak 5 1 encB (.slice A e.d.length c) e.d] | _ => []) (by kernel_rfl) (by kernel_rfl) (by kernel_rfl) ⟨rfl, rfl, rfl, rfl, trivial⟩ rfl ?_ ?_
            · skip
              refine Ac (by intro r0_ r1_; exact ⟨rfl, fun b w hH hb => AY rfl rfl (Bi BQ rfl) (hH.row 6 rfl) hb⟩) ?_
              refine Ac (by intro r0_ r1_; exact ⟨rfl, fun b w hH hb => AY rfl rfl (Bi BQ rfl) (hH.row 6 rfl) hb⟩) ?_
              refine Ac (by intro r0_ r1_; exact ⟨rfl, fun b w hH hb => B0 5 rfl (j := j) (List.getElem?_eq_some_iff.1 hx).1 rfl rfl hH hb⟩) ?_
              refine Ac (by intro r0_ r1_; exact ⟨rfl, fun b w hH hb => GJ AT (by decide) (hH.vec 5 rfl AT) (j := j) hx Bo rfl rfl hb⟩) ?_
              refine Ac (by intro r0_ r1_; exact ⟨rfl, fun b w hH hb => BD AT (by decide) (hH.vec 5 rfl AT) (j := j) hx Bw (off := 1) rfl rfl rfl hb⟩) ?_
              refine Ac (by intro r0_ r1_; exact ⟨rfl, fun b w hH hb => Ah Ae rfl hb⟩) ?_
              refine Ac (by intro r0_ r1_; exact ⟨rfl, fun b w hH hb => AY rfl rfl (Bi AO rfl) (hH.row 7 rfl) hb⟩) ?_
              refine Ac (by intro r0_ r1_; exact ⟨rfl, fun b w hH hb => Ah Ae rfl hb⟩) ?_
              refine Ac (by intro r0_ r1_; exact ⟨rfl, fun b w hH hb => Bv rfl rfl (by kernel_rfl) hb⟩) ?_
              refine Ac (by exact ⟨rfl, Bm.s (Bm.place (val := fun u1 : Value => u1) (t := fun u1 => Ak 104 2 encMk u1 ([(e.t, n)])) (os' := fun u1 => [Ak 104 2 encMk u1 ([(e.t, n)]), Bb (fun x : SegV => Ak 104 2 encMk x.v x.l) (svs.take j), Ak 104 2 encMk (.slice x.A x.l.length x.c) x.l, Bb (fun x : SegV => Ak 104 2 encMk x.v x.l) (svs.drop (j + 1)), cell gp 34 #[.int .i64 q.k, .int .u64 ((AG (Cr d fs j f i)).1), .int .u64 ((AG (Cr d fs j f i)).2), .slice q.A q.n q.c, .int .i64 q.z], Ak 92 2 encSg sv svs, cell gs 100 #[AV sv (j * 2)], cell gx 34 #[.int .i64 e.k, .int .u64 e.t, .int .u64 e.i, .slice A e.d.length c, .int .i64 e.c], BB L2 (BP r2), Ak 5 1 encB (.slice A e.d.length c) e.d]) 0 rfl (by refine Dl (e := 104) (t := 90) (k := 2) (enc := encMk) (x := .tmp 44) (c := .agg #[.int .u64 e.t, .int .i64 (n : Int)]) ?_ ?_ ?_ (e.t, n) ?_ ?_ ?_; exact Cl; exact (by decide); exact Fd; exact rfl; exact rfl; exact rfl) (fun _ => rfl)) (fun _ => rfl)⟩) ?_
              refine Ac (by intro u1; exact ⟨rfl, Bm.s (Do (nb := 16) 2 Cl Fd (by kernel_rfl) (by decide) rfl ([(e.t, n)]) (fun w hH => hH.vec 0 rfl Fd) (by simp only [List.length_cons, List.length_nil]; omega) rfl rfl rfl rfl) (fun _ => rfl)⟩) ?_
              refine Ac (by intro u1 mv2; exact ⟨rfl, fun b w hH hb => B0 5 rfl (j := j) (List.getElem?_eq_some_iff.1 hx).1 rfl rfl hH hb⟩) ?_
              refine Ac (by intro u1 mv2; exact ⟨rfl, fun b w hH hb => GJ AT (by decide) (hH.vec 5 rfl AT) (j := j) hx Bo rfl rfl hb⟩) ?_
              exact B7
            intro u1 mv2
            refine BT.keep (env' := [(2, .pointer (some ⟨gp, 0, none⟩)), (5, .pointer (some ⟨gx, 0, none⟩)), (46, mv2), (48, AV sv (j * 2 + 1))]) ⟨rfl, rfl, rfl, rfl, trivial⟩ ?_
            refine BT.fact 2 rfl (fun _ h => Ak.is h) ?_; rintro ⟨A2, c2, rfl⟩
            refine BT.keep (env' := [(2, .pointer (some ⟨gp, 0, none⟩)), (5, .pointer (some ⟨gx, 0, none⟩)), (46, .slice A2 (x.l ++ [(e.t, n)]).length c2), (48, AV sv (j * 2 + 1))]) ⟨rfl, rfl, rfl, rfl, trivial⟩ ?_
            refine BT.mid [Ak 104 2 encMk u1 ([(e.t, n)]), Bb (fun x : SegV => Ak 104 2 encMk x.v x.l) (svs.take j), Ak 104 2 encMk (.slice A2 (x.l ++ [(e.t, n)]).length c2) (x.l ++ [(e.t, n)]), Bb (fun x : SegV => Ak 104 2 encMk x.v x.l) (svs.drop (j + 1)), cell gp 34 #[.int .i64 q.k, .int .u64 ((AG (Cr d fs j f i)).1), .int .u64 ((AG (Cr d fs j f i)).2), .slice q.A q.n q.c, .int .i64 q.z], Ak 92 2 encSg sv svs, cell gs 100 #[AV sv (j * 2)], cell gx 34 #[.int .i64 e.k, .int .u64 e.t, .int .u64 e.i, .slice A e.d.length c, .int .i64 e.c], BB L2 (BP r2), Ak 5 1 encB (.slice A e.d.length c) e.d] (.refl _) ?_
            refine Af Ae rfl ?_
            refine AL (post := fun _ => [Ak 104 2 encMk u1 ([(e.t, n)]), Bb (fun x : SegV => Ak 104 2 encMk x.v x.l) (svs.take j), Ak 104 2 encMk (.slice A2 (x.l ++ [(e.t, n)]).length c2) (x.l ++ [(e.t, n)]), Bb (fun x : SegV => Ak 104 2 encMk x.v x.l) (svs.drop (j + 1)), cell gp 34 #[.int .i64 q.k, .int .u64 ((AG (Cr d fs j f i)).1), .int .u64 ((AG (Cr d fs j f i)).2), .slice q.A q.n q.c, .int .i64 q.z], Ak 92 2 encSg sv (svs.set j (⟨x.f, x.l ++ [(e.t, n)], A2, c2⟩ : SegV)), cell gs 100 #[AV sv (j * 2)], cell gx 34 #[.int .i64 e.k, .int .u64 e.t, .int .u64 e.i, .slice A e.d.length c, .int .i64 e.c], BB L2 (BP r2), Ak 5 1 encB (.slice A e.d.length c) e.d]) rfl rfl (IV 5 AT rfl j (a := x) (b := (⟨x.f, x.l ++ [(e.t, n)], A2, c2⟩ : SegV)) hx Bw.2 rfl rfl (by decide) rfl rfl rfl rfl rfl) ?_; rintro ⟨⟩
            refine AD ?_
            refine Fb ?_
            refine Dm (by kernel_rfl) (by rintro ⟨a, w, h⟩; first | exact h.elim | exact nomatch h.1 | (obtain ⟨_, h, _⟩ := h; exact nomatch h)) ?_
            refine Af Ae rfl ?_
            refine Aa rfl (.agg #[.int .i64 e.k, .int .u64 e.t, .int .u64 e.i, .slice A e.d.length c, .int .i64 e.c]) (fun b w hb hH => AY rfl rfl (EY (cs := [.int .i64 e.k, .int .u64 e.t, .int .u64 e.i, .slice A e.d.length c, .int .i64 e.c]) BH rfl) (hH.row 7 rfl) hb) ?_
            refine AL (post := fun _ => [Ak 104 2 encMk u1 ([(e.t, n)]), Bb (fun x : SegV => Ak 104 2 encMk x.v x.l) (svs.take j), Ak 104 2 encMk (.slice A2 (x.l ++ [(e.t, n)]).length c2) (x.l ++ [(e.t, n)]), Bb (fun x : SegV => Ak 104 2 encMk x.v x.l) (svs.drop (j + 1)), cell gp 34 #[.int .i64 e.k, .int .u64 e.t, .int .u64 e.i, .slice A e.d.length c, .int .i64 e.c], Ak 92 2 encSg sv (svs.set j (⟨x.f, x.l ++ [(e.t, n)], A2, c2⟩ : SegV)), cell gs 100 #[AV sv (j * 2)], cell gx 34 #[.int .i64 e.k, .int .u64 e.t, .int .u64 e.i, .slice A e.d.length c, .int .i64 e.c], BB L2 (BP r2), Ak 5 1 encB (.slice A e.d.length c) e.d]) rfl rfl (AU 4 (v := .agg #[.int .i64 e.k, .int .u64 e.t, .int .u64 e.i, .slice A e.d.length c, .int .i64 e.c]) #[.int .i64 e.k, .int .u64 e.t, .int .u64 e.i, .slice A e.d.length c, .int .i64 e.c] BH.2 rfl rfl rfl rfl rfl rfl rfl rfl rfl) ?_; rintro ⟨⟩
            refine AD (AW ?_)
            refine CN [1, 2, 3] rfl (I7 (y := (⟨x.f, x.l ++ [(e.t, n)], A2, c2⟩ : SegV)) hjl) rfl ?_
            refine CN [2] rfl (Hc (m := AG (Cr d fs j f (i + 1))) (by rw [Mo hei, DG])) rfl ?_
            refine CN [3, 1, 4, 0] rfl (P2 (TP hf hm hx hxf hxl hei)) rfl ?_
            exact FE [3, 0] rfl rfl
          · skip
            refine DD ?_
            refine MY (by rintro ⟨a, w, h⟩; first | exact h.elim | exact nomatch h.1 | (obtain ⟨_, h, _⟩ := h; exact nomatch h)) 21 1 [⟨.quiet, [none], fun _ => AV sv (j * 2), []⟩, ⟨.quiet, [none], fun _ => AV sv (j * 2), [0]⟩, ⟨.quiet, [none], fun _ => AV sv (j * 2 + 1), [1]⟩, ⟨.quiet, [none], fun _ => .slice x.A x.l.length x.c, [2]⟩, ⟨.quiet, [none], fun _ => .int .i64 (x.l.length : Int), [3]⟩, ⟨.quiet, [none], fun _ => .bool false, [4]⟩, ⟨.quiet, [none], fun _ => .bool false, [5]⟩, ⟨.skip, [none], fun _ => undef, [6]⟩, ⟨.skip, [none], fun _ => undef, [7, 6]⟩, ⟨.skip, [none], fun _ => undef, [6]⟩, ⟨.skip, [none], fun _ => undef, [9, 6]⟩, ⟨.skip, [none], fun _ => undef, [10, 6]⟩, ⟨.skip, [none], fun _ => undef, [11, 6]⟩, ⟨.skip, [none], fun _ => undef, [8, 12, 6]⟩, ⟨.quiet, [none], fun _ => .bool false, [6, 13]⟩, ⟨.quiet, [none], fun _ => .bool false, [14]⟩, ⟨.quiet, [none], fun _ => .agg #[.int .i64 q.k, .int .u64 ((AG (Cr d fs j f i)).1), .int .u64 ((AG (Cr d fs j f i)).2), .slice q.A q.n q.c, .int .i64 q.z], [15]⟩, ⟨.quiet, [none], fun _ => .agg #[.int .i64 e.k, .int .u64 e.t, .int .u64 e.i, .slice A e.d.length c, .int .i64 e.c], [15]⟩, ⟨.actv 0, [some false], fun _ => .bool true, [16, 17, 15]⟩, ⟨.quiet, [some true], fun _ => .bool false, [18, 15]⟩, ⟨.quiet, [some true], fun _ => .bool false, [15, 19]⟩] [(2, .pointer (some ⟨gp, 0, none⟩)), (3, .pointer (some ⟨gs, 0, none⟩)), (5, .pointer (some ⟨gx, 0, none⟩)), (6, .int .i64 (n : Int))] (fun ρ => match ρ with | [r0] => [cell gp 34 #[.int .i64 q.k, .int .u64 ((AG (Cr d fs j f i)).1), .int .u64 ((AG (Cr d fs j f i)).2), .slice q.A q.n q.c, .int .i64 q.z], Ak 92 2 encSg sv svs, Bd svs, cell gs 100 #[AV sv (j * 2)], cell gx 34 #[.int .i64 e.k, .int .u64 e.t, .int .u64 e.i, .slice A e.d.length c, .int .i64 e.c], BB L2 (BP r2), Ak 5 1 encB (.slice A e.d.length c) e.d] | _ => []) (by kernel_rfl) (by kernel_rfl) (by kernel_rfl) ⟨rfl, rfl, rfl, rfl, trivial⟩ rfl ?_ ?_
            · skip
              refine Ac (by intro r0_; exact ⟨rfl, fun b w hH hb => AY rfl rfl (Bi BQ rfl) (hH.row 3 rfl) hb⟩) ?_
              refine Ac (by intro r0_; exact ⟨rfl, fun b w hH hb => B0 1 rfl (j := j) (List.getElem?_eq_some_iff.1 hx).1 rfl rfl hH hb⟩) ?_
              refine Ac (by intro r0_; exact ⟨rfl, fun b w hH hb => GJ AT (by decide) (hH.vec 1 rfl AT) (j := j) hx Bo rfl rfl hb⟩) ?_
              refine Ac (by intro r0_; exact ⟨rfl, fun b w hH hb => BD AT (by decide) (hH.vec 1 rfl AT) (j := j) hx Bw (off := 1) rfl rfl rfl hb⟩) ?_
              refine Ac (by intro r0_; exact ⟨rfl, fun b w hH hb => Bp ((DF 2 rfl hx hH)) Tryz.underlying90 rfl rfl hb⟩) ?_
              refine Ac (by intro r0_; exact ⟨rfl, fun b w hH hb => AZ rfl rfl rfl (EK (by omega)) hb⟩) ?_
              refine Ac (by intro r0_; exact ⟨rfl, fun b w hH hb => Ah Ae rfl hb⟩) ?_
              refine Ac (by intro r0_; exact ⟨rfl, rfl⟩) ?_
              refine Ac (by intro r0_; exact ⟨rfl, rfl⟩) ?_
              refine Ac (by intro r0_; exact ⟨rfl, rfl⟩) ?_
              refine Ac (by intro r0_; exact ⟨rfl, rfl⟩) ?_
              refine Ac (by intro r0_; exact ⟨rfl, rfl⟩) ?_
              refine Ac (by intro r0_; exact ⟨rfl, rfl⟩) ?_
              refine Ac (by intro r0_; exact ⟨rfl, rfl⟩) ?_
              refine Ac (by intro r0_; exact ⟨rfl, fun b w hH hb => Ah Ae rfl hb⟩) ?_
              refine Ac (by intro r0_; exact ⟨rfl, fun b w hH hb => Ah Ae rfl hb⟩) ?_
              refine Ac (by intro r0_; exact ⟨rfl, fun b w hH hb => AY rfl rfl (EY (cs := [.int .i64 q.k, .int .u64 ((AG (Cr d fs j f i)).1), .int .u64 ((AG (Cr d fs j f i)).2), .slice q.A q.n q.c, .int .i64 q.z]) BH rfl) (hH.row 0 rfl) hb⟩) ?_
              refine Ac (by intro r0_; exact ⟨rfl, fun b w hH hb => AY rfl rfl (EY (cs := [.int .i64 e.k, .int .u64 e.t, .int .u64 e.i, .slice A e.d.length c, .int .i64 e.c]) BH rfl) (hH.row 4 rfl) hb⟩) ?_
              refine Ac (by exact ⟨rfl, Bm.su (Bc (Aj Tryz.func45 (by kernel_rfl) rfl) (fun w hH => JH w hfo hb0) rfl rfl rfl) rfl⟩) ?_
              refine Ac (by intro v0_; exact ⟨rfl, fun b w hH hb => Ah Ae rfl hb⟩) ?_
              refine Ac (by intro v0_; exact ⟨rfl, fun b w hH hb => Ah Ae rfl hb⟩) ?_
              exact B7
            intro v0_
            refine BT.keep (env' := [(2, .pointer (some ⟨gp, 0, none⟩)), (3, .pointer (some ⟨gs, 0, none⟩)), (5, .pointer (some ⟨gx, 0, none⟩)), (6, .int .i64 (n : Int)), (35, .bool false)]) ⟨rfl, rfl, rfl, rfl, rfl, trivial⟩ ?_
            refine AD ?_
            refine Fb ?_
            refine Iq rfl ?_
            refine Ir ?_
            refine Fb ?_
            refine DP 2 rfl (F7 hx) (fun _ => rfl) ?_; rintro ⟨⟩
            refine DD ?_
            refine K6 1 rfl ?_
            refine MY (by rintro ⟨a, w, h⟩; first | exact h.elim | exact nomatch h.1 | (obtain ⟨_, h, _⟩ := h; exact nomatch h)) 13 2 [⟨.quiet, [none, none], fun _ => AV sv (j * 2), []⟩, ⟨.quiet, [none, none], fun _ => AV sv (j * 2), []⟩, ⟨.quiet, [none, none], fun _ => AV sv (j * 2), [1]⟩, ⟨.quiet, [none, none], fun _ => AV sv (j * 2 + 1), [2]⟩, ⟨.quiet, [none, none], fun _ => .slice x.A x.l.length x.c, [3]⟩, ⟨.quiet, [none, none], fun _ => .pointer (some ⟨gx, 1, none⟩), []⟩, ⟨.quiet, [none, none], fun _ => .int .u64 e.t, [5]⟩, ⟨.quiet, [none, none], fun _ => .int .i64 (n : Int), []⟩, ⟨.quiet, [none, none], fun _ => .agg #[.int .u64 e.t, .int .i64 (n : Int)], [6, 7]⟩, ⟨.act 0, [some false, some false], fun _ => undef, [8]⟩, ⟨.act 1, [some true, some false], fun _ => undef, [4, 9]⟩, ⟨.quiet, [some true, some true], fun _ => AV sv (j * 2), [0]⟩, ⟨.quiet, [some true, some true], fun _ => AV sv (j * 2 + 1), [11]⟩] [(2, .pointer (some ⟨gp, 0, none⟩)), (3, .pointer (some ⟨gs, 0, none⟩)), (5, .pointer (some ⟨gx, 0, none⟩)), (6, .int .i64 (n : Int))] (fun ρ => match ρ with | [r0, r1] => [DR r0 (fun u2 => Ak 104 2 encMk u2 ([(e.t, n)])) (GE), Bb (fun x : SegV => Ak 104 2 encMk x.v x.l) (svs.take j), DR r1 (fun mv2 => Ak 104 2 encMk mv2 (x.l ++ [(e.t, n)])) (Ak 104 2 encMk (.slice x.A x.l.length x.c) x.l), Bb (fun x : SegV => Ak 104 2 encMk x.v x.l) (svs.drop (j + 1)), cell gp 34 #[.int .i64 q.k, .int .u64 ((AG (Cr d fs j f i)).1), .int .u64 ((AG (Cr d fs j f i)).2), .slice q.A q.n q.c, .int .i64 q.z], Ak 92 2 encSg sv svs, cell gs 100 #[AV sv (j * 2)], cell gx 34 #[.int .i64 e.k, .int .u64 e.t, .int .u64 e.i, .slice A e.d.length c, .int .i64 e.c], BB L2 (BP r2), Ak 5 1 encB (.slice A e.d.length c) e.d] | _ => []) (by kernel_rfl) (by kernel_rfl) (by kernel_rfl) ⟨rfl, rfl, rfl, rfl, trivial⟩ rfl ?_ ?_
            · skip
              refine Ac (by intro r0_ r1_; exact ⟨rfl, fun b w hH hb => AY rfl rfl (Bi BQ rfl) (hH.row 6 rfl) hb⟩) ?_
              refine Ac (by intro r0_ r1_; exact ⟨rfl, fun b w hH hb => AY rfl rfl (Bi BQ rfl) (hH.row 6 rfl) hb⟩) ?_
              refine Ac (by intro r0_ r1_; exact ⟨rfl, fun b w hH hb => B0 5 rfl (j := j) (List.getElem?_eq_some_iff.1 hx).1 rfl rfl hH hb⟩) ?_
              refine Ac (by intro r0_ r1_; exact ⟨rfl, fun b w hH hb => GJ AT (by decide) (hH.vec 5 rfl AT) (j := j) hx Bo rfl rfl hb⟩) ?_
              refine Ac (by intro r0_ r1_; exact ⟨rfl, fun b w hH hb => BD AT (by decide) (hH.vec 5 rfl AT) (j := j) hx Bw (off := 1) rfl rfl rfl hb⟩) ?_
              refine Ac (by intro r0_ r1_; exact ⟨rfl, fun b w hH hb => Ah Ae rfl hb⟩) ?_
              refine Ac (by intro r0_ r1_; exact ⟨rfl, fun b w hH hb => AY rfl rfl (Bi AO rfl) (hH.row 7 rfl) hb⟩) ?_
              refine Ac (by intro r0_ r1_; exact ⟨rfl, fun b w hH hb => Ah Ae rfl hb⟩) ?_
              refine Ac (by intro r0_ r1_; exact ⟨rfl, fun b w hH hb => Bv rfl rfl (by kernel_rfl) hb⟩) ?_
              refine Ac (by exact ⟨rfl, Bm.s (Bm.place (val := fun u2 : Value => u2) (t := fun u2 => Ak 104 2 encMk u2 ([(e.t, n)])) (os' := fun u2 => [Ak 104 2 encMk u2 ([(e.t, n)]), Bb (fun x : SegV => Ak 104 2 encMk x.v x.l) (svs.take j), Ak 104 2 encMk (.slice x.A x.l.length x.c) x.l, Bb (fun x : SegV => Ak 104 2 encMk x.v x.l) (svs.drop (j + 1)), cell gp 34 #[.int .i64 q.k, .int .u64 ((AG (Cr d fs j f i)).1), .int .u64 ((AG (Cr d fs j f i)).2), .slice q.A q.n q.c, .int .i64 q.z], Ak 92 2 encSg sv svs, cell gs 100 #[AV sv (j * 2)], cell gx 34 #[.int .i64 e.k, .int .u64 e.t, .int .u64 e.i, .slice A e.d.length c, .int .i64 e.c], BB L2 (BP r2), Ak 5 1 encB (.slice A e.d.length c) e.d]) 0 rfl (by refine Dl (e := 104) (t := 90) (k := 2) (enc := encMk) (x := .tmp 44) (c := .agg #[.int .u64 e.t, .int .i64 (n : Int)]) ?_ ?_ ?_ (e.t, n) ?_ ?_ ?_; exact Cl; exact (by decide); exact Fd; exact rfl; exact rfl; exact rfl) (fun _ => rfl)) (fun _ => rfl)⟩) ?_
              refine Ac (by intro u2; exact ⟨rfl, Bm.s (Do (nb := 16) 2 Cl Fd (by kernel_rfl) (by decide) rfl ([(e.t, n)]) (fun w hH => hH.vec 0 rfl Fd) (by simp only [List.length_cons, List.length_nil]; omega) rfl rfl rfl rfl) (fun _ => rfl)⟩) ?_
              refine Ac (by intro u2 mv2; exact ⟨rfl, fun b w hH hb => B0 5 rfl (j := j) (List.getElem?_eq_some_iff.1 hx).1 rfl rfl hH hb⟩) ?_
              refine Ac (by intro u2 mv2; exact ⟨rfl, fun b w hH hb => GJ AT (by decide) (hH.vec 5 rfl AT) (j := j) hx Bo rfl rfl hb⟩) ?_
              exact B7
            intro u2 mv2
            refine BT.keep (env' := [(2, .pointer (some ⟨gp, 0, none⟩)), (5, .pointer (some ⟨gx, 0, none⟩)), (46, mv2), (48, AV sv (j * 2 + 1))]) ⟨rfl, rfl, rfl, rfl, trivial⟩ ?_
            refine BT.fact 2 rfl (fun _ h => Ak.is h) ?_; rintro ⟨A2, c2, rfl⟩
            refine BT.keep (env' := [(2, .pointer (some ⟨gp, 0, none⟩)), (5, .pointer (some ⟨gx, 0, none⟩)), (46, .slice A2 (x.l ++ [(e.t, n)]).length c2), (48, AV sv (j * 2 + 1))]) ⟨rfl, rfl, rfl, rfl, trivial⟩ ?_
            refine BT.mid [Ak 104 2 encMk u2 ([(e.t, n)]), Bb (fun x : SegV => Ak 104 2 encMk x.v x.l) (svs.take j), Ak 104 2 encMk (.slice A2 (x.l ++ [(e.t, n)]).length c2) (x.l ++ [(e.t, n)]), Bb (fun x : SegV => Ak 104 2 encMk x.v x.l) (svs.drop (j + 1)), cell gp 34 #[.int .i64 q.k, .int .u64 ((AG (Cr d fs j f i)).1), .int .u64 ((AG (Cr d fs j f i)).2), .slice q.A q.n q.c, .int .i64 q.z], Ak 92 2 encSg sv svs, cell gs 100 #[AV sv (j * 2)], cell gx 34 #[.int .i64 e.k, .int .u64 e.t, .int .u64 e.i, .slice A e.d.length c, .int .i64 e.c], BB L2 (BP r2), Ak 5 1 encB (.slice A e.d.length c) e.d] (.refl _) ?_
            refine Af Ae rfl ?_
            refine AL (post := fun _ => [Ak 104 2 encMk u2 ([(e.t, n)]), Bb (fun x : SegV => Ak 104 2 encMk x.v x.l) (svs.take j), Ak 104 2 encMk (.slice A2 (x.l ++ [(e.t, n)]).length c2) (x.l ++ [(e.t, n)]), Bb (fun x : SegV => Ak 104 2 encMk x.v x.l) (svs.drop (j + 1)), cell gp 34 #[.int .i64 q.k, .int .u64 ((AG (Cr d fs j f i)).1), .int .u64 ((AG (Cr d fs j f i)).2), .slice q.A q.n q.c, .int .i64 q.z], Ak 92 2 encSg sv (svs.set j (⟨x.f, x.l ++ [(e.t, n)], A2, c2⟩ : SegV)), cell gs 100 #[AV sv (j * 2)], cell gx 34 #[.int .i64 e.k, .int .u64 e.t, .int .u64 e.i, .slice A e.d.length c, .int .i64 e.c], BB L2 (BP r2), Ak 5 1 encB (.slice A e.d.length c) e.d]) rfl rfl (IV 5 AT rfl j (a := x) (b := (⟨x.f, x.l ++ [(e.t, n)], A2, c2⟩ : SegV)) hx Bw.2 rfl rfl (by decide) rfl rfl rfl rfl rfl) ?_; rintro ⟨⟩
            refine AD ?_
            refine Fb ?_
            refine Dm (by kernel_rfl) (by rintro ⟨a, w, h⟩; first | exact h.elim | exact nomatch h.1 | (obtain ⟨_, h, _⟩ := h; exact nomatch h)) ?_
            refine Af Ae rfl ?_
            refine Aa rfl (.agg #[.int .i64 e.k, .int .u64 e.t, .int .u64 e.i, .slice A e.d.length c, .int .i64 e.c]) (fun b w hb hH => AY rfl rfl (EY (cs := [.int .i64 e.k, .int .u64 e.t, .int .u64 e.i, .slice A e.d.length c, .int .i64 e.c]) BH rfl) (hH.row 7 rfl) hb) ?_
            refine AL (post := fun _ => [Ak 104 2 encMk u2 ([(e.t, n)]), Bb (fun x : SegV => Ak 104 2 encMk x.v x.l) (svs.take j), Ak 104 2 encMk (.slice A2 (x.l ++ [(e.t, n)]).length c2) (x.l ++ [(e.t, n)]), Bb (fun x : SegV => Ak 104 2 encMk x.v x.l) (svs.drop (j + 1)), cell gp 34 #[.int .i64 e.k, .int .u64 e.t, .int .u64 e.i, .slice A e.d.length c, .int .i64 e.c], Ak 92 2 encSg sv (svs.set j (⟨x.f, x.l ++ [(e.t, n)], A2, c2⟩ : SegV)), cell gs 100 #[AV sv (j * 2)], cell gx 34 #[.int .i64 e.k, .int .u64 e.t, .int .u64 e.i, .slice A e.d.length c, .int .i64 e.c], BB L2 (BP r2), Ak 5 1 encB (.slice A e.d.length c) e.d]) rfl rfl (AU 4 (v := .agg #[.int .i64 e.k, .int .u64 e.t, .int .u64 e.i, .slice A e.d.length c, .int .i64 e.c]) #[.int .i64 e.k, .int .u64 e.t, .int .u64 e.i, .slice A e.d.length c, .int .i64 e.c] BH.2 rfl rfl rfl rfl rfl rfl rfl rfl rfl) ?_; rintro ⟨⟩
            refine AD (AW ?_)
            refine CN [1, 2, 3] rfl (I7 (y := (⟨x.f, x.l ++ [(e.t, n)], A2, c2⟩ : SegV)) hjl) rfl ?_
            refine CN [2] rfl (Hc (m := AG (Cr d fs j f (i + 1))) (by rw [Mo hei, DG])) rfl ?_
            refine CN [3, 1, 4, 0] rfl (P2 (TP hf hm hx hxf hxl hei)) rfl ?_
            exact FE [3, 0] rfl rfl
      refine V6 0 rfl (P1.end_ hf) (fun _ => rfl) ?_; rintro svs
      refine CC.fact 4 rfl (fun _ h => h.2) ?_; rintro hm
      refine CC.leave [4] rfl rfl ?_
      replace hm : svs.map SegV.m = GK d fs j ((Cn d f).length) := hm
      obtain ⟨x, hx, hxf, hxl⟩ := P0 hf hm
      rw [TO hf] at hm
      obtain ⟨m, hmw, hmn⟩ := hwh j f b hf hb_
      have hxl2 : x.l = CA d f := by rw [hxl]; exact List.take_of_length_le (by unfold CA; rw [List.length_map]; exact Nat.le_refl _)
      have hmx : x.l[x.l.length - 1]? = some m := by rw [hxl2, ← List.getLast?_eq_getElem?]; exact hmw
      have hx0 : 0 < x.l.length := Nat.pos_of_ne_zero (fun h0 => by rw [List.length_eq_zero_iff.1 h0] at hmx; cases hmx)
      have hle := M8 hf hL
      have hxL : x.l.length ≤ 1000000 := by rw [hxl2]; unfold CA; rw [List.length_map]; exact hle
      refine CC.keep (env' := [(10, .slice A0 b.length c0), (9, AV sv (j * 2)), (0, .pointer (some ⟨p, 0, none⟩)), (2, .pointer (some ⟨gp, 0, none⟩)), (7, .pointer (some ⟨p, 0, none⟩)), (8, .func (.func 134) #[] #[.pointer (some ⟨gf, 0, none⟩)]), (3, .pointer (some ⟨gs, 0, none⟩)), (4, .slice A0 b.length c0), (11, .slice A0 b.length c0), (12, .func (.func 135) #[] #[.pointer (some ⟨ge, 0, none⟩)])]) ⟨rfl, rfl, rfl, rfl, rfl, rfl, rfl, rfl, rfl, rfl, trivial⟩ ?_
      refine CC.mid [Ak 92 2 encSg sv svs, Bd svs, cell gs 100 #[AV sv (j * 2)], Ct gp (AG (By d (fs.take (j + 1)))), Ak 5 1 encB (.slice A0 b.length c0) b, cell ge 30 #[.slice A0 b.length c0], cell p 87 #[.pointer (some ⟨dk, 0, none⟩), .int .i64 (lim : Int), sv], Ag dk d, Ao tb, BB L1 (BP r1)] (.refl _) ?_
      refine AW ?_
      refine Fb ?_
      refine DD (Dm (by kernel_rfl) (by rintro ⟨a, w, h⟩; first | exact h.elim | exact nomatch h.1 | (obtain ⟨_, h, _⟩ := h; exact nomatch h)) ?_)
      refine Af Ae rfl ?_
      refine Aa rfl (AV sv (j * 2)) (fun b w hb hH => AY rfl rfl (Bi BQ rfl) (hH.row 2 rfl) hb) ?_
      refine Aa rfl (AV sv (j * 2)) (fun b w hb hH => B0 0 rfl (j := j) (List.getElem?_eq_some_iff.1 hx).1 rfl rfl hH hb) ?_
      refine Aa rfl (AV sv (j * 2 + 1)) (fun b w hb hH => GJ AT (by decide) (hH.vec 0 rfl AT) (j := j) hx Bo rfl rfl hb) ?_
      refine Aa rfl (.slice x.A x.l.length x.c) (fun b w hb hH => BD AT (by decide) (hH.vec 0 rfl AT) (j := j) hx Bw (off := 1) rfl rfl rfl hb) ?_
      refine Aa rfl (.int .i64 (x.l.length : Int)) (fun b w hb hH => Bp ((DF 1 rfl hx hH)) Tryz.underlying90 rfl rfl hb) ?_
      refine Aa rfl (.bool false) (fun b w hb hH => AZ rfl rfl rfl (EK (by omega)) hb) ?_
      refine Af Ae rfl ?_
      refine Aa rfl (AV sv (j * 2)) (fun b w hb hH => AY rfl rfl (Bi BQ rfl) (hH.row 2 rfl) hb) ?_
      refine Aa rfl (AV sv (j * 2)) (fun b w hb hH => B0 0 rfl (j := j) (List.getElem?_eq_some_iff.1 hx).1 rfl rfl hH hb) ?_
      refine Aa rfl (.agg (encSg x).toArray) (fun b w hb hH => Dz AT (by decide) (hH.vec 0 rfl AT) (j := j) hx B5 rfl rfl hb) ?_
      refine Am (post := fun _ => [Ak 92 2 encSg sv svs, Bd svs, cell gs 100 #[AV sv (j * 2)], Ct gp (AG (By d (fs.take (j + 1)))), Ak 5 1 encB (.slice A0 b.length c0) b, cell ge 30 #[.slice A0 b.length c0], cell p 87 #[.pointer (some ⟨dk, 0, none⟩), .int .i64 (lim : Int), sv], Ag dk d, Ao tb, BB L1 (BP r1)]) rfl (Bc (Aj Tryz.func93 (by kernel_rfl) rfl) (fun w hH => Lj w (DF 1 rfl hx hH) hmx hx0 hxL) rfl rfl rfl) ?_; rintro ⟨⟩
      refine Af Ae rfl ?_
      refine Aa rfl (.int .i64 (b.length : Int)) (fun b w hb hH => DL Bf rfl rfl hH hb) ?_
      refine Aa rfl (.bool false) (fun b w hb hH => AZ rfl rfl rfl (BU (by omega)) hb) ?_
      refine Af Ae rfl ?_
      refine AD (Fb ?_)
      refine Iq rfl ?_
      refine Ir ?_
      refine AW ?_
      refine CN [1, 3] rfl (QS hm) rfl ?_
      refine CN [5, 1, 6, 7, 0] rfl (JG (R := (fun svs => Fq [Bd svs, Ct gp (AG (By d (fs.take (j + 1)))), fact (svs.map SegV.m = GK d fs (j + 1) 0)])) (VT hm)) rfl ?_
      exact FE [4, 0] rfl rfl
  intro D aT wT hDm hD0 hdf hF hH
  obtain ⟨svs, hH⟩ := Fc 0 rfl F6.open_ hH
  obtain ⟨_, hH⟩ := Fc 4 rfl HF hH
  have hm3 := EQ (p := svs.map SegV.m = GK d fs N 0) 2 rfl (fun _ h => h.2) hH
  rw [Vh hN] at hm3
  replace hH := Oo (os := [Bd svs, Ct gp (AG (By d (fs.take N))), fact (svs.map SegV.m = GK d fs N 0), cell p 87 #[.pointer (some ⟨dk, 0, none⟩), .int .i64 (lim : Int), sv], Ak 92 2 encSg sv svs, Ag dk d, Ao tb, fact (svs.map SegV.f = fs), cell gf 26 #[.pointer (some ⟨p, 0, none⟩)]]) (t := AA p dk lim (marksM d fs)) [3, 4, 0] rfl (Dv hm3) hH
  exact K8 (e := .normal) rfl (fun w' h => AC (X := Unit) (val := fun _ => .tuple #[]) (post := fun _ => [AA p dk lim (marksM d fs), Ag dk d, Ao tb]) (os := [AA p dk lim (marksM d fs), Ct gp (AG (By d (fs.take N))), fact (svs.map SegV.m = GK d fs N 0), Ag dk d, Ao tb, fact (svs.map SegV.f = fs), cell gf 26 #[.pointer (some ⟨p, 0, none⟩)]]) () rfl [0, 3, 4] rfl h Ed) (by simp) D aT wT hDm hD0 hdf hF hH
end Go.Proofs.YtnknboibmifacaaGreatDoor.Sep
