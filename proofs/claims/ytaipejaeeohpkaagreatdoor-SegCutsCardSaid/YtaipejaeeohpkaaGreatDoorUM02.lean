/-
  SgW
-/
import Derived.Test.YtaipejaeeohpkaaGreatDoorUM01
set_option linter.unusedSimpArgs false
set_option linter.unusedVariables false
namespace Go.Proofs.YtaipejaeeohpkaaGreatDoor.Sep
open Go.RowKit
open Go.Proofs.YtaipejaeeohpkaaGreatDoor.Mem (Dist Blk Chg below0)
set_option maxRecDepth 100000 in
theorem load_whole {p dk lim : Nat} {d : DiskD} {fs : List Nat} {N : Nat} (tb : Tb) (hd : d.fit) (hfs : ∀ f, f ∈ fs → f ≤ 72057594037927935) (hfl : fs.length ≤ 1000000) (hN : fs.length = N) (hL : (listM d fs).length ≤ 1000000) (hbl : ∀ f b, f ∈ fs → (readD d (nameL f)).getD [] = b → b.length ≤ 137438953472)
  (hok : ∀ (j f i : Nat) (e : EntD) (n : Nat), fs[j]? = some f → (entsB d f)[i]? = some (e, n) → (i = 0 → e.i = f) ∧ ((lastIT (upTo d fs j f i)).2 = 0 ∨ ((lastIT (upTo d fs j f i)).2 ≠ 0 ∧ e.i = (lastIT (upTo d fs j f i)).2 + 1 ∧ (lastIT (upTo d fs j f i)).1 ≤ e.t)) ∧ 0 ≤ (lastIT (upTo d fs j f i)).2 ∧ (lastIT (upTo d fs j f i)).2 ≤ 72057594037927935)
  (hwh : ∀ (j f : Nat) (b : List UInt8), fs[j]? = some f → (readD d (nameL f)).getD [] = b → ∃ m, (marksB d f).getLast? = some m ∧ m.2 = b.length) : Does Tryz.prog 41 #[.pointer (some ⟨p, 0, none⟩)] [LogT p dk lim (fs.map fun f => (f, [])), DiskT dk d, TabZ tb] (fun (_ : Unit) => .tuple #[]) (fun (_ : Unit) => [LogT p dk lim (marksM d fs), DiskT dk d, TabZ tb]) := by
  refine d_insM (args := [.pointer (some ⟨p, 0, none⟩)]) 65 Tryz.func41 rfl rfl rfl ?_; intro w rs
  refine d_open 0 rfl LogT.open_ (fun _ => rfl) ?_; rintro ⟨sv, svs⟩
  refine WC2.fact 3 rfl (fun _ h => h.2) ?_; rintro hm0
  refine WC2.leave [3] rfl rfl ?_
  replace hm0 : svs.map SegV.m = stM d fs 0 0 := by rw [stM_0]; exact hm0
  refine d_scope ?_
  refine d_reg ?_
  refine h_q hflT rfl ?_
  refine h_act (post := fun gp => [cell gp 34 #[.int .i64 0, .int .u64 0, .int .u64 0, .slice none 0 0, .int .i64 0], cell p 87 #[.pointer (some ⟨dk, 0, none⟩), .int .i64 (lim : Int), sv], Vec 92 2 encSg sv svs, MksE svs, DiskT dk d, TabZ tb]) rfl (a_alloc ze_api_Entry rfl) ?_; rintro gp
  refine h_done (d_seq ?_)
  refine d_label ?_
  refine f_to ?_
  refine d_close [0] rfl (prevT_0 (d := d) (fs := fs)) rfl ?_
  refine d_close [3, 0] rfl (segR_mk hm0) rfl ?_
  refine d_close [1, 2, 3, 4, 0] rfl (sgI_mk (R := (fun svs => star [MksE svs, PrevT gp (lastIT (listM d (fs.take 0))), fact (svs.map SegV.m = stM d fs 0 0)])) (st_fs hm0)) rfl ?_
  refine WC2.keep (env' := [(0, .pointer (some ⟨p, 0, none⟩)), (2, .pointer (some ⟨gp, 0, none⟩))]) ⟨rfl, rfl, trivial⟩ ?_
  refine WC2.mid [SgI p dk lim sv d tb fs (fun svs => star [MksE svs, PrevT gp (lastIT (listM d (fs.take 0))), fact (svs.map SegV.m = stM d fs 0 0)])] (.refl _) ?_
  refine d_reg ?_
  refine h_q hflT rfl ?_
  refine h_act (post := fun gf => [cell gf 26 #[.pointer (some ⟨p, 0, none⟩)], SgI p dk lim sv d tb fs (fun svs => star [MksE svs, PrevT gp (lastIT (listM d (fs.take 0))), fact (svs.map SegV.m = stM d fs 0 0)])]) rfl (a_does (os' := fun gf => [cell gf 26 #[.pointer (some ⟨p, 0, none⟩)], SgI p dk lim sv d tb fs (fun svs => star [MksE svs, PrevT gp (lastIT (listM d (fs.take 0))), fact (svs.map SegV.m = stM d fs 0 0)])]) [] 0 (ent_of Tryz.func85 (by kernel_rfl) rfl) (files_does) rfl rfl rfl (fun _ => rfl) rfl rfl rfl) ?_; rintro gf
  refine h_done (d_block ?_)
  refine WC2.keep (env' := [(0, .pointer (some ⟨p, 0, none⟩)), (2, .pointer (some ⟨gp, 0, none⟩)), (7, .pointer (some ⟨p, 0, none⟩)), (8, .func (.func 134) #[] #[.pointer (some ⟨gf, 0, none⟩)])]) ⟨rfl, rfl, rfl, rfl, trivial⟩ ?_
  refine WC2.mid [cell gf 26 #[.pointer (some ⟨p, 0, none⟩)], SgI p dk lim sv d tb fs (fun svs => star [MksE svs, PrevT gp (lastIT (listM d (fs.take 0))), fact (svs.map SegV.m = stM d fs 0 0)])] (.refl _) ?_
  refine wp_rangeF (caps := [.pointer (some ⟨gf, 0, none⟩)]) (post := [SgI p dk lim sv d tb fs (fun svs => star [MksE svs, PrevT gp (lastIT (listM d (fs.take N))), fact (svs.map SegV.m = stM d fs N 0)]), cell gf 26 #[.pointer (some ⟨p, 0, none⟩)]]) (os' := [SgI p dk lim sv d tb fs (fun svs => star [MksE svs, PrevT gp (lastIT (listM d (fs.take N))), fact (svs.map SegV.m = stM d fs N 0)]), cell gf 26 #[.pointer (some ⟨p, 0, none⟩)]]) (.normal) [1, 0] rfl (ent_of Tryz.func134 (by kernel_rfl) rfl) (fun L1 fn1 tm1 hf1 r1 k11 k12 k13 k14 k15 k16 => sg_it (files1 (.yield L1) #[] gf p dk lim sv tb (fun j svs => recI L1 r1 (star [MksE svs, PrevT gp (lastIT (listM d (fs.take j))), fact (svs.map SegV.m = stM d fs j 0)])) hd hfs hfl hN ?_)) rfl rfl rfl ?_
  · skip
    intro j f bv b hf hb_
    refine sg_rd (doesF_round (n := 65) (env := [(10, bv), (9, elp sv (j * 2)), (0, .pointer (some ⟨p, 0, none⟩)), (2, .pointer (some ⟨gp, 0, none⟩)), (7, .pointer (some ⟨p, 0, none⟩)), (8, .func (.func 134) #[] #[.pointer (some ⟨gf, 0, none⟩)])]) (.normal) k12 k11 (by rw [k14]; rfl) ?_ ?_)
    · rw [k14, k13]
      refine (congrArg (fun t => Fr 65 { tmps := t, defers := [] } _) (?_ : _ = ((tm1.setIfInBounds 9 (elp sv (j * 2))).setIfInBounds 10 bv))).mpr ((hf1.put (d := 9) (by decide) _).put (d := 10) (by decide) _)
      simp
    · intro w0 rs
      rw [k15]
      refine WCR.fact 2 rfl (fun _ h => Vec.is h) ?_; rintro ⟨A0, c0, rfl⟩
      refine WCR.keep (env' := [(10, .slice A0 b.length c0), (9, elp sv (j * 2)), (0, .pointer (some ⟨p, 0, none⟩)), (2, .pointer (some ⟨gp, 0, none⟩)), (7, .pointer (some ⟨p, 0, none⟩)), (8, .func (.func 134) #[] #[.pointer (some ⟨gf, 0, none⟩)])]) ⟨rfl, rfl, rfl, rfl, rfl, rfl, trivial⟩ ?_
      refine WCR.mid [recT L1 r1, SgI p dk lim sv d tb fs (fun svs => star [MksE svs, PrevT gp (lastIT (listM d (fs.take j))), fact (svs.map SegV.m = stM d fs j 0)]), Vec 5 1 encB (.slice A0 b.length c0) b] (.refl _) ?_
      refine r_open 1 rfl SgI.open_ (fun _ => rfl) ?_; rintro svs
      refine WCR.fact 5 rfl (fun _ h => h.2) ?_; rintro hfc
      refine WCR.leave [5] rfl rfl ?_
      refine r_open 4 rfl star_open (fun _ => rfl) ?_; rintro ⟨⟩
      refine WCR.fact 2 rfl (fun _ h => h.2) ?_; rintro hm
      refine WCR.leave [2] rfl rfl ?_
      replace hm : svs.map SegV.m = stM d fs j 0 := hm
      obtain ⟨x, hx, hxf, hxl⟩ := st_seg hf hm
      refine r_seq (r_reg (by kernel_rfl) (by rintro ⟨a, w, h⟩; first | exact h.elim | exact nomatch h.1 | (obtain ⟨_, h, _⟩ := h; exact nomatch h)) ?_)
      refine h_q hflT rfl ?_
      refine h_act (post := fun gs => [cell gs 100 #[.pointer none], MksE svs, PrevT gp (lastIT (listM d (fs.take j))), cell p 87 #[.pointer (some ⟨dk, 0, none⟩), .int .i64 (lim : Int), sv], Vec 92 2 encSg sv svs, DiskT dk d, TabZ tb, recT L1 r1, Vec 5 1 encB (.slice A0 b.length c0) b]) rfl (a_alloc ze_p_seg_segment rfl) ?_; rintro gs
      refine h_acts (post := fun _ => [cell gs 100 #[elp sv (j * 2)], MksE svs, PrevT gp (lastIT (listM d (fs.take j))), cell p 87 #[.pointer (some ⟨dk, 0, none⟩), .int .i64 (lim : Int), sv], Vec 92 2 encSg sv svs, DiskT dk d, TabZ tb, recT L1 r1, Vec 5 1 encB (.slice A0 b.length c0) b]) rfl rfl (a_storev 0 4 (v := elp sv (j * 2)) #[elp sv (j * 2)] ty_p_seg_segment.2 rfl (fun _ h => elp_c1 hx h) rfl rfl rfl rfl rfl rfl rfl) ?_; rintro ⟨⟩
      refine h_nil (r_to ?_)
      refine r_reg (by kernel_rfl) (by rintro ⟨a, w, h⟩; first | exact h.elim | exact nomatch h.1 | (obtain ⟨_, h, _⟩ := h; exact nomatch h)) ?_
      refine h_q hflT rfl ?_
      refine h_nil ?_
      refine r_begin 7 rfl k11 ?_
      rw [k16]
      refine r_block ?_
      refine r_seq ?_
      refine r_seq (r_reg (by kernel_rfl) (by rintro ⟨a, w, h⟩; first | exact h.elim | exact nomatch h.1 | (obtain ⟨_, h, _⟩ := h; exact nomatch h)) ?_)
      refine h_q hflT rfl ?_
      refine h_act (post := fun ge => [cell ge 30 #[.slice A0 b.length c0], cell gs 100 #[elp sv (j * 2)], MksE svs, PrevT gp (lastIT (listM d (fs.take j))), cell p 87 #[.pointer (some ⟨dk, 0, none⟩), .int .i64 (lim : Int), sv], Vec 92 2 encSg sv svs, DiskT dk d, TabZ tb, recT L1 (busyR r1), Vec 5 1 encB (.slice A0 b.length c0) b]) rfl (a_does (os' := fun ge => [cell ge 30 #[.slice A0 b.length c0], cell gs 100 #[elp sv (j * 2)], MksE svs, PrevT gp (lastIT (listM d (fs.take j))), cell p 87 #[.pointer (some ⟨dk, 0, none⟩), .int .i64 (lim : Int), sv], Vec 92 2 encSg sv svs, DiskT dk d, TabZ tb, recT L1 (busyR r1), Vec 5 1 encB (.slice A0 b.length c0) b]) [] 0 (ent_of Tryz.func86 (by kernel_rfl) rfl) (entries_does) rfl rfl rfl (fun _ => rfl) rfl rfl rfl) ?_; rintro ge
      refine h_nil (r_to ?_)
      refine r_block ?_
      refine r_close [5, 2, 1, 3] rfl (ldI_mk0 (f := f) hm) rfl ?_
      refine WCR.keep (env' := [(10, .slice A0 b.length c0), (9, elp sv (j * 2)), (0, .pointer (some ⟨p, 0, none⟩)), (2, .pointer (some ⟨gp, 0, none⟩)), (7, .pointer (some ⟨p, 0, none⟩)), (8, .func (.func 134) #[] #[.pointer (some ⟨gf, 0, none⟩)]), (3, .pointer (some ⟨gs, 0, none⟩)), (4, .slice A0 b.length c0), (11, .slice A0 b.length c0), (12, .func (.func 135) #[] #[.pointer (some ⟨ge, 0, none⟩)])]) ⟨rfl, rfl, rfl, rfl, rfl, rfl, rfl, rfl, rfl, rfl, trivial⟩ ?_
      refine WCR.mid [LdI sv gs gp d fs j f 0, cell ge 30 #[.slice A0 b.length c0], cell p 87 #[.pointer (some ⟨dk, 0, none⟩), .int .i64 (lim : Int), sv], DiskT dk d, TabZ tb, recT L1 (busyR r1), Vec 5 1 encB (.slice A0 b.length c0) b] (.refl _) ?_
      refine WCR.keep (env' := [(10, .slice A0 b.length c0), (9, elp sv (j * 2)), (0, .pointer (some ⟨p, 0, none⟩)), (2, .pointer (some ⟨gp, 0, none⟩)), (7, .pointer (some ⟨p, 0, none⟩)), (8, .func (.func 134) #[] #[.pointer (some ⟨gf, 0, none⟩)]), (3, .pointer (some ⟨gs, 0, none⟩)), (4, .slice A0 b.length c0), (11, .slice A0 b.length c0), (12, .func (.func 135) #[] #[.pointer (some ⟨ge, 0, none⟩)])]) ⟨rfl, rfl, rfl, rfl, rfl, rfl, rfl, rfl, rfl, rfl, trivial⟩ ?_
      refine WCR.mid [LdI sv gs gp d fs j f 0, cell ge 30 #[.slice A0 b.length c0], cell p 87 #[.pointer (some ⟨dk, 0, none⟩), .int .i64 (lim : Int), sv], DiskT dk d, TabZ tb, recT L1 (busyR r1), Vec 5 1 encB (.slice A0 b.length c0) b] (.refl _) ?_
      refine r_rangeF (caps := [.pointer (some ⟨ge, 0, none⟩)]) (post := [LdI sv gs gp d fs j f ((entsB d f).length), Vec 5 1 encB (.slice A0 b.length c0) b, cell ge 30 #[.slice A0 b.length c0]]) (os' := [LdI sv gs gp d fs j f ((entsB d f).length), Vec 5 1 encB (.slice A0 b.length c0) b, cell ge 30 #[.slice A0 b.length c0], cell p 87 #[.pointer (some ⟨dk, 0, none⟩), .int .i64 (lim : Int), sv], DiskT dk d, TabZ tb, recT L1 (busyR r1)]) (.normal) 5 rfl [0, 6, 1] rfl (ent_of Tryz.func135 (by kernel_rfl) rfl) (fun L2 fn2 tm2 hf2 r2 k21 k22 k23 k24 k25 k26 => it_in (ents1e (.yield L2) #[] ge (fun i => recI L2 r2 (LdI sv gs gp d fs j f i)) _ _ (A0 := A0) (c0 := c0) (N := (entsB d f).length) rfl rfl (hbl f b (List.mem_of_getElem? hf) hb_) (show entsL b = entsB d f by rw [← hb_]; rfl) rfl ?_)) rfl rfl rfl ?_
      · skip
        intro i A c e n hei
        have hil : i < (entsB d f).length := (List.getElem?_eq_some_iff.1 hei).1
        obtain ⟨hi0, hfo, hb0⟩ := hok j f i e n hf hei
        refine rd_in (doesF_round (n := 65) (env := [(14, .int .i64 (n : Int)), (13, .agg #[.int .i64 e.k, .int .u64 e.t, .int .u64 e.i, .slice A e.d.length c, .int .i64 e.c]), (10, .slice A0 b.length c0), (9, elp sv (j * 2)), (0, .pointer (some ⟨p, 0, none⟩)), (2, .pointer (some ⟨gp, 0, none⟩)), (7, .pointer (some ⟨p, 0, none⟩)), (8, .func (.func 134) #[] #[.pointer (some ⟨gf, 0, none⟩)]), (3, .pointer (some ⟨gs, 0, none⟩)), (4, .slice A0 b.length c0), (11, .slice A0 b.length c0), (12, .func (.func 135) #[] #[.pointer (some ⟨ge, 0, none⟩)])]) (.normal) k22 k21 (by rw [k24]; rfl) ?_ ?_)
        · rw [k24, k23]
          refine (congrArg (fun t => Fr 65 { tmps := t, defers := [] } _) (?_ : _ = ((tm2.setIfInBounds 13 (.agg #[.int .i64 e.k, .int .u64 e.t, .int .u64 e.i, .slice A e.d.length c, .int .i64 e.c])).setIfInBounds 14 (.int .i64 (n : Int))))).mpr ((hf2.put (d := 13) (by decide) _).put (d := 14) (by decide) _)
          simp
        · intro w0 rs
          rw [k25]
          refine r_seq (r_reg (by kernel_rfl) (by rintro ⟨a, w, h⟩; first | exact h.elim | exact nomatch h.1 | (obtain ⟨_, h, _⟩ := h; exact nomatch h)) ?_)
          refine h_q hflT rfl ?_
          refine h_act (post := fun gx => [cell gx 34 #[.int .i64 0, .int .u64 0, .int .u64 0, .slice none 0 0, .int .i64 0], recT L2 r2, LdI sv gs gp d fs j f i, Vec 5 1 encB (.slice A e.d.length c) e.d]) rfl (a_alloc ze_api_Entry rfl) ?_; rintro gx
          refine h_acts (post := fun _ => [cell gx 34 #[.int .i64 e.k, .int .u64 e.t, .int .u64 e.i, .slice A e.d.length c, .int .i64 e.c], recT L2 r2, LdI sv gs gp d fs j f i, Vec 5 1 encB (.slice A e.d.length c) e.d]) rfl rfl (a_store 0 (v := .agg #[.int .i64 e.k, .int .u64 e.t, .int .u64 e.i, .slice A e.d.length c, .int .i64 e.c]) #[.int .i64 e.k, .int .u64 e.t, .int .u64 e.i, .slice A e.d.length c, .int .i64 e.c] tyEn.2 rfl rfl rfl rfl rfl rfl rfl rfl rfl) ?_; rintro ⟨⟩
          refine h_nil (r_to ?_)
          refine r_reg (by kernel_rfl) (by rintro ⟨a, w, h⟩; first | exact h.elim | exact nomatch h.1 | (obtain ⟨_, h, _⟩ := h; exact nomatch h)) ?_
          refine h_q hflT rfl ?_
          refine h_nil ?_
          refine r_begin 1 rfl k21 ?_
          rw [k26]
          refine r_open 2 rfl LdI.open_ (fun _ => rfl) ?_; rintro svs
          refine WCR.fact 4 rfl (fun _ h => h.2) ?_; rintro hm
          refine WCR.leave [4] rfl rfl ?_
          replace hm : svs.map SegV.m = stM d fs j i := hm
          obtain ⟨x, hx, hxf, hxl⟩ := st_seg hf hm
          have hxn : x.l.length = i := by rw [hxl, List.length_take]; unfold marksB; rw [List.length_map]; omega
          have hjl : j < svs.length := (List.getElem?_eq_some_iff.1 hx).1
          have hle := ents_le hf hL
          refine r_open 3 rfl PrevT.open_ (fun _ => rfl) ?_; rintro q
          refine r_block ?_
          refine r_seq ?_
          rcases Nat.eq_zero_or_pos i with hz | hz
          · skip
            have hef := hi0 hz
            refine r_seq ?_
            refine r_parS (by rintro ⟨a, w, h⟩; first | exact h.elim | exact nomatch h.1 | (obtain ⟨_, h, _⟩ := h; exact nomatch h)) 21 1 [⟨.quiet, [none], fun _ => elp sv (j * 2), []⟩, ⟨.quiet, [none], fun _ => elp sv (j * 2), [0]⟩, ⟨.quiet, [none], fun _ => elp sv (j * 2 + 1), [1]⟩, ⟨.quiet, [none], fun _ => .slice x.A x.l.length x.c, [2]⟩, ⟨.quiet, [none], fun _ => .int .i64 (x.l.length : Int), [3]⟩, ⟨.quiet, [none], fun _ => .bool true, [4]⟩, ⟨.quiet, [none], fun _ => .bool true, [5]⟩, ⟨.quiet, [none], fun _ => .pointer (some ⟨gx, 2, none⟩), [6]⟩, ⟨.quiet, [none], fun _ => .int .u64 e.i, [7, 6]⟩, ⟨.quiet, [none], fun _ => elp sv (j * 2), [6]⟩, ⟨.quiet, [none], fun _ => elp sv (j * 2), [9, 6]⟩, ⟨.quiet, [none], fun _ => elp sv (j * 2 + 0), [10, 6]⟩, ⟨.quiet, [none], fun _ => .int .u64 (x.f : Int), [11, 6]⟩, ⟨.quiet, [none], fun _ => .bool false, [8, 12, 6]⟩, ⟨.quiet, [none], fun _ => .bool false, [6, 13]⟩, ⟨.quiet, [none], fun _ => .bool false, [14]⟩, ⟨.quiet, [none], fun _ => .agg #[.int .i64 q.k, .int .u64 ((lastIT (upTo d fs j f i)).1), .int .u64 ((lastIT (upTo d fs j f i)).2), .slice q.A q.n q.c, .int .i64 q.z], [15]⟩, ⟨.quiet, [none], fun _ => .agg #[.int .i64 e.k, .int .u64 e.t, .int .u64 e.i, .slice A e.d.length c, .int .i64 e.c], [15]⟩, ⟨.actv 0, [some false], fun _ => .bool true, [16, 17, 15]⟩, ⟨.quiet, [some true], fun _ => .bool false, [18, 15]⟩, ⟨.quiet, [some true], fun _ => .bool false, [15, 19]⟩] [(2, .pointer (some ⟨gp, 0, none⟩)), (3, .pointer (some ⟨gs, 0, none⟩)), (5, .pointer (some ⟨gx, 0, none⟩)), (6, .int .i64 (n : Int))] (fun ρ => match ρ with | [r0] => [cell gp 34 #[.int .i64 q.k, .int .u64 ((lastIT (upTo d fs j f i)).1), .int .u64 ((lastIT (upTo d fs j f i)).2), .slice q.A q.n q.c, .int .i64 q.z], Vec 92 2 encSg sv svs, MksE svs, cell gs 100 #[elp sv (j * 2)], cell gx 34 #[.int .i64 e.k, .int .u64 e.t, .int .u64 e.i, .slice A e.d.length c, .int .i64 e.c], recT L2 (busyR r2), Vec 5 1 encB (.slice A e.d.length c) e.d] | _ => []) (by kernel_rfl) (by kernel_rfl) (by kernel_rfl) ⟨rfl, rfl, rfl, rfl, trivial⟩ rfl ?_ ?_
            · skip
              refine s_cons (by intro r0_; exact ⟨rfl, fun b w hH hb => xLd rfl rfl (rOn ty_p_seg_segment rfl) (hH.row 3 rfl) hb⟩) ?_
              refine s_cons (by intro r0_; exact ⟨rfl, fun b w hH hb => e_vnil 1 rfl (j := j) (List.getElem?_eq_some_iff.1 hx).1 rfl rfl hH hb⟩) ?_
              refine s_cons (by intro r0_; exact ⟨rfl, fun b w hH hb => eSf okSg (by decide) (hH.vec 1 rfl okSg) (j := j) hx fd_seg_segment_1 rfl rfl hb⟩) ?_
              refine s_cons (by intro r0_; exact ⟨rfl, fun b w hH hb => e_sload okSg (by decide) (hH.vec 1 rfl okSg) (j := j) hx ty_s_seg_mark (off := 1) rfl rfl rfl hb⟩) ?_
              refine s_cons (by intro r0_; exact ⟨rfl, fun b w hH hb => e_slen ((mks_rd 2 rfl hx hH)) Tryz.underlying90 rfl rfl hb⟩) ?_
              refine s_cons (by intro r0_; exact ⟨rfl, fun b w hH hb => xCm rfl rfl rfl (cEt (by omega)) hb⟩) ?_
              refine s_cons (by intro r0_; exact ⟨rfl, fun b w hH hb => exec_q1 hflT rfl hb⟩) ?_
              refine s_cons (by intro r0_; exact ⟨rfl, fun b w hH hb => exec_q1 hflT rfl hb⟩) ?_
              refine s_cons (by intro r0_; exact ⟨rfl, fun b w hH hb => xLd rfl rfl (rOn ty_uint64 rfl) (hH.row 4 rfl) hb⟩) ?_
              refine s_cons (by intro r0_; exact ⟨rfl, fun b w hH hb => xLd rfl rfl (rOn ty_p_seg_segment rfl) (hH.row 3 rfl) hb⟩) ?_
              refine s_cons (by intro r0_; exact ⟨rfl, fun b w hH hb => e_vnil 1 rfl (j := j) (List.getElem?_eq_some_iff.1 hx).1 rfl rfl hH hb⟩) ?_
              refine s_cons (by intro r0_; exact ⟨rfl, fun b w hH hb => eSf okSg (by decide) (hH.vec 1 rfl okSg) (j := j) hx fd_seg_segment_0 rfl rfl hb⟩) ?_
              refine s_cons (by intro r0_; exact ⟨rfl, fun b w hH hb => e_sload okSg (by decide) (hH.vec 1 rfl okSg) (j := j) hx ty_uint64 (off := 0) rfl rfl rfl hb⟩) ?_
              refine s_cons (by intro r0_; exact ⟨rfl, fun b w hH hb => xCm rfl rfl rfl (cmp_neq_f (by rw [hxf]; omega)) hb⟩) ?_
              refine s_cons (by intro r0_; exact ⟨rfl, fun b w hH hb => exec_q1 hflT rfl hb⟩) ?_
              refine s_cons (by intro r0_; exact ⟨rfl, fun b w hH hb => exec_q1 hflT rfl hb⟩) ?_
              refine s_cons (by intro r0_; exact ⟨rfl, fun b w hH hb => xLd rfl rfl (rAg (cs := [.int .i64 q.k, .int .u64 ((lastIT (upTo d fs j f i)).1), .int .u64 ((lastIT (upTo d fs j f i)).2), .slice q.A q.n q.c, .int .i64 q.z]) tyEn rfl) (hH.row 0 rfl) hb⟩) ?_
              refine s_cons (by intro r0_; exact ⟨rfl, fun b w hH hb => xLd rfl rfl (rAg (cs := [.int .i64 e.k, .int .u64 e.t, .int .u64 e.i, .slice A e.d.length c, .int .i64 e.c]) tyEn rfl) (hH.row 4 rfl) hb⟩) ?_
              refine s_cons (by exact ⟨rfl, Acts.su (a_call (ent_of Tryz.func45 (by kernel_rfl) rfl) (fun w hH => follows_y w hfo hb0) rfl rfl rfl) rfl⟩) ?_
              refine s_cons (by intro v0_; exact ⟨rfl, fun b w hH hb => exec_q1 hflT rfl hb⟩) ?_
              refine s_cons (by intro v0_; exact ⟨rfl, fun b w hH hb => exec_q1 hflT rfl hb⟩) ?_
              exact s_nil
            intro v0_
            refine WL2.keep (env' := [(2, .pointer (some ⟨gp, 0, none⟩)), (3, .pointer (some ⟨gs, 0, none⟩)), (5, .pointer (some ⟨gx, 0, none⟩)), (6, .int .i64 (n : Int)), (35, .bool false)]) ⟨rfl, rfl, rfl, rfl, rfl, trivial⟩ ?_
            refine h_nil ?_
            refine r_to ?_
            refine r_else rfl ?_
            refine r_skip ?_
            refine r_to ?_
            refine r_open 2 rfl (mks_open hx) (fun _ => rfl) ?_; rintro ⟨⟩
            refine r_seq ?_
            refine r_emps 1 rfl ?_
            refine r_parS (by rintro ⟨a, w, h⟩; first | exact h.elim | exact nomatch h.1 | (obtain ⟨_, h, _⟩ := h; exact nomatch h)) 13 2 [⟨.quiet, [none, none], fun _ => elp sv (j * 2), []⟩, ⟨.quiet, [none, none], fun _ => elp sv (j * 2), []⟩, ⟨.quiet, [none, none], fun _ => elp sv (j * 2), [1]⟩, ⟨.quiet, [none, none], fun _ => elp sv (j * 2 + 1), [2]⟩, ⟨.quiet, [none, none], fun _ => .slice x.A x.l.length x.c, [3]⟩, ⟨.quiet, [none, none], fun _ => .pointer (some ⟨gx, 1, none⟩), []⟩, ⟨.quiet, [none, none], fun _ => .int .u64 e.t, [5]⟩, ⟨.quiet, [none, none], fun _ => .int .i64 (n : Int), []⟩, ⟨.quiet, [none, none], fun _ => .agg #[.int .u64 e.t, .int .i64 (n : Int)], [6, 7]⟩, ⟨.act 0, [some false, some false], fun _ => undef, [8]⟩, ⟨.act 1, [some true, some false], fun _ => undef, [4, 9]⟩, ⟨.quiet, [some true, some true], fun _ => elp sv (j * 2), [0]⟩, ⟨.quiet, [some true, some true], fun _ => elp sv (j * 2 + 1), [11]⟩] [(2, .pointer (some ⟨gp, 0, none⟩)), (3, .pointer (some ⟨gs, 0, none⟩)), (5, .pointer (some ⟨gx, 0, none⟩)), (6, .int .i64 (n : Int))] (fun ρ => match ρ with | [r0, r1] => [selS r0 (fun u1 => Vec 104 2 encMk u1 ([(e.t, n)])) (emp), Each (fun x : SegV => Vec 104 2 encMk x.v x.l) (svs.take j), selS r1 (fun mv2 => Vec 104 2 encMk mv2 (x.l ++ [(e.t, n)])) (Vec 104 2 encMk (.slice x.A x.l.length x.c) x.l), Each (fun x : SegV => Vec 104 2 encMk x.v x.l) (svs.drop (j + 1)), cell gp 34 #[.int .i64 q.k, .int .u64 ((lastIT (upTo d fs j f i)).1), .int .u64 ((lastIT (upTo d fs j f i)).2), .slice q.A q.n q.c, .int .i64 q.z], Vec 92 2 encSg sv svs, cell gs 100 #[elp sv (j * 2)], cell gx 34 #[.int .i64 e.k, .int .u64 e.t, .int .u64 e.i, .slice A e.d.length c, .int .i64 e.c], recT L2 (busyR r2), Vec 5 1 encB (.slice A e.d.length c) e.d] | _ => []) (by kernel_rfl) (by kernel_rfl) (by kernel_rfl) ⟨rfl, rfl, rfl, rfl, trivial⟩ rfl ?_ ?_
            · skip
              refine s_cons (by intro r0_ r1_; exact ⟨rfl, fun b w hH hb => xLd rfl rfl (rOn ty_p_seg_segment rfl) (hH.row 6 rfl) hb⟩) ?_
              refine s_cons (by intro r0_ r1_; exact ⟨rfl, fun b w hH hb => xLd rfl rfl (rOn ty_p_seg_segment rfl) (hH.row 6 rfl) hb⟩) ?_
              refine s_cons (by intro r0_ r1_; exact ⟨rfl, fun b w hH hb => e_vnil 5 rfl (j := j) (List.getElem?_eq_some_iff.1 hx).1 rfl rfl hH hb⟩) ?_
              refine s_cons (by intro r0_ r1_; exact ⟨rfl, fun b w hH hb => eSf okSg (by decide) (hH.vec 5 rfl okSg) (j := j) hx fd_seg_segment_1 rfl rfl hb⟩) ?_
              refine s_cons (by intro r0_ r1_; exact ⟨rfl, fun b w hH hb => e_sload okSg (by decide) (hH.vec 5 rfl okSg) (j := j) hx ty_s_seg_mark (off := 1) rfl rfl rfl hb⟩) ?_
              refine s_cons (by intro r0_ r1_; exact ⟨rfl, fun b w hH hb => exec_q1 hflT rfl hb⟩) ?_
              refine s_cons (by intro r0_ r1_; exact ⟨rfl, fun b w hH hb => xLd rfl rfl (rOn ty_uint64 rfl) (hH.row 7 rfl) hb⟩) ?_
              refine s_cons (by intro r0_ r1_; exact ⟨rfl, fun b w hH hb => exec_q1 hflT rfl hb⟩) ?_
              refine s_cons (by intro r0_ r1_; exact ⟨rfl, fun b w hH hb => exec_build rfl rfl (by kernel_rfl) hb⟩) ?_
              refine s_cons (by exact ⟨rfl, Acts.s (Acts.place (val := fun u1 : Value => u1) (t := fun u1 => Vec 104 2 encMk u1 ([(e.t, n)])) (os' := fun u1 => [Vec 104 2 encMk u1 ([(e.t, n)]), Each (fun x : SegV => Vec 104 2 encMk x.v x.l) (svs.take j), Vec 104 2 encMk (.slice x.A x.l.length x.c) x.l, Each (fun x : SegV => Vec 104 2 encMk x.v x.l) (svs.drop (j + 1)), cell gp 34 #[.int .i64 q.k, .int .u64 ((lastIT (upTo d fs j f i)).1), .int .u64 ((lastIT (upTo d fs j f i)).2), .slice q.A q.n q.c, .int .i64 q.z], Vec 92 2 encSg sv svs, cell gs 100 #[elp sv (j * 2)], cell gx 34 #[.int .i64 e.k, .int .u64 e.t, .int .u64 e.i, .slice A e.d.length c, .int .i64 e.c], recT L2 (busyR r2), Vec 5 1 encB (.slice A e.d.length c) e.d]) 0 rfl (by refine a_buildK (e := 104) (t := 90) (k := 2) (enc := encMk) (x := .tmp 44) (c := .agg #[.int .u64 e.t, .int .i64 (n : Int)]) ?_ ?_ ?_ (e.t, n) ?_ ?_ ?_; exact sl_seg_mark; exact (by decide); exact okMk; exact rfl; exact rfl; exact rfl) (fun _ => rfl)) (fun _ => rfl)⟩) ?_
              refine s_cons (by intro u1; exact ⟨rfl, Acts.s (a_appendK (nb := 16) 2 sl_seg_mark okMk (by kernel_rfl) (by decide) rfl ([(e.t, n)]) (fun w hH => hH.vec 0 rfl okMk) (by simp only [List.length_cons, List.length_nil]; omega) rfl rfl rfl rfl) (fun _ => rfl)⟩) ?_
              refine s_cons (by intro u1 mv2; exact ⟨rfl, fun b w hH hb => e_vnil 5 rfl (j := j) (List.getElem?_eq_some_iff.1 hx).1 rfl rfl hH hb⟩) ?_
              refine s_cons (by intro u1 mv2; exact ⟨rfl, fun b w hH hb => eSf okSg (by decide) (hH.vec 5 rfl okSg) (j := j) hx fd_seg_segment_1 rfl rfl hb⟩) ?_
              exact s_nil
            intro u1 mv2
            refine WL2.keep (env' := [(2, .pointer (some ⟨gp, 0, none⟩)), (5, .pointer (some ⟨gx, 0, none⟩)), (46, mv2), (48, elp sv (j * 2 + 1))]) ⟨rfl, rfl, rfl, rfl, trivial⟩ ?_
            refine WL2.fact 2 rfl (fun _ h => Vec.is h) ?_; rintro ⟨A2, c2, rfl⟩
            refine WL2.keep (env' := [(2, .pointer (some ⟨gp, 0, none⟩)), (5, .pointer (some ⟨gx, 0, none⟩)), (46, .slice A2 (x.l ++ [(e.t, n)]).length c2), (48, elp sv (j * 2 + 1))]) ⟨rfl, rfl, rfl, rfl, trivial⟩ ?_
            refine WL2.mid [Vec 104 2 encMk u1 ([(e.t, n)]), Each (fun x : SegV => Vec 104 2 encMk x.v x.l) (svs.take j), Vec 104 2 encMk (.slice A2 (x.l ++ [(e.t, n)]).length c2) (x.l ++ [(e.t, n)]), Each (fun x : SegV => Vec 104 2 encMk x.v x.l) (svs.drop (j + 1)), cell gp 34 #[.int .i64 q.k, .int .u64 ((lastIT (upTo d fs j f i)).1), .int .u64 ((lastIT (upTo d fs j f i)).2), .slice q.A q.n q.c, .int .i64 q.z], Vec 92 2 encSg sv svs, cell gs 100 #[elp sv (j * 2)], cell gx 34 #[.int .i64 e.k, .int .u64 e.t, .int .u64 e.i, .slice A e.d.length c, .int .i64 e.c], recT L2 (busyR r2), Vec 5 1 encB (.slice A e.d.length c) e.d] (.refl _) ?_
            refine h_q hflT rfl ?_
            refine h_acts (post := fun _ => [Vec 104 2 encMk u1 ([(e.t, n)]), Each (fun x : SegV => Vec 104 2 encMk x.v x.l) (svs.take j), Vec 104 2 encMk (.slice A2 (x.l ++ [(e.t, n)]).length c2) (x.l ++ [(e.t, n)]), Each (fun x : SegV => Vec 104 2 encMk x.v x.l) (svs.drop (j + 1)), cell gp 34 #[.int .i64 q.k, .int .u64 ((lastIT (upTo d fs j f i)).1), .int .u64 ((lastIT (upTo d fs j f i)).2), .slice q.A q.n q.c, .int .i64 q.z], Vec 92 2 encSg sv (svs.set j (⟨x.f, x.l ++ [(e.t, n)], A2, c2⟩ : SegV)), cell gs 100 #[elp sv (j * 2)], cell gx 34 #[.int .i64 e.k, .int .u64 e.t, .int .u64 e.i, .slice A e.d.length c, .int .i64 e.c], recT L2 (busyR r2), Vec 5 1 encB (.slice A e.d.length c) e.d]) rfl rfl (a_vstore 5 okSg rfl j (a := x) (b := (⟨x.f, x.l ++ [(e.t, n)], A2, c2⟩ : SegV)) hx ty_s_seg_mark.2 rfl rfl (by decide) rfl rfl rfl rfl rfl) ?_; rintro ⟨⟩
            refine h_nil ?_
            refine r_to ?_
            refine r_reg (by kernel_rfl) (by rintro ⟨a, w, h⟩; first | exact h.elim | exact nomatch h.1 | (obtain ⟨_, h, _⟩ := h; exact nomatch h)) ?_
            refine h_q hflT rfl ?_
            refine h_val rfl (.agg #[.int .i64 e.k, .int .u64 e.t, .int .u64 e.i, .slice A e.d.length c, .int .i64 e.c]) (fun b w hb hH => xLd rfl rfl (rAg (cs := [.int .i64 e.k, .int .u64 e.t, .int .u64 e.i, .slice A e.d.length c, .int .i64 e.c]) tyEn rfl) (hH.row 7 rfl) hb) ?_
            refine h_acts (post := fun _ => [Vec 104 2 encMk u1 ([(e.t, n)]), Each (fun x : SegV => Vec 104 2 encMk x.v x.l) (svs.take j), Vec 104 2 encMk (.slice A2 (x.l ++ [(e.t, n)]).length c2) (x.l ++ [(e.t, n)]), Each (fun x : SegV => Vec 104 2 encMk x.v x.l) (svs.drop (j + 1)), cell gp 34 #[.int .i64 e.k, .int .u64 e.t, .int .u64 e.i, .slice A e.d.length c, .int .i64 e.c], Vec 92 2 encSg sv (svs.set j (⟨x.f, x.l ++ [(e.t, n)], A2, c2⟩ : SegV)), cell gs 100 #[elp sv (j * 2)], cell gx 34 #[.int .i64 e.k, .int .u64 e.t, .int .u64 e.i, .slice A e.d.length c, .int .i64 e.c], recT L2 (busyR r2), Vec 5 1 encB (.slice A e.d.length c) e.d]) rfl rfl (a_store 4 (v := .agg #[.int .i64 e.k, .int .u64 e.t, .int .u64 e.i, .slice A e.d.length c, .int .i64 e.c]) #[.int .i64 e.k, .int .u64 e.t, .int .u64 e.i, .slice A e.d.length c, .int .i64 e.c] tyEn.2 rfl rfl rfl rfl rfl rfl rfl rfl rfl) ?_; rintro ⟨⟩
            refine h_nil (f_block ?_)
            refine f_close [1, 2, 3] rfl (mks_back (y := (⟨x.f, x.l ++ [(e.t, n)], A2, c2⟩ : SegV)) hjl) rfl ?_
            refine f_close [2] rfl (prevT_mk (m := lastIT (upTo d fs j f (i + 1))) (by rw [upTo_push hei, lastIT_push])) rfl ?_
            refine f_close [3, 1, 4, 0] rfl (ldI_mk (st_set hf hm hx hxf hxl hei)) rfl ?_
            exact r_tell [3, 0] rfl rfl
          · skip
            refine r_seq ?_
            refine r_parS (by rintro ⟨a, w, h⟩; first | exact h.elim | exact nomatch h.1 | (obtain ⟨_, h, _⟩ := h; exact nomatch h)) 21 1 [⟨.quiet, [none], fun _ => elp sv (j * 2), []⟩, ⟨.quiet, [none], fun _ => elp sv (j * 2), [0]⟩, ⟨.quiet, [none], fun _ => elp sv (j * 2 + 1), [1]⟩, ⟨.quiet, [none], fun _ => .slice x.A x.l.length x.c, [2]⟩, ⟨.quiet, [none], fun _ => .int .i64 (x.l.length : Int), [3]⟩, ⟨.quiet, [none], fun _ => .bool false, [4]⟩, ⟨.quiet, [none], fun _ => .bool false, [5]⟩, ⟨.skip, [none], fun _ => undef, [6]⟩, ⟨.skip, [none], fun _ => undef, [7, 6]⟩, ⟨.skip, [none], fun _ => undef, [6]⟩, ⟨.skip, [none], fun _ => undef, [9, 6]⟩, ⟨.skip, [none], fun _ => undef, [10, 6]⟩, ⟨.skip, [none], fun _ => undef, [11, 6]⟩, ⟨.skip, [none], fun _ => undef, [8, 12, 6]⟩, ⟨.quiet, [none], fun _ => .bool false, [6, 13]⟩, ⟨.quiet, [none], fun _ => .bool false, [14]⟩, ⟨.quiet, [none], fun _ => .agg #[.int .i64 q.k, .int .u64 ((lastIT (upTo d fs j f i)).1), .int .u64 ((lastIT (upTo d fs j f i)).2), .slice q.A q.n q.c, .int .i64 q.z], [15]⟩, ⟨.quiet, [none], fun _ => .agg #[.int .i64 e.k, .int .u64 e.t, .int .u64 e.i, .slice A e.d.length c, .int .i64 e.c], [15]⟩, ⟨.actv 0, [some false], fun _ => .bool true, [16, 17, 15]⟩, ⟨.quiet, [some true], fun _ => .bool false, [18, 15]⟩, ⟨.quiet, [some true], fun _ => .bool false, [15, 19]⟩] [(2, .pointer (some ⟨gp, 0, none⟩)), (3, .pointer (some ⟨gs, 0, none⟩)), (5, .pointer (some ⟨gx, 0, none⟩)), (6, .int .i64 (n : Int))] (fun ρ => match ρ with | [r0] => [cell gp 34 #[.int .i64 q.k, .int .u64 ((lastIT (upTo d fs j f i)).1), .int .u64 ((lastIT (upTo d fs j f i)).2), .slice q.A q.n q.c, .int .i64 q.z], Vec 92 2 encSg sv svs, MksE svs, cell gs 100 #[elp sv (j * 2)], cell gx 34 #[.int .i64 e.k, .int .u64 e.t, .int .u64 e.i, .slice A e.d.length c, .int .i64 e.c], recT L2 (busyR r2), Vec 5 1 encB (.slice A e.d.length c) e.d] | _ => []) (by kernel_rfl) (by kernel_rfl) (by kernel_rfl) ⟨rfl, rfl, rfl, rfl, trivial⟩ rfl ?_ ?_
            · skip
              refine s_cons (by intro r0_; exact ⟨rfl, fun b w hH hb => xLd rfl rfl (rOn ty_p_seg_segment rfl) (hH.row 3 rfl) hb⟩) ?_
              refine s_cons (by intro r0_; exact ⟨rfl, fun b w hH hb => e_vnil 1 rfl (j := j) (List.getElem?_eq_some_iff.1 hx).1 rfl rfl hH hb⟩) ?_
              refine s_cons (by intro r0_; exact ⟨rfl, fun b w hH hb => eSf okSg (by decide) (hH.vec 1 rfl okSg) (j := j) hx fd_seg_segment_1 rfl rfl hb⟩) ?_
              refine s_cons (by intro r0_; exact ⟨rfl, fun b w hH hb => e_sload okSg (by decide) (hH.vec 1 rfl okSg) (j := j) hx ty_s_seg_mark (off := 1) rfl rfl rfl hb⟩) ?_
              refine s_cons (by intro r0_; exact ⟨rfl, fun b w hH hb => e_slen ((mks_rd 2 rfl hx hH)) Tryz.underlying90 rfl rfl hb⟩) ?_
              refine s_cons (by intro r0_; exact ⟨rfl, fun b w hH hb => xCm rfl rfl rfl (cEf (by omega)) hb⟩) ?_
              refine s_cons (by intro r0_; exact ⟨rfl, fun b w hH hb => exec_q1 hflT rfl hb⟩) ?_
              refine s_cons (by intro r0_; exact ⟨rfl, rfl⟩) ?_
              refine s_cons (by intro r0_; exact ⟨rfl, rfl⟩) ?_
              refine s_cons (by intro r0_; exact ⟨rfl, rfl⟩) ?_
              refine s_cons (by intro r0_; exact ⟨rfl, rfl⟩) ?_
              refine s_cons (by intro r0_; exact ⟨rfl, rfl⟩) ?_
              refine s_cons (by intro r0_; exact ⟨rfl, rfl⟩) ?_
              refine s_cons (by intro r0_; exact ⟨rfl, rfl⟩) ?_
              refine s_cons (by intro r0_; exact ⟨rfl, fun b w hH hb => exec_q1 hflT rfl hb⟩) ?_
              refine s_cons (by intro r0_; exact ⟨rfl, fun b w hH hb => exec_q1 hflT rfl hb⟩) ?_
              refine s_cons (by intro r0_; exact ⟨rfl, fun b w hH hb => xLd rfl rfl (rAg (cs := [.int .i64 q.k, .int .u64 ((lastIT (upTo d fs j f i)).1), .int .u64 ((lastIT (upTo d fs j f i)).2), .slice q.A q.n q.c, .int .i64 q.z]) tyEn rfl) (hH.row 0 rfl) hb⟩) ?_
              refine s_cons (by intro r0_; exact ⟨rfl, fun b w hH hb => xLd rfl rfl (rAg (cs := [.int .i64 e.k, .int .u64 e.t, .int .u64 e.i, .slice A e.d.length c, .int .i64 e.c]) tyEn rfl) (hH.row 4 rfl) hb⟩) ?_
              refine s_cons (by exact ⟨rfl, Acts.su (a_call (ent_of Tryz.func45 (by kernel_rfl) rfl) (fun w hH => follows_y w hfo hb0) rfl rfl rfl) rfl⟩) ?_
              refine s_cons (by intro v0_; exact ⟨rfl, fun b w hH hb => exec_q1 hflT rfl hb⟩) ?_
              refine s_cons (by intro v0_; exact ⟨rfl, fun b w hH hb => exec_q1 hflT rfl hb⟩) ?_
              exact s_nil
            intro v0_
            refine WL2.keep (env' := [(2, .pointer (some ⟨gp, 0, none⟩)), (3, .pointer (some ⟨gs, 0, none⟩)), (5, .pointer (some ⟨gx, 0, none⟩)), (6, .int .i64 (n : Int)), (35, .bool false)]) ⟨rfl, rfl, rfl, rfl, rfl, trivial⟩ ?_
            refine h_nil ?_
            refine r_to ?_
            refine r_else rfl ?_
            refine r_skip ?_
            refine r_to ?_
            refine r_open 2 rfl (mks_open hx) (fun _ => rfl) ?_; rintro ⟨⟩
            refine r_seq ?_
            refine r_emps 1 rfl ?_
            refine r_parS (by rintro ⟨a, w, h⟩; first | exact h.elim | exact nomatch h.1 | (obtain ⟨_, h, _⟩ := h; exact nomatch h)) 13 2 [⟨.quiet, [none, none], fun _ => elp sv (j * 2), []⟩, ⟨.quiet, [none, none], fun _ => elp sv (j * 2), []⟩, ⟨.quiet, [none, none], fun _ => elp sv (j * 2), [1]⟩, ⟨.quiet, [none, none], fun _ => elp sv (j * 2 + 1), [2]⟩, ⟨.quiet, [none, none], fun _ => .slice x.A x.l.length x.c, [3]⟩, ⟨.quiet, [none, none], fun _ => .pointer (some ⟨gx, 1, none⟩), []⟩, ⟨.quiet, [none, none], fun _ => .int .u64 e.t, [5]⟩, ⟨.quiet, [none, none], fun _ => .int .i64 (n : Int), []⟩, ⟨.quiet, [none, none], fun _ => .agg #[.int .u64 e.t, .int .i64 (n : Int)], [6, 7]⟩, ⟨.act 0, [some false, some false], fun _ => undef, [8]⟩, ⟨.act 1, [some true, some false], fun _ => undef, [4, 9]⟩, ⟨.quiet, [some true, some true], fun _ => elp sv (j * 2), [0]⟩, ⟨.quiet, [some true, some true], fun _ => elp sv (j * 2 + 1), [11]⟩] [(2, .pointer (some ⟨gp, 0, none⟩)), (3, .pointer (some ⟨gs, 0, none⟩)), (5, .pointer (some ⟨gx, 0, none⟩)), (6, .int .i64 (n : Int))] (fun ρ => match ρ with | [r0, r1] => [selS r0 (fun u2 => Vec 104 2 encMk u2 ([(e.t, n)])) (emp), Each (fun x : SegV => Vec 104 2 encMk x.v x.l) (svs.take j), selS r1 (fun mv2 => Vec 104 2 encMk mv2 (x.l ++ [(e.t, n)])) (Vec 104 2 encMk (.slice x.A x.l.length x.c) x.l), Each (fun x : SegV => Vec 104 2 encMk x.v x.l) (svs.drop (j + 1)), cell gp 34 #[.int .i64 q.k, .int .u64 ((lastIT (upTo d fs j f i)).1), .int .u64 ((lastIT (upTo d fs j f i)).2), .slice q.A q.n q.c, .int .i64 q.z], Vec 92 2 encSg sv svs, cell gs 100 #[elp sv (j * 2)], cell gx 34 #[.int .i64 e.k, .int .u64 e.t, .int .u64 e.i, .slice A e.d.length c, .int .i64 e.c], recT L2 (busyR r2), Vec 5 1 encB (.slice A e.d.length c) e.d] | _ => []) (by kernel_rfl) (by kernel_rfl) (by kernel_rfl) ⟨rfl, rfl, rfl, rfl, trivial⟩ rfl ?_ ?_
            · skip
              refine s_cons (by intro r0_ r1_; exact ⟨rfl, fun b w hH hb => xLd rfl rfl (rOn ty_p_seg_segment rfl) (hH.row 6 rfl) hb⟩) ?_
              refine s_cons (by intro r0_ r1_; exact ⟨rfl, fun b w hH hb => xLd rfl rfl (rOn ty_p_seg_segment rfl) (hH.row 6 rfl) hb⟩) ?_
              refine s_cons (by intro r0_ r1_; exact ⟨rfl, fun b w hH hb => e_vnil 5 rfl (j := j) (List.getElem?_eq_some_iff.1 hx).1 rfl rfl hH hb⟩) ?_
              refine s_cons (by intro r0_ r1_; exact ⟨rfl, fun b w hH hb => eSf okSg (by decide) (hH.vec 5 rfl okSg) (j := j) hx fd_seg_segment_1 rfl rfl hb⟩) ?_
              refine s_cons (by intro r0_ r1_; exact ⟨rfl, fun b w hH hb => e_sload okSg (by decide) (hH.vec 5 rfl okSg) (j := j) hx ty_s_seg_mark (off := 1) rfl rfl rfl hb⟩) ?_
              refine s_cons (by intro r0_ r1_; exact ⟨rfl, fun b w hH hb => exec_q1 hflT rfl hb⟩) ?_
              refine s_cons (by intro r0_ r1_; exact ⟨rfl, fun b w hH hb => xLd rfl rfl (rOn ty_uint64 rfl) (hH.row 7 rfl) hb⟩) ?_
              refine s_cons (by intro r0_ r1_; exact ⟨rfl, fun b w hH hb => exec_q1 hflT rfl hb⟩) ?_
              refine s_cons (by intro r0_ r1_; exact ⟨rfl, fun b w hH hb => exec_build rfl rfl (by kernel_rfl) hb⟩) ?_
              refine s_cons (by exact ⟨rfl, Acts.s (Acts.place (val := fun u2 : Value => u2) (t := fun u2 => Vec 104 2 encMk u2 ([(e.t, n)])) (os' := fun u2 => [Vec 104 2 encMk u2 ([(e.t, n)]), Each (fun x : SegV => Vec 104 2 encMk x.v x.l) (svs.take j), Vec 104 2 encMk (.slice x.A x.l.length x.c) x.l, Each (fun x : SegV => Vec 104 2 encMk x.v x.l) (svs.drop (j + 1)), cell gp 34 #[.int .i64 q.k, .int .u64 ((lastIT (upTo d fs j f i)).1), .int .u64 ((lastIT (upTo d fs j f i)).2), .slice q.A q.n q.c, .int .i64 q.z], Vec 92 2 encSg sv svs, cell gs 100 #[elp sv (j * 2)], cell gx 34 #[.int .i64 e.k, .int .u64 e.t, .int .u64 e.i, .slice A e.d.length c, .int .i64 e.c], recT L2 (busyR r2), Vec 5 1 encB (.slice A e.d.length c) e.d]) 0 rfl (by refine a_buildK (e := 104) (t := 90) (k := 2) (enc := encMk) (x := .tmp 44) (c := .agg #[.int .u64 e.t, .int .i64 (n : Int)]) ?_ ?_ ?_ (e.t, n) ?_ ?_ ?_; exact sl_seg_mark; exact (by decide); exact okMk; exact rfl; exact rfl; exact rfl) (fun _ => rfl)) (fun _ => rfl)⟩) ?_
              refine s_cons (by intro u2; exact ⟨rfl, Acts.s (a_appendK (nb := 16) 2 sl_seg_mark okMk (by kernel_rfl) (by decide) rfl ([(e.t, n)]) (fun w hH => hH.vec 0 rfl okMk) (by simp only [List.length_cons, List.length_nil]; omega) rfl rfl rfl rfl) (fun _ => rfl)⟩) ?_
              refine s_cons (by intro u2 mv2; exact ⟨rfl, fun b w hH hb => e_vnil 5 rfl (j := j) (List.getElem?_eq_some_iff.1 hx).1 rfl rfl hH hb⟩) ?_
              refine s_cons (by intro u2 mv2; exact ⟨rfl, fun b w hH hb => eSf okSg (by decide) (hH.vec 5 rfl okSg) (j := j) hx fd_seg_segment_1 rfl rfl hb⟩) ?_
              exact s_nil
            intro u2 mv2
            refine WL2.keep (env' := [(2, .pointer (some ⟨gp, 0, none⟩)), (5, .pointer (some ⟨gx, 0, none⟩)), (46, mv2), (48, elp sv (j * 2 + 1))]) ⟨rfl, rfl, rfl, rfl, trivial⟩ ?_
            refine WL2.fact 2 rfl (fun _ h => Vec.is h) ?_; rintro ⟨A2, c2, rfl⟩
            refine WL2.keep (env' := [(2, .pointer (some ⟨gp, 0, none⟩)), (5, .pointer (some ⟨gx, 0, none⟩)), (46, .slice A2 (x.l ++ [(e.t, n)]).length c2), (48, elp sv (j * 2 + 1))]) ⟨rfl, rfl, rfl, rfl, trivial⟩ ?_
            refine WL2.mid [Vec 104 2 encMk u2 ([(e.t, n)]), Each (fun x : SegV => Vec 104 2 encMk x.v x.l) (svs.take j), Vec 104 2 encMk (.slice A2 (x.l ++ [(e.t, n)]).length c2) (x.l ++ [(e.t, n)]), Each (fun x : SegV => Vec 104 2 encMk x.v x.l) (svs.drop (j + 1)), cell gp 34 #[.int .i64 q.k, .int .u64 ((lastIT (upTo d fs j f i)).1), .int .u64 ((lastIT (upTo d fs j f i)).2), .slice q.A q.n q.c, .int .i64 q.z], Vec 92 2 encSg sv svs, cell gs 100 #[elp sv (j * 2)], cell gx 34 #[.int .i64 e.k, .int .u64 e.t, .int .u64 e.i, .slice A e.d.length c, .int .i64 e.c], recT L2 (busyR r2), Vec 5 1 encB (.slice A e.d.length c) e.d] (.refl _) ?_
            refine h_q hflT rfl ?_
            refine h_acts (post := fun _ => [Vec 104 2 encMk u2 ([(e.t, n)]), Each (fun x : SegV => Vec 104 2 encMk x.v x.l) (svs.take j), Vec 104 2 encMk (.slice A2 (x.l ++ [(e.t, n)]).length c2) (x.l ++ [(e.t, n)]), Each (fun x : SegV => Vec 104 2 encMk x.v x.l) (svs.drop (j + 1)), cell gp 34 #[.int .i64 q.k, .int .u64 ((lastIT (upTo d fs j f i)).1), .int .u64 ((lastIT (upTo d fs j f i)).2), .slice q.A q.n q.c, .int .i64 q.z], Vec 92 2 encSg sv (svs.set j (⟨x.f, x.l ++ [(e.t, n)], A2, c2⟩ : SegV)), cell gs 100 #[elp sv (j * 2)], cell gx 34 #[.int .i64 e.k, .int .u64 e.t, .int .u64 e.i, .slice A e.d.length c, .int .i64 e.c], recT L2 (busyR r2), Vec 5 1 encB (.slice A e.d.length c) e.d]) rfl rfl (a_vstore 5 okSg rfl j (a := x) (b := (⟨x.f, x.l ++ [(e.t, n)], A2, c2⟩ : SegV)) hx ty_s_seg_mark.2 rfl rfl (by decide) rfl rfl rfl rfl rfl) ?_; rintro ⟨⟩
            refine h_nil ?_
            refine r_to ?_
            refine r_reg (by kernel_rfl) (by rintro ⟨a, w, h⟩; first | exact h.elim | exact nomatch h.1 | (obtain ⟨_, h, _⟩ := h; exact nomatch h)) ?_
            refine h_q hflT rfl ?_
            refine h_val rfl (.agg #[.int .i64 e.k, .int .u64 e.t, .int .u64 e.i, .slice A e.d.length c, .int .i64 e.c]) (fun b w hb hH => xLd rfl rfl (rAg (cs := [.int .i64 e.k, .int .u64 e.t, .int .u64 e.i, .slice A e.d.length c, .int .i64 e.c]) tyEn rfl) (hH.row 7 rfl) hb) ?_
            refine h_acts (post := fun _ => [Vec 104 2 encMk u2 ([(e.t, n)]), Each (fun x : SegV => Vec 104 2 encMk x.v x.l) (svs.take j), Vec 104 2 encMk (.slice A2 (x.l ++ [(e.t, n)]).length c2) (x.l ++ [(e.t, n)]), Each (fun x : SegV => Vec 104 2 encMk x.v x.l) (svs.drop (j + 1)), cell gp 34 #[.int .i64 e.k, .int .u64 e.t, .int .u64 e.i, .slice A e.d.length c, .int .i64 e.c], Vec 92 2 encSg sv (svs.set j (⟨x.f, x.l ++ [(e.t, n)], A2, c2⟩ : SegV)), cell gs 100 #[elp sv (j * 2)], cell gx 34 #[.int .i64 e.k, .int .u64 e.t, .int .u64 e.i, .slice A e.d.length c, .int .i64 e.c], recT L2 (busyR r2), Vec 5 1 encB (.slice A e.d.length c) e.d]) rfl rfl (a_store 4 (v := .agg #[.int .i64 e.k, .int .u64 e.t, .int .u64 e.i, .slice A e.d.length c, .int .i64 e.c]) #[.int .i64 e.k, .int .u64 e.t, .int .u64 e.i, .slice A e.d.length c, .int .i64 e.c] tyEn.2 rfl rfl rfl rfl rfl rfl rfl rfl rfl) ?_; rintro ⟨⟩
            refine h_nil (f_block ?_)
            refine f_close [1, 2, 3] rfl (mks_back (y := (⟨x.f, x.l ++ [(e.t, n)], A2, c2⟩ : SegV)) hjl) rfl ?_
            refine f_close [2] rfl (prevT_mk (m := lastIT (upTo d fs j f (i + 1))) (by rw [upTo_push hei, lastIT_push])) rfl ?_
            refine f_close [3, 1, 4, 0] rfl (ldI_mk (st_set hf hm hx hxf hxl hei)) rfl ?_
            exact r_tell [3, 0] rfl rfl
      refine f_open 0 rfl (LdI.end_ hf) (fun _ => rfl) ?_; rintro svs
      refine WE2.fact 4 rfl (fun _ h => h.2) ?_; rintro hm
      refine WE2.leave [4] rfl rfl ?_
      replace hm : svs.map SegV.m = stM d fs j ((entsB d f).length) := hm
      obtain ⟨x, hx, hxf, hxl⟩ := st_seg hf hm
      rw [stM_next hf] at hm
      obtain ⟨m, hmw, hmn⟩ := hwh j f b hf hb_
      have hxl2 : x.l = marksB d f := by rw [hxl]; exact List.take_of_length_le (by unfold marksB; rw [List.length_map]; exact Nat.le_refl _)
      have hmx : x.l[x.l.length - 1]? = some m := by rw [hxl2, ← List.getLast?_eq_getElem?]; exact hmw
      have hx0 : 0 < x.l.length := Nat.pos_of_ne_zero (fun h0 => by rw [List.length_eq_zero_iff.1 h0] at hmx; cases hmx)
      have hle := ents_le hf hL
      have hxL : x.l.length ≤ 1000000 := by rw [hxl2]; unfold marksB; rw [List.length_map]; exact hle
      refine WE2.keep (env' := [(10, .slice A0 b.length c0), (9, elp sv (j * 2)), (0, .pointer (some ⟨p, 0, none⟩)), (2, .pointer (some ⟨gp, 0, none⟩)), (7, .pointer (some ⟨p, 0, none⟩)), (8, .func (.func 134) #[] #[.pointer (some ⟨gf, 0, none⟩)]), (3, .pointer (some ⟨gs, 0, none⟩)), (4, .slice A0 b.length c0), (11, .slice A0 b.length c0), (12, .func (.func 135) #[] #[.pointer (some ⟨ge, 0, none⟩)])]) ⟨rfl, rfl, rfl, rfl, rfl, rfl, rfl, rfl, rfl, rfl, trivial⟩ ?_
      refine WE2.mid [Vec 92 2 encSg sv svs, MksE svs, cell gs 100 #[elp sv (j * 2)], PrevT gp (lastIT (listM d (fs.take (j + 1)))), Vec 5 1 encB (.slice A0 b.length c0) b, cell ge 30 #[.slice A0 b.length c0], cell p 87 #[.pointer (some ⟨dk, 0, none⟩), .int .i64 (lim : Int), sv], DiskT dk d, TabZ tb, recT L1 (busyR r1)] (.refl _) ?_
      refine f_block ?_
      refine r_to ?_
      refine r_seq (r_reg (by kernel_rfl) (by rintro ⟨a, w, h⟩; first | exact h.elim | exact nomatch h.1 | (obtain ⟨_, h, _⟩ := h; exact nomatch h)) ?_)
      refine h_q hflT rfl ?_
      refine h_val rfl (elp sv (j * 2)) (fun b w hb hH => xLd rfl rfl (rOn ty_p_seg_segment rfl) (hH.row 2 rfl) hb) ?_
      refine h_val rfl (elp sv (j * 2)) (fun b w hb hH => e_vnil 0 rfl (j := j) (List.getElem?_eq_some_iff.1 hx).1 rfl rfl hH hb) ?_
      refine h_val rfl (elp sv (j * 2 + 1)) (fun b w hb hH => eSf okSg (by decide) (hH.vec 0 rfl okSg) (j := j) hx fd_seg_segment_1 rfl rfl hb) ?_
      refine h_val rfl (.slice x.A x.l.length x.c) (fun b w hb hH => e_sload okSg (by decide) (hH.vec 0 rfl okSg) (j := j) hx ty_s_seg_mark (off := 1) rfl rfl rfl hb) ?_
      refine h_val rfl (.int .i64 (x.l.length : Int)) (fun b w hb hH => e_slen ((mks_rd 1 rfl hx hH)) Tryz.underlying90 rfl rfl hb) ?_
      refine h_val rfl (.bool false) (fun b w hb hH => xCm rfl rfl rfl (cEf (by omega)) hb) ?_
      refine h_q hflT rfl ?_
      refine h_val rfl (elp sv (j * 2)) (fun b w hb hH => xLd rfl rfl (rOn ty_p_seg_segment rfl) (hH.row 2 rfl) hb) ?_
      refine h_val rfl (elp sv (j * 2)) (fun b w hb hH => e_vnil 0 rfl (j := j) (List.getElem?_eq_some_iff.1 hx).1 rfl rfl hH hb) ?_
      refine h_val rfl (.agg (encSg x).toArray) (fun b w hb hH => e_sagg okSg (by decide) (hH.vec 0 rfl okSg) (j := j) hx ty_seg_segment rfl rfl hb) ?_
      refine h_act (post := fun _ => [Vec 92 2 encSg sv svs, MksE svs, cell gs 100 #[elp sv (j * 2)], PrevT gp (lastIT (listM d (fs.take (j + 1)))), Vec 5 1 encB (.slice A0 b.length c0) b, cell ge 30 #[.slice A0 b.length c0], cell p 87 #[.pointer (some ⟨dk, 0, none⟩), .int .i64 (lim : Int), sv], DiskT dk d, TabZ tb, recT L1 (busyR r1)]) rfl (a_call (ent_of Tryz.func93 (by kernel_rfl) rfl) (fun w hH => size_c w (mks_rd 1 rfl hx hH) hmx hx0 hxL) rfl rfl rfl) ?_; rintro ⟨⟩
      refine h_q hflT rfl ?_
      refine h_val rfl (.int .i64 (b.length : Int)) (fun b w hb hH => e_len sl_uint8 rfl rfl hH hb) ?_
      refine h_val rfl (.bool false) (fun b w hb hH => xCm rfl rfl rfl (cmp_lss_f (by omega)) hb) ?_
      refine h_q hflT rfl ?_
      refine h_nil (r_to ?_)
      refine r_else rfl ?_
      refine r_skip ?_
      refine f_block ?_
      refine f_close [1, 3] rfl (segR_mk hm) rfl ?_
      refine f_close [5, 1, 6, 7, 0] rfl (sgI_mk (R := (fun svs => star [MksE svs, PrevT gp (lastIT (listM d (fs.take (j + 1)))), fact (svs.map SegV.m = stM d fs (j + 1) 0)])) (st_fs hm)) rfl ?_
      exact r_tell [4, 0] rfl rfl
  intro D aT wT hDm hD0 hdf hF hH
  obtain ⟨svs, hH⟩ := hp_open 0 rfl SgI.open_ hH
  obtain ⟨_, hH⟩ := hp_open 4 rfl star_open hH
  have hm3 := thing_is (p := svs.map SegV.m = stM d fs N 0) 2 rfl (fun _ h => h.2) hH
  rw [stM_end hN] at hm3
  replace hH := hp_close (os := [MksE svs, PrevT gp (lastIT (listM d (fs.take N))), fact (svs.map SegV.m = stM d fs N 0), cell p 87 #[.pointer (some ⟨dk, 0, none⟩), .int .i64 (lim : Int), sv], Vec 92 2 encSg sv svs, DiskT dk d, TabZ tb, fact (svs.map SegV.f = fs), cell gf 26 #[.pointer (some ⟨p, 0, none⟩)]]) (t := LogT p dk lim (marksM d fs)) [3, 4, 0] rfl (logT_mk hm3) hH
  exact m_fin0 (e := .normal) rfl (fun w' h => tells (X := Unit) (val := fun _ => .tuple #[]) (post := fun _ => [LogT p dk lim (marksM d fs), DiskT dk d, TabZ tb]) (os := [LogT p dk lim (marksM d fs), PrevT gp (lastIT (listM d (fs.take N))), fact (svs.map SegV.m = stM d fs N 0), DiskT dk d, TabZ tb, fact (svs.map SegV.f = fs), cell gf 26 #[.pointer (some ⟨p, 0, none⟩)]]) () rfl [0, 3, 4] rfl h sPr) (by simp) D aT wT hDm hD0 hdf hF hH
end Go.Proofs.YtaipejaeeohpkaaGreatDoor.Sep
