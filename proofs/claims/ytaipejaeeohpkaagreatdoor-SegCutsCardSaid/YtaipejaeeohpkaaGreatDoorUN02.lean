/-
  SgZ
-/
import Derived.Test.YtaipejaeeohpkaaGreatDoorUN01
set_option linter.unusedSimpArgs false
set_option linter.unusedVariables false
set_option maxRecDepth 100000
namespace Go.Proofs.YtaipejaeeohpkaaGreatDoor.Sep
open Go.RowKit
open Go.Proofs.YtaipejaeeohpkaaGreatDoor.Mem (Dist Blk Chg below0)
theorem begin_does {p dk lim f : Nat} {ss : SegsM} {k t z : Int} {Ax AF : Option Addr} {nx cx cF : Nat} {y : List UInt8} {d d' : DiskD} (hl : ss.length ≤ 1000000) (hf : f ≤ 72057594037927935) (hyl : y.length ≤ 140737488351232) (tb : Tb) (hd : d.fit) (happ : appendD d (nameL f) y = (d', 0)) : Does Tryz.prog 99 #[.pointer (some ⟨p, 0, none⟩), .agg #[.int .i64 k, .int .u64 t, .int .u64 (f : Int), .slice Ax nx cx, .int .i64 z], .slice AF y.length cF] [LogT p dk lim ss, DiskT dk d, TabZ tb, Vec 5 1 encB (.slice AF y.length cF) y] (fun (_ : Unit) => .int .i64 0) (fun (_ : Unit) => [LogT p dk lim (ss ++ [(f, [(t, y.length)])]), DiskT dk d', TabZ tb, Vec 5 1 encB (.slice AF y.length cF) y]) := by
  refine d_ins (args := [.pointer (some ⟨p, 0, none⟩), .agg #[.int .i64 k, .int .u64 t, .int .u64 (f : Int), .slice Ax nx cx, .int .i64 z], .slice AF y.length cF]) 38 Tryz.func99 rfl rfl rfl ?_; intro w rs
  refine d_open 0 rfl LogT.open_ (fun _ => rfl) ?_; rintro ⟨sv, svs⟩
  refine WC2.fact 3 rfl (fun _ h => h.2) ?_; rintro hm
  refine WC2.leave [3] rfl rfl ?_
  replace hm : svs.map SegV.m = ss := hm
  have hsl : svs.length = ss.length := by have := congrArg List.length hm; simpa using this
  refine d_reg ?_
  refine h_q hflT rfl ?_
  refine h_act (post := fun gx => [cell gx 34 #[.int .i64 k, .int .u64 t, .int .u64 (f : Int), .slice Ax nx cx, .int .i64 z], cell p 87 #[.pointer (some ⟨dk, 0, none⟩), .int .i64 (lim : Int), sv], Vec 92 2 encSg sv svs, MksE svs, DiskT dk d, TabZ tb, Vec 5 1 encB (.slice AF y.length cF) y]) rfl (a_box (cs := #[.int .i64 k, .int .u64 t, .int .u64 (f : Int), .slice Ax nx cx, .int .i64 z]) rfl rfl rfl) ?_; rintro gx
  refine h_q hflT rfl ?_
  refine h_done (d_seq (d_seq ?_))
  refine d_parS 9 2 [⟨.quiet, [none, none], fun _ => .pointer (some ⟨p, 0, none⟩), []⟩, ⟨.quiet, [none, none], fun _ => .pointer (some ⟨p, 0, none⟩), [0]⟩, ⟨.quiet, [none, none], fun _ => .pointer (some ⟨p, 0, none⟩), [1]⟩, ⟨.quiet, [none, none], fun _ => .pointer (some ⟨dk, 0, none⟩), [2]⟩, ⟨.quiet, [none, none], fun _ => .pointer (some ⟨gx, 2, none⟩), []⟩, ⟨.quiet, [none, none], fun _ => .int .u64 (f : Int), [4]⟩, ⟨.actv 0, [some false, some false], fun _ => .string (bs (nameL f)), [5]⟩, ⟨.quiet, [none, none], fun _ => .slice AF y.length cF, []⟩, ⟨.actv 1, [some true, some false], fun _ => .int .i64 0, [3, 6, 7]⟩] [(0, .pointer (some ⟨p, 0, none⟩)), (2, .slice AF y.length cF), (4, .pointer (some ⟨gx, 0, none⟩)), (6, .int .i64 0)] (fun ρ => match ρ with | [r0, r1] => [cell gx 34 #[.int .i64 k, .int .u64 t, .int .u64 (f : Int), .slice Ax nx cx, .int .i64 z], cell p 87 #[.pointer (some ⟨dk, 0, none⟩), .int .i64 (lim : Int), sv], Vec 92 2 encSg sv svs, MksE svs, selS r1 (fun _ => DiskT dk d') (DiskT dk d), TabZ tb, Vec 5 1 encB (.slice AF y.length cF) y] | _ => []) (by kernel_rfl) (by kernel_rfl) ⟨rfl, rfl, rfl, rfl, trivial⟩ rfl ?_ ?_
  · skip
    refine s_cons (by intro r0_ r1_; exact ⟨rfl, fun b w hH hb => exec_q1 hflT rfl hb⟩) ?_
    refine s_cons (by intro r0_ r1_; exact ⟨rfl, fun b w hH hb => by exact xNc rfl rfl hb⟩) ?_
    refine s_cons (by intro r0_ r1_; exact ⟨rfl, fun b w hH hb => exec_q1 hflT rfl hb⟩) ?_
    refine s_cons (by intro r0_ r1_; exact ⟨rfl, fun b w hH hb => xLd rfl rfl (rOn ty_p_disk_Disk rfl) (hH.row 1 rfl) hb⟩) ?_
    refine s_cons (by intro r0_ r1_; exact ⟨rfl, fun b w hH hb => exec_q1 hflT rfl hb⟩) ?_
    refine s_cons (by intro r0_ r1_; exact ⟨rfl, fun b w hH hb => xLd rfl rfl (rOn ty_uint64 rfl) (hH.row 0 rfl) hb⟩) ?_
    refine s_cons (by exact ⟨rfl, Acts.su (a_does (os' := fun _ => [cell gx 34 #[.int .i64 k, .int .u64 t, .int .u64 (f : Int), .slice Ax nx cx, .int .i64 z], cell p 87 #[.pointer (some ⟨dk, 0, none⟩), .int .i64 (lim : Int), sv], Vec 92 2 encSg sv svs, MksE svs, DiskT dk d, TabZ tb, Vec 5 1 encB (.slice AF y.length cF) y]) [5] 0 (ent_of Tryz.func19 (by kernel_rfl) rfl) (name_does tb (n := f) (by omega)) rfl rfl rfl (fun _ => rfl) rfl rfl rfl) rfl⟩) ?_
    refine s_cons (by intro r0_ r1_; exact ⟨rfl, fun b w hH hb => exec_q1 hflT rfl hb⟩) ?_
    refine s_cons (by intro v0_; exact ⟨rfl, Acts.su (a_does (os' := fun _ => [cell gx 34 #[.int .i64 k, .int .u64 t, .int .u64 (f : Int), .slice Ax nx cx, .int .i64 z], cell p 87 #[.pointer (some ⟨dk, 0, none⟩), .int .i64 (lim : Int), sv], Vec 92 2 encSg sv svs, MksE svs, DiskT dk d', TabZ tb, Vec 5 1 encB (.slice AF y.length cF) y]) [4, 6] 0 (ent_of Tryz.func55 (by kernel_rfl) rfl) (disk_append hd hyl rd8_vec happ) rfl rfl rfl (fun _ => rfl) rfl rfl rfl) rfl⟩) ?_
    exact s_nil
  intro v0_ v1_
  refine WL2.keep (env' := [(0, .pointer (some ⟨p, 0, none⟩)), (2, .slice AF y.length cF), (4, .pointer (some ⟨gx, 0, none⟩)), (6, .int .i64 0), (16, .int .i64 0)]) ⟨rfl, rfl, rfl, rfl, rfl, trivial⟩ ?_
  refine h_q hflT rfl ?_
  refine h_nil (f_to (d_reg ?_))
  refine h_q hflT rfl ?_
  refine h_val rfl (.bool false) (fun b w hb hH => xCm rfl rfl rfl (cmp_neq_f (by decide)) hb) ?_
  refine h_done (d_else rfl (d_skip (f_to ?_)))
  refine d_close [2] rfl vec_toW rfl ?_
  refine WC2.keep (env' := [(0, .pointer (some ⟨p, 0, none⟩)), (2, .slice AF y.length cF), (4, .pointer (some ⟨gx, 0, none⟩)), (6, .int .i64 0), (16, .int .i64 0), (7, .int .i64 0), (17, .int .i64 0), (18, .bool false)]) ⟨rfl, rfl, rfl, rfl, rfl, rfl, rfl, rfl, trivial⟩ ?_
  refine WC2.mid [Vec 92 2 encSw sv (svs.map SegV.w), cell gx 34 #[.int .i64 k, .int .u64 t, .int .u64 (f : Int), .slice Ax nx cx, .int .i64 z], cell p 87 #[.pointer (some ⟨dk, 0, none⟩), .int .i64 (lim : Int), sv], MksE svs, DiskT dk d', TabZ tb, Vec 5 1 encB (.slice AF y.length cF) y] (.refl _) ?_
  refine d_seq ?_
  refine d_emps 2 rfl ?_
  refine d_parS 18 3 [⟨.quiet, [none, none, none], fun _ => .pointer (some ⟨p, 0, none⟩), []⟩, ⟨.quiet, [none, none, none], fun _ => .pointer (some ⟨p, 0, none⟩), []⟩, ⟨.quiet, [none, none, none], fun _ => .pointer (some ⟨p, 0, none⟩), [1]⟩, ⟨.quiet, [none, none, none], fun _ => .pointer (some ⟨p, 2, none⟩), [2]⟩, ⟨.quiet, [none, none, none], fun _ => sv, [3]⟩, ⟨.quiet, [none, none, none], fun _ => .pointer (some ⟨gx, 2, none⟩), []⟩, ⟨.quiet, [none, none, none], fun _ => .int .u64 (f : Int), [5]⟩, ⟨.quiet, [none, none, none], fun _ => .pointer (some ⟨gx, 1, none⟩), []⟩, ⟨.quiet, [none, none, none], fun _ => .int .u64 t, [7]⟩, ⟨.quiet, [none, none, none], fun _ => .slice AF y.length cF, []⟩, ⟨.quiet, [none, none, none], fun _ => .int .i64 (y.length : Int), [9]⟩, ⟨.quiet, [none, none, none], fun _ => .agg #[.int .u64 t, .int .i64 (y.length : Int)], [8, 10]⟩, ⟨.act 0, [some false, some false, some false], fun _ => undef, [11]⟩, ⟨.quiet, [some true, none, none], fun ρ => match ρ with | [some mv, _, _] => .agg #[.int .u64 (f : Int), mv] | _ => undef, [6, 12]⟩, ⟨.act 1, [some true, some false, some false], fun _ => undef, [13]⟩, ⟨.act 2, [some true, some true, some false], fun _ => undef, [4, 14]⟩, ⟨.quiet, [some true, some true, some true], fun _ => .pointer (some ⟨p, 0, none⟩), [0]⟩, ⟨.quiet, [some true, some true, some true], fun _ => .pointer (some ⟨p, 2, none⟩), [16]⟩] [(0, .pointer (some ⟨p, 0, none⟩)), (2, .slice AF y.length cF), (4, .pointer (some ⟨gx, 0, none⟩)), (6, .int .i64 0)] (fun ρ => match ρ with | [r0, r1, r2] => [selS r1 (fun su => selS r0 (fun mv => Vec 92 2 encSw su ([(f, mv)])) (emp)) (emp), selS r0 (fun mv => Vec 104 2 encMk mv ([(t, y.length)])) (emp), selS r2 (fun nv => selS r0 (fun mv => Vec 92 2 encSw nv (svs.map SegV.w ++ [(f, mv)])) (emp)) (Vec 92 2 encSw sv (svs.map SegV.w)), cell gx 34 #[.int .i64 k, .int .u64 t, .int .u64 (f : Int), .slice Ax nx cx, .int .i64 z], cell p 87 #[.pointer (some ⟨dk, 0, none⟩), .int .i64 (lim : Int), sv], MksE svs, DiskT dk d', TabZ tb, Vec 5 1 encB (.slice AF y.length cF) y] | _ => []) (by kernel_rfl) (by kernel_rfl) ⟨rfl, rfl, rfl, rfl, trivial⟩ rfl ?_ ?_
  · skip
    refine s_cons (by intro r0_ r1_ r2_; exact ⟨rfl, fun b w hH hb => exec_q1 hflT rfl hb⟩) ?_
    refine s_cons (by intro r0_ r1_ r2_; exact ⟨rfl, fun b w hH hb => exec_q1 hflT rfl hb⟩) ?_
    refine s_cons (by intro r0_ r1_ r2_; exact ⟨rfl, fun b w hH hb => by exact xNc rfl rfl hb⟩) ?_
    refine s_cons (by intro r0_ r1_ r2_; exact ⟨rfl, fun b w hH hb => exec_q1 hflT rfl hb⟩) ?_
    refine s_cons (by intro r0_ r1_ r2_; exact ⟨rfl, fun b w hH hb => xLd rfl rfl (rOn tySs rfl) (hH.row 4 rfl) hb⟩) ?_
    refine s_cons (by intro r0_ r1_ r2_; exact ⟨rfl, fun b w hH hb => exec_q1 hflT rfl hb⟩) ?_
    refine s_cons (by intro r0_ r1_ r2_; exact ⟨rfl, fun b w hH hb => xLd rfl rfl (rOn ty_uint64 rfl) (hH.row 3 rfl) hb⟩) ?_
    refine s_cons (by intro r0_ r1_ r2_; exact ⟨rfl, fun b w hH hb => exec_q1 hflT rfl hb⟩) ?_
    refine s_cons (by intro r0_ r1_ r2_; exact ⟨rfl, fun b w hH hb => xLd rfl rfl (rOn ty_uint64 rfl) (hH.row 3 rfl) hb⟩) ?_
    refine s_cons (by intro r0_ r1_ r2_; exact ⟨rfl, fun b w hH hb => exec_q1 hflT rfl hb⟩) ?_
    refine s_cons (by intro r0_ r1_ r2_; exact ⟨rfl, fun b w hH hb => e_len sl_uint8 rfl rfl hH hb⟩) ?_
    refine s_cons (by intro r0_ r1_ r2_; exact ⟨rfl, fun b w hH hb => exec_build rfl rfl (by kernel_rfl) hb⟩) ?_
    refine s_cons (by exact ⟨rfl, Acts.s (Acts.place (val := fun mv : Value => mv) (t := fun mv => Vec 104 2 encMk mv ([(t, y.length)])) (os' := fun mv => [emp, Vec 104 2 encMk mv ([(t, y.length)]), Vec 92 2 encSw sv (svs.map SegV.w), cell gx 34 #[.int .i64 k, .int .u64 t, .int .u64 (f : Int), .slice Ax nx cx, .int .i64 z], cell p 87 #[.pointer (some ⟨dk, 0, none⟩), .int .i64 (lim : Int), sv], MksE svs, DiskT dk d', TabZ tb, Vec 5 1 encB (.slice AF y.length cF) y]) 1 rfl (by refine a_buildK (e := 104) (t := 90) (k := 2) (enc := encMk) (x := .tmp 31) (c := .agg #[.int .u64 t, .int .i64 (y.length : Int)]) ?_ ?_ ?_ (t, y.length) ?_ ?_ ?_; exact sl_seg_mark; exact (by decide); exact okMk; exact rfl; exact rfl; exact rfl) (fun _ => rfl)) (fun _ => rfl)⟩) ?_
    refine s_cons (by intro mv r1_ r2_; exact ⟨rfl, fun b w hH hb => (by obtain ⟨_, h1_, _⟩ := hH.thing 1 rfl; obtain ⟨A2, c2, e2⟩ := Vec.is h1_; subst e2; exact exec_build rfl rfl rfl hb)⟩) ?_
    refine s_cons (by intro mv; exact ⟨rfl, Acts.s (Acts.place (val := fun su : Value => su) (t := fun su => Vec 92 2 encSw su ([(f, mv)])) (os' := fun su => [Vec 92 2 encSw su ([(f, mv)]), Vec 104 2 encMk mv ([(t, y.length)]), Vec 92 2 encSw sv (svs.map SegV.w), cell gx 34 #[.int .i64 k, .int .u64 t, .int .u64 (f : Int), .slice Ax nx cx, .int .i64 z], cell p 87 #[.pointer (some ⟨dk, 0, none⟩), .int .i64 (lim : Int), sv], MksE svs, DiskT dk d', TabZ tb, Vec 5 1 encB (.slice AF y.length cF) y]) 0 rfl (by exact a_buildW 1 f sl_seg_segment rfl rfl rfl) (fun _ => rfl)) (fun _ => rfl)⟩) ?_
    refine s_cons (by intro mv su; exact ⟨rfl, Acts.s (a_appendK (nb := 32) 2 sl_seg_segment okSw (by kernel_rfl) (by decide) rfl ([(f, mv)]) (fun w hH => hH.vec 0 rfl okSw) (by simp only [List.length_cons, List.length_nil, List.length_map]; omega) rfl rfl rfl rfl) (fun _ => rfl)⟩) ?_
    refine s_cons (by intro mv su nv; exact ⟨rfl, fun b w hH hb => by exact xNc rfl rfl hb⟩) ?_
    refine s_cons (by intro mv su nv; exact ⟨rfl, fun b w hH hb => exec_q1 hflT rfl hb⟩) ?_
    exact s_nil
  intro mv su nv
  refine WL2.keep (env' := [(6, .int .i64 0), (35, nv), (37, .pointer (some ⟨p, 2, none⟩))]) ⟨rfl, rfl, rfl, trivial⟩ ?_
  refine WL2.fact 1 rfl (fun _ h => Vec.is h) ?_; rintro ⟨A2, c2, rfl⟩
  refine WL2.keep (env' := [(6, .int .i64 0), (35, nv), (37, .pointer (some ⟨p, 2, none⟩))]) ⟨rfl, rfl, rfl, trivial⟩ ?_
  refine WL2.mid [Vec 92 2 encSw su ([(f, (.slice A2 [(t, y.length)].length c2))]), Vec 104 2 encMk (.slice A2 [(t, y.length)].length c2) ([(t, y.length)]), Vec 92 2 encSw nv (svs.map SegV.w ++ [(f, (.slice A2 [(t, y.length)].length c2))]), cell gx 34 #[.int .i64 k, .int .u64 t, .int .u64 (f : Int), .slice Ax nx cx, .int .i64 z], cell p 87 #[.pointer (some ⟨dk, 0, none⟩), .int .i64 (lim : Int), sv], MksE svs, DiskT dk d', TabZ tb, Vec 5 1 encB (.slice AF y.length cF) y] (.refl _) ?_
  refine h_close [2] rfl (vec_ofW (y := (⟨f, [(t, y.length)], A2, c2⟩ : SegV)) rfl) rfl ?_
  refine h_close [5, 2] rfl (mks_push (y := (⟨f, [(t, y.length)], A2, c2⟩ : SegV))) rfl ?_
  refine WL2.keep (env' := [(6, .int .i64 0), (35, nv), (37, .pointer (some ⟨p, 2, none⟩))]) ⟨rfl, rfl, rfl, trivial⟩ ?_
  refine WL2.mid [MksE (svs ++ [(⟨f, [(t, y.length)], A2, c2⟩ : SegV)]), Vec 92 2 encSg nv (svs ++ [(⟨f, [(t, y.length)], A2, c2⟩ : SegV)]), Vec 92 2 encSw su ([(f, (.slice A2 [(t, y.length)].length c2))]), cell gx 34 #[.int .i64 k, .int .u64 t, .int .u64 (f : Int), .slice Ax nx cx, .int .i64 z], cell p 87 #[.pointer (some ⟨dk, 0, none⟩), .int .i64 (lim : Int), sv], DiskT dk d', TabZ tb, Vec 5 1 encB (.slice AF y.length cF) y] (.refl _) ?_
  refine h_q hflT rfl ?_
  refine h_acts (post := fun _ => [MksE (svs ++ [(⟨f, [(t, y.length)], A2, c2⟩ : SegV)]), Vec 92 2 encSg nv (svs ++ [(⟨f, [(t, y.length)], A2, c2⟩ : SegV)]), Vec 92 2 encSw su ([(f, (.slice A2 [(t, y.length)].length c2))]), cell gx 34 #[.int .i64 k, .int .u64 t, .int .u64 (f : Int), .slice Ax nx cx, .int .i64 z], cell p 87 #[.pointer (some ⟨dk, 0, none⟩), .int .i64 (lim : Int), nv], DiskT dk d', TabZ tb, Vec 5 1 encB (.slice AF y.length cF) y]) rfl rfl (a_storev 4 1 (v := nv) #[.pointer (some ⟨dk, 0, none⟩), .int .i64 (lim : Int), nv] tySs.2 rfl (fun _ h => Vec.c1 h) rfl rfl rfl rfl rfl rfl rfl) ?_; rintro ⟨⟩
  refine h_nil (f_to (d_reg ?_))
  refine h_q hflT rfl ?_
  refine h_done (d_ret ?_)
  exact f_fin1 (.tmp rfl) (fun w h => tells () rfl [4, 1, 0, 5, 6, 7] rfl h (fun z hz => parts_log (log_push (y := (⟨f, [(t, y.length)], A2, c2⟩ : SegV)) hm) z hz)) rfl
theorem begin_doesI {p dk lim f : Nat} {ss : SegsM} {k t z : Int} {Ax AF : Option Addr} {nx cx cF : Nat} {y : List UInt8} {d d' : DiskD} (hl : ss.length ≤ 1000000) (hf : f ≤ 72057594037927935) (hyl : y.length ≤ 140737488351232) (tb : Tb) (hd : d.fit) (happ : appendD d (nameL f) y = (d', 0)) {fi : Int} (hfi : fi = (f : Int)) : Does Tryz.prog 99 #[.pointer (some ⟨p, 0, none⟩), .agg #[.int .i64 k, .int .u64 t, .int .u64 fi, .slice Ax nx cx, .int .i64 z], .slice AF y.length cF] [LogT p dk lim ss, DiskT dk d, TabZ tb, Vec 5 1 encB (.slice AF y.length cF) y] (fun _ : Unit => .int .i64 0) (fun _ => [LogT p dk lim (ss ++ [(f, [(t, y.length)])]), DiskT dk d', TabZ tb, Vec 5 1 encB (.slice AF y.length cF) y]) := by
 subst hfi
 exact begin_does hl hf hyl tb hd happ
theorem add_first {X : Ass} {p dk lim f : Nat} {e : EntD} {A : Option Addr} {c : Nat} {y : List UInt8} {d d' : DiskD} (hX : Rd8 X (.slice A e.d.length c) e.d) (hr : rightE e = true) (hei : e.i = (f : Int)) (hf : f ≤ 72057594037927935) (hyb : (layE e).length ≤ 140737488351232) (hy : frameL (layE e) = y) (hyl : y.length ≤ 140737488351232) (tb : Tb) (hd : d.fit) (happ : appendD d (nameL f) y = (d', 0)) : Does Tryz.prog 46 #[.pointer (some ⟨p, 0, none⟩), .agg #[.int .i64 e.k, .int .u64 e.t, .int .u64 e.i, .slice A e.d.length c, .int .i64 e.c]] [LogT p dk lim ([]), DiskT dk d, TabZ tb, X] (fun (_ : Unit) => .int .i64 0) (fun (_ : Unit) => [LogT p dk lim ([] ++ [(f, [(e.t, y.length)])]), DiskT dk d', TabZ tb, X]) := by
  refine d_ins (args := [.pointer (some ⟨p, 0, none⟩), .agg #[.int .i64 e.k, .int .u64 e.t, .int .u64 e.i, .slice A e.d.length c, .int .i64 e.c]]) 77 Tryz.func46 rfl rfl rfl ?_; intro w rs
  refine d_reg ?_
  refine h_q hflT rfl ?_
  refine h_act (post := fun gx => [cell gx 34 #[.int .i64 e.k, .int .u64 e.t, .int .u64 e.i, .slice A e.d.length c, .int .i64 e.c], LogT p dk lim ([]), DiskT dk d, TabZ tb, X]) rfl (a_box (cs := #[.int .i64 e.k, .int .u64 e.t, .int .u64 e.i, .slice A e.d.length c, .int .i64 e.c]) rfl rfl rfl) ?_; rintro gx
  refine h_q hflT rfl ?_
  refine h_done (d_reg ?_)
  refine h_q hflT rfl ?_
  refine h_val rfl (.agg #[.int .i64 e.k, .int .u64 e.t, .int .u64 e.i, .slice A e.d.length c, .int .i64 e.c]) (fun b w hb hH => xLd rfl rfl (rAg (cs := [.int .i64 e.k, .int .u64 e.t, .int .u64 e.i, .slice A e.d.length c, .int .i64 e.c]) tyEn rfl) (hH.row 0 rfl) hb) ?_
  refine h_act (post := fun lv => [Vec 5 1 encB lv (layE e), cell gx 34 #[.int .i64 e.k, .int .u64 e.t, .int .u64 e.i, .slice A e.d.length c, .int .i64 e.c], LogT p dk lim ([]), DiskT dk d, TabZ tb, X]) rfl (a_makes (os' := fun lv => [Vec 5 1 encB lv (layE e), cell gx 34 #[.int .i64 e.k, .int .u64 e.t, .int .u64 e.i, .slice A e.d.length c, .int .i64 e.c], LogT p dk lim ([]), DiskT dk d, TabZ tb, X]) [] 0 (ent_of Tryz.func97 (by kernel_rfl) rfl) (fun w hH => laye_does w ⟨e, A, c⟩ (hH.rd8 4 rfl hX) hr) rfl rfl rfl (fun _ => rfl) rfl rfl rfl) ?_; rintro lv
  refine h_q hflT rfl ?_
  refine h_done (d_reg ?_)
  refine h_q hflT rfl ?_
  refine h_act (post := fun fv => [Vec 5 1 encB fv y, Vec 5 1 encB lv (layE e), cell gx 34 #[.int .i64 e.k, .int .u64 e.t, .int .u64 e.i, .slice A e.d.length c, .int .i64 e.c], LogT p dk lim ([]), DiskT dk d, TabZ tb, X]) rfl (a_does (os' := fun fv => [Vec 5 1 encB fv y, Vec 5 1 encB lv (layE e), cell gx 34 #[.int .i64 e.k, .int .u64 e.t, .int .u64 e.i, .slice A e.d.length c, .int .i64 e.c], LogT p dk lim ([]), DiskT dk d, TabZ tb, X]) [0] 0 (ent_of Tryz.func98 (by kernel_rfl) rfl) (frame_does rd8_vec hyb hy) rfl rfl rfl (fun _ => rfl) rfl rfl rfl) ?_; rintro fv
  refine WL2.fact 0 rfl (fun _ h => Vec.is h) ?_; rintro ⟨AF, cF, hfv⟩
  change fv = .slice AF y.length cF at hfv
  subst hfv
  refine WL2.keep (env' := [(0, .pointer (some ⟨p, 0, none⟩)), (1, .agg #[.int .i64 e.k, .int .u64 e.t, .int .u64 e.i, .slice A e.d.length c, .int .i64 e.c]), (3, .pointer (some ⟨gx, 0, none⟩)), (4, .int .i64 0), (11, .agg #[.int .i64 e.k, .int .u64 e.t, .int .u64 e.i, .slice A e.d.length c, .int .i64 e.c]), (12, .tuple #[lv, .int .i64 0]), (10, .tuple #[lv, .int .i64 0]), (13, lv), (14, .int .i64 0), (5, lv), (6, .int .i64 0), (15, lv), (16, .slice AF y.length cF)]) ⟨rfl, rfl, rfl, rfl, rfl, rfl, rfl, rfl, rfl, rfl, rfl, rfl, rfl, trivial⟩ ?_
  refine WL2.mid [Vec 5 1 encB (.slice AF y.length cF) y, Vec 5 1 encB lv (layE e), cell gx 34 #[.int .i64 e.k, .int .u64 e.t, .int .u64 e.i, .slice A e.d.length c, .int .i64 e.c], LogT p dk lim ([]), DiskT dk d, TabZ tb, X] (.refl _) ?_
  refine h_q hflT rfl ?_
  refine h_done (d_seq ?_)
  refine d_open 3 rfl LogT.open_ (fun _ => rfl) ?_; rintro ⟨sv, svs⟩
  refine WC2.fact 3 rfl (fun _ h => h.2) ?_; rintro hm
  refine WC2.leave [3] rfl rfl ?_
  replace hm : svs.map SegV.m = [] := hm
  have hn : svs.length = 0 := by have := congrArg List.length hm; simpa using this
  refine d_seq ?_
  refine d_parS 21 0 [⟨.quiet, [], fun _ => .pointer (some ⟨p, 0, none⟩), []⟩, ⟨.quiet, [], fun _ => .pointer (some ⟨p, 0, none⟩), [0]⟩, ⟨.quiet, [], fun _ => .pointer (some ⟨p, 2, none⟩), [1]⟩, ⟨.quiet, [], fun _ => sv, [2]⟩, ⟨.quiet, [], fun _ => .int .i64 ((0 : Nat) : Int), [3]⟩, ⟨.quiet, [], fun _ => .bool true, [4]⟩, ⟨.quiet, [], fun _ => .bool true, [5]⟩, ⟨.skip, [], fun _ => undef, [6]⟩, ⟨.skip, [], fun _ => undef, [7, 6]⟩, ⟨.skip, [], fun _ => undef, [8, 6]⟩, ⟨.skip, [], fun _ => undef, [9, 6]⟩, ⟨.skip, [], fun _ => undef, [10, 6]⟩, ⟨.skip, [], fun _ => undef, [6]⟩, ⟨.skip, [], fun _ => undef, [12, 6]⟩, ⟨.skip, [], fun _ => undef, [11, 13, 6]⟩, ⟨.skip, [], fun _ => undef, [6]⟩, ⟨.skip, [], fun _ => undef, [15, 6]⟩, ⟨.skip, [], fun _ => undef, [16, 6]⟩, ⟨.skip, [], fun _ => undef, [17, 6]⟩, ⟨.skip, [], fun _ => undef, [14, 18, 6]⟩, ⟨.quiet, [], fun _ => .bool true, [6, 19]⟩] [(0, .pointer (some ⟨p, 0, none⟩)), (3, .pointer (some ⟨gx, 0, none⟩)), (4, .int .i64 0), (7, .slice AF y.length cF)] (fun _ => [cell p 87 #[.pointer (some ⟨dk, 0, none⟩), .int .i64 (lim : Int), sv], Vec 92 2 encSg sv svs, MksE svs, Vec 5 1 encB (.slice AF y.length cF) y, Vec 5 1 encB lv (layE e), cell gx 34 #[.int .i64 e.k, .int .u64 e.t, .int .u64 e.i, .slice A e.d.length c, .int .i64 e.c], DiskT dk d, TabZ tb, X]) (by kernel_rfl) (by kernel_rfl) ⟨rfl, rfl, rfl, rfl, trivial⟩ rfl ?_ ?_
  · skip
    refine s_cons (by exact ⟨rfl, fun b w hH hb => exec_q1 hflT rfl hb⟩) ?_
    refine s_cons (by exact ⟨rfl, fun b w hH hb => by exact xNc rfl rfl hb⟩) ?_
    refine s_cons (by exact ⟨rfl, fun b w hH hb => exec_q1 hflT rfl hb⟩) ?_
    refine s_cons (by exact ⟨rfl, fun b w hH hb => xLd rfl rfl (rOn tySs rfl) (hH.row 0 rfl) hb⟩) ?_
    refine s_cons (by exact ⟨rfl, fun b w hH hb => e_vlenN 1 hn Tryz.underlying85 rfl rfl rfl hH hb⟩) ?_
    refine s_cons (by exact ⟨rfl, fun b w hH hb => xCm rfl rfl rfl (cEt (by omega)) hb⟩) ?_
    refine s_cons (by exact ⟨rfl, fun b w hH hb => exec_q1 hflT rfl hb⟩) ?_
    refine s_cons (by exact ⟨rfl, rfl⟩) ?_
    refine s_cons (by exact ⟨rfl, rfl⟩) ?_
    refine s_cons (by exact ⟨rfl, rfl⟩) ?_
    refine s_cons (by exact ⟨rfl, rfl⟩) ?_
    refine s_cons (by exact ⟨rfl, rfl⟩) ?_
    refine s_cons (by exact ⟨rfl, rfl⟩) ?_
    refine s_cons (by exact ⟨rfl, rfl⟩) ?_
    refine s_cons (by exact ⟨rfl, rfl⟩) ?_
    refine s_cons (by exact ⟨rfl, rfl⟩) ?_
    refine s_cons (by exact ⟨rfl, rfl⟩) ?_
    refine s_cons (by exact ⟨rfl, rfl⟩) ?_
    refine s_cons (by exact ⟨rfl, rfl⟩) ?_
    refine s_cons (by exact ⟨rfl, rfl⟩) ?_
    refine s_cons (by exact ⟨rfl, fun b w hH hb => exec_q1 hflT rfl hb⟩) ?_
    exact s_nil
  refine WL2.keep (env' := [(0, .pointer (some ⟨p, 0, none⟩)), (3, .pointer (some ⟨gx, 0, none⟩)), (4, .int .i64 0), (7, .slice AF y.length cF), (37, .bool true)]) ⟨rfl, rfl, rfl, rfl, rfl, trivial⟩ ?_
  refine h_nil (f_to (d_then rfl ?_))
  refine d_close [0, 1, 2] rfl (logT_mk hm) rfl ?_
  refine WC2.keep (env' := [(0, .pointer (some ⟨p, 0, none⟩)), (3, .pointer (some ⟨gx, 0, none⟩)), (4, .int .i64 0), (7, .slice AF y.length cF), (37, .bool true)]) ⟨rfl, rfl, rfl, rfl, rfl, trivial⟩ ?_
  refine WC2.mid [LogT p dk lim ([]), Vec 5 1 encB (.slice AF y.length cF) y, Vec 5 1 encB lv (layE e), cell gx 34 #[.int .i64 e.k, .int .u64 e.t, .int .u64 e.i, .slice A e.d.length c, .int .i64 e.c], DiskT dk d, TabZ tb, X] (.refl _) ?_
  refine d_reg ?_
  refine h_q hflT rfl ?_
  refine h_val rfl (.agg #[.int .i64 e.k, .int .u64 e.t, .int .u64 e.i, .slice A e.d.length c, .int .i64 e.c]) (fun b w hb hH => xLd rfl rfl (rAg (cs := [.int .i64 e.k, .int .u64 e.t, .int .u64 e.i, .slice A e.d.length c, .int .i64 e.c]) tyEn rfl) (hH.row 3 rfl) hb) ?_
  refine h_q hflT rfl ?_
  refine h_act (post := fun _ => [LogT p dk lim ([] ++ [(f, [(e.t, y.length)])]), Vec 5 1 encB (.slice AF y.length cF) y, Vec 5 1 encB lv (layE e), cell gx 34 #[.int .i64 e.k, .int .u64 e.t, .int .u64 e.i, .slice A e.d.length c, .int .i64 e.c], DiskT dk d', TabZ tb, X]) rfl (a_does (os' := fun _ => [LogT p dk lim ([] ++ [(f, [(e.t, y.length)])]), Vec 5 1 encB (.slice AF y.length cF) y, Vec 5 1 encB lv (layE e), cell gx 34 #[.int .i64 e.k, .int .u64 e.t, .int .u64 e.i, .slice A e.d.length c, .int .i64 e.c], DiskT dk d', TabZ tb, X]) [0, 4, 5, 1] 0 (ent_of Tryz.func99 (by kernel_rfl) rfl) (begin_doesI (Nat.zero_le _) hf hyl tb hd happ hei) rfl rfl rfl (fun _ => rfl) rfl rfl rfl) ?_; rintro ⟨⟩
  refine h_q hflT rfl ?_
  refine h_done (d_ret (fTr ?_))
  exact f_fin1 (.tmp rfl) (fun w h => tells () rfl [0, 4, 5, 6] rfl h sPr) rfl
theorem add_new {X : Ass} {p dk lim f : Nat} {ss : SegsM} {f0 : Nat} {l : List (Int × Nat)} {m : Int × Nat} {e : EntD} {A : Option Addr} {c : Nat} {y : List UInt8} {d d' : DiskD} (hX : Rd8 X (.slice A e.d.length c) e.d) (hr : rightE e = true) (hei : e.i = (f : Int)) (hl : ss.length ≤ 999999) (hl2 : l.length ≤ 999999) (hf0 : f0 ≤ 72057594037927935) (h0 : l ≠ []) (hm1 : l[l.length - 1]? = some m) (hmb : m.2 ≤ 137438953472) (hf : f ≤ 72057594037927935) (hyb : (layE e).length ≤ 140737488351232) (hy : frameL (layE e) = y) (hyl : y.length ≤ 140737488351232) (tb : Tb) (hd : d.fit) (happ : appendD d (nameL f) y = (d', 0)) (hbig : lim < m.2 + y.length) : Does Tryz.prog 46 #[.pointer (some ⟨p, 0, none⟩), .agg #[.int .i64 e.k, .int .u64 e.t, .int .u64 e.i, .slice A e.d.length c, .int .i64 e.c]] [LogT p dk lim (ss ++ [(f0, l)]), DiskT dk d, TabZ tb, X] (fun (_ : Unit) => .int .i64 0) (fun (_ : Unit) => [LogT p dk lim (ss ++ [(f0, l)] ++ [(f, [(e.t, y.length)])]), DiskT dk d', TabZ tb, X]) := by
  refine d_ins (args := [.pointer (some ⟨p, 0, none⟩), .agg #[.int .i64 e.k, .int .u64 e.t, .int .u64 e.i, .slice A e.d.length c, .int .i64 e.c]]) 77 Tryz.func46 rfl rfl rfl ?_; intro w rs
  refine d_reg ?_
  refine h_q hflT rfl ?_
  refine h_act (post := fun gx => [cell gx 34 #[.int .i64 e.k, .int .u64 e.t, .int .u64 e.i, .slice A e.d.length c, .int .i64 e.c], LogT p dk lim (ss ++ [(f0, l)]), DiskT dk d, TabZ tb, X]) rfl (a_box (cs := #[.int .i64 e.k, .int .u64 e.t, .int .u64 e.i, .slice A e.d.length c, .int .i64 e.c]) rfl rfl rfl) ?_; rintro gx
  refine h_q hflT rfl ?_
  refine h_done (d_reg ?_)
  refine h_q hflT rfl ?_
  refine h_val rfl (.agg #[.int .i64 e.k, .int .u64 e.t, .int .u64 e.i, .slice A e.d.length c, .int .i64 e.c]) (fun b w hb hH => xLd rfl rfl (rAg (cs := [.int .i64 e.k, .int .u64 e.t, .int .u64 e.i, .slice A e.d.length c, .int .i64 e.c]) tyEn rfl) (hH.row 0 rfl) hb) ?_
  refine h_act (post := fun lv => [Vec 5 1 encB lv (layE e), cell gx 34 #[.int .i64 e.k, .int .u64 e.t, .int .u64 e.i, .slice A e.d.length c, .int .i64 e.c], LogT p dk lim (ss ++ [(f0, l)]), DiskT dk d, TabZ tb, X]) rfl (a_makes (os' := fun lv => [Vec 5 1 encB lv (layE e), cell gx 34 #[.int .i64 e.k, .int .u64 e.t, .int .u64 e.i, .slice A e.d.length c, .int .i64 e.c], LogT p dk lim (ss ++ [(f0, l)]), DiskT dk d, TabZ tb, X]) [] 0 (ent_of Tryz.func97 (by kernel_rfl) rfl) (fun w hH => laye_does w ⟨e, A, c⟩ (hH.rd8 4 rfl hX) hr) rfl rfl rfl (fun _ => rfl) rfl rfl rfl) ?_; rintro lv
  refine h_q hflT rfl ?_
  refine h_done (d_reg ?_)
  refine h_q hflT rfl ?_
  refine h_act (post := fun fv => [Vec 5 1 encB fv y, Vec 5 1 encB lv (layE e), cell gx 34 #[.int .i64 e.k, .int .u64 e.t, .int .u64 e.i, .slice A e.d.length c, .int .i64 e.c], LogT p dk lim (ss ++ [(f0, l)]), DiskT dk d, TabZ tb, X]) rfl (a_does (os' := fun fv => [Vec 5 1 encB fv y, Vec 5 1 encB lv (layE e), cell gx 34 #[.int .i64 e.k, .int .u64 e.t, .int .u64 e.i, .slice A e.d.length c, .int .i64 e.c], LogT p dk lim (ss ++ [(f0, l)]), DiskT dk d, TabZ tb, X]) [0] 0 (ent_of Tryz.func98 (by kernel_rfl) rfl) (frame_does rd8_vec hyb hy) rfl rfl rfl (fun _ => rfl) rfl rfl rfl) ?_; rintro fv
  refine WL2.fact 0 rfl (fun _ h => Vec.is h) ?_; rintro ⟨AF, cF, hfv⟩
  change fv = .slice AF y.length cF at hfv
  subst hfv
  refine WL2.keep (env' := [(0, .pointer (some ⟨p, 0, none⟩)), (1, .agg #[.int .i64 e.k, .int .u64 e.t, .int .u64 e.i, .slice A e.d.length c, .int .i64 e.c]), (3, .pointer (some ⟨gx, 0, none⟩)), (4, .int .i64 0), (11, .agg #[.int .i64 e.k, .int .u64 e.t, .int .u64 e.i, .slice A e.d.length c, .int .i64 e.c]), (12, .tuple #[lv, .int .i64 0]), (10, .tuple #[lv, .int .i64 0]), (13, lv), (14, .int .i64 0), (5, lv), (6, .int .i64 0), (15, lv), (16, .slice AF y.length cF)]) ⟨rfl, rfl, rfl, rfl, rfl, rfl, rfl, rfl, rfl, rfl, rfl, rfl, rfl, trivial⟩ ?_
  refine WL2.mid [Vec 5 1 encB (.slice AF y.length cF) y, Vec 5 1 encB lv (layE e), cell gx 34 #[.int .i64 e.k, .int .u64 e.t, .int .u64 e.i, .slice A e.d.length c, .int .i64 e.c], LogT p dk lim (ss ++ [(f0, l)]), DiskT dk d, TabZ tb, X] (.refl _) ?_
  refine h_q hflT rfl ?_
  refine h_done (d_seq ?_)
  refine d_open 3 rfl LogT.open_ (fun _ => rfl) ?_; rintro ⟨sv, svs⟩
  refine WC2.fact 3 rfl (fun _ h => h.2) ?_; rintro hm
  refine WC2.leave [3] rfl rfl ?_
  replace hm : svs.map SegV.m = ss ++ [(f0, l)] := hm
  obtain ⟨x, hx, rfl, rfl, hn⟩ := segs_last hm
  have hl0 : 0 < x.l.length := List.length_pos_iff.2 h0
  have hjl : ss.length < svs.length := (List.getElem?_eq_some_iff.1 hx).1
  refine d_seq ?_
  refine d_parS 21 2 [⟨.quiet, [none, none], fun _ => .pointer (some ⟨p, 0, none⟩), []⟩, ⟨.quiet, [none, none], fun _ => .pointer (some ⟨p, 0, none⟩), [0]⟩, ⟨.quiet, [none, none], fun _ => .pointer (some ⟨p, 2, none⟩), [1]⟩, ⟨.quiet, [none, none], fun _ => sv, [2]⟩, ⟨.quiet, [none, none], fun _ => .int .i64 ((ss.length + 1 : Nat) : Int), [3]⟩, ⟨.quiet, [none, none], fun _ => .bool false, [4]⟩, ⟨.quiet, [none, none], fun _ => .bool false, [5]⟩, ⟨.quiet, [none, none], fun _ => .pointer (some ⟨p, 0, none⟩), [6]⟩, ⟨.actv 0, [some false, some false], fun _ => elp sv (ss.length * 2), [7, 6]⟩, ⟨.quiet, [some true, none], fun _ => elp sv (ss.length * 2), [8, 6]⟩, ⟨.quiet, [some true, none], fun _ => .agg (encSg x).toArray, [9, 6]⟩, ⟨.actv 1, [some true, some false], fun _ => .int .i64 (m.2 : Int), [10, 6]⟩, ⟨.quiet, [none, none], fun _ => .slice AF y.length cF, [6]⟩, ⟨.quiet, [none, none], fun _ => .int .i64 (y.length : Int), [12, 6]⟩, ⟨.quiet, [some true, some true], fun _ => .int .i64 ((m.2 + y.length : Nat) : Int), [11, 13, 6]⟩, ⟨.quiet, [none, none], fun _ => .pointer (some ⟨p, 0, none⟩), [6]⟩, ⟨.quiet, [none, none], fun _ => .pointer (some ⟨p, 0, none⟩), [15, 6]⟩, ⟨.quiet, [none, none], fun _ => .pointer (some ⟨p, 1, none⟩), [16, 6]⟩, ⟨.quiet, [none, none], fun _ => .int .i64 (lim : Int), [17, 6]⟩, ⟨.quiet, [some true, some true], fun _ => .bool true, [14, 18, 6]⟩, ⟨.quiet, [some true, some true], fun _ => .bool true, [6, 19]⟩] [(0, .pointer (some ⟨p, 0, none⟩)), (3, .pointer (some ⟨gx, 0, none⟩)), (4, .int .i64 0), (7, .slice AF y.length cF)] (fun ρ => match ρ with | [r0, r1] => [cell p 87 #[.pointer (some ⟨dk, 0, none⟩), .int .i64 (lim : Int), sv], Vec 92 2 encSg sv svs, MksE svs, Vec 5 1 encB (.slice AF y.length cF) y, Vec 5 1 encB lv (layE e), cell gx 34 #[.int .i64 e.k, .int .u64 e.t, .int .u64 e.i, .slice A e.d.length c, .int .i64 e.c], DiskT dk d, TabZ tb, X] | _ => []) (by kernel_rfl) (by kernel_rfl) ⟨rfl, rfl, rfl, rfl, trivial⟩ rfl ?_ ?_
  · skip
    refine s_cons (by intro r0_ r1_; exact ⟨rfl, fun b w hH hb => exec_q1 hflT rfl hb⟩) ?_
    refine s_cons (by intro r0_ r1_; exact ⟨rfl, fun b w hH hb => by exact xNc rfl rfl hb⟩) ?_
    refine s_cons (by intro r0_ r1_; exact ⟨rfl, fun b w hH hb => exec_q1 hflT rfl hb⟩) ?_
    refine s_cons (by intro r0_ r1_; exact ⟨rfl, fun b w hH hb => xLd rfl rfl (rOn tySs rfl) (hH.row 0 rfl) hb⟩) ?_
    refine s_cons (by intro r0_ r1_; exact ⟨rfl, fun b w hH hb => e_vlenN 1 hn Tryz.underlying85 rfl rfl rfl hH hb⟩) ?_
    refine s_cons (by intro r0_ r1_; exact ⟨rfl, fun b w hH hb => xCm rfl rfl rfl (cEf (by omega)) hb⟩) ?_
    refine s_cons (by intro r0_ r1_; exact ⟨rfl, fun b w hH hb => exec_q1 hflT rfl hb⟩) ?_
    refine s_cons (by intro r0_ r1_; exact ⟨rfl, fun b w hH hb => exec_q1 hflT rfl hb⟩) ?_
    refine s_cons (by exact ⟨rfl, Acts.su (a_does (os' := fun _ => [cell p 87 #[.pointer (some ⟨dk, 0, none⟩), .int .i64 (lim : Int), sv], Vec 92 2 encSg sv svs, MksE svs, Vec 5 1 encB (.slice AF y.length cF) y, Vec 5 1 encB lv (layE e), cell gx 34 #[.int .i64 e.k, .int .u64 e.t, .int .u64 e.i, .slice A e.d.length c, .int .i64 e.c], DiskT dk d, TabZ tb, X]) [0, 1] 0 (ent_of Tryz.func49 (by kernel_rfl) rfl) (tail_does hn (by omega)) rfl rfl rfl (fun _ => rfl) rfl rfl rfl) rfl⟩) ?_
    refine s_cons (by intro v0_ r1_; exact ⟨rfl, fun b w hH hb => e_vnil 1 rfl (j := ss.length) (List.getElem?_eq_some_iff.1 hx).1 rfl rfl hH hb⟩) ?_
    refine s_cons (by intro v0_ r1_; exact ⟨rfl, fun b w hH hb => e_sagg okSg (by decide) (hH.vec 1 rfl okSg) (j := ss.length) hx ty_seg_segment rfl rfl hb⟩) ?_
    refine s_cons (by intro v0_; exact ⟨rfl, Acts.su (a_call (ent_of Tryz.func93 (by kernel_rfl) rfl) (fun w hH => size_c w (mks_rd 2 rfl hx hH) hm1 hl0 (by omega)) rfl rfl rfl) rfl⟩) ?_
    refine s_cons (by intro r0_ r1_; exact ⟨rfl, fun b w hH hb => exec_q1 hflT rfl hb⟩) ?_
    refine s_cons (by intro r0_ r1_; exact ⟨rfl, fun b w hH hb => e_len sl_uint8 rfl rfl hH hb⟩) ?_
    refine s_cons (by intro v0_ v1_; exact ⟨rfl, fun b w hH hb => exec_ar rfl rfl rfl rfl (by rw [IntWalk.i64_in _ (by omega)]; omega) hb⟩) ?_
    refine s_cons (by intro r0_ r1_; exact ⟨rfl, fun b w hH hb => exec_q1 hflT rfl hb⟩) ?_
    refine s_cons (by intro r0_ r1_; exact ⟨rfl, fun b w hH hb => by exact xNc rfl rfl hb⟩) ?_
    refine s_cons (by intro r0_ r1_; exact ⟨rfl, fun b w hH hb => exec_q1 hflT rfl hb⟩) ?_
    refine s_cons (by intro r0_ r1_; exact ⟨rfl, fun b w hH hb => xLd rfl rfl (rOn ty_int rfl) (hH.row 0 rfl) hb⟩) ?_
    refine s_cons (by intro v0_ v1_; exact ⟨rfl, fun b w hH hb => xCm rfl rfl rfl (cmp_gtr_t (by omega)) hb⟩) ?_
    refine s_cons (by intro v0_ v1_; exact ⟨rfl, fun b w hH hb => exec_q1 hflT rfl hb⟩) ?_
    exact s_nil
  intro v0_ v1_
  refine WL2.keep (env' := [(0, .pointer (some ⟨p, 0, none⟩)), (3, .pointer (some ⟨gx, 0, none⟩)), (4, .int .i64 0), (7, .slice AF y.length cF), (37, .bool true)]) ⟨rfl, rfl, rfl, rfl, rfl, trivial⟩ ?_
  refine h_nil (f_to (d_then rfl ?_))
  refine d_close [0, 1, 2] rfl (logT_mk hm) rfl ?_
  refine WC2.keep (env' := [(0, .pointer (some ⟨p, 0, none⟩)), (3, .pointer (some ⟨gx, 0, none⟩)), (4, .int .i64 0), (7, .slice AF y.length cF), (37, .bool true)]) ⟨rfl, rfl, rfl, rfl, rfl, trivial⟩ ?_
  refine WC2.mid [LogT p dk lim (ss ++ [(x.f, x.l)]), Vec 5 1 encB (.slice AF y.length cF) y, Vec 5 1 encB lv (layE e), cell gx 34 #[.int .i64 e.k, .int .u64 e.t, .int .u64 e.i, .slice A e.d.length c, .int .i64 e.c], DiskT dk d, TabZ tb, X] (.refl _) ?_
  refine d_reg ?_
  refine h_q hflT rfl ?_
  refine h_val rfl (.agg #[.int .i64 e.k, .int .u64 e.t, .int .u64 e.i, .slice A e.d.length c, .int .i64 e.c]) (fun b w hb hH => xLd rfl rfl (rAg (cs := [.int .i64 e.k, .int .u64 e.t, .int .u64 e.i, .slice A e.d.length c, .int .i64 e.c]) tyEn rfl) (hH.row 3 rfl) hb) ?_
  refine h_q hflT rfl ?_
  refine h_act (post := fun _ => [LogT p dk lim (ss ++ [(x.f, x.l)] ++ [(f, [(e.t, y.length)])]), Vec 5 1 encB (.slice AF y.length cF) y, Vec 5 1 encB lv (layE e), cell gx 34 #[.int .i64 e.k, .int .u64 e.t, .int .u64 e.i, .slice A e.d.length c, .int .i64 e.c], DiskT dk d', TabZ tb, X]) rfl (a_does (os' := fun _ => [LogT p dk lim (ss ++ [(x.f, x.l)] ++ [(f, [(e.t, y.length)])]), Vec 5 1 encB (.slice AF y.length cF) y, Vec 5 1 encB lv (layE e), cell gx 34 #[.int .i64 e.k, .int .u64 e.t, .int .u64 e.i, .slice A e.d.length c, .int .i64 e.c], DiskT dk d', TabZ tb, X]) [0, 4, 5, 1] 0 (ent_of Tryz.func99 (by kernel_rfl) rfl) (begin_doesI (by rw [List.length_append]; simp only [List.length_cons, List.length_nil]; omega) hf hyl tb hd happ hei) rfl rfl rfl (fun _ => rfl) rfl rfl rfl) ?_; rintro ⟨⟩
  refine h_q hflT rfl ?_
  refine h_done (d_ret (fTr ?_))
  exact f_fin1 (.tmp rfl) (fun w h => tells () rfl [0, 4, 5, 6] rfl h sPr) rfl
theorem add_old {X : Ass} {p dk lim : Nat} {ss : SegsM} {f0 : Nat} {l : List (Int × Nat)} {m : Int × Nat} {e : EntD} {A : Option Addr} {c : Nat} {y : List UInt8} {d d' : DiskD} (hX : Rd8 X (.slice A e.d.length c) e.d) (hr : rightE e = true) (hl : ss.length ≤ 1000000) (hl2 : l.length ≤ 999999) (hf0 : f0 ≤ 72057594037927935) (h0 : l ≠ []) (hm1 : l[l.length - 1]? = some m) (hmb : m.2 ≤ 137438953472) (hyb : (layE e).length ≤ 140737488351232) (hy : frameL (layE e) = y) (hyl : y.length ≤ 140737488351232) (tb : Tb) (hd : d.fit) (happ : appendD d (nameL f0) y = (d', 0)) (hfit : m.2 + y.length ≤ lim) (hli : lim ≤ 1000000000) : Does Tryz.prog 46 #[.pointer (some ⟨p, 0, none⟩), .agg #[.int .i64 e.k, .int .u64 e.t, .int .u64 e.i, .slice A e.d.length c, .int .i64 e.c]] [LogT p dk lim (ss ++ [(f0, l)]), DiskT dk d, TabZ tb, X] (fun (_ : Unit) => .int .i64 0) (fun (_ : Unit) => [LogT p dk lim (ss ++ [(f0, l ++ [(e.t, m.2 + y.length)])]), DiskT dk d', TabZ tb, X]) := by
  refine d_ins (args := [.pointer (some ⟨p, 0, none⟩), .agg #[.int .i64 e.k, .int .u64 e.t, .int .u64 e.i, .slice A e.d.length c, .int .i64 e.c]]) 77 Tryz.func46 rfl rfl rfl ?_; intro w rs
  refine d_reg ?_
  refine h_q hflT rfl ?_
  refine h_act (post := fun gx => [cell gx 34 #[.int .i64 e.k, .int .u64 e.t, .int .u64 e.i, .slice A e.d.length c, .int .i64 e.c], LogT p dk lim (ss ++ [(f0, l)]), DiskT dk d, TabZ tb, X]) rfl (a_box (cs := #[.int .i64 e.k, .int .u64 e.t, .int .u64 e.i, .slice A e.d.length c, .int .i64 e.c]) rfl rfl rfl) ?_; rintro gx
  refine h_q hflT rfl ?_
  refine h_done (d_reg ?_)
  refine h_q hflT rfl ?_
  refine h_val rfl (.agg #[.int .i64 e.k, .int .u64 e.t, .int .u64 e.i, .slice A e.d.length c, .int .i64 e.c]) (fun b w hb hH => xLd rfl rfl (rAg (cs := [.int .i64 e.k, .int .u64 e.t, .int .u64 e.i, .slice A e.d.length c, .int .i64 e.c]) tyEn rfl) (hH.row 0 rfl) hb) ?_
  refine h_act (post := fun lv => [Vec 5 1 encB lv (layE e), cell gx 34 #[.int .i64 e.k, .int .u64 e.t, .int .u64 e.i, .slice A e.d.length c, .int .i64 e.c], LogT p dk lim (ss ++ [(f0, l)]), DiskT dk d, TabZ tb, X]) rfl (a_makes (os' := fun lv => [Vec 5 1 encB lv (layE e), cell gx 34 #[.int .i64 e.k, .int .u64 e.t, .int .u64 e.i, .slice A e.d.length c, .int .i64 e.c], LogT p dk lim (ss ++ [(f0, l)]), DiskT dk d, TabZ tb, X]) [] 0 (ent_of Tryz.func97 (by kernel_rfl) rfl) (fun w hH => laye_does w ⟨e, A, c⟩ (hH.rd8 4 rfl hX) hr) rfl rfl rfl (fun _ => rfl) rfl rfl rfl) ?_; rintro lv
  refine h_q hflT rfl ?_
  refine h_done (d_reg ?_)
  refine h_q hflT rfl ?_
  refine h_act (post := fun fv => [Vec 5 1 encB fv y, Vec 5 1 encB lv (layE e), cell gx 34 #[.int .i64 e.k, .int .u64 e.t, .int .u64 e.i, .slice A e.d.length c, .int .i64 e.c], LogT p dk lim (ss ++ [(f0, l)]), DiskT dk d, TabZ tb, X]) rfl (a_does (os' := fun fv => [Vec 5 1 encB fv y, Vec 5 1 encB lv (layE e), cell gx 34 #[.int .i64 e.k, .int .u64 e.t, .int .u64 e.i, .slice A e.d.length c, .int .i64 e.c], LogT p dk lim (ss ++ [(f0, l)]), DiskT dk d, TabZ tb, X]) [0] 0 (ent_of Tryz.func98 (by kernel_rfl) rfl) (frame_does rd8_vec hyb hy) rfl rfl rfl (fun _ => rfl) rfl rfl rfl) ?_; rintro fv
  refine WL2.fact 0 rfl (fun _ h => Vec.is h) ?_; rintro ⟨AF, cF, hfv⟩
  change fv = .slice AF y.length cF at hfv
  subst hfv
  refine WL2.keep (env' := [(0, .pointer (some ⟨p, 0, none⟩)), (1, .agg #[.int .i64 e.k, .int .u64 e.t, .int .u64 e.i, .slice A e.d.length c, .int .i64 e.c]), (3, .pointer (some ⟨gx, 0, none⟩)), (4, .int .i64 0), (11, .agg #[.int .i64 e.k, .int .u64 e.t, .int .u64 e.i, .slice A e.d.length c, .int .i64 e.c]), (12, .tuple #[lv, .int .i64 0]), (10, .tuple #[lv, .int .i64 0]), (13, lv), (14, .int .i64 0), (5, lv), (6, .int .i64 0), (15, lv), (16, .slice AF y.length cF)]) ⟨rfl, rfl, rfl, rfl, rfl, rfl, rfl, rfl, rfl, rfl, rfl, rfl, rfl, trivial⟩ ?_
  refine WL2.mid [Vec 5 1 encB (.slice AF y.length cF) y, Vec 5 1 encB lv (layE e), cell gx 34 #[.int .i64 e.k, .int .u64 e.t, .int .u64 e.i, .slice A e.d.length c, .int .i64 e.c], LogT p dk lim (ss ++ [(f0, l)]), DiskT dk d, TabZ tb, X] (.refl _) ?_
  refine h_q hflT rfl ?_
  refine h_done (d_seq ?_)
  refine d_open 3 rfl LogT.open_ (fun _ => rfl) ?_; rintro ⟨sv, svs⟩
  refine WC2.fact 3 rfl (fun _ h => h.2) ?_; rintro hm
  refine WC2.leave [3] rfl rfl ?_
  replace hm : svs.map SegV.m = ss ++ [(f0, l)] := hm
  obtain ⟨x, hx, rfl, rfl, hn⟩ := segs_last hm
  have hl0 : 0 < x.l.length := List.length_pos_iff.2 h0
  have hjl : ss.length < svs.length := (List.getElem?_eq_some_iff.1 hx).1
  refine d_seq ?_
  refine d_parS 21 2 [⟨.quiet, [none, none], fun _ => .pointer (some ⟨p, 0, none⟩), []⟩, ⟨.quiet, [none, none], fun _ => .pointer (some ⟨p, 0, none⟩), [0]⟩, ⟨.quiet, [none, none], fun _ => .pointer (some ⟨p, 2, none⟩), [1]⟩, ⟨.quiet, [none, none], fun _ => sv, [2]⟩, ⟨.quiet, [none, none], fun _ => .int .i64 ((ss.length + 1 : Nat) : Int), [3]⟩, ⟨.quiet, [none, none], fun _ => .bool false, [4]⟩, ⟨.quiet, [none, none], fun _ => .bool false, [5]⟩, ⟨.quiet, [none, none], fun _ => .pointer (some ⟨p, 0, none⟩), [6]⟩, ⟨.actv 0, [some false, some false], fun _ => elp sv (ss.length * 2), [7, 6]⟩, ⟨.quiet, [some true, none], fun _ => elp sv (ss.length * 2), [8, 6]⟩, ⟨.quiet, [some true, none], fun _ => .agg (encSg x).toArray, [9, 6]⟩, ⟨.actv 1, [some true, some false], fun _ => .int .i64 (m.2 : Int), [10, 6]⟩, ⟨.quiet, [none, none], fun _ => .slice AF y.length cF, [6]⟩, ⟨.quiet, [none, none], fun _ => .int .i64 (y.length : Int), [12, 6]⟩, ⟨.quiet, [some true, some true], fun _ => .int .i64 ((m.2 + y.length : Nat) : Int), [11, 13, 6]⟩, ⟨.quiet, [none, none], fun _ => .pointer (some ⟨p, 0, none⟩), [6]⟩, ⟨.quiet, [none, none], fun _ => .pointer (some ⟨p, 0, none⟩), [15, 6]⟩, ⟨.quiet, [none, none], fun _ => .pointer (some ⟨p, 1, none⟩), [16, 6]⟩, ⟨.quiet, [none, none], fun _ => .int .i64 (lim : Int), [17, 6]⟩, ⟨.quiet, [some true, some true], fun _ => .bool false, [14, 18, 6]⟩, ⟨.quiet, [some true, some true], fun _ => .bool false, [6, 19]⟩] [(0, .pointer (some ⟨p, 0, none⟩)), (3, .pointer (some ⟨gx, 0, none⟩)), (4, .int .i64 0), (7, .slice AF y.length cF)] (fun ρ => match ρ with | [r0, r1] => [cell p 87 #[.pointer (some ⟨dk, 0, none⟩), .int .i64 (lim : Int), sv], Vec 92 2 encSg sv svs, MksE svs, Vec 5 1 encB (.slice AF y.length cF) y, Vec 5 1 encB lv (layE e), cell gx 34 #[.int .i64 e.k, .int .u64 e.t, .int .u64 e.i, .slice A e.d.length c, .int .i64 e.c], DiskT dk d, TabZ tb, X] | _ => []) (by kernel_rfl) (by kernel_rfl) ⟨rfl, rfl, rfl, rfl, trivial⟩ rfl ?_ ?_
  · skip
    refine s_cons (by intro r0_ r1_; exact ⟨rfl, fun b w hH hb => exec_q1 hflT rfl hb⟩) ?_
    refine s_cons (by intro r0_ r1_; exact ⟨rfl, fun b w hH hb => by exact xNc rfl rfl hb⟩) ?_
    refine s_cons (by intro r0_ r1_; exact ⟨rfl, fun b w hH hb => exec_q1 hflT rfl hb⟩) ?_
    refine s_cons (by intro r0_ r1_; exact ⟨rfl, fun b w hH hb => xLd rfl rfl (rOn tySs rfl) (hH.row 0 rfl) hb⟩) ?_
    refine s_cons (by intro r0_ r1_; exact ⟨rfl, fun b w hH hb => e_vlenN 1 hn Tryz.underlying85 rfl rfl rfl hH hb⟩) ?_
    refine s_cons (by intro r0_ r1_; exact ⟨rfl, fun b w hH hb => xCm rfl rfl rfl (cEf (by omega)) hb⟩) ?_
    refine s_cons (by intro r0_ r1_; exact ⟨rfl, fun b w hH hb => exec_q1 hflT rfl hb⟩) ?_
    refine s_cons (by intro r0_ r1_; exact ⟨rfl, fun b w hH hb => exec_q1 hflT rfl hb⟩) ?_
    refine s_cons (by exact ⟨rfl, Acts.su (a_does (os' := fun _ => [cell p 87 #[.pointer (some ⟨dk, 0, none⟩), .int .i64 (lim : Int), sv], Vec 92 2 encSg sv svs, MksE svs, Vec 5 1 encB (.slice AF y.length cF) y, Vec 5 1 encB lv (layE e), cell gx 34 #[.int .i64 e.k, .int .u64 e.t, .int .u64 e.i, .slice A e.d.length c, .int .i64 e.c], DiskT dk d, TabZ tb, X]) [0, 1] 0 (ent_of Tryz.func49 (by kernel_rfl) rfl) (tail_does hn (by omega)) rfl rfl rfl (fun _ => rfl) rfl rfl rfl) rfl⟩) ?_
    refine s_cons (by intro v0_ r1_; exact ⟨rfl, fun b w hH hb => e_vnil 1 rfl (j := ss.length) (List.getElem?_eq_some_iff.1 hx).1 rfl rfl hH hb⟩) ?_
    refine s_cons (by intro v0_ r1_; exact ⟨rfl, fun b w hH hb => e_sagg okSg (by decide) (hH.vec 1 rfl okSg) (j := ss.length) hx ty_seg_segment rfl rfl hb⟩) ?_
    refine s_cons (by intro v0_; exact ⟨rfl, Acts.su (a_call (ent_of Tryz.func93 (by kernel_rfl) rfl) (fun w hH => size_c w (mks_rd 2 rfl hx hH) hm1 hl0 (by omega)) rfl rfl rfl) rfl⟩) ?_
    refine s_cons (by intro r0_ r1_; exact ⟨rfl, fun b w hH hb => exec_q1 hflT rfl hb⟩) ?_
    refine s_cons (by intro r0_ r1_; exact ⟨rfl, fun b w hH hb => e_len sl_uint8 rfl rfl hH hb⟩) ?_
    refine s_cons (by intro v0_ v1_; exact ⟨rfl, fun b w hH hb => exec_ar rfl rfl rfl rfl (by rw [IntWalk.i64_in _ (by omega)]; omega) hb⟩) ?_
    refine s_cons (by intro r0_ r1_; exact ⟨rfl, fun b w hH hb => exec_q1 hflT rfl hb⟩) ?_
    refine s_cons (by intro r0_ r1_; exact ⟨rfl, fun b w hH hb => by exact xNc rfl rfl hb⟩) ?_
    refine s_cons (by intro r0_ r1_; exact ⟨rfl, fun b w hH hb => exec_q1 hflT rfl hb⟩) ?_
    refine s_cons (by intro r0_ r1_; exact ⟨rfl, fun b w hH hb => xLd rfl rfl (rOn ty_int rfl) (hH.row 0 rfl) hb⟩) ?_
    refine s_cons (by intro v0_ v1_; exact ⟨rfl, fun b w hH hb => xCm rfl rfl rfl (cmp_gtr_f (by omega)) hb⟩) ?_
    refine s_cons (by intro v0_ v1_; exact ⟨rfl, fun b w hH hb => exec_q1 hflT rfl hb⟩) ?_
    exact s_nil
  intro v0_ v1_
  refine WL2.keep (env' := [(0, .pointer (some ⟨p, 0, none⟩)), (3, .pointer (some ⟨gx, 0, none⟩)), (4, .int .i64 0), (7, .slice AF y.length cF), (37, .bool false)]) ⟨rfl, rfl, rfl, rfl, rfl, trivial⟩ ?_
  refine h_nil (f_to (d_else rfl (d_skip (f_to (d_reg ?_)))))
  refine h_q hflT rfl ?_
  refine h_act (post := fun _ => [cell p 87 #[.pointer (some ⟨dk, 0, none⟩), .int .i64 (lim : Int), sv], Vec 92 2 encSg sv svs, MksE svs, Vec 5 1 encB (.slice AF y.length cF) y, Vec 5 1 encB lv (layE e), cell gx 34 #[.int .i64 e.k, .int .u64 e.t, .int .u64 e.i, .slice A e.d.length c, .int .i64 e.c], DiskT dk d, TabZ tb, X]) rfl (a_does (os' := fun _ => [cell p 87 #[.pointer (some ⟨dk, 0, none⟩), .int .i64 (lim : Int), sv], Vec 92 2 encSg sv svs, MksE svs, Vec 5 1 encB (.slice AF y.length cF) y, Vec 5 1 encB lv (layE e), cell gx 34 #[.int .i64 e.k, .int .u64 e.t, .int .u64 e.i, .slice A e.d.length c, .int .i64 e.c], DiskT dk d, TabZ tb, X]) [0, 1] 0 (ent_of Tryz.func49 (by kernel_rfl) rfl) (tail_does hn (by omega)) rfl rfl rfl (fun _ => rfl) rfl rfl rfl) ?_; rintro ⟨⟩
  refine h_q hflT rfl ?_
  refine h_done (d_seq (d_seq ?_))
  refine d_parS 11 2 [⟨.quiet, [none, none], fun _ => .pointer (some ⟨p, 0, none⟩), []⟩, ⟨.quiet, [none, none], fun _ => .pointer (some ⟨p, 0, none⟩), [0]⟩, ⟨.quiet, [none, none], fun _ => .pointer (some ⟨p, 0, none⟩), [1]⟩, ⟨.quiet, [none, none], fun _ => .pointer (some ⟨dk, 0, none⟩), [2]⟩, ⟨.quiet, [none, none], fun _ => elp sv (ss.length * 2), []⟩, ⟨.quiet, [none, none], fun _ => elp sv (ss.length * 2), [4]⟩, ⟨.quiet, [none, none], fun _ => elp sv (ss.length * 2 + 0), [5]⟩, ⟨.quiet, [none, none], fun _ => .int .u64 (x.f : Int), [6]⟩, ⟨.actv 0, [some false, some false], fun _ => .string (bs (nameL x.f)), [7]⟩, ⟨.quiet, [none, none], fun _ => .slice AF y.length cF, []⟩, ⟨.actv 1, [some true, some false], fun _ => .int .i64 0, [3, 8, 9]⟩] [(0, .pointer (some ⟨p, 0, none⟩)), (3, .pointer (some ⟨gx, 0, none⟩)), (4, .int .i64 0), (7, .slice AF y.length cF), (8, elp sv (ss.length * 2))] (fun ρ => match ρ with | [r0, r1] => [cell p 87 #[.pointer (some ⟨dk, 0, none⟩), .int .i64 (lim : Int), sv], Vec 92 2 encSg sv svs, MksE svs, Vec 5 1 encB (.slice AF y.length cF) y, Vec 5 1 encB lv (layE e), cell gx 34 #[.int .i64 e.k, .int .u64 e.t, .int .u64 e.i, .slice A e.d.length c, .int .i64 e.c], selS r1 (fun _ => DiskT dk d') (DiskT dk d), TabZ tb, X] | _ => []) (by kernel_rfl) (by kernel_rfl) ⟨rfl, rfl, rfl, rfl, rfl, trivial⟩ rfl ?_ ?_
  · skip
    refine s_cons (by intro r0_ r1_; exact ⟨rfl, fun b w hH hb => exec_q1 hflT rfl hb⟩) ?_
    refine s_cons (by intro r0_ r1_; exact ⟨rfl, fun b w hH hb => by exact xNc rfl rfl hb⟩) ?_
    refine s_cons (by intro r0_ r1_; exact ⟨rfl, fun b w hH hb => exec_q1 hflT rfl hb⟩) ?_
    refine s_cons (by intro r0_ r1_; exact ⟨rfl, fun b w hH hb => xLd rfl rfl (rOn ty_p_disk_Disk rfl) (hH.row 0 rfl) hb⟩) ?_
    refine s_cons (by intro r0_ r1_; exact ⟨rfl, fun b w hH hb => exec_q1 hflT rfl hb⟩) ?_
    refine s_cons (by intro r0_ r1_; exact ⟨rfl, fun b w hH hb => e_vnil 1 rfl (j := ss.length) (List.getElem?_eq_some_iff.1 hx).1 rfl rfl hH hb⟩) ?_
    refine s_cons (by intro r0_ r1_; exact ⟨rfl, fun b w hH hb => eSf okSg (by decide) (hH.vec 1 rfl okSg) (j := ss.length) hx fd_seg_segment_0 rfl rfl hb⟩) ?_
    refine s_cons (by intro r0_ r1_; exact ⟨rfl, fun b w hH hb => e_sload okSg (by decide) (hH.vec 1 rfl okSg) (j := ss.length) hx ty_uint64 (off := 0) rfl rfl rfl hb⟩) ?_
    refine s_cons (by exact ⟨rfl, Acts.su (a_does (os' := fun _ => [cell p 87 #[.pointer (some ⟨dk, 0, none⟩), .int .i64 (lim : Int), sv], Vec 92 2 encSg sv svs, MksE svs, Vec 5 1 encB (.slice AF y.length cF) y, Vec 5 1 encB lv (layE e), cell gx 34 #[.int .i64 e.k, .int .u64 e.t, .int .u64 e.i, .slice A e.d.length c, .int .i64 e.c], DiskT dk d, TabZ tb, X]) [7] 0 (ent_of Tryz.func19 (by kernel_rfl) rfl) (name_does tb (n := x.f) (by omega)) rfl rfl rfl (fun _ => rfl) rfl rfl rfl) rfl⟩) ?_
    refine s_cons (by intro r0_ r1_; exact ⟨rfl, fun b w hH hb => exec_q1 hflT rfl hb⟩) ?_
    refine s_cons (by intro v0_; exact ⟨rfl, Acts.su (a_does (os' := fun _ => [cell p 87 #[.pointer (some ⟨dk, 0, none⟩), .int .i64 (lim : Int), sv], Vec 92 2 encSg sv svs, MksE svs, Vec 5 1 encB (.slice AF y.length cF) y, Vec 5 1 encB lv (layE e), cell gx 34 #[.int .i64 e.k, .int .u64 e.t, .int .u64 e.i, .slice A e.d.length c, .int .i64 e.c], DiskT dk d', TabZ tb, X]) [6, 3] 0 (ent_of Tryz.func55 (by kernel_rfl) rfl) (disk_append hd hyl rd8_vec happ) rfl rfl rfl (fun _ => rfl) rfl rfl rfl) rfl⟩) ?_
    exact s_nil
  intro v0_ v1_
  refine WL2.keep (env' := [(3, .pointer (some ⟨gx, 0, none⟩)), (4, .int .i64 0), (7, .slice AF y.length cF), (8, elp sv (ss.length * 2)), (54, .int .i64 0)]) ⟨rfl, rfl, rfl, rfl, rfl, trivial⟩ ?_
  refine h_q hflT rfl ?_
  refine h_nil (f_to (d_reg ?_))
  refine h_q hflT rfl ?_
  refine h_val rfl (.bool false) (fun b w hb hH => xCm rfl rfl rfl (cmp_neq_f (by decide)) hb) ?_
  refine h_done (d_else rfl (d_skip (f_to ?_)))
  refine d_open 2 rfl (mks_open hx) (fun _ => rfl) ?_; rintro ⟨⟩
  refine d_seq ?_
  refine d_emps 1 rfl ?_
  refine d_parS 19 3 [⟨.quiet, [none, none, none], fun _ => elp sv (ss.length * 2), []⟩, ⟨.quiet, [none, none, none], fun _ => elp sv (ss.length * 2), []⟩, ⟨.quiet, [none, none, none], fun _ => elp sv (ss.length * 2), [1]⟩, ⟨.quiet, [none, none, none], fun _ => elp sv (ss.length * 2 + 1), [2]⟩, ⟨.quiet, [none, none, none], fun _ => .slice x.A x.l.length x.c, [3]⟩, ⟨.quiet, [none, none, none], fun _ => .pointer (some ⟨gx, 1, none⟩), []⟩, ⟨.quiet, [none, none, none], fun _ => .int .u64 e.t, [5]⟩, ⟨.quiet, [none, none, none], fun _ => elp sv (ss.length * 2), []⟩, ⟨.quiet, [none, none, none], fun _ => elp sv (ss.length * 2), [7]⟩, ⟨.quiet, [none, none, none], fun _ => .agg (encSg x).toArray, [8]⟩, ⟨.actv 0, [some false, some false, some false], fun _ => .int .i64 (m.2 : Int), [9]⟩, ⟨.quiet, [none, none, none], fun _ => .slice AF y.length cF, []⟩, ⟨.quiet, [none, none, none], fun _ => .int .i64 (y.length : Int), [11]⟩, ⟨.quiet, [some true, none, none], fun _ => .int .i64 ((m.2 + y.length : Nat) : Int), [10, 12]⟩, ⟨.quiet, [some true, none, none], fun _ => .agg #[.int .u64 e.t, .int .i64 ((m.2 + y.length : Nat) : Int)], [6, 13]⟩, ⟨.act 1, [some true, some false, some false], fun _ => undef, [14]⟩, ⟨.act 2, [some true, some true, some false], fun _ => undef, [4, 15]⟩, ⟨.quiet, [some true, some true, some true], fun _ => elp sv (ss.length * 2), [0]⟩, ⟨.quiet, [some true, some true, some true], fun _ => elp sv (ss.length * 2 + 1), [17]⟩] [(3, .pointer (some ⟨gx, 0, none⟩)), (4, .int .i64 0), (7, .slice AF y.length cF), (8, elp sv (ss.length * 2))] (fun ρ => match ρ with | [r0, r1, r2] => [selS r1 (fun u1 => Vec 104 2 encMk u1 ([(e.t, m.2 + y.length)])) (emp), Each (fun x : SegV => Vec 104 2 encMk x.v x.l) (svs.take ss.length), selS r2 (fun mv2 => Vec 104 2 encMk mv2 (x.l ++ [(e.t, m.2 + y.length)])) (Vec 104 2 encMk (.slice x.A x.l.length x.c) x.l), Each (fun x : SegV => Vec 104 2 encMk x.v x.l) (svs.drop (ss.length + 1)), cell p 87 #[.pointer (some ⟨dk, 0, none⟩), .int .i64 (lim : Int), sv], Vec 92 2 encSg sv svs, Vec 5 1 encB (.slice AF y.length cF) y, Vec 5 1 encB lv (layE e), cell gx 34 #[.int .i64 e.k, .int .u64 e.t, .int .u64 e.i, .slice A e.d.length c, .int .i64 e.c], DiskT dk d', TabZ tb, X] | _ => []) (by kernel_rfl) (by kernel_rfl) ⟨rfl, rfl, rfl, rfl, trivial⟩ rfl ?_ ?_
  · skip
    refine s_cons (by intro r0_ r1_ r2_; exact ⟨rfl, fun b w hH hb => exec_q1 hflT rfl hb⟩) ?_
    refine s_cons (by intro r0_ r1_ r2_; exact ⟨rfl, fun b w hH hb => exec_q1 hflT rfl hb⟩) ?_
    refine s_cons (by intro r0_ r1_ r2_; exact ⟨rfl, fun b w hH hb => e_vnil 5 rfl (j := ss.length) (List.getElem?_eq_some_iff.1 hx).1 rfl rfl hH hb⟩) ?_
    refine s_cons (by intro r0_ r1_ r2_; exact ⟨rfl, fun b w hH hb => eSf okSg (by decide) (hH.vec 5 rfl okSg) (j := ss.length) hx fd_seg_segment_1 rfl rfl hb⟩) ?_
    refine s_cons (by intro r0_ r1_ r2_; exact ⟨rfl, fun b w hH hb => e_sload okSg (by decide) (hH.vec 5 rfl okSg) (j := ss.length) hx ty_s_seg_mark (off := 1) rfl rfl rfl hb⟩) ?_
    refine s_cons (by intro r0_ r1_ r2_; exact ⟨rfl, fun b w hH hb => exec_q1 hflT rfl hb⟩) ?_
    refine s_cons (by intro r0_ r1_ r2_; exact ⟨rfl, fun b w hH hb => xLd rfl rfl (rOn ty_uint64 rfl) (hH.row 8 rfl) hb⟩) ?_
    refine s_cons (by intro r0_ r1_ r2_; exact ⟨rfl, fun b w hH hb => exec_q1 hflT rfl hb⟩) ?_
    refine s_cons (by intro r0_ r1_ r2_; exact ⟨rfl, fun b w hH hb => e_vnil 5 rfl (j := ss.length) (List.getElem?_eq_some_iff.1 hx).1 rfl rfl hH hb⟩) ?_
    refine s_cons (by intro r0_ r1_ r2_; exact ⟨rfl, fun b w hH hb => e_sagg okSg (by decide) (hH.vec 5 rfl okSg) (j := ss.length) hx ty_seg_segment rfl rfl hb⟩) ?_
    refine s_cons (by exact ⟨rfl, Acts.su (a_call (ent_of Tryz.func93 (by kernel_rfl) rfl) (fun w hH => size_c w (hH.vec 2 rfl okMk) hm1 hl0 (by omega)) rfl rfl rfl) rfl⟩) ?_
    refine s_cons (by intro r0_ r1_ r2_; exact ⟨rfl, fun b w hH hb => exec_q1 hflT rfl hb⟩) ?_
    refine s_cons (by intro r0_ r1_ r2_; exact ⟨rfl, fun b w hH hb => e_len sl_uint8 rfl rfl hH hb⟩) ?_
    refine s_cons (by intro v0_ r1_ r2_; exact ⟨rfl, fun b w hH hb => exec_ar rfl rfl rfl rfl (by rw [IntWalk.i64_in _ (by omega)]; omega) hb⟩) ?_
    refine s_cons (by intro v0_ r1_ r2_; exact ⟨rfl, fun b w hH hb => exec_build rfl rfl (by kernel_rfl) hb⟩) ?_
    refine s_cons (by intro v0_; exact ⟨rfl, Acts.s (Acts.place (val := fun u1 : Value => u1) (t := fun u1 => Vec 104 2 encMk u1 ([(e.t, m.2 + y.length)])) (os' := fun u1 => [Vec 104 2 encMk u1 ([(e.t, m.2 + y.length)]), Each (fun x : SegV => Vec 104 2 encMk x.v x.l) (svs.take ss.length), Vec 104 2 encMk (.slice x.A x.l.length x.c) x.l, Each (fun x : SegV => Vec 104 2 encMk x.v x.l) (svs.drop (ss.length + 1)), cell p 87 #[.pointer (some ⟨dk, 0, none⟩), .int .i64 (lim : Int), sv], Vec 92 2 encSg sv svs, Vec 5 1 encB (.slice AF y.length cF) y, Vec 5 1 encB lv (layE e), cell gx 34 #[.int .i64 e.k, .int .u64 e.t, .int .u64 e.i, .slice A e.d.length c, .int .i64 e.c], DiskT dk d', TabZ tb, X]) 0 rfl (by refine a_buildK (e := 104) (t := 90) (k := 2) (enc := encMk) (x := .tmp 72) (c := .agg #[.int .u64 e.t, .int .i64 ((m.2 + y.length : Nat) : Int)]) ?_ ?_ ?_ (e.t, m.2 + y.length) ?_ ?_ ?_; exact sl_seg_mark; exact (by decide); exact okMk; exact rfl; exact rfl; exact rfl) (fun _ => rfl)) (fun _ => rfl)⟩) ?_
    refine s_cons (by intro v0_ u1; exact ⟨rfl, Acts.s (a_appendK (nb := 16) 2 sl_seg_mark okMk (by kernel_rfl) (by decide) rfl ([(e.t, m.2 + y.length)]) (fun w hH => hH.vec 0 rfl okMk) (by simp only [List.length_cons, List.length_nil]; omega) rfl rfl rfl rfl) (fun _ => rfl)⟩) ?_
    refine s_cons (by intro v0_ u1 mv2; exact ⟨rfl, fun b w hH hb => e_vnil 5 rfl (j := ss.length) (List.getElem?_eq_some_iff.1 hx).1 rfl rfl hH hb⟩) ?_
    refine s_cons (by intro v0_ u1 mv2; exact ⟨rfl, fun b w hH hb => eSf okSg (by decide) (hH.vec 5 rfl okSg) (j := ss.length) hx fd_seg_segment_1 rfl rfl hb⟩) ?_
    exact s_nil
  intro v0_ u1 mv2
  refine WL2.keep (env' := [(4, .int .i64 0), (74, mv2), (76, elp sv (ss.length * 2 + 1))]) ⟨rfl, rfl, rfl, trivial⟩ ?_
  refine WL2.fact 2 rfl (fun _ h => Vec.is h) ?_; rintro ⟨A2, c2, rfl⟩
  refine WL2.keep (env' := [(4, .int .i64 0), (74, .slice A2 (x.l ++ [(e.t, m.2 + y.length)]).length c2), (76, elp sv (ss.length * 2 + 1))]) ⟨rfl, rfl, rfl, trivial⟩ ?_
  refine WL2.mid [Vec 104 2 encMk u1 ([(e.t, m.2 + y.length)]), Each (fun x : SegV => Vec 104 2 encMk x.v x.l) (svs.take ss.length), Vec 104 2 encMk (.slice A2 (x.l ++ [(e.t, m.2 + y.length)]).length c2) (x.l ++ [(e.t, m.2 + y.length)]), Each (fun x : SegV => Vec 104 2 encMk x.v x.l) (svs.drop (ss.length + 1)), cell p 87 #[.pointer (some ⟨dk, 0, none⟩), .int .i64 (lim : Int), sv], Vec 92 2 encSg sv svs, Vec 5 1 encB (.slice AF y.length cF) y, Vec 5 1 encB lv (layE e), cell gx 34 #[.int .i64 e.k, .int .u64 e.t, .int .u64 e.i, .slice A e.d.length c, .int .i64 e.c], DiskT dk d', TabZ tb, X] (.refl _) ?_
  refine h_q hflT rfl ?_
  refine h_acts (post := fun _ => [Vec 104 2 encMk u1 ([(e.t, m.2 + y.length)]), Each (fun x : SegV => Vec 104 2 encMk x.v x.l) (svs.take ss.length), Vec 104 2 encMk (.slice A2 (x.l ++ [(e.t, m.2 + y.length)]).length c2) (x.l ++ [(e.t, m.2 + y.length)]), Each (fun x : SegV => Vec 104 2 encMk x.v x.l) (svs.drop (ss.length + 1)), cell p 87 #[.pointer (some ⟨dk, 0, none⟩), .int .i64 (lim : Int), sv], Vec 92 2 encSg sv (svs.set ss.length (⟨x.f, x.l ++ [(e.t, m.2 + y.length)], A2, c2⟩ : SegV)), Vec 5 1 encB (.slice AF y.length cF) y, Vec 5 1 encB lv (layE e), cell gx 34 #[.int .i64 e.k, .int .u64 e.t, .int .u64 e.i, .slice A e.d.length c, .int .i64 e.c], DiskT dk d', TabZ tb, X]) rfl rfl (a_vstore 5 okSg rfl ss.length (a := x) (b := (⟨x.f, x.l ++ [(e.t, m.2 + y.length)], A2, c2⟩ : SegV)) hx ty_s_seg_mark.2 rfl rfl (by decide) rfl rfl rfl rfl rfl) ?_; rintro ⟨⟩
  refine h_nil (f_to ?_)
  refine d_close [1, 2, 3] rfl (mks_back (y := (⟨x.f, x.l ++ [(e.t, m.2 + y.length)], A2, c2⟩ : SegV)) hjl) rfl ?_
  refine WC2.keep (env' := [(4, .int .i64 0), (74, .slice A2 (x.l ++ [(e.t, m.2 + y.length)]).length c2), (76, elp sv (ss.length * 2 + 1))]) ⟨rfl, rfl, rfl, trivial⟩ ?_
  refine WC2.mid [MksE (svs.set ss.length (⟨x.f, x.l ++ [(e.t, m.2 + y.length)], A2, c2⟩ : SegV)), Vec 104 2 encMk u1 ([(e.t, m.2 + y.length)]), cell p 87 #[.pointer (some ⟨dk, 0, none⟩), .int .i64 (lim : Int), sv], Vec 92 2 encSg sv (svs.set ss.length (⟨x.f, x.l ++ [(e.t, m.2 + y.length)], A2, c2⟩ : SegV)), Vec 5 1 encB (.slice AF y.length cF) y, Vec 5 1 encB lv (layE e), cell gx 34 #[.int .i64 e.k, .int .u64 e.t, .int .u64 e.i, .slice A e.d.length c, .int .i64 e.c], DiskT dk d', TabZ tb, X] (.refl _) ?_
  refine d_reg ?_
  refine h_q hflT rfl ?_
  refine h_done (d_ret ?_)
  exact f_fin1 (.tmp rfl) (fun w h => tells () rfl [2, 3, 0, 7, 8, 9] rfl h (fun z hz => parts_log (log_set (y := (⟨x.f, x.l ++ [(e.t, m.2 + y.length)], A2, c2⟩ : SegV)) hm) z hz)) rfl
end Go.Proofs.YtaipejaeeohpkaaGreatDoor.Sep
