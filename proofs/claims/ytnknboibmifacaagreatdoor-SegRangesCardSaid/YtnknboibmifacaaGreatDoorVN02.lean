/-
  SgZ
-/
import Derived.Test.YtnknboibmifacaaGreatDoorVN01
set_option linter.unusedSimpArgs false
set_option linter.unusedVariables false
set_option maxRecDepth 100000
namespace Go.Proofs.YtnknboibmifacaaGreatDoor.Sep
open Go.RowKit
open Go.Proofs.YtnknboibmifacaaGreatDoor.Mem (AR B3 Chg Av)
theorem P4 {p dk lim f : Nat} {ss : SegsM} {k t z : Int} {Ax AF : Option Addr} {nx cx cF : Nat} {y : List UInt8} {d d' : DiskD} (hl : ss.length ≤ 1000000) (hf : f ≤ 72057594037927935) (hyl : y.length ≤ 140737488351232) (tb : Tb) (hd : d.fit) (happ : CO d (nameL f) y = (d', 0)) : AP Tryz.prog 99 #[.pointer (some ⟨p, 0, none⟩), .agg #[.int .i64 k, .int .u64 t, .int .u64 (f : Int), .slice Ax nx cx, .int .i64 z], .slice AF y.length cF] [AA p dk lim ss, Ag dk d, Ao tb, Ak 5 1 encB (.slice AF y.length cF) y] (fun (_ : Unit) => .int .i64 0) (fun (_ : Unit) => [AA p dk lim (ss ++ [(f, [(t, y.length)])]), Ag dk d', Ao tb, Ak 5 1 encB (.slice AF y.length cF) y]) := by
  refine Bj (args := [.pointer (some ⟨p, 0, none⟩), .agg #[.int .i64 k, .int .u64 t, .int .u64 (f : Int), .slice Ax nx cx, .int .i64 z], .slice AF y.length cF]) 38 Tryz.func99 rfl rfl rfl ?_; intro w rs
  refine A7 0 rfl AA.open_ (fun _ => rfl) ?_; rintro ⟨sv, svs⟩
  refine AN.fact 3 rfl (fun _ h => h.2) ?_; rintro hm
  refine AN.leave [3] rfl rfl ?_
  replace hm : svs.map SegV.m = ss := hm
  have hsl : svs.length = ss.length := by have := congrArg List.length hm; simpa using this
  refine Ad ?_
  refine Af Ae rfl ?_
  refine Am (post := fun gx => [cell gx 34 #[.int .i64 k, .int .u64 t, .int .u64 (f : Int), .slice Ax nx cx, .int .i64 z], cell p 87 #[.pointer (some ⟨dk, 0, none⟩), .int .i64 (lim : Int), sv], Ak 92 2 encSg sv svs, Bd svs, Ag dk d, Ao tb, Ak 5 1 encB (.slice AF y.length cF) y]) rfl (CD (cs := #[.int .i64 k, .int .u64 t, .int .u64 (f : Int), .slice Ax nx cx, .int .i64 z]) rfl rfl rfl) ?_; rintro gx
  refine Af Ae rfl ?_
  refine Ab (An (An ?_))
  refine BV 9 2 [⟨.quiet, [none, none], fun _ => .pointer (some ⟨p, 0, none⟩), []⟩, ⟨.quiet, [none, none], fun _ => .pointer (some ⟨p, 0, none⟩), [0]⟩, ⟨.quiet, [none, none], fun _ => .pointer (some ⟨p, 0, none⟩), [1]⟩, ⟨.quiet, [none, none], fun _ => .pointer (some ⟨dk, 0, none⟩), [2]⟩, ⟨.quiet, [none, none], fun _ => .pointer (some ⟨gx, 2, none⟩), []⟩, ⟨.quiet, [none, none], fun _ => .int .u64 (f : Int), [4]⟩, ⟨.actv 0, [some false, some false], fun _ => .string (bs (nameL f)), [5]⟩, ⟨.quiet, [none, none], fun _ => .slice AF y.length cF, []⟩, ⟨.actv 1, [some true, some false], fun _ => .int .i64 0, [3, 6, 7]⟩] [(0, .pointer (some ⟨p, 0, none⟩)), (2, .slice AF y.length cF), (4, .pointer (some ⟨gx, 0, none⟩)), (6, .int .i64 0)] (fun ρ => match ρ with | [r0, r1] => [cell gx 34 #[.int .i64 k, .int .u64 t, .int .u64 (f : Int), .slice Ax nx cx, .int .i64 z], cell p 87 #[.pointer (some ⟨dk, 0, none⟩), .int .i64 (lim : Int), sv], Ak 92 2 encSg sv svs, Bd svs, DR r1 (fun _ => Ag dk d') (Ag dk d), Ao tb, Ak 5 1 encB (.slice AF y.length cF) y] | _ => []) (by kernel_rfl) (by kernel_rfl) ⟨rfl, rfl, rfl, rfl, trivial⟩ rfl ?_ ?_
  · skip
    refine Ac (by intro r0_ r1_; exact ⟨rfl, fun b w hH hb => Ah Ae rfl hb⟩) ?_
    refine Ac (by intro r0_ r1_; exact ⟨rfl, fun b w hH hb => by exact B8 rfl rfl hb⟩) ?_
    refine Ac (by intro r0_ r1_; exact ⟨rfl, fun b w hH hb => Ah Ae rfl hb⟩) ?_
    refine Ac (by intro r0_ r1_; exact ⟨rfl, fun b w hH hb => AY rfl rfl (Bi CL rfl) (hH.row 1 rfl) hb⟩) ?_
    refine Ac (by intro r0_ r1_; exact ⟨rfl, fun b w hH hb => Ah Ae rfl hb⟩) ?_
    refine Ac (by intro r0_ r1_; exact ⟨rfl, fun b w hH hb => AY rfl rfl (Bi AO rfl) (hH.row 0 rfl) hb⟩) ?_
    refine Ac (by exact ⟨rfl, Bm.su (Au (os' := fun _ => [cell gx 34 #[.int .i64 k, .int .u64 t, .int .u64 (f : Int), .slice Ax nx cx, .int .i64 z], cell p 87 #[.pointer (some ⟨dk, 0, none⟩), .int .i64 (lim : Int), sv], Ak 92 2 encSg sv svs, Bd svs, Ag dk d, Ao tb, Ak 5 1 encB (.slice AF y.length cF) y]) [5] 0 (Aj Tryz.func19 (by kernel_rfl) rfl) (DK tb (n := f) (by omega)) rfl rfl rfl (fun _ => rfl) rfl rfl rfl) rfl⟩) ?_
    refine Ac (by intro r0_ r1_; exact ⟨rfl, fun b w hH hb => Ah Ae rfl hb⟩) ?_
    refine Ac (by intro v0_; exact ⟨rfl, Bm.su (Au (os' := fun _ => [cell gx 34 #[.int .i64 k, .int .u64 t, .int .u64 (f : Int), .slice Ax nx cx, .int .i64 z], cell p 87 #[.pointer (some ⟨dk, 0, none⟩), .int .i64 (lim : Int), sv], Ak 92 2 encSg sv svs, Bd svs, Ag dk d', Ao tb, Ak 5 1 encB (.slice AF y.length cF) y]) [4, 6] 0 (Aj Tryz.func55 (by kernel_rfl) rfl) (JU hd hyl DI happ) rfl rfl rfl (fun _ => rfl) rfl rfl rfl) rfl⟩) ?_
    exact B7
  intro v0_ v1_
  refine BT.keep (env' := [(0, .pointer (some ⟨p, 0, none⟩)), (2, .slice AF y.length cF), (4, .pointer (some ⟨gx, 0, none⟩)), (6, .int .i64 0), (16, .int .i64 0)]) ⟨rfl, rfl, rfl, rfl, rfl, trivial⟩ ?_
  refine Af Ae rfl ?_
  refine AD (AB (Ad ?_))
  refine Af Ae rfl ?_
  refine Aa rfl (.bool false) (fun b w hb hH => AZ rfl rfl rfl (Bu (by decide)) hb) ?_
  refine Ab (As rfl (Aw (AB ?_)))
  refine Bg [2] rfl Vk rfl ?_
  refine AN.keep (env' := [(0, .pointer (some ⟨p, 0, none⟩)), (2, .slice AF y.length cF), (4, .pointer (some ⟨gx, 0, none⟩)), (6, .int .i64 0), (16, .int .i64 0), (7, .int .i64 0), (17, .int .i64 0), (18, .bool false)]) ⟨rfl, rfl, rfl, rfl, rfl, rfl, rfl, rfl, trivial⟩ ?_
  refine AN.mid [Ak 92 2 encSw sv (svs.map SegV.w), cell gx 34 #[.int .i64 k, .int .u64 t, .int .u64 (f : Int), .slice Ax nx cx, .int .i64 z], cell p 87 #[.pointer (some ⟨dk, 0, none⟩), .int .i64 (lim : Int), sv], Bd svs, Ag dk d', Ao tb, Ak 5 1 encB (.slice AF y.length cF) y] (.refl _) ?_
  refine An ?_
  refine Gh 2 rfl ?_
  refine BV 18 3 [⟨.quiet, [none, none, none], fun _ => .pointer (some ⟨p, 0, none⟩), []⟩, ⟨.quiet, [none, none, none], fun _ => .pointer (some ⟨p, 0, none⟩), []⟩, ⟨.quiet, [none, none, none], fun _ => .pointer (some ⟨p, 0, none⟩), [1]⟩, ⟨.quiet, [none, none, none], fun _ => .pointer (some ⟨p, 2, none⟩), [2]⟩, ⟨.quiet, [none, none, none], fun _ => sv, [3]⟩, ⟨.quiet, [none, none, none], fun _ => .pointer (some ⟨gx, 2, none⟩), []⟩, ⟨.quiet, [none, none, none], fun _ => .int .u64 (f : Int), [5]⟩, ⟨.quiet, [none, none, none], fun _ => .pointer (some ⟨gx, 1, none⟩), []⟩, ⟨.quiet, [none, none, none], fun _ => .int .u64 t, [7]⟩, ⟨.quiet, [none, none, none], fun _ => .slice AF y.length cF, []⟩, ⟨.quiet, [none, none, none], fun _ => .int .i64 (y.length : Int), [9]⟩, ⟨.quiet, [none, none, none], fun _ => .agg #[.int .u64 t, .int .i64 (y.length : Int)], [8, 10]⟩, ⟨.act 0, [some false, some false, some false], fun _ => undef, [11]⟩, ⟨.quiet, [some true, none, none], fun ρ => match ρ with | [some mv, _, _] => .agg #[.int .u64 (f : Int), mv] | _ => undef, [6, 12]⟩, ⟨.act 1, [some true, some false, some false], fun _ => undef, [13]⟩, ⟨.act 2, [some true, some true, some false], fun _ => undef, [4, 14]⟩, ⟨.quiet, [some true, some true, some true], fun _ => .pointer (some ⟨p, 0, none⟩), [0]⟩, ⟨.quiet, [some true, some true, some true], fun _ => .pointer (some ⟨p, 2, none⟩), [16]⟩] [(0, .pointer (some ⟨p, 0, none⟩)), (2, .slice AF y.length cF), (4, .pointer (some ⟨gx, 0, none⟩)), (6, .int .i64 0)] (fun ρ => match ρ with | [r0, r1, r2] => [DR r1 (fun su => DR r0 (fun mv => Ak 92 2 encSw su ([(f, mv)])) (GE)) (GE), DR r0 (fun mv => Ak 104 2 encMk mv ([(t, y.length)])) (GE), DR r2 (fun nv => DR r0 (fun mv => Ak 92 2 encSw nv (svs.map SegV.w ++ [(f, mv)])) (GE)) (Ak 92 2 encSw sv (svs.map SegV.w)), cell gx 34 #[.int .i64 k, .int .u64 t, .int .u64 (f : Int), .slice Ax nx cx, .int .i64 z], cell p 87 #[.pointer (some ⟨dk, 0, none⟩), .int .i64 (lim : Int), sv], Bd svs, Ag dk d', Ao tb, Ak 5 1 encB (.slice AF y.length cF) y] | _ => []) (by kernel_rfl) (by kernel_rfl) ⟨rfl, rfl, rfl, rfl, trivial⟩ rfl ?_ ?_
  · skip
    refine Ac (by intro r0_ r1_ r2_; exact ⟨rfl, fun b w hH hb => Ah Ae rfl hb⟩) ?_
    refine Ac (by intro r0_ r1_ r2_; exact ⟨rfl, fun b w hH hb => Ah Ae rfl hb⟩) ?_
    refine Ac (by intro r0_ r1_ r2_; exact ⟨rfl, fun b w hH hb => by exact B8 rfl rfl hb⟩) ?_
    refine Ac (by intro r0_ r1_ r2_; exact ⟨rfl, fun b w hH hb => Ah Ae rfl hb⟩) ?_
    refine Ac (by intro r0_ r1_ r2_; exact ⟨rfl, fun b w hH hb => AY rfl rfl (Bi C4 rfl) (hH.row 4 rfl) hb⟩) ?_
    refine Ac (by intro r0_ r1_ r2_; exact ⟨rfl, fun b w hH hb => Ah Ae rfl hb⟩) ?_
    refine Ac (by intro r0_ r1_ r2_; exact ⟨rfl, fun b w hH hb => AY rfl rfl (Bi AO rfl) (hH.row 3 rfl) hb⟩) ?_
    refine Ac (by intro r0_ r1_ r2_; exact ⟨rfl, fun b w hH hb => Ah Ae rfl hb⟩) ?_
    refine Ac (by intro r0_ r1_ r2_; exact ⟨rfl, fun b w hH hb => AY rfl rfl (Bi AO rfl) (hH.row 3 rfl) hb⟩) ?_
    refine Ac (by intro r0_ r1_ r2_; exact ⟨rfl, fun b w hH hb => Ah Ae rfl hb⟩) ?_
    refine Ac (by intro r0_ r1_ r2_; exact ⟨rfl, fun b w hH hb => DL Bf rfl rfl hH hb⟩) ?_
    refine Ac (by intro r0_ r1_ r2_; exact ⟨rfl, fun b w hH hb => Bv rfl rfl (by kernel_rfl) hb⟩) ?_
    refine Ac (by exact ⟨rfl, Bm.s (Bm.place (val := fun mv : Value => mv) (t := fun mv => Ak 104 2 encMk mv ([(t, y.length)])) (os' := fun mv => [GE, Ak 104 2 encMk mv ([(t, y.length)]), Ak 92 2 encSw sv (svs.map SegV.w), cell gx 34 #[.int .i64 k, .int .u64 t, .int .u64 (f : Int), .slice Ax nx cx, .int .i64 z], cell p 87 #[.pointer (some ⟨dk, 0, none⟩), .int .i64 (lim : Int), sv], Bd svs, Ag dk d', Ao tb, Ak 5 1 encB (.slice AF y.length cF) y]) 1 rfl (by refine Dl (e := 104) (t := 90) (k := 2) (enc := encMk) (x := .tmp 31) (c := .agg #[.int .u64 t, .int .i64 (y.length : Int)]) ?_ ?_ ?_ (t, y.length) ?_ ?_ ?_; exact Cl; exact (by decide); exact Fd; exact rfl; exact rfl; exact rfl) (fun _ => rfl)) (fun _ => rfl)⟩) ?_
    refine Ac (by intro mv r1_ r2_; exact ⟨rfl, fun b w hH hb => (by obtain ⟨_, h1_, _⟩ := hH.thing 1 rfl; obtain ⟨A2, c2, e2⟩ := Ak.is h1_; subst e2; exact Bv rfl rfl rfl hb)⟩) ?_
    refine Ac (by intro mv; exact ⟨rfl, Bm.s (Bm.place (val := fun su : Value => su) (t := fun su => Ak 92 2 encSw su ([(f, mv)])) (os' := fun su => [Ak 92 2 encSw su ([(f, mv)]), Ak 104 2 encMk mv ([(t, y.length)]), Ak 92 2 encSw sv (svs.map SegV.w), cell gx 34 #[.int .i64 k, .int .u64 t, .int .u64 (f : Int), .slice Ax nx cx, .int .i64 z], cell p 87 #[.pointer (some ⟨dk, 0, none⟩), .int .i64 (lim : Int), sv], Bd svs, Ag dk d', Ao tb, Ak 5 1 encB (.slice AF y.length cF) y]) 0 rfl (by exact TR 1 f Ba rfl rfl rfl) (fun _ => rfl)) (fun _ => rfl)⟩) ?_
    refine Ac (by intro mv su; exact ⟨rfl, Bm.s (Do (nb := 32) 2 Ba WI (by kernel_rfl) (by decide) rfl ([(f, mv)]) (fun w hH => hH.vec 0 rfl WI) (by simp only [List.length_cons, List.length_nil, List.length_map]; omega) rfl rfl rfl rfl) (fun _ => rfl)⟩) ?_
    refine Ac (by intro mv su nv; exact ⟨rfl, fun b w hH hb => by exact B8 rfl rfl hb⟩) ?_
    refine Ac (by intro mv su nv; exact ⟨rfl, fun b w hH hb => Ah Ae rfl hb⟩) ?_
    exact B7
  intro mv su nv
  refine BT.keep (env' := [(6, .int .i64 0), (35, nv), (37, .pointer (some ⟨p, 2, none⟩))]) ⟨rfl, rfl, rfl, trivial⟩ ?_
  refine BT.fact 1 rfl (fun _ h => Ak.is h) ?_; rintro ⟨A2, c2, rfl⟩
  refine BT.keep (env' := [(6, .int .i64 0), (35, nv), (37, .pointer (some ⟨p, 2, none⟩))]) ⟨rfl, rfl, rfl, trivial⟩ ?_
  refine BT.mid [Ak 92 2 encSw su ([(f, (.slice A2 [(t, y.length)].length c2))]), Ak 104 2 encMk (.slice A2 [(t, y.length)].length c2) ([(t, y.length)]), Ak 92 2 encSw nv (svs.map SegV.w ++ [(f, (.slice A2 [(t, y.length)].length c2))]), cell gx 34 #[.int .i64 k, .int .u64 t, .int .u64 (f : Int), .slice Ax nx cx, .int .i64 z], cell p 87 #[.pointer (some ⟨dk, 0, none⟩), .int .i64 (lim : Int), sv], Bd svs, Ag dk d', Ao tb, Ak 5 1 encB (.slice AF y.length cF) y] (.refl _) ?_
  refine MG [2] rfl (Vl (y := (⟨f, [(t, y.length)], A2, c2⟩ : SegV)) rfl) rfl ?_
  refine MG [5, 2] rfl (Ov (y := (⟨f, [(t, y.length)], A2, c2⟩ : SegV))) rfl ?_
  refine BT.keep (env' := [(6, .int .i64 0), (35, nv), (37, .pointer (some ⟨p, 2, none⟩))]) ⟨rfl, rfl, rfl, trivial⟩ ?_
  refine BT.mid [Bd (svs ++ [(⟨f, [(t, y.length)], A2, c2⟩ : SegV)]), Ak 92 2 encSg nv (svs ++ [(⟨f, [(t, y.length)], A2, c2⟩ : SegV)]), Ak 92 2 encSw su ([(f, (.slice A2 [(t, y.length)].length c2))]), cell gx 34 #[.int .i64 k, .int .u64 t, .int .u64 (f : Int), .slice Ax nx cx, .int .i64 z], cell p 87 #[.pointer (some ⟨dk, 0, none⟩), .int .i64 (lim : Int), sv], Ag dk d', Ao tb, Ak 5 1 encB (.slice AF y.length cF) y] (.refl _) ?_
  refine Af Ae rfl ?_
  refine AL (post := fun _ => [Bd (svs ++ [(⟨f, [(t, y.length)], A2, c2⟩ : SegV)]), Ak 92 2 encSg nv (svs ++ [(⟨f, [(t, y.length)], A2, c2⟩ : SegV)]), Ak 92 2 encSw su ([(f, (.slice A2 [(t, y.length)].length c2))]), cell gx 34 #[.int .i64 k, .int .u64 t, .int .u64 (f : Int), .slice Ax nx cx, .int .i64 z], cell p 87 #[.pointer (some ⟨dk, 0, none⟩), .int .i64 (lim : Int), nv], Ag dk d', Ao tb, Ak 5 1 encB (.slice AF y.length cF) y]) rfl rfl (Ee 4 1 (v := nv) #[.pointer (some ⟨dk, 0, none⟩), .int .i64 (lim : Int), nv] C4.2 rfl (fun _ h => Ak.c1 h) rfl rfl rfl rfl rfl rfl rfl) ?_; rintro ⟨⟩
  refine AD (AB (Ad ?_))
  refine Af Ae rfl ?_
  refine Ab (Az ?_)
  exact Ay (.tmp rfl) (fun w h => AC () rfl [4, 1, 0, 5, 6, 7] rfl h (fun z hz => Db (TU (y := (⟨f, [(t, y.length)], A2, c2⟩ : SegV)) hm) z hz)) rfl
theorem J6 {p dk lim f : Nat} {ss : SegsM} {k t z : Int} {Ax AF : Option Addr} {nx cx cF : Nat} {y : List UInt8} {d d' : DiskD} (hl : ss.length ≤ 1000000) (hf : f ≤ 72057594037927935) (hyl : y.length ≤ 140737488351232) (tb : Tb) (hd : d.fit) (happ : CO d (nameL f) y = (d', 0)) {fi : Int} (hfi : fi = (f : Int)) : AP Tryz.prog 99 #[.pointer (some ⟨p, 0, none⟩), .agg #[.int .i64 k, .int .u64 t, .int .u64 fi, .slice Ax nx cx, .int .i64 z], .slice AF y.length cF] [AA p dk lim ss, Ag dk d, Ao tb, Ak 5 1 encB (.slice AF y.length cF) y] (fun _ : Unit => .int .i64 0) (fun _ => [AA p dk lim (ss ++ [(f, [(t, y.length)])]), Ag dk d', Ao tb, Ak 5 1 encB (.slice AF y.length cF) y]) := by
 subst hfi
 exact P4 hl hf hyl tb hd happ
theorem R8 {X : Ass} {p dk lim f : Nat} {e : EntD} {A : Option Addr} {c : Nat} {y : List UInt8} {d d' : DiskD} (hX : E3 X (.slice A e.d.length c) e.d) (hr : BR e = true) (hei : e.i = (f : Int)) (hf : f ≤ 72057594037927935) (hyb : (B9 e).length ≤ 140737488351232) (hy : BZ (B9 e) = y) (hyl : y.length ≤ 140737488351232) (tb : Tb) (hd : d.fit) (happ : CO d (nameL f) y = (d', 0)) : AP Tryz.prog 46 #[.pointer (some ⟨p, 0, none⟩), .agg #[.int .i64 e.k, .int .u64 e.t, .int .u64 e.i, .slice A e.d.length c, .int .i64 e.c]] [AA p dk lim ([]), Ag dk d, Ao tb, X] (fun (_ : Unit) => .int .i64 0) (fun (_ : Unit) => [AA p dk lim ([] ++ [(f, [(e.t, y.length)])]), Ag dk d', Ao tb, X]) := by
  refine Bj (args := [.pointer (some ⟨p, 0, none⟩), .agg #[.int .i64 e.k, .int .u64 e.t, .int .u64 e.i, .slice A e.d.length c, .int .i64 e.c]]) 77 Tryz.func46 rfl rfl rfl ?_; intro w rs
  refine Ad ?_
  refine Af Ae rfl ?_
  refine Am (post := fun gx => [cell gx 34 #[.int .i64 e.k, .int .u64 e.t, .int .u64 e.i, .slice A e.d.length c, .int .i64 e.c], AA p dk lim ([]), Ag dk d, Ao tb, X]) rfl (CD (cs := #[.int .i64 e.k, .int .u64 e.t, .int .u64 e.i, .slice A e.d.length c, .int .i64 e.c]) rfl rfl rfl) ?_; rintro gx
  refine Af Ae rfl ?_
  refine Ab (Ad ?_)
  refine Af Ae rfl ?_
  refine Aa rfl (.agg #[.int .i64 e.k, .int .u64 e.t, .int .u64 e.i, .slice A e.d.length c, .int .i64 e.c]) (fun b w hb hH => AY rfl rfl (EY (cs := [.int .i64 e.k, .int .u64 e.t, .int .u64 e.i, .slice A e.d.length c, .int .i64 e.c]) BH rfl) (hH.row 0 rfl) hb) ?_
  refine Am (post := fun lv => [Ak 5 1 encB lv (B9 e), cell gx 34 #[.int .i64 e.k, .int .u64 e.t, .int .u64 e.i, .slice A e.d.length c, .int .i64 e.c], AA p dk lim ([]), Ag dk d, Ao tb, X]) rfl (E9 (os' := fun lv => [Ak 5 1 encB lv (B9 e), cell gx 34 #[.int .i64 e.k, .int .u64 e.t, .int .u64 e.i, .slice A e.d.length c, .int .i64 e.c], AA p dk lim ([]), Ag dk d, Ao tb, X]) [] 0 (Aj Tryz.func97 (by kernel_rfl) rfl) (fun w hH => Jt w ⟨e, A, c⟩ (hH.rd8 4 rfl hX) hr) rfl rfl rfl (fun _ => rfl) rfl rfl rfl) ?_; rintro lv
  refine Af Ae rfl ?_
  refine Ab (Ad ?_)
  refine Af Ae rfl ?_
  refine Am rfl (Au (os' := fun fv => [Ak 5 1 encB fv y, Ak 5 1 encB lv (B9 e), cell gx 34 #[.int .i64 e.k, .int .u64 e.t, .int .u64 e.i, .slice A e.d.length c, .int .i64 e.c], AA p dk lim ([]), Ag dk d, Ao tb, X]) [0] 0 (Aj Tryz.func98 (by kernel_rfl) rfl) (Io DI hyb hy) rfl rfl rfl (fun _ => rfl) rfl rfl rfl) ?_; rintro fv
  refine BT.fact 0 rfl (fun _ h => Ak.is h) ?_; rintro ⟨AF, cF, hfv⟩
  change fv = .slice AF y.length cF at hfv
  subst hfv
  refine BT.keep (env' := [(0, .pointer (some ⟨p, 0, none⟩)), (1, .agg #[.int .i64 e.k, .int .u64 e.t, .int .u64 e.i, .slice A e.d.length c, .int .i64 e.c]), (3, .pointer (some ⟨gx, 0, none⟩)), (4, .int .i64 0), (11, .agg #[.int .i64 e.k, .int .u64 e.t, .int .u64 e.i, .slice A e.d.length c, .int .i64 e.c]), (12, .tuple #[lv, .int .i64 0]), (10, .tuple #[lv, .int .i64 0]), (13, lv), (14, .int .i64 0), (5, lv), (6, .int .i64 0), (15, lv), (16, .slice AF y.length cF)]) ⟨rfl, rfl, rfl, rfl, rfl, rfl, rfl, rfl, rfl, rfl, rfl, rfl, rfl, trivial⟩ ?_
  refine BT.mid [Ak 5 1 encB (.slice AF y.length cF) y, Ak 5 1 encB lv (B9 e), cell gx 34 #[.int .i64 e.k, .int .u64 e.t, .int .u64 e.i, .slice A e.d.length c, .int .i64 e.c], AA p dk lim ([]), Ag dk d, Ao tb, X] (.refl _) ?_
  refine Af Ae rfl ?_
  refine Ab (An ?_)
  refine A7 3 rfl AA.open_ (fun _ => rfl) ?_; rintro ⟨sv, svs⟩
  refine AN.fact 3 rfl (fun _ h => h.2) ?_; rintro hm
  refine AN.leave [3] rfl rfl ?_
  replace hm : svs.map SegV.m = [] := hm
  have hn : svs.length = 0 := by have := congrArg List.length hm; simpa using this
  refine An ?_
  refine BV 21 0 [⟨.quiet, [], fun _ => .pointer (some ⟨p, 0, none⟩), []⟩, ⟨.quiet, [], fun _ => .pointer (some ⟨p, 0, none⟩), [0]⟩, ⟨.quiet, [], fun _ => .pointer (some ⟨p, 2, none⟩), [1]⟩, ⟨.quiet, [], fun _ => sv, [2]⟩, ⟨.quiet, [], fun _ => .int .i64 ((0 : Nat) : Int), [3]⟩, ⟨.quiet, [], fun _ => .bool true, [4]⟩, ⟨.quiet, [], fun _ => .bool true, [5]⟩, ⟨.skip, [], fun _ => undef, [6]⟩, ⟨.skip, [], fun _ => undef, [7, 6]⟩, ⟨.skip, [], fun _ => undef, [8, 6]⟩, ⟨.skip, [], fun _ => undef, [9, 6]⟩, ⟨.skip, [], fun _ => undef, [10, 6]⟩, ⟨.skip, [], fun _ => undef, [6]⟩, ⟨.skip, [], fun _ => undef, [12, 6]⟩, ⟨.skip, [], fun _ => undef, [11, 13, 6]⟩, ⟨.skip, [], fun _ => undef, [6]⟩, ⟨.skip, [], fun _ => undef, [15, 6]⟩, ⟨.skip, [], fun _ => undef, [16, 6]⟩, ⟨.skip, [], fun _ => undef, [17, 6]⟩, ⟨.skip, [], fun _ => undef, [14, 18, 6]⟩, ⟨.quiet, [], fun _ => .bool true, [6, 19]⟩] [(0, .pointer (some ⟨p, 0, none⟩)), (3, .pointer (some ⟨gx, 0, none⟩)), (4, .int .i64 0), (7, .slice AF y.length cF)] (fun _ => [cell p 87 #[.pointer (some ⟨dk, 0, none⟩), .int .i64 (lim : Int), sv], Ak 92 2 encSg sv svs, Bd svs, Ak 5 1 encB (.slice AF y.length cF) y, Ak 5 1 encB lv (B9 e), cell gx 34 #[.int .i64 e.k, .int .u64 e.t, .int .u64 e.i, .slice A e.d.length c, .int .i64 e.c], Ag dk d, Ao tb, X]) (by kernel_rfl) (by kernel_rfl) ⟨rfl, rfl, rfl, rfl, trivial⟩ rfl ?_ ?_
  · skip
    refine Ac (by exact ⟨rfl, fun b w hH hb => Ah Ae rfl hb⟩) ?_
    refine Ac (by exact ⟨rfl, fun b w hH hb => by exact B8 rfl rfl hb⟩) ?_
    refine Ac (by exact ⟨rfl, fun b w hH hb => Ah Ae rfl hb⟩) ?_
    refine Ac (by exact ⟨rfl, fun b w hH hb => AY rfl rfl (Bi C4 rfl) (hH.row 0 rfl) hb⟩) ?_
    refine Ac (by exact ⟨rfl, fun b w hH hb => BS 1 hn Tryz.underlying85 rfl rfl rfl hH hb⟩) ?_
    refine Ac (by exact ⟨rfl, fun b w hH hb => AZ rfl rfl rfl (FI (by omega)) hb⟩) ?_
    refine Ac (by exact ⟨rfl, fun b w hH hb => Ah Ae rfl hb⟩) ?_
    refine Ac (by exact ⟨rfl, rfl⟩) ?_
    refine Ac (by exact ⟨rfl, rfl⟩) ?_
    refine Ac (by exact ⟨rfl, rfl⟩) ?_
    refine Ac (by exact ⟨rfl, rfl⟩) ?_
    refine Ac (by exact ⟨rfl, rfl⟩) ?_
    refine Ac (by exact ⟨rfl, rfl⟩) ?_
    refine Ac (by exact ⟨rfl, rfl⟩) ?_
    refine Ac (by exact ⟨rfl, rfl⟩) ?_
    refine Ac (by exact ⟨rfl, rfl⟩) ?_
    refine Ac (by exact ⟨rfl, rfl⟩) ?_
    refine Ac (by exact ⟨rfl, rfl⟩) ?_
    refine Ac (by exact ⟨rfl, rfl⟩) ?_
    refine Ac (by exact ⟨rfl, rfl⟩) ?_
    refine Ac (by exact ⟨rfl, fun b w hH hb => Ah Ae rfl hb⟩) ?_
    exact B7
  refine BT.keep (env' := [(0, .pointer (some ⟨p, 0, none⟩)), (3, .pointer (some ⟨gx, 0, none⟩)), (4, .int .i64 0), (7, .slice AF y.length cF), (37, .bool true)]) ⟨rfl, rfl, rfl, rfl, rfl, trivial⟩ ?_
  refine AD (AB (AI rfl ?_))
  refine Bg [0, 1, 2] rfl (Dv hm) rfl ?_
  refine AN.keep (env' := [(0, .pointer (some ⟨p, 0, none⟩)), (3, .pointer (some ⟨gx, 0, none⟩)), (4, .int .i64 0), (7, .slice AF y.length cF), (37, .bool true)]) ⟨rfl, rfl, rfl, rfl, rfl, trivial⟩ ?_
  refine AN.mid [AA p dk lim ([]), Ak 5 1 encB (.slice AF y.length cF) y, Ak 5 1 encB lv (B9 e), cell gx 34 #[.int .i64 e.k, .int .u64 e.t, .int .u64 e.i, .slice A e.d.length c, .int .i64 e.c], Ag dk d, Ao tb, X] (.refl _) ?_
  refine Ad ?_
  refine Af Ae rfl ?_
  refine Aa rfl (.agg #[.int .i64 e.k, .int .u64 e.t, .int .u64 e.i, .slice A e.d.length c, .int .i64 e.c]) (fun b w hb hH => AY rfl rfl (EY (cs := [.int .i64 e.k, .int .u64 e.t, .int .u64 e.i, .slice A e.d.length c, .int .i64 e.c]) BH rfl) (hH.row 3 rfl) hb) ?_
  refine Af Ae rfl ?_
  refine Am rfl (Au (os' := fun _ => [AA p dk lim ([] ++ [(f, [(e.t, y.length)])]), Ak 5 1 encB (.slice AF y.length cF) y, Ak 5 1 encB lv (B9 e), cell gx 34 #[.int .i64 e.k, .int .u64 e.t, .int .u64 e.i, .slice A e.d.length c, .int .i64 e.c], Ag dk d', Ao tb, X]) [0, 4, 5, 1] 0 (Aj Tryz.func99 (by kernel_rfl) rfl) (J6 (Nat.zero_le _) hf hyl tb hd happ hei) rfl rfl rfl (fun _ => rfl) rfl rfl rfl) ?_; rintro ⟨⟩
  refine Af Ae rfl ?_
  refine Ab (Az (D8 ?_))
  exact Ay (.tmp rfl) (fun w h => AC () rfl [0, 4, 5, 6] rfl h Ed) rfl
theorem Vm {X : Ass} {p dk lim f : Nat} {ss : SegsM} {f0 : Nat} {l : List (Int × Nat)} {m : Int × Nat} {e : EntD} {A : Option Addr} {c : Nat} {y : List UInt8} {d d' : DiskD} (hX : E3 X (.slice A e.d.length c) e.d) (hr : BR e = true) (hei : e.i = (f : Int)) (hl : ss.length ≤ 999999) (hl2 : l.length ≤ 999999) (hf0 : f0 ≤ 72057594037927935) (h0 : l ≠ []) (hm1 : l[l.length - 1]? = some m) (hmb : m.2 ≤ 137438953472) (hf : f ≤ 72057594037927935) (hyb : (B9 e).length ≤ 140737488351232) (hy : BZ (B9 e) = y) (hyl : y.length ≤ 140737488351232) (tb : Tb) (hd : d.fit) (happ : CO d (nameL f) y = (d', 0)) (hbig : lim < m.2 + y.length) : AP Tryz.prog 46 #[.pointer (some ⟨p, 0, none⟩), .agg #[.int .i64 e.k, .int .u64 e.t, .int .u64 e.i, .slice A e.d.length c, .int .i64 e.c]] [AA p dk lim (ss ++ [(f0, l)]), Ag dk d, Ao tb, X] (fun (_ : Unit) => .int .i64 0) (fun (_ : Unit) => [AA p dk lim (ss ++ [(f0, l)] ++ [(f, [(e.t, y.length)])]), Ag dk d', Ao tb, X]) := by
  refine Bj (args := [.pointer (some ⟨p, 0, none⟩), .agg #[.int .i64 e.k, .int .u64 e.t, .int .u64 e.i, .slice A e.d.length c, .int .i64 e.c]]) 77 Tryz.func46 rfl rfl rfl ?_; intro w rs
  refine Ad ?_
  refine Af Ae rfl ?_
  refine Am (post := fun gx => [cell gx 34 #[.int .i64 e.k, .int .u64 e.t, .int .u64 e.i, .slice A e.d.length c, .int .i64 e.c], AA p dk lim (ss ++ [(f0, l)]), Ag dk d, Ao tb, X]) rfl (CD (cs := #[.int .i64 e.k, .int .u64 e.t, .int .u64 e.i, .slice A e.d.length c, .int .i64 e.c]) rfl rfl rfl) ?_; rintro gx
  refine Af Ae rfl ?_
  refine Ab (Ad ?_)
  refine Af Ae rfl ?_
  refine Aa rfl (.agg #[.int .i64 e.k, .int .u64 e.t, .int .u64 e.i, .slice A e.d.length c, .int .i64 e.c]) (fun b w hb hH => AY rfl rfl (EY (cs := [.int .i64 e.k, .int .u64 e.t, .int .u64 e.i, .slice A e.d.length c, .int .i64 e.c]) BH rfl) (hH.row 0 rfl) hb) ?_
  refine Am (post := fun lv => [Ak 5 1 encB lv (B9 e), cell gx 34 #[.int .i64 e.k, .int .u64 e.t, .int .u64 e.i, .slice A e.d.length c, .int .i64 e.c], AA p dk lim (ss ++ [(f0, l)]), Ag dk d, Ao tb, X]) rfl (E9 (os' := fun lv => [Ak 5 1 encB lv (B9 e), cell gx 34 #[.int .i64 e.k, .int .u64 e.t, .int .u64 e.i, .slice A e.d.length c, .int .i64 e.c], AA p dk lim (ss ++ [(f0, l)]), Ag dk d, Ao tb, X]) [] 0 (Aj Tryz.func97 (by kernel_rfl) rfl) (fun w hH => Jt w ⟨e, A, c⟩ (hH.rd8 4 rfl hX) hr) rfl rfl rfl (fun _ => rfl) rfl rfl rfl) ?_; rintro lv
  refine Af Ae rfl ?_
  refine Ab (Ad ?_)
  refine Af Ae rfl ?_
  refine Am rfl (Au (os' := fun fv => [Ak 5 1 encB fv y, Ak 5 1 encB lv (B9 e), cell gx 34 #[.int .i64 e.k, .int .u64 e.t, .int .u64 e.i, .slice A e.d.length c, .int .i64 e.c], AA p dk lim (ss ++ [(f0, l)]), Ag dk d, Ao tb, X]) [0] 0 (Aj Tryz.func98 (by kernel_rfl) rfl) (Io DI hyb hy) rfl rfl rfl (fun _ => rfl) rfl rfl rfl) ?_; rintro fv
  refine BT.fact 0 rfl (fun _ h => Ak.is h) ?_; rintro ⟨AF, cF, hfv⟩
  change fv = .slice AF y.length cF at hfv
  subst hfv
  refine BT.keep (env' := [(0, .pointer (some ⟨p, 0, none⟩)), (1, .agg #[.int .i64 e.k, .int .u64 e.t, .int .u64 e.i, .slice A e.d.length c, .int .i64 e.c]), (3, .pointer (some ⟨gx, 0, none⟩)), (4, .int .i64 0), (11, .agg #[.int .i64 e.k, .int .u64 e.t, .int .u64 e.i, .slice A e.d.length c, .int .i64 e.c]), (12, .tuple #[lv, .int .i64 0]), (10, .tuple #[lv, .int .i64 0]), (13, lv), (14, .int .i64 0), (5, lv), (6, .int .i64 0), (15, lv), (16, .slice AF y.length cF)]) ⟨rfl, rfl, rfl, rfl, rfl, rfl, rfl, rfl, rfl, rfl, rfl, rfl, rfl, trivial⟩ ?_
  refine BT.mid [Ak 5 1 encB (.slice AF y.length cF) y, Ak 5 1 encB lv (B9 e), cell gx 34 #[.int .i64 e.k, .int .u64 e.t, .int .u64 e.i, .slice A e.d.length c, .int .i64 e.c], AA p dk lim (ss ++ [(f0, l)]), Ag dk d, Ao tb, X] (.refl _) ?_
  refine Af Ae rfl ?_
  refine Ab (An ?_)
  refine A7 3 rfl AA.open_ (fun _ => rfl) ?_; rintro ⟨sv, svs⟩
  refine AN.fact 3 rfl (fun _ h => h.2) ?_; rintro hm
  refine AN.leave [3] rfl rfl ?_
  replace hm : svs.map SegV.m = ss ++ [(f0, l)] := hm
  obtain ⟨x, hx, rfl, rfl, hn⟩ := Da hm
  have hl0 : 0 < x.l.length := List.length_pos_iff.2 h0
  have hjl : ss.length < svs.length := (List.getElem?_eq_some_iff.1 hx).1
  refine An ?_
  refine BV 21 2 [⟨.quiet, [none, none], fun _ => .pointer (some ⟨p, 0, none⟩), []⟩, ⟨.quiet, [none, none], fun _ => .pointer (some ⟨p, 0, none⟩), [0]⟩, ⟨.quiet, [none, none], fun _ => .pointer (some ⟨p, 2, none⟩), [1]⟩, ⟨.quiet, [none, none], fun _ => sv, [2]⟩, ⟨.quiet, [none, none], fun _ => .int .i64 ((ss.length + 1 : Nat) : Int), [3]⟩, ⟨.quiet, [none, none], fun _ => .bool false, [4]⟩, ⟨.quiet, [none, none], fun _ => .bool false, [5]⟩, ⟨.quiet, [none, none], fun _ => .pointer (some ⟨p, 0, none⟩), [6]⟩, ⟨.actv 0, [some false, some false], fun _ => AV sv (ss.length * 2), [7, 6]⟩, ⟨.quiet, [some true, none], fun _ => AV sv (ss.length * 2), [8, 6]⟩, ⟨.quiet, [some true, none], fun _ => .agg (encSg x).toArray, [9, 6]⟩, ⟨.actv 1, [some true, some false], fun _ => .int .i64 (m.2 : Int), [10, 6]⟩, ⟨.quiet, [none, none], fun _ => .slice AF y.length cF, [6]⟩, ⟨.quiet, [none, none], fun _ => .int .i64 (y.length : Int), [12, 6]⟩, ⟨.quiet, [some true, some true], fun _ => .int .i64 ((m.2 + y.length : Nat) : Int), [11, 13, 6]⟩, ⟨.quiet, [none, none], fun _ => .pointer (some ⟨p, 0, none⟩), [6]⟩, ⟨.quiet, [none, none], fun _ => .pointer (some ⟨p, 0, none⟩), [15, 6]⟩, ⟨.quiet, [none, none], fun _ => .pointer (some ⟨p, 1, none⟩), [16, 6]⟩, ⟨.quiet, [none, none], fun _ => .int .i64 (lim : Int), [17, 6]⟩, ⟨.quiet, [some true, some true], fun _ => .bool true, [14, 18, 6]⟩, ⟨.quiet, [some true, some true], fun _ => .bool true, [6, 19]⟩] [(0, .pointer (some ⟨p, 0, none⟩)), (3, .pointer (some ⟨gx, 0, none⟩)), (4, .int .i64 0), (7, .slice AF y.length cF)] (fun ρ => match ρ with | [r0, r1] => [cell p 87 #[.pointer (some ⟨dk, 0, none⟩), .int .i64 (lim : Int), sv], Ak 92 2 encSg sv svs, Bd svs, Ak 5 1 encB (.slice AF y.length cF) y, Ak 5 1 encB lv (B9 e), cell gx 34 #[.int .i64 e.k, .int .u64 e.t, .int .u64 e.i, .slice A e.d.length c, .int .i64 e.c], Ag dk d, Ao tb, X] | _ => []) (by kernel_rfl) (by kernel_rfl) ⟨rfl, rfl, rfl, rfl, trivial⟩ rfl ?_ ?_
  · skip
    refine Ac (by intro r0_ r1_; exact ⟨rfl, fun b w hH hb => Ah Ae rfl hb⟩) ?_
    refine Ac (by intro r0_ r1_; exact ⟨rfl, fun b w hH hb => by exact B8 rfl rfl hb⟩) ?_
    refine Ac (by intro r0_ r1_; exact ⟨rfl, fun b w hH hb => Ah Ae rfl hb⟩) ?_
    refine Ac (by intro r0_ r1_; exact ⟨rfl, fun b w hH hb => AY rfl rfl (Bi C4 rfl) (hH.row 0 rfl) hb⟩) ?_
    refine Ac (by intro r0_ r1_; exact ⟨rfl, fun b w hH hb => BS 1 hn Tryz.underlying85 rfl rfl rfl hH hb⟩) ?_
    refine Ac (by intro r0_ r1_; exact ⟨rfl, fun b w hH hb => AZ rfl rfl rfl (EK (by omega)) hb⟩) ?_
    refine Ac (by intro r0_ r1_; exact ⟨rfl, fun b w hH hb => Ah Ae rfl hb⟩) ?_
    refine Ac (by intro r0_ r1_; exact ⟨rfl, fun b w hH hb => Ah Ae rfl hb⟩) ?_
    refine Ac (by exact ⟨rfl, Bm.su (Au (os' := fun _ => [cell p 87 #[.pointer (some ⟨dk, 0, none⟩), .int .i64 (lim : Int), sv], Ak 92 2 encSg sv svs, Bd svs, Ak 5 1 encB (.slice AF y.length cF) y, Ak 5 1 encB lv (B9 e), cell gx 34 #[.int .i64 e.k, .int .u64 e.t, .int .u64 e.i, .slice A e.d.length c, .int .i64 e.c], Ag dk d, Ao tb, X]) [0, 1] 0 (Aj Tryz.func49 (by kernel_rfl) rfl) (Co hn (by omega)) rfl rfl rfl (fun _ => rfl) rfl rfl rfl) rfl⟩) ?_
    refine Ac (by intro v0_ r1_; exact ⟨rfl, fun b w hH hb => B0 1 rfl (j := ss.length) (List.getElem?_eq_some_iff.1 hx).1 rfl rfl hH hb⟩) ?_
    refine Ac (by intro v0_ r1_; exact ⟨rfl, fun b w hH hb => Dz AT (by decide) (hH.vec 1 rfl AT) (j := ss.length) hx B5 rfl rfl hb⟩) ?_
    refine Ac (by intro v0_; exact ⟨rfl, Bm.su (Bc (Aj Tryz.func93 (by kernel_rfl) rfl) (fun w hH => Lj w (DF 2 rfl hx hH) hm1 hl0 (by omega)) rfl rfl rfl) rfl⟩) ?_
    refine Ac (by intro r0_ r1_; exact ⟨rfl, fun b w hH hb => Ah Ae rfl hb⟩) ?_
    refine Ac (by intro r0_ r1_; exact ⟨rfl, fun b w hH hb => DL Bf rfl rfl hH hb⟩) ?_
    refine Ac (by intro v0_ v1_; exact ⟨rfl, fun b w hH hb => AH rfl rfl rfl rfl (by rw [IntWalk.i64_in _ (by omega)]; omega) hb⟩) ?_
    refine Ac (by intro r0_ r1_; exact ⟨rfl, fun b w hH hb => Ah Ae rfl hb⟩) ?_
    refine Ac (by intro r0_ r1_; exact ⟨rfl, fun b w hH hb => by exact B8 rfl rfl hb⟩) ?_
    refine Ac (by intro r0_ r1_; exact ⟨rfl, fun b w hH hb => Ah Ae rfl hb⟩) ?_
    refine Ac (by intro r0_ r1_; exact ⟨rfl, fun b w hH hb => AY rfl rfl (Bi Bh rfl) (hH.row 0 rfl) hb⟩) ?_
    refine Ac (by intro v0_ v1_; exact ⟨rfl, fun b w hH hb => AZ rfl rfl rfl (BO (by omega)) hb⟩) ?_
    refine Ac (by intro v0_ v1_; exact ⟨rfl, fun b w hH hb => Ah Ae rfl hb⟩) ?_
    exact B7
  intro v0_ v1_
  refine BT.keep (env' := [(0, .pointer (some ⟨p, 0, none⟩)), (3, .pointer (some ⟨gx, 0, none⟩)), (4, .int .i64 0), (7, .slice AF y.length cF), (37, .bool true)]) ⟨rfl, rfl, rfl, rfl, rfl, trivial⟩ ?_
  refine AD (AB (AI rfl ?_))
  refine Bg [0, 1, 2] rfl (Dv hm) rfl ?_
  refine AN.keep (env' := [(0, .pointer (some ⟨p, 0, none⟩)), (3, .pointer (some ⟨gx, 0, none⟩)), (4, .int .i64 0), (7, .slice AF y.length cF), (37, .bool true)]) ⟨rfl, rfl, rfl, rfl, rfl, trivial⟩ ?_
  refine AN.mid [AA p dk lim (ss ++ [(x.f, x.l)]), Ak 5 1 encB (.slice AF y.length cF) y, Ak 5 1 encB lv (B9 e), cell gx 34 #[.int .i64 e.k, .int .u64 e.t, .int .u64 e.i, .slice A e.d.length c, .int .i64 e.c], Ag dk d, Ao tb, X] (.refl _) ?_
  refine Ad ?_
  refine Af Ae rfl ?_
  refine Aa rfl (.agg #[.int .i64 e.k, .int .u64 e.t, .int .u64 e.i, .slice A e.d.length c, .int .i64 e.c]) (fun b w hb hH => AY rfl rfl (EY (cs := [.int .i64 e.k, .int .u64 e.t, .int .u64 e.i, .slice A e.d.length c, .int .i64 e.c]) BH rfl) (hH.row 3 rfl) hb) ?_
  refine Af Ae rfl ?_
  refine Am rfl (Au (os' := fun _ => [AA p dk lim (ss ++ [(x.f, x.l)] ++ [(f, [(e.t, y.length)])]), Ak 5 1 encB (.slice AF y.length cF) y, Ak 5 1 encB lv (B9 e), cell gx 34 #[.int .i64 e.k, .int .u64 e.t, .int .u64 e.i, .slice A e.d.length c, .int .i64 e.c], Ag dk d', Ao tb, X]) [0, 4, 5, 1] 0 (Aj Tryz.func99 (by kernel_rfl) rfl) (J6 (by rw [List.length_append]; simp only [List.length_cons, List.length_nil]; omega) hf hyl tb hd happ hei) rfl rfl rfl (fun _ => rfl) rfl rfl rfl) ?_; rintro ⟨⟩
  refine Af Ae rfl ?_
  refine Ab (Az (D8 ?_))
  exact Ay (.tmp rfl) (fun w h => AC () rfl [0, 4, 5, 6] rfl h Ed) rfl
theorem Vn {X : Ass} {p dk lim : Nat} {ss : SegsM} {f0 : Nat} {l : List (Int × Nat)} {m : Int × Nat} {e : EntD} {A : Option Addr} {c : Nat} {y : List UInt8} {d d' : DiskD} (hX : E3 X (.slice A e.d.length c) e.d) (hr : BR e = true) (hl : ss.length ≤ 1000000) (hl2 : l.length ≤ 999999) (hf0 : f0 ≤ 72057594037927935) (h0 : l ≠ []) (hm1 : l[l.length - 1]? = some m) (hmb : m.2 ≤ 137438953472) (hyb : (B9 e).length ≤ 140737488351232) (hy : BZ (B9 e) = y) (hyl : y.length ≤ 140737488351232) (tb : Tb) (hd : d.fit) (happ : CO d (nameL f0) y = (d', 0)) (hfit : m.2 + y.length ≤ lim) (hli : lim ≤ 1000000000) : AP Tryz.prog 46 #[.pointer (some ⟨p, 0, none⟩), .agg #[.int .i64 e.k, .int .u64 e.t, .int .u64 e.i, .slice A e.d.length c, .int .i64 e.c]] [AA p dk lim (ss ++ [(f0, l)]), Ag dk d, Ao tb, X] (fun (_ : Unit) => .int .i64 0) (fun (_ : Unit) => [AA p dk lim (ss ++ [(f0, l ++ [(e.t, m.2 + y.length)])]), Ag dk d', Ao tb, X]) := by
  refine Bj (args := [.pointer (some ⟨p, 0, none⟩), .agg #[.int .i64 e.k, .int .u64 e.t, .int .u64 e.i, .slice A e.d.length c, .int .i64 e.c]]) 77 Tryz.func46 rfl rfl rfl ?_; intro w rs
  refine Ad ?_
  refine Af Ae rfl ?_
  refine Am (post := fun gx => [cell gx 34 #[.int .i64 e.k, .int .u64 e.t, .int .u64 e.i, .slice A e.d.length c, .int .i64 e.c], AA p dk lim (ss ++ [(f0, l)]), Ag dk d, Ao tb, X]) rfl (CD (cs := #[.int .i64 e.k, .int .u64 e.t, .int .u64 e.i, .slice A e.d.length c, .int .i64 e.c]) rfl rfl rfl) ?_; rintro gx
  refine Af Ae rfl ?_
  refine Ab (Ad ?_)
  refine Af Ae rfl ?_
  refine Aa rfl (.agg #[.int .i64 e.k, .int .u64 e.t, .int .u64 e.i, .slice A e.d.length c, .int .i64 e.c]) (fun b w hb hH => AY rfl rfl (EY (cs := [.int .i64 e.k, .int .u64 e.t, .int .u64 e.i, .slice A e.d.length c, .int .i64 e.c]) BH rfl) (hH.row 0 rfl) hb) ?_
  refine Am (post := fun lv => [Ak 5 1 encB lv (B9 e), cell gx 34 #[.int .i64 e.k, .int .u64 e.t, .int .u64 e.i, .slice A e.d.length c, .int .i64 e.c], AA p dk lim (ss ++ [(f0, l)]), Ag dk d, Ao tb, X]) rfl (E9 (os' := fun lv => [Ak 5 1 encB lv (B9 e), cell gx 34 #[.int .i64 e.k, .int .u64 e.t, .int .u64 e.i, .slice A e.d.length c, .int .i64 e.c], AA p dk lim (ss ++ [(f0, l)]), Ag dk d, Ao tb, X]) [] 0 (Aj Tryz.func97 (by kernel_rfl) rfl) (fun w hH => Jt w ⟨e, A, c⟩ (hH.rd8 4 rfl hX) hr) rfl rfl rfl (fun _ => rfl) rfl rfl rfl) ?_; rintro lv
  refine Af Ae rfl ?_
  refine Ab (Ad ?_)
  refine Af Ae rfl ?_
  refine Am rfl (Au (os' := fun fv => [Ak 5 1 encB fv y, Ak 5 1 encB lv (B9 e), cell gx 34 #[.int .i64 e.k, .int .u64 e.t, .int .u64 e.i, .slice A e.d.length c, .int .i64 e.c], AA p dk lim (ss ++ [(f0, l)]), Ag dk d, Ao tb, X]) [0] 0 (Aj Tryz.func98 (by kernel_rfl) rfl) (Io DI hyb hy) rfl rfl rfl (fun _ => rfl) rfl rfl rfl) ?_; rintro fv
  refine BT.fact 0 rfl (fun _ h => Ak.is h) ?_; rintro ⟨AF, cF, hfv⟩
  change fv = .slice AF y.length cF at hfv
  subst hfv
  refine BT.keep (env' := [(0, .pointer (some ⟨p, 0, none⟩)), (1, .agg #[.int .i64 e.k, .int .u64 e.t, .int .u64 e.i, .slice A e.d.length c, .int .i64 e.c]), (3, .pointer (some ⟨gx, 0, none⟩)), (4, .int .i64 0), (11, .agg #[.int .i64 e.k, .int .u64 e.t, .int .u64 e.i, .slice A e.d.length c, .int .i64 e.c]), (12, .tuple #[lv, .int .i64 0]), (10, .tuple #[lv, .int .i64 0]), (13, lv), (14, .int .i64 0), (5, lv), (6, .int .i64 0), (15, lv), (16, .slice AF y.length cF)]) ⟨rfl, rfl, rfl, rfl, rfl, rfl, rfl, rfl, rfl, rfl, rfl, rfl, rfl, trivial⟩ ?_
  refine BT.mid [Ak 5 1 encB (.slice AF y.length cF) y, Ak 5 1 encB lv (B9 e), cell gx 34 #[.int .i64 e.k, .int .u64 e.t, .int .u64 e.i, .slice A e.d.length c, .int .i64 e.c], AA p dk lim (ss ++ [(f0, l)]), Ag dk d, Ao tb, X] (.refl _) ?_
  refine Af Ae rfl ?_
  refine Ab (An ?_)
  refine A7 3 rfl AA.open_ (fun _ => rfl) ?_; rintro ⟨sv, svs⟩
  refine AN.fact 3 rfl (fun _ h => h.2) ?_; rintro hm
  refine AN.leave [3] rfl rfl ?_
  replace hm : svs.map SegV.m = ss ++ [(f0, l)] := hm
  obtain ⟨x, hx, rfl, rfl, hn⟩ := Da hm
  have hl0 : 0 < x.l.length := List.length_pos_iff.2 h0
  have hjl : ss.length < svs.length := (List.getElem?_eq_some_iff.1 hx).1
  refine An ?_
  refine BV 21 2 [⟨.quiet, [none, none], fun _ => .pointer (some ⟨p, 0, none⟩), []⟩, ⟨.quiet, [none, none], fun _ => .pointer (some ⟨p, 0, none⟩), [0]⟩, ⟨.quiet, [none, none], fun _ => .pointer (some ⟨p, 2, none⟩), [1]⟩, ⟨.quiet, [none, none], fun _ => sv, [2]⟩, ⟨.quiet, [none, none], fun _ => .int .i64 ((ss.length + 1 : Nat) : Int), [3]⟩, ⟨.quiet, [none, none], fun _ => .bool false, [4]⟩, ⟨.quiet, [none, none], fun _ => .bool false, [5]⟩, ⟨.quiet, [none, none], fun _ => .pointer (some ⟨p, 0, none⟩), [6]⟩, ⟨.actv 0, [some false, some false], fun _ => AV sv (ss.length * 2), [7, 6]⟩, ⟨.quiet, [some true, none], fun _ => AV sv (ss.length * 2), [8, 6]⟩, ⟨.quiet, [some true, none], fun _ => .agg (encSg x).toArray, [9, 6]⟩, ⟨.actv 1, [some true, some false], fun _ => .int .i64 (m.2 : Int), [10, 6]⟩, ⟨.quiet, [none, none], fun _ => .slice AF y.length cF, [6]⟩, ⟨.quiet, [none, none], fun _ => .int .i64 (y.length : Int), [12, 6]⟩, ⟨.quiet, [some true, some true], fun _ => .int .i64 ((m.2 + y.length : Nat) : Int), [11, 13, 6]⟩, ⟨.quiet, [none, none], fun _ => .pointer (some ⟨p, 0, none⟩), [6]⟩, ⟨.quiet, [none, none], fun _ => .pointer (some ⟨p, 0, none⟩), [15, 6]⟩, ⟨.quiet, [none, none], fun _ => .pointer (some ⟨p, 1, none⟩), [16, 6]⟩, ⟨.quiet, [none, none], fun _ => .int .i64 (lim : Int), [17, 6]⟩, ⟨.quiet, [some true, some true], fun _ => .bool false, [14, 18, 6]⟩, ⟨.quiet, [some true, some true], fun _ => .bool false, [6, 19]⟩] [(0, .pointer (some ⟨p, 0, none⟩)), (3, .pointer (some ⟨gx, 0, none⟩)), (4, .int .i64 0), (7, .slice AF y.length cF)] (fun ρ => match ρ with | [r0, r1] => [cell p 87 #[.pointer (some ⟨dk, 0, none⟩), .int .i64 (lim : Int), sv], Ak 92 2 encSg sv svs, Bd svs, Ak 5 1 encB (.slice AF y.length cF) y, Ak 5 1 encB lv (B9 e), cell gx 34 #[.int .i64 e.k, .int .u64 e.t, .int .u64 e.i, .slice A e.d.length c, .int .i64 e.c], Ag dk d, Ao tb, X] | _ => []) (by kernel_rfl) (by kernel_rfl) ⟨rfl, rfl, rfl, rfl, trivial⟩ rfl ?_ ?_
  · skip
    refine Ac (by intro r0_ r1_; exact ⟨rfl, fun b w hH hb => Ah Ae rfl hb⟩) ?_
    refine Ac (by intro r0_ r1_; exact ⟨rfl, fun b w hH hb => by exact B8 rfl rfl hb⟩) ?_
    refine Ac (by intro r0_ r1_; exact ⟨rfl, fun b w hH hb => Ah Ae rfl hb⟩) ?_
    refine Ac (by intro r0_ r1_; exact ⟨rfl, fun b w hH hb => AY rfl rfl (Bi C4 rfl) (hH.row 0 rfl) hb⟩) ?_
    refine Ac (by intro r0_ r1_; exact ⟨rfl, fun b w hH hb => BS 1 hn Tryz.underlying85 rfl rfl rfl hH hb⟩) ?_
    refine Ac (by intro r0_ r1_; exact ⟨rfl, fun b w hH hb => AZ rfl rfl rfl (EK (by omega)) hb⟩) ?_
    refine Ac (by intro r0_ r1_; exact ⟨rfl, fun b w hH hb => Ah Ae rfl hb⟩) ?_
    refine Ac (by intro r0_ r1_; exact ⟨rfl, fun b w hH hb => Ah Ae rfl hb⟩) ?_
    refine Ac (by exact ⟨rfl, Bm.su (Au (os' := fun _ => [cell p 87 #[.pointer (some ⟨dk, 0, none⟩), .int .i64 (lim : Int), sv], Ak 92 2 encSg sv svs, Bd svs, Ak 5 1 encB (.slice AF y.length cF) y, Ak 5 1 encB lv (B9 e), cell gx 34 #[.int .i64 e.k, .int .u64 e.t, .int .u64 e.i, .slice A e.d.length c, .int .i64 e.c], Ag dk d, Ao tb, X]) [0, 1] 0 (Aj Tryz.func49 (by kernel_rfl) rfl) (Co hn (by omega)) rfl rfl rfl (fun _ => rfl) rfl rfl rfl) rfl⟩) ?_
    refine Ac (by intro v0_ r1_; exact ⟨rfl, fun b w hH hb => B0 1 rfl (j := ss.length) (List.getElem?_eq_some_iff.1 hx).1 rfl rfl hH hb⟩) ?_
    refine Ac (by intro v0_ r1_; exact ⟨rfl, fun b w hH hb => Dz AT (by decide) (hH.vec 1 rfl AT) (j := ss.length) hx B5 rfl rfl hb⟩) ?_
    refine Ac (by intro v0_; exact ⟨rfl, Bm.su (Bc (Aj Tryz.func93 (by kernel_rfl) rfl) (fun w hH => Lj w (DF 2 rfl hx hH) hm1 hl0 (by omega)) rfl rfl rfl) rfl⟩) ?_
    refine Ac (by intro r0_ r1_; exact ⟨rfl, fun b w hH hb => Ah Ae rfl hb⟩) ?_
    refine Ac (by intro r0_ r1_; exact ⟨rfl, fun b w hH hb => DL Bf rfl rfl hH hb⟩) ?_
    refine Ac (by intro v0_ v1_; exact ⟨rfl, fun b w hH hb => AH rfl rfl rfl rfl (by rw [IntWalk.i64_in _ (by omega)]; omega) hb⟩) ?_
    refine Ac (by intro r0_ r1_; exact ⟨rfl, fun b w hH hb => Ah Ae rfl hb⟩) ?_
    refine Ac (by intro r0_ r1_; exact ⟨rfl, fun b w hH hb => by exact B8 rfl rfl hb⟩) ?_
    refine Ac (by intro r0_ r1_; exact ⟨rfl, fun b w hH hb => Ah Ae rfl hb⟩) ?_
    refine Ac (by intro r0_ r1_; exact ⟨rfl, fun b w hH hb => AY rfl rfl (Bi Bh rfl) (hH.row 0 rfl) hb⟩) ?_
    refine Ac (by intro v0_ v1_; exact ⟨rfl, fun b w hH hb => AZ rfl rfl rfl (BE (by omega)) hb⟩) ?_
    refine Ac (by intro v0_ v1_; exact ⟨rfl, fun b w hH hb => Ah Ae rfl hb⟩) ?_
    exact B7
  intro v0_ v1_
  refine BT.keep (env' := [(0, .pointer (some ⟨p, 0, none⟩)), (3, .pointer (some ⟨gx, 0, none⟩)), (4, .int .i64 0), (7, .slice AF y.length cF), (37, .bool false)]) ⟨rfl, rfl, rfl, rfl, rfl, trivial⟩ ?_
  refine AD (AB (As rfl (Aw (AB (Ad ?_)))))
  refine Af Ae rfl ?_
  refine Am rfl (Au (os' := fun _ => [cell p 87 #[.pointer (some ⟨dk, 0, none⟩), .int .i64 (lim : Int), sv], Ak 92 2 encSg sv svs, Bd svs, Ak 5 1 encB (.slice AF y.length cF) y, Ak 5 1 encB lv (B9 e), cell gx 34 #[.int .i64 e.k, .int .u64 e.t, .int .u64 e.i, .slice A e.d.length c, .int .i64 e.c], Ag dk d, Ao tb, X]) [0, 1] 0 (Aj Tryz.func49 (by kernel_rfl) rfl) (Co hn (by omega)) rfl rfl rfl (fun _ => rfl) rfl rfl rfl) ?_; rintro ⟨⟩
  refine Af Ae rfl ?_
  refine Ab (An (An ?_))
  refine BV 11 2 [⟨.quiet, [none, none], fun _ => .pointer (some ⟨p, 0, none⟩), []⟩, ⟨.quiet, [none, none], fun _ => .pointer (some ⟨p, 0, none⟩), [0]⟩, ⟨.quiet, [none, none], fun _ => .pointer (some ⟨p, 0, none⟩), [1]⟩, ⟨.quiet, [none, none], fun _ => .pointer (some ⟨dk, 0, none⟩), [2]⟩, ⟨.quiet, [none, none], fun _ => AV sv (ss.length * 2), []⟩, ⟨.quiet, [none, none], fun _ => AV sv (ss.length * 2), [4]⟩, ⟨.quiet, [none, none], fun _ => AV sv (ss.length * 2 + 0), [5]⟩, ⟨.quiet, [none, none], fun _ => .int .u64 (x.f : Int), [6]⟩, ⟨.actv 0, [some false, some false], fun _ => .string (bs (nameL x.f)), [7]⟩, ⟨.quiet, [none, none], fun _ => .slice AF y.length cF, []⟩, ⟨.actv 1, [some true, some false], fun _ => .int .i64 0, [3, 8, 9]⟩] [(0, .pointer (some ⟨p, 0, none⟩)), (3, .pointer (some ⟨gx, 0, none⟩)), (4, .int .i64 0), (7, .slice AF y.length cF), (8, AV sv (ss.length * 2))] (fun ρ => match ρ with | [r0, r1] => [cell p 87 #[.pointer (some ⟨dk, 0, none⟩), .int .i64 (lim : Int), sv], Ak 92 2 encSg sv svs, Bd svs, Ak 5 1 encB (.slice AF y.length cF) y, Ak 5 1 encB lv (B9 e), cell gx 34 #[.int .i64 e.k, .int .u64 e.t, .int .u64 e.i, .slice A e.d.length c, .int .i64 e.c], DR r1 (fun _ => Ag dk d') (Ag dk d), Ao tb, X] | _ => []) (by kernel_rfl) (by kernel_rfl) ⟨rfl, rfl, rfl, rfl, rfl, trivial⟩ rfl ?_ ?_
  · skip
    refine Ac (by intro r0_ r1_; exact ⟨rfl, fun b w hH hb => Ah Ae rfl hb⟩) ?_
    refine Ac (by intro r0_ r1_; exact ⟨rfl, fun b w hH hb => by exact B8 rfl rfl hb⟩) ?_
    refine Ac (by intro r0_ r1_; exact ⟨rfl, fun b w hH hb => Ah Ae rfl hb⟩) ?_
    refine Ac (by intro r0_ r1_; exact ⟨rfl, fun b w hH hb => AY rfl rfl (Bi CL rfl) (hH.row 0 rfl) hb⟩) ?_
    refine Ac (by intro r0_ r1_; exact ⟨rfl, fun b w hH hb => Ah Ae rfl hb⟩) ?_
    refine Ac (by intro r0_ r1_; exact ⟨rfl, fun b w hH hb => B0 1 rfl (j := ss.length) (List.getElem?_eq_some_iff.1 hx).1 rfl rfl hH hb⟩) ?_
    refine Ac (by intro r0_ r1_; exact ⟨rfl, fun b w hH hb => GJ AT (by decide) (hH.vec 1 rfl AT) (j := ss.length) hx Bn rfl rfl hb⟩) ?_
    refine Ac (by intro r0_ r1_; exact ⟨rfl, fun b w hH hb => BD AT (by decide) (hH.vec 1 rfl AT) (j := ss.length) hx AO (off := 0) rfl rfl rfl hb⟩) ?_
    refine Ac (by exact ⟨rfl, Bm.su (Au (os' := fun _ => [cell p 87 #[.pointer (some ⟨dk, 0, none⟩), .int .i64 (lim : Int), sv], Ak 92 2 encSg sv svs, Bd svs, Ak 5 1 encB (.slice AF y.length cF) y, Ak 5 1 encB lv (B9 e), cell gx 34 #[.int .i64 e.k, .int .u64 e.t, .int .u64 e.i, .slice A e.d.length c, .int .i64 e.c], Ag dk d, Ao tb, X]) [7] 0 (Aj Tryz.func19 (by kernel_rfl) rfl) (DK tb (n := x.f) (by omega)) rfl rfl rfl (fun _ => rfl) rfl rfl rfl) rfl⟩) ?_
    refine Ac (by intro r0_ r1_; exact ⟨rfl, fun b w hH hb => Ah Ae rfl hb⟩) ?_
    refine Ac (by intro v0_; exact ⟨rfl, Bm.su (Au (os' := fun _ => [cell p 87 #[.pointer (some ⟨dk, 0, none⟩), .int .i64 (lim : Int), sv], Ak 92 2 encSg sv svs, Bd svs, Ak 5 1 encB (.slice AF y.length cF) y, Ak 5 1 encB lv (B9 e), cell gx 34 #[.int .i64 e.k, .int .u64 e.t, .int .u64 e.i, .slice A e.d.length c, .int .i64 e.c], Ag dk d', Ao tb, X]) [6, 3] 0 (Aj Tryz.func55 (by kernel_rfl) rfl) (JU hd hyl DI happ) rfl rfl rfl (fun _ => rfl) rfl rfl rfl) rfl⟩) ?_
    exact B7
  intro v0_ v1_
  refine BT.keep (env' := [(3, .pointer (some ⟨gx, 0, none⟩)), (4, .int .i64 0), (7, .slice AF y.length cF), (8, AV sv (ss.length * 2)), (54, .int .i64 0)]) ⟨rfl, rfl, rfl, rfl, rfl, trivial⟩ ?_
  refine Af Ae rfl ?_
  refine AD (AB (Ad ?_))
  refine Af Ae rfl ?_
  refine Aa rfl (.bool false) (fun b w hb hH => AZ rfl rfl rfl (Bu (by decide)) hb) ?_
  refine Ab (As rfl (Aw (AB ?_)))
  refine A7 2 rfl (F7 hx) (fun _ => rfl) ?_; rintro ⟨⟩
  refine An ?_
  refine Gh 1 rfl ?_
  refine BV 19 3 [⟨.quiet, [none, none, none], fun _ => AV sv (ss.length * 2), []⟩, ⟨.quiet, [none, none, none], fun _ => AV sv (ss.length * 2), []⟩, ⟨.quiet, [none, none, none], fun _ => AV sv (ss.length * 2), [1]⟩, ⟨.quiet, [none, none, none], fun _ => AV sv (ss.length * 2 + 1), [2]⟩, ⟨.quiet, [none, none, none], fun _ => .slice x.A x.l.length x.c, [3]⟩, ⟨.quiet, [none, none, none], fun _ => .pointer (some ⟨gx, 1, none⟩), []⟩, ⟨.quiet, [none, none, none], fun _ => .int .u64 e.t, [5]⟩, ⟨.quiet, [none, none, none], fun _ => AV sv (ss.length * 2), []⟩, ⟨.quiet, [none, none, none], fun _ => AV sv (ss.length * 2), [7]⟩, ⟨.quiet, [none, none, none], fun _ => .agg (encSg x).toArray, [8]⟩, ⟨.actv 0, [some false, some false, some false], fun _ => .int .i64 (m.2 : Int), [9]⟩, ⟨.quiet, [none, none, none], fun _ => .slice AF y.length cF, []⟩, ⟨.quiet, [none, none, none], fun _ => .int .i64 (y.length : Int), [11]⟩, ⟨.quiet, [some true, none, none], fun _ => .int .i64 ((m.2 + y.length : Nat) : Int), [10, 12]⟩, ⟨.quiet, [some true, none, none], fun _ => .agg #[.int .u64 e.t, .int .i64 ((m.2 + y.length : Nat) : Int)], [6, 13]⟩, ⟨.act 1, [some true, some false, some false], fun _ => undef, [14]⟩, ⟨.act 2, [some true, some true, some false], fun _ => undef, [4, 15]⟩, ⟨.quiet, [some true, some true, some true], fun _ => AV sv (ss.length * 2), [0]⟩, ⟨.quiet, [some true, some true, some true], fun _ => AV sv (ss.length * 2 + 1), [17]⟩] [(3, .pointer (some ⟨gx, 0, none⟩)), (4, .int .i64 0), (7, .slice AF y.length cF), (8, AV sv (ss.length * 2))] (fun ρ => match ρ with | [r0, r1, r2] => [DR r1 (fun u1 => Ak 104 2 encMk u1 ([(e.t, m.2 + y.length)])) (GE), Bb (fun x : SegV => Ak 104 2 encMk x.v x.l) (svs.take ss.length), DR r2 (fun mv2 => Ak 104 2 encMk mv2 (x.l ++ [(e.t, m.2 + y.length)])) (Ak 104 2 encMk (.slice x.A x.l.length x.c) x.l), Bb (fun x : SegV => Ak 104 2 encMk x.v x.l) (svs.drop (ss.length + 1)), cell p 87 #[.pointer (some ⟨dk, 0, none⟩), .int .i64 (lim : Int), sv], Ak 92 2 encSg sv svs, Ak 5 1 encB (.slice AF y.length cF) y, Ak 5 1 encB lv (B9 e), cell gx 34 #[.int .i64 e.k, .int .u64 e.t, .int .u64 e.i, .slice A e.d.length c, .int .i64 e.c], Ag dk d', Ao tb, X] | _ => []) (by kernel_rfl) (by kernel_rfl) ⟨rfl, rfl, rfl, rfl, trivial⟩ rfl ?_ ?_
  · skip
    refine Ac (by intro r0_ r1_ r2_; exact ⟨rfl, fun b w hH hb => Ah Ae rfl hb⟩) ?_
    refine Ac (by intro r0_ r1_ r2_; exact ⟨rfl, fun b w hH hb => Ah Ae rfl hb⟩) ?_
    refine Ac (by intro r0_ r1_ r2_; exact ⟨rfl, fun b w hH hb => B0 5 rfl (j := ss.length) (List.getElem?_eq_some_iff.1 hx).1 rfl rfl hH hb⟩) ?_
    refine Ac (by intro r0_ r1_ r2_; exact ⟨rfl, fun b w hH hb => GJ AT (by decide) (hH.vec 5 rfl AT) (j := ss.length) hx Bo rfl rfl hb⟩) ?_
    refine Ac (by intro r0_ r1_ r2_; exact ⟨rfl, fun b w hH hb => BD AT (by decide) (hH.vec 5 rfl AT) (j := ss.length) hx Bw (off := 1) rfl rfl rfl hb⟩) ?_
    refine Ac (by intro r0_ r1_ r2_; exact ⟨rfl, fun b w hH hb => Ah Ae rfl hb⟩) ?_
    refine Ac (by intro r0_ r1_ r2_; exact ⟨rfl, fun b w hH hb => AY rfl rfl (Bi AO rfl) (hH.row 8 rfl) hb⟩) ?_
    refine Ac (by intro r0_ r1_ r2_; exact ⟨rfl, fun b w hH hb => Ah Ae rfl hb⟩) ?_
    refine Ac (by intro r0_ r1_ r2_; exact ⟨rfl, fun b w hH hb => B0 5 rfl (j := ss.length) (List.getElem?_eq_some_iff.1 hx).1 rfl rfl hH hb⟩) ?_
    refine Ac (by intro r0_ r1_ r2_; exact ⟨rfl, fun b w hH hb => Dz AT (by decide) (hH.vec 5 rfl AT) (j := ss.length) hx B5 rfl rfl hb⟩) ?_
    refine Ac (by exact ⟨rfl, Bm.su (Bc (Aj Tryz.func93 (by kernel_rfl) rfl) (fun w hH => Lj w (hH.vec 2 rfl Fd) hm1 hl0 (by omega)) rfl rfl rfl) rfl⟩) ?_
    refine Ac (by intro r0_ r1_ r2_; exact ⟨rfl, fun b w hH hb => Ah Ae rfl hb⟩) ?_
    refine Ac (by intro r0_ r1_ r2_; exact ⟨rfl, fun b w hH hb => DL Bf rfl rfl hH hb⟩) ?_
    refine Ac (by intro v0_ r1_ r2_; exact ⟨rfl, fun b w hH hb => AH rfl rfl rfl rfl (by rw [IntWalk.i64_in _ (by omega)]; omega) hb⟩) ?_
    refine Ac (by intro v0_ r1_ r2_; exact ⟨rfl, fun b w hH hb => Bv rfl rfl (by kernel_rfl) hb⟩) ?_
    refine Ac (by intro v0_; exact ⟨rfl, Bm.s (Bm.place (val := fun u1 : Value => u1) (t := fun u1 => Ak 104 2 encMk u1 ([(e.t, m.2 + y.length)])) (os' := fun u1 => [Ak 104 2 encMk u1 ([(e.t, m.2 + y.length)]), Bb (fun x : SegV => Ak 104 2 encMk x.v x.l) (svs.take ss.length), Ak 104 2 encMk (.slice x.A x.l.length x.c) x.l, Bb (fun x : SegV => Ak 104 2 encMk x.v x.l) (svs.drop (ss.length + 1)), cell p 87 #[.pointer (some ⟨dk, 0, none⟩), .int .i64 (lim : Int), sv], Ak 92 2 encSg sv svs, Ak 5 1 encB (.slice AF y.length cF) y, Ak 5 1 encB lv (B9 e), cell gx 34 #[.int .i64 e.k, .int .u64 e.t, .int .u64 e.i, .slice A e.d.length c, .int .i64 e.c], Ag dk d', Ao tb, X]) 0 rfl (by refine Dl (e := 104) (t := 90) (k := 2) (enc := encMk) (x := .tmp 72) (c := .agg #[.int .u64 e.t, .int .i64 ((m.2 + y.length : Nat) : Int)]) ?_ ?_ ?_ (e.t, m.2 + y.length) ?_ ?_ ?_; exact Cl; exact (by decide); exact Fd; exact rfl; exact rfl; exact rfl) (fun _ => rfl)) (fun _ => rfl)⟩) ?_
    refine Ac (by intro v0_ u1; exact ⟨rfl, Bm.s (Do (nb := 16) 2 Cl Fd (by kernel_rfl) (by decide) rfl ([(e.t, m.2 + y.length)]) (fun w hH => hH.vec 0 rfl Fd) (by simp only [List.length_cons, List.length_nil]; omega) rfl rfl rfl rfl) (fun _ => rfl)⟩) ?_
    refine Ac (by intro v0_ u1 mv2; exact ⟨rfl, fun b w hH hb => B0 5 rfl (j := ss.length) (List.getElem?_eq_some_iff.1 hx).1 rfl rfl hH hb⟩) ?_
    refine Ac (by intro v0_ u1 mv2; exact ⟨rfl, fun b w hH hb => GJ AT (by decide) (hH.vec 5 rfl AT) (j := ss.length) hx Bo rfl rfl hb⟩) ?_
    exact B7
  intro v0_ u1 mv2
  refine BT.keep (env' := [(4, .int .i64 0), (74, mv2), (76, AV sv (ss.length * 2 + 1))]) ⟨rfl, rfl, rfl, trivial⟩ ?_
  refine BT.fact 2 rfl (fun _ h => Ak.is h) ?_; rintro ⟨A2, c2, rfl⟩
  refine BT.keep (env' := [(4, .int .i64 0), (74, .slice A2 (x.l ++ [(e.t, m.2 + y.length)]).length c2), (76, AV sv (ss.length * 2 + 1))]) ⟨rfl, rfl, rfl, trivial⟩ ?_
  refine BT.mid [Ak 104 2 encMk u1 ([(e.t, m.2 + y.length)]), Bb (fun x : SegV => Ak 104 2 encMk x.v x.l) (svs.take ss.length), Ak 104 2 encMk (.slice A2 (x.l ++ [(e.t, m.2 + y.length)]).length c2) (x.l ++ [(e.t, m.2 + y.length)]), Bb (fun x : SegV => Ak 104 2 encMk x.v x.l) (svs.drop (ss.length + 1)), cell p 87 #[.pointer (some ⟨dk, 0, none⟩), .int .i64 (lim : Int), sv], Ak 92 2 encSg sv svs, Ak 5 1 encB (.slice AF y.length cF) y, Ak 5 1 encB lv (B9 e), cell gx 34 #[.int .i64 e.k, .int .u64 e.t, .int .u64 e.i, .slice A e.d.length c, .int .i64 e.c], Ag dk d', Ao tb, X] (.refl _) ?_
  refine Af Ae rfl ?_
  refine AL (post := fun _ => [Ak 104 2 encMk u1 ([(e.t, m.2 + y.length)]), Bb (fun x : SegV => Ak 104 2 encMk x.v x.l) (svs.take ss.length), Ak 104 2 encMk (.slice A2 (x.l ++ [(e.t, m.2 + y.length)]).length c2) (x.l ++ [(e.t, m.2 + y.length)]), Bb (fun x : SegV => Ak 104 2 encMk x.v x.l) (svs.drop (ss.length + 1)), cell p 87 #[.pointer (some ⟨dk, 0, none⟩), .int .i64 (lim : Int), sv], Ak 92 2 encSg sv (svs.set ss.length (⟨x.f, x.l ++ [(e.t, m.2 + y.length)], A2, c2⟩ : SegV)), Ak 5 1 encB (.slice AF y.length cF) y, Ak 5 1 encB lv (B9 e), cell gx 34 #[.int .i64 e.k, .int .u64 e.t, .int .u64 e.i, .slice A e.d.length c, .int .i64 e.c], Ag dk d', Ao tb, X]) rfl rfl (IV 5 AT rfl ss.length (a := x) (b := (⟨x.f, x.l ++ [(e.t, m.2 + y.length)], A2, c2⟩ : SegV)) hx Bw.2 rfl rfl (by decide) rfl rfl rfl rfl rfl) ?_; rintro ⟨⟩
  refine AD (AB ?_)
  refine Bg [1, 2, 3] rfl (I7 (y := (⟨x.f, x.l ++ [(e.t, m.2 + y.length)], A2, c2⟩ : SegV)) hjl) rfl ?_
  refine AN.keep (env' := [(4, .int .i64 0), (74, .slice A2 (x.l ++ [(e.t, m.2 + y.length)]).length c2), (76, AV sv (ss.length * 2 + 1))]) ⟨rfl, rfl, rfl, trivial⟩ ?_
  refine AN.mid [Bd (svs.set ss.length (⟨x.f, x.l ++ [(e.t, m.2 + y.length)], A2, c2⟩ : SegV)), Ak 104 2 encMk u1 ([(e.t, m.2 + y.length)]), cell p 87 #[.pointer (some ⟨dk, 0, none⟩), .int .i64 (lim : Int), sv], Ak 92 2 encSg sv (svs.set ss.length (⟨x.f, x.l ++ [(e.t, m.2 + y.length)], A2, c2⟩ : SegV)), Ak 5 1 encB (.slice AF y.length cF) y, Ak 5 1 encB lv (B9 e), cell gx 34 #[.int .i64 e.k, .int .u64 e.t, .int .u64 e.i, .slice A e.d.length c, .int .i64 e.c], Ag dk d', Ao tb, X] (.refl _) ?_
  refine Ad ?_
  refine Af Ae rfl ?_
  refine Ab (Az ?_)
  exact Ay (.tmp rfl) (fun w h => AC () rfl [2, 3, 0, 7, 8, 9] rfl h (fun z hz => Db (QU (y := (⟨x.f, x.l ++ [(e.t, m.2 + y.length)], A2, c2⟩ : SegV)) hm) z hz)) rfl
end Go.Proofs.YtnknboibmifacaaGreatDoor.Sep
