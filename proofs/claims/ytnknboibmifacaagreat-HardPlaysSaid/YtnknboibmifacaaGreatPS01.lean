/-
  HdW
-/
import Derived.Test.YtnknboibmifacaaGreatPQ01
import Derived.Test.YtnknboibmifacaaGreatPQ02
import Derived.Test.YtnknboibmifacaaGreatPR01
set_option linter.unusedSimpArgs false
set_option linter.unusedVariables false
namespace Go.Proofs.YtnknboibmifacaaGreat.Sep
open Go.RowKit
open Go.Proofs.YtnknboibmifacaaGreat.Mem (Bl Co Chg AG)
set_option maxRecDepth 100000 in
theorem hardplays_true (w : World) (v0 : Value) (l0 : List StH) (hv0 : Dx w 7 v0 l0.length (flat encSt l0)) (hl0 : l0.length ≤ 9223372036854775807) (ho0 : ∀ y ∈ l0, y.ok) : Calls Tryz.prog 3 #[v0] w fun e w' => e = .returned (.bool true) ∧ Below w.heap.size w w' := by
  refine Fy (args := [v0]) 103 Tryz.func3 rfl rfl rfl ?_
  refine Ad ?_
  refine Ae Ai rfl ?_
  refine Aa ?_
  refine F2 (t := D1) (rfl) ?_
  refine F2 (t := D1) (rfl) ?_
  refine Ad ?_
  refine Ae Ai rfl ?_
  refine Aj rfl (Al  [1, 0] 0 (Ah Tryz.func5 (by kernel_rfl) rfl) (R1 (X := D1) (Y := D1) (L := []) (by decide) T3 (by decide) (fun y h => nomatch h)) rfl rfl rfl (fun _ => rfl) rfl rfl rfl) ?_; rintro ⟨p, q⟩
  refine Ae Ai rfl ?_
  refine Aa (Aq (Ad ?_))
  refine Ae Ai rfl ?_
  refine Aj (post := fun _ => [Ao p (Hi 1048576 []), Au q (Hi 1048576 []), D1, D1]) rfl (By (Ah Tryz.func6 (by kernel_rfl) rfl) (fun w hH => Og w) rfl rfl rfl) ?_; rintro ⟨⟩
  refine Ae Ai rfl ?_
  refine Aa (Ar rfl (Ax (AE (Aq (Ad ?_)))))
  refine Ae Ai rfl ?_
  refine Aa (Bb ?_)
  refine Bv.leave [3, 2] rfl rfl ?_
  rw [show Hi 1048576 [] = GW 1048576 from rfl]
  refine CO (α := Nat × DiskD) (fun ⟨i, d⟩ => [(0, v0), (2, .bool false), (3, .pointer (some ⟨p, 0, none⟩)), (4, .pointer (some ⟨q, 0, none⟩)), (6, .int .i64 ((i : Nat) : Int))]) (fun ⟨i, d⟩ => [Ao p d, Au q d]) (fun ⟨i, d⟩ => i ≤ l0.length ∧ i ≤ 120 ∧ PlayOk (100 * i) (3 * i) d) (fun ⟨i, d⟩ => l0.length - i) (0, GW 1048576) ⟨Nat.zero_le _, Nat.zero_le _, ⟨by decide, Nat.le_refl _, Nat.le_refl _⟩⟩ ⟨rfl, rfl, rfl, rfl, rfl, trivial⟩ rfl ?_
  rintro ⟨i, d⟩ hI
  refine Bv.at_ (env' := [(0, v0), (2, .bool false), (3, .pointer (some ⟨p, 0, none⟩)), (4, .pointer (some ⟨q, 0, none⟩)), (6, .int .i64 ((i : Nat) : Int))]) (rs' := [Ao p d, Au q d]) ⟨rfl, rfl, rfl, rfl, rfl, trivial⟩ rfl ?_
  obtain ⟨hI1, hI2, hK⟩ := hI
  refine Aq ?_
  have hc : (i < l0.length ∧ i < 120) ∨ (i < l0.length ∧ 120 ≤ i) ∨ l0.length ≤ i := by omega
  rcases hc with ⟨h1, h2⟩ | ⟨h1, h2⟩ | h1
  · skip
    obtain ⟨y, hil⟩ : ∃ y, l0[i]? = some y := ⟨_, List.getElem?_eq_getElem h1⟩
    have hy := ho0 y (List.mem_of_getElem? hil)
    obtain ⟨d1, hd1⟩ : ∃ d1, Gc d y.h = d1 := ⟨_, rfl⟩
    obtain ⟨m, hm⟩ : ∃ m, y.what % 9 = m := ⟨_, rfl⟩
    refine Bv.fact 1 rfl T2 ?_; rintro ⟨hnd, hok⟩
    have hK1 : PlayOk (100 * i) (3 * i) d1 := by rw [← hd1]; exact hK.harm y.h hnd hok
    refine Ad ?_
    refine Ae Ai rfl ?_
    refine Ab rfl (.int .i64 (l0.length : Int)) (fun b w hb hH => AT (EH hv0 hH) Tryz.underlying22 rfl rfl hb) ?_
    refine Ab rfl (.bool true) (fun b w hb hH => AV rfl rfl rfl (A7 (by omega)) hb) ?_
    refine Ae Ai rfl ?_
    refine Ab rfl (.bool true) (fun b w hb hH => AV rfl rfl rfl (A7 (by omega)) hb) ?_
    refine Ae Ai rfl ?_
    refine Aa (AC rfl (Ax (AE (Aq (Bb (Ad ?_))))))
    refine Ae Ai rfl ?_
    refine Ab rfl (BP v0 (i * 7)) (fun b w hb hH => BF LA (EH hv0 hH) CF (j := i) hil rfl rfl rfl hb) ?_
    refine Ab rfl (BP v0 (i * 7 + 4)) (fun b w hb hH => IS LA (by decide) (EH hv0 hH) (j := i) hil CV rfl rfl hb) ?_
    refine Ab rfl (.agg #[.int .i64 y.h.w, .int .i64 y.h.a, .int .i64 y.h.b]) (fun b w hb hH => VX LA (by decide) (EH hv0 hH) (j := i) hil Ft (off := 4) (cs := [.int .i64 y.h.w, .int .i64 y.h.a, .int .i64 y.h.b]) rfl rfl rfl rfl hb) ?_
    refine Aj rfl (Al (os' := fun _ => [Ao p d1, Au q d1]) [0, 1] 0 (Ah Tryz.func7 (by kernel_rfl) rfl) ((hd1 ▸ PO (p := p) (q := q) (hK.fitK (k := 9) (by omega) (by omega)).fit hy.h)) rfl rfl rfl (fun _ => rfl) rfl rfl rfl) ?_; rintro ⟨⟩
    refine Aa (Ad ?_)
    refine Ae Ai rfl ?_
    refine Aa (Aq ?_)
    refine Bv.fact 1 rfl T2 ?_; rintro ⟨hnd1, hok1⟩
    refine Ad ?_
    refine Ae Ai rfl ?_
    refine Ab rfl (BP v0 (i * 7)) (fun b w hb hH => BF LA (EH hv0 hH) CF (j := i) hil rfl rfl rfl hb) ?_
    refine Ab rfl (BP v0 (i * 7 + 0)) (fun b w hb hH => IS LA (by decide) (EH hv0 hH) (j := i) hil CW rfl rfl hb) ?_
    refine Ab rfl (.int .i64 y.what) (fun b w hb hH => Bm LA (by decide) (EH hv0 hH) (j := i) hil AR (off := 0) rfl rfl rfl hb) ?_
    refine Aj (post := fun _ => [Ao p d1, Au q d1]) rfl (By (Ah Tryz.func8 (by kernel_rfl) rfl) (fun w hH => pick w y.what 9 hy.w (by decide) hm) rfl rfl rfl) ?_; rintro ⟨⟩
    refine Aa (Bb ?_)
    rcases Classical.em (m = 6) with h6 | h6
    rotate_left
    rcases Classical.em (m = 7) with h7 | h7
    rotate_left
    rcases Classical.em (m = 8) with h8 | h8
    rotate_left
    rcases T4 y hy with ⟨z, hzk, hzv⟩ | hbad
    · skip
      obtain ⟨⟨d2, e2⟩, hsv⟩ : ∃ R, Et d1 z = R := ⟨_, rfl⟩
      have hKE : PlayOk (100 * (i + 1)) (3 * (i + 1)) d2 := by have h9 := hK1.save hzk; rw [hsv] at h9; exact h9.mono (by omega) (by omega)
      have hsh : ∀ w, Calls Tryz.prog 13 #[.agg #[.int .i64 y.what, .int .u64 y.y.1, .int .i64 y.y.2, .bool y.near, .int .i64 y.h.w, .int .i64 y.h.a, .int .i64 y.h.b]] w fun e w' => e = .returned (.agg #[.int .u64 ((z.1 : Nat) : Int), .int .i64 ((z.2 : Nat) : Int)]) ∧ Below w.heap.size w w' := fun w => by have h9 := QQ w y hy.y; rw [hzv] at h9; exact h9
      have hfE := (hKE.fitK (k := 9) (by omega) (by omega)).fit
      refine Ad ?_
      refine Ae Ai rfl ?_
      refine Ab rfl (.bool false) (fun b w hb hH => AV rfl rfl rfl (Ge (by omega)) hb) ?_
      refine Ae Ai rfl ?_
      refine Aa (Ar rfl (Aq (Ad ?_)))
      refine Ae Ai rfl ?_
      refine Ab rfl (.bool false) (fun b w hb hH => AV rfl rfl rfl (Ge (by omega)) hb) ?_
      refine Ae Ai rfl ?_
      refine Aa (Ar rfl (Br ?_))
      refine Ae Ai rfl ?_
      refine Ab rfl (.bool false) (fun b w hb hH => AV rfl rfl rfl (Ge (by omega)) hb) ?_
      refine Ae Ai rfl ?_
      refine AP (AE (Ar rfl (Ad ?_)))
      refine Ae Ai rfl ?_
      refine Ab rfl (BP v0 (i * 7)) (fun b w hb hH => BF LA (EH hv0 hH) CF (j := i) hil rfl rfl rfl hb) ?_
      refine Ab rfl (.agg (encSt y).toArray) (fun b w hb hH => Ih LA (by decide) (EH hv0 hH) (j := i) hil DT rfl rfl hb) ?_
      refine Aj (post := fun _ => [Ao p d1, Au q d1]) rfl (By (Ah Tryz.func13 (by kernel_rfl) rfl) (fun w hH => hsh w) rfl rfl rfl) ?_; rintro ⟨⟩
      refine Aj (post := fun g12 => [cell g12 31 #[.int .u64 0, .int .i64 0], Ao p d1, Au q d1]) rfl (BS Bq rfl) ?_; rintro g12
      refine AH (post := fun _ => [cell g12 31 #[.int .u64 ((z.1 : Nat) : Int), .int .i64 ((z.2 : Nat) : Int)], Ao p d1, Au q d1]) rfl rfl (AD 0 (v := .agg #[.int .u64 ((z.1 : Nat) : Int), .int .i64 ((z.2 : Nat) : Int)]) #[.int .u64 ((z.1 : Nat) : Int), .int .i64 ((z.2 : Nat) : Int)] Am.2 rfl rfl rfl rfl rfl rfl rfl rfl rfl) ?_; rintro ⟨⟩
      refine Aa ?_
      refine BO 14 4 [⟨.quiet, [none, none, none, none], fun _ => .agg #[.int .u64 ((z.1 : Nat) : Int), .int .i64 ((z.2 : Nat) : Int)], []⟩, ⟨.actv 0, [some false, some false, some false, some false], fun _ => .bool true, [0]⟩, ⟨.quiet, [none, none, none, none], fun _ => .agg #[.int .u64 ((z.1 : Nat) : Int), .int .i64 ((z.2 : Nat) : Int)], []⟩, ⟨.actv 1, [some true, some false, some false, some false], fun _ => .bool true, [2]⟩, ⟨.quiet, [some true, some true, none, none], fun _ => .bool true, [1, 3]⟩, ⟨.quiet, [some true, some true, none, none], fun _ => .bool true, [4]⟩, ⟨.quiet, [some true, some true, none, none], fun _ => .pointer (some ⟨p, 0, none⟩), [5]⟩, ⟨.quiet, [some true, some true, none, none], fun _ => .agg #[.int .u64 ((z.1 : Nat) : Int), .int .i64 ((z.2 : Nat) : Int)], [5]⟩, ⟨.actv 2, [some true, some true, some false, some false], fun _ => .int .i64 (e2 : Int), [6, 7, 5]⟩, ⟨.quiet, [some true, some true, none, none], fun _ => .pointer (some ⟨q, 0, none⟩), [5]⟩, ⟨.quiet, [some true, some true, none, none], fun _ => .agg #[.int .u64 ((z.1 : Nat) : Int), .int .i64 ((z.2 : Nat) : Int)], [5]⟩, ⟨.actv 3, [some true, some true, some true, some false], fun _ => .int .i64 (e2 : Int), [9, 10, 5]⟩, ⟨.quiet, [some true, some true, some true, some true], fun _ => .bool true, [8, 11, 5]⟩, ⟨.quiet, [some true, some true, some true, some true], fun _ => .bool true, [5, 12]⟩] [(0, v0), (2, .bool false), (3, .pointer (some ⟨p, 0, none⟩)), (4, .pointer (some ⟨q, 0, none⟩)), (6, .int .i64 ((i : Nat) : Int)), (24, .int .i64 ((i : Nat) : Int)), (25, v0), (26, .int .i64 (l0.length : Int)), (27, .bool true), (28, .bool true), (29, .int .i64 ((i : Nat) : Int)), (30, .bool true), (31, .bool true), (34, .pointer (some ⟨p, 0, none⟩)), (35, .pointer (some ⟨q, 0, none⟩)), (36, v0), (37, .int .i64 ((i : Nat) : Int)), (38, BP v0 (i * 7)), (39, BP v0 (i * 7 + 4)), (40, .agg #[.int .i64 y.h.w, .int .i64 y.h.a, .int .i64 y.h.b]), (7, .bool true), (42, v0), (43, .int .i64 ((i : Nat) : Int)), (44, BP v0 (i * 7)), (45, BP v0 (i * 7 + 0)), (46, .int .i64 y.what), (47, .int .i64 m), (68, .bool false), (67, .bool false), (75, .bool false), (76, .bool false), (74, .bool false), (48, v0), (49, .int .i64 ((i : Nat) : Int)), (50, BP v0 (i * 7)), (51, .agg (encSt y).toArray), (52, .agg #[.int .u64 ((z.1 : Nat) : Int), .int .i64 ((z.2 : Nat) : Int)]), (12, .pointer (some ⟨g12, 0, none⟩))] (fun ρ => match ρ with | [r0, r1, r2, r3] => [cell g12 31 #[.int .u64 ((z.1 : Nat) : Int), .int .i64 ((z.2 : Nat) : Int)], CD r2 (fun _ => Ao p d2) (Ao p d1), CD r3 (fun _ => Au q d2) (Au q d1)] | _ => []) (by kernel_rfl) (by kernel_rfl) ⟨rfl, rfl, rfl, rfl, rfl, rfl, rfl, rfl, rfl, rfl, rfl, rfl, rfl, rfl, rfl, rfl, rfl, rfl, rfl, rfl, rfl, rfl, rfl, rfl, rfl, rfl, rfl, rfl, rfl, rfl, rfl, rfl, rfl, rfl, rfl, rfl, rfl, rfl, trivial⟩ rfl ?_ ?_
      · skip
        refine Ac (by intro r0_ r1_ r2_ r3_; exact ⟨rfl, fun b w hH hb => A6 rfl rfl (D3 (cs := [.int .u64 ((z.1 : Nat) : Int), .int .i64 ((z.2 : Nat) : Int)]) Am rfl) (hH.row 0 rfl) hb⟩) ?_
        refine Ac (by exact ⟨rfl, Bp.su (By (Ah Tryz.func14 (by kernel_rfl) rfl) (fun w hH => Me w hzk) rfl rfl rfl) rfl⟩) ?_
        refine Ac (by intro r0_ r1_ r2_ r3_; exact ⟨rfl, fun b w hH hb => A6 rfl rfl (D3 (cs := [.int .u64 ((z.1 : Nat) : Int), .int .i64 ((z.2 : Nat) : Int)]) Am rfl) (hH.row 0 rfl) hb⟩) ?_
        refine Ac (by intro v0_; exact ⟨rfl, Bp.su (By (Ah Tryz.func15 (by kernel_rfl) rfl) (fun w hH => M3 w _ _ true (by have := hzk.1; have := hzk.2; simp; omega)) rfl rfl rfl) rfl⟩) ?_
        refine Ac (by intro v0_ v1_ r2_ r3_; exact ⟨rfl, fun b w hH hb => FV (Wz true true) rfl rfl rfl hb⟩) ?_
        refine Ac (by intro v0_ v1_ r2_ r3_; exact ⟨rfl, fun b w hH hb => Af Ai rfl hb⟩) ?_
        refine Ac (by intro v0_ v1_ r2_ r3_; exact ⟨rfl, fun b w hH hb => Af Ai rfl hb⟩) ?_
        refine Ac (by intro v0_ v1_ r2_ r3_; exact ⟨rfl, fun b w hH hb => A6 rfl rfl (D3 (cs := [.int .u64 ((z.1 : Nat) : Int), .int .i64 ((z.2 : Nat) : Int)]) Am rfl) (hH.row 0 rfl) hb⟩) ?_
        refine Ac (by intro v0_ v1_; exact ⟨rfl, Bp.su (Al (os' := fun _ => [cell g12 31 #[.int .u64 ((z.1 : Nat) : Int), .int .i64 ((z.2 : Nat) : Int)], Ao p d2, Au q d1]) [1] 0 (Ah Tryz.func16 (by kernel_rfl) rfl) (Iw hzk (CB (hK1.fitK (k := 9) (by omega) (by omega)) (by decide)) hsv) rfl rfl rfl (fun _ => rfl) rfl rfl rfl) rfl⟩) ?_
        refine Ac (by intro v0_ v1_ r2_ r3_; exact ⟨rfl, fun b w hH hb => Af Ai rfl hb⟩) ?_
        refine Ac (by intro v0_ v1_ r2_ r3_; exact ⟨rfl, fun b w hH hb => A6 rfl rfl (D3 (cs := [.int .u64 ((z.1 : Nat) : Int), .int .i64 ((z.2 : Nat) : Int)]) Am rfl) (hH.row 0 rfl) hb⟩) ?_
        refine Ac (by intro v0_ v1_ v2_; exact ⟨rfl, Bp.su (Al (os' := fun _ => [cell g12 31 #[.int .u64 ((z.1 : Nat) : Int), .int .i64 ((z.2 : Nat) : Int)], Ao p d2, Au q d2]) [2] 0 (Ah Tryz.func17 (by kernel_rfl) rfl) (PR hzk (CB (hK1.fitK (k := 9) (by omega) (by omega)) (by decide)) hK1.rm hsv) rfl rfl rfl (fun _ => rfl) rfl rfl rfl) rfl⟩) ?_
        refine Ac (by intro v0_ v1_ v2_ v3_; exact ⟨rfl, fun b w hH hb => AV rfl rfl rfl (H7 rfl) hb⟩) ?_
        refine Ac (by intro v0_ v1_ v2_ v3_; exact ⟨rfl, fun b w hH hb => Af Ai rfl hb⟩) ?_
        exact B2
      intro v0_ v1_ v2_ v3_
      refine Cg.keep (env' := [(0, v0), (2, .bool false), (3, .pointer (some ⟨p, 0, none⟩)), (4, .pointer (some ⟨q, 0, none⟩)), (6, .int .i64 ((i : Nat) : Int)), (24, .int .i64 ((i : Nat) : Int)), (25, v0), (26, .int .i64 (l0.length : Int)), (27, .bool true), (28, .bool true), (29, .int .i64 ((i : Nat) : Int)), (30, .bool true), (31, .bool true), (34, .pointer (some ⟨p, 0, none⟩)), (35, .pointer (some ⟨q, 0, none⟩)), (36, v0), (37, .int .i64 ((i : Nat) : Int)), (38, BP v0 (i * 7)), (39, BP v0 (i * 7 + 4)), (40, .agg #[.int .i64 y.h.w, .int .i64 y.h.a, .int .i64 y.h.b]), (7, .bool true), (42, v0), (43, .int .i64 ((i : Nat) : Int)), (44, BP v0 (i * 7)), (45, BP v0 (i * 7 + 0)), (46, .int .i64 y.what), (47, .int .i64 m), (68, .bool false), (67, .bool false), (75, .bool false), (76, .bool false), (74, .bool false), (48, v0), (49, .int .i64 ((i : Nat) : Int)), (50, BP v0 (i * 7)), (51, .agg (encSt y).toArray), (52, .agg #[.int .u64 ((z.1 : Nat) : Int), .int .i64 ((z.2 : Nat) : Int)]), (12, .pointer (some ⟨g12, 0, none⟩)), (53, .agg #[.int .u64 ((z.1 : Nat) : Int), .int .i64 ((z.2 : Nat) : Int)]), (54, .bool true), (55, .agg #[.int .u64 ((z.1 : Nat) : Int), .int .i64 ((z.2 : Nat) : Int)]), (56, .bool true), (57, .bool true), (58, .bool true), (59, .pointer (some ⟨p, 0, none⟩)), (60, .agg #[.int .u64 ((z.1 : Nat) : Int), .int .i64 ((z.2 : Nat) : Int)]), (61, .int .i64 (e2 : Int)), (62, .pointer (some ⟨q, 0, none⟩)), (63, .agg #[.int .u64 ((z.1 : Nat) : Int), .int .i64 ((z.2 : Nat) : Int)]), (64, .int .i64 (e2 : Int)), (65, .bool true), (66, .bool true)]) ⟨rfl, rfl, rfl, rfl, rfl, rfl, rfl, rfl, rfl, rfl, rfl, rfl, rfl, rfl, rfl, rfl, rfl, rfl, rfl, rfl, rfl, rfl, rfl, rfl, rfl, rfl, rfl, rfl, rfl, rfl, rfl, rfl, rfl, rfl, rfl, rfl, rfl, rfl, rfl, rfl, rfl, rfl, rfl, rfl, rfl, rfl, rfl, rfl, rfl, rfl, rfl, rfl, trivial⟩ ?_
      refine Ae Ai rfl ?_
      refine AP (Bt (AE (Ad ?_)))
      refine Ae Ai rfl ?_
      refine Aj rfl (Al (os' := fun _ => [cell g12 31 #[.int .u64 ((z.1 : Nat) : Int), .int .i64 ((z.2 : Nat) : Int)], Ao p d2, Au q d2]) [1, 2] 0 (Ah Tryz.func18 (by kernel_rfl) rfl) (Gd hfE) rfl rfl rfl (fun _ => rfl) rfl rfl rfl) ?_; rintro ⟨⟩
      refine Ae Ai rfl ?_
      refine Aa (Ar rfl (Ax (Bt (AE (Br ?_)))))
      refine Ae Ai rfl ?_
      refine Ab rfl (.int .i64 ((i + 1 : Nat) : Int)) (fun b w hb hH => AN rfl rfl rfl rfl (by rw [IntWalk.i64_in _ (by omega)]; omega) hb) ?_
      refine Ae Ai rfl ?_
      refine AP ?_
      exact Cc (i + 1, d2) 1 ⟨h1, h2, hKE⟩ (show l0.length - (i + 1) < l0.length - i by omega) ⟨rfl, rfl, rfl, rfl, rfl, trivial⟩ rfl
    · skip
      have hKE : PlayOk (100 * (i + 1)) (3 * (i + 1)) d1 := hK1.mono (by omega) (by omega)
      have hfE := (hKE.fitK (k := 9) (by omega) (by omega)).fit
      refine Ad ?_
      refine Ae Ai rfl ?_
      refine Ab rfl (.bool false) (fun b w hb hH => AV rfl rfl rfl (Ge (by omega)) hb) ?_
      refine Ae Ai rfl ?_
      refine Aa (Ar rfl (Aq (Ad ?_)))
      refine Ae Ai rfl ?_
      refine Ab rfl (.bool false) (fun b w hb hH => AV rfl rfl rfl (Ge (by omega)) hb) ?_
      refine Ae Ai rfl ?_
      refine Aa (Ar rfl (Br ?_))
      refine Ae Ai rfl ?_
      refine Ab rfl (.bool false) (fun b w hb hH => AV rfl rfl rfl (Ge (by omega)) hb) ?_
      refine Ae Ai rfl ?_
      refine AP (AE (Ar rfl (Ad ?_)))
      refine Ae Ai rfl ?_
      refine Ab rfl (BP v0 (i * 7)) (fun b w hb hH => BF LA (EH hv0 hH) CF (j := i) hil rfl rfl rfl hb) ?_
      refine Ab rfl (.agg (encSt y).toArray) (fun b w hb hH => Ih LA (by decide) (EH hv0 hH) (j := i) hil DT rfl rfl hb) ?_
      refine Aj (post := fun _ => [Ao p d1, Au q d1]) rfl (By (Ah Tryz.func13 (by kernel_rfl) rfl) (fun w hH => QQ w y hy.y) rfl rfl rfl) ?_; rintro ⟨⟩
      refine Aj (post := fun g12 => [cell g12 31 #[.int .u64 0, .int .i64 0], Ao p d1, Au q d1]) rfl (BS Bq rfl) ?_; rintro g12
      refine AH (post := fun _ => [cell g12 31 #[.int .u64 ((ER y).1), .int .i64 ((ER y).2)], Ao p d1, Au q d1]) rfl rfl (AD 0 (v := .agg #[.int .u64 ((ER y).1), .int .i64 ((ER y).2)]) #[.int .u64 ((ER y).1), .int .i64 ((ER y).2)] Am.2 rfl rfl rfl rfl rfl rfl rfl rfl rfl) ?_; rintro ⟨⟩
      refine Aa ?_
      refine BO 14 4 [⟨.quiet, [none, none, none, none], fun _ => .agg #[.int .u64 ((ER y).1), .int .i64 ((ER y).2)], []⟩, ⟨.actv 0, [some false, some false, some false, some false], fun _ => .bool false, [0]⟩, ⟨.quiet, [none, none, none, none], fun _ => .agg #[.int .u64 ((ER y).1), .int .i64 ((ER y).2)], []⟩, ⟨.actv 1, [some true, some false, some false, some false], fun _ => .bool false, [2]⟩, ⟨.quiet, [some true, some true, none, none], fun _ => .bool true, [1, 3]⟩, ⟨.quiet, [some true, some true, none, none], fun _ => .bool true, [4]⟩, ⟨.quiet, [some true, some true, none, none], fun _ => .pointer (some ⟨p, 0, none⟩), [5]⟩, ⟨.quiet, [some true, some true, none, none], fun _ => .agg #[.int .u64 ((ER y).1), .int .i64 ((ER y).2)], [5]⟩, ⟨.actv 2, [some true, some true, some false, some false], fun _ => .int .i64 1, [6, 7, 5]⟩, ⟨.quiet, [some true, some true, none, none], fun _ => .pointer (some ⟨q, 0, none⟩), [5]⟩, ⟨.quiet, [some true, some true, none, none], fun _ => .agg #[.int .u64 ((ER y).1), .int .i64 ((ER y).2)], [5]⟩, ⟨.actv 3, [some true, some true, some true, some false], fun _ => .int .i64 1, [9, 10, 5]⟩, ⟨.quiet, [some true, some true, some true, some true], fun _ => .bool true, [8, 11, 5]⟩, ⟨.quiet, [some true, some true, some true, some true], fun _ => .bool true, [5, 12]⟩] [(0, v0), (2, .bool false), (3, .pointer (some ⟨p, 0, none⟩)), (4, .pointer (some ⟨q, 0, none⟩)), (6, .int .i64 ((i : Nat) : Int)), (24, .int .i64 ((i : Nat) : Int)), (25, v0), (26, .int .i64 (l0.length : Int)), (27, .bool true), (28, .bool true), (29, .int .i64 ((i : Nat) : Int)), (30, .bool true), (31, .bool true), (34, .pointer (some ⟨p, 0, none⟩)), (35, .pointer (some ⟨q, 0, none⟩)), (36, v0), (37, .int .i64 ((i : Nat) : Int)), (38, BP v0 (i * 7)), (39, BP v0 (i * 7 + 4)), (40, .agg #[.int .i64 y.h.w, .int .i64 y.h.a, .int .i64 y.h.b]), (7, .bool true), (42, v0), (43, .int .i64 ((i : Nat) : Int)), (44, BP v0 (i * 7)), (45, BP v0 (i * 7 + 0)), (46, .int .i64 y.what), (47, .int .i64 m), (68, .bool false), (67, .bool false), (75, .bool false), (76, .bool false), (74, .bool false), (48, v0), (49, .int .i64 ((i : Nat) : Int)), (50, BP v0 (i * 7)), (51, .agg (encSt y).toArray), (52, .agg #[.int .u64 ((ER y).1), .int .i64 ((ER y).2)]), (12, .pointer (some ⟨g12, 0, none⟩))] (fun ρ => match ρ with | [r0, r1, r2, r3] => [cell g12 31 #[.int .u64 ((ER y).1), .int .i64 ((ER y).2)], Ao p d1, Au q d1] | _ => []) (by kernel_rfl) (by kernel_rfl) ⟨rfl, rfl, rfl, rfl, rfl, rfl, rfl, rfl, rfl, rfl, rfl, rfl, rfl, rfl, rfl, rfl, rfl, rfl, rfl, rfl, rfl, rfl, rfl, rfl, rfl, rfl, rfl, rfl, rfl, rfl, rfl, rfl, rfl, rfl, rfl, rfl, rfl, rfl, trivial⟩ rfl ?_ ?_
      · skip
        refine Ac (by intro r0_ r1_ r2_ r3_; exact ⟨rfl, fun b w hH hb => A6 rfl rfl (D3 (cs := [.int .u64 ((ER y).1), .int .i64 ((ER y).2)]) Am rfl) (hH.row 0 rfl) hb⟩) ?_
        refine Ac (by exact ⟨rfl, Bp.su (By (Ah Tryz.func14 (by kernel_rfl) rfl) (fun w hH => PE w _ _ false hbad) rfl rfl rfl) rfl⟩) ?_
        refine Ac (by intro r0_ r1_ r2_ r3_; exact ⟨rfl, fun b w hH hb => A6 rfl rfl (D3 (cs := [.int .u64 ((ER y).1), .int .i64 ((ER y).2)]) Am rfl) (hH.row 0 rfl) hb⟩) ?_
        refine Ac (by intro v0_; exact ⟨rfl, Bp.su (By (Ah Tryz.func15 (by kernel_rfl) rfl) (fun w hH => M3 w _ _ false hbad) rfl rfl rfl) rfl⟩) ?_
        refine Ac (by intro v0_ v1_ r2_ r3_; exact ⟨rfl, fun b w hH hb => FV (Wz false false) rfl rfl rfl hb⟩) ?_
        refine Ac (by intro v0_ v1_ r2_ r3_; exact ⟨rfl, fun b w hH hb => Af Ai rfl hb⟩) ?_
        refine Ac (by intro v0_ v1_ r2_ r3_; exact ⟨rfl, fun b w hH hb => Af Ai rfl hb⟩) ?_
        refine Ac (by intro v0_ v1_ r2_ r3_; exact ⟨rfl, fun b w hH hb => A6 rfl rfl (D3 (cs := [.int .u64 ((ER y).1), .int .i64 ((ER y).2)]) Am rfl) (hH.row 0 rfl) hb⟩) ?_
        refine Ac (by intro v0_ v1_; exact ⟨rfl, Bp.su (By (Ah Tryz.func16 (by kernel_rfl) rfl) (fun w hH => RN w _ _ hbad) rfl rfl rfl) rfl⟩) ?_
        refine Ac (by intro v0_ v1_ r2_ r3_; exact ⟨rfl, fun b w hH hb => Af Ai rfl hb⟩) ?_
        refine Ac (by intro v0_ v1_ r2_ r3_; exact ⟨rfl, fun b w hH hb => A6 rfl rfl (D3 (cs := [.int .u64 ((ER y).1), .int .i64 ((ER y).2)]) Am rfl) (hH.row 0 rfl) hb⟩) ?_
        refine Ac (by intro v0_ v1_ v2_; exact ⟨rfl, Bp.su (By (Ah Tryz.func17 (by kernel_rfl) rfl) (fun w hH => R3 w _ _ hbad) rfl rfl rfl) rfl⟩) ?_
        refine Ac (by intro v0_ v1_ v2_ v3_; exact ⟨rfl, fun b w hH hb => AV rfl rfl rfl (H7 (by decide)) hb⟩) ?_
        refine Ac (by intro v0_ v1_ v2_ v3_; exact ⟨rfl, fun b w hH hb => Af Ai rfl hb⟩) ?_
        exact B2
      intro v0_ v1_ v2_ v3_
      refine Cg.keep (env' := [(0, v0), (2, .bool false), (3, .pointer (some ⟨p, 0, none⟩)), (4, .pointer (some ⟨q, 0, none⟩)), (6, .int .i64 ((i : Nat) : Int)), (24, .int .i64 ((i : Nat) : Int)), (25, v0), (26, .int .i64 (l0.length : Int)), (27, .bool true), (28, .bool true), (29, .int .i64 ((i : Nat) : Int)), (30, .bool true), (31, .bool true), (34, .pointer (some ⟨p, 0, none⟩)), (35, .pointer (some ⟨q, 0, none⟩)), (36, v0), (37, .int .i64 ((i : Nat) : Int)), (38, BP v0 (i * 7)), (39, BP v0 (i * 7 + 4)), (40, .agg #[.int .i64 y.h.w, .int .i64 y.h.a, .int .i64 y.h.b]), (7, .bool true), (42, v0), (43, .int .i64 ((i : Nat) : Int)), (44, BP v0 (i * 7)), (45, BP v0 (i * 7 + 0)), (46, .int .i64 y.what), (47, .int .i64 m), (68, .bool false), (67, .bool false), (75, .bool false), (76, .bool false), (74, .bool false), (48, v0), (49, .int .i64 ((i : Nat) : Int)), (50, BP v0 (i * 7)), (51, .agg (encSt y).toArray), (52, .agg #[.int .u64 ((ER y).1), .int .i64 ((ER y).2)]), (12, .pointer (some ⟨g12, 0, none⟩)), (53, .agg #[.int .u64 ((ER y).1), .int .i64 ((ER y).2)]), (54, .bool false), (55, .agg #[.int .u64 ((ER y).1), .int .i64 ((ER y).2)]), (56, .bool false), (57, .bool true), (58, .bool true), (59, .pointer (some ⟨p, 0, none⟩)), (60, .agg #[.int .u64 ((ER y).1), .int .i64 ((ER y).2)]), (61, .int .i64 1), (62, .pointer (some ⟨q, 0, none⟩)), (63, .agg #[.int .u64 ((ER y).1), .int .i64 ((ER y).2)]), (64, .int .i64 1), (65, .bool true), (66, .bool true)]) ⟨rfl, rfl, rfl, rfl, rfl, rfl, rfl, rfl, rfl, rfl, rfl, rfl, rfl, rfl, rfl, rfl, rfl, rfl, rfl, rfl, rfl, rfl, rfl, rfl, rfl, rfl, rfl, rfl, rfl, rfl, rfl, rfl, rfl, rfl, rfl, rfl, rfl, rfl, rfl, rfl, rfl, rfl, rfl, rfl, rfl, rfl, rfl, rfl, rfl, rfl, rfl, rfl, trivial⟩ ?_
      refine Ae Ai rfl ?_
      refine AP (Bt (AE (Ad ?_)))
      refine Ae Ai rfl ?_
      refine Aj rfl (Al (os' := fun _ => [cell g12 31 #[.int .u64 ((ER y).1), .int .i64 ((ER y).2)], Ao p d1, Au q d1]) [1, 2] 0 (Ah Tryz.func18 (by kernel_rfl) rfl) (Gd hfE) rfl rfl rfl (fun _ => rfl) rfl rfl rfl) ?_; rintro ⟨⟩
      refine Ae Ai rfl ?_
      refine Aa (Ar rfl (Ax (Bt (AE (Br ?_)))))
      refine Ae Ai rfl ?_
      refine Ab rfl (.int .i64 ((i + 1 : Nat) : Int)) (fun b w hb hH => AN rfl rfl rfl rfl (by rw [IntWalk.i64_in _ (by omega)]; omega) hb) ?_
      refine Ae Ai rfl ?_
      refine AP ?_
      exact Cc (i + 1, d1) 1 ⟨h1, h2, hKE⟩ (show l0.length - (i + 1) < l0.length - i by omega) ⟨rfl, rfl, rfl, rfl, rfl, trivial⟩ rfl
    · skip
      obtain ⟨⟨d2, e2⟩, hsy⟩ : ∃ R, F1 d1 = R := ⟨_, rfl⟩
      have hKE : PlayOk (100 * (i + 1)) (3 * (i + 1)) d2 := by have h9 := hK1.sync hnd1 hok1; rw [hsy] at h9; exact h9.mono (by omega) (by omega)
      have hfE := (hKE.fitK (k := 9) (by omega) (by omega)).fit
      refine Ad ?_
      refine Ae Ai rfl ?_
      refine Ab rfl (.bool true) (fun b w hb hH => AV rfl rfl rfl (H7 (by omega)) hb) ?_
      refine Ae Ai rfl ?_
      refine Aa (AC rfl (Br ?_))
      refine Ae Ai rfl ?_
      refine Aj rfl (Al (os' := fun _ => [Ao p d2, Au q d1]) [0] 0 (Ah Tryz.func9 (by kernel_rfl) rfl) (HC (hK1.fitK (k := 9) (by omega) (by omega)).fit hsy) rfl rfl rfl (fun _ => rfl) rfl rfl rfl) ?_; rintro ⟨⟩
      refine Ae Ai rfl ?_
      refine Aj rfl (Al (os' := fun _ => [Ao p d2, Au q d2]) [1] 0 (Ah Tryz.func10 (by kernel_rfl) rfl) (TN (hK1.fitK (k := 9) (by omega) (by omega)).fit hsy) rfl rfl rfl (fun _ => rfl) rfl rfl rfl) ?_; rintro ⟨⟩
      refine Ab rfl (.bool true) (fun b w hb hH => AV rfl rfl rfl (H7 rfl) hb) ?_
      refine Ae Ai rfl ?_
      refine AP (Bt (AE (Ad ?_)))
      refine Ae Ai rfl ?_
      refine Aj rfl (Al (os' := fun _ => [Ao p d2, Au q d2]) [0, 1] 0 (Ah Tryz.func18 (by kernel_rfl) rfl) (Gd hfE) rfl rfl rfl (fun _ => rfl) rfl rfl rfl) ?_; rintro ⟨⟩
      refine Ae Ai rfl ?_
      refine Aa (Ar rfl (Ax (Bt (AE (Br ?_)))))
      refine Ae Ai rfl ?_
      refine Ab rfl (.int .i64 ((i + 1 : Nat) : Int)) (fun b w hb hH => AN rfl rfl rfl rfl (by rw [IntWalk.i64_in _ (by omega)]; omega) hb) ?_
      refine Ae Ai rfl ?_
      refine AP ?_
      exact Cc (i + 1, d2) 0 ⟨h1, h2, hKE⟩ (show l0.length - (i + 1) < l0.length - i by omega) ⟨rfl, rfl, rfl, rfl, rfl, trivial⟩ rfl
    · skip
      obtain ⟨⟨d2, z, e2⟩, hop⟩ : ∃ R, DF d1 = R := ⟨_, rfl⟩
      have hKE : PlayOk (100 * (i + 1)) (3 * (i + 1)) d2 := by have h9 := hK1.openH; rw [hop] at h9; exact h9.mono (by omega) (by omega)
      have hrd : ∀ b, (BJ (Be d1).1 hardN).getD [] = b → b.length ≤ 137438953472 := fun b hb => QP hK1 (by omega) hnd1 hok1 hb
      have hfE := (hKE.fitK (k := 9) (by omega) (by omega)).fit
      refine Ad ?_
      refine Ae Ai rfl ?_
      refine Ab rfl (.bool false) (fun b w hb hH => AV rfl rfl rfl (Ge (by omega)) hb) ?_
      refine Ae Ai rfl ?_
      refine Aa (Ar rfl (Aq (Ad ?_)))
      refine Ae Ai rfl ?_
      refine Ab rfl (.bool true) (fun b w hb hH => AV rfl rfl rfl (H7 (by omega)) hb) ?_
      refine Ae Ai rfl ?_
      refine Aa (AC rfl (Ax (AE (AC rfl (Ad ?_)))))
      refine Ae Ai rfl ?_
      refine Aj rfl (Al (os' := fun _ => [Ao p d2, Au q d1]) [0] 0 (Ah Tryz.func11 (by kernel_rfl) rfl) (GD (CB (hK1.fitK (k := 9) (by omega) (by omega)) (by decide)) hrd hop) rfl rfl rfl (fun _ => rfl) rfl rfl rfl) ?_; rintro ⟨⟩
      refine Ae Ai rfl ?_
      refine Aj (post := fun g8 => [cell g8 31 #[.int .u64 0, .int .i64 0], Ao p d2, Au q d1]) rfl (BS Bq rfl) ?_; rintro g8
      refine AH (post := fun _ => [cell g8 31 #[.int .u64 ((z.1 : Nat) : Int), .int .i64 ((z.2 : Nat) : Int)], Ao p d2, Au q d1]) rfl rfl (AD 0 (v := .agg #[.int .u64 ((z.1 : Nat) : Int), .int .i64 ((z.2 : Nat) : Int)]) #[.int .u64 ((z.1 : Nat) : Int), .int .i64 ((z.2 : Nat) : Int)] Am.2 rfl rfl rfl rfl rfl rfl rfl rfl rfl) ?_; rintro ⟨⟩
      refine Ae Ai rfl ?_
      refine Aa (Ad ?_)
      refine Ae Ai rfl ?_
      refine Aj rfl (Al (os' := fun _ => [cell g8 31 #[.int .u64 ((z.1 : Nat) : Int), .int .i64 ((z.2 : Nat) : Int)], Ao p d2, Au q d2]) [2] 0 (Ah Tryz.func12 (by kernel_rfl) rfl) (Lz (CB (hK1.fitK (k := 9) (by omega) (by omega)) (by decide)) hrd hop) rfl rfl rfl (fun _ => rfl) rfl rfl rfl) ?_; rintro ⟨⟩
      refine Ae Ai rfl ?_
      refine Aj (post := fun g10 => [cell g10 31 #[.int .u64 0, .int .i64 0], cell g8 31 #[.int .u64 ((z.1 : Nat) : Int), .int .i64 ((z.2 : Nat) : Int)], Ao p d2, Au q d2]) rfl (BS Bq rfl) ?_; rintro g10
      refine AH (post := fun _ => [cell g10 31 #[.int .u64 ((z.1 : Nat) : Int), .int .i64 ((z.2 : Nat) : Int)], cell g8 31 #[.int .u64 ((z.1 : Nat) : Int), .int .i64 ((z.2 : Nat) : Int)], Ao p d2, Au q d2]) rfl rfl (AD 0 (v := .agg #[.int .u64 ((z.1 : Nat) : Int), .int .i64 ((z.2 : Nat) : Int)]) #[.int .u64 ((z.1 : Nat) : Int), .int .i64 ((z.2 : Nat) : Int)] Am.2 rfl rfl rfl rfl rfl rfl rfl rfl rfl) ?_; rintro ⟨⟩
      refine Ae Ai rfl ?_
      refine Aa ?_
      refine Bv.keep (env' := [(0, v0), (2, .bool false), (3, .pointer (some ⟨p, 0, none⟩)), (4, .pointer (some ⟨q, 0, none⟩)), (6, .int .i64 ((i : Nat) : Int)), (24, .int .i64 ((i : Nat) : Int)), (25, v0), (26, .int .i64 (l0.length : Int)), (27, .bool true), (28, .bool true), (29, .int .i64 ((i : Nat) : Int)), (30, .bool true), (31, .bool true), (34, .pointer (some ⟨p, 0, none⟩)), (35, .pointer (some ⟨q, 0, none⟩)), (36, v0), (37, .int .i64 ((i : Nat) : Int)), (38, BP v0 (i * 7)), (39, BP v0 (i * 7 + 4)), (40, .agg #[.int .i64 y.h.w, .int .i64 y.h.a, .int .i64 y.h.b]), (7, .bool true), (42, v0), (43, .int .i64 ((i : Nat) : Int)), (44, BP v0 (i * 7)), (45, BP v0 (i * 7 + 0)), (46, .int .i64 y.what), (47, .int .i64 m), (68, .bool false), (67, .bool false), (75, .bool true), (74, .bool true), (78, .pointer (some ⟨p, 0, none⟩)), (79, .tuple #[.agg #[.int .u64 ((z.1 : Nat) : Int), .int .i64 ((z.2 : Nat) : Int)], .int .i64 (e2 : Int)]), (77, .tuple #[.agg #[.int .u64 ((z.1 : Nat) : Int), .int .i64 ((z.2 : Nat) : Int)], .int .i64 (e2 : Int)]), (80, .agg #[.int .u64 ((z.1 : Nat) : Int), .int .i64 ((z.2 : Nat) : Int)]), (81, .int .i64 (e2 : Int)), (8, .pointer (some ⟨g8, 0, none⟩)), (9, .int .i64 (e2 : Int)), (83, .pointer (some ⟨q, 0, none⟩)), (84, .tuple #[.agg #[.int .u64 ((z.1 : Nat) : Int), .int .i64 ((z.2 : Nat) : Int)], .int .i64 (e2 : Int)]), (82, .tuple #[.agg #[.int .u64 ((z.1 : Nat) : Int), .int .i64 ((z.2 : Nat) : Int)], .int .i64 (e2 : Int)]), (85, .agg #[.int .u64 ((z.1 : Nat) : Int), .int .i64 ((z.2 : Nat) : Int)]), (86, .int .i64 (e2 : Int)), (10, .pointer (some ⟨g10, 0, none⟩)), (11, .int .i64 (e2 : Int))]) ⟨rfl, rfl, rfl, rfl, rfl, rfl, rfl, rfl, rfl, rfl, rfl, rfl, rfl, rfl, rfl, rfl, rfl, rfl, rfl, rfl, rfl, rfl, rfl, rfl, rfl, rfl, rfl, rfl, rfl, rfl, rfl, rfl, rfl, rfl, rfl, rfl, rfl, rfl, rfl, rfl, rfl, rfl, rfl, rfl, rfl, trivial⟩ ?_
      refine Br ?_
      refine Ae Ai rfl ?_
      refine Ab rfl (.agg #[.int .u64 ((z.1 : Nat) : Int), .int .i64 ((z.2 : Nat) : Int)]) (fun b w hb hH => A6 rfl rfl (D3 (cs := [.int .u64 ((z.1 : Nat) : Int), .int .i64 ((z.2 : Nat) : Int)]) Am rfl) (hH.row 1 rfl) hb) ?_
      refine Ab rfl (.agg #[.int .u64 ((z.1 : Nat) : Int), .int .i64 ((z.2 : Nat) : Int)]) (fun b w hb hH => A6 rfl rfl (D3 (cs := [.int .u64 ((z.1 : Nat) : Int), .int .i64 ((z.2 : Nat) : Int)]) Am rfl) (hH.row 0 rfl) hb) ?_
      refine Ab rfl (.bool true) (fun b w hb hH => FV (Wp z z true (by simp)) rfl rfl rfl hb) ?_
      refine Ae Ai rfl ?_
      refine Ab rfl (.bool true) (fun b w hb hH => AV rfl rfl rfl (H7 rfl) hb) ?_
      refine Ae Ai rfl ?_
      refine AP (Bt (AE (Ad ?_)))
      refine Ae Ai rfl ?_
      refine Aj rfl (Al (os' := fun _ => [cell g10 31 #[.int .u64 ((z.1 : Nat) : Int), .int .i64 ((z.2 : Nat) : Int)], cell g8 31 #[.int .u64 ((z.1 : Nat) : Int), .int .i64 ((z.2 : Nat) : Int)], Ao p d2, Au q d2]) [2, 3] 0 (Ah Tryz.func18 (by kernel_rfl) rfl) (Gd hfE) rfl rfl rfl (fun _ => rfl) rfl rfl rfl) ?_; rintro ⟨⟩
      refine Ae Ai rfl ?_
      refine Aa (Ar rfl (Ax (Bt (AE (Br ?_)))))
      refine Ae Ai rfl ?_
      refine Ab rfl (.int .i64 ((i + 1 : Nat) : Int)) (fun b w hb hH => AN rfl rfl rfl rfl (by rw [IntWalk.i64_in _ (by omega)]; omega) hb) ?_
      refine Ae Ai rfl ?_
      refine AP ?_
      exact Cc (i + 1, d2) 2 ⟨h1, h2, hKE⟩ (show l0.length - (i + 1) < l0.length - i by omega) ⟨rfl, rfl, rfl, rfl, rfl, trivial⟩ rfl
    · skip
      obtain ⟨⟨d2, z, e2⟩, hop⟩ : ∃ R, DF d1 = R := ⟨_, rfl⟩
      have hKE : PlayOk (100 * (i + 1)) (3 * (i + 1)) d2 := by have h9 := hK1.openH; rw [hop] at h9; exact h9.mono (by omega) (by omega)
      have hrd : ∀ b, (BJ (Be d1).1 hardN).getD [] = b → b.length ≤ 137438953472 := fun b hb => QP hK1 (by omega) hnd1 hok1 hb
      have hfE := (hKE.fitK (k := 9) (by omega) (by omega)).fit
      refine Ad ?_
      refine Ae Ai rfl ?_
      refine Ab rfl (.bool false) (fun b w hb hH => AV rfl rfl rfl (Ge (by omega)) hb) ?_
      refine Ae Ai rfl ?_
      refine Aa (Ar rfl (Aq (Ad ?_)))
      refine Ae Ai rfl ?_
      refine Ab rfl (.bool false) (fun b w hb hH => AV rfl rfl rfl (Ge (by omega)) hb) ?_
      refine Ae Ai rfl ?_
      refine Aa (Ar rfl (Br ?_))
      refine Ae Ai rfl ?_
      refine Ab rfl (.bool true) (fun b w hb hH => AV rfl rfl rfl (H7 (by omega)) hb) ?_
      refine Ae Ai rfl ?_
      refine AP (AE (AC rfl (Ad ?_)))
      refine Ae Ai rfl ?_
      refine Aj rfl (Al (os' := fun _ => [Ao p d2, Au q d1]) [0] 0 (Ah Tryz.func11 (by kernel_rfl) rfl) (GD (CB (hK1.fitK (k := 9) (by omega) (by omega)) (by decide)) hrd hop) rfl rfl rfl (fun _ => rfl) rfl rfl rfl) ?_; rintro ⟨⟩
      refine Ae Ai rfl ?_
      refine Aj (post := fun g8 => [cell g8 31 #[.int .u64 0, .int .i64 0], Ao p d2, Au q d1]) rfl (BS Bq rfl) ?_; rintro g8
      refine AH (post := fun _ => [cell g8 31 #[.int .u64 ((z.1 : Nat) : Int), .int .i64 ((z.2 : Nat) : Int)], Ao p d2, Au q d1]) rfl rfl (AD 0 (v := .agg #[.int .u64 ((z.1 : Nat) : Int), .int .i64 ((z.2 : Nat) : Int)]) #[.int .u64 ((z.1 : Nat) : Int), .int .i64 ((z.2 : Nat) : Int)] Am.2 rfl rfl rfl rfl rfl rfl rfl rfl rfl) ?_; rintro ⟨⟩
      refine Ae Ai rfl ?_
      refine Aa (Ad ?_)
      refine Ae Ai rfl ?_
      refine Aj rfl (Al (os' := fun _ => [cell g8 31 #[.int .u64 ((z.1 : Nat) : Int), .int .i64 ((z.2 : Nat) : Int)], Ao p d2, Au q d2]) [2] 0 (Ah Tryz.func12 (by kernel_rfl) rfl) (Lz (CB (hK1.fitK (k := 9) (by omega) (by omega)) (by decide)) hrd hop) rfl rfl rfl (fun _ => rfl) rfl rfl rfl) ?_; rintro ⟨⟩
      refine Ae Ai rfl ?_
      refine Aj (post := fun g10 => [cell g10 31 #[.int .u64 0, .int .i64 0], cell g8 31 #[.int .u64 ((z.1 : Nat) : Int), .int .i64 ((z.2 : Nat) : Int)], Ao p d2, Au q d2]) rfl (BS Bq rfl) ?_; rintro g10
      refine AH (post := fun _ => [cell g10 31 #[.int .u64 ((z.1 : Nat) : Int), .int .i64 ((z.2 : Nat) : Int)], cell g8 31 #[.int .u64 ((z.1 : Nat) : Int), .int .i64 ((z.2 : Nat) : Int)], Ao p d2, Au q d2]) rfl rfl (AD 0 (v := .agg #[.int .u64 ((z.1 : Nat) : Int), .int .i64 ((z.2 : Nat) : Int)]) #[.int .u64 ((z.1 : Nat) : Int), .int .i64 ((z.2 : Nat) : Int)] Am.2 rfl rfl rfl rfl rfl rfl rfl rfl rfl) ?_; rintro ⟨⟩
      refine Ae Ai rfl ?_
      refine Aa ?_
      refine Bv.keep (env' := [(0, v0), (2, .bool false), (3, .pointer (some ⟨p, 0, none⟩)), (4, .pointer (some ⟨q, 0, none⟩)), (6, .int .i64 ((i : Nat) : Int)), (24, .int .i64 ((i : Nat) : Int)), (25, v0), (26, .int .i64 (l0.length : Int)), (27, .bool true), (28, .bool true), (29, .int .i64 ((i : Nat) : Int)), (30, .bool true), (31, .bool true), (34, .pointer (some ⟨p, 0, none⟩)), (35, .pointer (some ⟨q, 0, none⟩)), (36, v0), (37, .int .i64 ((i : Nat) : Int)), (38, BP v0 (i * 7)), (39, BP v0 (i * 7 + 4)), (40, .agg #[.int .i64 y.h.w, .int .i64 y.h.a, .int .i64 y.h.b]), (7, .bool true), (42, v0), (43, .int .i64 ((i : Nat) : Int)), (44, BP v0 (i * 7)), (45, BP v0 (i * 7 + 0)), (46, .int .i64 y.what), (47, .int .i64 m), (68, .bool false), (67, .bool false), (75, .bool false), (76, .bool true), (74, .bool true), (78, .pointer (some ⟨p, 0, none⟩)), (79, .tuple #[.agg #[.int .u64 ((z.1 : Nat) : Int), .int .i64 ((z.2 : Nat) : Int)], .int .i64 (e2 : Int)]), (77, .tuple #[.agg #[.int .u64 ((z.1 : Nat) : Int), .int .i64 ((z.2 : Nat) : Int)], .int .i64 (e2 : Int)]), (80, .agg #[.int .u64 ((z.1 : Nat) : Int), .int .i64 ((z.2 : Nat) : Int)]), (81, .int .i64 (e2 : Int)), (8, .pointer (some ⟨g8, 0, none⟩)), (9, .int .i64 (e2 : Int)), (83, .pointer (some ⟨q, 0, none⟩)), (84, .tuple #[.agg #[.int .u64 ((z.1 : Nat) : Int), .int .i64 ((z.2 : Nat) : Int)], .int .i64 (e2 : Int)]), (82, .tuple #[.agg #[.int .u64 ((z.1 : Nat) : Int), .int .i64 ((z.2 : Nat) : Int)], .int .i64 (e2 : Int)]), (85, .agg #[.int .u64 ((z.1 : Nat) : Int), .int .i64 ((z.2 : Nat) : Int)]), (86, .int .i64 (e2 : Int)), (10, .pointer (some ⟨g10, 0, none⟩)), (11, .int .i64 (e2 : Int))]) ⟨rfl, rfl, rfl, rfl, rfl, rfl, rfl, rfl, rfl, rfl, rfl, rfl, rfl, rfl, rfl, rfl, rfl, rfl, rfl, rfl, rfl, rfl, rfl, rfl, rfl, rfl, rfl, rfl, rfl, rfl, rfl, rfl, rfl, rfl, rfl, rfl, rfl, rfl, rfl, rfl, rfl, rfl, rfl, rfl, rfl, rfl, trivial⟩ ?_
      refine Br ?_
      refine Ae Ai rfl ?_
      refine Ab rfl (.agg #[.int .u64 ((z.1 : Nat) : Int), .int .i64 ((z.2 : Nat) : Int)]) (fun b w hb hH => A6 rfl rfl (D3 (cs := [.int .u64 ((z.1 : Nat) : Int), .int .i64 ((z.2 : Nat) : Int)]) Am rfl) (hH.row 1 rfl) hb) ?_
      refine Ab rfl (.agg #[.int .u64 ((z.1 : Nat) : Int), .int .i64 ((z.2 : Nat) : Int)]) (fun b w hb hH => A6 rfl rfl (D3 (cs := [.int .u64 ((z.1 : Nat) : Int), .int .i64 ((z.2 : Nat) : Int)]) Am rfl) (hH.row 0 rfl) hb) ?_
      refine Ab rfl (.bool true) (fun b w hb hH => FV (Wp z z true (by simp)) rfl rfl rfl hb) ?_
      refine Ae Ai rfl ?_
      refine Ab rfl (.bool true) (fun b w hb hH => AV rfl rfl rfl (H7 rfl) hb) ?_
      refine Ae Ai rfl ?_
      refine AP (Bt (AE (Ad ?_)))
      refine Ae Ai rfl ?_
      refine Aj rfl (Al (os' := fun _ => [cell g10 31 #[.int .u64 ((z.1 : Nat) : Int), .int .i64 ((z.2 : Nat) : Int)], cell g8 31 #[.int .u64 ((z.1 : Nat) : Int), .int .i64 ((z.2 : Nat) : Int)], Ao p d2, Au q d2]) [2, 3] 0 (Ah Tryz.func18 (by kernel_rfl) rfl) (Gd hfE) rfl rfl rfl (fun _ => rfl) rfl rfl rfl) ?_; rintro ⟨⟩
      refine Ae Ai rfl ?_
      refine Aa (Ar rfl (Ax (Bt (AE (Br ?_)))))
      refine Ae Ai rfl ?_
      refine Ab rfl (.int .i64 ((i + 1 : Nat) : Int)) (fun b w hb hH => AN rfl rfl rfl rfl (by rw [IntWalk.i64_in _ (by omega)]; omega) hb) ?_
      refine Ae Ai rfl ?_
      refine AP ?_
      exact Cc (i + 1, d2) 2 ⟨h1, h2, hKE⟩ (show l0.length - (i + 1) < l0.length - i by omega) ⟨rfl, rfl, rfl, rfl, rfl, trivial⟩ rfl
  · skip
    refine Ad ?_
    refine Ae Ai rfl ?_
    refine Ab rfl (.int .i64 (l0.length : Int)) (fun b w hb hH => AT (EH hv0 hH) Tryz.underlying22 rfl rfl hb) ?_
    refine Ab rfl (.bool true) (fun b w hb hH => AV rfl rfl rfl (A7 (by omega)) hb) ?_
    refine Ae Ai rfl ?_
    refine Ab rfl (.bool false) (fun b w hb hH => AV rfl rfl rfl (Bn (by omega)) hb) ?_
    refine Ae Ai rfl ?_
    refine Aa (Ar rfl (Cu (E0 (E0 (Bh (AE (Ad ?_)))))))
    refine Ae Ai rfl ?_
    refine Aa (Ay ?_)
    exact Av (.tmp rfl) (fun w h => ⟨rfl, AG h.up⟩) rfl
  · skip
    refine Ad ?_
    refine Ae Ai rfl ?_
    refine Ab rfl (.int .i64 (l0.length : Int)) (fun b w hb hH => AT (EH hv0 hH) Tryz.underlying22 rfl rfl hb) ?_
    refine Ab rfl (.bool false) (fun b w hb hH => AV rfl rfl rfl (Bn (by omega)) hb) ?_
    refine Ae Ai rfl ?_
    refine Aa (Ar rfl (Cu (E0 (E0 (Bh (AE (Ad ?_)))))))
    refine Ae Ai rfl ?_
    refine Aa (Ay ?_)
    exact Av (.tmp rfl) (fun w h => ⟨rfl, AG h.up⟩) rfl
end Go.Proofs.YtnknboibmifacaaGreat.Sep
