/-
  HdV · PhV
-/
import Derived.Test.YtjcfimmcogkopaaGreatPB03
import Derived.Test.YtjcfimmcogkopaaGreatPN01
import Derived.Test.YtjcfimmcogkopaaGreatPS01
import Derived.Test.YtjcfimmcogkopaaGreatPT02
set_option linter.unusedSimpArgs false
set_option linter.unusedVariables false
set_option maxRecDepth 100000
namespace Go.Proofs.YtjcfimmcogkopaaGreat.Sep
open Go.RowKit
open Go.Proofs.YtjcfimmcogkopaaGreat.Mem (Bh Cs Chg AA)
theorem QH {X : Ass} {v : Value} {y r : List UInt8} (hX : CO X v y) (hl : y.length ≤ 140737488351232) (hr : BZ y = r) : AX Tryz.prog 20 #[v] [X] (fun v : Value => v) (fun v => [X, Ar 5 1 encB v r]) := fun w rs h1 h2 h3 => by
 have hXr := Al.one' h1
 obtain ⟨A0, c0, rfl, _⟩ := hX rs w hXr h2
 exact Xu hX hl hr w rs h1 h2 h3
end Go.Proofs.YtjcfimmcogkopaaGreat.Sep
namespace Go.Proofs.YtjcfimmcogkopaaGreat.Sep
open Go.RowKit
open Go.Proofs.YtjcfimmcogkopaaGreat.Mem (Bh Cs Chg AA)
theorem O9 {p : Nat} {d d' : DiskD} {s : SnV} {e : Nat} {X : Ass} {A : Option Addr} {cp : Nat} (hk : SnOk s) (hf : d.fitK 3) (hrm0 : 0 ≤ d.room ∧ d.room ≤ 1048576) (hX : CO X (.slice A s.d.length cp) s.d) (h : Ew d (GR s) = (d', e)) : AX Tryz.prog 18 #[.pointer (some ⟨p, 0, none⟩), .agg #[.int .u64 s.i, .int .u64 s.t, .int .i64 s.c, .slice A s.d.length cp]] [An p d, X] (fun (_ : Unit) => .int .i64 (e : Int)) (fun (_ : Unit) => [An p d', X]) := by
  refine Bg (args := [.pointer (some ⟨p, 0, none⟩), .agg #[.int .u64 s.i, .int .u64 s.t, .int .i64 s.c, .slice A s.d.length cp]]) 50 Tryz.func18 rfl rfl rfl ?_; intro w rs
  obtain ⟨⟨d1, e1⟩, hrm⟩ : ∃ R, Ce d = R := ⟨_, rfl⟩
  have hr1 : (Ce d).1 = d1 := by rw [hrm]
  have hf1 : d1.fitK 2 := by rw [← hr1]; exact FN hf
  have hrm1 : 0 ≤ d1.room ∧ d1.room ≤ 1048576 := by rw [← hr1, Vb]; exact hrm0
  have hll := Hy hk
  have hfl := F2 hk
  obtain ⟨⟨d2, e2⟩, happ⟩ : ∃ R, Ci d1 snewN (GR s) = R := ⟨_, rfl⟩
  have hf2 : d2.fitK 1 := by have := E8 (n := snewN) (b := GR s) hf1 (by omega); rwa [happ] at this
  unfold Ew at h
  rw [hrm] at h
  simp only at h
  rw [happ] at h
  simp only at h
  have hk1 := hk.i
  have hk2 := hk.t
  have hk3 := hk.c
  have hk5 := hk.d
  have q1 : (De s.i).length ≤ 8 := Cb 7 s.i.toNat (by omega)
  have q2 : (De s.t).length ≤ 8 := Cb 7 s.t.toNat (by omega)
  obtain ⟨r, hs⟩ : ∃ r, (Bx d snewN).isSome = r := ⟨_, rfl⟩
  refine Ad (Ae Ag rfl (Aj (post := fun g3 => [cell g3 34 #[.int .u64 s.i, .int .u64 s.t, .int .i64 s.c, .slice A s.d.length cp], An p d, X]) rfl (CL (cs := #[.int .u64 s.i, .int .u64 s.t, .int .i64 s.c, .slice A s.d.length cp]) rfl rfl rfl) ?_)); rintro g3
  refine Ae Ag rfl (Ab (Av (Ad (Ae Ag rfl (Aa rfl (.bool false) (fun b w hb hH => Ct (by kernel_rfl) rfl rfl rfl hb) (Ae Ag rfl (Aa rfl (.agg #[.int .u64 s.i, .int .u64 s.t, .int .i64 s.c, .slice A s.d.length cp]) (fun b w hb hH => Ba rfl rfl (DM (cs := [.int .u64 s.i, .int .u64 s.t, .int .i64 s.c, .slice A s.d.length cp]) Aq rfl) (hH.row 0 rfl) hb) (Aj (post := fun _ => [cell g3 34 #[.int .u64 s.i, .int .u64 s.t, .int .i64 s.c, .slice A s.d.length cp], An p d, X]) rfl (AU (Ai Tryz.func16 (by kernel_rfl) rfl) (fun w hH => FC w true (EV.2 hk)) rfl rfl rfl) ?_)))))))); rintro ⟨⟩
  refine Ae Ag rfl (Ab (As rfl (AB (AL (Av ?_)))))
  rcases Nat.eq_zero_or_pos e1 with he1 | he1
  rw [if_neg (by omega)] at h
  refine Ad (Ae Ag rfl (Aj rfl (Ak (os' := fun _ => [cell g3 34 #[.int .u64 s.i, .int .u64 s.t, .int .i64 s.c, .slice A s.d.length cp], An p d, X]) [1] 0 (Ai Tryz.func36 (by kernel_rfl) rfl) (O7 (n := snewN) hs) rfl rfl rfl (fun _ => rfl) rfl rfl rfl) ?_)); rintro ⟨⟩
  refine Ab ?_
  refine NM [(0, .pointer (some ⟨p, 0, none⟩)), (3, .pointer (some ⟨g3, 0, none⟩)), (4, .int .i64 0)] [cell g3 34 #[.int .u64 s.i, .int .u64 s.t, .int .i64 s.c, .slice A s.d.length cp], An p d1, X] ?_ ?_
  cases r
  obtain rfl : d1 = d := by unfold Ce at hrm; rw [if_neg (by rw [hs]; simp)] at hrm; exact (Prod.mk.inj hrm).1.symm
  refine As rfl (AB ?_)
  exact Kd 0 ⟨rfl, rfl, rfl, trivial⟩ rfl
  have hdel : Fp d snewN = (d1, e1) := by unfold Ce at hrm; rwa [if_pos hs] at hrm
  refine AI rfl (Ad (Ae Ag rfl (Aj rfl (Ak (os' := fun _ => [cell g3 34 #[.int .u64 s.i, .int .u64 s.t, .int .i64 s.c, .slice A s.d.length cp], An p d1, X]) [1] 0 (Ai Tryz.func37 (by kernel_rfl) rfl) (Jz (n := snewN) hf.fit hdel) rfl rfl rfl (fun _ => rfl) rfl rfl rfl) ?_))); rintro ⟨⟩
  refine Ae Ag rfl (Ab (Ad (Ae Ag rfl (Aa rfl (.bool false) (fun b w hb hH => AZ rfl rfl rfl (AP (by omega)) hb) (Ab (As rfl (AB ?_)))))))
  exact Kd 0 ⟨rfl, rfl, rfl, trivial⟩ rfl
  refine AL (Av (DW 3 rfl ?_))
  refine BL 15 5 [⟨.quiet, [none, none, none, none, none], fun _ => .pointer (some ⟨g3, 0, none⟩), []⟩, ⟨.quiet, [none, none, none, none, none], fun _ => .pointer (some ⟨g3, 0, none⟩), [0]⟩, ⟨.quiet, [none, none, none, none, none], fun _ => .int .u64 s.i, [1]⟩, ⟨.act 0, [some false, some false, some false, none, some false], fun _ => undef, [2]⟩, ⟨.quiet, [none, none, none, none, none], fun _ => .pointer (some ⟨g3, 0, none⟩), []⟩, ⟨.quiet, [none, none, none, none, none], fun _ => .pointer (some ⟨g3, 1, none⟩), [4]⟩, ⟨.quiet, [none, none, none, none, none], fun _ => .int .u64 s.t, [5]⟩, ⟨.act 1, [some true, some false, some false, none, some false], fun _ => undef, [6]⟩, ⟨.act 2, [some true, some true, some false, none, some false], fun _ => undef, [3, 7]⟩, ⟨.quiet, [none, none, none, none, none], fun _ => .pointer (some ⟨g3, 0, none⟩), []⟩, ⟨.quiet, [none, none, none, none, none], fun _ => .pointer (some ⟨g3, 2, none⟩), [9]⟩, ⟨.quiet, [none, none, none, none, none], fun _ => .int .i64 s.c, [10]⟩, ⟨.quiet, [none, none, none, none, none], fun _ => .int .u8 (((UInt8.ofNat s.c.toNat).toNat : Nat) : Int), [11]⟩, ⟨.act 3, [none, none, none, some false, some false], fun _ => undef, [12]⟩, ⟨.act 4, [some true, some true, some true, some true, some false], fun _ => undef, [8, 13]⟩] [(0, .pointer (some ⟨p, 0, none⟩)), (3, .pointer (some ⟨g3, 0, none⟩)), (4, .int .i64 0)] (fun ρ => match ρ with | [rq0, rq1, rq2, rq3, rq4] => [Co rq3 (fun u35 => Ar 5 1 encB u35 ([(UInt8.ofNat s.c.toNat)])) (DN), Co rq1 (fun nw => Ar 5 1 encB nw (De s.t)) (DN), Co rq4 (fun u36 => Ar 5 1 encB u36 (IG (s.i, s.t, s.c))) (Co rq2 (fun u30 => Ar 5 1 encB u30 (De s.i ++ De s.t)) (Co rq0 (fun nv => Ar 5 1 encB nv (De s.i)) (DN))), cell g3 34 #[.int .u64 s.i, .int .u64 s.t, .int .i64 s.c, .slice A s.d.length cp], An p d1, X] | _ => []) (by kernel_rfl) (by kernel_rfl) ⟨rfl, rfl, rfl, trivial⟩ rfl ?_ ?_
  refine Ac (by intro r0_ r1_ r2_ r3_ r4_; exact ⟨rfl, fun b w hH hb => Af Ag rfl hb⟩) (Ac (by intro r0_ r1_ r2_ r3_ r4_; exact ⟨rfl, fun b w hH hb => Af Ag rfl hb⟩) (Ac (by intro r0_ r1_ r2_ r3_ r4_; exact ⟨rfl, fun b w hH hb => Ba rfl rfl (Bm By rfl) (hH.row 3 rfl) hb⟩) (Ac (by intro r3_; exact ⟨rfl, Bk.s (Ak (os' := fun nv => [Co r3_ (fun u35 => Ar 5 1 encB u35 ([(UInt8.ofNat s.c.toNat)])) (DN), DN, Ar 5 1 encB nv (De s.i), cell g3 34 #[.int .u64 s.i, .int .u64 s.t, .int .i64 s.c, .slice A s.d.length cp], An p d1, X]) [2] 1 (Ai Tryz.func50 (by kernel_rfl) rfl) (Ty s.i ⟨by omega, by omega⟩) rfl rfl rfl (fun _ => rfl) rfl rfl rfl) (fun _ => rfl)⟩) (Ac (by intro r0_ r1_ r2_ r3_ r4_; exact ⟨rfl, fun b w hH hb => Af Ag rfl hb⟩) (Ac (by intro r0_ r1_ r2_ r3_ r4_; exact ⟨rfl, fun b w hH hb => Af Ag rfl hb⟩) (Ac (by intro r0_ r1_ r2_ r3_ r4_; exact ⟨rfl, fun b w hH hb => Ba rfl rfl (Bm By rfl) (hH.row 3 rfl) hb⟩) (Ac (by intro nv r3_; exact ⟨rfl, Bk.s (Ak (os' := fun nw => [Co r3_ (fun u35 => Ar 5 1 encB u35 ([(UInt8.ofNat s.c.toNat)])) (DN), Ar 5 1 encB nw (De s.t), Ar 5 1 encB nv (De s.i), cell g3 34 #[.int .u64 s.i, .int .u64 s.t, .int .i64 s.c, .slice A s.d.length cp], An p d1, X]) [1] 1 (Ai Tryz.func50 (by kernel_rfl) rfl) (Ty s.t ⟨by omega, by omega⟩) rfl rfl rfl (fun _ => rfl) rfl rfl rfl) (fun _ => rfl)⟩) (Ac (by intro nv nw r3_; exact ⟨rfl, Bk.s (C8 2 AJ Ey rfl (De s.t) (fun w hH => hH.vec 1 rfl Ey) (by omega) rfl rfl rfl rfl) (fun _ => rfl)⟩) (Ac (by intro r0_ r1_ r2_ r3_ r4_; exact ⟨rfl, fun b w hH hb => Af Ag rfl hb⟩) ?_)))))))))
  refine Ac (by intro r0_ r1_ r2_ r3_ r4_; exact ⟨rfl, fun b w hH hb => Af Ag rfl hb⟩) (Ac (by intro r0_ r1_ r2_ r3_ r4_; exact ⟨rfl, fun b w hH hb => Ba rfl rfl (Bm Bc rfl) (hH.row 3 rfl) hb⟩) (Ac (by intro r0_ r1_ r2_ r3_ r4_; exact ⟨rfl, fun b w hH hb => AW Tryz.underlying3 Tryz.underlying5 (Wh ⟨by omega, by omega⟩) rfl rfl hb⟩) ?_))
  refine Ac (by intro r0_ r1_ r2_; exact ⟨rfl, Bk.s (Bk.place (val := fun u35 : Value => u35) (t := fun u35 => Ar 5 1 encB u35 ([(UInt8.ofNat s.c.toNat)])) (os' := fun u35 => [Ar 5 1 encB u35 ([(UInt8.ofNat s.c.toNat)]), Co r1_ (fun nw => Ar 5 1 encB nw (De s.t)) (DN), Co r2_ (fun u30 => Ar 5 1 encB u30 (De s.i ++ De s.t)) (Co r0_ (fun nv => Ar 5 1 encB nv (De s.i)) (DN)), cell g3 34 #[.int .u64 s.i, .int .u64 s.t, .int .i64 s.c, .slice A s.d.length cp], An p d1, X]) 0 rfl (by refine KY (e := 5) (t := 32) (enc := encB) (x := .tmp 34) (c := .int .u8 (((UInt8.ofNat s.c.toNat)).toNat : Int)) ?_ ?_ (UInt8.ofNat s.c.toNat) ?_ ?_ ?_; exact AJ; exact Ey; exact rfl; exact rfl; exact rfl) (fun _ => rfl)) (fun _ => rfl)⟩) ?_
  refine Ac (by intro nv nw u30 u35; exact ⟨rfl, Bk.s (C8 2 AJ Ey rfl ([(UInt8.ofNat s.c.toNat)]) (fun w hH => hH.vec 0 rfl Ey) (by simp only [List.length_append, List.length_cons, List.length_nil]; omega) rfl rfl rfl (by unfold IG; simp)) (fun _ => rfl)⟩) ?_
  exact B7
  intro nv nw u30 u35 u36
  refine Cf.keep (env' := [(0, .pointer (some ⟨p, 0, none⟩)), (3, .pointer (some ⟨g3, 0, none⟩)), (4, .int .i64 0), (36, u36)]) ⟨rfl, rfl, rfl, rfl, trivial⟩ (Ae Ag rfl (AV (AL (Av (Ad (Ae Ag rfl (Aa rfl (.slice A s.d.length cp) (fun b w hb hH => Ba rfl rfl (Bm Cx rfl) (hH.row 3 rfl) hb) (Aj (post := fun tv => [Ar 5 1 encB tv (Id s.d), Ar 5 1 encB u35 ([(UInt8.ofNat s.c.toNat)]), Ar 5 1 encB nw (De s.t), Ar 5 1 encB u36 (IG (s.i, s.t, s.c)), cell g3 34 #[.int .u64 s.i, .int .u64 s.t, .int .i64 s.c, .slice A s.d.length cp], An p d1, X]) rfl (Kx (os' := fun tv => [Ar 5 1 encB tv (Id s.d), Ar 5 1 encB u35 ([(UInt8.ofNat s.c.toNat)]), Ar 5 1 encB nw (De s.t), Ar 5 1 encB u36 (IG (s.i, s.t, s.c)), cell g3 34 #[.int .u64 s.i, .int .u64 s.t, .int .i64 s.c, .slice A s.d.length cp], An p d1, X]) [] 0 (Ai Tryz.func51 (by kernel_rfl) rfl) (fun w hH => (VD (u := w) (hH.rd8 5 rfl hX) (by omega) (Id s.d) rfl)) rfl rfl rfl (fun _ => rfl) rfl rfl rfl) ?_)))))))); rintro tv
  refine Aj (post := fun u42 => [Ar 5 1 encB tv (Id s.d), Ar 5 1 encB u35 ([(UInt8.ofNat s.c.toNat)]), Ar 5 1 encB nw (De s.t), Ar 5 1 encB u42 (Ff s), cell g3 34 #[.int .u64 s.i, .int .u64 s.t, .int .i64 s.c, .slice A s.d.length cp], An p d1, X]) rfl (C8 3 AJ Ey rfl (Id s.d) (fun w hH => hH.vec 0 rfl Ey) (by have h0 := hll; unfold Ff at h0; rw [List.length_append] at h0; omega) rfl rfl rfl rfl) ?_; rintro u42
  refine Aj rfl (Ak (os' := fun fv => [Ar 5 1 encB fv (GR s), Ar 5 1 encB tv (Id s.d), Ar 5 1 encB u35 ([(UInt8.ofNat s.c.toNat)]), Ar 5 1 encB nw (De s.t), Ar 5 1 encB u42 (Ff s), cell g3 34 #[.int .u64 s.i, .int .u64 s.t, .int .i64 s.c, .slice A s.d.length cp], An p d1, X]) [3] 0 (Ai Tryz.func20 (by kernel_rfl) rfl) (QH C9 (by omega) rfl) rfl rfl rfl (fun _ => rfl) rfl rfl rfl) ?_; rintro fv
  refine Aj rfl (Ak (os' := fun _ => [Ar 5 1 encB fv (GR s), Ar 5 1 encB tv (Id s.d), Ar 5 1 encB u35 ([(UInt8.ofNat s.c.toNat)]), Ar 5 1 encB nw (De s.t), Ar 5 1 encB u42 (Ff s), cell g3 34 #[.int .u64 s.i, .int .u64 s.t, .int .i64 s.c, .slice A s.d.length cp], An p d2, X]) [6, 0] 0 (Ai Tryz.func23 (by kernel_rfl) rfl) (RD (n := snewN) hf1.fit hrm1 C9 (by omega) (by decide) happ) rfl rfl rfl (fun _ => rfl) rfl rfl rfl) ?_; rintro ⟨⟩
  refine Ae Ag rfl (Ab ?_)
  rcases Nat.eq_zero_or_pos e2 with he2 | he2
  rw [if_neg (by omega)] at h
  have hren : Ie d2 snewN snapN = (d', e) := h
  refine Ad (Ae Ag rfl (Aa rfl (.bool false) (fun b w hb hH => AZ rfl rfl rfl (AP (by omega)) hb) (Ab (As rfl (AB (AL (Ad (Ae Ag rfl (Aj rfl (Ak (os' := fun _ => [Ar 5 1 encB fv (GR s), Ar 5 1 encB tv (Id s.d), Ar 5 1 encB u35 ([(UInt8.ofNat s.c.toNat)]), Ar 5 1 encB nw (De s.t), Ar 5 1 encB u42 (Ff s), cell g3 34 #[.int .u64 s.i, .int .u64 s.t, .int .i64 s.c, .slice A s.d.length cp], An p d', X]) [6] 0 (Ai Tryz.func52 (by kernel_rfl) rfl) (Wc (n := snewN) (m := snapN) hf2.fit (by decide) hren) rfl rfl rfl (fun _ => rfl) rfl rfl rfl) ?_))))))))); rintro ⟨⟩
  refine Ae Ag rfl (Ab (Ax ?_))
  exact Aw (.tmp rfl) (fun w h => AH () rfl [6, 7] rfl h CK) rfl
  rw [if_pos (by omega)] at h
  obtain ⟨rfl, rfl⟩ : d2 = d' ∧ e2 = e := Prod.mk.inj h
  refine Ad (Ae Ag rfl (Aa rfl (.bool true) (fun b w hb hH => AZ rfl rfl rfl (BO (by omega)) hb) (Ab (AI rfl (Ad (Ae Ag rfl (Ab (Ax (C4 ?_)))))))))
  exact Aw (.tmp rfl) (fun w h => AH () rfl [6, 7] rfl h CK) rfl
  have hs2 : (Bx d snewN).isSome = true := by cases h9 : (Bx d snewN).isSome with | true => rfl | false => (exfalso; unfold Ce at hrm; rw [if_neg (by rw [h9]; simp)] at hrm; have := (Prod.mk.inj hrm).2; omega)
  obtain rfl : r = true := hs.symm.trans hs2
  have hdel : Fp d snewN = (d1, e1) := by unfold Ce at hrm; rwa [if_pos hs] at hrm
  rw [if_pos (by omega)] at h
  obtain ⟨rfl, rfl⟩ : d1 = d' ∧ e1 = e := Prod.mk.inj h
  refine Ad (Ae Ag rfl (Aj rfl (Ak (os' := fun _ => [cell g3 34 #[.int .u64 s.i, .int .u64 s.t, .int .i64 s.c, .slice A s.d.length cp], An p d, X]) [1] 0 (Ai Tryz.func36 (by kernel_rfl) rfl) (O7 (n := snewN) hs) rfl rfl rfl (fun _ => rfl) rfl rfl rfl) ?_)); rintro ⟨⟩
  refine Ab (AI rfl (Ad (Ae Ag rfl (Aj rfl (Ak (os' := fun _ => [cell g3 34 #[.int .u64 s.i, .int .u64 s.t, .int .i64 s.c, .slice A s.d.length cp], An p d1, X]) [1] 0 (Ai Tryz.func37 (by kernel_rfl) rfl) (Jz (n := snewN) hf.fit hdel) rfl rfl rfl (fun _ => rfl) rfl rfl rfl) ?_)))); rintro ⟨⟩
  refine Ae Ag rfl (Ab (Ad (Ae Ag rfl (Aa rfl (.bool true) (fun b w hb hH => AZ rfl rfl rfl (BO (by omega)) hb) (Ab (AI rfl (Ad (Ae Ag rfl (Ab (Ax (C4 ?_)))))))))))
  exact Aw (.tmp rfl) (fun w h => AH () rfl [1, 2] rfl h CK) rfl
theorem QI (w : World) {p : Nat} {s : SnV} {A : Option Addr} {cp : Nat} (hb : D9 s = false) : Calls Tryz.prog 18 #[.pointer (some ⟨p, 0, none⟩), .agg #[.int .u64 s.i, .int .u64 s.t, .int .i64 s.c, .slice A s.d.length cp]] w fun e w' => e = .returned (.int .i64 1) ∧ Below w.heap.size w w' := by
 refine Fj (args := [.pointer (some ⟨p, 0, none⟩), .agg #[.int .u64 s.i, .int .u64 s.t, .int .i64 s.c, .slice A s.d.length cp]]) 50 Tryz.func18 rfl rfl rfl (Ad (Ae Ag rfl (Aj (post := fun g3 => [cell g3 34 #[.int .u64 s.i, .int .u64 s.t, .int .i64 s.c, .slice A s.d.length cp]]) rfl (CL (cs := #[.int .u64 s.i, .int .u64 s.t, .int .i64 s.c, .slice A s.d.length cp]) rfl rfl rfl) ?_))); rintro g3
 refine Ae Ag rfl (Ab (Av (Ad (Ae Ag rfl (Aa rfl (.bool false) (fun b w hb hH => Ct (by kernel_rfl) rfl rfl rfl hb) (Ae Ag rfl (Aa rfl (.agg #[.int .u64 s.i, .int .u64 s.t, .int .i64 s.c, .slice A s.d.length cp]) (fun b w hb hH => Ba rfl rfl (DM (cs := [.int .u64 s.i, .int .u64 s.t, .int .i64 s.c, .slice A s.d.length cp]) Aq rfl) (hH.row 0 rfl) hb) (Aj (post := fun _ => [cell g3 34 #[.int .u64 s.i, .int .u64 s.t, .int .i64 s.c, .slice A s.d.length cp]]) rfl (AU (Ai Tryz.func16 (by kernel_rfl) rfl) (fun w hH => FC w false hb) rfl rfl rfl) ?_)))))))); rintro ⟨⟩
 refine Ae Ag rfl (Ab (AI rfl (Ad (Ae Ag rfl (Ab (Ax (C4 ?_)))))))
 exact Aw (.tmp rfl) (fun w h => ⟨rfl, AA h.up⟩) rfl
end Go.Proofs.YtjcfimmcogkopaaGreat.Sep
