/-
  HdV
-/
import Derived.Test.YtnknboibmifacaaGreatPL01
import Derived.Test.YtnknboibmifacaaGreatPQ01
set_option linter.unusedSimpArgs false
set_option linter.unusedVariables false
set_option maxRecDepth 100000
namespace Go.Proofs.YtnknboibmifacaaGreat.Sep
open Go.RowKit
open Go.Proofs.YtnknboibmifacaaGreat.Mem (Bl Co Chg AG)
theorem PQ {X : Ass} {v : Value} {y r : List UInt8} (hX : CX X v y) (hl : y.length ≤ 140737488351232) (hr : Bc y = r) : AU Tryz.prog 19 #[v] [X] (fun v : Value => v) (fun v => [X, As 5 1 encB v r]) := fun w rs h1 h2 h3 => by
 have hXr := Ap.one' h1
 obtain ⟨A0, c0, rfl, _⟩ := hX rs w hXr h2
 exact VP hX hl hr w rs h1 h2 h3
theorem UZ (d : DiskD) : (Be d).1.room = d.room := by
  unfold Be
  split
  · unfold GH
    rcases EM d with ⟨_, hb⟩ | ⟨_, _, hb⟩ | ⟨_, k, _, hb⟩ | ⟨_, _, hb⟩ <;> rw [hb] <;> simp only
    · rw [if_pos (by simp)]
    · rw [if_pos (by simp)]
    · rw [if_neg (by simp)]
      split <;> rfl
    · rw [if_neg (by simp)]
      split <;> rfl
  · rfl
theorem PR {p : Nat} {d d' : DiskD} {z : HV} {e : Nat} (hk : E5 z) (hf : d.fitK 3) (hrm : 0 ≤ d.room ∧ d.room ≤ 1048576) (h : Et d z = (d', e)) : AU Tryz.prog 17 #[.pointer (some ⟨p, 0, none⟩), .agg #[.int .u64 ((z.1 : Nat) : Int), .int .i64 ((z.2 : Nat) : Int)]] [Au p d] (fun (_ : Unit) => .int .i64 (e : Int)) (fun (_ : Unit) => [Au p d']) := by
  refine Bd (args := [.pointer (some ⟨p, 0, none⟩), .agg #[.int .u64 ((z.1 : Nat) : Int), .int .i64 ((z.2 : Nat) : Int)]]) 52 Tryz.func17 rfl rfl rfl ?_; intro w rs
  have hk1 := hk.1
  have hk2 := hk.2
  have hll := F8 hk
  have hfl := Lo hk
  obtain ⟨b, hb⟩ : ∃ b, (BJ d hardN).getD [] = b := ⟨_, rfl⟩
  obtain ⟨ok, hok⟩ : ∃ ok, (BJ d hardN).isSome = ok := ⟨_, rfl⟩
  unfold Et at h
  rw [hb] at h
  refine Ad ?_
  refine Ae Ai rfl ?_
  refine Aj (post := fun g3 => [cell g3 31 #[.int .u64 ((z.1 : Nat) : Int), .int .i64 ((z.2 : Nat) : Int)], Au p d]) rfl (CC (cs := #[.int .u64 ((z.1 : Nat) : Int), .int .i64 ((z.2 : Nat) : Int)]) rfl rfl rfl) ?_; rintro g3
  refine Ae Ai rfl ?_
  refine Aa (Aq (Ad ?_))
  refine Ae Ai rfl ?_
  refine Ab rfl (.bool false) (fun b w hb hH => CJ (by kernel_rfl) rfl rfl rfl hb) ?_
  refine Ae Ai rfl ?_
  refine Ab rfl (.agg #[.int .u64 ((z.1 : Nat) : Int), .int .i64 ((z.2 : Nat) : Int)]) (fun b w hb hH => A6 rfl rfl (D3 (cs := [.int .u64 ((z.1 : Nat) : Int), .int .i64 ((z.2 : Nat) : Int)]) Am rfl) (hH.row 0 rfl) hb) ?_
  refine Aj (post := fun _ => [cell g3 31 #[.int .u64 ((z.1 : Nat) : Int), .int .i64 ((z.2 : Nat) : Int)], Au p d]) rfl (By (Ah Tryz.func15 (by kernel_rfl) rfl) (fun w hH => M3 w _ _ true (by have := hk.1; have := hk.2; simp; omega)) rfl rfl rfl) ?_; rintro ⟨⟩
  refine Ae Ai rfl ?_
  refine Aa (Ar rfl (Ax (AE (Aq ?_))))
  refine EF 3 rfl ?_
  refine BO 9 4 [⟨.quiet, [none, none, none, none], fun _ => .pointer (some ⟨g3, 0, none⟩), []⟩, ⟨.quiet, [none, none, none, none], fun _ => .int .u64 ((z.1 : Nat) : Int), [0]⟩, ⟨.act 0, [some false, none, some false, some false], fun _ => undef, [1]⟩, ⟨.quiet, [none, none, none, none], fun _ => .pointer (some ⟨g3, 1, none⟩), []⟩, ⟨.quiet, [none, none, none, none], fun _ => .int .i64 ((z.2 : Nat) : Int), [3]⟩, ⟨.quiet, [none, none, none, none], fun _ => .int .u8 (((UInt8.ofNat z.2).toNat : Nat) : Int), [4]⟩, ⟨.act 1, [none, some false, some false, some false], fun _ => undef, [5]⟩, ⟨.act 2, [some true, some true, some false, some false], fun _ => undef, [2, 6]⟩, ⟨.act 3, [some true, some true, some true, some false], fun _ => undef, [7]⟩] [(0, .pointer (some ⟨p, 0, none⟩)), (3, .pointer (some ⟨g3, 0, none⟩)), (4, .int .i64 0)] (fun ρ => match ρ with | [r0, r1, r2, r3] => [CD r3 (fun fv => As 5 1 encB fv (Bc (layH z))) (D1), CD r1 (fun u23 => As 5 1 encB u23 ([(UInt8.ofNat z.2)])) (D1), CD r2 (fun u24 => As 5 1 encB u24 (layH z)) (CD r0 (fun nv => As 5 1 encB nv (Jy ((z.1 : Nat) : Int))) (D1)), cell g3 31 #[.int .u64 ((z.1 : Nat) : Int), .int .i64 ((z.2 : Nat) : Int)], Au p d] | _ => []) (by kernel_rfl) (by kernel_rfl) ⟨rfl, rfl, rfl, trivial⟩ rfl ?_ ?_
  · skip
    refine Ac (by intro r0_ r1_ r2_ r3_; exact ⟨rfl, fun b w hH hb => Af Ai rfl hb⟩) ?_
    refine Ac (by intro r0_ r1_ r2_ r3_; exact ⟨rfl, fun b w hH hb => A6 rfl rfl (Bk Dg rfl) (hH.row 3 rfl) hb⟩) ?_
    refine Ac (by intro r1_; exact ⟨rfl, Bp.s (Al (os' := fun nv => [D1, CD r1_ (fun u23 => As 5 1 encB u23 ([(UInt8.ofNat z.2)])) (D1), As 5 1 encB nv (Jy ((z.1 : Nat) : Int)), cell g3 31 #[.int .u64 ((z.1 : Nat) : Int), .int .i64 ((z.2 : Nat) : Int)], Au p d]) [2] 1 (Ah Tryz.func46 (by kernel_rfl) rfl) (Vs ((z.1 : Nat) : Int) ⟨by omega, by omega⟩) rfl rfl rfl (fun _ => rfl) rfl rfl rfl) (fun _ => rfl)⟩) ?_
    refine Ac (by intro r0_ r1_ r2_ r3_; exact ⟨rfl, fun b w hH hb => Af Ai rfl hb⟩) ?_
    refine Ac (by intro r0_ r1_ r2_ r3_; exact ⟨rfl, fun b w hH hb => A6 rfl rfl (Bk AR rfl) (hH.row 3 rfl) hb⟩) ?_
    refine Ac (by intro r0_ r1_ r2_ r3_; exact ⟨rfl, fun b w hH hb => AY Tryz.underlying3 Tryz.underlying5 (C4 z.2) rfl rfl hb⟩) ?_
    refine Ac (by intro r0_; exact ⟨rfl, Bp.s (Bp.place (val := fun u23 : Value => u23) (t := fun u23 => As 5 1 encB u23 ([(UInt8.ofNat z.2)])) (os' := fun u23 => [D1, As 5 1 encB u23 ([(UInt8.ofNat z.2)]), CD r0_ (fun nv => As 5 1 encB nv (Jy ((z.1 : Nat) : Int))) (D1), cell g3 31 #[.int .u64 ((z.1 : Nat) : Int), .int .i64 ((z.2 : Nat) : Int)], Au p d]) 1 rfl (by refine KH (e := 5) (t := 48) (enc := encB) (x := .tmp 22) (c := .int .u8 (((UInt8.ofNat z.2)).toNat : Int)) ?_ ?_ (UInt8.ofNat z.2) ?_ ?_ ?_; exact AJ; exact EQ; exact rfl; exact rfl; exact rfl) (fun _ => rfl)) (fun _ => rfl)⟩) ?_
    refine Ac (by intro nv u23; exact ⟨rfl, Bp.s (DB 2 AJ EQ rfl ([(UInt8.ofNat z.2)]) (fun w hH => hH.vec 1 rfl EQ) (by have := Sr (n := ((z.1 : Nat) : Int)) ⟨by omega, by omega⟩; simp only [List.length_cons, List.length_nil]; omega) rfl rfl rfl (by rw [Jy, Int.toNat_natCast]; rfl)) (fun _ => rfl)⟩) ?_
    refine Ac (by intro nv u23 u24; exact ⟨rfl, Bp.s (Al (os' := fun fv => [As 5 1 encB fv (Bc (layH z)), As 5 1 encB u23 ([(UInt8.ofNat z.2)]), As 5 1 encB u24 (layH z), cell g3 31 #[.int .u64 ((z.1 : Nat) : Int), .int .i64 ((z.2 : Nat) : Int)], Au p d]) [2, 0] 1 (Ah Tryz.func19 (by kernel_rfl) rfl) (PQ CU (by omega) rfl) rfl rfl rfl (fun _ => rfl) rfl rfl rfl) (fun _ => rfl)⟩) ?_
    exact B2
  intro nv u23 u24 fv
  refine Cg.keep (env' := [(0, .pointer (some ⟨p, 0, none⟩)), (4, .int .i64 0), (25, fv)]) ⟨rfl, rfl, rfl, trivial⟩ ?_
  refine Ae Ai rfl ?_
  refine AP (AE (Ad ?_))
  refine Ae Ai rfl ?_
  refine Aj rfl (Al (os' := fun rv => [As 5 1 encB fv (Bc (layH z)), As 5 1 encB u23 ([(UInt8.ofNat z.2)]), As 5 1 encB u24 (layH z), cell g3 31 #[.int .u64 ((z.1 : Nat) : Int), .int .i64 ((z.2 : Nat) : Int)], Ca p d rv b]) [4] 0 (Ah Tryz.func37 (by kernel_rfl) rfl) (JV (n := hardN) hok hb) rfl rfl rfl (fun _ => rfl) rfl rfl rfl) ?_; rintro rv
  refine Ae Ai rfl ?_
  refine Aa (Aq ?_)
  rcases Nat.lt_or_ge b.length 256 with hlt | hge
  · skip
    rw [if_pos hlt] at h
    refine Ad ?_
    refine Ae Ai rfl ?_
    refine Ab rfl (.int .i64 (b.length : Int)) (fun b w hb hH => AT (((hH.rd8 4 rfl EZ).rd)) Tryz.underlying48 rfl rfl hb) ?_
    refine Ab rfl (.bool true) (fun b w hb hH => AV rfl rfl rfl (A7 (by omega)) hb) ?_
    refine Aa (AC rfl ?_)
    refine AX [4] rfl DQ rfl ?_
    refine Ad ?_
    refine Ae Ai rfl ?_
    refine Aj rfl (Al (os' := fun _ => [Au p d', As 5 1 encB fv (Bc (layH z)), As 5 1 encB u23 ([(UInt8.ofNat z.2)]), As 5 1 encB u24 (layH z), cell g3 31 #[.int .u64 ((z.1 : Nat) : Int), .int .i64 ((z.2 : Nat) : Int)]]) [0, 1] 0 (Ah Tryz.func22 (by kernel_rfl) rfl) (Kt (n := hardN) hf.fit hrm CU (by omega) (by decide) h) rfl rfl rfl (fun _ => rfl) rfl rfl rfl) ?_; rintro ⟨⟩
    refine Ae Ai rfl ?_
    refine Aa (Ay (CM ?_))
    exact Av (.tmp rfl) (fun w h => AB () rfl [0] rfl h Cl) rfl
  · skip
    rw [if_neg (by omega)] at h
    unfold GC at h
    obtain ⟨⟨d1, e1⟩, hrm9⟩ : ∃ R, Be d = R := ⟨_, rfl⟩
    have hr1 : (Be d).1 = d1 := by rw [hrm9]
    have hf1 : d1.fitK 2 := by rw [← hr1]; exact Jg hf
    have hrm1 : 0 ≤ d1.room ∧ d1.room ≤ 1048576 := by rw [← hr1, UZ]; exact hrm
    obtain ⟨⟨d2, e2⟩, happ⟩ : ∃ R, Cp d1 newN (Bc (layH z)) = R := ⟨_, rfl⟩
    have hf2 : d2.fitK 1 := by have := FL (n := newN) (b := Bc (layH z)) hf1 (by omega); rwa [happ] at this
    rw [hrm9] at h
    simp only at h
    rw [happ] at h
    simp only at h
    refine Ad ?_
    refine Ae Ai rfl ?_
    refine Ab rfl (.int .i64 (b.length : Int)) (fun b w hb hH => AT (((hH.rd8 4 rfl EZ).rd)) Tryz.underlying48 rfl rfl hb) ?_
    refine Ab rfl (.bool false) (fun b w hb hH => AV rfl rfl rfl (Bn (by omega)) hb) ?_
    refine Aa (Ar rfl (Ax (AE (Aq ?_))))
    rcases hs : (BJ d newN).isSome with _ | _
    · skip
      obtain ⟨hdd, he1⟩ : d = d1 ∧ 0 = e1 := by unfold Be at hrm9; rw [if_neg (by rw [hs]; simp)] at hrm9; exact Prod.mk.inj hrm9
      rw [if_neg (by omega)] at h
      refine AX [4] rfl DQ rfl ?_
      refine Ad ?_
      refine Ae Ai rfl ?_
      refine Aj rfl (Al (os' := fun _ => [Au p d, As 5 1 encB fv (Bc (layH z)), As 5 1 encB u23 ([(UInt8.ofNat z.2)]), As 5 1 encB u24 (layH z), cell g3 31 #[.int .u64 ((z.1 : Nat) : Int), .int .i64 ((z.2 : Nat) : Int)]]) [0] 0 (Ah Tryz.func35 (by kernel_rfl) rfl) (QM (n := newN) hs) rfl rfl rfl (fun _ => rfl) rfl rfl rfl) ?_; rintro ⟨⟩
      refine Aa (Ar rfl (Ax (AE (Aq ?_))))
      rw [hdd]
      refine Ad ?_
      refine Ae Ai rfl ?_
      refine Aj rfl (Al (os' := fun _ => [Au p d2, As 5 1 encB fv (Bc (layH z)), As 5 1 encB u23 ([(UInt8.ofNat z.2)]), As 5 1 encB u24 (layH z), cell g3 31 #[.int .u64 ((z.1 : Nat) : Int), .int .i64 ((z.2 : Nat) : Int)]]) [0, 1] 0 (Ah Tryz.func22 (by kernel_rfl) rfl) (Kt (n := newN) hf1.fit hrm1 CU (by omega) (by decide) happ) rfl rfl rfl (fun _ => rfl) rfl rfl rfl) ?_; rintro ⟨⟩
      refine Ae Ai rfl ?_
      refine Aa ?_
      rcases Nat.eq_zero_or_pos e2 with he2 | he2
      · skip
        rw [if_neg (by omega)] at h
        have hren : I4 d2 newN hardN = (d', e) := h
        refine Ad ?_
        refine Ae Ai rfl ?_
        refine Ab rfl (.bool false) (fun b w hb hH => AV rfl rfl rfl (AS (by omega)) hb) ?_
        refine Aa (Ar rfl (Ax (AE (Ad ?_))))
        refine Ae Ai rfl ?_
        refine Aj rfl (Al (os' := fun _ => [Au p d', As 5 1 encB fv (Bc (layH z)), As 5 1 encB u23 ([(UInt8.ofNat z.2)]), As 5 1 encB u24 (layH z), cell g3 31 #[.int .u64 ((z.1 : Nat) : Int), .int .i64 ((z.2 : Nat) : Int)]]) [0] 0 (Ah Tryz.func47 (by kernel_rfl) rfl) (QI (n := newN) (m := hardN) hf2.fit (by decide) hren) rfl rfl rfl (fun _ => rfl) rfl rfl rfl) ?_; rintro ⟨⟩
        refine Ae Ai rfl ?_
        refine Aa (Ay ?_)
        exact Av (.tmp rfl) (fun w h => AB () rfl [0] rfl h Cl) rfl
      · skip
        rw [if_pos (by omega)] at h
        obtain ⟨rfl, rfl⟩ : d2 = d' ∧ e2 = e := Prod.mk.inj h
        refine Ad ?_
        refine Ae Ai rfl ?_
        refine Ab rfl (.bool true) (fun b w hb hH => AV rfl rfl rfl (BQ (by omega)) hb) ?_
        refine Aa (AC rfl (Ad ?_))
        refine Ae Ai rfl ?_
        refine Aa (Ay (CM ?_))
        exact Av (.tmp rfl) (fun w h => AB () rfl [0] rfl h Cl) rfl
    · skip
      have hdel : GH d newN = (d1, e1) := by unfold Be at hrm9; rwa [if_pos hs] at hrm9
      refine AX [4] rfl DQ rfl ?_
      refine Ad ?_
      refine Ae Ai rfl ?_
      refine Aj rfl (Al (os' := fun _ => [Au p d, As 5 1 encB fv (Bc (layH z)), As 5 1 encB u23 ([(UInt8.ofNat z.2)]), As 5 1 encB u24 (layH z), cell g3 31 #[.int .u64 ((z.1 : Nat) : Int), .int .i64 ((z.2 : Nat) : Int)]]) [0] 0 (Ah Tryz.func35 (by kernel_rfl) rfl) (QM (n := newN) hs) rfl rfl rfl (fun _ => rfl) rfl rfl rfl) ?_; rintro ⟨⟩
      refine Aa (AC rfl (Ad ?_))
      refine Ae Ai rfl ?_
      refine Aj rfl (Al (os' := fun _ => [Au p d1, As 5 1 encB fv (Bc (layH z)), As 5 1 encB u23 ([(UInt8.ofNat z.2)]), As 5 1 encB u24 (layH z), cell g3 31 #[.int .u64 ((z.1 : Nat) : Int), .int .i64 ((z.2 : Nat) : Int)]]) [0] 0 (Ah Tryz.func36 (by kernel_rfl) rfl) (M0 (n := newN) hf.fit hdel) rfl rfl rfl (fun _ => rfl) rfl rfl rfl) ?_; rintro ⟨⟩
      refine Ae Ai rfl ?_
      refine Aa ?_
      rcases Nat.eq_zero_or_pos e1 with he1 | he1
      · skip
        rw [if_neg (by omega)] at h
        refine Ad ?_
        refine Ae Ai rfl ?_
        refine Ab rfl (.bool false) (fun b w hb hH => AV rfl rfl rfl (AS (by omega)) hb) ?_
        refine Aa (Ar rfl (Ax (AE (Aq (Ad ?_)))))
        refine Ae Ai rfl ?_
        refine Aj rfl (Al (os' := fun _ => [Au p d2, As 5 1 encB fv (Bc (layH z)), As 5 1 encB u23 ([(UInt8.ofNat z.2)]), As 5 1 encB u24 (layH z), cell g3 31 #[.int .u64 ((z.1 : Nat) : Int), .int .i64 ((z.2 : Nat) : Int)]]) [0, 1] 0 (Ah Tryz.func22 (by kernel_rfl) rfl) (Kt (n := newN) hf1.fit hrm1 CU (by omega) (by decide) happ) rfl rfl rfl (fun _ => rfl) rfl rfl rfl) ?_; rintro ⟨⟩
        refine Ae Ai rfl ?_
        refine Aa ?_
        rcases Nat.eq_zero_or_pos e2 with he2 | he2
        · skip
          rw [if_neg (by omega)] at h
          have hren : I4 d2 newN hardN = (d', e) := h
          refine Ad ?_
          refine Ae Ai rfl ?_
          refine Ab rfl (.bool false) (fun b w hb hH => AV rfl rfl rfl (AS (by omega)) hb) ?_
          refine Aa (Ar rfl (Ax (AE (Ad ?_))))
          refine Ae Ai rfl ?_
          refine Aj rfl (Al (os' := fun _ => [Au p d', As 5 1 encB fv (Bc (layH z)), As 5 1 encB u23 ([(UInt8.ofNat z.2)]), As 5 1 encB u24 (layH z), cell g3 31 #[.int .u64 ((z.1 : Nat) : Int), .int .i64 ((z.2 : Nat) : Int)]]) [0] 0 (Ah Tryz.func47 (by kernel_rfl) rfl) (QI (n := newN) (m := hardN) hf2.fit (by decide) hren) rfl rfl rfl (fun _ => rfl) rfl rfl rfl) ?_; rintro ⟨⟩
          refine Ae Ai rfl ?_
          refine Aa (Ay ?_)
          exact Av (.tmp rfl) (fun w h => AB () rfl [0] rfl h Cl) rfl
        · skip
          rw [if_pos (by omega)] at h
          obtain ⟨rfl, rfl⟩ : d2 = d' ∧ e2 = e := Prod.mk.inj h
          refine Ad ?_
          refine Ae Ai rfl ?_
          refine Ab rfl (.bool true) (fun b w hb hH => AV rfl rfl rfl (BQ (by omega)) hb) ?_
          refine Aa (AC rfl (Ad ?_))
          refine Ae Ai rfl ?_
          refine Aa (Ay (CM ?_))
          exact Av (.tmp rfl) (fun w h => AB () rfl [0] rfl h Cl) rfl
      · skip
        rw [if_pos (by omega)] at h
        obtain ⟨rfl, rfl⟩ : d1 = d' ∧ e1 = e := Prod.mk.inj h
        refine Ad ?_
        refine Ae Ai rfl ?_
        refine Ab rfl (.bool true) (fun b w hb hH => AV rfl rfl rfl (BQ (by omega)) hb) ?_
        refine Aa (AC rfl (Ad ?_))
        refine Ae Ai rfl ?_
        refine Aa (Ay (CM ?_))
        exact Av (.tmp rfl) (fun w h => AB () rfl [0] rfl h Cl) rfl
theorem R3 (w : World) {p : Nat} (t v : Int) (hb : (decide (t ≤ 72057594037927935) && (decide (v ≥ 0) && decide (v ≤ 7))) = false) : Calls Tryz.prog 17 #[.pointer (some ⟨p, 0, none⟩), .agg #[.int .u64 t, .int .i64 v]] w fun e w' => e = .returned (.int .i64 1) ∧ Below w.heap.size w w' := by
 refine Fy (args := [.pointer (some ⟨p, 0, none⟩), .agg #[.int .u64 t, .int .i64 v]]) 52 Tryz.func17 rfl rfl rfl ?_
 refine Ad ?_
 refine Ae Ai rfl ?_
 refine Aj (post := fun g3 => [cell g3 31 #[.int .u64 t, .int .i64 v]]) rfl (CC (cs := #[.int .u64 t, .int .i64 v]) rfl rfl rfl) ?_; rintro g3
 refine Ae Ai rfl ?_
 refine Aa (Aq (Ad ?_))
 refine Ae Ai rfl ?_
 refine Ab rfl (.bool false) (fun b w hb hH => CJ (by kernel_rfl) rfl rfl rfl hb) ?_
 refine Ae Ai rfl ?_
 refine Ab rfl (.agg #[.int .u64 t, .int .i64 v]) (fun b w hb hH => A6 rfl rfl (D3 (cs := [.int .u64 t, .int .i64 v]) Am rfl) (hH.row 0 rfl) hb) ?_
 refine Aj (post := fun _ => [cell g3 31 #[.int .u64 t, .int .i64 v]]) rfl (By (Ah Tryz.func15 (by kernel_rfl) rfl) (fun w hH => M3 w t v false hb) rfl rfl rfl) ?_; rintro ⟨⟩
 refine Ae Ai rfl ?_
 refine Aa (AC rfl (Ad ?_))
 refine Ae Ai rfl ?_
 refine Aa (Ay (CM ?_))
 exact Av (.tmp rfl) (fun w h => ⟨rfl, AG h.up⟩) rfl
end Go.Proofs.YtnknboibmifacaaGreat.Sep
