/-
  HdC
-/
import Derived.Test.YtnknboibmifacaaGreatPE01
import Derived.Test.YtnknboibmifacaaGreatPF01
import Derived.Test.YtnknboibmifacaaGreatPJ02
set_option linter.unusedSimpArgs false
set_option linter.unusedVariables false
set_option maxRecDepth 100000
namespace Go.Proofs.YtnknboibmifacaaGreat.Sep
open Go.RowKit
open Go.Proofs.YtnknboibmifacaaGreat.Mem (Bl Co Chg AG)
theorem Tx {d : DiskD} {d1 : DiskD} {e : Nat} (h : Be d = (d1, e)) : (Be d).1 = d1 ∧ (Be d).2 = e := by rw [h]; exact ⟨rfl, rfl⟩
theorem GD {p : Nat} {d d' : DiskD} {z : HV} {e : Nat} (hf : d.fitK 2) (hbl : ∀ b, (BJ (Be d).1 hardN).getD [] = b → b.length ≤ 137438953472) (h : DF d = (d', z, e)) : AU Tryz.prog 11 #[.pointer (some ⟨p, 0, none⟩)] [Ao p d] (fun (_ : Unit) => .tuple #[.agg #[.int .u64 ((z.1 : Nat) : Int), .int .i64 ((z.2 : Nat) : Int)], .int .i64 (e : Int)]) (fun (_ : Unit) => [Ao p d']) := by
  refine Bd (args := [.pointer (some ⟨p, 0, none⟩)]) 41 Tryz.func11 rfl rfl rfl ?_; intro w rs
  obtain ⟨⟨d1, e1⟩, hrm⟩ : ∃ R, Be d = R := ⟨_, rfl⟩
  obtain ⟨hr1, hr2⟩ := Tx hrm
  have hf1 : d1.fitK 1 := by rw [← hr1]; exact Jg hf
  obtain ⟨b, hb⟩ : ∃ b, (BJ d1 hardN).getD [] = b := ⟨_, rfl⟩
  obtain ⟨⟨z1, n1⟩, hlat⟩ : ∃ R, Iu b = R := ⟨_, rfl⟩
  obtain ⟨⟨d2, e2⟩, hcut⟩ : ∃ R, I3 d1 hardN (n1 : Int) = R := ⟨_, rfl⟩
  unfold DF at h
  rw [hr1, hr2, hb, hlat] at h
  simp only at h
  rw [hcut] at h
  simp only at h
  obtain ⟨ok, hok⟩ : ∃ ok, (BJ d1 hardN).isSome = ok := ⟨_, rfl⟩
  replace hbl : b.length ≤ 137438953472 := hbl b (by rw [hr1]; exact hb)
  refine Ad ?_
  refine Ae Ai rfl ?_
  refine Aj (post := fun g2 => [cell g2 31 #[.int .u64 0, .int .i64 0], Ao p d]) rfl (BS Bq rfl) ?_; rintro g2
  refine Ae Ai rfl ?_
  refine Aa (Aq (Ad ?_))
  refine Ae Ai rfl ?_
  refine Ab rfl (.bool false) (fun b w hb hH => CJ (by kernel_rfl) rfl rfl rfl hb) ?_
  refine Aa (Ar rfl (Ax (AE (Aq (Ad ?_)))))
  refine Ae Ai rfl ?_
  refine Aj rfl (Al (os' := fun _ => [cell g2 31 #[.int .u64 0, .int .i64 0], Ao p d1]) [1] 0 (Ah Tryz.func31 (by kernel_rfl) rfl) (Lq hf.fit hrm) rfl rfl rfl (fun _ => rfl) rfl rfl rfl) ?_; rintro ⟨⟩
  refine Ae Ai rfl ?_
  refine Aa ?_
  rcases Nat.eq_zero_or_pos e1 with he1 | he1
  · skip
    rw [if_neg (by omega)] at h
    refine Ad ?_
    refine Ae Ai rfl ?_
    refine Ab rfl (.bool false) (fun b w hb hH => AV rfl rfl rfl (AS (by omega)) hb) ?_
    refine Aa (Ar rfl (Ax (AE (Ad ?_))))
    refine Ae Ai rfl ?_
    refine Aj rfl (Al (os' := fun bv => [As 5 1 encB bv b, cell g2 31 #[.int .u64 0, .int .i64 0], Ao p d1]) [1] 0 (Ah Tryz.func32 (by kernel_rfl) rfl) (F6 (n := hardN) hf1.fit hok hb) rfl rfl rfl (fun _ => rfl) rfl rfl rfl) ?_; rintro bv
    refine Ae Ai rfl ?_
    refine Aa (Ad ?_)
    refine Ae Ai rfl ?_
    refine Aj rfl (Al (os' := fun _ => [As 5 1 encB bv b, cell g2 31 #[.int .u64 0, .int .i64 0], Ao p d1]) [0] 0 (Ah Tryz.func33 (by kernel_rfl) rfl) (Od (y := b) CU hbl hlat) rfl rfl rfl (fun _ => rfl) rfl rfl rfl) ?_; rintro ⟨⟩
    refine Ae Ai rfl ?_
    refine Aj (post := fun g7 => [cell g7 31 #[.int .u64 0, .int .i64 0], As 5 1 encB bv b, cell g2 31 #[.int .u64 0, .int .i64 0], Ao p d1]) rfl (BS Bq rfl) ?_; rintro g7
    refine AH (post := fun _ => [cell g7 31 #[.int .u64 ((z1.1 : Nat) : Int), .int .i64 ((z1.2 : Nat) : Int)], As 5 1 encB bv b, cell g2 31 #[.int .u64 0, .int .i64 0], Ao p d1]) rfl rfl (AD 0 (v := .agg #[.int .u64 ((z1.1 : Nat) : Int), .int .i64 ((z1.2 : Nat) : Int)]) #[.int .u64 ((z1.1 : Nat) : Int), .int .i64 ((z1.2 : Nat) : Int)] Am.2 rfl rfl rfl rfl rfl rfl rfl rfl rfl) ?_; rintro ⟨⟩
    refine Ae Ai rfl ?_
    refine Aa (Aq ?_)
    rcases Nat.lt_or_ge n1 b.length with hlt | hge
    · skip
      rw [if_pos hlt] at h
      refine Ad ?_
      refine Ae Ai rfl ?_
      refine Ab rfl (.int .i64 (b.length : Int)) (fun b w hb hH => Cv 1 Tryz.underlying48 rfl rfl rfl hH hb) ?_
      refine Ab rfl (.bool true) (fun b w hb hH => AV rfl rfl rfl (A7 (by omega)) hb) ?_
      refine Aa (AC rfl (Ad ?_))
      refine Ae Ai rfl ?_
      refine Aj rfl (Al (os' := fun _ => [cell g7 31 #[.int .u64 ((z1.1 : Nat) : Int), .int .i64 ((z1.2 : Nat) : Int)], As 5 1 encB bv b, cell g2 31 #[.int .u64 0, .int .i64 0], Ao p d2]) [3] 0 (Ah Tryz.func34 (by kernel_rfl) rfl) (LI (n := hardN) hf1.fit hcut) rfl rfl rfl (fun _ => rfl) rfl rfl rfl) ?_; rintro ⟨⟩
      refine Ae Ai rfl ?_
      refine Aa ?_
      rcases Nat.eq_zero_or_pos e2 with he2 | he2
      · skip
        rw [if_neg (by omega)] at h
        obtain ⟨rfl, rfl, rfl⟩ : d2 = d' ∧ z1 = z ∧ 0 = e := by simpa [Prod.ext_iff] using h
        refine Ad ?_
        refine Ae Ai rfl ?_
        refine Ab rfl (.bool false) (fun b w hb hH => AV rfl rfl rfl (AS (by omega)) hb) ?_
        refine Aa (Ar rfl (Ax (AE (Ad ?_))))
        refine Ae Ai rfl ?_
        refine Ab rfl (.agg #[.int .u64 ((z1.1 : Nat) : Int), .int .i64 ((z1.2 : Nat) : Int)]) (fun b w hb hH => A6 rfl rfl (D3 (cs := [.int .u64 ((z1.1 : Nat) : Int), .int .i64 ((z1.2 : Nat) : Int)]) Am rfl) (hH.row 0 rfl) hb) ?_
        refine AH (post := fun _ => [cell g7 31 #[.int .u64 ((z1.1 : Nat) : Int), .int .i64 ((z1.2 : Nat) : Int)], As 5 1 encB bv b, cell g2 31 #[.int .u64 ((z1.1 : Nat) : Int), .int .i64 ((z1.2 : Nat) : Int)], Ao p d2]) rfl rfl (AD 2 (v := .agg #[.int .u64 ((z1.1 : Nat) : Int), .int .i64 ((z1.2 : Nat) : Int)]) #[.int .u64 ((z1.1 : Nat) : Int), .int .i64 ((z1.2 : Nat) : Int)] Am.2 rfl rfl rfl rfl rfl rfl rfl rfl rfl) ?_; rintro ⟨⟩
        refine Ae Ai rfl ?_
        refine Aa (Ay ?_)
        exact B3 (.cell 2 (v := .agg #[.int .u64 ((z1.1 : Nat) : Int), .int .i64 ((z1.2 : Nat) : Int)]) (D3 (cs := [.int .u64 ((z1.1 : Nat) : Int), .int .i64 ((z1.2 : Nat) : Int)]) Am rfl) rfl rfl) (.tmp rfl) (fun w h => AB () rfl [3] rfl h Cl) rfl
      · skip
        rw [if_pos (by omega)] at h
        obtain ⟨rfl, rfl, rfl⟩ : d2 = d' ∧ (0, 0) = z ∧ e2 = e := by simpa [Prod.ext_iff] using h
        refine Ad ?_
        refine Ae Ai rfl ?_
        refine Ab rfl (.bool true) (fun b w hb hH => AV rfl rfl rfl (BQ (by omega)) hb) ?_
        refine Aa (AC rfl (Ad ?_))
        refine Ae Ai rfl ?_
        refine Ab rfl (.agg #[.int .u64 0, .int .i64 0]) (fun b w hb hH => Bg rfl rfl (by kernel_rfl) hb) ?_
        refine Ae Ai rfl ?_
        refine AH (post := fun _ => [cell g7 31 #[.int .u64 ((z1.1 : Nat) : Int), .int .i64 ((z1.2 : Nat) : Int)], As 5 1 encB bv b, cell g2 31 #[.int .u64 0, .int .i64 0], Ao p d2]) rfl rfl (AD 2 (v := .agg #[.int .u64 0, .int .i64 0]) #[.int .u64 0, .int .i64 0] Am.2 rfl rfl rfl rfl rfl rfl rfl rfl rfl) ?_; rintro ⟨⟩
        refine Ae Ai rfl ?_
        refine Aa (Ay (CM ?_))
        exact B3 (.cell 2 (v := .agg #[.int .u64 0, .int .i64 0]) (D3 (cs := [.int .u64 0, .int .i64 0]) Am rfl) rfl rfl) (.tmp rfl) (fun w h => AB () rfl [3] rfl h Cl) rfl
    · skip
      rw [if_neg (by omega)] at h
      obtain ⟨rfl, rfl, rfl⟩ : d1 = d' ∧ z1 = z ∧ 0 = e := by simpa [Prod.ext_iff] using h
      refine Ad ?_
      refine Ae Ai rfl ?_
      refine Ab rfl (.int .i64 (b.length : Int)) (fun b w hb hH => Cv 1 Tryz.underlying48 rfl rfl rfl hH hb) ?_
      refine Ab rfl (.bool false) (fun b w hb hH => AV rfl rfl rfl (Bn (by omega)) hb) ?_
      refine Aa (Ar rfl (Ax (AE (Ad ?_))))
      refine Ae Ai rfl ?_
      refine Ab rfl (.agg #[.int .u64 ((z1.1 : Nat) : Int), .int .i64 ((z1.2 : Nat) : Int)]) (fun b w hb hH => A6 rfl rfl (D3 (cs := [.int .u64 ((z1.1 : Nat) : Int), .int .i64 ((z1.2 : Nat) : Int)]) Am rfl) (hH.row 0 rfl) hb) ?_
      refine AH (post := fun _ => [cell g7 31 #[.int .u64 ((z1.1 : Nat) : Int), .int .i64 ((z1.2 : Nat) : Int)], As 5 1 encB bv b, cell g2 31 #[.int .u64 ((z1.1 : Nat) : Int), .int .i64 ((z1.2 : Nat) : Int)], Ao p d1]) rfl rfl (AD 2 (v := .agg #[.int .u64 ((z1.1 : Nat) : Int), .int .i64 ((z1.2 : Nat) : Int)]) #[.int .u64 ((z1.1 : Nat) : Int), .int .i64 ((z1.2 : Nat) : Int)] Am.2 rfl rfl rfl rfl rfl rfl rfl rfl rfl) ?_; rintro ⟨⟩
      refine Ae Ai rfl ?_
      refine Aa (Ay ?_)
      exact B3 (.cell 2 (v := .agg #[.int .u64 ((z1.1 : Nat) : Int), .int .i64 ((z1.2 : Nat) : Int)]) (D3 (cs := [.int .u64 ((z1.1 : Nat) : Int), .int .i64 ((z1.2 : Nat) : Int)]) Am rfl) rfl rfl) (.tmp rfl) (fun w h => AB () rfl [3] rfl h Cl) rfl
  · skip
    rw [if_pos (by omega)] at h
    obtain ⟨rfl, rfl, rfl⟩ : d1 = d' ∧ (0, 0) = z ∧ e1 = e := by simpa [Prod.ext_iff] using h
    refine Ad ?_
    refine Ae Ai rfl ?_
    refine Ab rfl (.bool true) (fun b w hb hH => AV rfl rfl rfl (BQ (by omega)) hb) ?_
    refine Aa (AC rfl (Ad ?_))
    refine Ae Ai rfl ?_
    refine Ab rfl (.agg #[.int .u64 0, .int .i64 0]) (fun b w hb hH => Bg rfl rfl (by kernel_rfl) hb) ?_
    refine Ae Ai rfl ?_
    refine AH (post := fun _ => [cell g2 31 #[.int .u64 0, .int .i64 0], Ao p d1]) rfl rfl (AD 0 (v := .agg #[.int .u64 0, .int .i64 0]) #[.int .u64 0, .int .i64 0] Am.2 rfl rfl rfl rfl rfl rfl rfl rfl rfl) ?_; rintro ⟨⟩
    refine Ae Ai rfl ?_
    refine Aa (Ay (CM ?_))
    exact B3 (.cell 0 (v := .agg #[.int .u64 0, .int .i64 0]) (D3 (cs := [.int .u64 0, .int .i64 0]) Am rfl) rfl rfl) (.tmp rfl) (fun w h => AB () rfl [1] rfl h Cl) rfl
theorem Oe {p : Nat} {d d' : DiskD} {f : List UInt8} {e : Nat} {X : Ass} {v : Value} (hf : d.fitK 3) (hX : CX X v f) (hfl : f.length ≤ 65536) (h : GC d f = (d', e)) : AU Tryz.prog 45 #[.pointer (some ⟨p, 0, none⟩), v] [Ao p d, X] (fun (_ : Unit) => .int .i64 (e : Int)) (fun (_ : Unit) => [Ao p d', X]) := by
  refine Bd (args := [.pointer (some ⟨p, 0, none⟩), v]) 20 Tryz.func45 rfl rfl rfl ?_; intro w rs
  obtain ⟨⟨d1, e1⟩, hrm⟩ : ∃ R, Be d = R := ⟨_, rfl⟩
  obtain ⟨hr1, hr2⟩ := Tx hrm
  have hf1 : d1.fitK 2 := by rw [← hr1]; exact Jg hf
  obtain ⟨⟨d2, e2⟩, happ⟩ : ∃ R, Cp d1 newN f = R := ⟨_, rfl⟩
  have hf2 : d2.fitK 1 := by have := FL (n := newN) (b := f) hf1 hfl; rwa [happ] at this
  unfold GC at h
  rw [hrm] at h
  simp only at h
  rw [happ] at h
  simp only at h
  refine Ad ?_
  refine Ae Ai rfl ?_
  refine Aa (Aq (Ad ?_))
  refine Ae Ai rfl ?_
  refine Aj rfl (Al (os' := fun _ => [Ao p d1, X]) [0] 0 (Ah Tryz.func31 (by kernel_rfl) rfl) (Lq hf.fit hrm) rfl rfl rfl (fun _ => rfl) rfl rfl rfl) ?_; rintro ⟨⟩
  refine Ae Ai rfl ?_
  refine Aa ?_
  rcases Nat.eq_zero_or_pos e1 with he1 | he1
  · skip
    rw [if_neg (by omega)] at h
    refine Ad ?_
    refine Ae Ai rfl ?_
    refine Ab rfl (.bool false) (fun b w hb hH => AV rfl rfl rfl (AS (by omega)) hb) ?_
    refine Aa (Ar rfl (Ax (AE (Aq (Ad ?_)))))
    refine Ae Ai rfl ?_
    refine Aj rfl (Al (os' := fun _ => [Ao p d2, X]) [0, 1] 0 (Ah Tryz.func21 (by kernel_rfl) rfl) (G2 (n := newN) hf1.fit (by omega) hX happ) rfl rfl rfl (fun _ => rfl) rfl rfl rfl) ?_; rintro ⟨⟩
    refine Ae Ai rfl ?_
    refine Aa ?_
    rcases Nat.eq_zero_or_pos e2 with he2 | he2
    · skip
      rw [if_neg (by omega)] at h
      have hren : I4 d2 newN hardN = (d', e) := h
      refine Ad ?_
      refine Ae Ai rfl ?_
      refine Ab rfl (.bool false) (fun b w hb hH => AV rfl rfl rfl (AS (by omega)) hb) ?_
      refine Aa (Ar rfl (Ax (AE (Ad ?_))))
      refine Ae Ai rfl ?_
      refine Aj rfl (Al (os' := fun _ => [Ao p d', X]) [0] 0 (Ah Tryz.func79 (by kernel_rfl) rfl) (NV (n := newN) (b := hardN) hf2.fit hren) rfl rfl rfl (fun _ => rfl) rfl rfl rfl) ?_; rintro ⟨⟩
      refine Ae Ai rfl ?_
      refine Aa (Ay ?_)
      exact Av (.tmp rfl) (fun w h => AB () rfl [0, 1] rfl h Cl) rfl
    · skip
      rw [if_pos (by omega)] at h
      obtain ⟨rfl, rfl⟩ : d2 = d' ∧ e2 = e := Prod.mk.inj h
      refine Ad ?_
      refine Ae Ai rfl ?_
      refine Ab rfl (.bool true) (fun b w hb hH => AV rfl rfl rfl (BQ (by omega)) hb) ?_
      refine Aa (AC rfl (Ad ?_))
      refine Ae Ai rfl ?_
      refine Aa (Ay (CM ?_))
      exact Av (.tmp rfl) (fun w h => AB () rfl [0, 1] rfl h Cl) rfl
  · skip
    rw [if_pos (by omega)] at h
    obtain ⟨rfl, rfl⟩ : d1 = d' ∧ e1 = e := Prod.mk.inj h
    refine Ad ?_
    refine Ae Ai rfl ?_
    refine Ab rfl (.bool true) (fun b w hb hH => AV rfl rfl rfl (BQ (by omega)) hb) ?_
    refine Aa (AC rfl (Ad ?_))
    refine Ae Ai rfl ?_
    refine Aa (Ay (CM ?_))
    exact Av (.tmp rfl) (fun w h => AB () rfl [0, 1] rfl h Cl) rfl
theorem Iw {p : Nat} {d d' : DiskD} {z : HV} {e : Nat} (hk : E5 z) (hf : d.fitK 3) (h : Et d z = (d', e)) : AU Tryz.prog 16 #[.pointer (some ⟨p, 0, none⟩), .agg #[.int .u64 ((z.1 : Nat) : Int), .int .i64 ((z.2 : Nat) : Int)]] [Ao p d] (fun (_ : Unit) => .int .i64 (e : Int)) (fun (_ : Unit) => [Ao p d']) := by
  refine Bd (args := [.pointer (some ⟨p, 0, none⟩), .agg #[.int .u64 ((z.1 : Nat) : Int), .int .i64 ((z.2 : Nat) : Int)]]) 32 Tryz.func16 rfl rfl rfl ?_; intro w rs
  obtain ⟨b, hb⟩ : ∃ b, (BJ d hardN).getD [] = b := ⟨_, rfl⟩
  obtain ⟨ok, hok⟩ : ∃ ok, (BJ d hardN).isSome = ok := ⟨_, rfl⟩
  unfold Et at h
  rw [hb] at h
  have hfl : (Bc (layH z)).length ≤ 17 := Lo hk
  have hll := F8 hk
  refine Ad ?_
  refine Ae Ai rfl ?_
  refine Aj (post := fun g3 => [cell g3 31 #[.int .u64 ((z.1 : Nat) : Int), .int .i64 ((z.2 : Nat) : Int)], Ao p d]) rfl (CC (cs := #[.int .u64 ((z.1 : Nat) : Int), .int .i64 ((z.2 : Nat) : Int)]) rfl rfl rfl) ?_; rintro g3
  refine Ae Ai rfl ?_
  refine Aa (Aq (Ad ?_))
  refine Ae Ai rfl ?_
  refine Ab rfl (.bool false) (fun b w hb hH => CJ (by kernel_rfl) rfl rfl rfl hb) ?_
  refine Ae Ai rfl ?_
  refine Ab rfl (.agg #[.int .u64 ((z.1 : Nat) : Int), .int .i64 ((z.2 : Nat) : Int)]) (fun b w hb hH => A6 rfl rfl (D3 (cs := [.int .u64 ((z.1 : Nat) : Int), .int .i64 ((z.2 : Nat) : Int)]) Am rfl) (hH.row 0 rfl) hb) ?_
  refine Aj (post := fun _ => [cell g3 31 #[.int .u64 ((z.1 : Nat) : Int), .int .i64 ((z.2 : Nat) : Int)], Ao p d]) rfl (By (Ah Tryz.func14 (by kernel_rfl) rfl) (fun w hH => Me w hk) rfl rfl rfl) ?_; rintro ⟨⟩
  refine Ae Ai rfl ?_
  refine Aa (Ar rfl (Ax (AE (Ad ?_))))
  refine Ae Ai rfl ?_
  refine Ab rfl (.agg #[.int .u64 ((z.1 : Nat) : Int), .int .i64 ((z.2 : Nat) : Int)]) (fun b w hb hH => A6 rfl rfl (D3 (cs := [.int .u64 ((z.1 : Nat) : Int), .int .i64 ((z.2 : Nat) : Int)]) Am rfl) (hH.row 0 rfl) hb) ?_
  refine Aj rfl (Al (os' := fun lv => [As 5 1 encB lv (layH z), cell g3 31 #[.int .u64 ((z.1 : Nat) : Int), .int .i64 ((z.2 : Nat) : Int)], Ao p d]) [] 0 (Ah Tryz.func44 (by kernel_rfl) rfl) (RM hk) rfl rfl rfl (fun _ => rfl) rfl rfl rfl) ?_; rintro lv
  refine Aj rfl (Al (os' := fun fv => [As 5 1 encB fv (Bc (layH z)), As 5 1 encB lv (layH z), cell g3 31 #[.int .u64 ((z.1 : Nat) : Int), .int .i64 ((z.2 : Nat) : Int)], Ao p d]) [0] 0 (Ah Tryz.func43 (by kernel_rfl) rfl) (Ps CU (by omega) rfl) rfl rfl rfl (fun _ => rfl) rfl rfl rfl) ?_; rintro fv
  refine Ae Ai rfl ?_
  refine Aa (Aq (Ad ?_))
  refine Ae Ai rfl ?_
  refine Aj rfl (Al (os' := fun bv => [As 5 1 encB bv b, As 5 1 encB fv (Bc (layH z)), As 5 1 encB lv (layH z), cell g3 31 #[.int .u64 ((z.1 : Nat) : Int), .int .i64 ((z.2 : Nat) : Int)], Ao p d]) [3] 0 (Ah Tryz.func32 (by kernel_rfl) rfl) (F6 (n := hardN) hf.fit hok hb) rfl rfl rfl (fun _ => rfl) rfl rfl rfl) ?_; rintro bv
  refine Ae Ai rfl ?_
  refine Aa ?_
  rcases Nat.lt_or_ge b.length 256 with hlt | hge
  · skip
    rw [if_pos hlt] at h
    refine Ad ?_
    refine Ae Ai rfl ?_
    refine Ab rfl (.int .i64 (b.length : Int)) (fun b w hb hH => Cv 0 Tryz.underlying48 rfl rfl rfl hH hb) ?_
    refine Ab rfl (.bool true) (fun b w hb hH => AV rfl rfl rfl (A7 (by omega)) hb) ?_
    refine Aa (AC rfl (Ad ?_))
    refine Ae Ai rfl ?_
    refine Aj rfl (Al (os' := fun _ => [As 5 1 encB bv b, As 5 1 encB fv (Bc (layH z)), As 5 1 encB lv (layH z), cell g3 31 #[.int .u64 ((z.1 : Nat) : Int), .int .i64 ((z.2 : Nat) : Int)], Ao p d']) [4, 1] 0 (Ah Tryz.func21 (by kernel_rfl) rfl) (G2 (n := hardN) hf.fit (by omega) CU h) rfl rfl rfl (fun _ => rfl) rfl rfl rfl) ?_; rintro ⟨⟩
    refine Ae Ai rfl ?_
    refine Aa (Ay (CM ?_))
    exact Av (.tmp rfl) (fun w h => AB () rfl [4] rfl h Cl) rfl
  · skip
    rw [if_neg (by omega)] at h
    refine Ad ?_
    refine Ae Ai rfl ?_
    refine Ab rfl (.int .i64 (b.length : Int)) (fun b w hb hH => Cv 0 Tryz.underlying48 rfl rfl rfl hH hb) ?_
    refine Ab rfl (.bool false) (fun b w hb hH => AV rfl rfl rfl (Bn (by omega)) hb) ?_
    refine Aa (Ar rfl (Ax (AE (Ad ?_))))
    refine Ae Ai rfl ?_
    refine Aj rfl (Al (os' := fun _ => [As 5 1 encB bv b, As 5 1 encB fv (Bc (layH z)), As 5 1 encB lv (layH z), cell g3 31 #[.int .u64 ((z.1 : Nat) : Int), .int .i64 ((z.2 : Nat) : Int)], Ao p d']) [4, 1] 0 (Ah Tryz.func45 (by kernel_rfl) rfl) (Oe hf CU (by omega) h) rfl rfl rfl (fun _ => rfl) rfl rfl rfl) ?_; rintro ⟨⟩
    refine Ae Ai rfl ?_
    refine Aa (Ay ?_)
    exact Av (.tmp rfl) (fun w h => AB () rfl [4] rfl h Cl) rfl
theorem RN (w : World) {p : Nat} (t v : Int) (hb : (decide (t ≤ 72057594037927935) && (decide (v ≥ 0) && decide (v ≤ 7))) = false) : Calls Tryz.prog 16 #[.pointer (some ⟨p, 0, none⟩), .agg #[.int .u64 t, .int .i64 v]] w fun e w' => e = .returned (.int .i64 1) ∧ Below w.heap.size w w' := by
 refine Fy (args := [.pointer (some ⟨p, 0, none⟩), .agg #[.int .u64 t, .int .i64 v]]) 32 Tryz.func16 rfl rfl rfl ?_
 refine Ad ?_
 refine Ae Ai rfl ?_
 refine Aj (post := fun g3 => [cell g3 31 #[.int .u64 t, .int .i64 v]]) rfl (CC (cs := #[.int .u64 t, .int .i64 v]) rfl rfl rfl) ?_; rintro g3
 refine Ae Ai rfl ?_
 refine Aa (Aq (Ad ?_))
 refine Ae Ai rfl ?_
 refine Ab rfl (.bool false) (fun b w hb hH => CJ (by kernel_rfl) rfl rfl rfl hb) ?_
 refine Ae Ai rfl ?_
 refine Ab rfl (.agg #[.int .u64 t, .int .i64 v]) (fun b w hb hH => A6 rfl rfl (D3 (cs := [.int .u64 t, .int .i64 v]) Am rfl) (hH.row 0 rfl) hb) ?_
 refine Aj (post := fun _ => [cell g3 31 #[.int .u64 t, .int .i64 v]]) rfl (By (Ah Tryz.func14 (by kernel_rfl) rfl) (fun w hH => PE w t v false hb) rfl rfl rfl) ?_; rintro ⟨⟩
 refine Ae Ai rfl ?_
 refine Aa (AC rfl (Ad ?_))
 refine Ae Ai rfl ?_
 refine Aa (Ay (CM ?_))
 exact Av (.tmp rfl) (fun w h => ⟨rfl, AG h.up⟩) rfl
end Go.Proofs.YtnknboibmifacaaGreat.Sep
