/-
  HdC
-/
import Derived.Test.YtnknboibmifacaaGreatYE01
import Derived.Test.YtnknboibmifacaaGreatYF01
import Derived.Test.YtnknboibmifacaaGreatYJ02
set_option linter.unusedSimpArgs false
set_option linter.unusedVariables false
set_option maxRecDepth 100000
namespace Go.Proofs.YtnknboibmifacaaGreat.Sep
open Go.RowKit
open Go.Proofs.YtnknboibmifacaaGreat.Mem (Bd Cj Chg AF)
theorem Ti {d : DiskD} {d1 : DiskD} {e : Nat} (h : Bb d = (d1, e)) : (Bb d).1 = d1 ∧ (Bb d).2 = e := by rw [h]; exact ⟨rfl, rfl⟩
theorem Es {p : Nat} {d d' : DiskD} {z : HV} {e : Nat} (hf : d.fitK 2) (hbl : ∀ b, (BB (Bb d).1 hardN).getD [] = b → b.length ≤ 137438953472) (h : C5 d = (d', z, e)) : AS Tryz.prog 11 #[.pointer (some ⟨p, 0, none⟩)] [Ap p d] (fun (_ : Unit) => .tuple #[.agg #[.int .u64 ((z.1 : Nat) : Int), .int .i64 ((z.2 : Nat) : Int)], .int .i64 (e : Int)]) (fun (_ : Unit) => [Ap p d']) := by
  refine A6 (args := [.pointer (some ⟨p, 0, none⟩)]) 41 Tryz.func11 rfl rfl rfl ?_; intro w rs
  obtain ⟨⟨d1, e1⟩, hrm⟩ : ∃ R, Bb d = R := ⟨_, rfl⟩
  obtain ⟨hr1, hr2⟩ := Ti hrm
  have hf1 : d1.fitK 1 := by rw [← hr1]; exact J8 hf
  obtain ⟨b, hb⟩ : ∃ b, (BB d1 hardN).getD [] = b := ⟨_, rfl⟩
  obtain ⟨⟨z1, n1⟩, hlat⟩ : ∃ R, Ic b = R := ⟨_, rfl⟩
  obtain ⟨⟨d2, e2⟩, hcut⟩ : ∃ R, IG d1 hardN (n1 : Int) = R := ⟨_, rfl⟩
  unfold C5 at h
  rw [hr1, hr2, hb, hlat] at h
  simp only at h
  rw [hcut] at h
  simp only at h
  obtain ⟨ok, hok⟩ : ∃ ok, (BB d1 hardN).isSome = ok := ⟨_, rfl⟩
  replace hbl : b.length ≤ 137438953472 := hbl b (by rw [hr1]; exact hb)
  refine Ad ?_
  refine Af Ak rfl ?_
  refine Ai (post := fun g2 => [cell g2 31 #[.int .u64 0, .int .i64 0], Ap p d]) rfl (BL Bk rfl) ?_; rintro g2
  refine Af Ak rfl ?_
  refine Ab (Aq (Ad ?_))
  refine Af Ak rfl ?_
  refine Ac rfl (.bool false) (fun b w hb hH => DL (by kernel_rfl) rfl rfl rfl hb) ?_
  refine Ab (Au rfl (Ax (AG (Aq (Ad ?_)))))
  refine Af Ak rfl ?_
  refine Ai rfl (Am (os' := fun _ => [cell g2 31 #[.int .u64 0, .int .i64 0], Ap p d1]) [1] 0 (Ah Tryz.func31 (by kernel_rfl) rfl) (K5 hf.fit hrm) rfl rfl rfl (fun _ => rfl) rfl rfl rfl) ?_; rintro ⟨⟩
  refine Af Ak rfl ?_
  refine Ab ?_
  rcases Nat.eq_zero_or_pos e1 with he1 | he1
  · skip
    rw [if_neg (by omega)] at h
    refine Ad ?_
    refine Af Ak rfl ?_
    refine Ac rfl (.bool false) (fun b w hb hH => Bh rfl rfl rfl (AU (by omega)) hb) ?_
    refine Ab (Au rfl (Ax (AG (Ad ?_))))
    refine Af Ak rfl ?_
    refine Ai rfl (Am (os' := fun bv => [Ao 5 1 encB bv b, cell g2 31 #[.int .u64 0, .int .i64 0], Ap p d1]) [1] 0 (Ah Tryz.func32 (by kernel_rfl) rfl) (FJ (n := hardN) hf1.fit hok hb) rfl rfl rfl (fun _ => rfl) rfl rfl rfl) ?_; rintro bv
    refine Af Ak rfl ?_
    refine Ab (Ad ?_)
    refine Af Ak rfl ?_
    refine Ai rfl (Am (os' := fun _ => [Ao 5 1 encB bv b, cell g2 31 #[.int .u64 0, .int .i64 0], Ap p d1]) [0] 0 (Ah Tryz.func33 (by kernel_rfl) rfl) (NV (y := b) CQ hbl hlat) rfl rfl rfl (fun _ => rfl) rfl rfl rfl) ?_; rintro ⟨⟩
    refine Af Ak rfl ?_
    refine Ai (post := fun g7 => [cell g7 31 #[.int .u64 0, .int .i64 0], Ao 5 1 encB bv b, cell g2 31 #[.int .u64 0, .int .i64 0], Ap p d1]) rfl (BL Bk rfl) ?_; rintro g7
    refine AT (post := fun _ => [cell g7 31 #[.int .u64 ((z1.1 : Nat) : Int), .int .i64 ((z1.2 : Nat) : Int)], Ao 5 1 encB bv b, cell g2 31 #[.int .u64 0, .int .i64 0], Ap p d1]) rfl rfl (AM 0 (v := .agg #[.int .u64 ((z1.1 : Nat) : Int), .int .i64 ((z1.2 : Nat) : Int)]) #[.int .u64 ((z1.1 : Nat) : Int), .int .i64 ((z1.2 : Nat) : Int)] An.2 rfl rfl rfl rfl rfl rfl rfl rfl rfl) ?_; rintro ⟨⟩
    refine Af Ak rfl ?_
    refine Ab (Aq ?_)
    rcases Nat.lt_or_ge n1 b.length with hlt | hge
    · skip
      rw [if_pos hlt] at h
      refine Ad ?_
      refine Af Ak rfl ?_
      refine Ac rfl (.int .i64 (b.length : Int)) (fun b w hb hH => C2 1 Tryz.underlying48 rfl rfl rfl hH hb) ?_
      refine Ac rfl (.bool true) (fun b w hb hH => Bh rfl rfl rfl (Bl (by omega)) hb) ?_
      refine Ab (AD rfl (Ad ?_))
      refine Af Ak rfl ?_
      refine Ai rfl (Am (os' := fun _ => [cell g7 31 #[.int .u64 ((z1.1 : Nat) : Int), .int .i64 ((z1.2 : Nat) : Int)], Ao 5 1 encB bv b, cell g2 31 #[.int .u64 0, .int .i64 0], Ap p d2]) [3] 0 (Ah Tryz.func34 (by kernel_rfl) rfl) (Lm (n := hardN) hf1.fit hcut) rfl rfl rfl (fun _ => rfl) rfl rfl rfl) ?_; rintro ⟨⟩
      refine Af Ak rfl ?_
      refine Ab ?_
      rcases Nat.eq_zero_or_pos e2 with he2 | he2
      · skip
        rw [if_neg (by omega)] at h
        obtain ⟨rfl, rfl, rfl⟩ : d2 = d' ∧ z1 = z ∧ 0 = e := by simpa [Prod.ext_iff] using h
        refine Ad ?_
        refine Af Ak rfl ?_
        refine Ac rfl (.bool false) (fun b w hb hH => Bh rfl rfl rfl (AU (by omega)) hb) ?_
        refine Ab (Au rfl (Ax (AG (Ad ?_))))
        refine Af Ak rfl ?_
        refine Ac rfl (.agg #[.int .u64 ((z1.1 : Nat) : Int), .int .i64 ((z1.2 : Nat) : Int)]) (fun b w hb hH => Bg rfl rfl (EH (cs := [.int .u64 ((z1.1 : Nat) : Int), .int .i64 ((z1.2 : Nat) : Int)]) An rfl) (hH.row 0 rfl) hb) ?_
        refine AT (post := fun _ => [cell g7 31 #[.int .u64 ((z1.1 : Nat) : Int), .int .i64 ((z1.2 : Nat) : Int)], Ao 5 1 encB bv b, cell g2 31 #[.int .u64 ((z1.1 : Nat) : Int), .int .i64 ((z1.2 : Nat) : Int)], Ap p d2]) rfl rfl (AM 2 (v := .agg #[.int .u64 ((z1.1 : Nat) : Int), .int .i64 ((z1.2 : Nat) : Int)]) #[.int .u64 ((z1.1 : Nat) : Int), .int .i64 ((z1.2 : Nat) : Int)] An.2 rfl rfl rfl rfl rfl rfl rfl rfl rfl) ?_; rintro ⟨⟩
        refine Af Ak rfl ?_
        refine Ab (Az ?_)
        exact BX (.cell 2 (v := .agg #[.int .u64 ((z1.1 : Nat) : Int), .int .i64 ((z1.2 : Nat) : Int)]) (EH (cs := [.int .u64 ((z1.1 : Nat) : Int), .int .i64 ((z1.2 : Nat) : Int)]) An rfl) rfl rfl) (.tmp rfl) (fun w h => AB () rfl [3] rfl h Cz) rfl
      · skip
        rw [if_pos (by omega)] at h
        obtain ⟨rfl, rfl, rfl⟩ : d2 = d' ∧ (0, 0) = z ∧ e2 = e := by simpa [Prod.ext_iff] using h
        refine Ad ?_
        refine Af Ak rfl ?_
        refine Ac rfl (.bool true) (fun b w hb hH => Bh rfl rfl rfl (BY (by omega)) hb) ?_
        refine Ab (AD rfl (Ad ?_))
        refine Af Ak rfl ?_
        refine Ac rfl (.agg #[.int .u64 0, .int .i64 0]) (fun b w hb hH => AV rfl rfl (by kernel_rfl) hb) ?_
        refine Af Ak rfl ?_
        refine AT (post := fun _ => [cell g7 31 #[.int .u64 ((z1.1 : Nat) : Int), .int .i64 ((z1.2 : Nat) : Int)], Ao 5 1 encB bv b, cell g2 31 #[.int .u64 0, .int .i64 0], Ap p d2]) rfl rfl (AM 2 (v := .agg #[.int .u64 0, .int .i64 0]) #[.int .u64 0, .int .i64 0] An.2 rfl rfl rfl rfl rfl rfl rfl rfl rfl) ?_; rintro ⟨⟩
        refine Af Ak rfl ?_
        refine Ab (Az (CO ?_))
        exact BX (.cell 2 (v := .agg #[.int .u64 0, .int .i64 0]) (EH (cs := [.int .u64 0, .int .i64 0]) An rfl) rfl rfl) (.tmp rfl) (fun w h => AB () rfl [3] rfl h Cz) rfl
    · skip
      rw [if_neg (by omega)] at h
      obtain ⟨rfl, rfl, rfl⟩ : d1 = d' ∧ z1 = z ∧ 0 = e := by simpa [Prod.ext_iff] using h
      refine Ad ?_
      refine Af Ak rfl ?_
      refine Ac rfl (.int .i64 (b.length : Int)) (fun b w hb hH => C2 1 Tryz.underlying48 rfl rfl rfl hH hb) ?_
      refine Ac rfl (.bool false) (fun b w hb hH => Bh rfl rfl rfl (Bu (by omega)) hb) ?_
      refine Ab (Au rfl (Ax (AG (Ad ?_))))
      refine Af Ak rfl ?_
      refine Ac rfl (.agg #[.int .u64 ((z1.1 : Nat) : Int), .int .i64 ((z1.2 : Nat) : Int)]) (fun b w hb hH => Bg rfl rfl (EH (cs := [.int .u64 ((z1.1 : Nat) : Int), .int .i64 ((z1.2 : Nat) : Int)]) An rfl) (hH.row 0 rfl) hb) ?_
      refine AT (post := fun _ => [cell g7 31 #[.int .u64 ((z1.1 : Nat) : Int), .int .i64 ((z1.2 : Nat) : Int)], Ao 5 1 encB bv b, cell g2 31 #[.int .u64 ((z1.1 : Nat) : Int), .int .i64 ((z1.2 : Nat) : Int)], Ap p d1]) rfl rfl (AM 2 (v := .agg #[.int .u64 ((z1.1 : Nat) : Int), .int .i64 ((z1.2 : Nat) : Int)]) #[.int .u64 ((z1.1 : Nat) : Int), .int .i64 ((z1.2 : Nat) : Int)] An.2 rfl rfl rfl rfl rfl rfl rfl rfl rfl) ?_; rintro ⟨⟩
      refine Af Ak rfl ?_
      refine Ab (Az ?_)
      exact BX (.cell 2 (v := .agg #[.int .u64 ((z1.1 : Nat) : Int), .int .i64 ((z1.2 : Nat) : Int)]) (EH (cs := [.int .u64 ((z1.1 : Nat) : Int), .int .i64 ((z1.2 : Nat) : Int)]) An rfl) rfl rfl) (.tmp rfl) (fun w h => AB () rfl [3] rfl h Cz) rfl
  · skip
    rw [if_pos (by omega)] at h
    obtain ⟨rfl, rfl, rfl⟩ : d1 = d' ∧ (0, 0) = z ∧ e1 = e := by simpa [Prod.ext_iff] using h
    refine Ad ?_
    refine Af Ak rfl ?_
    refine Ac rfl (.bool true) (fun b w hb hH => Bh rfl rfl rfl (BY (by omega)) hb) ?_
    refine Ab (AD rfl (Ad ?_))
    refine Af Ak rfl ?_
    refine Ac rfl (.agg #[.int .u64 0, .int .i64 0]) (fun b w hb hH => AV rfl rfl (by kernel_rfl) hb) ?_
    refine Af Ak rfl ?_
    refine AT (post := fun _ => [cell g2 31 #[.int .u64 0, .int .i64 0], Ap p d1]) rfl rfl (AM 0 (v := .agg #[.int .u64 0, .int .i64 0]) #[.int .u64 0, .int .i64 0] An.2 rfl rfl rfl rfl rfl rfl rfl rfl rfl) ?_; rintro ⟨⟩
    refine Af Ak rfl ?_
    refine Ab (Az (CO ?_))
    exact BX (.cell 0 (v := .agg #[.int .u64 0, .int .i64 0]) (EH (cs := [.int .u64 0, .int .i64 0]) An rfl) rfl rfl) (.tmp rfl) (fun w h => AB () rfl [1] rfl h Cz) rfl
theorem NW {p : Nat} {d d' : DiskD} {f : List UInt8} {e : Nat} {X : Ass} {v : Value} (hf : d.fitK 3) (hX : Cw X v f) (hfl : f.length ≤ 65536) (h : Hi d f = (d', e)) : AS Tryz.prog 45 #[.pointer (some ⟨p, 0, none⟩), v] [Ap p d, X] (fun (_ : Unit) => .int .i64 (e : Int)) (fun (_ : Unit) => [Ap p d', X]) := by
  refine A6 (args := [.pointer (some ⟨p, 0, none⟩), v]) 20 Tryz.func45 rfl rfl rfl ?_; intro w rs
  obtain ⟨⟨d1, e1⟩, hrm⟩ : ∃ R, Bb d = R := ⟨_, rfl⟩
  obtain ⟨hr1, hr2⟩ := Ti hrm
  have hf1 : d1.fitK 2 := by rw [← hr1]; exact J8 hf
  obtain ⟨⟨d2, e2⟩, happ⟩ : ∃ R, Cl d1 newN f = R := ⟨_, rfl⟩
  have hf2 : d2.fitK 1 := by have := GM (n := newN) (b := f) hf1 hfl; rwa [happ] at this
  unfold Hi at h
  rw [hrm] at h
  simp only at h
  rw [happ] at h
  simp only at h
  refine Ad ?_
  refine Af Ak rfl ?_
  refine Ab (Aq (Ad ?_))
  refine Af Ak rfl ?_
  refine Ai rfl (Am (os' := fun _ => [Ap p d1, X]) [0] 0 (Ah Tryz.func31 (by kernel_rfl) rfl) (K5 hf.fit hrm) rfl rfl rfl (fun _ => rfl) rfl rfl rfl) ?_; rintro ⟨⟩
  refine Af Ak rfl ?_
  refine Ab ?_
  rcases Nat.eq_zero_or_pos e1 with he1 | he1
  · skip
    rw [if_neg (by omega)] at h
    refine Ad ?_
    refine Af Ak rfl ?_
    refine Ac rfl (.bool false) (fun b w hb hH => Bh rfl rfl rfl (AU (by omega)) hb) ?_
    refine Ab (Au rfl (Ax (AG (Aq (Ad ?_)))))
    refine Af Ak rfl ?_
    refine Ai rfl (Am (os' := fun _ => [Ap p d2, X]) [0, 1] 0 (Ah Tryz.func21 (by kernel_rfl) rfl) (GE (n := newN) hf1.fit (by omega) hX happ) rfl rfl rfl (fun _ => rfl) rfl rfl rfl) ?_; rintro ⟨⟩
    refine Af Ak rfl ?_
    refine Ab ?_
    rcases Nat.eq_zero_or_pos e2 with he2 | he2
    · skip
      rw [if_neg (by omega)] at h
      have hren : Ll d2 newN hardN = (d', e) := h
      refine Ad ?_
      refine Af Ak rfl ?_
      refine Ac rfl (.bool false) (fun b w hb hH => Bh rfl rfl rfl (AU (by omega)) hb) ?_
      refine Ab (Au rfl (Ax (AG (Ad ?_))))
      refine Af Ak rfl ?_
      refine Ai rfl (Am (os' := fun _ => [Ap p d', X]) [0] 0 (Ah Tryz.func79 (by kernel_rfl) rfl) (NE (n := newN) (b := hardN) hf2.fit hren) rfl rfl rfl (fun _ => rfl) rfl rfl rfl) ?_; rintro ⟨⟩
      refine Af Ak rfl ?_
      refine Ab (Az ?_)
      exact Ay (.tmp rfl) (fun w h => AB () rfl [0, 1] rfl h Cz) rfl
    · skip
      rw [if_pos (by omega)] at h
      obtain ⟨rfl, rfl⟩ : d2 = d' ∧ e2 = e := Prod.mk.inj h
      refine Ad ?_
      refine Af Ak rfl ?_
      refine Ac rfl (.bool true) (fun b w hb hH => Bh rfl rfl rfl (BY (by omega)) hb) ?_
      refine Ab (AD rfl (Ad ?_))
      refine Af Ak rfl ?_
      refine Ab (Az (CO ?_))
      exact Ay (.tmp rfl) (fun w h => AB () rfl [0, 1] rfl h Cz) rfl
  · skip
    rw [if_pos (by omega)] at h
    obtain ⟨rfl, rfl⟩ : d1 = d' ∧ e1 = e := Prod.mk.inj h
    refine Ad ?_
    refine Af Ak rfl ?_
    refine Ac rfl (.bool true) (fun b w hb hH => Bh rfl rfl rfl (BY (by omega)) hb) ?_
    refine Ab (AD rfl (Ad ?_))
    refine Af Ak rfl ?_
    refine Ab (Az (CO ?_))
    exact Ay (.tmp rfl) (fun w h => AB () rfl [0, 1] rfl h Cz) rfl
theorem K6 {p : Nat} {d d' : DiskD} {z : HV} {e : Nat} (hk : Fz z) (hf : d.fitK 3) (h : Fg d z = (d', e)) : AS Tryz.prog 16 #[.pointer (some ⟨p, 0, none⟩), .agg #[.int .u64 ((z.1 : Nat) : Int), .int .i64 ((z.2 : Nat) : Int)]] [Ap p d] (fun (_ : Unit) => .int .i64 (e : Int)) (fun (_ : Unit) => [Ap p d']) := by
  refine A6 (args := [.pointer (some ⟨p, 0, none⟩), .agg #[.int .u64 ((z.1 : Nat) : Int), .int .i64 ((z.2 : Nat) : Int)]]) 32 Tryz.func16 rfl rfl rfl ?_; intro w rs
  obtain ⟨b, hb⟩ : ∃ b, (BB d hardN).getD [] = b := ⟨_, rfl⟩
  obtain ⟨ok, hok⟩ : ∃ ok, (BB d hardN).isSome = ok := ⟨_, rfl⟩
  unfold Fg at h
  rw [hb] at h
  have hfl : (Be (layH z)).length ≤ 17 := MH hk
  have hll := GL hk
  refine Ad ?_
  refine Af Ak rfl ?_
  refine Ai (post := fun g3 => [cell g3 31 #[.int .u64 ((z.1 : Nat) : Int), .int .i64 ((z.2 : Nat) : Int)], Ap p d]) rfl (CZ (cs := #[.int .u64 ((z.1 : Nat) : Int), .int .i64 ((z.2 : Nat) : Int)]) rfl rfl rfl) ?_; rintro g3
  refine Af Ak rfl ?_
  refine Ab (Aq (Ad ?_))
  refine Af Ak rfl ?_
  refine Ac rfl (.bool false) (fun b w hb hH => DL (by kernel_rfl) rfl rfl rfl hb) ?_
  refine Af Ak rfl ?_
  refine Ac rfl (.agg #[.int .u64 ((z.1 : Nat) : Int), .int .i64 ((z.2 : Nat) : Int)]) (fun b w hb hH => Bg rfl rfl (EH (cs := [.int .u64 ((z.1 : Nat) : Int), .int .i64 ((z.2 : Nat) : Int)]) An rfl) (hH.row 0 rfl) hb) ?_
  refine Ai (post := fun _ => [cell g3 31 #[.int .u64 ((z.1 : Nat) : Int), .int .i64 ((z.2 : Nat) : Int)], Ap p d]) rfl (BQ (Ah Tryz.func14 (by kernel_rfl) rfl) (fun w hH => Ru w hk) rfl rfl rfl) ?_; rintro ⟨⟩
  refine Af Ak rfl ?_
  refine Ab (Au rfl (Ax (AG (Ad ?_))))
  refine Af Ak rfl ?_
  refine Ac rfl (.agg #[.int .u64 ((z.1 : Nat) : Int), .int .i64 ((z.2 : Nat) : Int)]) (fun b w hb hH => Bg rfl rfl (EH (cs := [.int .u64 ((z.1 : Nat) : Int), .int .i64 ((z.2 : Nat) : Int)]) An rfl) (hH.row 0 rfl) hb) ?_
  refine Ai rfl (Am (os' := fun lv => [Ao 5 1 encB lv (layH z), cell g3 31 #[.int .u64 ((z.1 : Nat) : Int), .int .i64 ((z.2 : Nat) : Int)], Ap p d]) [] 0 (Ah Tryz.func44 (by kernel_rfl) rfl) (Rv hk) rfl rfl rfl (fun _ => rfl) rfl rfl rfl) ?_; rintro lv
  refine Ai rfl (Am (os' := fun fv => [Ao 5 1 encB fv (Be (layH z)), Ao 5 1 encB lv (layH z), cell g3 31 #[.int .u64 ((z.1 : Nat) : Int), .int .i64 ((z.2 : Nat) : Int)], Ap p d]) [0] 0 (Ah Tryz.func43 (by kernel_rfl) rfl) (Pe CQ (by omega) rfl) rfl rfl rfl (fun _ => rfl) rfl rfl rfl) ?_; rintro fv
  refine Af Ak rfl ?_
  refine Ab (Aq (Ad ?_))
  refine Af Ak rfl ?_
  refine Ai rfl (Am (os' := fun bv => [Ao 5 1 encB bv b, Ao 5 1 encB fv (Be (layH z)), Ao 5 1 encB lv (layH z), cell g3 31 #[.int .u64 ((z.1 : Nat) : Int), .int .i64 ((z.2 : Nat) : Int)], Ap p d]) [3] 0 (Ah Tryz.func32 (by kernel_rfl) rfl) (FJ (n := hardN) hf.fit hok hb) rfl rfl rfl (fun _ => rfl) rfl rfl rfl) ?_; rintro bv
  refine Af Ak rfl ?_
  refine Ab ?_
  rcases Nat.lt_or_ge b.length 256 with hlt | hge
  · skip
    rw [if_pos hlt] at h
    refine Ad ?_
    refine Af Ak rfl ?_
    refine Ac rfl (.int .i64 (b.length : Int)) (fun b w hb hH => C2 0 Tryz.underlying48 rfl rfl rfl hH hb) ?_
    refine Ac rfl (.bool true) (fun b w hb hH => Bh rfl rfl rfl (Bl (by omega)) hb) ?_
    refine Ab (AD rfl (Ad ?_))
    refine Af Ak rfl ?_
    refine Ai rfl (Am (os' := fun _ => [Ao 5 1 encB bv b, Ao 5 1 encB fv (Be (layH z)), Ao 5 1 encB lv (layH z), cell g3 31 #[.int .u64 ((z.1 : Nat) : Int), .int .i64 ((z.2 : Nat) : Int)], Ap p d']) [4, 1] 0 (Ah Tryz.func21 (by kernel_rfl) rfl) (GE (n := hardN) hf.fit (by omega) CQ h) rfl rfl rfl (fun _ => rfl) rfl rfl rfl) ?_; rintro ⟨⟩
    refine Af Ak rfl ?_
    refine Ab (Az (CO ?_))
    exact Ay (.tmp rfl) (fun w h => AB () rfl [4] rfl h Cz) rfl
  · skip
    rw [if_neg (by omega)] at h
    refine Ad ?_
    refine Af Ak rfl ?_
    refine Ac rfl (.int .i64 (b.length : Int)) (fun b w hb hH => C2 0 Tryz.underlying48 rfl rfl rfl hH hb) ?_
    refine Ac rfl (.bool false) (fun b w hb hH => Bh rfl rfl rfl (Bu (by omega)) hb) ?_
    refine Ab (Au rfl (Ax (AG (Ad ?_))))
    refine Af Ak rfl ?_
    refine Ai rfl (Am (os' := fun _ => [Ao 5 1 encB bv b, Ao 5 1 encB fv (Be (layH z)), Ao 5 1 encB lv (layH z), cell g3 31 #[.int .u64 ((z.1 : Nat) : Int), .int .i64 ((z.2 : Nat) : Int)], Ap p d']) [4, 1] 0 (Ah Tryz.func45 (by kernel_rfl) rfl) (NW hf CQ (by omega) h) rfl rfl rfl (fun _ => rfl) rfl rfl rfl) ?_; rintro ⟨⟩
    refine Af Ak rfl ?_
    refine Ab (Az ?_)
    exact Ay (.tmp rfl) (fun w h => AB () rfl [4] rfl h Cz) rfl
end Go.Proofs.YtnknboibmifacaaGreat.Sep
