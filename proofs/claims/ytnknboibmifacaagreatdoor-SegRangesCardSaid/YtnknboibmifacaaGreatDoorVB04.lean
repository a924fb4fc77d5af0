/-
  RpcA · RpcB · RpcC · App · Bld
-/
import Derived.Test.YtnknboibmifacaaGreatDoorVA05
import Derived.Test.YtnknboibmifacaaGreatDoorVB02
import Derived.Test.YtnknboibmifacaaGreatDoorVB03
set_option linter.unusedSimpArgs false
set_option linter.unusedVariables false
set_option maxRecDepth 100000
namespace Go.Proofs.YtnknboibmifacaaGreatDoor.Sep
open Go.RowKit
open Go.Proofs.YtnknboibmifacaaGreatDoor.Mem (AR B3 Chg Av)
def Pq (c : Int) : Bool := Ka c && c != 0
theorem G9 (w : World) (n : Int) (r : Bool) (hr : GH n = r) : Calls Tryz.prog 95 #[.int .u64 n] w fun e w' => e = .returned (.bool r) ∧ Below w.heap.size w w' := by
  refine FW (args := [.int .u64 n]) 9 Tryz.func95 rfl rfl rfl ?_
  refine Ad ?_
  refine Af Ai rfl ?_
  refine Ab ?_
  have hc : n < 1 ∨ (1 ≤ n ∧ n ≤ 72057594037927935) ∨ 72057594037927935 < n := by omega
  rcases hc with h1 | ⟨h1, h2⟩ | h1
  · skip
    obtain rfl : r = false := by rw [← hr]; simp [GH]; omega
    refine Ad ?_
    refine Af Ai rfl ?_
    refine Aa rfl (.bool false) (fun b w hb hH => AZ rfl rfl rfl (CT (by omega)) hb) ?_
    refine Af Ai rfl ?_
    refine Ab (Az ?_)
    exact Ay (.tmp rfl) (fun w h => ⟨rfl, Av h.up⟩) rfl
  · skip
    obtain rfl : r = true := by rw [← hr]; simp [GH]; omega
    refine Ad ?_
    refine Af Ai rfl ?_
    refine Aa rfl (.bool true) (fun b w hb hH => AZ rfl rfl rfl (BX (by omega)) hb) ?_
    refine Af Ai rfl ?_
    refine Aa rfl (.bool true) (fun b w hb hH => AZ rfl rfl rfl (Cb (by omega)) hb) ?_
    refine Af Ai rfl ?_
    refine Ab (Az ?_)
    exact Ay (.tmp rfl) (fun w h => ⟨rfl, Av h.up⟩) rfl
  · skip
    obtain rfl : r = false := by rw [← hr]; simp [GH]; omega
    refine Ad ?_
    refine Af Ai rfl ?_
    refine Aa rfl (.bool true) (fun b w hb hH => AZ rfl rfl rfl (BX (by omega)) hb) ?_
    refine Af Ai rfl ?_
    refine Aa rfl (.bool false) (fun b w hb hH => AZ rfl rfl rfl (Fe (by omega)) hb) ?_
    refine Af Ai rfl ?_
    refine Ab (Az ?_)
    exact Ay (.tmp rfl) (fun w h => ⟨rfl, Av h.up⟩) rfl
theorem JS (w : World) (c : Int) (r : Bool) (hr : Pq c = r) : Calls Tryz.prog 96 #[.int .i64 c] w fun e w' => e = .returned (.bool r) ∧ Below w.heap.size w w' := by
  refine FW (args := [.int .i64 c]) 14 Tryz.func96 rfl rfl rfl ?_
  refine Ad ?_
  refine Af Ai rfl ?_
  refine Ab ?_
  have hc : c < 1 ∨ (1 ≤ c ∧ c ≤ 254 ∧ c % 2 = 0) ∨ (1 ≤ c ∧ c ≤ 254 ∧ c % 2 ≠ 0) ∨ 254 < c := by omega
  rcases hc with h1 | ⟨h1, h2, h3⟩ | ⟨h1, h2, h3⟩ | h1
  · skip
    obtain rfl : r = false := by rw [← hr]; simp [Pq, Ka]; omega
    refine Ad ?_
    refine Af Ai rfl ?_
    refine Aa rfl (.bool false) (fun b w hb hH => AZ rfl rfl rfl (CT (by omega)) hb) ?_
    refine Af Ai rfl ?_
    refine Ab (Az ?_)
    exact Ay (.tmp rfl) (fun w h => ⟨rfl, Av h.up⟩) rfl
  · skip
    obtain rfl : r = true := by rw [← hr]; simp [Pq, Ka]; omega
    refine Ad ?_
    refine Af Ai rfl ?_
    refine Aa rfl (.bool true) (fun b w hb hH => AZ rfl rfl rfl (BX (by omega)) hb) ?_
    refine Af Ai rfl ?_
    refine Aa rfl (.bool true) (fun b w hb hH => AZ rfl rfl rfl (Cb (by omega)) hb) ?_
    refine Af Ai rfl ?_
    refine Aa rfl (.int .i64 (c % 2)) (fun b w hb hH => F4 rfl rfl rfl (by decide) (Int.tmod_eq_emod_of_nonneg (by omega)) hb) ?_
    refine Aa rfl (.bool true) (fun b w hb hH => AZ rfl rfl rfl (FI h3) hb) ?_
    refine Af Ai rfl ?_
    refine Ab (Az ?_)
    exact Ay (.tmp rfl) (fun w h => ⟨rfl, Av h.up⟩) rfl
  · skip
    obtain rfl : r = false := by rw [← hr]; simp [Pq, Ka]; omega
    refine Ad ?_
    refine Af Ai rfl ?_
    refine Aa rfl (.bool true) (fun b w hb hH => AZ rfl rfl rfl (BX (by omega)) hb) ?_
    refine Af Ai rfl ?_
    refine Aa rfl (.bool true) (fun b w hb hH => AZ rfl rfl rfl (Cb (by omega)) hb) ?_
    refine Af Ai rfl ?_
    refine Aa rfl (.int .i64 (c % 2)) (fun b w hb hH => F4 rfl rfl rfl (by decide) (Int.tmod_eq_emod_of_nonneg (by omega)) hb) ?_
    refine Aa rfl (.bool false) (fun b w hb hH => AZ rfl rfl rfl (EK h3) hb) ?_
    refine Af Ai rfl ?_
    refine Ab (Az ?_)
    exact Ay (.tmp rfl) (fun w h => ⟨rfl, Av h.up⟩) rfl
  · skip
    obtain rfl : r = false := by rw [← hr]; simp [Pq, Ka]; omega
    refine Ad ?_
    refine Af Ai rfl ?_
    refine Aa rfl (.bool true) (fun b w hb hH => AZ rfl rfl rfl (BX (by omega)) hb) ?_
    refine Af Ai rfl ?_
    refine Aa rfl (.bool false) (fun b w hb hH => AZ rfl rfl rfl (Fe (by omega)) hb) ?_
    refine Af Ai rfl ?_
    refine Ab (Az ?_)
    exact Ay (.tmp rfl) (fun w h => ⟨rfl, Av h.up⟩) rfl
theorem DB (w : World) (x : EntV) (hv : D9 w x.v x.e.d) (r : Bool) (hr : BR x.e = r) : Calls Tryz.prog 44 #[.agg #[.int .i64 x.e.k, .int .u64 x.e.t, .int .u64 x.e.i, x.v, .int .i64 x.e.c]] w fun e w' => e = .returned (.bool r) ∧ Below w.heap.size w w' := by
  obtain ⟨v1, hv1⟩ : ∃ v1, GH x.e.t = v1 := ⟨_, rfl⟩
  obtain ⟨v2, hv2⟩ : ∃ v2, GH x.e.i = v2 := ⟨_, rfl⟩
  obtain ⟨v3, hv3⟩ : ∃ v3, Fv x.e = v3 := ⟨_, rfl⟩
  have hR : (v1 && (v2 && v3)) = r := by rw [← hr]; unfold BR; rw [hv1, hv2, hv3]
  refine FW (args := [.agg #[.int .i64 x.e.k, .int .u64 x.e.t, .int .u64 x.e.i, x.v, .int .i64 x.e.c]]) 54 Tryz.func44 rfl rfl rfl ?_
  refine Ad ?_
  refine Af Ai rfl ?_
  refine Am (post := fun gx => [cell gx 34 #[.int .i64 x.e.k, .int .u64 x.e.t, .int .u64 x.e.i, x.v, .int .i64 x.e.c]]) rfl (CD (cs := #[.int .i64 x.e.k, .int .u64 x.e.t, .int .u64 x.e.i, x.v, .int .i64 x.e.c]) rfl rfl rfl) ?_; rintro gx
  refine Af Ai rfl ?_
  refine Ab (An ?_)
  cases v1
  · skip
    obtain rfl : r = false := by rw [← hR]; rfl
    refine Ad ?_
    refine Af Ai rfl ?_
    refine Aa rfl (.int .u64 x.e.t) (fun b w hb hH => AY rfl rfl (Bi AO rfl) (hH.row 0 rfl) hb) ?_
    refine Am (post := fun _ => [cell gx 34 #[.int .i64 x.e.k, .int .u64 x.e.t, .int .u64 x.e.i, x.v, .int .i64 x.e.c]]) rfl (Bc (Aj Tryz.func95 (by kernel_rfl) rfl) (fun w hH => G9 w x.e.t false hv1) rfl rfl rfl) ?_; rintro ⟨⟩
    refine Af Ai rfl ?_
    refine Ab (AI rfl (Ad ?_))
    refine Af Ai rfl ?_
    refine Ab (Az (D8 ?_))
    exact Ay (.tmp rfl) (fun w h => ⟨rfl, Av h.up⟩) rfl
  · skip
    cases v2
    · skip
      obtain rfl : r = false := by rw [← hR]; rfl
      refine Ad ?_
      refine Af Ai rfl ?_
      refine Aa rfl (.int .u64 x.e.t) (fun b w hb hH => AY rfl rfl (Bi AO rfl) (hH.row 0 rfl) hb) ?_
      refine Am (post := fun _ => [cell gx 34 #[.int .i64 x.e.k, .int .u64 x.e.t, .int .u64 x.e.i, x.v, .int .i64 x.e.c]]) rfl (Bc (Aj Tryz.func95 (by kernel_rfl) rfl) (fun w hH => G9 w x.e.t true hv1) rfl rfl rfl) ?_; rintro ⟨⟩
      refine Af Ai rfl ?_
      refine Aa rfl (.int .u64 x.e.i) (fun b w hb hH => AY rfl rfl (Bi AO rfl) (hH.row 0 rfl) hb) ?_
      refine Am (post := fun _ => [cell gx 34 #[.int .i64 x.e.k, .int .u64 x.e.t, .int .u64 x.e.i, x.v, .int .i64 x.e.c]]) rfl (Bc (Aj Tryz.func95 (by kernel_rfl) rfl) (fun w hH => G9 w x.e.i false hv2) rfl rfl rfl) ?_; rintro ⟨⟩
      refine Af Ai rfl ?_
      refine Ab (AI rfl (Ad ?_))
      refine Af Ai rfl ?_
      refine Ab (Az (D8 ?_))
      exact Ay (.tmp rfl) (fun w h => ⟨rfl, Av h.up⟩) rfl
    · skip
      refine Ad ?_
      refine Af Ai rfl ?_
      refine Aa rfl (.int .u64 x.e.t) (fun b w hb hH => AY rfl rfl (Bi AO rfl) (hH.row 0 rfl) hb) ?_
      refine Am (post := fun _ => [cell gx 34 #[.int .i64 x.e.k, .int .u64 x.e.t, .int .u64 x.e.i, x.v, .int .i64 x.e.c]]) rfl (Bc (Aj Tryz.func95 (by kernel_rfl) rfl) (fun w hH => G9 w x.e.t true hv1) rfl rfl rfl) ?_; rintro ⟨⟩
      refine Af Ai rfl ?_
      refine Aa rfl (.int .u64 x.e.i) (fun b w hb hH => AY rfl rfl (Bi AO rfl) (hH.row 0 rfl) hb) ?_
      refine Am (post := fun _ => [cell gx 34 #[.int .i64 x.e.k, .int .u64 x.e.t, .int .u64 x.e.i, x.v, .int .i64 x.e.c]]) rfl (Bc (Aj Tryz.func95 (by kernel_rfl) rfl) (fun w hH => G9 w x.e.i true hv2) rfl rfl rfl) ?_; rintro ⟨⟩
      refine Af Ai rfl ?_
      refine Ab (As rfl (Aw (AB (An (Ad ?_)))))
      refine Af Ai rfl ?_
      refine Aa rfl (.int .i64 x.e.k) (fun b w hb hH => AY rfl rfl (Bi Bh rfl) (hH.row 0 rfl) hb) ?_
      refine Ab (AQ ?_)
      have hk : x.e.k = 0 ∨ x.e.k = 1 ∨ x.e.k = 2 ∨ (x.e.k ≠ 0 ∧ x.e.k ≠ 1 ∧ x.e.k ≠ 2) := by omega
      rcases hk with hk | hk | hk | hk
      · skip
        refine Ad ?_
        refine Af Ai rfl ?_
        refine Aa rfl (.bool true) (fun b w hb hH => AZ rfl rfl rfl (FI hk) hb) ?_
        refine Af Ai rfl ?_
        refine Ab (AI rfl ?_)
        by_cases hd : x.e.d.length = 0
        · skip
          by_cases hc : x.e.c = 0
          · skip
            obtain rfl : r = true := by rw [← hR, ← hv3]; simp [Fv, hk, hc, List.eq_nil_of_length_eq_zero hd]
            refine Ad ?_
            refine Af Ai rfl ?_
            refine Aa rfl (x.v) (fun b w hb hH => AY rfl rfl (Bi CS rfl) (hH.row 0 rfl) hb) ?_
            refine Aa rfl (.int .i64 (x.e.d.length : Int)) (fun b w hb hH => Bp ((Fz hv hH).rd) Tryz.underlying30 rfl rfl hb) ?_
            refine Aa rfl (.bool true) (fun b w hb hH => AZ rfl rfl rfl (FI (by omega)) hb) ?_
            refine Af Ai rfl ?_
            refine Aa rfl (.int .i64 x.e.c) (fun b w hb hH => AY rfl rfl (Bi Bh rfl) (hH.row 0 rfl) hb) ?_
            refine Aa rfl (.bool true) (fun b w hb hH => AZ rfl rfl rfl (FI hc) hb) ?_
            refine Af Ai rfl ?_
            refine Ab (Az (BC (D8 ?_)))
            exact Ay (.tmp rfl) (fun w h => ⟨rfl, Av h.up⟩) rfl
          · skip
            obtain rfl : r = false := by rw [← hR, ← hv3]; simp [Fv, hk, hc]
            refine Ad ?_
            refine Af Ai rfl ?_
            refine Aa rfl (x.v) (fun b w hb hH => AY rfl rfl (Bi CS rfl) (hH.row 0 rfl) hb) ?_
            refine Aa rfl (.int .i64 (x.e.d.length : Int)) (fun b w hb hH => Bp ((Fz hv hH).rd) Tryz.underlying30 rfl rfl hb) ?_
            refine Aa rfl (.bool true) (fun b w hb hH => AZ rfl rfl rfl (FI (by omega)) hb) ?_
            refine Af Ai rfl ?_
            refine Aa rfl (.int .i64 x.e.c) (fun b w hb hH => AY rfl rfl (Bi Bh rfl) (hH.row 0 rfl) hb) ?_
            refine Aa rfl (.bool false) (fun b w hb hH => AZ rfl rfl rfl (EK hc) hb) ?_
            refine Af Ai rfl ?_
            refine Ab (Az (BC (D8 ?_)))
            exact Ay (.tmp rfl) (fun w h => ⟨rfl, Av h.up⟩) rfl
        · skip
          have hd0 : (x.e.d == []) = false := by cases hx : x.e.d with | nil => rw [hx] at hd; exact absurd rfl hd | cons => rfl
          obtain rfl : r = false := by rw [← hR, ← hv3]; simp [Fv, hk, hd0]
          refine Ad ?_
          refine Af Ai rfl ?_
          refine Aa rfl (x.v) (fun b w hb hH => AY rfl rfl (Bi CS rfl) (hH.row 0 rfl) hb) ?_
          refine Aa rfl (.int .i64 (x.e.d.length : Int)) (fun b w hb hH => Bp ((Fz hv hH).rd) Tryz.underlying30 rfl rfl hb) ?_
          refine Aa rfl (.bool false) (fun b w hb hH => AZ rfl rfl rfl (EK (by omega)) hb) ?_
          refine Af Ai rfl ?_
          refine Ab (Az (BC (D8 ?_)))
          exact Ay (.tmp rfl) (fun w h => ⟨rfl, Av h.up⟩) rfl
      · skip
        refine Ad ?_
        refine Af Ai rfl ?_
        refine Aa rfl (.bool false) (fun b w hb hH => AZ rfl rfl rfl (EK (by omega)) hb) ?_
        refine Af Ai rfl ?_
        refine Ab (As rfl (Ad ?_))
        refine Af Ai rfl ?_
        refine Aa rfl (.bool true) (fun b w hb hH => AZ rfl rfl rfl (FI hk) hb) ?_
        refine Af Ai rfl ?_
        refine Ab (AI rfl ?_)
        have hd : x.e.d.length < 1 ∨ 128 < x.e.d.length ∨ (1 ≤ x.e.d.length ∧ x.e.d.length ≤ 128) := by omega
        rcases hd with hd | hd | ⟨hd, hd2⟩
        · skip
          have hd0 : ¬ 1 ≤ x.e.d.length := by omega
          obtain rfl : r = false := by rw [← hR, ← hv3]; simp [Fv, hk, hd0]
          refine Ad ?_
          refine Af Ai rfl ?_
          refine Aa rfl (x.v) (fun b w hb hH => AY rfl rfl (Bi CS rfl) (hH.row 0 rfl) hb) ?_
          refine Aa rfl (.int .i64 (x.e.d.length : Int)) (fun b w hb hH => Bp ((Fz hv hH).rd) Tryz.underlying30 rfl rfl hb) ?_
          refine Aa rfl (.bool false) (fun b w hb hH => AZ rfl rfl rfl (CT (by omega)) hb) ?_
          refine Af Ai rfl ?_
          refine Ab (Az (BC (D8 ?_)))
          exact Ay (.tmp rfl) (fun w h => ⟨rfl, Av h.up⟩) rfl
        · skip
          have hd0 : ¬ x.e.d.length ≤ 128 := by omega
          obtain rfl : r = false := by rw [← hR, ← hv3]; simp [Fv, hk, hd0]
          refine Ad ?_
          refine Af Ai rfl ?_
          refine Aa rfl (x.v) (fun b w hb hH => AY rfl rfl (Bi CS rfl) (hH.row 0 rfl) hb) ?_
          refine Aa rfl (.int .i64 (x.e.d.length : Int)) (fun b w hb hH => Bp ((Fz hv hH).rd) Tryz.underlying30 rfl rfl hb) ?_
          refine Aa rfl (.bool true) (fun b w hb hH => AZ rfl rfl rfl (BX (by omega)) hb) ?_
          refine Af Ai rfl ?_
          refine Aa rfl (x.v) (fun b w hb hH => AY rfl rfl (Bi CS rfl) (hH.row 0 rfl) hb) ?_
          refine Aa rfl (.int .i64 (x.e.d.length : Int)) (fun b w hb hH => Bp ((Fz hv hH).rd) Tryz.underlying30 rfl rfl hb) ?_
          refine Aa rfl (.bool false) (fun b w hb hH => AZ rfl rfl rfl (Fe (by omega)) hb) ?_
          refine Af Ai rfl ?_
          refine Ab (Az (BC (D8 ?_)))
          exact Ay (.tmp rfl) (fun w h => ⟨rfl, Av h.up⟩) rfl
        · skip
          by_cases hc : x.e.c = 0
          · skip
            obtain rfl : r = true := by rw [← hR, ← hv3]; simp [Fv, hk, hc, hd, hd2]
            refine Ad ?_
            refine Af Ai rfl ?_
            refine Aa rfl (x.v) (fun b w hb hH => AY rfl rfl (Bi CS rfl) (hH.row 0 rfl) hb) ?_
            refine Aa rfl (.int .i64 (x.e.d.length : Int)) (fun b w hb hH => Bp ((Fz hv hH).rd) Tryz.underlying30 rfl rfl hb) ?_
            refine Aa rfl (.bool true) (fun b w hb hH => AZ rfl rfl rfl (BX (by omega)) hb) ?_
            refine Af Ai rfl ?_
            refine Aa rfl (x.v) (fun b w hb hH => AY rfl rfl (Bi CS rfl) (hH.row 0 rfl) hb) ?_
            refine Aa rfl (.int .i64 (x.e.d.length : Int)) (fun b w hb hH => Bp ((Fz hv hH).rd) Tryz.underlying30 rfl rfl hb) ?_
            refine Aa rfl (.bool true) (fun b w hb hH => AZ rfl rfl rfl (Cb (by omega)) hb) ?_
            refine Af Ai rfl ?_
            refine Aa rfl (.int .i64 x.e.c) (fun b w hb hH => AY rfl rfl (Bi Bh rfl) (hH.row 0 rfl) hb) ?_
            refine Aa rfl (.bool true) (fun b w hb hH => AZ rfl rfl rfl (FI hc) hb) ?_
            refine Af Ai rfl ?_
            refine Ab (Az (BC (D8 ?_)))
            exact Ay (.tmp rfl) (fun w h => ⟨rfl, Av h.up⟩) rfl
          · skip
            obtain rfl : r = false := by rw [← hR, ← hv3]; simp [Fv, hk, hc]
            refine Ad ?_
            refine Af Ai rfl ?_
            refine Aa rfl (x.v) (fun b w hb hH => AY rfl rfl (Bi CS rfl) (hH.row 0 rfl) hb) ?_
            refine Aa rfl (.int .i64 (x.e.d.length : Int)) (fun b w hb hH => Bp ((Fz hv hH).rd) Tryz.underlying30 rfl rfl hb) ?_
            refine Aa rfl (.bool true) (fun b w hb hH => AZ rfl rfl rfl (BX (by omega)) hb) ?_
            refine Af Ai rfl ?_
            refine Aa rfl (x.v) (fun b w hb hH => AY rfl rfl (Bi CS rfl) (hH.row 0 rfl) hb) ?_
            refine Aa rfl (.int .i64 (x.e.d.length : Int)) (fun b w hb hH => Bp ((Fz hv hH).rd) Tryz.underlying30 rfl rfl hb) ?_
            refine Aa rfl (.bool true) (fun b w hb hH => AZ rfl rfl rfl (Cb (by omega)) hb) ?_
            refine Af Ai rfl ?_
            refine Aa rfl (.int .i64 x.e.c) (fun b w hb hH => AY rfl rfl (Bi Bh rfl) (hH.row 0 rfl) hb) ?_
            refine Aa rfl (.bool false) (fun b w hb hH => AZ rfl rfl rfl (EK hc) hb) ?_
            refine Af Ai rfl ?_
            refine Ab (Az (BC (D8 ?_)))
            exact Ay (.tmp rfl) (fun w h => ⟨rfl, Av h.up⟩) rfl
      · skip
        refine Ad ?_
        refine Af Ai rfl ?_
        refine Aa rfl (.bool false) (fun b w hb hH => AZ rfl rfl rfl (EK (by omega)) hb) ?_
        refine Af Ai rfl ?_
        refine Ab (As rfl (Ad ?_))
        refine Af Ai rfl ?_
        refine Aa rfl (.bool false) (fun b w hb hH => AZ rfl rfl rfl (EK (by omega)) hb) ?_
        refine Af Ai rfl ?_
        refine Ab (As rfl (Ad ?_))
        refine Af Ai rfl ?_
        refine Aa rfl (.bool true) (fun b w hb hH => AZ rfl rfl rfl (FI hk) hb) ?_
        refine Af Ai rfl ?_
        refine Ab (AI rfl ?_)
        by_cases hd : x.e.d.length = 0
        · skip
          rcases Bool.eq_false_or_eq_true (Pq x.e.c) with hs | hs
          · skip
            have hs2 := hs
            unfold Pq at hs2
            simp only [Bool.and_eq_true, bne_iff_ne, ne_eq] at hs2
            obtain rfl : r = true := by rw [← hR, ← hv3]; simp [Fv, hk, hs2.1, hs2.2, List.eq_nil_of_length_eq_zero hd]
            refine Ad ?_
            refine Af Ai rfl ?_
            refine Aa rfl (x.v) (fun b w hb hH => AY rfl rfl (Bi CS rfl) (hH.row 0 rfl) hb) ?_
            refine Aa rfl (.int .i64 (x.e.d.length : Int)) (fun b w hb hH => Bp ((Fz hv hH).rd) Tryz.underlying30 rfl rfl hb) ?_
            refine Aa rfl (.bool true) (fun b w hb hH => AZ rfl rfl rfl (FI (by omega)) hb) ?_
            refine Af Ai rfl ?_
            refine Aa rfl (.int .i64 x.e.c) (fun b w hb hH => AY rfl rfl (Bi Bh rfl) (hH.row 0 rfl) hb) ?_
            refine Am (post := fun _ => [cell gx 34 #[.int .i64 x.e.k, .int .u64 x.e.t, .int .u64 x.e.i, x.v, .int .i64 x.e.c]]) rfl (Bc (Aj Tryz.func96 (by kernel_rfl) rfl) (fun w hH => JS w x.e.c true hs) rfl rfl rfl) ?_; rintro ⟨⟩
            refine Af Ai rfl ?_
            refine Ab (Az (BC (D8 ?_)))
            exact Ay (.tmp rfl) (fun w h => ⟨rfl, Av h.up⟩) rfl
          · skip
            have hs2 : (Ka x.e.c && x.e.c != 0) = false := hs
            obtain rfl : r = false := by rw [← hR, ← hv3]; simp only [Fv, hk, Bool.and_assoc, hs2]; simp
            refine Ad ?_
            refine Af Ai rfl ?_
            refine Aa rfl (x.v) (fun b w hb hH => AY rfl rfl (Bi CS rfl) (hH.row 0 rfl) hb) ?_
            refine Aa rfl (.int .i64 (x.e.d.length : Int)) (fun b w hb hH => Bp ((Fz hv hH).rd) Tryz.underlying30 rfl rfl hb) ?_
            refine Aa rfl (.bool true) (fun b w hb hH => AZ rfl rfl rfl (FI (by omega)) hb) ?_
            refine Af Ai rfl ?_
            refine Aa rfl (.int .i64 x.e.c) (fun b w hb hH => AY rfl rfl (Bi Bh rfl) (hH.row 0 rfl) hb) ?_
            refine Am (post := fun _ => [cell gx 34 #[.int .i64 x.e.k, .int .u64 x.e.t, .int .u64 x.e.i, x.v, .int .i64 x.e.c]]) rfl (Bc (Aj Tryz.func96 (by kernel_rfl) rfl) (fun w hH => JS w x.e.c false hs) rfl rfl rfl) ?_; rintro ⟨⟩
            refine Af Ai rfl ?_
            refine Ab (Az (BC (D8 ?_)))
            exact Ay (.tmp rfl) (fun w h => ⟨rfl, Av h.up⟩) rfl
        · skip
          have hd0 : (x.e.d == []) = false := by cases hx : x.e.d with | nil => rw [hx] at hd; exact absurd rfl hd | cons => rfl
          obtain rfl : r = false := by rw [← hR, ← hv3]; simp [Fv, hk, hd0]
          refine Ad ?_
          refine Af Ai rfl ?_
          refine Aa rfl (x.v) (fun b w hb hH => AY rfl rfl (Bi CS rfl) (hH.row 0 rfl) hb) ?_
          refine Aa rfl (.int .i64 (x.e.d.length : Int)) (fun b w hb hH => Bp ((Fz hv hH).rd) Tryz.underlying30 rfl rfl hb) ?_
          refine Aa rfl (.bool false) (fun b w hb hH => AZ rfl rfl rfl (EK (by omega)) hb) ?_
          refine Af Ai rfl ?_
          refine Ab (Az (BC (D8 ?_)))
          exact Ay (.tmp rfl) (fun w h => ⟨rfl, Av h.up⟩) rfl
      · skip
        obtain rfl : r = false := by rw [← hR, ← hv3]; simp [Fv, hk]
        refine Ad ?_
        refine Af Ai rfl ?_
        refine Aa rfl (.bool false) (fun b w hb hH => AZ rfl rfl rfl (EK hk.1) hb) ?_
        refine Af Ai rfl ?_
        refine Ab (As rfl (Ad ?_))
        refine Af Ai rfl ?_
        refine Aa rfl (.bool false) (fun b w hb hH => AZ rfl rfl rfl (EK hk.2.1) hb) ?_
        refine Af Ai rfl ?_
        refine Ab (As rfl (Ad ?_))
        refine Af Ai rfl ?_
        refine Aa rfl (.bool false) (fun b w hb hH => AZ rfl rfl rfl (EK hk.2.2) hb) ?_
        refine Af Ai rfl ?_
        refine Ab (As rfl (Aw (AW (AB (Ad ?_)))))
        refine Af Ai rfl ?_
        refine Ab (Az ?_)
        exact Ay (.tmp rfl) (fun w h => ⟨rfl, Av h.up⟩) rfl
end Go.Proofs.YtnknboibmifacaaGreatDoor.Sep
namespace Go.Proofs.YtnknboibmifacaaGreatDoor.Sep
open Go.RowKit
open Go.Proofs.YtnknboibmifacaaGreatDoor.Mem (AR B3 Chg Av)
theorem MQ {w : World} {A : Option Addr} {n c : Nat} {l : List UInt8} (h : D9 w (.slice A n c) l) : l.length ≤ c := by
 obtain ⟨A', c', e, hb⟩ := h
 simp only [Value.slice.injEq] at e
 obtain ⟨rfl, _, rfl⟩ := e
 exact hb.1
theorem E3.mid {X : Ass} {A : Option Addr} {c i j : Nat} {l : List UInt8} (h : E3 X (.slice A l.length c) l) (hij : i ≤ j) (hj : j ≤ l.length) : E3 X (.slice (if c = i then A else A.map (·.add i)) (j - i) (c - i)) ((l.take j).drop i) := fun rs w h1 h2 => by
  have h3 := (h rs w h1 h2).takes hj
  have hl : (l.take j).length = j := by rw [List.length_take]; omega
  have h4 := h3.drop (k := i) (by omega)
  rw [List.length_drop, hl] at h4
  exact h4
theorem IZ {A : Option Addr} {n c i j : Nat} : Ca 1 (.slice A n c) i j = .slice (if c = i then A else A.map (·.add i)) (j - i) (c - i) := by
  show Value.slice (if c = i then A else A.map (·.add (i * 1))) (j - i) (c - i) = _
  rw [Nat.mul_one]
theorem NV {most n sz e : Nat} {l : List UInt8} {f : Nat} (hf : f = 0) (hv : B1 most l 0 0 = (n, sz, e)) (he : e ≠ 0) : Cw (most : Int) l f = ([], l, e) := by
 unfold Cw
 rw [if_neg (by simp [hf]), Int.toNat_natCast, hv, if_pos he]
theorem NW {most n sz : Nat} {l : List UInt8} {f : Nat} (hf : f = 0) (hv : B1 most l 0 0 = (n, sz, 0)) (hn : l.length - sz < n) : Cw (most : Int) l f = ([], l, 10) := by
 unfold Cw
 rw [if_neg (by simp [hf]), Int.toNat_natCast, hv, if_neg (by simp), if_pos hn]
theorem Pr {most n sz : Nat} {l : List UInt8} {f : Nat} (hf : f = 0) (hv : B1 most l 0 0 = (n, sz, 0)) (hn : ¬ l.length - sz < n) : Cw (most : Int) l f = ((l.drop sz).take n, l.drop (sz + n), f) := by
 unfold Cw
 rw [if_neg (by simp [hf]), Int.toNat_natCast, hv, if_neg (by simp), if_neg hn, hf]
theorem UN {w : World} {A : Option Addr} {c : Nat} {l : List UInt8} (h : D9 w (.slice A l.length c) l) (hl : l.length ≤ 140737488355328) (most : Nat) (hm : most < 18446744073709551616) (n sz e : Nat) (hv : B1 most l 0 0 = (n, sz, e)) : Calls Tryz.prog 197 #[.slice A l.length c, .int .u64 (most : Int)] w fun x w' => x = .returned (.tuple #[.int .u64 (n : Int), .int .i64 (sz : Int), .int .i64 (e : Int)]) ∧ Below w.heap.size w w' := Qu h hl most hm (n, sz, e) hv
theorem UO (most : Nat) (l : List UInt8) : (B1 most l 0 0).1 ≤ most := by
  rcases Hq most l 0 0 (by omega) (by decide) with ⟨_, _, _, h, _⟩ | ⟨h, _⟩
  · exact h
  · rw [h]; exact Nat.zero_le _
theorem UP (g : Nat) (l : List UInt8) (f most : Nat) (hm : most ≤ 9223372036854775807) (R : List UInt8 × List UInt8 × Nat) (h : Cw (most : Int) l f = R) : AP Tryz.prog 169 #[.pointer (some ⟨g, 0, none⟩), .int .i64 (most : Int)] [DU g l f] (fun (v : Value) => v) (fun (v : Value) => [DU g R.2.1 R.2.2, Ak 5 1 encB v R.1]) := by
  refine Bj (args := [.pointer (some ⟨g, 0, none⟩), .int .i64 (most : Int)]) 68 Tryz.func169 rfl rfl rfl ?_; intro w rs
  refine A7 0 rfl DU.open_ (fun _ => rfl) ?_; rintro ⟨⟨X, A, c⟩, hR, hL⟩
  refine AN.keep (env' := [(0, .pointer (some ⟨g, 0, none⟩)), (1, .int .i64 (most : Int))]) ⟨rfl, rfl, trivial⟩ ?_
  refine AN.mid [cell g 241 #[.slice A l.length c, .int .i64 (f : Int)], X] (.refl _) ?_
  refine Ad ?_
  refine Af Ai rfl ?_
  refine Ab (An ?_)
  by_cases hf : f = 0
  · skip
    have hz := Qw most l
    have hle := UO most l
    obtain ⟨⟨n, sz, e2⟩, hv⟩ : ∃ R, B1 most l 0 0 = R := ⟨_, rfl⟩
    rw [hv] at hz hle
    simp only at hz hle
    refine Ad ?_
    refine Af Ai rfl ?_
    refine Aa rfl (.pointer (some ⟨g, 0, none⟩)) (fun b w hb hH => by exact B8 rfl rfl hb) ?_
    refine Af Ai rfl ?_
    refine Aa rfl (.int .i64 (f : Int)) (fun b w hb hH => AY rfl rfl (Bi BI rfl) (hH.row 0 rfl) hb) ?_
    refine Aa rfl (.bool false) (fun b w hb hH => AZ rfl rfl rfl (Bu (by omega)) hb) ?_
    refine Ab (As rfl (Aw (AB (Ad ?_))))
    refine Af Ai rfl ?_
    refine Aa rfl (.pointer (some ⟨g, 0, none⟩)) (fun b w hb hH => by exact B8 rfl rfl hb) ?_
    refine Af Ai rfl ?_
    refine Aa rfl (.slice A l.length c) (fun b w hb hH => AY rfl rfl (Bi CS rfl) (hH.row 0 rfl) hb) ?_
    refine Af Ai rfl ?_
    refine Aa rfl (.int .i64 (most : Int)) (fun b w hb hH => Cf rfl rfl (fun cs => (fun w cs => Nr (by rw [if_neg (by omega)]) _ _ w cs) w cs) hb) ?_
    refine Aa rfl (.int .u64 (most : Int)) (fun b w hb hH => A5 Tryz.underlying3 Tryz.underlying31 (IntWalk.u64_in _ (by omega)) rfl rfl hb) ?_
    refine Am (post := fun _ => [cell g 241 #[.slice A l.length c, .int .i64 (f : Int)], X]) rfl (Bc (Aj Tryz.func197 (by kernel_rfl) rfl) (fun w hH => UN (hH.rd8 1 rfl hR) hL most (by omega) n sz e2 hv) rfl rfl rfl) ?_; rintro ⟨⟩
    refine Af Ai rfl ?_
    refine Ab (An ?_)
    by_cases he : e2 = 0
    · skip
      subst he
      refine Ad ?_
      refine Af Ai rfl ?_
      refine Aa rfl (.bool false) (fun b w hb hH => AZ rfl rfl rfl (Bu (by omega)) hb) ?_
      refine Ab (As rfl (Aw (AB (An ?_))))
      by_cases hn : l.length - sz < n
      · skip
        obtain rfl : R = ([], l, 10) := h.symm.trans (NW hf hv hn)
        refine Ad ?_
        refine Af Ai rfl ?_
        refine Aa rfl (.int .i64 (n : Int)) (fun b w hb hH => A5 Tryz.underlying31 Tryz.underlying3 (IntWalk.i64_in _ (by omega)) rfl rfl hb) ?_
        refine Af Ai rfl ?_
        refine Aa rfl (.pointer (some ⟨g, 0, none⟩)) (fun b w hb hH => by exact B8 rfl rfl hb) ?_
        refine Af Ai rfl ?_
        refine Aa rfl (.slice A l.length c) (fun b w hb hH => AY rfl rfl (Bi CS rfl) (hH.row 0 rfl) hb) ?_
        refine Aa rfl (.int .i64 (l.length : Int)) (fun b w hb hH => DL Bf rfl rfl hH hb) ?_
        refine Af Ai rfl ?_
        refine Aa rfl (.int .i64 ((l.length : Int) - (sz : Int))) (fun b w hb hH => AH rfl rfl rfl rfl (IntWalk.i64_in _ (by omega)) hb) ?_
        refine Aa rfl (.bool true) (fun b w hb hH => AZ rfl rfl rfl (BO (by omega)) hb) ?_
        refine Ab (AI rfl (Ad ?_))
        refine Af Ai rfl ?_
        refine Aa rfl (.pointer (some ⟨g, 0, none⟩)) (fun b w hb hH => by exact B8 rfl rfl hb) ?_
        refine Af Ai rfl ?_
        refine AL (post := fun _ => [cell g 241 #[.slice A l.length c, .int .i64 10], X]) rfl rfl (AU 0 (v := .int .i64 10) #[.slice A l.length c, .int .i64 10] BI.2 rfl rfl rfl rfl rfl rfl rfl rfl rfl) ?_; rintro ⟨⟩
        refine Ab ?_
        refine Bg [0, 1] rfl (DU.mk_ rfl hR hL) rfl ?_
        refine BN 5 1 encB ?_
        refine Ad ?_
        refine Af Ai rfl ?_
        refine Ab (Az (D8 ?_))
        exact Ay (.tmp rfl) (fun w h => AC (.slice none 0 0) rfl [1, 0] rfl h Ed) rfl
      · skip
        obtain ⟨A2, hA2⟩ : ∃ A2, (if c = (sz + n) then A else A.map (·.add (sz + n))) = A2 := ⟨_, rfl⟩
        obtain ⟨l2, hl2⟩ : ∃ l2, l.drop (sz + n) = l2 := ⟨_, rfl⟩
        have hR2 : E3 X (.slice A2 l2.length (c - (sz + n))) l2 := by rw [← hA2, ← hl2]; exact hR.drop (by omega)
        have hn2 : l2.length = l.length - (sz + n) := by rw [← hl2, List.length_drop]
        have hL2 : l2.length ≤ 140737488355328 := by omega
        have hsub : Ca 1 (.slice A l.length c) (sz + n) l.length = .slice A2 l2.length (c - (sz + n)) := by rw [← hA2]; exact KF (by omega) (by omega)
        obtain ⟨A3, hA3⟩ : ∃ A3, (if c = sz then A else A.map (·.add sz)) = A3 := ⟨_, rfl⟩
        obtain ⟨l3, hl3⟩ : ∃ l3, (l.take (sz + n)).drop sz = l3 := ⟨_, rfl⟩
        have hR3 : E3 X (.slice A3 (sz + n - sz) (c - sz)) l3 := by rw [← hA3, ← hl3]; exact hR.mid (by omega) (by omega)
        have hsub3 : Ca 1 (.slice A l.length c) sz (sz + n) = .slice A3 (sz + n - sz) (c - sz) := by rw [← hA3]; exact IZ
        have hl4 : (l.drop sz).take n = l3 := by rw [← hl3, List.drop_take, Nat.add_sub_cancel_left]
        have hl5 : l3.length ≤ 140737488355328 := by rw [← hl4, List.length_take, List.length_drop]; omega
        obtain rfl : R = (l3, l2, f) := by rw [← h, ← hl4, ← hl2]; exact Pr hf hv hn
        refine Ad ?_
        refine Af Ai rfl ?_
        refine Aa rfl (.int .i64 (n : Int)) (fun b w hb hH => A5 Tryz.underlying31 Tryz.underlying3 (IntWalk.i64_in _ (by omega)) rfl rfl hb) ?_
        refine Af Ai rfl ?_
        refine Aa rfl (.pointer (some ⟨g, 0, none⟩)) (fun b w hb hH => by exact B8 rfl rfl hb) ?_
        refine Af Ai rfl ?_
        refine Aa rfl (.slice A l.length c) (fun b w hb hH => AY rfl rfl (Bi CS rfl) (hH.row 0 rfl) hb) ?_
        refine Aa rfl (.int .i64 (l.length : Int)) (fun b w hb hH => DL Bf rfl rfl hH hb) ?_
        refine Af Ai rfl ?_
        refine Aa rfl (.int .i64 ((l.length : Int) - (sz : Int))) (fun b w hb hH => AH rfl rfl rfl rfl (IntWalk.i64_in _ (by omega)) hb) ?_
        refine Aa rfl (.bool false) (fun b w hb hH => AZ rfl rfl rfl (BE (by omega)) hb) ?_
        refine Ab (As rfl (Aw (AB (Ad ?_))))
        refine Af Ai rfl ?_
        refine Aa rfl (.int .i64 (n : Int)) (fun b w hb hH => A5 Tryz.underlying31 Tryz.underlying3 (IntWalk.i64_in _ (by omega)) rfl rfl hb) ?_
        refine Aa rfl (.int .i64 ((sz + n : Nat) : Int)) (fun b w hb hH => AH rfl rfl rfl rfl (by rw [IntWalk.i64_in _ (by omega)]; omega) hb) ?_
        refine Af Ai rfl ?_
        refine Ab (Ad ?_)
        refine Af Ai rfl ?_
        refine Aa rfl (.pointer (some ⟨g, 0, none⟩)) (fun b w hb hH => by exact B8 rfl rfl hb) ?_
        refine Af Ai rfl ?_
        refine Aa rfl (.slice A l.length c) (fun b w hb hH => AY rfl rfl (Bi CS rfl) (hH.row 0 rfl) hb) ?_
        refine Af Ai rfl ?_
        refine Aa rfl (.slice A3 (sz + n - sz) (c - sz)) (fun b w hb hH => VC (i := sz) (j := (sz + n)) Bf hsub3 (by omega) (Nat.le_trans (by omega) (MQ (A := A) (n := l.length) (c := c) (hH.rd8 1 rfl hR))) rfl rfl rfl rfl hH hb) ?_
        refine Am rfl (Au (os' := fun v9 => [Ak 5 1 encB v9 l3, cell g 241 #[.slice A l.length c, .int .i64 (f : Int)], X]) [1] 0 (Aj Tryz.func114 (by kernel_rfl) rfl) (FQ hR3 hl5) rfl rfl rfl (fun _ => rfl) rfl rfl rfl) ?_; rintro v9
        refine Af Ai rfl ?_
        refine Ab ?_
        refine AN.keep (env' := [(0, .pointer (some ⟨g, 0, none⟩)), (4, .slice none 0 0), (8, .int .i64 ((sz + n : Nat) : Int)), (9, v9)]) ⟨rfl, rfl, rfl, rfl, trivial⟩ ?_
        refine Ad ?_
        refine Af Ai rfl ?_
        refine Aa rfl (.pointer (some ⟨g, 0, none⟩)) (fun b w hb hH => by exact B8 rfl rfl hb) ?_
        refine Af Ai rfl ?_
        refine Aa rfl (.slice A l.length c) (fun b w hb hH => AY rfl rfl (Bi CS rfl) (hH.row 1 rfl) hb) ?_
        refine Af Ai rfl ?_
        refine Aa rfl (.slice A2 l2.length (c - (sz + n))) (fun b w hb hH => DS (i := (sz + n)) Bf hsub (by omega) rfl rfl rfl hH hb) ?_
        refine Aa rfl (.pointer (some ⟨g, 0, none⟩)) (fun b w hb hH => by exact B8 rfl rfl hb) ?_
        refine Af Ai rfl ?_
        refine AL (post := fun _ => [Ak 5 1 encB v9 l3, cell g 241 #[.slice A2 l2.length (c - (sz + n)), .int .i64 (f : Int)], X]) rfl rfl (AU 1 (v := .slice A2 l2.length (c - (sz + n))) #[.slice A2 l2.length (c - (sz + n)), .int .i64 (f : Int)] CS.2 rfl rfl rfl rfl rfl rfl rfl rfl rfl) ?_; rintro ⟨⟩
        refine Ab ?_
        refine Bg [1, 2] rfl (DU.mk_ rfl hR2 hL2) rfl ?_
        refine Ad ?_
        refine Af Ai rfl ?_
        refine Ab (Az ?_)
        exact Ay (.tmp rfl) (fun w h => AC v9 rfl [0, 1] rfl h Ed) rfl
    · skip
      obtain rfl : R = ([], l, e2) := h.symm.trans (NV hf hv he)
      refine Ad ?_
      refine Af Ai rfl ?_
      refine Aa rfl (.bool true) (fun b w hb hH => AZ rfl rfl rfl (D5 (by omega)) hb) ?_
      refine Ab (AI rfl (Ad ?_))
      refine Af Ai rfl ?_
      refine Aa rfl (.pointer (some ⟨g, 0, none⟩)) (fun b w hb hH => by exact B8 rfl rfl hb) ?_
      refine Af Ai rfl ?_
      refine AL (post := fun _ => [cell g 241 #[.slice A l.length c, .int .i64 (e2 : Int)], X]) rfl rfl (AU 0 (v := .int .i64 (e2 : Int)) #[.slice A l.length c, .int .i64 (e2 : Int)] BI.2 rfl rfl rfl rfl rfl rfl rfl rfl rfl) ?_; rintro ⟨⟩
      refine Ab ?_
      refine Bg [0, 1] rfl (DU.mk_ rfl hR hL) rfl ?_
      refine BN 5 1 encB ?_
      refine Ad ?_
      refine Af Ai rfl ?_
      refine Ab (Az (D8 ?_))
      exact Ay (.tmp rfl) (fun w h => AC (.slice none 0 0) rfl [1, 0] rfl h Ed) rfl
  · skip
    obtain rfl : R = ([], l, f) := h.symm.trans (NH hf)
    refine Ad ?_
    refine Af Ai rfl ?_
    refine Aa rfl (.pointer (some ⟨g, 0, none⟩)) (fun b w hb hH => by exact B8 rfl rfl hb) ?_
    refine Af Ai rfl ?_
    refine Aa rfl (.int .i64 (f : Int)) (fun b w hb hH => AY rfl rfl (Bi BI rfl) (hH.row 0 rfl) hb) ?_
    refine Aa rfl (.bool true) (fun b w hb hH => AZ rfl rfl rfl (D5 (by omega)) hb) ?_
    refine Ab (AI rfl ?_)
    refine Bg [0, 1] rfl (DU.mk_ rfl hR hL) rfl ?_
    refine BN 5 1 encB ?_
    refine Ad ?_
    refine Af Ai rfl ?_
    refine Ab (Az (D8 ?_))
    exact Ay (.tmp rfl) (fun w h => AC (.slice none 0 0) rfl [1, 0] rfl h Ed) rfl
end Go.Proofs.YtnknboibmifacaaGreatDoor.Sep
namespace Go.Proofs.YtnknboibmifacaaGreatDoor.Sep
open Go.RowKit
open Go.Proofs.YtnknboibmifacaaGreatDoor.Mem (AR B3 Chg Av)
structure SlV where
  A : Option Addr
  c : Nat
theorem EL {l : List UInt8} {e e' : EntD} {n n' : Nat} (h : Ei l = (e', n')) (hD : Ei l = (e, n)) : e' = e ∧ n' = n := by
 have := h.symm.trans hD
 simpa using this
theorem Ry {e : EntD} (h : e.k = 0) : B9 e = [UInt8.ofNat e.k.toNat] ++ F2 e.t ++ F2 e.i := by
 unfold B9 Eh
 rw [if_neg (by omega), if_neg (by omega)]
 simp
theorem S9 {e : EntD} (h : e.k = 1) : B9 e = [UInt8.ofNat e.k.toNat] ++ F2 e.t ++ F2 e.i ++ Pe e.d := by
 unfold B9 Eh
 rw [if_pos h]
 simp
theorem Rz {e : EntD} (h : e.k = 2) : B9 e = [UInt8.ofNat e.k.toNat] ++ F2 e.t ++ F2 e.i ++ [UInt8.ofNat e.c.toNat] := by
 unfold B9 Eh
 rw [if_neg (by omega), if_pos h]
 simp
theorem Jt (u : World) (x : EntV) (hv : D9 u x.v x.e.d) (hr : BR x.e = true) : ES u Tryz.prog 97 #[.agg #[.int .i64 x.e.k, .int .u64 x.e.t, .int .u64 x.e.i, x.v, .int .i64 x.e.c]] [] (fun (v : Value) => .tuple #[v, .int .i64 0]) (fun (v : Value) => [Ak 5 1 encB v (B9 x.e)]) := by
  obtain ⟨ht, hi, hk⟩ := Fw hr
  have ht1 := Hu ht.2
  have hi1 := Hu hi.2
  obtain ⟨L0, hL0⟩ : ∃ L0, [UInt8.ofNat x.e.k.toNat] = L0 := ⟨_, rfl⟩
  obtain ⟨L1, hL1⟩ : ∃ L1, L0 ++ F2 x.e.t = L1 := ⟨_, rfl⟩
  obtain ⟨L2, hL2⟩ : ∃ L2, L1 ++ F2 x.e.i = L2 := ⟨_, rfl⟩
  obtain ⟨L3, hL3⟩ : ∃ L3, B9 x.e = L3 := ⟨_, rfl⟩
  have n0 : L0.length = 1 := by rw [← hL0]; rfl
  have n1 : L1.length ≤ 9 := by rw [← hL1, List.length_append]; omega
  have n2 : L2.length ≤ 17 := by rw [← hL2, List.length_append]; omega
  have n3 : L3.length ≤ 147 := by rw [← hL3]; exact ET hr
  refine KA (args := [.agg #[.int .i64 x.e.k, .int .u64 x.e.t, .int .u64 x.e.i, x.v, .int .i64 x.e.c]]) 39 Tryz.func97 rfl rfl rfl ?_; intro w rs hU hS
  refine Ad ?_
  refine Af Ai rfl ?_
  refine Am (post := fun gx => [cell gx 34 #[.int .i64 x.e.k, .int .u64 x.e.t, .int .u64 x.e.i, x.v, .int .i64 x.e.c]]) rfl (CD (cs := #[.int .i64 x.e.k, .int .u64 x.e.t, .int .u64 x.e.i, x.v, .int .i64 x.e.c]) rfl rfl rfl) ?_; rintro gx
  refine Af Ai rfl ?_
  refine Ab (An (Ad ?_))
  refine Af Ai rfl ?_
  refine Aa rfl (.agg #[.int .i64 x.e.k, .int .u64 x.e.t, .int .u64 x.e.i, x.v, .int .i64 x.e.c]) (fun b w hb hH => AY rfl rfl (EY (cs := [.int .i64 x.e.k, .int .u64 x.e.t, .int .u64 x.e.i, x.v, .int .i64 x.e.c]) BH rfl) (hH.row 0 rfl) hb) ?_
  refine Am (post := fun _ => [cell gx 34 #[.int .i64 x.e.k, .int .u64 x.e.t, .int .u64 x.e.i, x.v, .int .i64 x.e.c]]) rfl (Bc (Aj Tryz.func44 (by kernel_rfl) rfl) (fun w hH => DB w x (En hv hU hS hH) true hr) rfl rfl rfl) ?_; rintro ⟨⟩
  refine Af Ai rfl ?_
  refine Ab (As rfl (Aw (AB (Ad ?_))))
  refine Af Ai rfl ?_
  refine Am rfl (Au (os' := fun g => [LH g ([]), cell gx 34 #[.int .i64 x.e.k, .int .u64 x.e.t, .int .u64 x.e.i, x.v, .int .i64 x.e.c]]) [] 0 (Aj Tryz.func141 (by kernel_rfl) rfl) (Wd) rfl rfl rfl (fun _ => rfl) rfl rfl rfl) ?_; rintro g
  refine Af Ai rfl ?_
  refine Ab (Ad ?_)
  refine Af Ai rfl ?_
  refine Aa rfl (.int .i64 x.e.k) (fun b w hb hH => AY rfl rfl (Bi Bh rfl) (hH.row 1 rfl) hb) ?_
  refine Aa rfl (.int .u8 x.e.k) (fun b w hb hH => A5 Tryz.underlying3 Tryz.underlying5 (IntWalk.u8_in _ (by omega)) rfl rfl hb) ?_
  refine Am rfl (Au (os' := fun _ => [LH g L0, cell gx 34 #[.int .i64 x.e.k, .int .u64 x.e.t, .int .u64 x.e.i, x.v, .int .i64 x.e.c]]) [0] 0 (Aj Tryz.func142 (by kernel_rfl) rfl) (Qs g ([]) x.e.k (by omega) L0 (by rw [← hL0]; rfl) (by simp)) rfl rfl rfl (fun _ => rfl) rfl rfl rfl) ?_; rintro ⟨⟩
  refine Ab (Ad ?_)
  refine Af Ai rfl ?_
  refine Aa rfl (.int .u64 x.e.t) (fun b w hb hH => AY rfl rfl (Bi AO rfl) (hH.row 1 rfl) hb) ?_
  refine Am rfl (Au (os' := fun _ => [LH g L1, cell gx 34 #[.int .i64 x.e.k, .int .u64 x.e.t, .int .u64 x.e.i, x.v, .int .i64 x.e.c]]) [0] 0 (Aj Tryz.func143 (by kernel_rfl) rfl) (SP g L0 x.e.t ⟨by omega, by omega⟩ L1 hL1 (by omega)) rfl rfl rfl (fun _ => rfl) rfl rfl rfl) ?_; rintro ⟨⟩
  refine Ab (Ad ?_)
  refine Af Ai rfl ?_
  refine Aa rfl (.int .u64 x.e.i) (fun b w hb hH => AY rfl rfl (Bi AO rfl) (hH.row 1 rfl) hb) ?_
  refine Am rfl (Au (os' := fun _ => [LH g L2, cell gx 34 #[.int .i64 x.e.k, .int .u64 x.e.t, .int .u64 x.e.i, x.v, .int .i64 x.e.c]]) [0] 0 (Aj Tryz.func143 (by kernel_rfl) rfl) (SP g L1 x.e.i ⟨by omega, by omega⟩ L2 hL2 (by omega)) rfl rfl rfl (fun _ => rfl) rfl rfl rfl) ?_; rintro ⟨⟩
  refine Ab (An (Ad ?_))
  refine Af Ai rfl ?_
  refine Aa rfl (.int .i64 x.e.k) (fun b w hb hH => AY rfl rfl (Bi Bh rfl) (hH.row 1 rfl) hb) ?_
  refine Ab (AQ ?_)
  rcases hk with ⟨hk, hd, hc⟩ | ⟨hk, hd, hd2, hc⟩ | ⟨hk, hd, hc, hc2, hc3⟩
  · skip
    obtain rfl : L2 = L3 := by rw [← hL3, Ry hk, ← hL2, ← hL1, ← hL0]
    refine Ad ?_
    refine Af Ai rfl ?_
    refine Aa rfl (.bool false) (fun b w hb hH => AZ rfl rfl rfl (EK (by omega)) hb) ?_
    refine Af Ai rfl ?_
    refine Ab (As rfl (Ad ?_))
    refine Af Ai rfl ?_
    refine Aa rfl (.bool false) (fun b w hb hH => AZ rfl rfl rfl (EK (by omega)) hb) ?_
    refine Af Ai rfl ?_
    refine Ab (As rfl (Aw (AW (AB (Ad ?_)))))
    refine Af Ai rfl ?_
    refine Am rfl (Au (os' := fun v => [Ak 5 1 encB v L2, LH g L2, cell gx 34 #[.int .i64 x.e.k, .int .u64 x.e.t, .int .u64 x.e.i, x.v, .int .i64 x.e.c]]) [0] 0 (Aj Tryz.func145 (by kernel_rfl) rfl) (KG g L2 (by omega)) rfl rfl rfl (fun _ => rfl) rfl rfl rfl) ?_; rintro v
    refine Af Ai rfl ?_
    refine Ab (Az ?_)
    exact Ch (.tmp rfl) (.tmp rfl) (fun w h => AC v rfl [0] rfl h (fun z hz => ⟨z, .refl _, by rw [hL3]; exact hz⟩)) rfl
  · skip
    refine Ad ?_
    refine Af Ai rfl ?_
    refine Aa rfl (.bool true) (fun b w hb hH => AZ rfl rfl rfl (FI (by omega)) hb) ?_
    refine Af Ai rfl ?_
    refine Ab (AI rfl (BJ ?_))
    refine Af Ai rfl ?_
    refine Aa rfl (x.v) (fun b w hb hH => AY rfl rfl (Bi CS rfl) (hH.row 1 rfl) hb) ?_
    refine Am (post := fun _ => [LH g L3, cell gx 34 #[.int .i64 x.e.k, .int .u64 x.e.t, .int .u64 x.e.i, x.v, .int .i64 x.e.c]]) rfl (MJ hU hS (os' := fun _ => [LH g L3, cell gx 34 #[.int .i64 x.e.k, .int .u64 x.e.t, .int .u64 x.e.i, x.v, .int .i64 x.e.c]]) [0] 0 (Aj Tryz.func144 (by kernel_rfl) rfl) (S6 hv g L2 L3 (by rw [← hL3, S9 hk, ← hL2, ← hL1, ← hL0]) (by omega)) rfl rfl rfl (fun _ => rfl) rfl rfl rfl) ?_; rintro ⟨⟩
    refine AD (AW (AB (Ad ?_)))
    refine Af Ai rfl ?_
    refine Am rfl (Au (os' := fun v => [Ak 5 1 encB v L3, LH g L3, cell gx 34 #[.int .i64 x.e.k, .int .u64 x.e.t, .int .u64 x.e.i, x.v, .int .i64 x.e.c]]) [0] 0 (Aj Tryz.func145 (by kernel_rfl) rfl) (KG g L3 (by omega)) rfl rfl rfl (fun _ => rfl) rfl rfl rfl) ?_; rintro v
    refine Af Ai rfl ?_
    refine Ab (Az ?_)
    exact Ch (.tmp rfl) (.tmp rfl) (fun w h => AC v rfl [0] rfl h (fun z hz => ⟨z, .refl _, by rw [hL3]; exact hz⟩)) rfl
  · skip
    refine Ad ?_
    refine Af Ai rfl ?_
    refine Aa rfl (.bool false) (fun b w hb hH => AZ rfl rfl rfl (EK (by omega)) hb) ?_
    refine Af Ai rfl ?_
    refine Ab (As rfl (Ad ?_))
    refine Af Ai rfl ?_
    refine Aa rfl (.bool true) (fun b w hb hH => AZ rfl rfl rfl (FI (by omega)) hb) ?_
    refine Af Ai rfl ?_
    refine Ab (AI rfl (BJ ?_))
    refine Af Ai rfl ?_
    refine Aa rfl (.int .i64 x.e.c) (fun b w hb hH => AY rfl rfl (Bi Bh rfl) (hH.row 1 rfl) hb) ?_
    refine Aa rfl (.int .u8 x.e.c) (fun b w hb hH => A5 Tryz.underlying3 Tryz.underlying5 (IntWalk.u8_in _ (by omega)) rfl rfl hb) ?_
    refine Am rfl (Au (os' := fun _ => [LH g L3, cell gx 34 #[.int .i64 x.e.k, .int .u64 x.e.t, .int .u64 x.e.i, x.v, .int .i64 x.e.c]]) [0] 0 (Aj Tryz.func142 (by kernel_rfl) rfl) (Qs g L2 x.e.c (by omega) L3 (by rw [← hL3, Rz hk, ← hL2, ← hL1, ← hL0]) (by omega)) rfl rfl rfl (fun _ => rfl) rfl rfl rfl) ?_; rintro ⟨⟩
    refine AD (AW (AB (Ad ?_)))
    refine Af Ai rfl ?_
    refine Am rfl (Au (os' := fun v => [Ak 5 1 encB v L3, LH g L3, cell gx 34 #[.int .i64 x.e.k, .int .u64 x.e.t, .int .u64 x.e.i, x.v, .int .i64 x.e.c]]) [0] 0 (Aj Tryz.func145 (by kernel_rfl) rfl) (KG g L3 (by omega)) rfl rfl rfl (fun _ => rfl) rfl rfl rfl) ?_; rintro v
    refine Af Ai rfl ?_
    refine Ab (Az ?_)
    exact Ch (.tmp rfl) (.tmp rfl) (fun w h => AC v rfl [0] rfl h (fun z hz => ⟨z, .refl _, by rw [hL3]; exact hz⟩)) rfl
end Go.Proofs.YtnknboibmifacaaGreatDoor.Sep
namespace Go.Proofs.YtnknboibmifacaaGreatDoor.Sep
open Go.RowKit
open Go.Proofs.YtnknboibmifacaaGreatDoor.Mem (AR B3 Chg)
section
variable {P : Program} {t e ty : TypeId} {k : Nat} {α : Type} {enc : α → List Value} {v u : Value} {l m : List α} {w w' : World} {rs : List RowT}
theorem NX {nb : Nat} (hT : SliceT P t e k) (hb : (P.info? e).map (fun i => i.bytes) = some nb) (hb1 : 1 ≤ nb) (he : EncOf k enc) (h : Ak e k enc v l rs) (hr : RowsOf w rs) (hd : AR rs) (hu : Dd w k u m.length (flat enc m)) (hlen : (l.length + m.length) * nb ≤ 140737488355328) :
    ∃ v' w', (Builtin.append_ #[t, t] ty #[v, u]).run P w = .ok v' w' ∧ ∃ rs', Ak e k enc v' (l ++ m) rs' ∧ Chg w w' rs rs' := by
  obtain ⟨i, z, hi, hz, hk, hby, hzs, _⟩ := hT.inf
  have hbn : i.bytes = nb := by simpa [hi] using hb
  have hl1 : l.length + m.length ≤ 140737488355328 := Nat.le_trans (Nat.le_mul_of_pos_right _ hb1) hlen
  obtain ⟨hul, A, c, rfl, hA⟩ := hu
  have hu1 := IF he m
  rcases hA with ⟨rfl, hm⟩ | ⟨a, rfl, hcells⟩
  · have hm' : m = [] := List.length_eq_zero_iff.1 hm
    subst hm'
    refine ⟨v, w, ?_, rs, by simpa using h, ⟨Mod.refl _ _, hr, hd, fun x hx _ => ⟨x, hx, rfl⟩⟩⟩
    rcases h with ⟨h1, h2, h3⟩ | ⟨g, c', cs, h1, h2, h3, h4, h5, h6⟩
    · subst h1
      simp [Builtin.append_, run_underlying hT.ht, sizeOf, typeInfo, hi, Builtin.lenOf, Builtin.firstCells]
    · subst h1
      simp [Builtin.append_, run_underlying hT.ht, sizeOf, typeInfo, hi, Builtin.lenOf, Builtin.firstCells, h2, storeCells]
  · have hown : w.ownsRow 0 e k v l.length (flat enc l) := by
      refine ⟨Dj he l, ?_⟩
      rcases h with ⟨h1, h2, h3⟩ | ⟨g, c', cs, h1, h2, h3, h4, h5, h6⟩
      · exact .inl ⟨h1, by rw [h2]; rfl⟩
      · subst h6
        exact .inr ⟨g, c', cs, h1, Nat.zero_le _, hr.1, h2, h3, h4, h5⟩
    obtain ⟨v', w', hrun, h2, h3, _, h5⟩ := run_append_own_at (P := P) w 0 t ty e i z k i.bytes hT.ht hi hz hk rfl hzs hT.pos v l.length (flat enc l) hown a m.length c (flat enc m) hul hcells hu1 (by unfold maxLen; omega)
      (by rw [hbn]; omega) (Nat.zero_le _)
    refine ⟨v', w', hrun, ?_⟩
    have hm : Mod (At v) w w' := Mod.of_grown h3 (fun k hk => hk)
    have hmB : Mod (B3 rs) w w' := hm.weaken fun j _ hj => by
      rcases h with ⟨h1, _, _⟩ | ⟨g, c', cs, h1, _, _, _, _, h6⟩
      · subst h1; unfold At at hj; simp [Value.ownBlock] at hj
      · subst h1; subst h6
        unfold At at hj
        simp [Value.ownBlock] at hj
        exact ⟨(g, EO e, cs), by simp, hj⟩
    rcases h2.2 with ⟨h1, hn⟩ | ⟨g, c', cs, h1, _, hrow, hle, hmx, hsz, htk⟩
    · have : l ++ m = [] := List.length_eq_zero_iff.1 (by rw [List.length_append]; exact hn)
      exact ⟨[], .inl ⟨h1, this, rfl⟩, ⟨hmB, trivial, trivial, fun x hx => by simp at hx⟩⟩
    · refine ⟨[(g, EO e, cs)], .inr ⟨g, c', cs, by rw [h1, List.length_append], by rw [List.length_append]; exact hle, hmx, hsz, by rw [List.length_append, FX]; exact htk, rfl⟩, ⟨hmB, ⟨hrow, trivial⟩, ⟨(fun _ h => by cases h), trivial⟩, fun x hx hlt => ?_⟩⟩
      have : x = (g, EO e, cs) := by simpa using hx
      subst this
      rcases h5 with h5 | h5
      · subst h1
        rcases h with ⟨h1, _, _⟩ | ⟨g', c'', cs', h1, _, _, _, _, h6⟩
        · subst h1; simp [Value.ownBlock] at h5
        · subst h1; subst h6
          simp [Value.ownBlock] at h5
          exact ⟨(g', EO e, cs'), by simp, h5.symm⟩
      · subst h1
        simp [Value.ownBlock] at h5
        exact absurd hlt (by show ¬ g < w.heap.size; omega)
variable {Q : Exit → Act → World → Prop} {n : Nat} {B : Nat → Prop} {w0 : World} {os : List Ass} {env : List (Nat × Value)} {o : Oper}
theorem Do {nb : Nat} (i : Nat) (hT : SliceT P t e k) (he : EncOf k enc) (hb : (P.info? e).map (fun i => i.bytes) = some nb) (hb1 : 1 ≤ nb) (hi : os[i]? = some (Ak e k enc v l)) (m : List α) (hu : ∀ w, Hp B w0 w os → Dd w k u m.length (flat enc m)) (hlen : (l.length + m.length) * nb ≤ 140737488355328) {x y : Operand} (ho : o.op = .call { callee := .builtin .append, args := #[x, y], argTypes := #[t, t] }) (hx : evs env x = some v) (hy : evs env y = some u) {r : List α} (hr : l ++ m = r) :
  Bm P Q n env B w0 os o (fun v : Value => v) (fun v' => os.set i (Ak e k enc v' r)) := fun act w hH hF K hK => by
 subst hr
 have hH' := hH
 obtain ⟨rs0, hp, hm⟩ := hH
 obtain ⟨a, z, b, e1, hz, hbb⟩ := hp.at_ hi
 subst e1
 have p : (a ++ (z ++ b)).Perm (z ++ (a ++ b)) := by rw [← List.append_assoc, ← List.append_assoc]; exact List.perm_append_comm.append_right b
 have h5 := CV hm p
 have hd := Bk.1 h5.apart
 rw [List.map_append] at hd
 obtain ⟨v', w', hr, y', hy', hc⟩ := NX (P := P) (ty := o.type) hT hb hb1 he hz (Bt.2 fun z hz => h5.rows.mem z (by simp [hz])) (Bk.2 (List.nodup_append.1 hd).1) (hu w hH') hlen
 have p' : (y' ++ (a ++ b)).Perm (a ++ (y' ++ b)) := by rw [← List.append_assoc, ← List.append_assoc]; exact List.perm_append_comm.append_right b
 refine Ft (w0 := w) act (EJ ho (vs := [v, u]) (by simp [evl, hx, hy]) (fun cs => ?_) hF) (hK v' w' ⟨_, hbb _ y' hy', CV (Fs h5 hc) p'⟩)
 simp only [builtin, Sem.run_bind, Sem.run_pure, Result.andThen_ok, hr]
end
end Go.Proofs.YtnknboibmifacaaGreatDoor.Sep
namespace Go.Proofs.YtnknboibmifacaaGreatDoor.Sep
open Go.RowKit
open Go.Proofs.YtnknboibmifacaaGreatDoor.Mem (AR B3 Chg)
theorem KV : ∀ (ys : List Value) (n : Nat) (cs : Array Value), n + ys.length ≤ cs.size →
    ((ys.zipIdx n).foldl (fun (cs : Array Value) (p : Value × Nat) => cs.setIfInBounds p.2 p.1) cs).toList = cs.toList.take n ++ ys ++ cs.toList.drop (n + ys.length)
  | [], n, cs, _ => by simp
  | y :: ys, n, cs, h => by
    have hl : (y :: ys).length = ys.length + 1 := rfl
    have hn : n < cs.toList.length := by rw [Array.length_toList]; omega
    rw [List.zipIdx_cons, List.foldl_cons, KV ys (n + 1) _ (by rw [Array.size_setIfInBounds]; omega), Array.toList_setIfInBounds]
    have e1 : (cs.toList.set n y).take (n + 1) = cs.toList.take n ++ [y] := by
      rw [List.set_eq_take_append_cons_drop, if_pos hn, List.take_append, List.length_take, Nat.min_eq_left (by omega), List.take_of_length_le (by rw [List.length_take]; omega), show n + 1 - n = 1 by omega]
      rfl
    have e2 : (cs.toList.set n y).drop (n + 1 + ys.length) = cs.toList.drop (n + (ys.length + 1)) := by
      rw [List.drop_set, if_pos (by omega)]
      congr 1
      omega
    rw [e1, e2, hl]
    simp
variable {P : Program} {Q : Exit → Act → World → Prop} {n : Nat} {B : Nat → Prop} {w0 : World} {os : List Ass} {env : List (Nat × Value)} {o : Oper}
variable {t e : TypeId} {k : Nat} {α : Type} {enc : α → List Value}
theorem Ta {v : Value} {cells : Array Value} (h : v.cells.size = cells.size) (hk : v.cells.size = k) : Instr.fill (fun i => some (i * k, k)) cells [(0, v)] = some v.cells := by
  have h1 : ¬ ((v.cells.size ≠ k || 0 * k + v.cells.size > cells.size) = true) := by simp [hk]; omega
  have h2 : (v.cells.zipIdx.foldl (fun (cs : Array Value) (p : Value × Nat) => cs.setIfInBounds (0 * k + p.2) p.1) cells) = v.cells := by
    have hf : (fun (cs : Array Value) (p : Value × Nat) => cs.setIfInBounds (0 * k + p.2) p.1) = fun cs p => cs.setIfInBounds p.2 p.1 := by
      funext cs p
      rw [Nat.zero_mul, Nat.zero_add]
    rw [hf, ← Array.foldl_toList, Array.toList_zipIdx]
    apply Array.toList_inj.1
    rw [KV _ 0 _ (by rw [Array.length_toList]; omega), Array.length_toList]
    simp [h]
  unfold Instr.fill
  simp only
  rw [if_neg h1]
  exact congrArg some h2
theorem Ps (hT : SliceT P t e k) (hk : k ≤ 4096) {x : Value} (hx : x.cells.size = k) (w : World) : (Instr.buildSlice t 1 #[(0, x)]).run P w = .ok (.slice (some ⟨w.heap.size, 0, none⟩) 1 1) (w.alloc (.cells x.cells e)) := by
 obtain ⟨inf, z, hinf, hz, hsz, _, hzs, _⟩ := hT.inf
 have hp := hT.pos
 have hf : Instr.fill (fun i => some (i * k, k)) ((Array.range k).map (fun j => z.cells[j % z.cells.size]!)) [(0, x)] = some x.cells := Ta (by simp [hx]) hx
 have h1 : ¬ 1 * k > 2 ^ 24 := by omega
 have h2 : ¬ 1 * k = 0 := by omega
 simp only [Instr.buildSlice, run_underlying hT.ht, hT.sizeOf, Sem.run_bind, Sem.run_pure, Result.andThen_ok, if_neg h1, if_neg h2, zeroValue, typeInfo, hinf, hz]
 simp [newRow, zeroValue, typeInfo, hinf, hz, h1, h2]
 rw [hf]
 simp
theorem Dl (hT : SliceT P t e k) (hk : k ≤ 4096) (he : EncOf k enc) {x : Operand} {c : Value} (a : α) (hc : c.cells.toList = enc a) (ho : o.op = .buildSlice t 1 #[(0, x)]) (hx : evs env x = some c) : Bm P Q n env B w0 os o (fun v : Value => v) (fun v => Ak e k enc v [a] :: os) := fun b w hH hF K hK => by
 have hsz : c.cells.size = k := by rw [← he.len a, ← hc, Array.length_toList]
 have hrun : (execOp b.eval o).run P w = .ok (.value (.slice (some ⟨w.heap.size, 0, none⟩) 1 1)) (w.alloc (.cells c.cells e)) := by
  unfold execOp
  simp [ho, hF.evs hx, Sem.run_bind, Ps hT hk hsz]
 refine Ft (w0 := w) b hrun (hK _ _ ?_)
 have := hH.new e c.cells
 obtain ⟨rs, ⟨r1, r2, e1, h1, h2⟩, h3⟩ := this
 unfold cell at h1
 exact ⟨rs, ⟨r1, r2, e1, .inr ⟨w.heap.size, 1, c.cells, rfl, Nat.le_refl _, by unfold maxLen; omega, by simp [hsz], by rw [hc]; simp only [flat, List.flatMap_cons, List.flatMap_nil, List.append_nil, List.length_cons, List.length_nil, Nat.zero_add, Nat.one_mul]; exact List.take_of_length_le (by rw [he.len]; exact Nat.le_refl _), h1⟩, h2⟩, h3⟩
end Go.Proofs.YtnknboibmifacaaGreatDoor.Sep
