/-
  RpcA · RpcB · RpcC · App · Bld
-/
import Derived.Test.YtjcfimmcogkopaaGreatDoorWA05
import Derived.Test.YtjcfimmcogkopaaGreatDoorWB02
import Derived.Test.YtjcfimmcogkopaaGreatDoorWB03
set_option linter.unusedSimpArgs false
set_option linter.unusedVariables false
set_option maxRecDepth 100000
namespace Go.Proofs.YtjcfimmcogkopaaGreatDoor.Sep
open Go.RowKit
open Go.Proofs.YtjcfimmcogkopaaGreatDoor.Mem (Bb Ci Chg Aw)
def Qb (c : Int) : Bool := K2 c && c != 0
theorem H1 (w : World) (n : Int) (r : Bool) (hr : G9 n = r) : Calls Tryz.prog 112 #[.int .u64 n] w fun e w' => e = .returned (.bool r) ∧ Below w.heap.size w w' := by
 refine Gi (args := [.int .u64 n]) 9 Tryz.func112 rfl rfl rfl (Ad (Af Ak rfl (Ab ?_)))
 have hc : n < 1 ∨ (1 ≤ n ∧ n ≤ 72057594037927935) ∨ 72057594037927935 < n := by omega
 rcases hc with h1 | ⟨h1, h2⟩ | h1
 obtain rfl : r = false := by rw [← hr]; simp [G9]; omega
 refine Ad (Af Ak rfl (Aa rfl (.bool false) (fun b w hb hH => A5 rfl rfl rfl (De (by omega)) hb) (Af Ak rfl (Ab (AB ?_)))))
 exact AA (.tmp rfl) (fun w h => ⟨rfl, Aw h.up⟩) rfl
 obtain rfl : r = true := by rw [← hr]; simp [G9]; omega
 refine Ad (Af Ak rfl (Aa rfl (.bool true) (fun b w hb hH => A5 rfl rfl rfl (Cb (by omega)) hb) (Af Ak rfl (Aa rfl (.bool true) (fun b w hb hH => A5 rfl rfl rfl (CA (by omega)) hb) (Af Ak rfl (Ab (AB ?_)))))))
 exact AA (.tmp rfl) (fun w h => ⟨rfl, Aw h.up⟩) rfl
 obtain rfl : r = false := by rw [← hr]; simp [G9]; omega
 refine Ad (Af Ak rfl (Aa rfl (.bool true) (fun b w hb hH => A5 rfl rfl rfl (Cb (by omega)) hb) (Af Ak rfl (Aa rfl (.bool false) (fun b w hb hH => A5 rfl rfl rfl (Gq (by omega)) hb) (Af Ak rfl (Ab (AB ?_)))))))
 exact AA (.tmp rfl) (fun w h => ⟨rfl, Aw h.up⟩) rfl
theorem KI (w : World) (c : Int) (r : Bool) (hr : Qb c = r) : Calls Tryz.prog 113 #[.int .i64 c] w fun e w' => e = .returned (.bool r) ∧ Below w.heap.size w w' := by
 refine Gi (args := [.int .i64 c]) 14 Tryz.func113 rfl rfl rfl (Ad (Af Ak rfl (Ab ?_)))
 have hc : c < 1 ∨ (1 ≤ c ∧ c ≤ 254 ∧ c % 2 = 0) ∨ (1 ≤ c ∧ c ≤ 254 ∧ c % 2 ≠ 0) ∨ 254 < c := by omega
 rcases hc with h1 | ⟨h1, h2, h3⟩ | ⟨h1, h2, h3⟩ | h1
 obtain rfl : r = false := by rw [← hr]; simp [Qb, K2]; omega
 refine Ad (Af Ak rfl (Aa rfl (.bool false) (fun b w hb hH => A5 rfl rfl rfl (De (by omega)) hb) (Af Ak rfl (Ab (AB ?_)))))
 exact AA (.tmp rfl) (fun w h => ⟨rfl, Aw h.up⟩) rfl
 obtain rfl : r = true := by rw [← hr]; simp [Qb, K2]; omega
 refine Ad (Af Ak rfl (Aa rfl (.bool true) (fun b w hb hH => A5 rfl rfl rfl (Cb (by omega)) hb) (Af Ak rfl (Aa rfl (.bool true) (fun b w hb hH => A5 rfl rfl rfl (CA (by omega)) hb) (Af Ak rfl (Aa rfl (.int .i64 (c % 2)) (fun b w hb hH => Gu rfl rfl rfl (by decide) (Int.tmod_eq_emod_of_nonneg (by omega)) hb) (Aa rfl (.bool true) (fun b w hb hH => A5 rfl rfl rfl (Fw h3) hb) (Af Ak rfl (Ab (AB ?_))))))))))
 exact AA (.tmp rfl) (fun w h => ⟨rfl, Aw h.up⟩) rfl
 obtain rfl : r = false := by rw [← hr]; simp [Qb, K2]; omega
 refine Ad (Af Ak rfl (Aa rfl (.bool true) (fun b w hb hH => A5 rfl rfl rfl (Cb (by omega)) hb) (Af Ak rfl (Aa rfl (.bool true) (fun b w hb hH => A5 rfl rfl rfl (CA (by omega)) hb) (Af Ak rfl (Aa rfl (.int .i64 (c % 2)) (fun b w hb hH => Gu rfl rfl rfl (by decide) (Int.tmod_eq_emod_of_nonneg (by omega)) hb) (Aa rfl (.bool false) (fun b w hb hH => A5 rfl rfl rfl (EM h3) hb) (Af Ak rfl (Ab (AB ?_))))))))))
 exact AA (.tmp rfl) (fun w h => ⟨rfl, Aw h.up⟩) rfl
 obtain rfl : r = false := by rw [← hr]; simp [Qb, K2]; omega
 refine Ad (Af Ak rfl (Aa rfl (.bool true) (fun b w hb hH => A5 rfl rfl rfl (Cb (by omega)) hb) (Af Ak rfl (Aa rfl (.bool false) (fun b w hb hH => A5 rfl rfl rfl (Gq (by omega)) hb) (Af Ak rfl (Ab (AB ?_)))))))
 exact AA (.tmp rfl) (fun w h => ⟨rfl, Aw h.up⟩) rfl
theorem D0 (w : World) (x : EntV) (hv : Ew w x.v x.e.d) (r : Bool) (hr : BN x.e = r) : Calls Tryz.prog 67 #[.agg #[.int .i64 x.e.k, .int .u64 x.e.t, .int .u64 x.e.i, x.v, .int .i64 x.e.c]] w fun e w' => e = .returned (.bool r) ∧ Below w.heap.size w w' := by
 obtain ⟨v1, hv1⟩ : ∃ v1, G9 x.e.t = v1 := ⟨_, rfl⟩
 obtain ⟨v2, hv2⟩ : ∃ v2, G9 x.e.i = v2 := ⟨_, rfl⟩
 obtain ⟨v3, hv3⟩ : ∃ v3, FV x.e = v3 := ⟨_, rfl⟩
 have hR : (v1 && (v2 && v3)) = r := by rw [← hr]; unfold BN; rw [hv1, hv2, hv3]
 refine Gi (args := [.agg #[.int .i64 x.e.k, .int .u64 x.e.t, .int .u64 x.e.i, x.v, .int .i64 x.e.c]]) 54 Tryz.func67 rfl rfl rfl (Ad (Af Ak rfl (Al (post := fun gx => [cell gx 53 #[.int .i64 x.e.k, .int .u64 x.e.t, .int .u64 x.e.i, x.v, .int .i64 x.e.c]]) rfl (CW (cs := #[.int .i64 x.e.k, .int .u64 x.e.t, .int .u64 x.e.i, x.v, .int .i64 x.e.c]) rfl rfl rfl) ?_))); rintro gx
 refine Af Ak rfl (Ab (Ar ?_))
 cases v1
 obtain rfl : r = false := by rw [← hR]; rfl
 refine Ad (Af Ak rfl (Aa rfl (.int .u64 x.e.t) (fun b w hb hH => Ba rfl rfl (Bl AQ rfl) (hH.row 0 rfl) hb) (Al (post := fun _ => [cell gx 53 #[.int .i64 x.e.k, .int .u64 x.e.t, .int .u64 x.e.i, x.v, .int .i64 x.e.c]]) rfl (Bk (Ai Tryz.func112 (by kernel_rfl) rfl) (fun w hH => H1 w x.e.t false hv1) rfl rfl rfl) ?_))); rintro ⟨⟩
 refine Af Ak rfl (Ab (AE rfl (Ad (Af Ak rfl (Ab (AB (Ek ?_)))))))
 exact AA (.tmp rfl) (fun w h => ⟨rfl, Aw h.up⟩) rfl
 cases v2
 obtain rfl : r = false := by rw [← hR]; rfl
 refine Ad (Af Ak rfl (Aa rfl (.int .u64 x.e.t) (fun b w hb hH => Ba rfl rfl (Bl AQ rfl) (hH.row 0 rfl) hb) (Al (post := fun _ => [cell gx 53 #[.int .i64 x.e.k, .int .u64 x.e.t, .int .u64 x.e.i, x.v, .int .i64 x.e.c]]) rfl (Bk (Ai Tryz.func112 (by kernel_rfl) rfl) (fun w hH => H1 w x.e.t true hv1) rfl rfl rfl) ?_))); rintro ⟨⟩
 refine Af Ak rfl (Aa rfl (.int .u64 x.e.i) (fun b w hb hH => Ba rfl rfl (Bl AQ rfl) (hH.row 0 rfl) hb) (Al (post := fun _ => [cell gx 53 #[.int .i64 x.e.k, .int .u64 x.e.t, .int .u64 x.e.i, x.v, .int .i64 x.e.c]]) rfl (Bk (Ai Tryz.func112 (by kernel_rfl) rfl) (fun w hH => H1 w x.e.i false hv2) rfl rfl rfl) ?_)); rintro ⟨⟩
 refine Af Ak rfl (Ab (AE rfl (Ad (Af Ak rfl (Ab (AB (Ek ?_)))))))
 exact AA (.tmp rfl) (fun w h => ⟨rfl, Aw h.up⟩) rfl
 refine Ad (Af Ak rfl (Aa rfl (.int .u64 x.e.t) (fun b w hb hH => Ba rfl rfl (Bl AQ rfl) (hH.row 0 rfl) hb) (Al (post := fun _ => [cell gx 53 #[.int .i64 x.e.k, .int .u64 x.e.t, .int .u64 x.e.i, x.v, .int .i64 x.e.c]]) rfl (Bk (Ai Tryz.func112 (by kernel_rfl) rfl) (fun w hH => H1 w x.e.t true hv1) rfl rfl rfl) ?_))); rintro ⟨⟩
 refine Af Ak rfl (Aa rfl (.int .u64 x.e.i) (fun b w hb hH => Ba rfl rfl (Bl AQ rfl) (hH.row 0 rfl) hb) (Al (post := fun _ => [cell gx 53 #[.int .i64 x.e.k, .int .u64 x.e.t, .int .u64 x.e.i, x.v, .int .i64 x.e.c]]) rfl (Bk (Ai Tryz.func112 (by kernel_rfl) rfl) (fun w hH => H1 w x.e.i true hv2) rfl rfl rfl) ?_)); rintro ⟨⟩
 refine Af Ak rfl (Ab (Au rfl (Av (AC (Ar (Ad (Af Ak rfl (Aa rfl (.int .i64 x.e.k) (fun b w hb hH => Ba rfl rfl (Bl Br rfl) (hH.row 0 rfl) hb) (Ab (AK ?_))))))))))
 have hk : x.e.k = 0 ∨ x.e.k = 1 ∨ x.e.k = 2 ∨ (x.e.k ≠ 0 ∧ x.e.k ≠ 1 ∧ x.e.k ≠ 2) := by omega
 rcases hk with hk | hk | hk | hk
 refine Ad (Af Ak rfl (Aa rfl (.bool true) (fun b w hb hH => A5 rfl rfl rfl (Fw hk) hb) (Af Ak rfl (Ab (AE rfl ?_)))))
 by_cases hd : x.e.d.length = 0
 by_cases hc : x.e.c = 0
 obtain rfl : r = true := by rw [← hR, ← hv3]; simp [FV, hk, hc, List.eq_nil_of_length_eq_zero hd]
 refine Ad (Af Ak rfl (Aa rfl (x.v) (fun b w hb hH => Ba rfl rfl (Bl CI rfl) (hH.row 0 rfl) hb) (Aa rfl (.int .i64 (x.e.d.length : Int)) (fun b w hb hH => Be ((FX hv hH).rd) Tryz.underlying49 rfl rfl hb) (Aa rfl (.bool true) (fun b w hb hH => A5 rfl rfl rfl (Fw (by omega)) hb) (Af Ak rfl (Aa rfl (.int .i64 x.e.c) (fun b w hb hH => Ba rfl rfl (Bl Br rfl) (hH.row 0 rfl) hb) (Aa rfl (.bool true) (fun b w hb hH => A5 rfl rfl rfl (Fw hc) hb) (Af Ak rfl (Ab (AB (BH (Ek ?_))))))))))))
 exact AA (.tmp rfl) (fun w h => ⟨rfl, Aw h.up⟩) rfl
 obtain rfl : r = false := by rw [← hR, ← hv3]; simp [FV, hk, hc]
 refine Ad (Af Ak rfl (Aa rfl (x.v) (fun b w hb hH => Ba rfl rfl (Bl CI rfl) (hH.row 0 rfl) hb) (Aa rfl (.int .i64 (x.e.d.length : Int)) (fun b w hb hH => Be ((FX hv hH).rd) Tryz.underlying49 rfl rfl hb) (Aa rfl (.bool true) (fun b w hb hH => A5 rfl rfl rfl (Fw (by omega)) hb) (Af Ak rfl (Aa rfl (.int .i64 x.e.c) (fun b w hb hH => Ba rfl rfl (Bl Br rfl) (hH.row 0 rfl) hb) (Aa rfl (.bool false) (fun b w hb hH => A5 rfl rfl rfl (EM hc) hb) (Af Ak rfl (Ab (AB (BH (Ek ?_))))))))))))
 exact AA (.tmp rfl) (fun w h => ⟨rfl, Aw h.up⟩) rfl
 have hd0 : (x.e.d == []) = false := by cases hx : x.e.d with | nil => rw [hx] at hd; exact absurd rfl hd | cons => rfl
 obtain rfl : r = false := by rw [← hR, ← hv3]; simp [FV, hk, hd0]
 refine Ad (Af Ak rfl (Aa rfl (x.v) (fun b w hb hH => Ba rfl rfl (Bl CI rfl) (hH.row 0 rfl) hb) (Aa rfl (.int .i64 (x.e.d.length : Int)) (fun b w hb hH => Be ((FX hv hH).rd) Tryz.underlying49 rfl rfl hb) (Aa rfl (.bool false) (fun b w hb hH => A5 rfl rfl rfl (EM (by omega)) hb) (Af Ak rfl (Ab (AB (BH (Ek ?_)))))))))
 exact AA (.tmp rfl) (fun w h => ⟨rfl, Aw h.up⟩) rfl
 refine Ad (Af Ak rfl (Aa rfl (.bool false) (fun b w hb hH => A5 rfl rfl rfl (EM (by omega)) hb) (Af Ak rfl (Ab (Au rfl (Ad (Af Ak rfl (Aa rfl (.bool true) (fun b w hb hH => A5 rfl rfl rfl (Fw hk) hb) (Af Ak rfl (Ab (AE rfl ?_)))))))))))
 have hd : x.e.d.length < 1 ∨ 128 < x.e.d.length ∨ (1 ≤ x.e.d.length ∧ x.e.d.length ≤ 128) := by omega
 rcases hd with hd | hd | ⟨hd, hd2⟩
 have hd0 : ¬ 1 ≤ x.e.d.length := by omega
 obtain rfl : r = false := by rw [← hR, ← hv3]; simp [FV, hk, hd0]
 refine Ad (Af Ak rfl (Aa rfl (x.v) (fun b w hb hH => Ba rfl rfl (Bl CI rfl) (hH.row 0 rfl) hb) (Aa rfl (.int .i64 (x.e.d.length : Int)) (fun b w hb hH => Be ((FX hv hH).rd) Tryz.underlying49 rfl rfl hb) (Aa rfl (.bool false) (fun b w hb hH => A5 rfl rfl rfl (De (by omega)) hb) (Af Ak rfl (Ab (AB (BH (Ek ?_)))))))))
 exact AA (.tmp rfl) (fun w h => ⟨rfl, Aw h.up⟩) rfl
 have hd0 : ¬ x.e.d.length ≤ 128 := by omega
 obtain rfl : r = false := by rw [← hR, ← hv3]; simp [FV, hk, hd0]
 refine Ad (Af Ak rfl (Aa rfl (x.v) (fun b w hb hH => Ba rfl rfl (Bl CI rfl) (hH.row 0 rfl) hb) (Aa rfl (.int .i64 (x.e.d.length : Int)) (fun b w hb hH => Be ((FX hv hH).rd) Tryz.underlying49 rfl rfl hb) (Aa rfl (.bool true) (fun b w hb hH => A5 rfl rfl rfl (Cb (by omega)) hb) (Af Ak rfl (Aa rfl (x.v) (fun b w hb hH => Ba rfl rfl (Bl CI rfl) (hH.row 0 rfl) hb) (Aa rfl (.int .i64 (x.e.d.length : Int)) (fun b w hb hH => Be ((FX hv hH).rd) Tryz.underlying49 rfl rfl hb) (Aa rfl (.bool false) (fun b w hb hH => A5 rfl rfl rfl (Gq (by omega)) hb) (Af Ak rfl ?_)))))))))
 refine Ab (AB (BH (Ek ?_)))
 exact AA (.tmp rfl) (fun w h => ⟨rfl, Aw h.up⟩) rfl
 by_cases hc : x.e.c = 0
 obtain rfl : r = true := by rw [← hR, ← hv3]; simp [FV, hk, hc, hd, hd2]
 refine Ad (Af Ak rfl (Aa rfl (x.v) (fun b w hb hH => Ba rfl rfl (Bl CI rfl) (hH.row 0 rfl) hb) (Aa rfl (.int .i64 (x.e.d.length : Int)) (fun b w hb hH => Be ((FX hv hH).rd) Tryz.underlying49 rfl rfl hb) (Aa rfl (.bool true) (fun b w hb hH => A5 rfl rfl rfl (Cb (by omega)) hb) (Af Ak rfl (Aa rfl (x.v) (fun b w hb hH => Ba rfl rfl (Bl CI rfl) (hH.row 0 rfl) hb) (Aa rfl (.int .i64 (x.e.d.length : Int)) (fun b w hb hH => Be ((FX hv hH).rd) Tryz.underlying49 rfl rfl hb) (Aa rfl (.bool true) (fun b w hb hH => A5 rfl rfl rfl (CA (by omega)) hb) (Af Ak rfl ?_)))))))))
 refine Aa rfl (.int .i64 x.e.c) (fun b w hb hH => Ba rfl rfl (Bl Br rfl) (hH.row 0 rfl) hb) (Aa rfl (.bool true) (fun b w hb hH => A5 rfl rfl rfl (Fw hc) hb) (Af Ak rfl (Ab (AB (BH (Ek ?_))))))
 exact AA (.tmp rfl) (fun w h => ⟨rfl, Aw h.up⟩) rfl
 obtain rfl : r = false := by rw [← hR, ← hv3]; simp [FV, hk, hc]
 refine Ad (Af Ak rfl (Aa rfl (x.v) (fun b w hb hH => Ba rfl rfl (Bl CI rfl) (hH.row 0 rfl) hb) (Aa rfl (.int .i64 (x.e.d.length : Int)) (fun b w hb hH => Be ((FX hv hH).rd) Tryz.underlying49 rfl rfl hb) (Aa rfl (.bool true) (fun b w hb hH => A5 rfl rfl rfl (Cb (by omega)) hb) (Af Ak rfl (Aa rfl (x.v) (fun b w hb hH => Ba rfl rfl (Bl CI rfl) (hH.row 0 rfl) hb) (Aa rfl (.int .i64 (x.e.d.length : Int)) (fun b w hb hH => Be ((FX hv hH).rd) Tryz.underlying49 rfl rfl hb) (Aa rfl (.bool true) (fun b w hb hH => A5 rfl rfl rfl (CA (by omega)) hb) (Af Ak rfl ?_)))))))))
 refine Aa rfl (.int .i64 x.e.c) (fun b w hb hH => Ba rfl rfl (Bl Br rfl) (hH.row 0 rfl) hb) (Aa rfl (.bool false) (fun b w hb hH => A5 rfl rfl rfl (EM hc) hb) (Af Ak rfl (Ab (AB (BH (Ek ?_))))))
 exact AA (.tmp rfl) (fun w h => ⟨rfl, Aw h.up⟩) rfl
 refine Ad (Af Ak rfl (Aa rfl (.bool false) (fun b w hb hH => A5 rfl rfl rfl (EM (by omega)) hb) (Af Ak rfl (Ab (Au rfl (Ad (Af Ak rfl (Aa rfl (.bool false) (fun b w hb hH => A5 rfl rfl rfl (EM (by omega)) hb) (Af Ak rfl (Ab (Au rfl (Ad (Af Ak rfl ?_)))))))))))))
 refine Aa rfl (.bool true) (fun b w hb hH => A5 rfl rfl rfl (Fw hk) hb) (Af Ak rfl (Ab (AE rfl ?_)))
 by_cases hd : x.e.d.length = 0
 rcases Bool.eq_false_or_eq_true (Qb x.e.c) with hs | hs
 have hs2 := hs
 unfold Qb at hs2
 simp only [Bool.and_eq_true, bne_iff_ne, ne_eq] at hs2
 obtain rfl : r = true := by rw [← hR, ← hv3]; simp [FV, hk, hs2.1, hs2.2, List.eq_nil_of_length_eq_zero hd]
 refine Ad (Af Ak rfl (Aa rfl (x.v) (fun b w hb hH => Ba rfl rfl (Bl CI rfl) (hH.row 0 rfl) hb) (Aa rfl (.int .i64 (x.e.d.length : Int)) (fun b w hb hH => Be ((FX hv hH).rd) Tryz.underlying49 rfl rfl hb) (Aa rfl (.bool true) (fun b w hb hH => A5 rfl rfl rfl (Fw (by omega)) hb) (Af Ak rfl (Aa rfl (.int .i64 x.e.c) (fun b w hb hH => Ba rfl rfl (Bl Br rfl) (hH.row 0 rfl) hb) (Al (post := fun _ => [cell gx 53 #[.int .i64 x.e.k, .int .u64 x.e.t, .int .u64 x.e.i, x.v, .int .i64 x.e.c]]) rfl (Bk (Ai Tryz.func113 (by kernel_rfl) rfl) (fun w hH => KI w x.e.c true hs) rfl rfl rfl) ?_))))))); rintro ⟨⟩
 refine Af Ak rfl (Ab (AB (BH (Ek ?_))))
 exact AA (.tmp rfl) (fun w h => ⟨rfl, Aw h.up⟩) rfl
 have hs2 : (K2 x.e.c && x.e.c != 0) = false := hs
 obtain rfl : r = false := by rw [← hR, ← hv3]; simp only [FV, hk, Bool.and_assoc, hs2]; simp
 refine Ad (Af Ak rfl (Aa rfl (x.v) (fun b w hb hH => Ba rfl rfl (Bl CI rfl) (hH.row 0 rfl) hb) (Aa rfl (.int .i64 (x.e.d.length : Int)) (fun b w hb hH => Be ((FX hv hH).rd) Tryz.underlying49 rfl rfl hb) (Aa rfl (.bool true) (fun b w hb hH => A5 rfl rfl rfl (Fw (by omega)) hb) (Af Ak rfl (Aa rfl (.int .i64 x.e.c) (fun b w hb hH => Ba rfl rfl (Bl Br rfl) (hH.row 0 rfl) hb) (Al (post := fun _ => [cell gx 53 #[.int .i64 x.e.k, .int .u64 x.e.t, .int .u64 x.e.i, x.v, .int .i64 x.e.c]]) rfl (Bk (Ai Tryz.func113 (by kernel_rfl) rfl) (fun w hH => KI w x.e.c false hs) rfl rfl rfl) ?_))))))); rintro ⟨⟩
 refine Af Ak rfl (Ab (AB (BH (Ek ?_))))
 exact AA (.tmp rfl) (fun w h => ⟨rfl, Aw h.up⟩) rfl
 have hd0 : (x.e.d == []) = false := by cases hx : x.e.d with | nil => rw [hx] at hd; exact absurd rfl hd | cons => rfl
 obtain rfl : r = false := by rw [← hR, ← hv3]; simp [FV, hk, hd0]
 refine Ad (Af Ak rfl (Aa rfl (x.v) (fun b w hb hH => Ba rfl rfl (Bl CI rfl) (hH.row 0 rfl) hb) (Aa rfl (.int .i64 (x.e.d.length : Int)) (fun b w hb hH => Be ((FX hv hH).rd) Tryz.underlying49 rfl rfl hb) (Aa rfl (.bool false) (fun b w hb hH => A5 rfl rfl rfl (EM (by omega)) hb) (Af Ak rfl (Ab (AB (BH (Ek ?_)))))))))
 exact AA (.tmp rfl) (fun w h => ⟨rfl, Aw h.up⟩) rfl
 obtain rfl : r = false := by rw [← hR, ← hv3]; simp [FV, hk]
 refine Ad (Af Ak rfl (Aa rfl (.bool false) (fun b w hb hH => A5 rfl rfl rfl (EM hk.1) hb) (Af Ak rfl (Ab (Au rfl (Ad (Af Ak rfl (Aa rfl (.bool false) (fun b w hb hH => A5 rfl rfl rfl (EM hk.2.1) hb) (Af Ak rfl (Ab (Au rfl (Ad (Af Ak rfl ?_)))))))))))))
 refine Aa rfl (.bool false) (fun b w hb hH => A5 rfl rfl rfl (EM hk.2.2) hb) (Af Ak rfl (Ab (Au rfl (Av (A6 (AC (Ad (Af Ak rfl (Ab (AB ?_))))))))))
 exact AA (.tmp rfl) (fun w h => ⟨rfl, Aw h.up⟩) rfl
end Go.Proofs.YtjcfimmcogkopaaGreatDoor.Sep
namespace Go.Proofs.YtjcfimmcogkopaaGreatDoor.Sep
open Go.RowKit
open Go.Proofs.YtjcfimmcogkopaaGreatDoor.Mem (Bb Ci Chg Aw)
theorem Lb {w : World} {A : Option Addr} {n c : Nat} {l : List UInt8} (h : Ew w (.slice A n c) l) : l.length ≤ c := by
 obtain ⟨A', c', e, hb⟩ := h
 simp only [Value.slice.injEq] at e
 obtain ⟨rfl, _, rfl⟩ := e
 exact hb.1
theorem EN.mid {X : Ass} {A : Option Addr} {c i j : Nat} {l : List UInt8} (h : EN X (.slice A l.length c) l) (hij : i ≤ j) (hj : j ≤ l.length) : EN X (.slice (if c = i then A else A.map (·.add i)) (j - i) (c - i)) ((l.take j).drop i) := fun rs w h1 h2 => by
  have h3 := (h rs w h1 h2).takes hj
  have hl : (l.take j).length = j := by rw [List.length_take]; omega
  have h4 := h3.drop (k := i) (by omega)
  rw [List.length_drop, hl] at h4
  exact h4
theorem JG {A : Option Addr} {n c i j : Nat} : Cu 1 (.slice A n c) i j = .slice (if c = i then A else A.map (·.add i)) (j - i) (c - i) := by
  show Value.slice (if c = i then A else A.map (·.add (i * 1))) (j - i) (c - i) = _
  rw [Nat.mul_one]
theorem OM {most n sz e : Nat} {l : List UInt8} {f : Nat} (hf : f = 0) (hv : Cd most l 0 0 = (n, sz, e)) (he : e ≠ 0) : CQ (most : Int) l f = ([], l, e) := by
 unfold CQ
 rw [if_neg (by simp [hf]), Int.toNat_natCast, hv, if_pos he]
theorem ON {most n sz : Nat} {l : List UInt8} {f : Nat} (hf : f = 0) (hv : Cd most l 0 0 = (n, sz, 0)) (hn : l.length - sz < n) : CQ (most : Int) l f = ([], l, 10) := by
 unfold CQ
 rw [if_neg (by simp [hf]), Int.toNat_natCast, hv, if_neg (by simp), if_pos hn]
theorem Qc {most n sz : Nat} {l : List UInt8} {f : Nat} (hf : f = 0) (hv : Cd most l 0 0 = (n, sz, 0)) (hn : ¬ l.length - sz < n) : CQ (most : Int) l f = ((l.drop sz).take n, l.drop (sz + n), f) := by
 unfold CQ
 rw [if_neg (by simp [hf]), Int.toNat_natCast, hv, if_neg (by simp), if_neg hn, hf]
theorem VE {w : World} {A : Option Addr} {c : Nat} {l : List UInt8} (h : Ew w (.slice A l.length c) l) (hl : l.length ≤ 140737488355328) (most : Nat) (hm : most < 18446744073709551616) (n sz e : Nat) (hv : Cd most l 0 0 = (n, sz, e)) : Calls Tryz.prog 173 #[.slice A l.length c, .int .u64 (most : Int)] w fun x w' => x = .returned (.tuple #[.int .u64 (n : Int), .int .i64 (sz : Int), .int .i64 (e : Int)]) ∧ Below w.heap.size w w' := Rl h hl most hm (n, sz, e) hv
theorem VF (most : Nat) (l : List UInt8) : (Cd most l 0 0).1 ≤ most := by
  rcases Ii most l 0 0 (by omega) (by decide) with ⟨_, _, _, h, _⟩ | ⟨h, _⟩
  · exact h
  · rw [h]; exact Nat.zero_le _
theorem VG (g : Nat) (l : List UInt8) (f most : Nat) (hm : most ≤ 9223372036854775807) (R : List UInt8 × List UInt8 × Nat) (h : CQ (most : Int) l f = R) : AV Tryz.prog 150 #[.pointer (some ⟨g, 0, none⟩), .int .i64 (most : Int)] [Ef g l f] (fun (v : Value) => v) (fun (v : Value) => [Ef g R.2.1 R.2.2, Aj 5 1 encB v R.1]) := by
  refine Bo (args := [.pointer (some ⟨g, 0, none⟩), .int .i64 (most : Int)]) 68 Tryz.func150 rfl rfl rfl ?_; intro w rs
  refine AX 0 rfl Ef.open_ (fun _ => rfl) ?_; rintro ⟨⟨X, A, c⟩, hR, hL⟩
  refine AL.keep (env' := [(0, .pointer (some ⟨g, 0, none⟩)), (1, .int .i64 (most : Int))]) ⟨rfl, rfl, trivial⟩ (AL.mid [cell g 221 #[.slice A l.length c, .int .i64 (f : Int)], X] (.refl _) (Ad (Af Ak rfl (Ab (Ar ?_)))))
  by_cases hf : f = 0
  have hz := Rq most l
  have hle := VF most l
  obtain ⟨⟨n, sz, e2⟩, hv⟩ : ∃ R, Cd most l 0 0 = R := ⟨_, rfl⟩
  rw [hv] at hz hle
  simp only at hz hle
  refine Ad (Af Ak rfl (Aa rfl (.pointer (some ⟨g, 0, none⟩)) (fun b w hb hH => by exact B4 rfl rfl hb) (Af Ak rfl (Aa rfl (.int .i64 (f : Int)) (fun b w hb hH => Ba rfl rfl (Bl BR rfl) (hH.row 0 rfl) hb) (Aa rfl (.bool false) (fun b w hb hH => A5 rfl rfl rfl (Bn (by omega)) hb) (Ab (Au rfl (Av (AC (Ad (Af Ak rfl (Aa rfl (.pointer (some ⟨g, 0, none⟩)) (fun b w hb hH => by exact B4 rfl rfl hb) (Af Ak rfl ?_)))))))))))))
  refine Aa rfl (.slice A l.length c) (fun b w hb hH => Ba rfl rfl (Bl CI rfl) (hH.row 0 rfl) hb) (Af Ak rfl (Aa rfl (.int .i64 (most : Int)) (fun b w hb hH => CH rfl rfl (fun cs => (fun w cs => Oe (by rw [if_neg (by omega)]) _ _ w cs) w cs) hb) (Aa rfl (.int .u64 (most : Int)) (fun b w hb hH => Bi Tryz.underlying3 Tryz.underlying38 (IntWalk.u64_in _ (by omega)) rfl rfl hb) (Al (post := fun _ => [cell g 221 #[.slice A l.length c, .int .i64 (f : Int)], X]) rfl (Bk (Ai Tryz.func173 (by kernel_rfl) rfl) (fun w hH => VE (hH.rd8 1 rfl hR) hL most (by omega) n sz e2 hv) rfl rfl rfl) ?_)))); rintro ⟨⟩
  refine Af Ak rfl (Ab (Ar ?_))
  by_cases he : e2 = 0
  subst he
  refine Ad (Af Ak rfl (Aa rfl (.bool false) (fun b w hb hH => A5 rfl rfl rfl (Bn (by omega)) hb) (Ab (Au rfl (Av (AC (Ar ?_)))))))
  by_cases hn : l.length - sz < n
  obtain rfl : R = ([], l, 10) := h.symm.trans (ON hf hv hn)
  refine Ad (Af Ak rfl (Aa rfl (.int .i64 (n : Int)) (fun b w hb hH => Bi Tryz.underlying38 Tryz.underlying3 (IntWalk.i64_in _ (by omega)) rfl rfl hb) (Af Ak rfl (Aa rfl (.pointer (some ⟨g, 0, none⟩)) (fun b w hb hH => by exact B4 rfl rfl hb) (Af Ak rfl (Aa rfl (.slice A l.length c) (fun b w hb hH => Ba rfl rfl (Bl CI rfl) (hH.row 0 rfl) hb) (Aa rfl (.int .i64 (l.length : Int)) (fun b w hb hH => Fd Bh rfl rfl hH hb) (Af Ak rfl (Aa rfl (.int .i64 ((l.length : Int) - (sz : Int))) (fun b w hb hH => AJ rfl rfl rfl rfl (IntWalk.i64_in _ (by omega)) hb) ?_)))))))))
  refine Aa rfl (.bool true) (fun b w hb hH => A5 rfl rfl rfl (BD (by omega)) hb) (Ab (AE rfl (Ad (Af Ak rfl (Aa rfl (.pointer (some ⟨g, 0, none⟩)) (fun b w hb hH => by exact B4 rfl rfl hb) (Af Ak rfl (AR (post := fun _ => [cell g 221 #[.slice A l.length c, .int .i64 10], X]) rfl rfl (AZ 0 (v := .int .i64 10) #[.slice A l.length c, .int .i64 10] BR.2 rfl rfl rfl rfl rfl rfl rfl rfl rfl) ?_))))))); rintro ⟨⟩
  refine Ab (Bj [0, 1] rfl (Ef.mk_ rfl hR hL) rfl (BK 5 1 encB (Ad (Af Ak rfl (Ab (AB (Ek ?_)))))))
  exact AA (.tmp rfl) (fun w h => AH (.slice none 0 0) rfl [1, 0] rfl h El) rfl
  obtain ⟨A2, hA2⟩ : ∃ A2, (if c = (sz + n) then A else A.map (·.add (sz + n))) = A2 := ⟨_, rfl⟩
  obtain ⟨l2, hl2⟩ : ∃ l2, l.drop (sz + n) = l2 := ⟨_, rfl⟩
  have hR2 : EN X (.slice A2 l2.length (c - (sz + n))) l2 := by rw [← hA2, ← hl2]; exact hR.drop (by omega)
  have hn2 : l2.length = l.length - (sz + n) := by rw [← hl2, List.length_drop]
  have hL2 : l2.length ≤ 140737488355328 := by omega
  have hsub : Cu 1 (.slice A l.length c) (sz + n) l.length = .slice A2 l2.length (c - (sz + n)) := by rw [← hA2]; exact Lz (by omega) (by omega)
  obtain ⟨A3, hA3⟩ : ∃ A3, (if c = sz then A else A.map (·.add sz)) = A3 := ⟨_, rfl⟩
  obtain ⟨l3, hl3⟩ : ∃ l3, (l.take (sz + n)).drop sz = l3 := ⟨_, rfl⟩
  have hR3 : EN X (.slice A3 (sz + n - sz) (c - sz)) l3 := by rw [← hA3, ← hl3]; exact hR.mid (by omega) (by omega)
  have hsub3 : Cu 1 (.slice A l.length c) sz (sz + n) = .slice A3 (sz + n - sz) (c - sz) := by rw [← hA3]; exact JG
  have hl4 : (l.drop sz).take n = l3 := by rw [← hl3, List.drop_take, Nat.add_sub_cancel_left]
  have hl5 : l3.length ≤ 140737488355328 := by rw [← hl4, List.length_take, List.length_drop]; omega
  obtain rfl : R = (l3, l2, f) := by rw [← h, ← hl4, ← hl2]; exact Qc hf hv hn
  refine Ad (Af Ak rfl (Aa rfl (.int .i64 (n : Int)) (fun b w hb hH => Bi Tryz.underlying38 Tryz.underlying3 (IntWalk.i64_in _ (by omega)) rfl rfl hb) (Af Ak rfl (Aa rfl (.pointer (some ⟨g, 0, none⟩)) (fun b w hb hH => by exact B4 rfl rfl hb) (Af Ak rfl (Aa rfl (.slice A l.length c) (fun b w hb hH => Ba rfl rfl (Bl CI rfl) (hH.row 0 rfl) hb) (Aa rfl (.int .i64 (l.length : Int)) (fun b w hb hH => Fd Bh rfl rfl hH hb) (Af Ak rfl (Aa rfl (.int .i64 ((l.length : Int) - (sz : Int))) (fun b w hb hH => AJ rfl rfl rfl rfl (IntWalk.i64_in _ (by omega)) hb) ?_)))))))))
  refine Aa rfl (.bool false) (fun b w hb hH => A5 rfl rfl rfl (By (by omega)) hb) (Ab (Au rfl (Av (AC (Ad (Af Ak rfl (Aa rfl (.int .i64 (n : Int)) (fun b w hb hH => Bi Tryz.underlying38 Tryz.underlying3 (IntWalk.i64_in _ (by omega)) rfl rfl hb) (Aa rfl (.int .i64 ((sz + n : Nat) : Int)) (fun b w hb hH => AJ rfl rfl rfl rfl (by rw [IntWalk.i64_in _ (by omega)]; omega) hb) (Af Ak rfl (Ab (Ad (Af Ak rfl (Aa rfl (.pointer (some ⟨g, 0, none⟩)) (fun b w hb hH => by exact B4 rfl rfl hb) (Af Ak rfl ?_))))))))))))))
  refine Aa rfl (.slice A l.length c) (fun b w hb hH => Ba rfl rfl (Bl CI rfl) (hH.row 0 rfl) hb) (Af Ak rfl (Aa rfl (.slice A3 (sz + n - sz) (c - sz)) (fun b w hb hH => XJ (i := sz) (j := (sz + n)) Bh hsub3 (by omega) (Nat.le_trans (by omega) (Lb (A := A) (n := l.length) (c := c) (hH.rd8 1 rfl hR))) rfl rfl rfl rfl hH hb) (Al rfl (As (os' := fun v9 => [Aj 5 1 encB v9 l3, cell g 221 #[.slice A l.length c, .int .i64 (f : Int)], X]) [1] 0 (Ai Tryz.func78 (by kernel_rfl) rfl) (FU hR3 hl5) rfl rfl rfl (fun _ => rfl) rfl rfl rfl) ?_))); rintro v9
  refine Af Ak rfl (Ab (AL.keep (env' := [(0, .pointer (some ⟨g, 0, none⟩)), (4, .slice none 0 0), (8, .int .i64 ((sz + n : Nat) : Int)), (9, v9)]) ⟨rfl, rfl, rfl, rfl, trivial⟩ (Ad (Af Ak rfl (Aa rfl (.pointer (some ⟨g, 0, none⟩)) (fun b w hb hH => by exact B4 rfl rfl hb) (Af Ak rfl (Aa rfl (.slice A l.length c) (fun b w hb hH => Ba rfl rfl (Bl CI rfl) (hH.row 1 rfl) hb) (Af Ak rfl (Aa rfl (.slice A2 l2.length (c - (sz + n))) (fun b w hb hH => FP (i := (sz + n)) Bh hsub (by omega) rfl rfl rfl hH hb) ?_)))))))))
  refine Aa rfl (.pointer (some ⟨g, 0, none⟩)) (fun b w hb hH => by exact B4 rfl rfl hb) (Af Ak rfl (AR (post := fun _ => [Aj 5 1 encB v9 l3, cell g 221 #[.slice A2 l2.length (c - (sz + n)), .int .i64 (f : Int)], X]) rfl rfl (AZ 1 (v := .slice A2 l2.length (c - (sz + n))) #[.slice A2 l2.length (c - (sz + n)), .int .i64 (f : Int)] CI.2 rfl rfl rfl rfl rfl rfl rfl rfl rfl) ?_)); rintro ⟨⟩
  refine Ab (Bj [1, 2] rfl (Ef.mk_ rfl hR2 hL2) rfl (Ad (Af Ak rfl (Ab (AB ?_)))))
  exact AA (.tmp rfl) (fun w h => AH v9 rfl [0, 1] rfl h El) rfl
  obtain rfl : R = ([], l, e2) := h.symm.trans (OM hf hv he)
  refine Ad (Af Ak rfl (Aa rfl (.bool true) (fun b w hb hH => A5 rfl rfl rfl (Eu (by omega)) hb) (Ab (AE rfl (Ad (Af Ak rfl (Aa rfl (.pointer (some ⟨g, 0, none⟩)) (fun b w hb hH => by exact B4 rfl rfl hb) (Af Ak rfl (AR (post := fun _ => [cell g 221 #[.slice A l.length c, .int .i64 (e2 : Int)], X]) rfl rfl (AZ 0 (v := .int .i64 (e2 : Int)) #[.slice A l.length c, .int .i64 (e2 : Int)] BR.2 rfl rfl rfl rfl rfl rfl rfl rfl rfl) ?_))))))))); rintro ⟨⟩
  refine Ab (Bj [0, 1] rfl (Ef.mk_ rfl hR hL) rfl (BK 5 1 encB (Ad (Af Ak rfl (Ab (AB (Ek ?_)))))))
  exact AA (.tmp rfl) (fun w h => AH (.slice none 0 0) rfl [1, 0] rfl h El) rfl
  obtain rfl : R = ([], l, f) := h.symm.trans (Ox hf)
  refine Ad (Af Ak rfl (Aa rfl (.pointer (some ⟨g, 0, none⟩)) (fun b w hb hH => by exact B4 rfl rfl hb) (Af Ak rfl (Aa rfl (.int .i64 (f : Int)) (fun b w hb hH => Ba rfl rfl (Bl BR rfl) (hH.row 0 rfl) hb) (Aa rfl (.bool true) (fun b w hb hH => A5 rfl rfl rfl (Eu (by omega)) hb) (Ab (AE rfl (Bj [0, 1] rfl (Ef.mk_ rfl hR hL) rfl (BK 5 1 encB (Ad ?_))))))))))
  refine Af Ak rfl (Ab (AB (Ek ?_)))
  exact AA (.tmp rfl) (fun w h => AH (.slice none 0 0) rfl [1, 0] rfl h El) rfl
end Go.Proofs.YtjcfimmcogkopaaGreatDoor.Sep
namespace Go.Proofs.YtjcfimmcogkopaaGreatDoor.Sep
open Go.RowKit
open Go.Proofs.YtjcfimmcogkopaaGreatDoor.Mem (Bb Ci Chg Aw)
structure SlV where
  A : Option Addr
  c : Nat
theorem E8 {l : List UInt8} {e e' : EntD} {n n' : Nat} (h : EF l = (e', n')) (hD : EF l = (e, n)) : e' = e ∧ n' = n := by
 have := h.symm.trans hD
 simpa using this
theorem St {e : EntD} (h : e.k = 0) : Cj e = [UInt8.ofNat e.k.toNat] ++ Gr e.t ++ Gr e.i := by
 unfold Cj EE
 rw [if_neg (by omega), if_neg (by omega)]
 simp
theorem T4 {e : EntD} (h : e.k = 1) : Cj e = [UInt8.ofNat e.k.toNat] ++ Gr e.t ++ Gr e.i ++ P0 e.d := by
 unfold Cj EE
 rw [if_pos h]
 simp
theorem Su {e : EntD} (h : e.k = 2) : Cj e = [UInt8.ofNat e.k.toNat] ++ Gr e.t ++ Gr e.i ++ [UInt8.ofNat e.c.toNat] := by
 unfold Cj EE
 rw [if_neg (by omega), if_pos h]
 simp
theorem Kh (u : World) (x : EntV) (hv : Ew u x.v x.e.d) (hr : BN x.e = true) : ER u Tryz.prog 114 #[.agg #[.int .i64 x.e.k, .int .u64 x.e.t, .int .u64 x.e.i, x.v, .int .i64 x.e.c]] [] (fun (v : Value) => .tuple #[v, .int .i64 0]) (fun (v : Value) => [Aj 5 1 encB v (Cj x.e)]) := by
 obtain ⟨ht, hi, hk⟩ := E1 hr
 have ht1 := Im ht.2
 have hi1 := Im hi.2
 obtain ⟨L0, hL0⟩ : ∃ L0, [UInt8.ofNat x.e.k.toNat] = L0 := ⟨_, rfl⟩
 obtain ⟨L1, hL1⟩ : ∃ L1, L0 ++ Gr x.e.t = L1 := ⟨_, rfl⟩
 obtain ⟨L2, hL2⟩ : ∃ L2, L1 ++ Gr x.e.i = L2 := ⟨_, rfl⟩
 obtain ⟨L3, hL3⟩ : ∃ L3, Cj x.e = L3 := ⟨_, rfl⟩
 have n0 : L0.length = 1 := by rw [← hL0]; rfl
 have n1 : L1.length ≤ 9 := by rw [← hL1, List.length_append]; omega
 have n2 : L2.length ≤ 17 := by rw [← hL2, List.length_append]; omega
 have n3 : L3.length ≤ 147 := by rw [← hL3]; exact DX hr
 refine J4 (args := [.agg #[.int .i64 x.e.k, .int .u64 x.e.t, .int .u64 x.e.i, x.v, .int .i64 x.e.c]]) 39 Tryz.func114 rfl rfl rfl ?_; intro w rs hU hS
 refine Ad (Af Ak rfl (Al (post := fun gx => [cell gx 53 #[.int .i64 x.e.k, .int .u64 x.e.t, .int .u64 x.e.i, x.v, .int .i64 x.e.c]]) rfl (CW (cs := #[.int .i64 x.e.k, .int .u64 x.e.t, .int .u64 x.e.i, x.v, .int .i64 x.e.c]) rfl rfl rfl) ?_)); rintro gx
 refine Af Ak rfl (Ab (Ar (Ad (Af Ak rfl (Aa rfl (.agg #[.int .i64 x.e.k, .int .u64 x.e.t, .int .u64 x.e.i, x.v, .int .i64 x.e.c]) (fun b w hb hH => Ba rfl rfl (Ft (cs := [.int .i64 x.e.k, .int .u64 x.e.t, .int .u64 x.e.i, x.v, .int .i64 x.e.c]) B0 rfl) (hH.row 0 rfl) hb) (Al (post := fun _ => [cell gx 53 #[.int .i64 x.e.k, .int .u64 x.e.t, .int .u64 x.e.i, x.v, .int .i64 x.e.c]]) rfl (Bk (Ai Tryz.func67 (by kernel_rfl) rfl) (fun w hH => D0 w x (EC hv hU hS hH) true hr) rfl rfl rfl) ?_)))))); rintro ⟨⟩
 refine Af Ak rfl (Ab (Au rfl (Av (AC (Ad (Af Ak rfl (Al rfl (As (os' := fun g => [ME g ([]), cell gx 53 #[.int .i64 x.e.k, .int .u64 x.e.t, .int .u64 x.e.i, x.v, .int .i64 x.e.c]]) [] 0 (Ai Tryz.func138 (by kernel_rfl) rfl) (W4) rfl rfl rfl (fun _ => rfl) rfl rfl rfl) ?_))))))); rintro g
 refine Af Ak rfl (Ab (Ad (Af Ak rfl (Aa rfl (.int .i64 x.e.k) (fun b w hb hH => Ba rfl rfl (Bl Br rfl) (hH.row 1 rfl) hb) (Aa rfl (.int .u8 x.e.k) (fun b w hb hH => Bi Tryz.underlying3 Tryz.underlying5 (IntWalk.u8_in _ (by omega)) rfl rfl hb) (Al rfl (As (os' := fun _ => [ME g L0, cell gx 53 #[.int .i64 x.e.k, .int .u64 x.e.t, .int .u64 x.e.i, x.v, .int .i64 x.e.c]]) [0] 0 (Ai Tryz.func139 (by kernel_rfl) rfl) (Rf g ([]) x.e.k (by omega) L0 (by rw [← hL0]; rfl) (by simp)) rfl rfl rfl (fun _ => rfl) rfl rfl rfl) ?_)))))); rintro ⟨⟩
 refine Ab (Ad (Af Ak rfl (Aa rfl (.int .u64 x.e.t) (fun b w hb hH => Ba rfl rfl (Bl AQ rfl) (hH.row 1 rfl) hb) (Al rfl (As (os' := fun _ => [ME g L1, cell gx 53 #[.int .i64 x.e.k, .int .u64 x.e.t, .int .u64 x.e.i, x.v, .int .i64 x.e.c]]) [0] 0 (Ai Tryz.func140 (by kernel_rfl) rfl) (TK g L0 x.e.t ⟨by omega, by omega⟩ L1 hL1 (by omega)) rfl rfl rfl (fun _ => rfl) rfl rfl rfl) ?_)))); rintro ⟨⟩
 refine Ab (Ad (Af Ak rfl (Aa rfl (.int .u64 x.e.i) (fun b w hb hH => Ba rfl rfl (Bl AQ rfl) (hH.row 1 rfl) hb) (Al rfl (As (os' := fun _ => [ME g L2, cell gx 53 #[.int .i64 x.e.k, .int .u64 x.e.t, .int .u64 x.e.i, x.v, .int .i64 x.e.c]]) [0] 0 (Ai Tryz.func140 (by kernel_rfl) rfl) (TK g L1 x.e.i ⟨by omega, by omega⟩ L2 hL2 (by omega)) rfl rfl rfl (fun _ => rfl) rfl rfl rfl) ?_)))); rintro ⟨⟩
 refine Ab (Ar (Ad (Af Ak rfl (Aa rfl (.int .i64 x.e.k) (fun b w hb hH => Ba rfl rfl (Bl Br rfl) (hH.row 1 rfl) hb) (Ab (AK ?_))))))
 rcases hk with ⟨hk, hd, hc⟩ | ⟨hk, hd, hd2, hc⟩ | ⟨hk, hd, hc, hc2, hc3⟩
 obtain rfl : L2 = L3 := by rw [← hL3, St hk, ← hL2, ← hL1, ← hL0]
 refine Ad (Af Ak rfl (Aa rfl (.bool false) (fun b w hb hH => A5 rfl rfl rfl (EM (by omega)) hb) (Af Ak rfl (Ab (Au rfl (Ad (Af Ak rfl (Aa rfl (.bool false) (fun b w hb hH => A5 rfl rfl rfl (EM (by omega)) hb) (Af Ak rfl (Ab (Au rfl (Av (A6 (AC (Ad (Af Ak rfl ?_))))))))))))))))
 refine Al rfl (As (os' := fun v => [Aj 5 1 encB v L2, ME g L2, cell gx 53 #[.int .i64 x.e.k, .int .u64 x.e.t, .int .u64 x.e.i, x.v, .int .i64 x.e.c]]) [0] 0 (Ai Tryz.func142 (by kernel_rfl) rfl) (LA g L2 (by omega)) rfl rfl rfl (fun _ => rfl) rfl rfl rfl) ?_; rintro v
 refine Af Ak rfl (Ab (AB ?_))
 exact Co (.tmp rfl) (.tmp rfl) (fun w h => AH v rfl [0] rfl h (fun z hz => ⟨z, .refl _, by rw [hL3]; exact hz⟩)) rfl
 refine Ad (Af Ak rfl (Aa rfl (.bool true) (fun b w hb hH => A5 rfl rfl rfl (Fw (by omega)) hb) (Af Ak rfl (Ab (AE rfl (BB (Af Ak rfl (Aa rfl (x.v) (fun b w hb hH => Ba rfl rfl (Bl CI rfl) (hH.row 1 rfl) hb) (Al (post := fun _ => [ME g L3, cell gx 53 #[.int .i64 x.e.k, .int .u64 x.e.t, .int .u64 x.e.i, x.v, .int .i64 x.e.c]]) rfl (Ny hU hS (os' := fun _ => [ME g L3, cell gx 53 #[.int .i64 x.e.k, .int .u64 x.e.t, .int .u64 x.e.i, x.v, .int .i64 x.e.c]]) [0] 0 (Ai Tryz.func141 (by kernel_rfl) rfl) (T1 hv g L2 L3 (by rw [← hL3, T4 hk, ← hL2, ← hL1, ← hL0]) (by omega)) rfl rfl rfl (fun _ => rfl) rfl rfl rfl) ?_))))))))); rintro ⟨⟩
 refine AG (A6 (AC (Ad (Af Ak rfl (Al rfl (As (os' := fun v => [Aj 5 1 encB v L3, ME g L3, cell gx 53 #[.int .i64 x.e.k, .int .u64 x.e.t, .int .u64 x.e.i, x.v, .int .i64 x.e.c]]) [0] 0 (Ai Tryz.func142 (by kernel_rfl) rfl) (LA g L3 (by omega)) rfl rfl rfl (fun _ => rfl) rfl rfl rfl) ?_))))); rintro v
 refine Af Ak rfl (Ab (AB ?_))
 exact Co (.tmp rfl) (.tmp rfl) (fun w h => AH v rfl [0] rfl h (fun z hz => ⟨z, .refl _, by rw [hL3]; exact hz⟩)) rfl
 refine Ad (Af Ak rfl (Aa rfl (.bool false) (fun b w hb hH => A5 rfl rfl rfl (EM (by omega)) hb) (Af Ak rfl (Ab (Au rfl (Ad (Af Ak rfl (Aa rfl (.bool true) (fun b w hb hH => A5 rfl rfl rfl (Fw (by omega)) hb) (Af Ak rfl (Ab (AE rfl (BB (Af Ak rfl ?_)))))))))))))
 refine Aa rfl (.int .i64 x.e.c) (fun b w hb hH => Ba rfl rfl (Bl Br rfl) (hH.row 1 rfl) hb) (Aa rfl (.int .u8 x.e.c) (fun b w hb hH => Bi Tryz.underlying3 Tryz.underlying5 (IntWalk.u8_in _ (by omega)) rfl rfl hb) (Al rfl (As (os' := fun _ => [ME g L3, cell gx 53 #[.int .i64 x.e.k, .int .u64 x.e.t, .int .u64 x.e.i, x.v, .int .i64 x.e.c]]) [0] 0 (Ai Tryz.func139 (by kernel_rfl) rfl) (Rf g L2 x.e.c (by omega) L3 (by rw [← hL3, Su hk, ← hL2, ← hL1, ← hL0]) (by omega)) rfl rfl rfl (fun _ => rfl) rfl rfl rfl) ?_)); rintro ⟨⟩
 refine AG (A6 (AC (Ad (Af Ak rfl (Al rfl (As (os' := fun v => [Aj 5 1 encB v L3, ME g L3, cell gx 53 #[.int .i64 x.e.k, .int .u64 x.e.t, .int .u64 x.e.i, x.v, .int .i64 x.e.c]]) [0] 0 (Ai Tryz.func142 (by kernel_rfl) rfl) (LA g L3 (by omega)) rfl rfl rfl (fun _ => rfl) rfl rfl rfl) ?_))))); rintro v
 refine Af Ak rfl (Ab (AB ?_))
 exact Co (.tmp rfl) (.tmp rfl) (fun w h => AH v rfl [0] rfl h (fun z hz => ⟨z, .refl _, by rw [hL3]; exact hz⟩)) rfl
end Go.Proofs.YtjcfimmcogkopaaGreatDoor.Sep
namespace Go.Proofs.YtjcfimmcogkopaaGreatDoor.Sep
open Go.RowKit
open Go.Proofs.YtjcfimmcogkopaaGreatDoor.Mem (Bb Ci Chg)
section
variable {P : Program} {t e ty : TypeId} {k : Nat} {α : Type} {enc : α → List Value} {v u : Value} {l m : List α} {w w' : World} {rs : List RowT}
theorem OO {nb : Nat} (hT : SliceT P t e k) (hb : (P.info? e).map (fun i => i.bytes) = some nb) (hb1 : 1 ≤ nb) (he : EncOf k enc) (h : Aj e k enc v l rs) (hr : RowsOf w rs) (hd : Bb rs) (hu : DP w k u m.length (flat enc m)) (hlen : (l.length + m.length) * nb ≤ 140737488355328) :
    ∃ v' w', (Builtin.append_ #[t, t] ty #[v, u]).run P w = .ok v' w' ∧ ∃ rs', Aj e k enc v' (l ++ m) rs' ∧ Chg w w' rs rs' := by
  obtain ⟨i, z, hi, hz, hk, hby, hzs, _⟩ := hT.inf
  have hbn : i.bytes = nb := by simpa [hi] using hb
  have hl1 : l.length + m.length ≤ 140737488355328 := Nat.le_trans (Nat.le_mul_of_pos_right _ hb1) hlen
  obtain ⟨hul, A, c, rfl, hA⟩ := hu
  have hu1 := Lp he m
  rcases hA with ⟨rfl, hm⟩ | ⟨a, rfl, hcells⟩
  · have hm' : m = [] := List.length_eq_zero_iff.1 hm
    subst hm'
    refine ⟨v, w, ?_, rs, by simpa using h, ⟨Mod.refl _ _, hr, hd, fun x hx _ => ⟨x, hx, rfl⟩⟩⟩
    rcases h with ⟨h1, h2, h3⟩ | ⟨g, c', cs, h1, h2, h3, h4, h5, h6⟩
    · subst h1
      simp [Builtin.append_, run_underlying hT.ht, sizeOf, typeInfo, hi, Builtin.lenOf, Builtin.firstCells]
    · subst h1
      simp [Builtin.append_, run_underlying hT.ht, sizeOf, typeInfo, hi, Builtin.lenOf, Builtin.firstCells, h2, storeCells]
  · have hown : w.ownsRow 0 e k v l.length (flat enc l) := by
      refine ⟨DU he l, ?_⟩
      rcases h with ⟨h1, h2, h3⟩ | ⟨g, c', cs, h1, h2, h3, h4, h5, h6⟩
      · exact .inl ⟨h1, by rw [h2]; rfl⟩
      · subst h6
        exact .inr ⟨g, c', cs, h1, Nat.zero_le _, hr.1, h2, h3, h4, h5⟩
    obtain ⟨v', w', hrun, h2, h3, _, h5⟩ := run_append_own_at (P := P) w 0 t ty e i z k i.bytes hT.ht hi hz hk rfl hzs hT.pos v l.length (flat enc l) hown a m.length c (flat enc m) hul hcells hu1 (by unfold maxLen; omega)
      (by rw [hbn]; omega) (Nat.zero_le _)
    refine ⟨v', w', hrun, ?_⟩
    have hm : Mod (At v) w w' := Mod.of_grown h3 (fun k hk => hk)
    have hmB : Mod (Ci rs) w w' := hm.weaken fun j _ hj => by
      rcases h with ⟨h1, _, _⟩ | ⟨g, c', cs, h1, _, _, _, _, h6⟩
      · subst h1; unfold At at hj; simp [Value.ownBlock] at hj
      · subst h1; subst h6
        unfold At at hj
        simp [Value.ownBlock] at hj
        exact ⟨(g, Fa e, cs), by simp, hj⟩
    rcases h2.2 with ⟨h1, hn⟩ | ⟨g, c', cs, h1, _, hrow, hle, hmx, hsz, htk⟩
    · have : l ++ m = [] := List.length_eq_zero_iff.1 (by rw [List.length_append]; exact hn)
      exact ⟨[], .inl ⟨h1, this, rfl⟩, ⟨hmB, trivial, trivial, fun x hx => by simp at hx⟩⟩
    · refine ⟨[(g, Fa e, cs)], .inr ⟨g, c', cs, by rw [h1, List.length_append], by rw [List.length_append]; exact hle, hmx, hsz, by rw [List.length_append, Hl]; exact htk, rfl⟩, ⟨hmB, ⟨hrow, trivial⟩, ⟨(fun _ h => by cases h), trivial⟩, fun x hx hlt => ?_⟩⟩
      have : x = (g, Fa e, cs) := by simpa using hx
      subst this
      rcases h5 with h5 | h5
      · subst h1
        rcases h with ⟨h1, _, _⟩ | ⟨g', c'', cs', h1, _, _, _, _, h6⟩
        · subst h1; simp [Value.ownBlock] at h5
        · subst h1; subst h6
          simp [Value.ownBlock] at h5
          exact ⟨(g', Fa e, cs'), by simp, h5.symm⟩
      · subst h1
        simp [Value.ownBlock] at h5
        exact absurd hlt (by show ¬ g < w.heap.size; omega)
variable {Q : Exit → Act → World → Prop} {n : Nat} {B : Nat → Prop} {w0 : World} {os : List Ass} {env : List (Nat × Value)} {o : Oper}
theorem Df {nb : Nat} (i : Nat) (hT : SliceT P t e k) (he : EncOf k enc) (hb : (P.info? e).map (fun i => i.bytes) = some nb) (hb1 : 1 ≤ nb) (hi : os[i]? = some (Aj e k enc v l)) (m : List α) (hu : ∀ w, Hp B w0 w os → DP w k u m.length (flat enc m)) (hlen : (l.length + m.length) * nb ≤ 140737488355328) {x y : Operand} (ho : o.op = .call { callee := .builtin .append, args := #[x, y], argTypes := #[t, t] }) (hx : evs env x = some v) (hy : evs env y = some u) {r : List α} (hr : l ++ m = r) :
  Bt P Q n env B w0 os o (fun v : Value => v) (fun v' => os.set i (Aj e k enc v' r)) := fun act w hH hF K hK => by
 subst hr
 have hH' := hH
 obtain ⟨rs0, hp, hm⟩ := hH
 obtain ⟨a, z, b, e1, hz, hbb⟩ := hp.at_ hi
 subst e1
 have p : (a ++ (z ++ b)).Perm (z ++ (a ++ b)) := by rw [← List.append_assoc, ← List.append_assoc]; exact List.perm_append_comm.append_right b
 have h5 := Dk hm p
 have hd := Bu.1 h5.apart
 rw [List.map_append] at hd
 obtain ⟨v', w', hr, y', hy', hc⟩ := OO (P := P) (ty := o.type) hT hb hb1 he hz (BC.2 fun z hz => h5.rows.mem z (by simp [hz])) (Bu.2 (List.nodup_append.1 hd).1) (hu w hH') hlen
 have p' : (y' ++ (a ++ b)).Perm (a ++ (y' ++ b)) := by rw [← List.append_assoc, ← List.append_assoc]; exact List.perm_append_comm.append_right b
 refine FN (w0 := w) act (Gd ho (vs := [v, u]) (by simp [evl, hx, hy]) (fun cs => ?_) hF) (hK v' w' ⟨_, hbb _ y' hy', Dk (FL h5 hc) p'⟩)
 simp only [builtin, Sem.run_bind, Sem.run_pure, Result.andThen_ok, hr]
end
end Go.Proofs.YtjcfimmcogkopaaGreatDoor.Sep
namespace Go.Proofs.YtjcfimmcogkopaaGreatDoor.Sep
open Go.RowKit
open Go.Proofs.YtjcfimmcogkopaaGreatDoor.Mem (Bb Ci Chg)
theorem LU : ∀ (ys : List Value) (n : Nat) (cs : Array Value), n + ys.length ≤ cs.size →
    ((ys.zipIdx n).foldl (fun (cs : Array Value) (p : Value × Nat) => cs.setIfInBounds p.2 p.1) cs).toList = cs.toList.take n ++ ys ++ cs.toList.drop (n + ys.length)
  | [], n, cs, _ => by simp
  | y :: ys, n, cs, h => by
    have hl : (y :: ys).length = ys.length + 1 := rfl
    have hn : n < cs.toList.length := by rw [Array.length_toList]; omega
    rw [List.zipIdx_cons, List.foldl_cons, LU ys (n + 1) _ (by rw [Array.size_setIfInBounds]; omega), Array.toList_setIfInBounds]
    have e1 : (cs.toList.set n y).take (n + 1) = cs.toList.take n ++ [y] := by
      rw [List.set_eq_take_append_cons_drop, if_pos hn, List.take_append, List.length_take, Nat.min_eq_left (by omega), List.take_of_length_le (by rw [List.length_take]; omega), show n + 1 - n = 1 by omega]
      rfl
    have e2 : (cs.toList.set n y).drop (n + 1 + ys.length) = cs.toList.drop (n + (ys.length + 1)) := by
      rw [List.drop_set, if_pos (by omega)]
      congr 1
      omega
    rw [e1, e2, hl]
    simp
variable {P : Program} {Q : Exit → Act → World → Prop} {n : Nat} {B : Nat → Prop} {w0 : World} {os : List Ass} {env : List (Nat × Value)} {o : Oper}
variable {t e : TypeId} {k : Nat} {α : Type} {enc : α → List Value}
theorem T5 {v : Value} {cells : Array Value} (h : v.cells.size = cells.size) (hk : v.cells.size = k) : Instr.fill (fun i => some (i * k, k)) cells [(0, v)] = some v.cells := by
 have h1 : ¬ ((v.cells.size ≠ k || 0 * k + v.cells.size > cells.size) = true) := by simp [hk]; omega
 have h2 : (v.cells.zipIdx.foldl (fun (cs : Array Value) (p : Value × Nat) => cs.setIfInBounds (0 * k + p.2) p.1) cells) = v.cells := by
  have hf : (fun (cs : Array Value) (p : Value × Nat) => cs.setIfInBounds (0 * k + p.2) p.1) = fun cs p => cs.setIfInBounds p.2 p.1 := by
   funext cs p
   rw [Nat.zero_mul, Nat.zero_add]
  rw [hf, ← Array.foldl_toList, Array.toList_zipIdx]
  apply Array.toList_inj.1
  rw [LU _ 0 _ (by rw [Array.length_toList]; omega), Array.length_toList]
  simp [h]
 unfold Instr.fill
 simp only
 rw [if_neg h1]
 exact congrArg some h2
theorem Qd (hT : SliceT P t e k) (hk : k ≤ 4096) {x : Value} (hx : x.cells.size = k) (w : World) : (Instr.buildSlice t 1 #[(0, x)]).run P w = .ok (.slice (some ⟨w.heap.size, 0, none⟩) 1 1) (w.alloc (.cells x.cells e)) := by
 obtain ⟨inf, z, hinf, hz, hsz, _, hzs, _⟩ := hT.inf
 have hp := hT.pos
 have hf : Instr.fill (fun i => some (i * k, k)) ((Array.range k).map (fun j => z.cells[j % z.cells.size]!)) [(0, x)] = some x.cells := T5 (by simp [hx]) hx
 have h1 : ¬ 1 * k > 2 ^ 24 := by omega
 have h2 : ¬ 1 * k = 0 := by omega
 simp only [Instr.buildSlice, run_underlying hT.ht, hT.sizeOf, Sem.run_bind, Sem.run_pure, Result.andThen_ok, if_neg h1, if_neg h2, zeroValue, typeInfo, hinf, hz]
 simp [newRow, zeroValue, typeInfo, hinf, hz, h1, h2]
 rw [hf]
 simp
theorem Dm (hT : SliceT P t e k) (hk : k ≤ 4096) (he : EncOf k enc) {x : Operand} {c : Value} (a : α) (hc : c.cells.toList = enc a) (ho : o.op = .buildSlice t 1 #[(0, x)]) (hx : evs env x = some c) : Bt P Q n env B w0 os o (fun v : Value => v) (fun v => Aj e k enc v [a] :: os) := fun b w hH hF K hK => by
 have hsz : c.cells.size = k := by rw [← he.len a, ← hc, Array.length_toList]
 have hrun : (execOp b.eval o).run P w = .ok (.value (.slice (some ⟨w.heap.size, 0, none⟩) 1 1)) (w.alloc (.cells c.cells e)) := by
  unfold execOp
  simp [ho, hF.evs hx, Sem.run_bind, Qd hT hk hsz]
 refine FN (w0 := w) b hrun (hK _ _ ?_)
 have := hH.new e c.cells
 obtain ⟨rs, ⟨r1, r2, e1, h1, h2⟩, h3⟩ := this
 unfold cell at h1
 exact ⟨rs, ⟨r1, r2, e1, .inr ⟨w.heap.size, 1, c.cells, rfl, Nat.le_refl _, by unfold maxLen; omega, by simp [hsz], by rw [hc]; simp only [flat, List.flatMap_cons, List.flatMap_nil, List.append_nil, List.length_cons, List.length_nil, Nat.zero_add, Nat.one_mul]; exact List.take_of_length_le (by rw [he.len]; exact Nat.le_refl _), h1⟩, h2⟩, h3⟩
end Go.Proofs.YtjcfimmcogkopaaGreatDoor.Sep
