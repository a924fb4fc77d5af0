/-
  RpcA · RpcB · RpcC · App
-/
import Derived.Test.YtnebloeideodmaaPD03
import Derived.Test.YtnebloeideodmaaPE01
import Derived.Test.YtnebloeideodmaaPG01
set_option linter.unusedSimpArgs false
set_option linter.unusedVariables false
set_option maxRecDepth 100000
namespace Go.Proofs.Ytnebloeideodmaa.Sep
open Go.RowKit
open Go.Proofs.Ytnebloeideodmaa.Mem (AM BA Chg Aq)
def GB (c : Int) : Bool := CX c && c != 0
theorem F5 (w : World) (n : Int) (r : Bool) (hr : BX n = r) : Calls Try.prog 70 #[.int .u64 n] w fun e w' => e = .returned (.bool r) ∧ Below w.heap.size w w' := by
 refine Fw (args := [.int .u64 n]) 9 Try.func70 rfl rfl rfl (Af (Ag Ab rfl (Ae ?_)))
 have hc : n < 1 ∨ (1 ≤ n ∧ n ≤ 72057594037927935) ∨ 72057594037927935 < n := by omega
 rcases hc with h1 | ⟨h1, h2⟩ | h1
 obtain rfl : r = false := by rw [← hr]; simp [BX]; omega
 refine Af (Ag Ab rfl (Ac rfl (.bool false) (fun b w hb hH => AI rfl rfl rfl (CP (by omega)) hb) (Ag Ab rfl (Ae (Aw ?_)))))
 exact Ar (.tmp rfl) (fun w h => ⟨rfl, Aq h.up⟩) rfl
 obtain rfl : r = true := by rw [← hr]; simp [BX]; omega
 refine Af (Ag Ab rfl (Ac rfl (.bool true) (fun b w hb hH => AI rfl rfl rfl (Bq (by omega)) hb) (Ag Ab rfl (Ac rfl (.bool true) (fun b w hb hH => AI rfl rfl rfl (Bu (by omega)) hb) (Ag Ab rfl (Ae (Aw ?_)))))))
 exact Ar (.tmp rfl) (fun w h => ⟨rfl, Aq h.up⟩) rfl
 obtain rfl : r = false := by rw [← hr]; simp [BX]; omega
 refine Af (Ag Ab rfl (Ac rfl (.bool true) (fun b w hb hH => AI rfl rfl rfl (Bq (by omega)) hb) (Ag Ab rfl (Ac rfl (.bool false) (fun b w hb hH => AI rfl rfl rfl (Bp (by omega)) hb) (Ag Ab rfl (Ae (Aw ?_)))))))
 exact Ar (.tmp rfl) (fun w h => ⟨rfl, Aq h.up⟩) rfl
theorem HY (w : World) (c : Int) (r : Bool) (hr : GB c = r) : Calls Try.prog 71 #[.int .i64 c] w fun e w' => e = .returned (.bool r) ∧ Below w.heap.size w w' := by
 refine Fw (args := [.int .i64 c]) 14 Try.func71 rfl rfl rfl (Af (Ag Ab rfl (Ae ?_)))
 have hc : c < 1 ∨ (1 ≤ c ∧ c ≤ 254 ∧ c % 2 = 0) ∨ (1 ≤ c ∧ c ≤ 254 ∧ c % 2 ≠ 0) ∨ 254 < c := by omega
 rcases hc with h1 | ⟨h1, h2, h3⟩ | ⟨h1, h2, h3⟩ | h1
 obtain rfl : r = false := by rw [← hr]; simp [GB, CX]; omega
 refine Af (Ag Ab rfl (Ac rfl (.bool false) (fun b w hb hH => AI rfl rfl rfl (CP (by omega)) hb) (Ag Ab rfl (Ae (Aw ?_)))))
 exact Ar (.tmp rfl) (fun w h => ⟨rfl, Aq h.up⟩) rfl
 obtain rfl : r = true := by rw [← hr]; simp [GB, CX]; omega
 refine Af (Ag Ab rfl (Ac rfl (.bool true) (fun b w hb hH => AI rfl rfl rfl (Bq (by omega)) hb) (Ag Ab rfl (Ac rfl (.bool true) (fun b w hb hH => AI rfl rfl rfl (Bu (by omega)) hb) (Ag Ab rfl (Ac rfl (.int .i64 (c % 2)) (fun b w hb hH => Br rfl rfl rfl (by decide) (Int.tmod_eq_emod_of_nonneg (by omega)) hb) (Ac rfl (.bool true) (fun b w hb hH => AI rfl rfl rfl (DK h3) hb) (Ag Ab rfl (Ae (Aw ?_))))))))))
 exact Ar (.tmp rfl) (fun w h => ⟨rfl, Aq h.up⟩) rfl
 obtain rfl : r = false := by rw [← hr]; simp [GB, CX]; omega
 refine Af (Ag Ab rfl (Ac rfl (.bool true) (fun b w hb hH => AI rfl rfl rfl (Bq (by omega)) hb) (Ag Ab rfl (Ac rfl (.bool true) (fun b w hb hH => AI rfl rfl rfl (Bu (by omega)) hb) (Ag Ab rfl (Ac rfl (.int .i64 (c % 2)) (fun b w hb hH => Br rfl rfl rfl (by decide) (Int.tmod_eq_emod_of_nonneg (by omega)) hb) (Ac rfl (.bool false) (fun b w hb hH => AI rfl rfl rfl (Dq h3) hb) (Ag Ab rfl (Ae (Aw ?_))))))))))
 exact Ar (.tmp rfl) (fun w h => ⟨rfl, Aq h.up⟩) rfl
 obtain rfl : r = false := by rw [← hr]; simp [GB, CX]; omega
 refine Af (Ag Ab rfl (Ac rfl (.bool true) (fun b w hb hH => AI rfl rfl rfl (Bq (by omega)) hb) (Ag Ab rfl (Ac rfl (.bool false) (fun b w hb hH => AI rfl rfl rfl (Bp (by omega)) hb) (Ag Ab rfl (Ae (Aw ?_)))))))
 exact Ar (.tmp rfl) (fun w h => ⟨rfl, Aq h.up⟩) rfl
theorem E0 (w : World) (c : Int) (r : Bool) (hr : CX c = r) : Calls Try.prog 75 #[.int .i64 c] w fun e w' => e = .returned (.bool r) ∧ Below w.heap.size w w' := by
 refine Fw (args := [.int .i64 c]) 14 Try.func75 rfl rfl rfl (Af (Ag Ab rfl (Ae ?_)))
 have hc : c < 0 ∨ (0 ≤ c ∧ c ≤ 254 ∧ c % 2 = 0) ∨ (0 ≤ c ∧ c ≤ 254 ∧ c % 2 ≠ 0) ∨ 254 < c := by omega
 rcases hc with h1 | ⟨h1, h2, h3⟩ | ⟨h1, h2, h3⟩ | h1
 obtain rfl : r = false := by rw [← hr]; simp [GB, CX]; omega
 refine Af (Ag Ab rfl (Ac rfl (.bool false) (fun b w hb hH => AI rfl rfl rfl (CP (by omega)) hb) (Ag Ab rfl (Ae (Aw ?_)))))
 exact Ar (.tmp rfl) (fun w h => ⟨rfl, Aq h.up⟩) rfl
 obtain rfl : r = true := by rw [← hr]; simp [GB, CX]; omega
 refine Af (Ag Ab rfl (Ac rfl (.bool true) (fun b w hb hH => AI rfl rfl rfl (Bq (by omega)) hb) (Ag Ab rfl (Ac rfl (.bool true) (fun b w hb hH => AI rfl rfl rfl (Bu (by omega)) hb) (Ag Ab rfl (Ac rfl (.int .i64 (c % 2)) (fun b w hb hH => Br rfl rfl rfl (by decide) (Int.tmod_eq_emod_of_nonneg (by omega)) hb) (Ac rfl (.bool true) (fun b w hb hH => AI rfl rfl rfl (DK h3) hb) (Ag Ab rfl (Ae (Aw ?_))))))))))
 exact Ar (.tmp rfl) (fun w h => ⟨rfl, Aq h.up⟩) rfl
 obtain rfl : r = false := by rw [← hr]; simp [GB, CX]; omega
 refine Af (Ag Ab rfl (Ac rfl (.bool true) (fun b w hb hH => AI rfl rfl rfl (Bq (by omega)) hb) (Ag Ab rfl (Ac rfl (.bool true) (fun b w hb hH => AI rfl rfl rfl (Bu (by omega)) hb) (Ag Ab rfl (Ac rfl (.int .i64 (c % 2)) (fun b w hb hH => Br rfl rfl rfl (by decide) (Int.tmod_eq_emod_of_nonneg (by omega)) hb) (Ac rfl (.bool false) (fun b w hb hH => AI rfl rfl rfl (Dq h3) hb) (Ag Ab rfl (Ae (Aw ?_))))))))))
 exact Ar (.tmp rfl) (fun w h => ⟨rfl, Aq h.up⟩) rfl
 obtain rfl : r = false := by rw [← hr]; simp [GB, CX]; omega
 refine Af (Ag Ab rfl (Ac rfl (.bool true) (fun b w hb hH => AI rfl rfl rfl (Bq (by omega)) hb) (Ag Ab rfl (Ac rfl (.bool false) (fun b w hb hH => AI rfl rfl rfl (Bp (by omega)) hb) (Ag Ab rfl (Ae (Aw ?_)))))))
 exact Ar (.tmp rfl) (fun w h => ⟨rfl, Aq h.up⟩) rfl
theorem Fj (w : World) (x : EntV) (hv : Ft w x.v x.e.d) (r : Bool) (hr : BV x.e = r) : Calls Try.prog 60 #[.agg #[.int .i64 x.e.k, .int .u64 x.e.t, .int .u64 x.e.i, x.v, .int .i64 x.e.c]] w fun e w' => e = .returned (.bool r) ∧ Below w.heap.size w w' := by
 obtain ⟨v1, hv1⟩ : ∃ v1, BX x.e.t = v1 := ⟨_, rfl⟩
 obtain ⟨v2, hv2⟩ : ∃ v2, BX x.e.i = v2 := ⟨_, rfl⟩
 obtain ⟨v3, hv3⟩ : ∃ v3, Ce x.e = v3 := ⟨_, rfl⟩
 have hR : (v1 && (v2 && v3)) = r := by rw [← hr]; unfold BV; rw [hv1, hv2, hv3]
 refine Fw (args := [.agg #[.int .i64 x.e.k, .int .u64 x.e.t, .int .u64 x.e.i, x.v, .int .i64 x.e.c]]) 54 Try.func60 rfl rfl rfl (Af (Ag Ab rfl (Al (post := fun gx => [cell gx 32 #[.int .i64 x.e.k, .int .u64 x.e.t, .int .u64 x.e.i, x.v, .int .i64 x.e.c]]) rfl (Co (cs := #[.int .i64 x.e.k, .int .u64 x.e.t, .int .u64 x.e.i, x.v, .int .i64 x.e.c]) rfl rfl rfl) ?_))); rintro gx
 refine Ag Ab rfl (Ae (Ax ?_))
 cases v1
 obtain rfl : r = false := by rw [← hR]; rfl
 refine Af (Ag Ab rfl (Ac rfl (.int .u64 x.e.t) (fun b w hb hH => AD rfl rfl (AL Ai rfl) (hH.row 0 rfl) hb) (Al (post := fun _ => [cell gx 32 #[.int .i64 x.e.k, .int .u64 x.e.t, .int .u64 x.e.i, x.v, .int .i64 x.e.c]]) rfl (AH (Aj Try.func70 (by kernel_rfl) rfl) (fun w hH => F5 w x.e.t false hv1) rfl rfl rfl) ?_))); rintro ⟨⟩
 refine Ag Ab rfl (Ae (AC rfl (Af (Ag Ab rfl (Ae (Aw (Cc ?_)))))))
 exact Ar (.tmp rfl) (fun w h => ⟨rfl, Aq h.up⟩) rfl
 cases v2
 obtain rfl : r = false := by rw [← hR]; rfl
 refine Af (Ag Ab rfl (Ac rfl (.int .u64 x.e.t) (fun b w hb hH => AD rfl rfl (AL Ai rfl) (hH.row 0 rfl) hb) (Al (post := fun _ => [cell gx 32 #[.int .i64 x.e.k, .int .u64 x.e.t, .int .u64 x.e.i, x.v, .int .i64 x.e.c]]) rfl (AH (Aj Try.func70 (by kernel_rfl) rfl) (fun w hH => F5 w x.e.t true hv1) rfl rfl rfl) ?_))); rintro ⟨⟩
 refine Ag Ab rfl (Ac rfl (.int .u64 x.e.i) (fun b w hb hH => AD rfl rfl (AL Ai rfl) (hH.row 0 rfl) hb) (Al (post := fun _ => [cell gx 32 #[.int .i64 x.e.k, .int .u64 x.e.t, .int .u64 x.e.i, x.v, .int .i64 x.e.c]]) rfl (AH (Aj Try.func70 (by kernel_rfl) rfl) (fun w hH => F5 w x.e.i false hv2) rfl rfl rfl) ?_)); rintro ⟨⟩
 refine Ag Ab rfl (Ae (AC rfl (Af (Ag Ab rfl (Ae (Aw (Cc ?_)))))))
 exact Ar (.tmp rfl) (fun w h => ⟨rfl, Aq h.up⟩) rfl
 refine Af (Ag Ab rfl (Ac rfl (.int .u64 x.e.t) (fun b w hb hH => AD rfl rfl (AL Ai rfl) (hH.row 0 rfl) hb) (Al (post := fun _ => [cell gx 32 #[.int .i64 x.e.k, .int .u64 x.e.t, .int .u64 x.e.i, x.v, .int .i64 x.e.c]]) rfl (AH (Aj Try.func70 (by kernel_rfl) rfl) (fun w hH => F5 w x.e.t true hv1) rfl rfl rfl) ?_))); rintro ⟨⟩
 refine Ag Ab rfl (Ac rfl (.int .u64 x.e.i) (fun b w hb hH => AD rfl rfl (AL Ai rfl) (hH.row 0 rfl) hb) (Al (post := fun _ => [cell gx 32 #[.int .i64 x.e.k, .int .u64 x.e.t, .int .u64 x.e.i, x.v, .int .i64 x.e.c]]) rfl (AH (Aj Try.func70 (by kernel_rfl) rfl) (fun w hH => F5 w x.e.i true hv2) rfl rfl rfl) ?_)); rintro ⟨⟩
 refine Ag Ab rfl (Ae (Az rfl (AK (AJ (Ax (Af (Ag Ab rfl (Ac rfl (.int .i64 x.e.k) (fun b w hb hH => AD rfl rfl (AL AB rfl) (hH.row 0 rfl) hb) (Ae (AN ?_))))))))))
 have hk : x.e.k = 0 ∨ x.e.k = 1 ∨ x.e.k = 2 ∨ (x.e.k ≠ 0 ∧ x.e.k ≠ 1 ∧ x.e.k ≠ 2) := by omega
 rcases hk with hk | hk | hk | hk
 refine Af (Ag Ab rfl (Ac rfl (.bool true) (fun b w hb hH => AI rfl rfl rfl (DK hk) hb) (Ag Ab rfl (Ae (AC rfl ?_)))))
 by_cases hd : x.e.d.length = 0
 by_cases hc : x.e.c = 0
 obtain rfl : r = true := by rw [← hR, ← hv3]; simp [Ce, hk, hc, List.eq_nil_of_length_eq_zero hd]
 refine Af (Ag Ab rfl (Ac rfl (x.v) (fun b w hb hH => AD rfl rfl (AL Cr rfl) (hH.row 0 rfl) hb) (Ac rfl (.int .i64 (x.e.d.length : Int)) (fun b w hb hH => A8 ((Ca hv hH).rd) Try.underlying30 rfl rfl hb) (Ac rfl (.bool true) (fun b w hb hH => AI rfl rfl rfl (DK (by omega)) hb) (Ag Ab rfl (Ac rfl (.int .i64 x.e.c) (fun b w hb hH => AD rfl rfl (AL AB rfl) (hH.row 0 rfl) hb) (Ac rfl (.bool true) (fun b w hb hH => AI rfl rfl rfl (DK hc) hb) (Ag Ab rfl (Ae (Aw (AA (Cc ?_))))))))))))
 exact Ar (.tmp rfl) (fun w h => ⟨rfl, Aq h.up⟩) rfl
 obtain rfl : r = false := by rw [← hR, ← hv3]; simp [Ce, hk, hc]
 refine Af (Ag Ab rfl (Ac rfl (x.v) (fun b w hb hH => AD rfl rfl (AL Cr rfl) (hH.row 0 rfl) hb) (Ac rfl (.int .i64 (x.e.d.length : Int)) (fun b w hb hH => A8 ((Ca hv hH).rd) Try.underlying30 rfl rfl hb) (Ac rfl (.bool true) (fun b w hb hH => AI rfl rfl rfl (DK (by omega)) hb) (Ag Ab rfl (Ac rfl (.int .i64 x.e.c) (fun b w hb hH => AD rfl rfl (AL AB rfl) (hH.row 0 rfl) hb) (Ac rfl (.bool false) (fun b w hb hH => AI rfl rfl rfl (Dq hc) hb) (Ag Ab rfl (Ae (Aw (AA (Cc ?_))))))))))))
 exact Ar (.tmp rfl) (fun w h => ⟨rfl, Aq h.up⟩) rfl
 have hd0 : (x.e.d == []) = false := by cases hx : x.e.d with | nil => rw [hx] at hd; exact absurd rfl hd | cons => rfl
 obtain rfl : r = false := by rw [← hR, ← hv3]; simp [Ce, hk, hd0]
 refine Af (Ag Ab rfl (Ac rfl (x.v) (fun b w hb hH => AD rfl rfl (AL Cr rfl) (hH.row 0 rfl) hb) (Ac rfl (.int .i64 (x.e.d.length : Int)) (fun b w hb hH => A8 ((Ca hv hH).rd) Try.underlying30 rfl rfl hb) (Ac rfl (.bool false) (fun b w hb hH => AI rfl rfl rfl (Dq (by omega)) hb) (Ag Ab rfl (Ae (Aw (AA (Cc ?_)))))))))
 exact Ar (.tmp rfl) (fun w h => ⟨rfl, Aq h.up⟩) rfl
 refine Af (Ag Ab rfl (Ac rfl (.bool false) (fun b w hb hH => AI rfl rfl rfl (Dq (by omega)) hb) (Ag Ab rfl (Ae (Az rfl (Af (Ag Ab rfl (Ac rfl (.bool true) (fun b w hb hH => AI rfl rfl rfl (DK hk) hb) (Ag Ab rfl (Ae (AC rfl ?_)))))))))))
 have hd : x.e.d.length < 1 ∨ 128 < x.e.d.length ∨ (1 ≤ x.e.d.length ∧ x.e.d.length ≤ 128) := by omega
 rcases hd with hd | hd | ⟨hd, hd2⟩
 have hd0 : ¬ 1 ≤ x.e.d.length := by omega
 obtain rfl : r = false := by rw [← hR, ← hv3]; simp [Ce, hk, hd0]
 refine Af (Ag Ab rfl (Ac rfl (x.v) (fun b w hb hH => AD rfl rfl (AL Cr rfl) (hH.row 0 rfl) hb) (Ac rfl (.int .i64 (x.e.d.length : Int)) (fun b w hb hH => A8 ((Ca hv hH).rd) Try.underlying30 rfl rfl hb) (Ac rfl (.bool false) (fun b w hb hH => AI rfl rfl rfl (CP (by omega)) hb) (Ag Ab rfl (Ae (Aw (AA (Cc ?_)))))))))
 exact Ar (.tmp rfl) (fun w h => ⟨rfl, Aq h.up⟩) rfl
 have hd0 : ¬ x.e.d.length ≤ 128 := by omega
 obtain rfl : r = false := by rw [← hR, ← hv3]; simp [Ce, hk, hd0]
 refine Af (Ag Ab rfl (Ac rfl (x.v) (fun b w hb hH => AD rfl rfl (AL Cr rfl) (hH.row 0 rfl) hb) (Ac rfl (.int .i64 (x.e.d.length : Int)) (fun b w hb hH => A8 ((Ca hv hH).rd) Try.underlying30 rfl rfl hb) (Ac rfl (.bool true) (fun b w hb hH => AI rfl rfl rfl (Bq (by omega)) hb) (Ag Ab rfl (Ac rfl (x.v) (fun b w hb hH => AD rfl rfl (AL Cr rfl) (hH.row 0 rfl) hb) (Ac rfl (.int .i64 (x.e.d.length : Int)) (fun b w hb hH => A8 ((Ca hv hH).rd) Try.underlying30 rfl rfl hb) (Ac rfl (.bool false) (fun b w hb hH => AI rfl rfl rfl (Bp (by omega)) hb) (Ag Ab rfl ?_)))))))))
 refine Ae (Aw (AA (Cc ?_)))
 exact Ar (.tmp rfl) (fun w h => ⟨rfl, Aq h.up⟩) rfl
 by_cases hc : x.e.c = 0
 obtain rfl : r = true := by rw [← hR, ← hv3]; simp [Ce, hk, hc, hd, hd2]
 refine Af (Ag Ab rfl (Ac rfl (x.v) (fun b w hb hH => AD rfl rfl (AL Cr rfl) (hH.row 0 rfl) hb) (Ac rfl (.int .i64 (x.e.d.length : Int)) (fun b w hb hH => A8 ((Ca hv hH).rd) Try.underlying30 rfl rfl hb) (Ac rfl (.bool true) (fun b w hb hH => AI rfl rfl rfl (Bq (by omega)) hb) (Ag Ab rfl (Ac rfl (x.v) (fun b w hb hH => AD rfl rfl (AL Cr rfl) (hH.row 0 rfl) hb) (Ac rfl (.int .i64 (x.e.d.length : Int)) (fun b w hb hH => A8 ((Ca hv hH).rd) Try.underlying30 rfl rfl hb) (Ac rfl (.bool true) (fun b w hb hH => AI rfl rfl rfl (Bu (by omega)) hb) (Ag Ab rfl ?_)))))))))
 refine Ac rfl (.int .i64 x.e.c) (fun b w hb hH => AD rfl rfl (AL AB rfl) (hH.row 0 rfl) hb) (Ac rfl (.bool true) (fun b w hb hH => AI rfl rfl rfl (DK hc) hb) (Ag Ab rfl (Ae (Aw (AA (Cc ?_))))))
 exact Ar (.tmp rfl) (fun w h => ⟨rfl, Aq h.up⟩) rfl
 obtain rfl : r = false := by rw [← hR, ← hv3]; simp [Ce, hk, hc]
 refine Af (Ag Ab rfl (Ac rfl (x.v) (fun b w hb hH => AD rfl rfl (AL Cr rfl) (hH.row 0 rfl) hb) (Ac rfl (.int .i64 (x.e.d.length : Int)) (fun b w hb hH => A8 ((Ca hv hH).rd) Try.underlying30 rfl rfl hb) (Ac rfl (.bool true) (fun b w hb hH => AI rfl rfl rfl (Bq (by omega)) hb) (Ag Ab rfl (Ac rfl (x.v) (fun b w hb hH => AD rfl rfl (AL Cr rfl) (hH.row 0 rfl) hb) (Ac rfl (.int .i64 (x.e.d.length : Int)) (fun b w hb hH => A8 ((Ca hv hH).rd) Try.underlying30 rfl rfl hb) (Ac rfl (.bool true) (fun b w hb hH => AI rfl rfl rfl (Bu (by omega)) hb) (Ag Ab rfl ?_)))))))))
 refine Ac rfl (.int .i64 x.e.c) (fun b w hb hH => AD rfl rfl (AL AB rfl) (hH.row 0 rfl) hb) (Ac rfl (.bool false) (fun b w hb hH => AI rfl rfl rfl (Dq hc) hb) (Ag Ab rfl (Ae (Aw (AA (Cc ?_))))))
 exact Ar (.tmp rfl) (fun w h => ⟨rfl, Aq h.up⟩) rfl
 refine Af (Ag Ab rfl (Ac rfl (.bool false) (fun b w hb hH => AI rfl rfl rfl (Dq (by omega)) hb) (Ag Ab rfl (Ae (Az rfl (Af (Ag Ab rfl (Ac rfl (.bool false) (fun b w hb hH => AI rfl rfl rfl (Dq (by omega)) hb) (Ag Ab rfl (Ae (Az rfl (Af (Ag Ab rfl ?_)))))))))))))
 refine Ac rfl (.bool true) (fun b w hb hH => AI rfl rfl rfl (DK hk) hb) (Ag Ab rfl (Ae (AC rfl ?_)))
 by_cases hd : x.e.d.length = 0
 rcases Bool.eq_false_or_eq_true (GB x.e.c) with hs | hs
 have hs2 := hs
 unfold GB at hs2
 simp only [Bool.and_eq_true, bne_iff_ne, ne_eq] at hs2
 obtain rfl : r = true := by rw [← hR, ← hv3]; simp [Ce, hk, hs2.1, hs2.2, List.eq_nil_of_length_eq_zero hd]
 refine Af (Ag Ab rfl (Ac rfl (x.v) (fun b w hb hH => AD rfl rfl (AL Cr rfl) (hH.row 0 rfl) hb) (Ac rfl (.int .i64 (x.e.d.length : Int)) (fun b w hb hH => A8 ((Ca hv hH).rd) Try.underlying30 rfl rfl hb) (Ac rfl (.bool true) (fun b w hb hH => AI rfl rfl rfl (DK (by omega)) hb) (Ag Ab rfl (Ac rfl (.int .i64 x.e.c) (fun b w hb hH => AD rfl rfl (AL AB rfl) (hH.row 0 rfl) hb) (Al (post := fun _ => [cell gx 32 #[.int .i64 x.e.k, .int .u64 x.e.t, .int .u64 x.e.i, x.v, .int .i64 x.e.c]]) rfl (AH (Aj Try.func71 (by kernel_rfl) rfl) (fun w hH => HY w x.e.c true hs) rfl rfl rfl) ?_))))))); rintro ⟨⟩
 refine Ag Ab rfl (Ae (Aw (AA (Cc ?_))))
 exact Ar (.tmp rfl) (fun w h => ⟨rfl, Aq h.up⟩) rfl
 have hs2 : (CX x.e.c && x.e.c != 0) = false := hs
 obtain rfl : r = false := by rw [← hR, ← hv3]; simp only [Ce, hk, Bool.and_assoc, hs2]; simp
 refine Af (Ag Ab rfl (Ac rfl (x.v) (fun b w hb hH => AD rfl rfl (AL Cr rfl) (hH.row 0 rfl) hb) (Ac rfl (.int .i64 (x.e.d.length : Int)) (fun b w hb hH => A8 ((Ca hv hH).rd) Try.underlying30 rfl rfl hb) (Ac rfl (.bool true) (fun b w hb hH => AI rfl rfl rfl (DK (by omega)) hb) (Ag Ab rfl (Ac rfl (.int .i64 x.e.c) (fun b w hb hH => AD rfl rfl (AL AB rfl) (hH.row 0 rfl) hb) (Al (post := fun _ => [cell gx 32 #[.int .i64 x.e.k, .int .u64 x.e.t, .int .u64 x.e.i, x.v, .int .i64 x.e.c]]) rfl (AH (Aj Try.func71 (by kernel_rfl) rfl) (fun w hH => HY w x.e.c false hs) rfl rfl rfl) ?_))))))); rintro ⟨⟩
 refine Ag Ab rfl (Ae (Aw (AA (Cc ?_))))
 exact Ar (.tmp rfl) (fun w h => ⟨rfl, Aq h.up⟩) rfl
 have hd0 : (x.e.d == []) = false := by cases hx : x.e.d with | nil => rw [hx] at hd; exact absurd rfl hd | cons => rfl
 obtain rfl : r = false := by rw [← hR, ← hv3]; simp [Ce, hk, hd0]
 refine Af (Ag Ab rfl (Ac rfl (x.v) (fun b w hb hH => AD rfl rfl (AL Cr rfl) (hH.row 0 rfl) hb) (Ac rfl (.int .i64 (x.e.d.length : Int)) (fun b w hb hH => A8 ((Ca hv hH).rd) Try.underlying30 rfl rfl hb) (Ac rfl (.bool false) (fun b w hb hH => AI rfl rfl rfl (Dq (by omega)) hb) (Ag Ab rfl (Ae (Aw (AA (Cc ?_)))))))))
 exact Ar (.tmp rfl) (fun w h => ⟨rfl, Aq h.up⟩) rfl
 obtain rfl : r = false := by rw [← hR, ← hv3]; simp [Ce, hk]
 refine Af (Ag Ab rfl (Ac rfl (.bool false) (fun b w hb hH => AI rfl rfl rfl (Dq hk.1) hb) (Ag Ab rfl (Ae (Az rfl (Af (Ag Ab rfl (Ac rfl (.bool false) (fun b w hb hH => AI rfl rfl rfl (Dq hk.2.1) hb) (Ag Ab rfl (Ae (Az rfl (Af (Ag Ab rfl ?_)))))))))))))
 refine Ac rfl (.bool false) (fun b w hb hH => AI rfl rfl rfl (Dq hk.2.2) hb) (Ag Ab rfl (Ae (Az rfl (AK (AU (AJ (Af (Ag Ab rfl (Ae (Aw ?_))))))))))
 exact Ar (.tmp rfl) (fun w h => ⟨rfl, Aq h.up⟩) rfl
theorem EL (w : World) (x : EntV) (hv : Ft w x.v x.e.d) (r : Bool) (hr : BV x.e = r) : Calls Try.prog 67 #[.agg #[.int .i64 x.e.k, .int .u64 x.e.t, .int .u64 x.e.i, x.v, .int .i64 x.e.c]] w fun e w' => e = .returned (.bool r) ∧ Below w.heap.size w w' := by
 obtain ⟨v1, hv1⟩ : ∃ v1, BX x.e.t = v1 := ⟨_, rfl⟩
 obtain ⟨v2, hv2⟩ : ∃ v2, BX x.e.i = v2 := ⟨_, rfl⟩
 obtain ⟨v3, hv3⟩ : ∃ v3, Ce x.e = v3 := ⟨_, rfl⟩
 have hR : (v1 && (v2 && v3)) = r := by rw [← hr]; unfold BV; rw [hv1, hv2, hv3]
 refine Fw (args := [.agg #[.int .i64 x.e.k, .int .u64 x.e.t, .int .u64 x.e.i, x.v, .int .i64 x.e.c]]) 59 Try.func67 rfl rfl rfl (Af (Ag Ab rfl (Al (post := fun gx => [cell gx 32 #[.int .i64 x.e.k, .int .u64 x.e.t, .int .u64 x.e.i, x.v, .int .i64 x.e.c]]) rfl (Co (cs := #[.int .i64 x.e.k, .int .u64 x.e.t, .int .u64 x.e.i, x.v, .int .i64 x.e.c]) rfl rfl rfl) ?_))); rintro gx
 refine Ag Ab rfl (Ae (Ax ?_))
 cases v1
 obtain rfl : r = false := by rw [← hR]; rfl
 refine Af (Ag Ab rfl (Ac rfl (.int .u64 x.e.t) (fun b w hb hH => AD rfl rfl (AL Ai rfl) (hH.row 0 rfl) hb) (Al (post := fun _ => [cell gx 32 #[.int .i64 x.e.k, .int .u64 x.e.t, .int .u64 x.e.i, x.v, .int .i64 x.e.c]]) rfl (AH (Aj Try.func74 (by kernel_rfl) rfl) (fun w hH => Bz w true x.e.t false (by simpa [Ey] using hv1)) rfl rfl rfl) ?_))); rintro ⟨⟩
 refine Ag Ab rfl (Ae (AC rfl (Af (Ag Ab rfl (Ae (Aw (Cc ?_)))))))
 exact Ar (.tmp rfl) (fun w h => ⟨rfl, Aq h.up⟩) rfl
 cases v2
 obtain rfl : r = false := by rw [← hR]; rfl
 refine Af (Ag Ab rfl (Ac rfl (.int .u64 x.e.t) (fun b w hb hH => AD rfl rfl (AL Ai rfl) (hH.row 0 rfl) hb) (Al (post := fun _ => [cell gx 32 #[.int .i64 x.e.k, .int .u64 x.e.t, .int .u64 x.e.i, x.v, .int .i64 x.e.c]]) rfl (AH (Aj Try.func74 (by kernel_rfl) rfl) (fun w hH => Bz w true x.e.t true (by simpa [Ey] using hv1)) rfl rfl rfl) ?_))); rintro ⟨⟩
 refine Ag Ab rfl (Ac rfl (.int .u64 x.e.i) (fun b w hb hH => AD rfl rfl (AL Ai rfl) (hH.row 0 rfl) hb) (Al (post := fun _ => [cell gx 32 #[.int .i64 x.e.k, .int .u64 x.e.t, .int .u64 x.e.i, x.v, .int .i64 x.e.c]]) rfl (AH (Aj Try.func74 (by kernel_rfl) rfl) (fun w hH => Bz w true x.e.i false (by simpa [Ey] using hv2)) rfl rfl rfl) ?_)); rintro ⟨⟩
 refine Ag Ab rfl (Ae (AC rfl (Af (Ag Ab rfl (Ae (Aw (Cc ?_)))))))
 exact Ar (.tmp rfl) (fun w h => ⟨rfl, Aq h.up⟩) rfl
 refine Af (Ag Ab rfl (Ac rfl (.int .u64 x.e.t) (fun b w hb hH => AD rfl rfl (AL Ai rfl) (hH.row 0 rfl) hb) (Al (post := fun _ => [cell gx 32 #[.int .i64 x.e.k, .int .u64 x.e.t, .int .u64 x.e.i, x.v, .int .i64 x.e.c]]) rfl (AH (Aj Try.func74 (by kernel_rfl) rfl) (fun w hH => Bz w true x.e.t true (by simpa [Ey] using hv1)) rfl rfl rfl) ?_))); rintro ⟨⟩
 refine Ag Ab rfl (Ac rfl (.int .u64 x.e.i) (fun b w hb hH => AD rfl rfl (AL Ai rfl) (hH.row 0 rfl) hb) (Al (post := fun _ => [cell gx 32 #[.int .i64 x.e.k, .int .u64 x.e.t, .int .u64 x.e.i, x.v, .int .i64 x.e.c]]) rfl (AH (Aj Try.func74 (by kernel_rfl) rfl) (fun w hH => Bz w true x.e.i true (by simpa [Ey] using hv2)) rfl rfl rfl) ?_)); rintro ⟨⟩
 refine Ag Ab rfl (Ae (Az rfl (AK (AJ (Ax (Af (Ag Ab rfl (Ac rfl (.int .i64 x.e.k) (fun b w hb hH => AD rfl rfl (AL AB rfl) (hH.row 0 rfl) hb) (Ae (AN ?_))))))))))
 have hk : x.e.k = 0 ∨ x.e.k = 1 ∨ x.e.k = 2 ∨ (x.e.k ≠ 0 ∧ x.e.k ≠ 1 ∧ x.e.k ≠ 2) := by omega
 rcases hk with hk | hk | hk | hk
 refine Af (Ag Ab rfl (Ac rfl (.bool true) (fun b w hb hH => AI rfl rfl rfl (DK hk) hb) (Ag Ab rfl (Ae (AC rfl ?_)))))
 by_cases hd : x.e.d.length = 0
 by_cases hc : x.e.c = 0
 obtain rfl : r = true := by rw [← hR, ← hv3]; simp [Ce, hk, hc, List.eq_nil_of_length_eq_zero hd]
 refine Af (Ag Ab rfl (Ac rfl (x.v) (fun b w hb hH => AD rfl rfl (AL Cr rfl) (hH.row 0 rfl) hb) (Ac rfl (.int .i64 (x.e.d.length : Int)) (fun b w hb hH => A8 ((Ca hv hH).rd) Try.underlying30 rfl rfl hb) (Ac rfl (.bool true) (fun b w hb hH => AI rfl rfl rfl (DK (by omega)) hb) (Ag Ab rfl (Ac rfl (.int .i64 x.e.c) (fun b w hb hH => AD rfl rfl (AL AB rfl) (hH.row 0 rfl) hb) (Ac rfl (.bool true) (fun b w hb hH => AI rfl rfl rfl (DK hc) hb) (Ag Ab rfl (Ae (Aw (AA (Cc ?_))))))))))))
 exact Ar (.tmp rfl) (fun w h => ⟨rfl, Aq h.up⟩) rfl
 obtain rfl : r = false := by rw [← hR, ← hv3]; simp [Ce, hk, hc]
 refine Af (Ag Ab rfl (Ac rfl (x.v) (fun b w hb hH => AD rfl rfl (AL Cr rfl) (hH.row 0 rfl) hb) (Ac rfl (.int .i64 (x.e.d.length : Int)) (fun b w hb hH => A8 ((Ca hv hH).rd) Try.underlying30 rfl rfl hb) (Ac rfl (.bool true) (fun b w hb hH => AI rfl rfl rfl (DK (by omega)) hb) (Ag Ab rfl (Ac rfl (.int .i64 x.e.c) (fun b w hb hH => AD rfl rfl (AL AB rfl) (hH.row 0 rfl) hb) (Ac rfl (.bool false) (fun b w hb hH => AI rfl rfl rfl (Dq hc) hb) (Ag Ab rfl (Ae (Aw (AA (Cc ?_))))))))))))
 exact Ar (.tmp rfl) (fun w h => ⟨rfl, Aq h.up⟩) rfl
 have hd0 : (x.e.d == []) = false := by cases hx : x.e.d with | nil => rw [hx] at hd; exact absurd rfl hd | cons => rfl
 obtain rfl : r = false := by rw [← hR, ← hv3]; simp [Ce, hk, hd0]
 refine Af (Ag Ab rfl (Ac rfl (x.v) (fun b w hb hH => AD rfl rfl (AL Cr rfl) (hH.row 0 rfl) hb) (Ac rfl (.int .i64 (x.e.d.length : Int)) (fun b w hb hH => A8 ((Ca hv hH).rd) Try.underlying30 rfl rfl hb) (Ac rfl (.bool false) (fun b w hb hH => AI rfl rfl rfl (Dq (by omega)) hb) (Ag Ab rfl (Ae (Aw (AA (Cc ?_)))))))))
 exact Ar (.tmp rfl) (fun w h => ⟨rfl, Aq h.up⟩) rfl
 refine Af (Ag Ab rfl (Ac rfl (.bool false) (fun b w hb hH => AI rfl rfl rfl (Dq (by omega)) hb) (Ag Ab rfl (Ae (Az rfl (Af (Ag Ab rfl (Ac rfl (.bool true) (fun b w hb hH => AI rfl rfl rfl (DK hk) hb) (Ag Ab rfl (Ae (AC rfl ?_)))))))))))
 have hd : x.e.d.length < 1 ∨ 128 < x.e.d.length ∨ (1 ≤ x.e.d.length ∧ x.e.d.length ≤ 128) := by omega
 rcases hd with hd | hd | ⟨hd, hd2⟩
 have hd0 : ¬ 1 ≤ x.e.d.length := by omega
 obtain rfl : r = false := by rw [← hR, ← hv3]; simp [Ce, hk, hd0]
 refine Af (Ag Ab rfl (Ac rfl (x.v) (fun b w hb hH => AD rfl rfl (AL Cr rfl) (hH.row 0 rfl) hb) (Ac rfl (.int .i64 (x.e.d.length : Int)) (fun b w hb hH => A8 ((Ca hv hH).rd) Try.underlying30 rfl rfl hb) (Ac rfl (.bool false) (fun b w hb hH => AI rfl rfl rfl (CP (by omega)) hb) (Ag Ab rfl (Ae (Aw (AA (Cc ?_)))))))))
 exact Ar (.tmp rfl) (fun w h => ⟨rfl, Aq h.up⟩) rfl
 have hd0 : ¬ x.e.d.length ≤ 128 := by omega
 obtain rfl : r = false := by rw [← hR, ← hv3]; simp [Ce, hk, hd0]
 refine Af (Ag Ab rfl (Ac rfl (x.v) (fun b w hb hH => AD rfl rfl (AL Cr rfl) (hH.row 0 rfl) hb) (Ac rfl (.int .i64 (x.e.d.length : Int)) (fun b w hb hH => A8 ((Ca hv hH).rd) Try.underlying30 rfl rfl hb) (Ac rfl (.bool true) (fun b w hb hH => AI rfl rfl rfl (Bq (by omega)) hb) (Ag Ab rfl (Ac rfl (x.v) (fun b w hb hH => AD rfl rfl (AL Cr rfl) (hH.row 0 rfl) hb) (Ac rfl (.int .i64 (x.e.d.length : Int)) (fun b w hb hH => A8 ((Ca hv hH).rd) Try.underlying30 rfl rfl hb) (Ac rfl (.bool false) (fun b w hb hH => AI rfl rfl rfl (Bp (by omega)) hb) (Ag Ab rfl ?_)))))))))
 refine Ae (Aw (AA (Cc ?_)))
 exact Ar (.tmp rfl) (fun w h => ⟨rfl, Aq h.up⟩) rfl
 by_cases hc : x.e.c = 0
 obtain rfl : r = true := by rw [← hR, ← hv3]; simp [Ce, hk, hc, hd, hd2]
 refine Af (Ag Ab rfl (Ac rfl (x.v) (fun b w hb hH => AD rfl rfl (AL Cr rfl) (hH.row 0 rfl) hb) (Ac rfl (.int .i64 (x.e.d.length : Int)) (fun b w hb hH => A8 ((Ca hv hH).rd) Try.underlying30 rfl rfl hb) (Ac rfl (.bool true) (fun b w hb hH => AI rfl rfl rfl (Bq (by omega)) hb) (Ag Ab rfl (Ac rfl (x.v) (fun b w hb hH => AD rfl rfl (AL Cr rfl) (hH.row 0 rfl) hb) (Ac rfl (.int .i64 (x.e.d.length : Int)) (fun b w hb hH => A8 ((Ca hv hH).rd) Try.underlying30 rfl rfl hb) (Ac rfl (.bool true) (fun b w hb hH => AI rfl rfl rfl (Bu (by omega)) hb) (Ag Ab rfl ?_)))))))))
 refine Ac rfl (.int .i64 x.e.c) (fun b w hb hH => AD rfl rfl (AL AB rfl) (hH.row 0 rfl) hb) (Ac rfl (.bool true) (fun b w hb hH => AI rfl rfl rfl (DK hc) hb) (Ag Ab rfl (Ae (Aw (AA (Cc ?_))))))
 exact Ar (.tmp rfl) (fun w h => ⟨rfl, Aq h.up⟩) rfl
 obtain rfl : r = false := by rw [← hR, ← hv3]; simp [Ce, hk, hc]
 refine Af (Ag Ab rfl (Ac rfl (x.v) (fun b w hb hH => AD rfl rfl (AL Cr rfl) (hH.row 0 rfl) hb) (Ac rfl (.int .i64 (x.e.d.length : Int)) (fun b w hb hH => A8 ((Ca hv hH).rd) Try.underlying30 rfl rfl hb) (Ac rfl (.bool true) (fun b w hb hH => AI rfl rfl rfl (Bq (by omega)) hb) (Ag Ab rfl (Ac rfl (x.v) (fun b w hb hH => AD rfl rfl (AL Cr rfl) (hH.row 0 rfl) hb) (Ac rfl (.int .i64 (x.e.d.length : Int)) (fun b w hb hH => A8 ((Ca hv hH).rd) Try.underlying30 rfl rfl hb) (Ac rfl (.bool true) (fun b w hb hH => AI rfl rfl rfl (Bu (by omega)) hb) (Ag Ab rfl ?_)))))))))
 refine Ac rfl (.int .i64 x.e.c) (fun b w hb hH => AD rfl rfl (AL AB rfl) (hH.row 0 rfl) hb) (Ac rfl (.bool false) (fun b w hb hH => AI rfl rfl rfl (Dq hc) hb) (Ag Ab rfl (Ae (Aw (AA (Cc ?_))))))
 exact Ar (.tmp rfl) (fun w h => ⟨rfl, Aq h.up⟩) rfl
 refine Af (Ag Ab rfl (Ac rfl (.bool false) (fun b w hb hH => AI rfl rfl rfl (Dq (by omega)) hb) (Ag Ab rfl (Ae (Az rfl (Af (Ag Ab rfl (Ac rfl (.bool false) (fun b w hb hH => AI rfl rfl rfl (Dq (by omega)) hb) (Ag Ab rfl (Ae (Az rfl (Af (Ag Ab rfl ?_)))))))))))))
 refine Ac rfl (.bool true) (fun b w hb hH => AI rfl rfl rfl (DK hk) hb) (Ag Ab rfl (Ae (AC rfl ?_)))
 by_cases hd : x.e.d.length = 0
 have hs : CX x.e.c = false ∨ (CX x.e.c = true ∧ x.e.c = 0) ∨ (CX x.e.c = true ∧ x.e.c ≠ 0) := by cases CX x.e.c <;> simp; omega
 rcases hs with hs | ⟨hs, hc⟩ | ⟨hs, hc⟩
 obtain rfl : r = false := by rw [← hR, ← hv3]; simp [Ce, hk, hs]
 refine Af (Ag Ab rfl (Ac rfl (x.v) (fun b w hb hH => AD rfl rfl (AL Cr rfl) (hH.row 0 rfl) hb) (Ac rfl (.int .i64 (x.e.d.length : Int)) (fun b w hb hH => A8 ((Ca hv hH).rd) Try.underlying30 rfl rfl hb) (Ac rfl (.bool true) (fun b w hb hH => AI rfl rfl rfl (DK (by omega)) hb) (Ag Ab rfl (Ac rfl (.int .i64 x.e.c) (fun b w hb hH => AD rfl rfl (AL AB rfl) (hH.row 0 rfl) hb) (Al (post := fun _ => [cell gx 32 #[.int .i64 x.e.k, .int .u64 x.e.t, .int .u64 x.e.i, x.v, .int .i64 x.e.c]]) rfl (AH (Aj Try.func75 (by kernel_rfl) rfl) (fun w hH => E0 w x.e.c false hs) rfl rfl rfl) ?_))))))); rintro ⟨⟩
 refine Ag Ab rfl (Ae (Aw (AA (Cc ?_))))
 exact Ar (.tmp rfl) (fun w h => ⟨rfl, Aq h.up⟩) rfl
 obtain rfl : r = false := by rw [← hR, ← hv3]; simp [Ce, hk, hs, hc]
 refine Af (Ag Ab rfl (Ac rfl (x.v) (fun b w hb hH => AD rfl rfl (AL Cr rfl) (hH.row 0 rfl) hb) (Ac rfl (.int .i64 (x.e.d.length : Int)) (fun b w hb hH => A8 ((Ca hv hH).rd) Try.underlying30 rfl rfl hb) (Ac rfl (.bool true) (fun b w hb hH => AI rfl rfl rfl (DK (by omega)) hb) (Ag Ab rfl (Ac rfl (.int .i64 x.e.c) (fun b w hb hH => AD rfl rfl (AL AB rfl) (hH.row 0 rfl) hb) (Al (post := fun _ => [cell gx 32 #[.int .i64 x.e.k, .int .u64 x.e.t, .int .u64 x.e.i, x.v, .int .i64 x.e.c]]) rfl (AH (Aj Try.func75 (by kernel_rfl) rfl) (fun w hH => E0 w x.e.c true hs) rfl rfl rfl) ?_))))))); rintro ⟨⟩
 refine Ag Ab rfl (Ac rfl (.int .i64 x.e.c) (fun b w hb hH => AD rfl rfl (AL AB rfl) (hH.row 0 rfl) hb) (Ac rfl (.bool false) (fun b w hb hH => AI rfl rfl rfl (BB hc) hb) (Ag Ab rfl (Ae (Aw (AA (Cc ?_)))))))
 exact Ar (.tmp rfl) (fun w h => ⟨rfl, Aq h.up⟩) rfl
 obtain rfl : r = true := by rw [← hR, ← hv3]; simp [Ce, hk, hs, hc, List.eq_nil_of_length_eq_zero hd]
 refine Af (Ag Ab rfl (Ac rfl (x.v) (fun b w hb hH => AD rfl rfl (AL Cr rfl) (hH.row 0 rfl) hb) (Ac rfl (.int .i64 (x.e.d.length : Int)) (fun b w hb hH => A8 ((Ca hv hH).rd) Try.underlying30 rfl rfl hb) (Ac rfl (.bool true) (fun b w hb hH => AI rfl rfl rfl (DK (by omega)) hb) (Ag Ab rfl (Ac rfl (.int .i64 x.e.c) (fun b w hb hH => AD rfl rfl (AL AB rfl) (hH.row 0 rfl) hb) (Al (post := fun _ => [cell gx 32 #[.int .i64 x.e.k, .int .u64 x.e.t, .int .u64 x.e.i, x.v, .int .i64 x.e.c]]) rfl (AH (Aj Try.func75 (by kernel_rfl) rfl) (fun w hH => E0 w x.e.c true hs) rfl rfl rfl) ?_))))))); rintro ⟨⟩
 refine Ag Ab rfl (Ac rfl (.int .i64 x.e.c) (fun b w hb hH => AD rfl rfl (AL AB rfl) (hH.row 0 rfl) hb) (Ac rfl (.bool true) (fun b w hb hH => AI rfl rfl rfl (DE hc) hb) (Ag Ab rfl (Ae (Aw (AA (Cc ?_)))))))
 exact Ar (.tmp rfl) (fun w h => ⟨rfl, Aq h.up⟩) rfl
 have hd0 : (x.e.d == []) = false := by cases hx : x.e.d with | nil => rw [hx] at hd; exact absurd rfl hd | cons => rfl
 obtain rfl : r = false := by rw [← hR, ← hv3]; simp [Ce, hk, hd0]
 refine Af (Ag Ab rfl (Ac rfl (x.v) (fun b w hb hH => AD rfl rfl (AL Cr rfl) (hH.row 0 rfl) hb) (Ac rfl (.int .i64 (x.e.d.length : Int)) (fun b w hb hH => A8 ((Ca hv hH).rd) Try.underlying30 rfl rfl hb) (Ac rfl (.bool false) (fun b w hb hH => AI rfl rfl rfl (Dq (by omega)) hb) (Ag Ab rfl (Ae (Aw (AA (Cc ?_)))))))))
 exact Ar (.tmp rfl) (fun w h => ⟨rfl, Aq h.up⟩) rfl
 obtain rfl : r = false := by rw [← hR, ← hv3]; simp [Ce, hk]
 refine Af (Ag Ab rfl (Ac rfl (.bool false) (fun b w hb hH => AI rfl rfl rfl (Dq hk.1) hb) (Ag Ab rfl (Ae (Az rfl (Af (Ag Ab rfl (Ac rfl (.bool false) (fun b w hb hH => AI rfl rfl rfl (Dq hk.2.1) hb) (Ag Ab rfl (Ae (Az rfl (Af (Ag Ab rfl ?_)))))))))))))
 refine Ac rfl (.bool false) (fun b w hb hH => AI rfl rfl rfl (Dq hk.2.2) hb) (Ag Ab rfl (Ae (Az rfl (AK (AU (AJ (Af (Ag Ab rfl (Ae (Aw ?_))))))))))
 exact Ar (.tmp rfl) (fun w h => ⟨rfl, Aq h.up⟩) rfl
theorem Gu (w : World) (b0 b1 b2 : Int) (r : Bool) (hr : (BX b0 && BX b1 && CX b2 && b2 != 0) = r) : Calls Try.prog 66 #[.agg #[.int .u64 b0, .int .u64 b1, .int .i64 b2]] w fun e w' => e = .returned (.bool r) ∧ Below w.heap.size w w' := by
 obtain ⟨v1, hv1⟩ : ∃ v1, BX b0 = v1 := ⟨_, rfl⟩
 obtain ⟨v2, hv2⟩ : ∃ v2, BX b1 = v2 := ⟨_, rfl⟩
 obtain ⟨v3, hv3⟩ : ∃ v3, GB b2 = v3 := ⟨_, rfl⟩
 obtain ⟨v4, hv4⟩ : ∃ v4, CX b2 = v4 := ⟨_, rfl⟩
 have hR : (v1 && v2 && v3) = r := by rw [← hr, ← hv1, ← hv2, ← hv3]; unfold GB; simp only [Bool.and_assoc]
 refine Fw (args := [.agg #[.int .u64 b0, .int .u64 b1, .int .i64 b2]]) 21 Try.func66 rfl rfl rfl (Af (Ag Ab rfl (Al (post := fun gb => [cell gb 28 #[.int .u64 b0, .int .u64 b1, .int .i64 b2]]) rfl (Co (cs := #[.int .u64 b0, .int .u64 b1, .int .i64 b2]) rfl rfl rfl) ?_))); rintro gb
 refine Ag Ab rfl (Ae ?_)
 cases v1
 obtain rfl : r = false := by rw [← hR]; rfl
 refine Af (Ag Ab rfl (Ac rfl (.int .u64 b0) (fun b w hb hH => AD rfl rfl (AL Ai rfl) (hH.row 0 rfl) hb) (Al (post := fun _ => [cell gb 28 #[.int .u64 b0, .int .u64 b1, .int .i64 b2]]) rfl (AH (Aj Try.func74 (by kernel_rfl) rfl) (fun w hH => Bz w true b0 false (by simpa [Ey] using hv1)) rfl rfl rfl) ?_))); rintro ⟨⟩
 refine Ag Ab rfl (Ae (Aw ?_))
 exact Ar (.tmp rfl) (fun w h => ⟨rfl, Aq h.up⟩) rfl
 cases v2
 obtain rfl : r = false := by rw [← hR]; rfl
 refine Af (Ag Ab rfl (Ac rfl (.int .u64 b0) (fun b w hb hH => AD rfl rfl (AL Ai rfl) (hH.row 0 rfl) hb) (Al (post := fun _ => [cell gb 28 #[.int .u64 b0, .int .u64 b1, .int .i64 b2]]) rfl (AH (Aj Try.func74 (by kernel_rfl) rfl) (fun w hH => Bz w true b0 true (by simpa [Ey] using hv1)) rfl rfl rfl) ?_))); rintro ⟨⟩
 refine Ag Ab rfl (Ac rfl (.int .u64 b1) (fun b w hb hH => AD rfl rfl (AL Ai rfl) (hH.row 0 rfl) hb) (Al (post := fun _ => [cell gb 28 #[.int .u64 b0, .int .u64 b1, .int .i64 b2]]) rfl (AH (Aj Try.func74 (by kernel_rfl) rfl) (fun w hH => Bz w true b1 false (by simpa [Ey] using hv2)) rfl rfl rfl) ?_)); rintro ⟨⟩
 refine Ag Ab rfl (Ae (Aw ?_))
 exact Ar (.tmp rfl) (fun w h => ⟨rfl, Aq h.up⟩) rfl
 cases v4
 obtain rfl : r = false := by rw [← hR, ← hv3]; simp [GB, hv4]
 refine Af (Ag Ab rfl (Ac rfl (.int .u64 b0) (fun b w hb hH => AD rfl rfl (AL Ai rfl) (hH.row 0 rfl) hb) (Al (post := fun _ => [cell gb 28 #[.int .u64 b0, .int .u64 b1, .int .i64 b2]]) rfl (AH (Aj Try.func74 (by kernel_rfl) rfl) (fun w hH => Bz w true b0 true (by simpa [Ey] using hv1)) rfl rfl rfl) ?_))); rintro ⟨⟩
 refine Ag Ab rfl (Ac rfl (.int .u64 b1) (fun b w hb hH => AD rfl rfl (AL Ai rfl) (hH.row 0 rfl) hb) (Al (post := fun _ => [cell gb 28 #[.int .u64 b0, .int .u64 b1, .int .i64 b2]]) rfl (AH (Aj Try.func74 (by kernel_rfl) rfl) (fun w hH => Bz w true b1 true (by simpa [Ey] using hv2)) rfl rfl rfl) ?_)); rintro ⟨⟩
 refine Ag Ab rfl (Ac rfl (.int .i64 b2) (fun b w hb hH => AD rfl rfl (AL AB rfl) (hH.row 0 rfl) hb) (Al (post := fun _ => [cell gb 28 #[.int .u64 b0, .int .u64 b1, .int .i64 b2]]) rfl (AH (Aj Try.func75 (by kernel_rfl) rfl) (fun w hH => E0 w b2 false hv4) rfl rfl rfl) ?_)); rintro ⟨⟩
 refine Ag Ab rfl (Ae (Aw ?_))
 exact Ar (.tmp rfl) (fun w h => ⟨rfl, Aq h.up⟩) rfl
 by_cases hc : b2 = 0
 obtain rfl : r = false := by rw [← hR, ← hv3]; simp [GB, hc]
 refine Af (Ag Ab rfl (Ac rfl (.int .u64 b0) (fun b w hb hH => AD rfl rfl (AL Ai rfl) (hH.row 0 rfl) hb) (Al (post := fun _ => [cell gb 28 #[.int .u64 b0, .int .u64 b1, .int .i64 b2]]) rfl (AH (Aj Try.func74 (by kernel_rfl) rfl) (fun w hH => Bz w true b0 true (by simpa [Ey] using hv1)) rfl rfl rfl) ?_))); rintro ⟨⟩
 refine Ag Ab rfl (Ac rfl (.int .u64 b1) (fun b w hb hH => AD rfl rfl (AL Ai rfl) (hH.row 0 rfl) hb) (Al (post := fun _ => [cell gb 28 #[.int .u64 b0, .int .u64 b1, .int .i64 b2]]) rfl (AH (Aj Try.func74 (by kernel_rfl) rfl) (fun w hH => Bz w true b1 true (by simpa [Ey] using hv2)) rfl rfl rfl) ?_)); rintro ⟨⟩
 refine Ag Ab rfl (Ac rfl (.int .i64 b2) (fun b w hb hH => AD rfl rfl (AL AB rfl) (hH.row 0 rfl) hb) (Al (post := fun _ => [cell gb 28 #[.int .u64 b0, .int .u64 b1, .int .i64 b2]]) rfl (AH (Aj Try.func75 (by kernel_rfl) rfl) (fun w hH => E0 w b2 true hv4) rfl rfl rfl) ?_)); rintro ⟨⟩
 refine Ag Ab rfl (Ac rfl (.int .i64 b2) (fun b w hb hH => AD rfl rfl (AL AB rfl) (hH.row 0 rfl) hb) (Ac rfl (.bool false) (fun b w hb hH => AI rfl rfl rfl (BB hc) hb) (Ag Ab rfl (Ae (Aw ?_)))))
 exact Ar (.tmp rfl) (fun w h => ⟨rfl, Aq h.up⟩) rfl
 obtain rfl : r = true := by rw [← hR, ← hv3]; simp [GB, hv4, hc]
 refine Af (Ag Ab rfl (Ac rfl (.int .u64 b0) (fun b w hb hH => AD rfl rfl (AL Ai rfl) (hH.row 0 rfl) hb) (Al (post := fun _ => [cell gb 28 #[.int .u64 b0, .int .u64 b1, .int .i64 b2]]) rfl (AH (Aj Try.func74 (by kernel_rfl) rfl) (fun w hH => Bz w true b0 true (by simpa [Ey] using hv1)) rfl rfl rfl) ?_))); rintro ⟨⟩
 refine Ag Ab rfl (Ac rfl (.int .u64 b1) (fun b w hb hH => AD rfl rfl (AL Ai rfl) (hH.row 0 rfl) hb) (Al (post := fun _ => [cell gb 28 #[.int .u64 b0, .int .u64 b1, .int .i64 b2]]) rfl (AH (Aj Try.func74 (by kernel_rfl) rfl) (fun w hH => Bz w true b1 true (by simpa [Ey] using hv2)) rfl rfl rfl) ?_)); rintro ⟨⟩
 refine Ag Ab rfl (Ac rfl (.int .i64 b2) (fun b w hb hH => AD rfl rfl (AL AB rfl) (hH.row 0 rfl) hb) (Al (post := fun _ => [cell gb 28 #[.int .u64 b0, .int .u64 b1, .int .i64 b2]]) rfl (AH (Aj Try.func75 (by kernel_rfl) rfl) (fun w hH => E0 w b2 true hv4) rfl rfl rfl) ?_)); rintro ⟨⟩
 refine Ag Ab rfl (Ac rfl (.int .i64 b2) (fun b w hb hH => AD rfl rfl (AL AB rfl) (hH.row 0 rfl) hb) (Ac rfl (.bool true) (fun b w hb hH => AI rfl rfl rfl (DE hc) hb) (Ag Ab rfl (Ae (Aw ?_)))))
 exact Ar (.tmp rfl) (fun w h => ⟨rfl, Aq h.up⟩) rfl
end Go.Proofs.Ytnebloeideodmaa.Sep
namespace Go.Proofs.Ytnebloeideodmaa.Sep
open Go.RowKit
open Go.Proofs.Ytnebloeideodmaa.Mem (AM BA Chg Aq)
theorem Ti {w : World} {A : Option Addr} {n c : Nat} {l : List UInt8} (h : Ft w (.slice A n c) l) : l.length ≤ c := by
 obtain ⟨A', c', e, hb⟩ := h
 simp only [Value.slice.injEq] at e
 obtain ⟨rfl, _, rfl⟩ := e
 exact hb.1
theorem Pv.mid {X : Ass} {A : Option Addr} {c i j : Nat} {l : List UInt8} (h : Pv X (.slice A l.length c) l) (hij : i ≤ j) (hj : j ≤ l.length) : Pv X (.slice (if c = i then A else A.map (·.add i)) (j - i) (c - i)) ((l.take j).drop i) := fun rs w h1 h2 => by
  have h3 := (h rs w h1 h2).takes hj
  have hl : (l.take j).length = j := by rw [List.length_take]; omega
  have h4 := h3.drop (k := i) (by omega)
  rw [List.length_drop, hl] at h4
  exact h4
theorem Tj {A : Option Addr} {n c i j : Nat} : DS 1 (.slice A n c) i j = .slice (if c = i then A else A.map (·.add i)) (j - i) (c - i) := by
  show Value.slice (if c = i then A else A.map (·.add (i * 1))) (j - i) (c - i) = _
  rw [Nat.mul_one]
end Go.Proofs.Ytnebloeideodmaa.Sep
namespace Go.Proofs.Ytnebloeideodmaa.Sep
open Go.RowKit
open Go.Proofs.Ytnebloeideodmaa.Mem (AM BA Chg Aq)
structure SlV where
  A : Option Addr
  c : Nat
end Go.Proofs.Ytnebloeideodmaa.Sep
namespace Go.Proofs.Ytnebloeideodmaa.Sep
open Go.RowKit
open Go.Proofs.Ytnebloeideodmaa.Mem (AM BA Chg)
section
variable {P : Program} {t e ty : TypeId} {k : Nat} {α : Type} {enc : α → List Value} {v u : Value} {l m : List α} {w w' : World} {rs : List RowT}
theorem HZ {nb : Nat} (hT : SliceT P t e k) (hb : (P.info? e).map (fun i => i.bytes) = some nb) (hb1 : 1 ≤ nb) (he : EncOf k enc) (h : As e k enc v l rs) (hr : RowsOf w rs) (hd : AM rs) (hu : Cg w k u m.length (A6 enc m)) (hlen : (l.length + m.length) * nb ≤ 140737488355328) :
    ∃ v' w', (Builtin.append_ #[t, t] ty #[v, u]).run P w = .ok v' w' ∧ ∃ rs', As e k enc v' (l ++ m) rs' ∧ Chg w w' rs rs' := by
  obtain ⟨i, z, hi, hz, hk, hby, hzs, _⟩ := hT.inf
  have hbn : i.bytes = nb := by simpa [hi] using hb
  have hl1 : l.length + m.length ≤ 140737488355328 := Nat.le_trans (Nat.le_mul_of_pos_right _ hb1) hlen
  obtain ⟨hul, A, c, rfl, hA⟩ := hu
  have hu1 := IP he m
  rcases hA with ⟨rfl, hm⟩ | ⟨a, rfl, hcells⟩
  · have hm' : m = [] := List.length_eq_zero_iff.1 hm
    subst hm'
    refine ⟨v, w, ?_, rs, by simpa using h, ⟨Mod.refl _ _, hr, hd, fun x hx _ => ⟨x, hx, rfl⟩⟩⟩
    rcases h with ⟨h1, h2, h3⟩ | ⟨g, c', cs, h1, h2, h3, h4, h5, h6⟩
    · subst h1
      simp [Builtin.append_, run_underlying hT.ht, sizeOf, typeInfo, hi, Builtin.lenOf, Builtin.firstCells]
    · subst h1
      simp [Builtin.append_, run_underlying hT.ht, sizeOf, typeInfo, hi, Builtin.lenOf, Builtin.firstCells, h2, storeCells]
  · have hown : w.ownsRow 0 e k v l.length (A6 enc l) := by
      refine ⟨B1 he l, ?_⟩
      rcases h with ⟨h1, h2, h3⟩ | ⟨g, c', cs, h1, h2, h3, h4, h5, h6⟩
      · exact .inl ⟨h1, by rw [h2]; rfl⟩
      · subst h6
        exact .inr ⟨g, c', cs, h1, Nat.zero_le _, hr.1, h2, h3, h4, h5⟩
    obtain ⟨v', w', hrun, h2, h3, _, h5⟩ := run_append_own_at (P := P) w 0 t ty e i z k i.bytes hT.ht hi hz hk rfl hzs hT.pos v l.length (A6 enc l) hown a m.length c (A6 enc m) hul hcells hu1 (by unfold maxLen; omega)
      (by rw [hbn]; omega) (Nat.zero_le _)
    refine ⟨v', w', hrun, ?_⟩
    have hm : Mod (At v) w w' := Mod.of_grown h3 (fun k hk => hk)
    have hmB : Mod (BA rs) w w' := hm.weaken fun j _ hj => by
      rcases h with ⟨h1, _, _⟩ | ⟨g, c', cs, h1, _, _, _, _, h6⟩
      · subst h1; unfold At at hj; simp [Value.ownBlock] at hj
      · subst h1; subst h6
        unfold At at hj
        simp [Value.ownBlock] at hj
        exact ⟨(g, EC e, cs), by simp, hj⟩
    rcases h2.2 with ⟨h1, hn⟩ | ⟨g, c', cs, h1, _, hrow, hle, hmx, hsz, htk⟩
    · have : l ++ m = [] := List.length_eq_zero_iff.1 (by rw [List.length_append]; exact hn)
      exact ⟨[], .inl ⟨h1, this, rfl⟩, ⟨hmB, trivial, trivial, fun x hx => by simp at hx⟩⟩
    · refine ⟨[(g, EC e, cs)], .inr ⟨g, c', cs, by rw [h1, List.length_append], by rw [List.length_append]; exact hle, hmx, hsz, by rw [List.length_append, G6]; exact htk, rfl⟩, ⟨hmB, ⟨hrow, trivial⟩, ⟨(fun _ h => by cases h), trivial⟩, fun x hx hlt => ?_⟩⟩
      have : x = (g, EC e, cs) := by simpa using hx
      subst this
      rcases h5 with h5 | h5
      · subst h1
        rcases h with ⟨h1, _, _⟩ | ⟨g', c'', cs', h1, _, _, _, _, h6⟩
        · subst h1; simp [Value.ownBlock] at h5
        · subst h1; subst h6
          simp [Value.ownBlock] at h5
          exact ⟨(g', EC e, cs'), by simp, h5.symm⟩
      · subst h1
        simp [Value.ownBlock] at h5
        exact absurd hlt (by show ¬ g < w.heap.size; omega)
variable {Q : Exit → Act → World → Prop} {n : Nat} {B : Nat → Prop} {w0 : World} {os : List Ass} {env : List (Nat × Value)} {o : Oper}
theorem E1 {nb : Nat} (i : Nat) (hT : SliceT P t e k) (he : EncOf k enc) (hb : (P.info? e).map (fun i => i.bytes) = some nb) (hb1 : 1 ≤ nb) (hi : os[i]? = some (As e k enc v l)) (m : List α) (hu : ∀ w, Hp B w0 w os → Cg w k u m.length (A6 enc m)) (hlen : (l.length + m.length) * nb ≤ 140737488355328) {x y : Operand} (ho : o.op = .call { callee := .builtin .append, args := #[x, y], argTypes := #[t, t] }) (hx : evs env x = some v) (hy : evs env y = some u) {r : List α} (hr : l ++ m = r) :
  AZ P Q n env B w0 os o (fun v : Value => v) (fun v' => os.set i (As e k enc v' r)) := fun act w hH hF K hK => by
 subst hr
 have hH' := hH
 obtain ⟨rs0, hp, hm⟩ := hH
 obtain ⟨a, z, b, e1, hz, hbb⟩ := hp.at_ hi
 subst e1
 have p : (a ++ (z ++ b)).Perm (z ++ (a ++ b)) := by rw [← List.append_assoc, ← List.append_assoc]; exact List.perm_append_comm.append_right b
 have h5 := B8 hm p
 have hd := AS.1 h5.apart
 rw [List.map_append] at hd
 obtain ⟨v', w', hr, y', hy', hc⟩ := HZ (P := P) (ty := o.type) hT hb hb1 he hz (AT.2 fun z hz => h5.rows.mem z (by simp [hz])) (AS.2 (List.nodup_append.1 hd).1) (hu w hH') hlen
 have p' : (y' ++ (a ++ b)).Perm (a ++ (y' ++ b)) := by rw [← List.append_assoc, ← List.append_assoc]; exact List.perm_append_comm.append_right b
 refine HV (w0 := w) act (EI ho (vs := [v, u]) (by simp [evl, hx, hy]) (fun cs => ?_) hF) (hK v' w' ⟨_, hbb _ y' hy', B8 (D4 h5 hc) p'⟩)
 simp only [builtin, Sem.run_bind, Sem.run_pure, Result.andThen_ok, hr]
end
end Go.Proofs.Ytnebloeideodmaa.Sep
