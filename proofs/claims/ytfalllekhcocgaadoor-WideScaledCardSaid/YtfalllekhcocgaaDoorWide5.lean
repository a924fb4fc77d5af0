/-
  Sizes, again, said of whole numbers; powers of ten in a word.
-/
import Derived.Test.YtfalllekhcocgaaDoorWide3
import Derived.Test.YtfalllekhcocgaaDoorWide4
import Derived.Test.YtfalllekhcocgaaDoorMul64
namespace Go.Proofs.YtfalllekhcocgaaDoor
open Go.RowKit

theorem less_any (w : World) (m n : Int) (hm : Big m) (hn : Big n) : Calls Tryd.prog 93 #[UV m, UV n] w fun e w' => e = .returned (UV ((m - n) % 340282366920938463463374607431768211456)) ∧ Below w.heap.size w w' := by
  obtain ⟨mh, ml, e1, rfl, h1, h2⟩ := UV_of hm
  obtain ⟨nh, nl, e2, rfl, h3, h4⟩ := UV_of hn
  rw [e1, e2]
  exact less_words w mh ml nh nl h1 h2 h3 h4
theorem sized_any (w : World) (x : Int) (hx : Fits x) : Calls Tryd.prog 41 #[WV x] w fun e w' => e = .returned (.tuple #[UV (mag x), .bool (decide (x < 0))]) ∧ Below w.heap.size w w' := by
  obtain ⟨hi, lo, e1, rfl, h1, h2⟩ := WV_of hx
  rw [e1, show decide (hi * 18446744073709551616 + lo < 0) = decide (hi < 0) from decide_eq_decide.2 (by omega)]
  exact sized_words w hi lo h1 h2
theorem signed_any (w : World) (m : Int) (minus : Bool) (hm : Big m) : Calls Tryd.prog 43 #[UV m, .bool minus] w fun e w' => e = .returned (resV (if minus then -m else m)) ∧ Below w.heap.size w w' := by
  obtain ⟨mh, ml, e1, rfl, h1, h2⟩ := UV_of hm
  rw [e1]
  exact signed_words w mh ml minus h1 h2
theorem compare_any (w : World) (m n : Int) (hm : Big m) (hn : Big n) : Calls Tryd.prog 74 #[UV m, UV n] w fun e w' => e = .returned (.int .i64 (cmp3 m n)) ∧ Below w.heap.size w w' := by
  obtain ⟨mh, ml, e1, rfl, h1, h2⟩ := UV_of hm
  obtain ⟨nh, nl, e2, rfl, h3, h4⟩ := UV_of hn
  rw [e1, e2, ← cmp3_words h2 h4]
  exact compare_words w mh ml nh nl
theorem sign_any (w : World) (x : Int) (hx : Fits x) : Calls Tryd.prog 29 #[WV x] w fun e w' => e = .returned (.int .i64 (cmp3 x 0)) ∧ Below w.heap.size w w' := by
  have hC := fun w => cmp_any w x 0 hx (by unfold Fits; omega)
  obtain ⟨hi, lo, e1, rfl, h1, h2⟩ := WV_of hx
  rw [e1, show WV 0 = .agg #[.int .i64 0, .int .u64 0] from rfl] at hC
  rw [e1]
  have HC := hid hC
  clear hC e1 h1 h2 hx
  go_enter Tryd.func29, Tryd.ntmps29
  go_wp2_with fail
  refine Calls.mono (HC.out _) ?_; rintro e w' ⟨rfl, hb⟩
  go_wp2_with fail
  go_ret
  exact ⟨rfl, (((Up.refl w).alloc _).trans hb).below⟩

theorem pow10_lt : ∀ k : Nat, k ≤ 19 → 10 ^ k < 18446744073709551616 := by decide
theorem ten_any (w : World) (k : Nat) (hk : k ≤ 19) : Calls Tryd.prog 49 #[.int .i64 k] w fun e w' => e = .returned (.int .u64 ((10 ^ k : Nat) : Int)) ∧ Below w.heap.size w w' := by
  go_enter Tryd.func49, Tryd.ntmps49
  go_wp2_with fail
  go_loopw [3, 5] (fun v i wr => ∃ j : Nat, j ≤ k ∧ i = .int .i64 j ∧ v = .int .u64 ((10 ^ j : Nat) : Int) ∧ w = wr) (fun _ i _ => k - (intOf i).toNat)
  case atStart => exact ⟨0, Nat.zero_le _, rfl, rfl, rfl⟩
  case round =>
    obtain ⟨j, hj, rfl, rfl, rfl⟩ := hrel
    by_cases hlt : j < k
    · have h10 := pow10_lt (j + 1) (by omega)
      obtain ⟨t, ht⟩ : ∃ t : Nat, t = 10 ^ j := ⟨_, rfl⟩
      have ht' : 10 ^ (j + 1) = t * 10 := by rw [ht, Nat.pow_succ]
      rw [ht'] at h10
      have HT := hid ht
      have HT' := hid ht'
      rw [← ht]
      clear ht ht'
      have hwr : IntKind.u64.wrap ((t : Int) * 10) = (t : Int) * 10 := by rw [IntKind.wrap_u64]; omega
      go_wp2_with fail
      go_roundw
      case rel => exact ⟨j + 1, by omega, by go_num, by rw [HT'.out]; first | rfl | (congr 1), by trivial⟩
      case measure => simp [intOf]; omega
    · obtain rfl : j = k := by omega
      obtain ⟨t, ht⟩ : ∃ t : Nat, t = 10 ^ j := ⟨_, rfl⟩
      have HT := hid ht
      rw [← ht]
      clear ht
      go_wp2_with fail
      go_ret
      rw [← HT.out]
      exact ⟨rfl, Below.refl _ _⟩

end Go.Proofs.YtfalllekhcocgaaDoor
