/-
  MbN
-/
import Derived.Test.YtmcdjniebkfagaaAG01
set_option linter.unusedSimpArgs false
set_option linter.unusedVariables false

namespace Go.Proofs.Ytmcdjniebkfagaa.Sep
open Go.RowKit
open Go.Proofs.Ytmcdjniebkfagaa.Mem (Dist Blk Chg below0)

def nearM (s : Int) (b : Bool) : Int := if b then 2 * (s % 128) else s
theorem near_right (s : Int) : rs (nearM s true) = true := rs_iff.2 (by unfold nearM; simp; omega)
theorem near_i64 {s : Int} (h : -9223372036854775808 ≤ s ∧ s ≤ 9223372036854775807) (b : Bool) : -9223372036854775808 ≤ nearM s b ∧ nearM s b ≤ 9223372036854775807 := by cases b <;> simp [nearM] <;> omega
theorem add_rem {s n : Int} {R : Int × Int} (h : addM s n = R) (he : R.2 = 0) : may s n = true ∧ hs s n = false ∧ R.1 = s + 2 ^ n.toNat ∧ rs R.1 = true ∧ ((s = 0 ∧ remM R.1 n = (0, 32)) ∨ (s ≠ 0 ∧ remM R.1 n = (s, 0))) := by
  unfold addM at h
  split at h
  · rename_i hm
    split at h
    · subst h; exact absurd he (by decide)
    · rename_i hb
      have hb : hs s n = false := by simpa using hb
      obtain ⟨_, h2, h3, h4, _⟩ := add_facts hm hb
      subst h
      refine ⟨hm, hb, rfl, h2, ?_⟩
      have hz := cnt_zero (may_iff.1 hm).1
      have hm2 := hs_may h3
      simp only
      unfold remM
      rw [if_pos hm2]
      by_cases h0 : s = 0
      · left
        rw [if_pos (.inr (by rw [h4, hz.2 h0]))]
        exact ⟨h0, rfl⟩
      · right
        have hc : ¬ cnt (s + 2 ^ n.toNat) = 1 := fun e => h0 (hz.1 (by omega))
        rw [if_neg (by rw [h3]; simp [hc])]
        exact ⟨h0, by rw [Int.add_sub_cancel]⟩
  · subst h; exact absurd he (by decide)
theorem addM_not {s n : Int} {R : Int × Int} (h : addM s n = R) (hm : may s n = true) (he : R.2 ≠ 0) : R.2 = 32 := by
  unfold addM at h
  rw [if_pos hm] at h
  split at h
  · subst h; rfl
  · subst h; exact absurd rfl he
theorem meet_and {a b m : Int} (ha : rs a = true) {k : Nat} (h1 : bt a k = true) (h2 : bt b k = true) (h3 : bt m k = true) : bits .and .i64 (bits .and .i64 a b) m ≠ 0 := fun e => by
  have x := and_set ha b
  have y := (and_set x.1 m).2 k
  rw [e, x.2 k, h1, h2, h3] at y
  have : bt 0 k = false := by unfold bt; simp
  rw [this] at y
  exact absurd y (by decide)

set_option maxRecDepth 100000 in
theorem near_any (w : World) (s : Int) (h : -9223372036854775808 ≤ s ∧ s ≤ 9223372036854775807) (b : Bool) (z : Int) (hz : nearM s b = z) : Calls Try.prog 18 #[.int .i64 s, .bool b] w fun e w' => e = .returned (.int .i64 z) ∧ Below w.heap.size w w' := by
  refine d_in (args := [.int .i64 s, .bool b]) 10 Try.func18 rfl rfl rfl ?_
  refine d_reg ?_
  refine h_q hflS rfl ?_
  refine h_done (d_seq ?_)
  cases b
  · skip
    obtain rfl : s = z := hz
    refine d_reg ?_
    refine h_q hflS rfl ?_
    refine h_done (d_else rfl (d_skip (f_to (d_reg ?_))))
    refine h_q hflS rfl ?_
    refine h_done (d_ret ?_)
    exact f_fin1 (.tmp rfl) (fun w h => ⟨rfl, below0 h.up⟩) rfl
  · skip
    obtain ⟨q, hq⟩ : ∃ q, s % 128 = q := ⟨_, rfl⟩
    have hz2 : 2 * q = z := by rw [← hz, ← hq]; rfl
    refine d_reg ?_
    refine h_q hflS rfl ?_
    refine h_done (d_then rfl (d_reg ?_))
    refine h_q hflS rfl ?_
    refine h_act (post := fun _ => []) rfl (a_call (ent_of Try.func19 (by kernel_rfl) rfl) (fun w hH => pick w s 128 h (by decide) hq) rfl rfl rfl) ?_; rintro ⟨⟩
    refine h_val rfl (.int .i64 z) (fun b w hb hH => exec_ar rfl rfl rfl rfl ((IntWalk.i64_in _ (by omega)).trans hz2) hb) ?_
    refine h_q hflS rfl ?_
    refine h_done (d_ret (f_then_ret ?_))
    exact f_fin1 (.tmp rfl) (fun w h => ⟨rfl, below0 h.up⟩) rfl
end Go.Proofs.Ytmcdjniebkfagaa.Sep
