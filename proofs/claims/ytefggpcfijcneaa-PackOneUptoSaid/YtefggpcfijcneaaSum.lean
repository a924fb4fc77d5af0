/-
  The program's Sum, Seal and Unseal.
-/
import Derived.Test.YtefggpcfijcneaaClone
import Derived.Test.YtefggpcfijcneaaCrc
namespace Go.Proofs.Ytefggpcfijcneaa
open Go.RowKit

theorem sum_any {S : Nat → Prop} (w : World) (A : Option Addr) (c : Nat) (l : List UInt8) (h : Bs S w A c l) (hl : l.length ≤ 140737488355328) :
    Calls Try.prog 21 #[.slice A l.length c] w fun e w' => e = .returned (.int .u32 (crcSum l : Int)) ∧ w = w' := by
  go_enter Try.func21, Try.ntmps21
  go_wp2
  go_loop [3, 5, 6, 9] (fun h _ _ i => ∃ k : Nat, k ≤ l.length ∧ i = .int .i64 k ∧ h = .int .u32 ((crcRun (BitVec.allOnes 32) (l.take k)).toNat : Int)) (fun _ _ _ i => l.length - (intOf i).toNat)
  case atStart => exact ⟨0, Nat.zero_le _, rfl, rfl⟩
  case round =>
    obtain ⟨k, hk, rfl, rfl⟩ := hrel
    by_cases hlt : k < l.length
    · obtain ⟨g, o, rfl, hs, hc⟩ := h.2.2 (by omega)
      have hb := hc k l[k] (List.getElem?_eq_getElem hlt)
      unfold u8v at hb
      clear hc
      have ht : crcRun (BitVec.allOnes 32) (l.take (k + 1)) = crcByte (crcRun (BitVec.allOnes 32) (l.take k)) l[k] := by
        rw [List.take_succ_eq_append_getElem hlt]; unfold crcRun; rw [List.foldl_append]; rfl
      have HT := hid ht
      clear ht
      obtain ⟨b, hbb⟩ : ∃ b, b = l[k] := ⟨_, rfl⟩
      rw [← hbb] at hb HT
      have HB := hid hbb
      clear hbb
      obtain ⟨x, hx⟩ : ∃ x, x = crcRun (BitVec.allOnes 32) (l.take k) := ⟨_, rfl⟩
      rw [← hx] at HT ⊢
      have HX := hid hx
      clear hx
      have hin := u32_in x b
      obtain ⟨y, hy⟩ : ∃ y, y = x ^^^ BitVec.ofNat 32 b.toNat := ⟨_, rfl⟩
      rw [← hy] at hin
      have HY := hid hy
      clear hy
      obtain ⟨n, hn⟩ : ∃ n, n = b.toNat := ⟨_, rfl⟩
      have hn2 : n < 256 := by rw [hn]; exact UInt8.toNat_lt _
      rw [← hn] at hin hb
      clear hn
      go_wp2
      go_loop [3, 6, 17] (fun h _ j => ∃ i : Nat, i ≤ 8 ∧ j = .int .i64 i ∧ h = .int .u32 ((crcBits i y).toNat : Int)) (fun _ _ j => 8 - (intOf j).toNat)
      case atStart => exact ⟨0, by omega, rfl, rfl⟩
      case round =>
        obtain ⟨i, hi, rfl, rfl⟩ := hrel
        by_cases hi8 : i < 8
        · have hbit := u32_bit (crcBits i y)
          rw [IntKind.wrap_u32] at hbit
          obtain ⟨z, hz⟩ : ∃ z, z = crcBits i y := ⟨_, rfl⟩
          rw [← hz] at hbit ⊢
          have HZ := hid hz
          clear hz
          obtain ⟨z', hz'⟩ : ∃ z', z' = crcBit z := ⟨_, rfl⟩
          rw [← hz'] at hbit
          have HZ' := hid hz'
          clear hz'
          go_wp2
          go_round
          case rel => exact ⟨i + 1, by omega, by go_num, by rw [HZ'.out, HZ.out]; rfl⟩
          case measure => simp [intOf]; omega
        · have e8 : i = 8 := by omega
          subst e8
          obtain ⟨z, hz⟩ : ∃ z, z = crcBits 8 y := ⟨_, rfl⟩
          rw [← hz]
          have HZ := hid hz
          clear hz
          go_wp2
          go_round
          case rel => exact ⟨k + 1, by omega, by go_num, by rw [HT.out, HZ.out, HY.out]; rfl⟩
          case measure => simp [intOf]; omega
    · have e : l.take k = l := List.take_of_length_le (by omega)
      rw [e]
      clear e
      obtain ⟨r, hr⟩ : ∃ r, r = crcRun (BitVec.allOnes 32) l := ⟨_, rfl⟩
      rw [← hr]
      have HR := hid hr
      clear hr
      have hnot := u32_not r
      obtain ⟨q, hq⟩ : ∃ q : Nat, q = (~~~ r).toNat := ⟨_, rfl⟩
      rw [← hq] at hnot
      have HQ := hid hq
      clear hq
      go_wp2
      all_goals
        go_ret
        refine ⟨ret_int ?_, rfl⟩
        unfold crcSum
        rw [← HR.out, ← HQ.out]
end Go.Proofs.Ytefggpcfijcneaa
