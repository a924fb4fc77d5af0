/-
  The reference's Sum, Seal and Unseal: they answer what the plain functions say.
-/
import Derived.Test.YtlefkbmenceflaaSeal
namespace Go.Proofs.Ytlefkbmenceflaa
open Go.RowKit

theorem refSum_any {S : Nat → Prop} (w : World) (A : Option Addr) (c : Nat) (l : List UInt8) (h : Bs S w A c l) (hl : l.length ≤ 140737488355328) :
    Calls Try.prog 35 #[.slice A l.length c] w fun e w' => e = .returned (.int .u32 (crcSum l : Int)) ∧ w = w' := by
  go_enter Try.func35, Try.ntmps35
  go_wp2
  go_loop [3, 4, 5, 6] (fun h i _ _ => ∃ k : Nat, k ≤ l.length ∧ i = .int .i64 k ∧ h = .int .u32 ((crcRun (BitVec.allOnes 32) (l.take k)).toNat : Int)) (fun _ i _ _ => l.length - (intOf i).toNat)
  case atStart => exact ⟨0, Nat.zero_le _, rfl, rfl⟩
  case round =>
    obtain ⟨k, hk, rfl, rfl⟩ := hrel
    by_cases hlt : k < l.length
    · obtain ⟨g, o, rfl, hs, hc⟩ := h.2.2 (by omega)
      have hb := hc k l[k] (List.getElem?_eq_getElem hlt)
      unfold u8v at hb
      clear hc
      have ht : crcRun (BitVec.allOnes 32) (l.take (k + 1)) = crcByte (crcRun (BitVec.allOnes 32) (l.take k)) l[k] := by
        rw [List.take_succ_eq_append_getElem hlt]; unfold crcRun; rw [List.foldl_append]; rfl
      have HT := hid ht
      clear ht
      obtain ⟨b, hbb⟩ : ∃ b, b = l[k] := ⟨_, rfl⟩
      rw [← hbb] at hb HT
      have HB := hid hbb
      clear hbb
      obtain ⟨x, hx⟩ : ∃ x, x = crcRun (BitVec.allOnes 32) (l.take k) := ⟨_, rfl⟩
      rw [← hx] at HT ⊢
      have HX := hid hx
      clear hx
      have hin := u32_in x b
      obtain ⟨y, hy⟩ : ∃ y, y = x ^^^ BitVec.ofNat 32 b.toNat := ⟨_, rfl⟩
      rw [← hy] at hin
      have HY := hid hy
      clear hy
      obtain ⟨n, hn⟩ : ∃ n, n = b.toNat := ⟨_, rfl⟩
      have hn2 : n < 256 := by rw [hn]; exact UInt8.toNat_lt _
      rw [← hn] at hin hb
      clear hn
      go_wp2
      go_loop [3, 5, 6] (fun h j _ => ∃ i : Nat, i ≤ 8 ∧ j = .int .i64 i ∧ h = .int .u32 ((crcBits i y).toNat : Int)) (fun _ j _ => 8 - (intOf j).toNat)
      case atStart => exact ⟨0, by omega, rfl, rfl⟩
      case round =>
        obtain ⟨i, hi, rfl, rfl⟩ := hrel
        obtain ⟨z, hz⟩ : ∃ z, z = crcBits i y := ⟨_, rfl⟩
        rw [← hz]
        have HZ := hid hz
        clear hz
        by_cases hi8 : i < 8
        · have hand := u32_and_one z
          cases hodd : z.getLsbD 0
          · have hq := u32_even z hodd
            rw [hodd] at hand
            simp only [Bool.false_eq_true, if_false] at hand
            clear hodd
            have HQ := hid hq
            clear hq
            go_wp2
            go_round
            case rel => exact ⟨i + 1, by omega, by go_num, by rw [HQ.out, HZ.out]; rfl⟩
            case measure => simp [intOf]; omega
          · have hq := u32_odd z hodd
            rw [hodd] at hand
            simp only [if_true] at hand
            clear hodd
            obtain ⟨z', hz'⟩ : ∃ z', z' = crcBit z := ⟨_, rfl⟩
            rw [← hz'] at hq
            have HZ' := hid hz'
            clear hz'
            go_wp2
            go_round
            case rel => exact ⟨i + 1, by omega, by go_num, by rw [HZ'.out, HZ.out]; rfl⟩
            case measure => simp [intOf]; omega
        · have e8 : i = 8 := by omega
          subst e8
          go_wp2
          go_round
          case rel => exact ⟨k + 1, by omega, by go_num, by rw [HT.out, HZ.out, HY.out]; rfl⟩
          case measure => simp [intOf]; omega
    · have e : l.take k = l := List.take_of_length_le (by omega)
      rw [e]
      clear e
      obtain ⟨r, hr⟩ : ∃ r, r = crcRun (BitVec.allOnes 32) l := ⟨_, rfl⟩
      rw [← hr]
      have HR := hid hr
      clear hr
      have hnot := u32_not' r
      obtain ⟨q, hq⟩ : ∃ q : Nat, q = (~~~ r).toNat := ⟨_, rfl⟩
      rw [← hq] at hnot
      have HQ := hid hq
      clear hq
      go_wp2
      all_goals
        go_ret
        refine ⟨ret_int ?_, rfl⟩
        unfold crcSum
        rw [← HR.out, ← HQ.out]

theorem refSeal_any {S : Nat → Prop} (w : World) (A : Option Addr) (c : Nat) (l : List UInt8) (h : Bs S w A c l) (hl : l.length + 4 ≤ 140737488355328) :
    Calls Try.prog 36 #[.slice A l.length c] w fun e w' => ∃ v', e = .returned v' ∧ Own 5 w' w.heap.size v' (sealed l) ∧ Below w.heap.size w w' := by
  have hs := crcSum_lt l
  have hC := refSum_any w A c l h (by omega)
  obtain ⟨s, hss⟩ : ∃ s, s = crcSum l := ⟨_, rfl⟩
  rw [← hss] at hs hC
  have hle : sealed l = l ++ le4 s := by unfold sealed; rw [hss]
  rw [hle]
  have HC := hid hC
  clear hss hle hC
  have own0 : Own 5 (w.alloc (.cells #[] 5)) w.heap.size (.slice (some ⟨w.heap.size, 0, none⟩) 0 0) [] := World.ownsRow_made w #[] 0 (Nat.le_refl _) (by simp [maxLen]) rfl
  have src : Bs (fun k => S k ∧ k < w.heap.size) (w.alloc (.cells #[] 5)) A c l := (h.cut_old).mod ((Mod.refl Nil w).alloc _) (fun _ _ hf => hf)
  go_enter Try.func36, Try.ntmps36
  go_wp2_with (first
    | (go_at_call 35; refine Calls.mono HC.out ?_; rintro e w' ⟨rfl, rfl⟩)
    | (at_builtin; refine wpList_append_bs (t := 24) tyU8 rfl (.tmp 7) (.tmp 8) rfl own0 (by simp) src l.length (by simp) rfl rfl (by omega) ?_; intro A2 c2 w2 ho2 hm2 ha2; have hmw := ((Mod.refl Nil w).alloc (.cells #[] 5)).trans hm2 (fun k hk e => by rw [At.iff] at e; omega); have hB2 : w.heap.size ≤ (w2.alloc (.cells #[.int .u8 ((s : Int) % 256), .int .u8 ((s : Int) / 256 % 256), .int .u8 ((s : Int) / 65536 % 256), .int .u8 ((s : Int) / 16777216)] 5)).heap.size := Nat.le_trans hmw.size (by simp))
    | (at_builtin; refine wpList_append_bs (t := 24) tyU8 rfl (.tmp 10) (.tmp 22) rfl (ho2.mod ((Mod.refl Nil w2).alloc _) (fun _ _ hf => hf)) hB2 (le4_src w2 s hs) (l.length + 4) (by simp [le4]) rfl rfl hl ?_; intro A3 c3 w3 ho3 hm3 ha3))
  go_ret
  refine ⟨_, rfl, by simpa using ho3, ?_⟩
  refine ((hmw.alloc _).trans hm3 (fun k hk e => ?_)).below (Nat.le_refl _) (fun _ hf => hf.elim)
  have := (ho2.lt k e).1
  omega

theorem refUnseal_any {S : Nat → Prop} (w : World) (A : Option Addr) (c : Nat) (l : List UInt8) (h : Bs S w A c l) (hl : l.length ≤ 140737488355328) :
    Calls Try.prog 34 #[.slice A l.length c] w fun e w' => ∃ v', e = .returned (.tuple #[v', .int .i64 ((unsealed l).2 : Int)]) ∧ Own 5 w' w.heap.size v' (unsealed l).1 ∧ Below w.heap.size w w' := by
  by_cases hs : l.length < 4
  · have hE : unsealed l = ([], 10) := by unfold unsealed; rw [if_pos hs]
    rw [hE]
    clear hE
    go_enter Try.func34, Try.ntmps34
    go_wp2
    go_ret2
    exact ⟨_, rfl, Own.nil _ _ _, Below.refl _ _⟩
  · obtain ⟨n, hn⟩ : ∃ n, l.length = n + 4 := ⟨l.length - 4, by omega⟩
    obtain ⟨A2, hb2, hsl2⟩ := run_upto tyU8 h n (by omega)
    have hd : (l.drop n).length = 4 := by rw [List.length_drop]; omega
    have ht : (l.take n).length = n := by rw [List.length_take]; omega
    have hE : unsealed l = if l.drop n = le4 (crcSum (l.take n)) then (l.take n, 0) else ([], 13) := by
      unfold unsealed; rw [if_neg hs, hn]; rfl
    obtain ⟨g, o, rfl, _, hc⟩ := h.2.2 (by omega)
    obtain ⟨b0, b1, b2, b3, hbs⟩ : ∃ b0 b1 b2 b3, l.drop n = [b0, b1, b2, b3] := by
      match l.drop n, hd with
      | [b0, b1, b2, b3], _ => exact ⟨b0, b1, b2, b3, rfl⟩
    rw [hbs] at hE
    have hget : ∀ j b, [b0, b1, b2, b3][j]? = some b → l[n + j]? = some b := fun j b hj => by rw [← hbs, List.getElem?_drop] at hj; exact hj
    have c0 := hc n b0 (hget 0 b0 rfl)
    have c1 := hc (n + 1) b1 (hget 1 b1 rfl)
    have c2 := hc (n + 2) b2 (hget 2 b2 rfl)
    have c3 := hc (n + 3) b3 (hget 3 b3 rfl)
    unfold u8v at c0 c1 c2 c3
    have hsl := crcSum_lt (l.take n)
    simp only [le4_four b0 b1 b2 b3 _ hsl] at hE
    obtain ⟨x0, e0⟩ : ∃ x, x = b0.toNat := ⟨_, rfl⟩
    obtain ⟨x1, e1⟩ : ∃ x, x = b1.toNat := ⟨_, rfl⟩
    obtain ⟨x2, e2⟩ : ∃ x, x = b2.toNat := ⟨_, rfl⟩
    obtain ⟨x3, e3⟩ : ∃ x, x = b3.toNat := ⟨_, rfl⟩
    have h0 : x0 < 256 := by rw [e0]; exact UInt8.toNat_lt _
    have h1 : x1 < 256 := by rw [e1]; exact UInt8.toNat_lt _
    have h2 : x2 < 256 := by rw [e2]; exact UInt8.toNat_lt _
    have h3 : x3 < 256 := by rw [e3]; exact UInt8.toNat_lt _
    rw [← e0, ← e1, ← e2, ← e3] at hE
    rw [← e0] at c0
    rw [← e1] at c1
    rw [← e2] at c2
    rw [← e3] at c3
    have hCS := refSum_any w A2 c (l.take n) hb2 (by omega)
    obtain ⟨s, hss⟩ : ∃ s, s = crcSum (l.take n) := ⟨_, rfl⟩
    rw [← hss] at hE hsl hCS
    rw [ht] at hCS
    have own0 : Own 5 (w.alloc (.cells #[] 5)) w.heap.size (.slice (some ⟨w.heap.size, 0, none⟩) 0 0) [] := World.ownsRow_made w #[] 0 (Nat.le_refl _) (by simp [maxLen]) rfl
    have src : Bs (fun k => S k ∧ k < w.heap.size) (w.alloc (.cells #[] 5)) A2 c (l.take n) := (hb2.cut_old).mod ((Mod.refl Nil w).alloc _) (fun _ _ hf => hf)
    have hlen : n = ([] : List UInt8).length + (l.take n).length := by rw [ht]; simp
    rw [ht] at hsl2
    have HCS := hid hCS
    have HLN := hid hlen
    have HT := hid ht
    clear e0 e1 e2 e3 hCS hget hc hb2 hbs ht hd hss hlen
    rw [hn] at hsl2 hl
    rw [hn]
    have hs4 : ¬ n + 4 < 4 := by omega
    clear hs
    have HN := hid hn
    clear hn
    by_cases hX : x0 + x1 * 256 + x2 * 65536 + x3 * 16777216 = s
    · rw [if_pos hX] at hE
      have HE := hid hE
      have q0 : (((x0 : Int)) != (s : Int) % 256) = false := by simp; omega
      have q1 : (((x1 : Int)) != (s : Int) / 256 % 256) = false := by simp; omega
      have q2 : (((x2 : Int)) != (s : Int) / 65536 % 256) = false := by simp; omega
      have q3 : (((x3 : Int)) != (s : Int) / 16777216) = false := by simp; omega
      clear hE hX
      go_enter Try.func34, Try.ntmps34
      go_wp2_with (first
        | (go_at_call 35; refine Calls.mono HCS.out ?_; rintro e w' ⟨rfl, rfl⟩)
        | (at_builtin; refine wpList_append_bs (t := 24) tyU8 rfl (.tmp 56) (.tmp 59) rfl own0 (by simp) src n HLN.out rfl (congrArg (fun k => Value.slice A2 k c) HT.out.symm) (by omega) ?_; intro A3 c3 w3 ho3 hm3 ha3))
      go_ret2
      rw [HE.out]
      refine ⟨_, rfl, by simpa using ho3, ?_⟩
      exact ((Mod.refl Nil w).alloc _ |>.trans hm3 (fun i hi e => by rw [At.iff] at e; omega)).below (Nat.le_refl _) (fun _ hf => hf.elim)
    · rw [if_neg hX] at hE
      have HE := hid hE
      clear hE
      by_cases q0 : x0 = s % 256
      · have q0' : (((x0 : Int)) != (s : Int) % 256) = false := by simp; omega
        by_cases q1 : x1 = s / 256 % 256
        · have q1' : (((x1 : Int)) != (s : Int) / 256 % 256) = false := by simp; omega
          by_cases q2 : x2 = s / 65536 % 256
          · have q2' : (((x2 : Int)) != (s : Int) / 65536 % 256) = false := by simp; omega
            have q3' : (((x3 : Int)) != (s : Int) / 16777216) = true := by simp; omega
            clear hX q0 q1 q2
            go_enter Try.func34, Try.ntmps34
            go_wp2_with (go_at_call 35; refine Calls.mono HCS.out ?_; rintro e w' ⟨rfl, rfl⟩)
            go_ret2
            rw [HE.out]
            exact ⟨_, rfl, Own.nil _ _ _, Below.refl _ _⟩
          · have q2' : (((x2 : Int)) != (s : Int) / 65536 % 256) = true := by simp; omega
            clear hX q0 q1 q2
            go_enter Try.func34, Try.ntmps34
            go_wp2_with (go_at_call 35; refine Calls.mono HCS.out ?_; rintro e w' ⟨rfl, rfl⟩)
            go_ret2
            rw [HE.out]
            exact ⟨_, rfl, Own.nil _ _ _, Below.refl _ _⟩
        · have q1' : (((x1 : Int)) != (s : Int) / 256 % 256) = true := by simp; omega
          clear hX q0 q1
          go_enter Try.func34, Try.ntmps34
          go_wp2_with (go_at_call 35; refine Calls.mono HCS.out ?_; rintro e w' ⟨rfl, rfl⟩)
          go_ret2
          rw [HE.out]
          exact ⟨_, rfl, Own.nil _ _ _, Below.refl _ _⟩
      · have q0' : (((x0 : Int)) != (s : Int) % 256) = true := by simp; omega
        clear hX q0
        go_enter Try.func34, Try.ntmps34
        go_wp2_with (go_at_call 35; refine Calls.mono HCS.out ?_; rintro e w' ⟨rfl, rfl⟩)
        go_ret2
        rw [HE.out]
        exact ⟨_, rfl, Own.nil _ _ _, Below.refl _ _⟩
end Go.Proofs.Ytlefkbmenceflaa
