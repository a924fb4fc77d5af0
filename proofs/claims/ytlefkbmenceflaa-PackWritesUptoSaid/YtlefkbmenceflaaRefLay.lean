/-
  The reference's Num, Int and Text: what they lay.
-/
import Derived.Test.YtlefkbmenceflaaClone
import Derived.Test.YtlefkbmenceflaaMath
import Derived.Test.YtlefkbmenceflaaBits
namespace Go.Proofs.Ytlefkbmenceflaa
open Go.RowKit

theorem byteNat (n : Nat) (h : n < 256) : (UInt8.ofNat n).toNat = n := by simp [UInt8.toNat_ofNat']; omega

set_option maxRecDepth 100000 in
theorem refNum_any (w : World) (n : Nat) (hn : n < 18446744073709551616) :
    Calls Try.prog 26 #[.int .u64 (n : Int)] w fun e w' => ∃ v', e = .returned v' ∧ Own 5 w' w.heap.size v' (vlay n) ∧ Below w.heap.size w w' := by
  have hvl := vlay_length n hn
  obtain ⟨N, hN⟩ : ∃ N, N = vlay n := ⟨_, rfl⟩
  rw [← hN] at hvl ⊢
  have HN := hid hN
  have HNB := hid hn
  clear hN hn
  go_enter Try.func26, Try.ntmps26
  go_wp2
  go_loopw [0, 3] (fun x v wr => ∃ (y : Nat) (l1 : List UInt8) (A : Option Addr) (c : Nat), x = .int .u64 (y : Int) ∧ y < 18446744073709551616 ∧ N = l1 ++ vlay y ∧ v = .slice A l1.length c ∧ Own 5 wr w.heap.size (.slice A l1.length c) l1 ∧ Up w.heap.size w wr) (fun x _ _ => (intOf x).toNat)
  case atStart => exact ⟨n, [], none, 0, rfl, HNB.out, by rw [HN.out]; rfl, rfl, Own.nil _ _ _, Up.refl w⟩
  case round =>
    obtain ⟨y, l1, A, c, rfl, hy, hN, rfl, ho, hU⟩ := hrel
    have hpos := vlay_pos y
    have hlN : N.length = l1.length + (vlay y).length := by rw [hN]; simp
    have hll : l1.length + 1 ≤ 140737488355328 := by omega
    have HNN := hid hN
    have HY := hid hy
    clear hN hy hpos hlN
    by_cases h128 : 128 ≤ y
    · obtain ⟨b, hb⟩ : ∃ b, b = UInt8.ofNat (y % 128 + 128) := ⟨_, rfl⟩
      have hx : (y : Int) % 128 + 128 = (b.toNat : Int) := by rw [hb, byteNat _ (by omega)]; omega
      have hwrap : IntKind.u64.wrap ((y : Int) / 128) = ((y / 128 : Nat) : Int) := by rw [IntKind.wrap_u64]; have := HY.out; omega
      have HB := hid hb
      have HX := hid hx
      have own1 : Own 5 (wr.alloc (.cells #[.int .u8 ((y : Int) % 128 + 128)] 5)) w.heap.size (.slice A l1.length c) l1 := ho.mod ((Mod.refl Nil wr).alloc _) (fun _ _ hf => hf)
      have hsz : w.heap.size ≤ (wr.alloc (.cells #[.int .u8 ((y : Int) % 128 + 128)] 5)).heap.size := (hU.alloc _).size
      clear hb hx
      go_wp2_with (at_builtin; refine wpList_append_bs (t := 24) tyU8 rfl (.tmp 6) (.tmp 11) rfl own1 hsz (one_src wr 5 b HX.out) (l1.length + 1) rfl rfl rfl hll ?_; intro A1 c1 w1 ho1 hm1 ha1)
      have hU1 : Up w.heap.size w w1 := (hU.alloc _).mod hm1 (fun j hj => (own1.lt j hj).1)
      go_roundw
      case rel =>
        refine ⟨y / 128, l1 ++ [b], A1, c1, by first | rfl | (rw [hwrap]) | go_num, by have := HY.out; omega, ?_, by simp, by simpa using ho1, hU1⟩
        rw [HNN.out, vlay_more h128, ← HB.out]; simp
      case measure => simp [intOf]; omega
    · have hyb : y < 128 := by omega
      obtain ⟨b, hb⟩ : ∃ b, b = UInt8.ofNat y := ⟨_, rfl⟩
      have hx : (y : Int) = (b.toNat : Int) := by rw [hb, byteNat _ (by omega)]
      have HB := hid hb
      have HX := hid hx
      have own1 : Own 5 (wr.alloc (.cells #[.int .u8 (y : Int)] 5)) w.heap.size (.slice A l1.length c) l1 := ho.mod ((Mod.refl Nil wr).alloc _) (fun _ _ hf => hf)
      have hsz : w.heap.size ≤ (wr.alloc (.cells #[.int .u8 (y : Int)] 5)).heap.size := (hU.alloc _).size
      clear hb hx
      go_wp2_with (at_builtin; refine wpList_append_bs (t := 24) tyU8 rfl (.tmp 15) (.tmp 18) rfl own1 hsz (one_src wr 5 b HX.out) (l1.length + 1) rfl rfl rfl hll ?_; intro A1 c1 w1 ho1 hm1 ha1)
      have hU1 : Up w.heap.size w w1 := (hU.alloc _).mod hm1 (fun j hj => (own1.lt j hj).1)
      go_ret
      refine ⟨_, rfl, ?_, hU1.below⟩
      rw [HNN.out, vlay_small hyb, ← HB.out]
      exact ho1

theorem refInt_any (w : World) (n : Int) (h1 : -9223372036854775808 ≤ n) (h2 : n ≤ 9223372036854775807) :
    Calls Try.prog 28 #[.int .i64 n] w fun e w' => ∃ v', e = .returned v' ∧ Own 5 w' w.heap.size v' (vlay (zig n)) ∧ Below w.heap.size w w' := by
  have hC := refNum_any w (zig n) (zig_lt n h1 h2)
  obtain ⟨V, hV⟩ : ∃ V, V = vlay (zig n) := ⟨_, rfl⟩
  rw [← hV] at hC ⊢
  by_cases h : 0 ≤ n
  · have hz : (zig n : Int) = n * 2 := by unfold zig; rw [if_pos h]; omega
    rw [hz] at hC
    have HC := hid hC
    clear hC hz hV
    go_enter Try.func28, Try.ntmps28
    go_wp2_with (go_at_call 26; refine Calls.mono HC.out ?_; rintro e w1 ⟨v1, rfl, ho1, hb1⟩)
    go_ret
    exact ⟨_, rfl, ho1, hb1⟩
  · have hz : (zig n : Int) = -(n + 1) * 2 + 1 := by unfold zig; rw [if_neg h]; omega
    rw [hz] at hC
    have HC := hid hC
    clear hC hz hV
    go_enter Try.func28, Try.ntmps28
    go_wp2_with (go_at_call 26; refine Calls.mono HC.out ?_; rintro e w1 ⟨v1, rfl, ho1, hb1⟩)
    go_ret
    exact ⟨_, rfl, ho1, hb1⟩

theorem refText_any {S : Nat → Prop} (w : World) (A : Option Addr) (c : Nat) (t : List UInt8) (h : Bs S w A c t) (hl : t.length + 10 ≤ 140737488355328) :
    Calls Try.prog 30 #[.slice A t.length c] w fun e w' => ∃ v', e = .returned v' ∧ Own 5 w' w.heap.size v' (vlay t.length ++ t) ∧ Below w.heap.size w w' := by
  have hvl := vlay_length t.length (by omega)
  have hC := refNum_any w t.length (by omega)
  obtain ⟨V, hV⟩ : ∃ V, V = vlay t.length := ⟨_, rfl⟩
  rw [← hV] at hC hvl ⊢
  obtain ⟨M, hM⟩ : ∃ M, M = V.length + t.length := ⟨_, rfl⟩
  have hMl : M ≤ 140737488355328 := by omega
  have HC := hid hC
  have HM := hid hM
  clear hC hV hM hvl
  go_enter Try.func30, Try.ntmps30
  go_wp2_with (first
    | (go_at_call 26; refine Calls.mono HC.out ?_; rintro e w1 ⟨v1, rfl, ho1, hb1⟩; have h1 := h.old hb1; obtain ⟨A1, c1, rfl, hs1⟩ := ho1.form)
    | (at_builtin; refine wpList_append_bs (t := 24) tyU8 rfl (.tmp 6) (.tmp 7) rfl ho1 hb1.size h1 M HM.out rfl rfl hMl ?_; intro A2 c2 w2 ho2 hm2 ha2))
  go_ret
  exact ⟨_, rfl, ho2, ((Mod.of_below hb1 Nil).trans hm2 (fun j hj hk => by have := (ho1.lt j hk).1; omega)).below (Nat.le_refl _) (fun _ hf => hf.elim)⟩
end Go.Proofs.Ytlefkbmenceflaa
