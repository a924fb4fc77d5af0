/-
  The reference's product of two numbers of digits.
-/
import Derived.Test.YtfalllekhcocgaaDoorRefA
namespace Go.Proofs.YtfalllekhcocgaaDoor
open Go.RowKit

/-- a row of a product, done -/
theorem mul_row {m n t c i : Nat} (hn : n < BP 7) (h : t + c * BP (i + 8) = m % BP i * n + dg m i * BP i * (n % BP 8)) : t = m % BP (i + 1) * n := by
  have h8 : n % BP 8 = n := Nat.mod_eq_of_lt (Nat.lt_of_lt_of_le hn (BP_le (by omega)))
  rw [h8, Nat.mul_comm (dg m i), ← Nat.add_mul, ← mod_succ] at h
  have hlt : m % BP (i + 1) * n < BP (i + 8) := by
    have h1 := Nat.mod_lt m (BP_pos (i + 1))
    have h2 : m % BP (i + 1) * n ≤ m % BP (i + 1) * BP 7 := Nat.mul_le_mul_left _ (Nat.le_of_lt hn)
    have h3 : m % BP (i + 1) * BP 7 < BP (i + 1) * BP 7 := Nat.mul_lt_mul_of_pos_right h1 (BP_pos 7)
    rw [← BP_add] at h3
    have : i + 1 + 7 = i + 8 := by omega
    rw [this] at h3
    omega
  have hc : c = 0 := by
    rcases Nat.eq_zero_or_pos c with h1 | h1
    · exact h1
    · have := Nat.mul_le_mul_right (BP (i + 8)) h1
      omega
  rw [hc] at h
  omega

set_option maxRecDepth 100000 in
set_option maxHeartbeats 2000000 in
theorem rmul_any (w : World) (m n : Nat) (hm : m < BP 8) (hn : n < BP 7) : Calls Tryd.prog 92 #[DV m, DV n] w fun e w' => e = .returned (DV (m * n)) ∧ Below w.heap.size w w' := by
  have hA := (((Row.new w 74 (digs m)).alloc (.cells (digs n) 74)).alloc (.cells (digs 0) 74)).alloc (.cells (digs 0) 74)
  have hB := ((Row.new (w.alloc (.cells (digs m) 74)) 74 (digs n)).alloc (.cells (digs 0) 74)).alloc (.cells (digs 0) 74)
  have hO := (Row.new ((w.alloc (.cells (digs m) 74)).alloc (.cells (digs n) 74)) 74 (digs 0)).alloc (.cells (digs 0) 74)
  have hC := Row.new (((w.alloc (.cells (digs m) 74)).alloc (.cells (digs n) 74)).alloc (.cells (digs 0) 74)) 74 (digs 0)
  have hU := ((((Up.refl w).alloc (.cells (digs m) 74)).alloc (.cells (digs n) 74)).alloc (.cells (digs 0) 74)).alloc (.cells (digs 0) 74)
  simp only [alloc_sz] at hB hO hC
  have HM := hid hm
  have HN := hid hn
  clear hm hn
  unfold DV
  go_enter Tryd.func92, Tryd.ntmps92
  go_wp2_with fail
  obtain ⟨V, hV⟩ : ∃ V, V = (((w.alloc (.cells (digs m) 74)).alloc (.cells (digs n) 74)).alloc (.cells (digs 0) 74)).alloc (.cells (digs 0) 74) := ⟨_, rfl⟩
  rw [digs_0] at hV
  rw [← hV]
  rw [← digs_0] at hV
  rw [← hV] at hA hB hO hC hU
  clear hV
  go_loopw [6] (fun i wr => ∃ k t : Nat, k ≤ 8 ∧ i = .int .i64 (k : Int) ∧ t = m % BP k * n ∧ t < BP 16 ∧ Row wr w.heap.size 74 (digs m) ∧ Row wr (w.heap.size + 1) 74 (digs n) ∧ Row wr (w.heap.size + 1 + 1) 74 (digs 0) ∧ Row wr (w.heap.size + 1 + 1 + 1) 74 (digs t) ∧ Up w.heap.size w wr) (fun i _ => 8 - (intOf i).toNat)
  case atStart => exact ⟨0, 0, by omega, rfl, by simp [BP_zero, Nat.mod_one], BP_pos 16, hA, hB, hO, hC, hU⟩
  case round =>
    clear hA hB hO hC hU
    obtain ⟨i, t, hk, rfl, ht, htl, hA, hB, hO, hC, hU⟩ := hrel
    by_cases hlt : i < 8
    · obtain ⟨x, hx⟩ : ∃ x, x = dg m i := ⟨_, rfl⟩
      obtain ⟨b0, hb0⟩ : ∃ b0, b0 = m % BP i * n := ⟨_, rfl⟩
      rw [← hb0] at ht
      have lx := dg_lt m i
      rw [← hx] at lx
      have HX := hid hx
      have HB0 := hid hb0
      have HT := hid ht
      clear ht hx hb0
      obtain ⟨wo, hwo⟩ : ∃ wo : World, wo = wr := ⟨_, rfl⟩
      go_wp2
      go_loopw [7, 8] (fun c j wi => ∃ k t c' : Nat, k ≤ 8 ∧ j = .int .i64 (k : Int) ∧ c = .int .u64 (c' : Int) ∧ c' < 4294967296 ∧ t + c' * BP (i + k) = b0 + x * BP i * (n % BP k) ∧ t < BP 16 ∧ Row wi w.heap.size 74 (digs m) ∧ Row wi (w.heap.size + 1) 74 (digs n) ∧ Row wi (w.heap.size + 1 + 1) 74 (digs 0) ∧ Row wi (w.heap.size + 1 + 1 + 1) 74 (digs t) ∧ Up w.heap.size w wi) (fun _ j _ => 8 - (intOf j).toNat)
      case atStart => exact ⟨0, t, 0, by omega, rfl, rfl, by decide, by rw [HT.out, BP_zero, Nat.mod_one]; omega, htl, hA, hB, hO, hC, hU⟩
      case round =>
        clear hA hB hO hC hU HT htl hwo
        obtain ⟨k, t, c, hk, rfl, rfl, lc, ht, htl, hA, hB, hO, hC, hU⟩ := hrel
        by_cases hlk : k < 8
        · have ca := hA.cell i
          have cb := hB.cell k
          have cf := hC.frozen (i + k)
          have cc := hC.cell (i + k)
          rw [digs_get _ (by omega)] at ca cb cc
          rw [← HX.out] at ca
          have l2 := dg_lt n k
          have l4 := dg_lt t (i + k)
          obtain ⟨y, hy⟩ : ∃ y, y = dg n k := ⟨_, rfl⟩
          obtain ⟨d, hd⟩ : ∃ d, d = dg t (i + k) := ⟨_, rfl⟩
          have hs := mul_step (n := t) (b := n) (i := i) (k := k) (x := x) (c := c) (s := d + x * y + c) (by rw [hy, hd])
          have hmod := mod_succ n k
          have hge : n % BP k ≤ n % BP (k + 1) := by omega
          have hge2 : x * BP i * (n % BP k) ≤ x * BP i * (n % BP (k + 1)) := Nat.mul_le_mul_left _ hge
          rw [← hy] at cb l2
          rw [← hd] at cc l4
          have room := digit_room lx l2 l4 lc
          obtain ⟨p, hp⟩ : ∃ p, p = x * y := ⟨_, rfl⟩
          rw [← hp] at hs room
          have hpi : ((x : Int) * (y : Int)) = (p : Int) := by rw [hp]; simp
          have ls := Nat.mod_lt (d + p + c) (show 0 < 4294967296 by decide)
          have lc2 : (d + p + c) / 4294967296 < 4294967296 := by omega
          obtain ⟨s, hs1⟩ : ∃ s, s = (d + p + c) % 4294967296 := ⟨_, rfl⟩
          obtain ⟨c', hc'⟩ : ∃ c', c' = (d + p + c) / 4294967296 := ⟨_, rfl⟩
          rw [← hs1] at hs ls
          rw [← hc'] at hs lc2
          have HV := hid (show put t (i + k) s + c' * BP (i + (k + 1)) = b0 + x * BP i * (n % BP (k + 1)) by omega)
          clear hs hmod hge hge2 ht
          have w1 : IntKind.u64.wrap ((x : Int) * (y : Int)) = (p : Int) := by rw [hpi, IntKind.wrap_u64]; omega
          have w2 : IntKind.u64.wrap ((d : Int) + p) = (d : Int) + p := by rw [IntKind.wrap_u64]; omega
          have w3 : IntKind.u64.wrap ((d : Int) + p + c) = (d : Int) + p + c := by rw [IntKind.wrap_u64]; omega
          have w4 : ((d : Int) + p + c) % 4294967296 = (s : Int) := by omega
          have w5 : ((d : Int) + p + c) / 4294967296 = (c' : Int) := by omega
          have w6 : IntKind.i64.wrap ((i : Int) + k) = (i : Int) + k := by rw [IntKind.wrap_i64]; omega
          have w7 : ((i : Int) + (k : Int)).toNat = i + k := by omega
          have w8 : (0 : Int) ≤ (i : Int) + (k : Int) := by omega
          have w9 : (i : Int) + (k : Int) < 16 := by omega
          have HA := hA.far (p := ⟨w.heap.size + 1 + 1 + 1, i + k, none⟩) (by first | (simp; done) | (simp; omega)) (.int .u64 (s : Int))
          have HB := hB.far (p := ⟨w.heap.size + 1 + 1 + 1, i + k, none⟩) (by first | (simp; done) | (simp; omega)) (.int .u64 (s : Int))
          have HO := hO.far (p := ⟨w.heap.size + 1 + 1 + 1, i + k, none⟩) (by first | (simp; done) | (simp; omega)) (.int .u64 (s : Int))
          have HR := hC.set (i + k) (.int .u64 (s : Int))
          rw [digs_set t ls] at HR
          have HTL := hid (put_lt (j := i + k) (v := s) htl (by omega) ls)
          clear hy hd hp hpi hs1 hc' htl room
          go_wp2
          go_quiet (fail)
          go_wp2
          go_roundw
          case rel => exact ⟨k + 1, put t (i + k) s, c', by omega, by go_num, by first | rfl | rw [w5], lc2, HV.out, HTL.out, HA, HB, HO, HR, (hU.drewN _).setCell (by omega) _⟩
          case measure => simp [intOf]; omega
        · obtain rfl : k = 8 := by omega
          have hrow := mul_row HN.out (by rw [← HX.out, ← HB0.out]; exact ht)
          have HT := hid hrow
          clear ht hrow
          go_wp2
          go_roundw
          case rel => exact ⟨i + 1, t, by omega, by go_num, HT.out, htl, hA, hB, hO, hC, hU⟩
          case measure => simp [intOf]; omega
    · obtain rfl : i = 8 := by omega
      have hts : t = m * n := by rw [ht, Nat.mod_eq_of_lt HM.out]
      clear ht htl
      subst hts
      go_wp2_with (first | (refine wpList_load_row rfl 74 _ rfl (w.heap.size + 1 + 1 + 1) rfl 74 (digs (m * n)) (0, 0) _ hC Tryd.underlying74 rfl (size_Dn (m * n)) ?_) | (refine wpList_store_row rfl 74 _ _ rfl (w.heap.size + 1 + 1) (digs (m * n)) rfl rfl 74 (digs 0) hO (size_Dn (m * n)) (by rw [digs_size, digs_size]) (digs_one (m * n)) ?_))
      exact bodyPost_ret (v := DV (m * n)) (results_cell_row Tryd.results92 _ _ (w.heap.size + 1 + 1) 74 (digs (m * n)) (0, 0) _ rfl (hO.putRow _) Tryd.underlying74 rfl (size_Dn (m * n))) rfl ⟨rfl, (hU.setRow (by omega) _).below⟩
end Go.Proofs.YtfalllekhcocgaaDoor
