/-
  Comparisons, and sizes: what the program's wide.Cmp and Sign, and its sizes' less, turned, sized, signed and compare answer.
-/
import Derived.Test.YtfalllekhcocgaaDoorWide1
import Derived.Deep.RegionHeld3
namespace Go.Proofs.YtfalllekhcocgaaDoor
open Go.RowKit

theorem alloc_size (w : World) (o : Obj) : (w.alloc o).heap.size = w.heap.size + 1 := by simp
/-- which of two is greater -/
def cmp3 (a b : Int) : Int := if a < b then -1 else if b < a then 1 else 0
theorem cmp3_lt {a b : Int} (h : a < b) : cmp3 a b = -1 := if_pos h
theorem cmp3_gt {a b : Int} (h : b < a) : cmp3 a b = 1 := by unfold cmp3; rw [if_neg (by omega), if_pos h]
theorem cmp3_eq (a : Int) : cmp3 a a = 0 := by unfold cmp3; rw [if_neg (by omega), if_neg (by omega)]
theorem cmp3_cases (a b : Int) : (a < b ∧ cmp3 a b = -1) ∨ (b < a ∧ cmp3 a b = 1) ∨ (a = b ∧ cmp3 a b = 0) := by
  rcases Int.lt_trichotomy a b with h | h | h
  · exact .inl ⟨h, cmp3_lt h⟩
  · subst h; exact .inr (.inr ⟨rfl, cmp3_eq a⟩)
  · exact .inr (.inl ⟨h, cmp3_gt h⟩)

theorem nanI (w : World) (x : Int) : Calls Tryd.prog 90 #[.int .i64 x] w fun e w' => e = .returned (.bool false) ∧ w = w' := by
  go_enter Tryd.func90, Tryd.ntmps90
  go_wp2
  go_ret
  simp
theorem nanU (w : World) (x : Int) : Calls Tryd.prog 91 #[.int .u64 x] w fun e w' => e = .returned (.bool false) ∧ w = w' := by
  go_enter Tryd.func91, Tryd.ntmps91
  go_wp2
  go_ret
  simp
theorem compareI (w : World) (a b : Int) : Calls Tryd.prog 60 #[.int .i64 a, .int .i64 b] w fun e w' => e = .returned (.int .i64 (cmp3 a b)) ∧ w = w' := by
  rcases cmp3_cases a b with ⟨h, e⟩ | ⟨h, e⟩ | ⟨h, e⟩
  · rw [e]
    go_enter Tryd.func60, Tryd.ntmps60
    go_wp2_with (go_at_call 90; refine (nanI _ _).mono ?_; rintro e w' ⟨rfl, rfl⟩)
    go_ret
    exact ⟨rfl, rfl⟩
  · rw [e]
    have h2 : ¬ a < b := by omega
    go_enter Tryd.func60, Tryd.ntmps60
    go_wp2_with (go_at_call 90; refine (nanI _ _).mono ?_; rintro e w' ⟨rfl, rfl⟩)
    go_ret
    exact ⟨rfl, rfl⟩
  · rw [e]
    subst h
    go_enter Tryd.func60, Tryd.ntmps60
    go_wp2_with (go_at_call 90; refine (nanI _ _).mono ?_; rintro e w' ⟨rfl, rfl⟩)
    go_ret
    exact ⟨rfl, rfl⟩
theorem compareU (w : World) (a b : Int) : Calls Tryd.prog 61 #[.int .u64 a, .int .u64 b] w fun e w' => e = .returned (.int .i64 (cmp3 a b)) ∧ w = w' := by
  rcases cmp3_cases a b with ⟨h, e⟩ | ⟨h, e⟩ | ⟨h, e⟩
  · rw [e]
    go_enter Tryd.func61, Tryd.ntmps61
    go_wp2_with (go_at_call 91; refine (nanU _ _).mono ?_; rintro e w' ⟨rfl, rfl⟩)
    go_ret
    exact ⟨rfl, rfl⟩
  · rw [e]
    have h2 : ¬ a < b := by omega
    go_enter Tryd.func61, Tryd.ntmps61
    go_wp2_with (go_at_call 91; refine (nanU _ _).mono ?_; rintro e w' ⟨rfl, rfl⟩)
    go_ret
    exact ⟨rfl, rfl⟩
  · rw [e]
    subst h
    go_enter Tryd.func61, Tryd.ntmps61
    go_wp2_with (go_at_call 91; refine (nanU _ _).mono ?_; rintro e w' ⟨rfl, rfl⟩)
    go_ret
    exact ⟨rfl, rfl⟩

/-- the first of two that is not 0 -/
theorem or_any (w : World) (g : Nat) (x y : Int) (h0 : w.cell? ⟨g, 0, none⟩ = some (.int .i64 x)) (h1 : w.cell? ⟨g, 1, none⟩ = some (.int .i64 y)) :
    Calls Tryd.prog 59 #[.slice (some ⟨g, 0, none⟩) 2 2] w fun e w' => e = .returned (.int .i64 (if x = 0 then y else x)) ∧ Below w.heap.size w w' := by
  go_enter Tryd.func59, Tryd.ntmps59
  go_wp2
  go_loopw [8] (fun i wr => ∃ k : Nat, k ≤ 2 ∧ i = .int .i64 k ∧ (1 ≤ k → x = 0) ∧ (2 ≤ k → y = 0) ∧ Below w.heap.size w wr) (fun i _ => 2 - (intOf i).toNat)
  case atStart => exact ⟨0, by omega, rfl, fun h => by omega, fun h => by omega, Below.refl _ _⟩
  case round =>
    obtain ⟨k, hk, rfl, hx, hy, hb⟩ := hrel
    have h0' : x = x → wr.cell? ⟨g, 0, none⟩ = some (.int .i64 x) := fun _ => (hb.cell (p := ⟨g, 0, none⟩) (World.block_lt_of_cell? _ _ h0)).trans h0
    have h1' : y = y → wr.cell? ⟨g, 1, none⟩ = some (.int .i64 y) := fun _ => (hb.cell (p := ⟨g, 1, none⟩) (World.block_lt_of_cell? _ _ h1)).trans h1
    have h0' := h0' rfl
    have h1' := h1' rfl
    rcases (show k = 0 ∨ k = 1 ∨ k = 2 by omega) with rfl | rfl | rfl
    · by_cases hz : x = 0
      · subst hz
        go_wp2
        go_roundw
        case rel => exact ⟨1, by omega, by go_num, fun _ => by trivial, fun h => by omega, hb⟩
        case measure => simp [intOf]
      · have hz' : ¬ 0 = x := fun h => hz h.symm
        go_wp2
        go_ret
        exact ⟨rfl, hb⟩
    · obtain rfl := hx (by omega)
      by_cases hz : y = 0
      · subst hz
        go_wp2
        go_roundw
        case rel => exact ⟨2, by omega, by go_num, fun _ => by trivial, fun _ => by trivial, hb⟩
        case measure => simp [intOf]
      · have hz' : ¬ 0 = y := fun h => hz h.symm
        go_wp2
        go_ret
        exact ⟨rfl, hb⟩
    · obtain rfl := hx (by omega)
      obtain rfl := hy (by omega)
      go_wp2
      go_ret
      exact ⟨rfl, hb⟩

/-! ## Sizes -/
theorem less_words (w : World) (mh ml nh nl : Int) (h1 : 0 ≤ mh ∧ mh < 18446744073709551616) (h2 : 0 ≤ ml ∧ ml < 18446744073709551616) (h3 : 0 ≤ nh ∧ nh < 18446744073709551616) (h4 : 0 ≤ nl ∧ nl < 18446744073709551616) :
    Calls Tryd.prog 93 #[.agg #[.int .u64 mh, .int .u64 ml], .agg #[.int .u64 nh, .int .u64 nl]] w fun e w' =>
      e = .returned (UV ((mh * 18446744073709551616 + ml - (nh * 18446744073709551616 + nl)) % 340282366920938463463374607431768211456)) ∧ Below w.heap.size w w' := by
  have hA := fun w => sub64 ml nl 0 h2.1 h4.1 h4.2 (Int.le_refl 0) (by decide) h2.2 w
  rw [Int.sub_zero] at hA
  obtain ⟨s, hs⟩ : ∃ s, s = (ml - nl) % 18446744073709551616 := ⟨_, rfl⟩
  obtain ⟨b, hb⟩ : ∃ b, b = -((ml - nl) / 18446744073709551616) := ⟨_, rfl⟩
  have hB := fun w => sub64 mh nh b h1.1 h3.1 h3.2 (by omega) (by omega) h1.2 w
  obtain ⟨r, hr⟩ : ∃ r, r = (mh - nh - b) % 18446744073709551616 := ⟨_, rfl⟩
  obtain ⟨b2, hb2⟩ : ∃ b2, b2 = -((mh - nh - b) / 18446744073709551616) := ⟨_, rfl⟩
  rw [← hs, ← hb] at hA
  rw [← hr, ← hb2] at hB
  rw [show (mh * 18446744073709551616 + ml - (nh * 18446744073709551616 + nl)) % 340282366920938463463374607431768211456 = r * 18446744073709551616 + s by omega, UV_words (by omega) (by omega)]
  clear hs hb hr hb2 h1 h2 h3 h4
  go_enter Tryd.func93, Tryd.ntmps93
  go_wp2
  simp [bodyPost, results, Tryd.results93, go_sem]
  exact ((((Up.refl w).alloc _).alloc _).alloc _).below

theorem turned_words (w : World) (mh ml : Int) (h1 : 0 ≤ mh ∧ mh < 18446744073709551616) (h2 : 0 ≤ ml ∧ ml < 18446744073709551616) :
    Calls Tryd.prog 71 #[.agg #[.int .u64 mh, .int .u64 ml]] w fun e w' =>
      e = .returned (UV ((-(mh * 18446744073709551616 + ml)) % 340282366920938463463374607431768211456)) ∧ Below w.heap.size w w' := by
  have hC := fun w => less_words w 0 0 mh ml (by decide) (by decide) h1 h2
  rw [show (0 : Int) * 18446744073709551616 + 0 - (mh * 18446744073709551616 + ml) = -(mh * 18446744073709551616 + ml) by omega] at hC
  obtain ⟨ra, rb, hr, _⟩ := UV_of (m := (-(mh * 18446744073709551616 + ml)) % 340282366920938463463374607431768211456) (by unfold Big; omega)
  rw [hr] at hC ⊢
  have HC := hid hC
  clear hC hr h1 h2
  go_enter Tryd.func71, Tryd.ntmps71
  go_wp2_with fail
  refine Calls.mono (HC.out _) ?_; rintro e w' ⟨rfl, hb⟩
  have hR := (Row.new (w.alloc (.cells #[.int .u64 mh, .int .u64 ml] 54)) 54 #[.int .u64 0, .int .u64 0]).mod (Mod.of_below hb Nil) (fun hf => hf)
  have c0 := hR.cell 0
  have c1 := hR.cell 1
  have f0 := hR.frozen 0
  have f1 := hR.frozen 1
  obtain ⟨d0, d1, _⟩ := hR.two (.int .u64 ra) (.int .u64 rb)
  simp at c0 c1 f0 f1 d0 d1
  go_wp2_with fail
  simp [bodyPost, results, Tryd.results71, go_sem, d0, d1]
  exact ((((((Up.refl w).alloc _).alloc _).trans hb).setCell (by simp) _).setCell (by simp) _).below

/-- how great a number is -/
def mag (x : Int) : Int := if x < 0 then -x else x
theorem mag_cases (x : Int) : (x < 0 ∧ mag x = -x) ∨ (0 ≤ x ∧ mag x = x) := by
  unfold mag
  split
  · exact .inl ⟨by assumption, rfl⟩
  · exact .inr ⟨by omega, rfl⟩
theorem mag_big {x : Int} (h : Fits x) : Big (mag x) := by
  unfold Fits at h
  unfold Big
  rcases mag_cases x with ⟨_, e⟩ | ⟨_, e⟩ <;> omega

theorem sized_words (w : World) (hi lo : Int) (h1 : -9223372036854775808 ≤ hi ∧ hi < 9223372036854775808) (h2 : 0 ≤ lo ∧ lo < 18446744073709551616) :
    Calls Tryd.prog 41 #[.agg #[.int .i64 hi, .int .u64 lo]] w fun e w' =>
      e = .returned (.tuple #[UV (mag (hi * 18446744073709551616 + lo)), .bool (decide (hi < 0))]) ∧ Below w.heap.size w w' := by
  obtain ⟨u, hu⟩ : ∃ u, u = IntKind.u64.wrap hi := ⟨_, rfl⟩
  have hu' := hu
  rw [IntKind.wrap_u64] at hu'
  have hus := hu.symm
  by_cases hn : hi < 0
  · have e : mag (hi * 18446744073709551616 + lo) = (-(u * 18446744073709551616 + lo)) % 340282366920938463463374607431768211456 := by
      rcases mag_cases (hi * 18446744073709551616 + lo) with ⟨_, e⟩ | ⟨_, e⟩ <;> rw [e] <;> omega
    have hC := fun w => turned_words w u lo (by omega) h2
    rw [e, decide_eq_true hn]
    obtain ⟨ra, rb, hr, _⟩ := UV_of (m := (-(u * 18446744073709551616 + lo)) % 340282366920938463463374607431768211456) (by unfold Big; omega)
    rw [hr] at hC ⊢
    have HC := hid hC
    clear hC hr h1 h2 hu' hu e
    go_enter Tryd.func41, Tryd.ntmps41
    go_wp2_with fail
    refine Calls.mono (HC.out _) ?_; rintro e w' ⟨rfl, hb⟩
    have hR := ((Row.new (w.alloc (.cells #[.int .i64 hi, .int .u64 lo] 24)) 54 #[.int .u64 0, .int .u64 0]).alloc (.cells #[.int .u64 u, .int .u64 lo] 54)).mod (Mod.of_below hb Nil) (fun hf => hf)
    have c0 := hR.cell 0
    have c1 := hR.cell 1
    have f0 := hR.frozen 0
    have f1 := hR.frozen 1
    obtain ⟨d0, d1, _⟩ := hR.two (.int .u64 ra) (.int .u64 rb)
    simp at c0 c1 f0 f1 d0 d1
    go_wp2_with fail
    simp [bodyPost, results, Tryd.results41, go_sem, d0, d1]
    exact (((((((Up.refl w).alloc _).alloc _).alloc _).trans hb).setCell (by simp) _).setCell (by simp) _).below
  · have e : mag (hi * 18446744073709551616 + lo) = u * 18446744073709551616 + lo := by
      rcases mag_cases (hi * 18446744073709551616 + lo) with ⟨_, e⟩ | ⟨_, e⟩ <;> rw [e] <;> omega
    rw [e, UV_words h2.1 h2.2, decide_eq_false hn]
    clear e hu' hu h1 h2
    go_enter Tryd.func41, Tryd.ntmps41
    go_wp2_with fail
    simp [bodyPost, results, Tryd.results41, go_sem]
    exact ((((Up.refl w).alloc _).alloc _).alloc _).below

end Go.Proofs.YtfalllekhcocgaaDoor
