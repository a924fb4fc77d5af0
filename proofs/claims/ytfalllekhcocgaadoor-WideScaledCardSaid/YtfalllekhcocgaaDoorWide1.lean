/-
  Sums, differences, comparisons: what the program's wide.Add, Sub, Neg, Cmp, Sign and Of answer, of any two numbers.
-/
import Derived.Test.YtfalllekhcocgaaDoorWords
import Derived.Test.YtfalllekhcocgaaDoorSign
import Derived.Test.YtfalllekhcocgaaDoorRows
import Derived.Laws.Externs
namespace Go.Proofs.YtfalllekhcocgaaDoor
open Go.RowKit

/-! ## The carry's two functions -/
def sub64E : Array Value → Sem Value := fun args => do
  let (x, y, b) ← Extern.MathBitsCarry.three "Sub64" args
  pure (Extern.MathBitsCarry.pair ((x + Extern.MathBitsCarry.m64 - y - b) % Extern.MathBitsCarry.m64) (if x < y + b then 1 else 0))
theorem run_sub64E {P : Program} (x y b : Nat) (hb : b ≤ 1) (w : World) :
    (sub64E #[.int .u64 x, .int .u64 y, .int .u64 b]).run P w =
      .ok (.tuple #[.int .u64 (((x + 18446744073709551616 - y - b) % 18446744073709551616 : Nat) : Int), .int .u64 ((if x < y + b then 1 else 0 : Nat) : Int)]) w := by
  have : b = 0 ∨ b = 1 := by omega
  rcases this with rfl | rfl <;> rfl

theorem add64 (x y c : Int) (hx : 0 ≤ x) (hy : 0 ≤ y) (hc0 : 0 ≤ c) (hc : c ≤ 1) (w : World) : (callFunc 50 #[.int .u64 x, .int .u64 y, .int .u64 c]).run Tryd.prog w =
    .ok (.value (.tuple #[.int .u64 ((x + y + c) % 18446744073709551616), .int .u64 ((x + y + c) / 18446744073709551616)])) w := by
  rw [run_callFunc_extern Tryd.func50 (by kernel_rfl) (by kernel_rfl) (by kernel_rfl) (e := add64Entry) (by kernel_rfl), run_add64 x y c hx hy hc0 hc]
  rfl
theorem sub64 (x y b : Int) (hx : 0 ≤ x) (hy : 0 ≤ y) (hy' : y < 18446744073709551616) (hb0 : 0 ≤ b) (hb : b ≤ 1) (hx' : x < 18446744073709551616) (w : World) : (callFunc 57 #[.int .u64 x, .int .u64 y, .int .u64 b]).run Tryd.prog w =
    .ok (.value (.tuple #[.int .u64 ((x - y - b) % 18446744073709551616), .int .u64 (-((x - y - b) / 18446744073709551616))])) w := by
  obtain ⟨x, rfl⟩ := Int.eq_ofNat_of_zero_le hx
  obtain ⟨y, rfl⟩ := Int.eq_ofNat_of_zero_le hy
  obtain ⟨b, rfl⟩ := Int.eq_ofNat_of_zero_le hb0
  rw [run_callFunc_extern Tryd.func57 (by kernel_rfl) (by kernel_rfl) (by kernel_rfl) (e := sub64E) (by kernel_rfl), run_sub64E x y b (by omega)]
  have e1 : (((x + 18446744073709551616 - y - b) % 18446744073709551616 : Nat) : Int) = ((x : Int) - y - b) % 18446744073709551616 := by omega
  have e2 : ((if x < y + b then 1 else 0 : Nat) : Int) = -(((x : Int) - y - b) / 18446744073709551616) := by split <;> omega
  rw [e1, e2]
  rfl

/-! ## Add, Sub, Neg -/
set_option maxHeartbeats 1000000 in
theorem add_words (w : World) (ah al bh bl : Int) (h1 : -9223372036854775808 ≤ ah ∧ ah < 9223372036854775808) (h2 : 0 ≤ al ∧ al < 18446744073709551616) (h3 : -9223372036854775808 ≤ bh ∧ bh < 9223372036854775808) (h4 : 0 ≤ bl ∧ bl < 18446744073709551616) :
    Calls Tryd.prog 22 #[.agg #[.int .i64 ah, .int .u64 al], .agg #[.int .i64 bh, .int .u64 bl]] w fun e w' =>
      e = .returned (resV (ah * 18446744073709551616 + al + (bh * 18446744073709551616 + bl))) ∧ Below w.heap.size w w' := by
  have hA := fun w => add64 al bl 0 h2.1 h4.1 (Int.le_refl 0) (by decide) w
  rw [Int.add_zero] at hA
  obtain ⟨s, hs⟩ : ∃ s, s = (al + bl) % 18446744073709551616 := ⟨_, rfl⟩
  obtain ⟨c, hc⟩ : ∃ c, c = (al + bl) / 18446744073709551616 := ⟨_, rfl⟩
  obtain ⟨t, ht⟩ : ∃ t, t = IntKind.i64.wrap (ah + bh) := ⟨_, rfl⟩
  obtain ⟨r, hr⟩ : ∃ r, r = IntKind.i64.wrap (t + c) := ⟨_, rfl⟩
  rw [← hs, ← hc] at hA
  have ht' := ht
  have hr' := hr
  rw [IntKind.wrap_i64] at ht' hr'
  have hrr : -9223372036854775808 ≤ r ∧ r < 9223372036854775808 := by omega
  have hcw : IntKind.i64.wrap c = c := by rw [IntKind.wrap_i64]; omega
  have hsg := sign_two ah bh r r h1 h3 hrr hrr
  have hsum : resV (ah * 18446744073709551616 + al + (bh * 18446744073709551616 + bl)) = if bits .and .i64 (bits .xor .i64 ah r) (bits .xor .i64 bh r) < 0 then .tuple #[.agg #[.int .i64 0, .int .u64 0], .int .i64 20] else .tuple #[.agg #[.int .i64 r, .int .u64 s], .int .i64 0] := by
    by_cases hf : Fits (ah * 18446744073709551616 + al + (bh * 18446744073709551616 + bl))
    · rw [resV_fit hf]
      unfold Fits at hf
      rw [if_neg (by rw [hsg]; omega), show ah * 18446744073709551616 + al + (bh * 18446744073709551616 + bl) = r * 18446744073709551616 + s by omega, WV_words (by omega) (by omega)]
    · rw [resV_over hf]
      unfold Fits at hf
      rw [if_pos (by rw [hsg]; omega)]
      rfl
  rw [hsum]
  clear hsg hsum ht' hr' hrr
  have HS := hid hs
  have HC := hid hc
  clear hs hc
  have hts := ht.symm
  have hrs := hr.symm
  clear ht hr h1 h2 h3 h4
  by_cases hn : bits .and .i64 (bits .xor .i64 ah r) (bits .xor .i64 bh r) < 0
  · rw [if_pos hn]
    go_enter Tryd.func22, Tryd.ntmps22
    go_wp2
    simp [bodyPost, results, Tryd.results22, go_sem]
    exact ((((Up.refl w).alloc _).alloc _).alloc _).below
  · rw [if_neg hn]
    go_enter Tryd.func22, Tryd.ntmps22
    go_wp2
    simp [bodyPost, results, Tryd.results22, go_sem]
    exact ((((Up.refl w).alloc _).alloc _).alloc _).below

theorem WV_of {x : Int} (h : Fits x) : ∃ hi lo : Int, WV x = .agg #[.int .i64 hi, .int .u64 lo] ∧ x = hi * 18446744073709551616 + lo ∧ (-9223372036854775808 ≤ hi ∧ hi < 9223372036854775808) ∧ (0 ≤ lo ∧ lo < 18446744073709551616) := by
  unfold Fits at h
  exact ⟨_, _, rfl, by omega, by omega, by omega⟩
theorem UV_of {m : Int} (h : Big m) : ∃ hi lo : Int, UV m = .agg #[.int .u64 hi, .int .u64 lo] ∧ m = hi * 18446744073709551616 + lo ∧ (0 ≤ hi ∧ hi < 18446744073709551616) ∧ (0 ≤ lo ∧ lo < 18446744073709551616) := by
  unfold Big at h
  exact ⟨_, _, rfl, by omega, by omega, by omega⟩

theorem add_any (w : World) (x y : Int) (hx : Fits x) (hy : Fits y) : Calls Tryd.prog 22 #[WV x, WV y] w fun e w' => e = .returned (resV (x + y)) ∧ Below w.heap.size w w' := by
  obtain ⟨ah, al, e1, rfl, h1, h2⟩ := WV_of hx
  obtain ⟨bh, bl, e2, rfl, h3, h4⟩ := WV_of hy
  rw [e1, e2]
  exact add_words w ah al bh bl h1 h2 h3 h4

set_option maxHeartbeats 1000000 in
theorem sub_words (w : World) (ah al bh bl : Int) (h1 : -9223372036854775808 ≤ ah ∧ ah < 9223372036854775808) (h2 : 0 ≤ al ∧ al < 18446744073709551616) (h3 : -9223372036854775808 ≤ bh ∧ bh < 9223372036854775808) (h4 : 0 ≤ bl ∧ bl < 18446744073709551616) :
    Calls Tryd.prog 24 #[.agg #[.int .i64 ah, .int .u64 al], .agg #[.int .i64 bh, .int .u64 bl]] w fun e w' =>
      e = .returned (resV (ah * 18446744073709551616 + al - (bh * 18446744073709551616 + bl))) ∧ Below w.heap.size w w' := by
  have hA := fun w => sub64 al bl 0 h2.1 h4.1 h4.2 (Int.le_refl 0) (by decide) h2.2 w
  rw [Int.sub_zero] at hA
  obtain ⟨s, hs⟩ : ∃ s, s = (al - bl) % 18446744073709551616 := ⟨_, rfl⟩
  obtain ⟨c, hc⟩ : ∃ c, c = -((al - bl) / 18446744073709551616) := ⟨_, rfl⟩
  obtain ⟨t, ht⟩ : ∃ t, t = IntKind.i64.wrap (ah - bh) := ⟨_, rfl⟩
  obtain ⟨r, hr⟩ : ∃ r, r = IntKind.i64.wrap (t - c) := ⟨_, rfl⟩
  rw [← hs, ← hc] at hA
  have ht' := ht
  have hr' := hr
  rw [IntKind.wrap_i64] at ht' hr'
  have hrr : -9223372036854775808 ≤ r ∧ r < 9223372036854775808 := by omega
  have hcw : IntKind.i64.wrap c = c := by rw [IntKind.wrap_i64]; omega
  have hsg := sign_two ah ah bh r h1 h1 h3 hrr
  have hsum : resV (ah * 18446744073709551616 + al - (bh * 18446744073709551616 + bl)) = if bits .and .i64 (bits .xor .i64 ah bh) (bits .xor .i64 ah r) < 0 then .tuple #[.agg #[.int .i64 0, .int .u64 0], .int .i64 20] else .tuple #[.agg #[.int .i64 r, .int .u64 s], .int .i64 0] := by
    by_cases hf : Fits (ah * 18446744073709551616 + al - (bh * 18446744073709551616 + bl))
    · rw [resV_fit hf]
      unfold Fits at hf
      rw [if_neg (by rw [hsg]; omega), show ah * 18446744073709551616 + al - (bh * 18446744073709551616 + bl) = r * 18446744073709551616 + s by omega, WV_words (by omega) (by omega)]
    · rw [resV_over hf]
      unfold Fits at hf
      rw [if_pos (by rw [hsg]; omega)]
      rfl
  rw [hsum]
  clear hsg hsum ht' hr' hrr
  have HS := hid hs
  have HC := hid hc
  clear hs hc
  have hts := ht.symm
  have hrs := hr.symm
  clear ht hr h1 h2 h3 h4
  by_cases hn : bits .and .i64 (bits .xor .i64 ah bh) (bits .xor .i64 ah r) < 0
  · rw [if_pos hn]
    go_enter Tryd.func24, Tryd.ntmps24
    go_wp2
    simp [bodyPost, results, Tryd.results24, go_sem]
    exact ((((Up.refl w).alloc _).alloc _).alloc _).below
  · rw [if_neg hn]
    go_enter Tryd.func24, Tryd.ntmps24
    go_wp2
    simp [bodyPost, results, Tryd.results24, go_sem]
    exact ((((Up.refl w).alloc _).alloc _).alloc _).below

theorem sub_any (w : World) (x y : Int) (hx : Fits x) (hy : Fits y) : Calls Tryd.prog 24 #[WV x, WV y] w fun e w' => e = .returned (resV (x - y)) ∧ Below w.heap.size w w' := by
  obtain ⟨ah, al, e1, rfl, h1, h2⟩ := WV_of hx
  obtain ⟨bh, bl, e2, rfl, h3, h4⟩ := WV_of hy
  rw [e1, e2]
  exact sub_words w ah al bh bl h1 h2 h3 h4

/-- a variable of two words, written -/
theorem Row.two {w : World} {g : Nat} {t : TypeId} {x y : Value} (h : Row w g t #[x, y]) (u v : Value) :
    (w.setCell ⟨g, 0, none⟩ u).cell? ⟨g, 0, none⟩ = some u ∧ ((w.setCell ⟨g, 0, none⟩ u).setCell ⟨g, 1, none⟩ v).cell? ⟨g, 1, none⟩ = some v ∧ ((w.setCell ⟨g, 0, none⟩ u).setCell ⟨g, 1, none⟩ v).cell? ⟨g, 0, none⟩ = some u := by
  have h1 := h.set 0 u
  have h2 := h1.set 1 v
  exact ⟨by simpa using h1.cell 0, by simpa using h2.cell 1, by simpa using h2.cell 0⟩

theorem resV_form (z : Int) : ∃ a b k : Int, resV z = .tuple #[.agg #[.int .i64 a, .int .u64 b], .int .i64 k] := by
  unfold resV
  split <;> exact ⟨_, _, _, rfl⟩

theorem neg_any (w : World) (x : Int) (hx : Fits x) : Calls Tryd.prog 14 #[WV x] w fun e w' => e = .returned (resV (-x)) ∧ Below w.heap.size w w' := by
  obtain ⟨ah, al, e1, rfl, h1, h2⟩ := WV_of hx
  have hC := fun w => sub_words w 0 0 ah al (by decide) (by decide) h1 h2
  rw [show (0 : Int) * 18446744073709551616 + 0 - (ah * 18446744073709551616 + al) = -(ah * 18446744073709551616 + al) by omega] at hC
  rw [e1]
  obtain ⟨ra, rb, k, hr⟩ := resV_form (-(ah * 18446744073709551616 + al))
  rw [hr] at hC ⊢
  have HC := hid hC
  clear hC hr h1 h2 hx e1
  go_enter Tryd.func14, Tryd.ntmps14
  go_wp2_with fail
  refine Calls.mono (HC.out _) ?_; rintro e w' ⟨rfl, hb⟩
  have hR := (Row.new (w.alloc (.cells #[.int .i64 ah, .int .u64 al] 24)) 24 #[.int .i64 0, .int .u64 0]).mod (Mod.of_below hb Nil) (fun hf => hf)
  have c0 := hR.cell 0
  have c1 := hR.cell 1
  have f0 := hR.frozen 0
  have f1 := hR.frozen 1
  simp at c0 c1 f0 f1
  obtain ⟨d0, d1, _⟩ := hR.two (.int .i64 ra) (.int .u64 rb)
  simp at d0 d1
  go_wp2_with fail
  simp [bodyPost, results, Tryd.results14, go_sem, d0, d1]
  exact ((((((Up.refl w).alloc _).alloc _).trans hb).setCell (by simp) _).setCell (by simp) _).below

theorem of_any (w : World) (n : Int) (h : -9223372036854775808 ≤ n ∧ n < 9223372036854775808) : Calls Tryd.prog 17 #[.int .i64 n] w fun e w' => e = .returned (WV n) ∧ Below w.heap.size w w' := by
  have e : WV n = .agg #[.int .i64 (n / 18446744073709551616), .int .u64 (n % 18446744073709551616)] := rfl
  rw [e]
  by_cases hn : n < 0
  · rw [show n / 18446744073709551616 = -1 by omega]
    go_enter Tryd.func17, Tryd.ntmps17
    go_wp2
    simp [bodyPost, results, Tryd.results17, go_sem]
    refine ⟨⟨by omega, ?_⟩, ((Up.refl w).alloc _).below⟩
    first | (rw [IntKind.wrap_u64]) | omega
  · rw [show n / 18446744073709551616 = 0 by omega]
    go_enter Tryd.func17, Tryd.ntmps17
    go_wp2
    simp [bodyPost, results, Tryd.results17, go_sem]
    refine ⟨⟨by omega, ?_⟩, ((Up.refl w).alloc _).below⟩
    first | (rw [IntKind.wrap_u64]) | omega
end Go.Proofs.YtfalllekhcocgaaDoor
