/-
  TextW · TextP · RefI · RefJ · RefK · RefL · RefM · RefP
-/
import Derived.Test.YtfalllekhcocgaaDoorA02
import Derived.Test.YtfalllekhcocgaaDoorA03
import Derived.Test.YtfalllekhcocgaaDoorB03
import Derived.Test.YtfalllekhcocgaaDoorB05
set_option linter.unusedSimpArgs false
set_option linter.unusedVariables false

namespace Go.Proofs.YtfalllekhcocgaaDoor
open Go.RowKit

theorem fmtu_low (w : World) (u : Nat) (h : u < 100) : Calls Tryd.prog 79 #[.int .u64 (u : Int), .int .i64 10] w fun e w' => e = .returned (.string (bs (Lib.decDigits u))) ∧ Below w.heap.size w w' := by
  refine d_in (args := [.int .u64 (u : Int), .int .i64 10]) 32 Tryd.func79 rfl rfl rfl ?_
  refine d_reg ?_
  refine h_q hflW rfl ?_
  refine h_done (d_seq (d_reg ?_))
  refine h_q hflW rfl ?_
  refine h_cmp (cmp_eql_t (by decide)) rfl rfl rfl rfl ?_
  refine h_done (d_then rfl (d_seq (d_reg ?_)))
  refine h_q hflW rfl ?_
  refine h_cmp (cmp_lss_t (by omega)) rfl rfl rfl rfl ?_
  refine h_done (d_then rfl (d_reg ?_))
  refine h_q hflW rfl ?_
  refine h_val rfl (.int .i64 (u : Int)) (fun b w hb hH => by have e0 := hb.get 13 _ rfl; go_simp; exact IntWalk.i64_in _ (by omega)) ?_
  refine h_call (ent_of Tryd.func98 (by kernel_rfl) rfl) (fun w hH => small_any _ u h) rfl rfl rfl rfl ?_
  refine h_q hflW rfl ?_
  refine h_done (d_ret (f_then_ret (f_then_ret ?_)))
  exact f_fin1 (.tmp rfl) (fun w h => ⟨rfl, h.up.below⟩) rfl

theorem fmtu_any (w : World) (u : Nat) (h64 : u < 18446744073709551616) (htab : Lib.TabIs Tryd.prog w "internal/strconv.uint64pow10" .u64 Lib.pow10Tab) : Calls Tryd.prog 79 #[.int .u64 (u : Int), .int .i64 10] w fun e w' => e = .returned (.string (bs (Lib.decDigits u))) ∧ Below w.heap.size w w' := by
  by_cases h : u < 100
  · exact fmtu_low w u h
  · exact fmtUint_any w u (by omega) h64 htab

theorem formatU_any (w : World) (u : Nat) (h64 : u < 18446744073709551616) (htab : Lib.TabIs Tryd.prog w "internal/strconv.uint64pow10" .u64 Lib.pow10Tab) (hg : 2 < w.heap.size) : Calls Tryd.prog 52 #[.int .u64 (u : Int), .int .i64 10] w fun e w' => e = .returned (.string (bs (Lib.decDigits u))) ∧ Below w.heap.size w w' := by
  refine d_in (args := [.int .u64 (u : Int), .int .i64 10]) 8 Tryd.func52 rfl rfl rfl ?_
  refine d_reg ?_
  refine h_q hflW rfl ?_
  refine h_done (d_reg ?_)
  refine h_q hflW rfl ?_
  refine h_call (ent_of Tryd.func79 (by kernel_rfl) rfl) (fun w hH => fmtu_any _ u h64 (tab_below htab hH.up.below hg)) rfl rfl rfl rfl ?_
  refine h_q hflW rfl ?_
  refine h_done (d_ret ?_)
  exact f_fin1 (.tmp rfl) (fun w h => ⟨rfl, h.up.below⟩) rfl

/-! ## Digits in a row -/
def digit (k : Nat) : UInt8 := UInt8.ofNat (48 + k)
theorem dd_small {u : Nat} (h : u < 10) : Lib.decDigits u = [digit u] := by rw [Lib.decDigits, dif_pos h]; rfl
theorem dd_big {u : Nat} (h : ¬ u < 10) : Lib.decDigits u = Lib.decDigits (u / 10) ++ [digit (u % 10)] := by rw [Lib.decDigits, dif_neg h]; rfl
/-- noughts ahead, so that there are k digits -/
def padded : Nat → Nat → List UInt8
  | 0, _ => []
  | k + 1, u => padded k (u / 10) ++ [digit (u % 10)]
theorem padded_length : ∀ k u, (padded k u).length = k
  | 0, _ => rfl
  | k + 1, u => by simp [padded, padded_length k]
theorem padded_zero : ∀ k, padded k 0 = Lib.repeatL [48] k
  | 0 => rfl
  | k + 1 => by
    have h : ∀ n, Lib.repeatL [48] n ++ [48] = 48 :: Lib.repeatL [48] n := by
      intro n
      induction n with
      | zero => rfl
      | succ n ih => show 48 :: (Lib.repeatL [48] n ++ [48]) = _; rw [ih]; rfl
    show padded k (0 / 10) ++ [digit (0 % 10)] = _
    rw [Nat.zero_div, padded_zero k]
    exact h k
/-- noughts and the digits -/
theorem padded_dd : ∀ k u, u < 10 ^ k → 0 < k → padded k u = Lib.repeatL [48] (k - (Lib.decDigits u).length) ++ Lib.decDigits u
  | 0, u, _, h => by omega
  | k + 1, u, hu, _ => by
    show padded k (u / 10) ++ [digit (u % 10)] = _
    by_cases h : u < 10
    · rw [dd_small h, Nat.div_eq_of_lt h, padded_zero, Nat.mod_eq_of_lt h]; rfl
    · have hk : 0 < k := by
        rcases Nat.eq_zero_or_pos k with h0 | h0
        · subst h0; omega
        · exact h0
      rw [padded_dd k (u / 10) (by rw [Nat.pow_succ] at hu; omega) hk, dd_big h, List.append_assoc]
      congr 1
      simp
/-- a number of more than k digits: what goes ahead, and the last k -/
theorem dd_split : ∀ k h l, 0 < h → l < 10 ^ k → Lib.decDigits (h * 10 ^ k + l) = Lib.decDigits h ++ padded k l
  | 0, h, l, _, hl => by
    have : l = 0 := by simpa using hl
    subst this
    simp [padded]
  | k + 1, h, l, hh, hl => by
    have hp : 0 < 10 ^ k := Nat.pow_pos (by decide)
    have hbig : ¬ h * 10 ^ (k + 1) + l < 10 := by
      rw [Nat.pow_succ]
      have : 1 * (10 ^ k * 10) ≤ h * (10 ^ k * 10) := Nat.mul_le_mul_right _ hh
      omega
    have e1 : (h * 10 ^ (k + 1) + l) / 10 = h * 10 ^ k + l / 10 := by rw [Nat.pow_succ, ← Nat.mul_assoc]; omega
    have e2 : (h * 10 ^ (k + 1) + l) % 10 = l % 10 := by rw [Nat.pow_succ, ← Nat.mul_assoc]; omega
    rw [dd_big hbig, e1, e2, dd_split k h (l / 10) hh (by rw [Nat.pow_succ] at hl; omega), List.append_assoc]
    rfl
/-- a number's text -/
def textZ (z : Int) : List UInt8 := if z < 0 then 45 :: Lib.decDigits z.natAbs else Lib.decDigits z.natAbs
theorem dd_length {u k : Nat} (hk : 0 < k) (h : u < 10 ^ k) : (Lib.decDigits u).length ≤ k := by
  have := congrArg List.length (padded_dd k u h hk)
  rw [padded_length, List.length_append] at this
  omega

theorem sizedN (w : World) (x : Int) (hx : Fits x) {b : Bool} (hb : decide (x < 0) = b) : Calls Tryd.prog 41 #[WV x] w fun e w' => e = .returned (.tuple #[UV (mag x), .bool b]) ∧ Below w.heap.size w w' := by
  have := sized_any w x hx
  rwa [hb] at this
theorem mag_le {x : Int} (hx : Fits x) : 0 ≤ mag x ∧ mag x ≤ 170141183460469231731687303715884105728 := by unfold Fits mag at *; split <;> omega
theorem divN (w : World) (x : Int) (q r : Nat) (hx : Fits x) (hq : (q : Int) = mag x / 10000000000000000000) (hr : (r : Int) = mag x % 10000000000000000000) : Calls Tryd.prog 51 #[.int .u64 (mag x / 18446744073709551616), .int .u64 (mag x % 18446744073709551616), .int .u64 10000000000000000000] w fun e w' => e = .returned (.tuple #[.int .u64 (q : Int), .int .u64 (r : Int)]) ∧ Below w.heap.size w w' := by
  have hm := mag_le hx
  have h := div64_any w (mag x / 18446744073709551616) (mag x % 18446744073709551616) 10000000000000000000 (by omega) (by omega) (by omega)
  rw [show mag x / 18446744073709551616 * 18446744073709551616 + mag x % 18446744073709551616 = mag x by omega] at h
  rw [hq, hr]
  exact as_drew h
theorem repeatN (w : World) (r : Nat) (hr : r < 10000000000000000000) : Calls Tryd.prog 53 #[.string (bs [48]), .int .i64 ((19 - (Lib.decDigits r).length : Nat) : Int)] w fun e w' => e = .returned (.string (bs (Lib.repeatL [48] (19 - (Lib.decDigits r).length)))) ∧ Below w.heap.size w w' := by
  have := repeat_any w (bs [48]) (19 - (Lib.decDigits r).length) (by omega) (by rw [bs_size]; simp only [List.length_cons, List.length_nil]; omega)
  rwa [bs_data] at this
theorem text_low {x : Int} {q r : Nat} {b : Bool} (hneg : decide (x < 0) = b) (hq : (q : Int) = mag x / 10000000000000000000) (hr : (r : Int) = mag x % 10000000000000000000) (h0 : q = 0) (_h : r < 10000000000000000000) : textZ x = if b then 45 :: Lib.decDigits r else Lib.decDigits r := by
  have e : x.natAbs = r := by unfold mag at hq hr; split at hq <;> omega
  unfold textZ
  rw [e, ← hneg]
  by_cases h : x < 0 <;> simp [h]
theorem text_big {x : Int} {q r : Nat} {b : Bool} (hneg : decide (x < 0) = b) (hq : (q : Int) = mag x / 10000000000000000000) (hr : (r : Int) = mag x % 10000000000000000000) (h0 : 0 < q) (h : r < 10000000000000000000) : textZ x = if b then 45 :: (Lib.decDigits q ++ Lib.repeatL [48] (19 - (Lib.decDigits r).length) ++ Lib.decDigits r) else Lib.decDigits q ++ Lib.repeatL [48] (19 - (Lib.decDigits r).length) ++ Lib.decDigits r := by
  have e : x.natAbs = q * 10 ^ 19 + r := by unfold mag at hq hr; split at hq <;> omega
  unfold textZ
  rw [e, dd_split 19 q r h0 (by omega), padded_dd 19 r (by omega) (by decide), ← hneg, List.append_assoc]
  by_cases h : x < 0 <;> simp [h]

theorem text_pl (w : World) (x : Int) (q r : Nat) (hx : Fits x) (hneg : decide (x < 0) = false) (hq : (q : Int) = mag x / 10000000000000000000) (hr : (r : Int) = mag x % 10000000000000000000) (h0 : q = 0) (hq64 : q < 18446744073709551616) (hr19 : r < 10000000000000000000) (htab : Lib.TabIs Tryd.prog w "internal/strconv.uint64pow10" .u64 Lib.pow10Tab) (hg : 2 < w.heap.size) : Calls Tryd.prog 21 #[WV x] w fun e w' => e = .returned (.string (bs (textZ x))) ∧ Below w.heap.size w w' := by
  refine d_in (args := [WV x]) 39 Tryd.func21 rfl rfl rfl ?_
  refine d_reg ?_
  refine h_box (cs := #[hiW x, loW x]) rfl rfl rfl rfl ?_; intro g1_1
  refine h_q hflW rfl ?_
  refine h_done (d_reg ?_)
  refine h_load 0 (v := .agg #[hiW x, loW x]) (reads_agg (cs := [hiW x, loW x]) tyWide rfl) rfl rfl rfl rfl ?_
  refine h_call (ent_of Tryd.func41 (by kernel_rfl) rfl) (fun w hH => sizedN _ x hx hneg) rfl rfl rfl rfl ?_
  refine h_q hflW rfl ?_
  refine h_alloc zeSize rfl rfl ?_; intro g3_2
  refine h_store 0 (v := UV (mag x)) (#[.int .u64 (mag x / 18446744073709551616), .int .u64 (mag x % 18446744073709551616)]) tySize.2 rfl rfl rfl rfl rfl rfl rfl rfl rfl rfl ?_
  refine h_q hflW rfl ?_
  refine h_done (d_seq ?_)
  refine d_par 11 2 [⟨.quiet, 0, fun _ => .pointer (some ⟨g3_2, 0, none⟩), []⟩, ⟨.quiet, 0, fun _ => .int .u64 (mag x / 18446744073709551616), [0]⟩, ⟨.quiet, 0, fun _ => .pointer (some ⟨g3_2, 1, none⟩), []⟩, ⟨.quiet, 0, fun _ => .int .u64 (mag x % 18446744073709551616), [2]⟩, ⟨.call, 1, fun _ => .int .u64 10000000000000000000, []⟩, ⟨.call, 2, fun _ => .tuple #[.int .u64 (q : Int), .int .u64 (r : Int)], [1, 3, 4]⟩, ⟨.quiet, 2, fun _ => .tuple #[.int .u64 (q : Int), .int .u64 (r : Int)], [5]⟩, ⟨.quiet, 2, fun _ => .int .u64 (q : Int), [6]⟩, ⟨.quiet, 2, fun _ => .int .u64 (r : Int), [6]⟩, ⟨.quiet, 2, fun _ => .int .u64 (q : Int), [7]⟩, ⟨.quiet, 2, fun _ => .int .u64 (r : Int), [8]⟩] [(2, .string (bs ([]))), (3, .pointer (some ⟨g3_2, 0, none⟩)), (4, .bool false)] (by kernel_rfl) (by kernel_rfl) ⟨rfl, rfl, rfl, trivial⟩ ?_ ?_
  · skip
    refine o_cons (o_q hflW (fun _ _ => rfl) (fun _ _ => rfl)) ?_
    refine o_cons (o_load 0 (reads_one tyUint64 rfl) (fun _ _ => rfl) rfl (fun _ _ => rfl) rfl) ?_
    refine o_cons (o_q hflW (fun _ _ => rfl) (fun _ _ => rfl)) ?_
    refine o_cons (o_load 0 (reads_one tyUint64 rfl) (fun _ _ => rfl) rfl (fun _ _ => rfl) rfl) ?_
    refine o_cons (o_call (ent_of Tryd.func49 (by kernel_rfl) rfl) (fun w hU => ten_any _ 19 (by decide)) (fun _ _ => rfl) rfl (fun _ _ => rfl) (fun _ _ => rfl)) ?_
    refine o_cons (o_call (ent_of Tryd.func51 (by kernel_rfl) rfl) (fun w hU => divN _ x q r hx hq hr) (fun _ _ => rfl) rfl (fun _ _ => rfl) (fun _ _ => rfl)) ?_
    refine o_cons (o_q hflW (fun _ _ => rfl) (fun _ _ => rfl)) ?_
    refine o_cons (o_q hflW (fun _ _ => rfl) (fun _ _ => rfl)) ?_
    refine o_cons (o_q hflW (fun _ _ => rfl) (fun _ _ => rfl)) ?_
    refine o_cons (o_q hflW (fun _ _ => rfl) (fun _ _ => rfl)) ?_
    refine o_cons (o_q hflW (fun _ _ => rfl) (fun _ _ => rfl)) ?_
    exact o_nil
  intro σ3 gs3
  refine WL2.keep (env' := [(2, .string (bs ([]))), (4, .bool false), (5, .int .u64 (q : Int)), (6, .int .u64 (r : Int))]) ⟨rfl, rfl, rfl, rfl, trivial⟩ ?_
  refine h_nil (f_to (d_reg ?_))
  refine h_q hflW rfl ?_
  refine h_call (ent_of Tryd.func52 (by kernel_rfl) rfl) (fun w hH => formatU_any _ r (by omega) (tab_below htab hH.up.below hg) (Nat.lt_of_lt_of_le hg hH.up.size)) rfl rfl rfl rfl ?_
  refine h_q hflW rfl ?_
  refine h_done (d_seq (d_reg ?_))
  refine h_q hflW rfl ?_
  refine h_cmp (cmp_gtr_f (by omega)) rfl rfl rfl rfl ?_
  refine h_done (d_else rfl (d_skip (f_to (d_seq (d_reg ?_)))))
  refine h_q hflW rfl ?_
  refine h_done (d_else rfl (d_skip (f_to (d_reg ?_))))
  refine h_q hflW rfl ?_
  refine h_done (d_ret ?_)
  exact f_fin1 (.tmp rfl) (fun w h => ⟨by rw [text_low hneg hq hr h0 hr19]; rfl, h.up.below⟩) rfl

theorem text_nl (w : World) (x : Int) (q r : Nat) (hx : Fits x) (hneg : decide (x < 0) = true) (hq : (q : Int) = mag x / 10000000000000000000) (hr : (r : Int) = mag x % 10000000000000000000) (h0 : q = 0) (hq64 : q < 18446744073709551616) (hr19 : r < 10000000000000000000) (htab : Lib.TabIs Tryd.prog w "internal/strconv.uint64pow10" .u64 Lib.pow10Tab) (hg : 2 < w.heap.size) : Calls Tryd.prog 21 #[WV x] w fun e w' => e = .returned (.string (bs (textZ x))) ∧ Below w.heap.size w w' := by
  refine d_in (args := [WV x]) 39 Tryd.func21 rfl rfl rfl ?_
  refine d_reg ?_
  refine h_box (cs := #[hiW x, loW x]) rfl rfl rfl rfl ?_; intro g1_1
  refine h_q hflW rfl ?_
  refine h_done (d_reg ?_)
  refine h_load 0 (v := .agg #[hiW x, loW x]) (reads_agg (cs := [hiW x, loW x]) tyWide rfl) rfl rfl rfl rfl ?_
  refine h_call (ent_of Tryd.func41 (by kernel_rfl) rfl) (fun w hH => sizedN _ x hx hneg) rfl rfl rfl rfl ?_
  refine h_q hflW rfl ?_
  refine h_alloc zeSize rfl rfl ?_; intro g3_2
  refine h_store 0 (v := UV (mag x)) (#[.int .u64 (mag x / 18446744073709551616), .int .u64 (mag x % 18446744073709551616)]) tySize.2 rfl rfl rfl rfl rfl rfl rfl rfl rfl rfl ?_
  refine h_q hflW rfl ?_
  refine h_done (d_seq ?_)
  refine d_par 11 2 [⟨.quiet, 0, fun _ => .pointer (some ⟨g3_2, 0, none⟩), []⟩, ⟨.quiet, 0, fun _ => .int .u64 (mag x / 18446744073709551616), [0]⟩, ⟨.quiet, 0, fun _ => .pointer (some ⟨g3_2, 1, none⟩), []⟩, ⟨.quiet, 0, fun _ => .int .u64 (mag x % 18446744073709551616), [2]⟩, ⟨.call, 1, fun _ => .int .u64 10000000000000000000, []⟩, ⟨.call, 2, fun _ => .tuple #[.int .u64 (q : Int), .int .u64 (r : Int)], [1, 3, 4]⟩, ⟨.quiet, 2, fun _ => .tuple #[.int .u64 (q : Int), .int .u64 (r : Int)], [5]⟩, ⟨.quiet, 2, fun _ => .int .u64 (q : Int), [6]⟩, ⟨.quiet, 2, fun _ => .int .u64 (r : Int), [6]⟩, ⟨.quiet, 2, fun _ => .int .u64 (q : Int), [7]⟩, ⟨.quiet, 2, fun _ => .int .u64 (r : Int), [8]⟩] [(2, .string (bs ([]))), (3, .pointer (some ⟨g3_2, 0, none⟩)), (4, .bool true)] (by kernel_rfl) (by kernel_rfl) ⟨rfl, rfl, rfl, trivial⟩ ?_ ?_
  · skip
    refine o_cons (o_q hflW (fun _ _ => rfl) (fun _ _ => rfl)) ?_
    refine o_cons (o_load 0 (reads_one tyUint64 rfl) (fun _ _ => rfl) rfl (fun _ _ => rfl) rfl) ?_
    refine o_cons (o_q hflW (fun _ _ => rfl) (fun _ _ => rfl)) ?_
    refine o_cons (o_load 0 (reads_one tyUint64 rfl) (fun _ _ => rfl) rfl (fun _ _ => rfl) rfl) ?_
    refine o_cons (o_call (ent_of Tryd.func49 (by kernel_rfl) rfl) (fun w hU => ten_any _ 19 (by decide)) (fun _ _ => rfl) rfl (fun _ _ => rfl) (fun _ _ => rfl)) ?_
    refine o_cons (o_call (ent_of Tryd.func51 (by kernel_rfl) rfl) (fun w hU => divN _ x q r hx hq hr) (fun _ _ => rfl) rfl (fun _ _ => rfl) (fun _ _ => rfl)) ?_
    refine o_cons (o_q hflW (fun _ _ => rfl) (fun _ _ => rfl)) ?_
    refine o_cons (o_q hflW (fun _ _ => rfl) (fun _ _ => rfl)) ?_
    refine o_cons (o_q hflW (fun _ _ => rfl) (fun _ _ => rfl)) ?_
    refine o_cons (o_q hflW (fun _ _ => rfl) (fun _ _ => rfl)) ?_
    refine o_cons (o_q hflW (fun _ _ => rfl) (fun _ _ => rfl)) ?_
    exact o_nil
  intro σ3 gs3
  refine WL2.keep (env' := [(2, .string (bs ([]))), (4, .bool true), (5, .int .u64 (q : Int)), (6, .int .u64 (r : Int))]) ⟨rfl, rfl, rfl, rfl, trivial⟩ ?_
  refine h_nil (f_to (d_reg ?_))
  refine h_q hflW rfl ?_
  refine h_call (ent_of Tryd.func52 (by kernel_rfl) rfl) (fun w hH => formatU_any _ r (by omega) (tab_below htab hH.up.below hg) (Nat.lt_of_lt_of_le hg hH.up.size)) rfl rfl rfl rfl ?_
  refine h_q hflW rfl ?_
  refine h_done (d_seq (d_reg ?_))
  refine h_q hflW rfl ?_
  refine h_cmp (cmp_gtr_f (by omega)) rfl rfl rfl rfl ?_
  refine h_done (d_else rfl (d_skip (f_to (d_seq (d_reg ?_)))))
  refine h_q hflW rfl ?_
  refine h_done (d_then rfl (d_reg ?_))
  refine h_q hflW rfl ?_
  refine h_cat (r := ([45]) ++ (Lib.decDigits r)) rfl (by have := dd_length (u := q) (k := 20) (by decide) (by omega); have := dd_length (u := r) (k := 19) (by decide) (by omega); simp only [List.length_append, Lib.repeatL_length, List.length_cons, List.length_nil]; omega) rfl rfl rfl rfl ?_
  refine h_q hflW rfl ?_
  refine h_done (d_ret (f_then_ret ?_))
  exact f_fin1 (.tmp rfl) (fun w h => ⟨by rw [text_low hneg hq hr h0 hr19]; rfl, h.up.below⟩) rfl

theorem text_pb (w : World) (x : Int) (q r : Nat) (hx : Fits x) (hneg : decide (x < 0) = false) (hq : (q : Int) = mag x / 10000000000000000000) (hr : (r : Int) = mag x % 10000000000000000000) (h0 : 0 < q) (hq64 : q < 18446744073709551616) (hr19 : r < 10000000000000000000) (htab : Lib.TabIs Tryd.prog w "internal/strconv.uint64pow10" .u64 Lib.pow10Tab) (hg : 2 < w.heap.size) : Calls Tryd.prog 21 #[WV x] w fun e w' => e = .returned (.string (bs (textZ x))) ∧ Below w.heap.size w w' := by
  refine d_in (args := [WV x]) 39 Tryd.func21 rfl rfl rfl ?_
  refine d_reg ?_
  refine h_box (cs := #[hiW x, loW x]) rfl rfl rfl rfl ?_; intro g1_1
  refine h_q hflW rfl ?_
  refine h_done (d_reg ?_)
  refine h_load 0 (v := .agg #[hiW x, loW x]) (reads_agg (cs := [hiW x, loW x]) tyWide rfl) rfl rfl rfl rfl ?_
  refine h_call (ent_of Tryd.func41 (by kernel_rfl) rfl) (fun w hH => sizedN _ x hx hneg) rfl rfl rfl rfl ?_
  refine h_q hflW rfl ?_
  refine h_alloc zeSize rfl rfl ?_; intro g3_2
  refine h_store 0 (v := UV (mag x)) (#[.int .u64 (mag x / 18446744073709551616), .int .u64 (mag x % 18446744073709551616)]) tySize.2 rfl rfl rfl rfl rfl rfl rfl rfl rfl rfl ?_
  refine h_q hflW rfl ?_
  refine h_done (d_seq ?_)
  refine d_par 11 2 [⟨.quiet, 0, fun _ => .pointer (some ⟨g3_2, 0, none⟩), []⟩, ⟨.quiet, 0, fun _ => .int .u64 (mag x / 18446744073709551616), [0]⟩, ⟨.quiet, 0, fun _ => .pointer (some ⟨g3_2, 1, none⟩), []⟩, ⟨.quiet, 0, fun _ => .int .u64 (mag x % 18446744073709551616), [2]⟩, ⟨.call, 1, fun _ => .int .u64 10000000000000000000, []⟩, ⟨.call, 2, fun _ => .tuple #[.int .u64 (q : Int), .int .u64 (r : Int)], [1, 3, 4]⟩, ⟨.quiet, 2, fun _ => .tuple #[.int .u64 (q : Int), .int .u64 (r : Int)], [5]⟩, ⟨.quiet, 2, fun _ => .int .u64 (q : Int), [6]⟩, ⟨.quiet, 2, fun _ => .int .u64 (r : Int), [6]⟩, ⟨.quiet, 2, fun _ => .int .u64 (q : Int), [7]⟩, ⟨.quiet, 2, fun _ => .int .u64 (r : Int), [8]⟩] [(2, .string (bs ([]))), (3, .pointer (some ⟨g3_2, 0, none⟩)), (4, .bool false)] (by kernel_rfl) (by kernel_rfl) ⟨rfl, rfl, rfl, trivial⟩ ?_ ?_
  · skip
    refine o_cons (o_q hflW (fun _ _ => rfl) (fun _ _ => rfl)) ?_
    refine o_cons (o_load 0 (reads_one tyUint64 rfl) (fun _ _ => rfl) rfl (fun _ _ => rfl) rfl) ?_
    refine o_cons (o_q hflW (fun _ _ => rfl) (fun _ _ => rfl)) ?_
    refine o_cons (o_load 0 (reads_one tyUint64 rfl) (fun _ _ => rfl) rfl (fun _ _ => rfl) rfl) ?_
    refine o_cons (o_call (ent_of Tryd.func49 (by kernel_rfl) rfl) (fun w hU => ten_any _ 19 (by decide)) (fun _ _ => rfl) rfl (fun _ _ => rfl) (fun _ _ => rfl)) ?_
    refine o_cons (o_call (ent_of Tryd.func51 (by kernel_rfl) rfl) (fun w hU => divN _ x q r hx hq hr) (fun _ _ => rfl) rfl (fun _ _ => rfl) (fun _ _ => rfl)) ?_
    refine o_cons (o_q hflW (fun _ _ => rfl) (fun _ _ => rfl)) ?_
    refine o_cons (o_q hflW (fun _ _ => rfl) (fun _ _ => rfl)) ?_
    refine o_cons (o_q hflW (fun _ _ => rfl) (fun _ _ => rfl)) ?_
    refine o_cons (o_q hflW (fun _ _ => rfl) (fun _ _ => rfl)) ?_
    refine o_cons (o_q hflW (fun _ _ => rfl) (fun _ _ => rfl)) ?_
    exact o_nil
  intro σ3 gs3
  refine WL2.keep (env' := [(2, .string (bs ([]))), (4, .bool false), (5, .int .u64 (q : Int)), (6, .int .u64 (r : Int))]) ⟨rfl, rfl, rfl, rfl, trivial⟩ ?_
  refine h_nil (f_to (d_reg ?_))
  refine h_q hflW rfl ?_
  refine h_call (ent_of Tryd.func52 (by kernel_rfl) rfl) (fun w hH => formatU_any _ r (by omega) (tab_below htab hH.up.below hg) (Nat.lt_of_lt_of_le hg hH.up.size)) rfl rfl rfl rfl ?_
  refine h_q hflW rfl ?_
  refine h_done (d_seq (d_reg ?_))
  refine h_q hflW rfl ?_
  refine h_cmp (cmp_gtr_t (by omega)) rfl rfl rfl rfl ?_
  refine h_done (d_then rfl (d_reg1 ?_))
  refine h_q hflW rfl ?_
  refine h_call (ent_of Tryd.func52 (by kernel_rfl) rfl) (fun w hH => formatU_any _ q (by omega) (tab_below htab hH.up.below hg) (Nat.lt_of_lt_of_le hg hH.up.size)) rfl rfl rfl rfl ?_
  refine h_q hflW rfl ?_
  refine h_builtin (v := .int .i64 ((Lib.decDigits r).length : Int)) (fun w cs => run_len_bs Tryd.underlying9 _ _ w cs) rfl rfl rfl ?_
  refine h_ar (z' := ((19 - (Lib.decDigits r).length : Nat) : Int)) (by have := dd_length (u := r) (k := 19) (by decide) (by omega); rw [IntWalk.i64_in _ (by omega)]; omega) rfl rfl rfl rfl rfl ?_
  refine h_call (ent_of Tryd.func53 (by kernel_rfl) rfl) (fun w hH => repeatN _ r hr19) rfl rfl rfl rfl ?_
  refine h_cat (r := (Lib.decDigits q) ++ (Lib.repeatL [48] (19 - (Lib.decDigits r).length))) rfl (by have := dd_length (u := q) (k := 20) (by decide) (by omega); rw [Lib.repeatL_length]; simp only [List.length_cons, List.length_nil]; omega) rfl rfl rfl rfl ?_
  refine h_q hflW rfl ?_
  refine h_cat (r := ((Lib.decDigits q) ++ (Lib.repeatL [48] (19 - (Lib.decDigits r).length))) ++ (Lib.decDigits r)) rfl (by have := dd_length (u := q) (k := 20) (by decide) (by omega); have := dd_length (u := r) (k := 19) (by decide) (by omega); rw [List.length_append, Lib.repeatL_length]; simp only [List.length_cons, List.length_nil]; omega) rfl rfl rfl rfl ?_
  refine h_q hflW rfl ?_
  refine h_nil (f_to (d_seq (d_reg ?_)))
  refine h_q hflW rfl ?_
  refine h_done (d_else rfl (d_skip (f_to (d_reg ?_))))
  refine h_q hflW rfl ?_
  refine h_done (d_ret ?_)
  exact f_fin1 (.tmp rfl) (fun w h => ⟨by rw [text_big hneg hq hr h0 hr19]; rfl, h.up.below⟩) rfl

theorem text_nb (w : World) (x : Int) (q r : Nat) (hx : Fits x) (hneg : decide (x < 0) = true) (hq : (q : Int) = mag x / 10000000000000000000) (hr : (r : Int) = mag x % 10000000000000000000) (h0 : 0 < q) (hq64 : q < 18446744073709551616) (hr19 : r < 10000000000000000000) (htab : Lib.TabIs Tryd.prog w "internal/strconv.uint64pow10" .u64 Lib.pow10Tab) (hg : 2 < w.heap.size) : Calls Tryd.prog 21 #[WV x] w fun e w' => e = .returned (.string (bs (textZ x))) ∧ Below w.heap.size w w' := by
  refine d_in (args := [WV x]) 39 Tryd.func21 rfl rfl rfl ?_
  refine d_reg ?_
  refine h_box (cs := #[hiW x, loW x]) rfl rfl rfl rfl ?_; intro g1_1
  refine h_q hflW rfl ?_
  refine h_done (d_reg ?_)
  refine h_load 0 (v := .agg #[hiW x, loW x]) (reads_agg (cs := [hiW x, loW x]) tyWide rfl) rfl rfl rfl rfl ?_
  refine h_call (ent_of Tryd.func41 (by kernel_rfl) rfl) (fun w hH => sizedN _ x hx hneg) rfl rfl rfl rfl ?_
  refine h_q hflW rfl ?_
  refine h_alloc zeSize rfl rfl ?_; intro g3_2
  refine h_store 0 (v := UV (mag x)) (#[.int .u64 (mag x / 18446744073709551616), .int .u64 (mag x % 18446744073709551616)]) tySize.2 rfl rfl rfl rfl rfl rfl rfl rfl rfl rfl ?_
  refine h_q hflW rfl ?_
  refine h_done (d_seq ?_)
  refine d_par 11 2 [⟨.quiet, 0, fun _ => .pointer (some ⟨g3_2, 0, none⟩), []⟩, ⟨.quiet, 0, fun _ => .int .u64 (mag x / 18446744073709551616), [0]⟩, ⟨.quiet, 0, fun _ => .pointer (some ⟨g3_2, 1, none⟩), []⟩, ⟨.quiet, 0, fun _ => .int .u64 (mag x % 18446744073709551616), [2]⟩, ⟨.call, 1, fun _ => .int .u64 10000000000000000000, []⟩, ⟨.call, 2, fun _ => .tuple #[.int .u64 (q : Int), .int .u64 (r : Int)], [1, 3, 4]⟩, ⟨.quiet, 2, fun _ => .tuple #[.int .u64 (q : Int), .int .u64 (r : Int)], [5]⟩, ⟨.quiet, 2, fun _ => .int .u64 (q : Int), [6]⟩, ⟨.quiet, 2, fun _ => .int .u64 (r : Int), [6]⟩, ⟨.quiet, 2, fun _ => .int .u64 (q : Int), [7]⟩, ⟨.quiet, 2, fun _ => .int .u64 (r : Int), [8]⟩] [(2, .string (bs ([]))), (3, .pointer (some ⟨g3_2, 0, none⟩)), (4, .bool true)] (by kernel_rfl) (by kernel_rfl) ⟨rfl, rfl, rfl, trivial⟩ ?_ ?_
  · skip
    refine o_cons (o_q hflW (fun _ _ => rfl) (fun _ _ => rfl)) ?_
    refine o_cons (o_load 0 (reads_one tyUint64 rfl) (fun _ _ => rfl) rfl (fun _ _ => rfl) rfl) ?_
    refine o_cons (o_q hflW (fun _ _ => rfl) (fun _ _ => rfl)) ?_
    refine o_cons (o_load 0 (reads_one tyUint64 rfl) (fun _ _ => rfl) rfl (fun _ _ => rfl) rfl) ?_
    refine o_cons (o_call (ent_of Tryd.func49 (by kernel_rfl) rfl) (fun w hU => ten_any _ 19 (by decide)) (fun _ _ => rfl) rfl (fun _ _ => rfl) (fun _ _ => rfl)) ?_
    refine o_cons (o_call (ent_of Tryd.func51 (by kernel_rfl) rfl) (fun w hU => divN _ x q r hx hq hr) (fun _ _ => rfl) rfl (fun _ _ => rfl) (fun _ _ => rfl)) ?_
    refine o_cons (o_q hflW (fun _ _ => rfl) (fun _ _ => rfl)) ?_
    refine o_cons (o_q hflW (fun _ _ => rfl) (fun _ _ => rfl)) ?_
    refine o_cons (o_q hflW (fun _ _ => rfl) (fun _ _ => rfl)) ?_
    refine o_cons (o_q hflW (fun _ _ => rfl) (fun _ _ => rfl)) ?_
    refine o_cons (o_q hflW (fun _ _ => rfl) (fun _ _ => rfl)) ?_
    exact o_nil
  intro σ3 gs3
  refine WL2.keep (env' := [(2, .string (bs ([]))), (4, .bool true), (5, .int .u64 (q : Int)), (6, .int .u64 (r : Int))]) ⟨rfl, rfl, rfl, rfl, trivial⟩ ?_
  refine h_nil (f_to (d_reg ?_))
  refine h_q hflW rfl ?_
  refine h_call (ent_of Tryd.func52 (by kernel_rfl) rfl) (fun w hH => formatU_any _ r (by omega) (tab_below htab hH.up.below hg) (Nat.lt_of_lt_of_le hg hH.up.size)) rfl rfl rfl rfl ?_
  refine h_q hflW rfl ?_
  refine h_done (d_seq (d_reg ?_))
  refine h_q hflW rfl ?_
  refine h_cmp (cmp_gtr_t (by omega)) rfl rfl rfl rfl ?_
  refine h_done (d_then rfl (d_reg1 ?_))
  refine h_q hflW rfl ?_
  refine h_call (ent_of Tryd.func52 (by kernel_rfl) rfl) (fun w hH => formatU_any _ q (by omega) (tab_below htab hH.up.below hg) (Nat.lt_of_lt_of_le hg hH.up.size)) rfl rfl rfl rfl ?_
  refine h_q hflW rfl ?_
  refine h_builtin (v := .int .i64 ((Lib.decDigits r).length : Int)) (fun w cs => run_len_bs Tryd.underlying9 _ _ w cs) rfl rfl rfl ?_
  refine h_ar (z' := ((19 - (Lib.decDigits r).length : Nat) : Int)) (by have := dd_length (u := r) (k := 19) (by decide) (by omega); rw [IntWalk.i64_in _ (by omega)]; omega) rfl rfl rfl rfl rfl ?_
  refine h_call (ent_of Tryd.func53 (by kernel_rfl) rfl) (fun w hH => repeatN _ r hr19) rfl rfl rfl rfl ?_
  refine h_cat (r := (Lib.decDigits q) ++ (Lib.repeatL [48] (19 - (Lib.decDigits r).length))) rfl (by have := dd_length (u := q) (k := 20) (by decide) (by omega); rw [Lib.repeatL_length]; simp only [List.length_cons, List.length_nil]; omega) rfl rfl rfl rfl ?_
  refine h_q hflW rfl ?_
  refine h_cat (r := ((Lib.decDigits q) ++ (Lib.repeatL [48] (19 - (Lib.decDigits r).length))) ++ (Lib.decDigits r)) rfl (by have := dd_length (u := q) (k := 20) (by decide) (by omega); have := dd_length (u := r) (k := 19) (by decide) (by omega); rw [List.length_append, Lib.repeatL_length]; simp only [List.length_cons, List.length_nil]; omega) rfl rfl rfl rfl ?_
  refine h_q hflW rfl ?_
  refine h_nil (f_to (d_seq (d_reg ?_)))
  refine h_q hflW rfl ?_
  refine h_done (d_then rfl (d_reg ?_))
  refine h_q hflW rfl ?_
  refine h_cat (r := ([45]) ++ (((Lib.decDigits q) ++ (Lib.repeatL [48] (19 - (Lib.decDigits r).length))) ++ (Lib.decDigits r))) rfl (by have := dd_length (u := q) (k := 20) (by decide) (by omega); have := dd_length (u := r) (k := 19) (by decide) (by omega); simp only [List.length_append, Lib.repeatL_length, List.length_cons, List.length_nil]; omega) rfl rfl rfl rfl ?_
  refine h_q hflW rfl ?_
  refine h_done (d_ret (f_then_ret ?_))
  exact f_fin1 (.tmp rfl) (fun w h => ⟨by rw [text_big hneg hq hr h0 hr19]; rfl, h.up.below⟩) rfl

theorem textW_any (w : World) (x : Int) (hx : Fits x) (htab : Lib.TabIs Tryd.prog w "internal/strconv.uint64pow10" .u64 Lib.pow10Tab) (hg : 2 < w.heap.size) : Calls Tryd.prog 21 #[WV x] w fun e w' => e = .returned (.string (bs (textZ x))) ∧ Below w.heap.size w w' := by
  have hm := mag_le hx
  obtain ⟨q, hq⟩ := Int.eq_ofNat_of_zero_le (show 0 ≤ mag x / 10000000000000000000 by omega)
  obtain ⟨r, hr⟩ := Int.eq_ofNat_of_zero_le (show 0 ≤ mag x % 10000000000000000000 by omega)
  by_cases hn : x < 0
  · by_cases h0 : q = 0
    · exact text_nl w x q r hx (decide_eq_true hn) hq.symm hr.symm h0 (by omega) (by omega) htab hg
    · exact text_nb w x q r hx (decide_eq_true hn) hq.symm hr.symm (by omega) (by omega) (by omega) htab hg
  · by_cases h0 : q = 0
    · exact text_pl w x q r hx (decide_eq_false hn) hq.symm hr.symm h0 (by omega) (by omega) htab hg
    · exact text_pb w x q r hx (decide_eq_false hn) hq.symm hr.symm (by omega) (by omega) (by omega) htab hg
end Go.Proofs.YtfalllekhcocgaaDoor

namespace Go.Proofs.YtfalllekhcocgaaDoor
open Go.RowKit

theorem cutS_minus (r : List UInt8) : cutS (45 :: r) = (true, r) := rfl
theorem cutS_dd (u : Nat) : cutS (Lib.decDigits u) = (false, Lib.decDigits u) := by
  rcases cut_ways (Lib.decDigits u) with ⟨r, h, _, _⟩ | ⟨h, _⟩
  · have := dd_allD u 45 (by rw [h]; simp)
    exact absurd this (by decide)
  · exact h
theorem dd_not48 {u : Nat} (h : u ≠ 0) : Lib.decDigits u ≠ [48] := fun e => by
  have := nv_dd u
  rw [e] at this
  exact h (by rw [← this]; rfl)
/-- a number's text is parsed to it -/
theorem parse_text {x : Int} (hx : Fits x) : parseV (textZ x) = .tuple #[WV x, .int .i64 0] := by
  unfold textZ
  by_cases h : x < 0
  · rw [if_pos h, parseV_ok (cutS_minus _) (plain_dd _) (by rintro ⟨_, e⟩; exact dd_not48 (by omega) e), if_pos rfl, nv_dd, show -(x.natAbs : Int) = x by omega, resV_fit hx]
  · rw [if_neg h, parseV_ok (cutS_dd _) (plain_dd _) (by rintro ⟨e, _⟩; cases e), if_neg (by simp), nv_dd, show (x.natAbs : Int) = x by omega, resV_fit hx]
theorem cut_back {l D : List UInt8} {m : Bool} (hc : cutS l = (m, D)) : l = if m then 45 :: D else D := by
  rcases cut_ways l with ⟨r, rfl, h, _⟩ | ⟨h, _⟩
  · rw [hc] at h; cases h; rfl
  · rw [hc] at h; cases h; rfl
/-- what is parsed, in three ways: no number; one that does not fit; one whose text it is -/
theorem parse_ways (l : List UInt8) : (∃ e : Int, e ≠ 0 ∧ parseV l = .tuple #[WV 0, .int .i64 e]) ∨ ∃ x, Fits x ∧ parseV l = .tuple #[WV x, .int .i64 0] ∧ textZ x = l := by
  rcases hc : cutS l with ⟨m, D⟩
  by_cases h : plainN D ∧ ¬ (m = true ∧ D = [48])
  · rw [parseV_ok hc h.1 h.2]
    by_cases hf : Fits (if m then -(nv D : Int) else (nv D : Int))
    · refine .inr ⟨_, hf, resV_fit hf, ?_⟩
      rw [cut_back hc]
      unfold textZ
      cases m with
      | true =>
        have h0 : nv D ≠ 0 := fun e => h.2 ⟨rfl, (plain_zero h.1).1 e⟩
        simp only [if_true]
        rw [if_pos (by omega), show (-(nv D : Int)).natAbs = nv D by omega, dd_nv h.1]
      | false =>
        simp only [Bool.false_eq_true, if_false]
        rw [if_neg (by omega), show ((nv D : Int)).natAbs = nv D by omega, dd_nv h.1]
    · exact .inl ⟨20, by decide, resV_over hf⟩
  · exact .inl ⟨23, by decide, parseV_no hc h⟩
theorem textZ_len {x : Int} (hx : Fits x) : (textZ x).length ≤ 41 := by
  have h1 : x.natAbs < 10 ^ 40 := by unfold Fits at hx; omega
  have := dd_len 40 x.natAbs (by decide) h1
  unfold textZ; split <;> simp <;> omega
end Go.Proofs.YtfalllekhcocgaaDoor

namespace Go.Proofs.YtfalllekhcocgaaDoor
open Go.RowKit

section
variable {o : Oper} {a : Act} {W : World} {C E : Array Value} {b : Bool} {n : Nat}
theorem exec_build_C (hC : Hid (C = bigs b n)) (hE : Hid (E = digs n)) (x y : Operand) (ho : o.op = .build 76 #[(0, x), (1, y)]) (hx : a.eval x = .bool b) (hy : a.eval y = .agg E) :
    (execOp a.eval o).run Tryd.prog W = .ok (.value (.agg C)) W := by
  rw [hC.out]
  rw [hE.out] at hy
  exact exec_build_big x y ho b n hx hy W
theorem sizeC (hC : Hid (C = bigs b n)) : C.size = 17 := by rw [hC.out]; exact bigs_size _ _
theorem sizeE (hE : Hid (E = digs n)) : E.size = 16 := by rw [hE.out]; exact digs_size _
theorem size_De (hE : Hid (E = digs n)) : (Tryd.prog.info? 74).map (·.size) = some E.size := by rw [hE.out]; exact size_Dn n
theorem oneC (hC : Hid (C = bigs b n)) : C.all (·.oneCell') = true := by rw [hC.out]; exact bigs_one _ _
theorem oneE (hE : Hid (E = digs n)) : E.all (·.oneCell') = true := by rw [hE.out]; exact digs_one _
end
theorem mul_small {m n : Nat} (hm : m < BP 8) (hn : n < BP 7) : m * n < BP 16 := by
  have h1 : m * n ≤ m * BP 7 := Nat.mul_le_mul_left _ (Nat.le_of_lt hn)
  have h2 : m * BP 7 < BP 8 * BP 7 := Nat.mul_lt_mul_of_pos_right hm (BP_pos 7)
  rw [← BP_add] at h2
  have h3 : BP (8 + 7) ≤ BP 16 := BP_le (by decide)
  omega

theorem times_ff (w : World) (m n : Nat) (hm : m < BP 8) (hn : n < BP 7) : Calls Tryd.prog 63 #[BigV false m, BigV false n] w fun e w' => e = .returned (BigV false (m * n)) ∧ Below w.heap.size w w' := by
  refine d_in (args := [.agg (bigs false m), .agg (bigs false n)]) 23 Tryd.func63 rfl rfl rfl ?_
  refine d_reg ?_
  refine h_box (cs := bigs false m) rfl rfl rfl rfl ?_; intro g2_1
  refine h_box (cs := bigs false n) rfl rfl rfl rfl ?_; intro g3_2
  refine h_alloc zeBig rfl rfl ?_; intro g4_3
  refine h_done (d_reg ?_)
  refine h_q hflW rfl ?_
  refine h_load 2 (v := .agg (digs m)) (reads_D _ _) rfl rfl rfl rfl ?_
  refine h_q hflW rfl ?_
  refine h_load 1 (v := .agg (digs n)) (reads_D _ _) rfl rfl rfl rfl ?_
  refine h_call (ent_of Tryd.func92 (by kernel_rfl) rfl) (fun w hH => rmul_any _ m n hm hn) rfl rfl rfl rfl ?_
  refine h_alloc zeDig rfl rfl ?_; intro g5_4
  refine h_store 0 (v := .agg (digs (m * n))) (digs (m * n)) tyDigits.2 (digs_size _) (ble_size (digs_size _)) (digs_oneL _) (over_all (c := digs 0) (v := digs (m * n)) (((digs_size _) : (digs 0).size = 16).trans ((digs_size _) : (digs (m * n)).size = 16).symm)) rfl rfl rfl rfl rfl rfl ?_
  refine h_done (d_seq ?_)
  refine d_par 12 0 [⟨.quiet, 0, fun _ => .pointer (some ⟨g2_1, 0, none⟩), []⟩, ⟨.quiet, 0, fun _ => .bool false, [0]⟩, ⟨.quiet, 0, fun _ => .pointer (some ⟨g3_2, 0, none⟩), []⟩, ⟨.quiet, 0, fun _ => .bool false, [2]⟩, ⟨.quiet, 0, fun _ => .bool false, [1, 3]⟩, ⟨.quiet, 0, fun _ => .bool false, [4]⟩, ⟨.skip, 0, fun _ => undef, [5]⟩, ⟨.skip, 0, fun _ => undef, [6, 5]⟩, ⟨.skip, 0, fun _ => undef, [7, 5]⟩, ⟨.quiet, 0, fun _ => .bool false, [5, 8]⟩, ⟨.quiet, 0, fun _ => .agg (digs (m * n)), []⟩, ⟨.quiet, 0, fun _ => .agg (bigs false (m * n)), [9, 10]⟩] [(2, .pointer (some ⟨g2_1, 0, none⟩)), (3, .pointer (some ⟨g3_2, 0, none⟩)), (4, .pointer (some ⟨g4_3, 0, none⟩)), (5, .pointer (some ⟨g5_4, 0, none⟩))] (by kernel_rfl) (by kernel_rfl) ⟨rfl, rfl, rfl, rfl, trivial⟩ ?_ ?_
  · skip
    refine o_cons (o_q hflW (fun _ _ => rfl) (fun _ _ => rfl)) ?_
    refine o_cons (o_load 3 (reads_one tyBool (bigs_get0 _ _)) (fun _ _ => rfl) rfl (fun _ _ => rfl) rfl) ?_
    refine o_cons (o_q hflW (fun _ _ => rfl) (fun _ _ => rfl)) ?_
    refine o_cons (o_load 2 (reads_one tyBool (bigs_get0 _ _)) (fun _ _ => rfl) rfl (fun _ _ => rfl) rfl) ?_
    refine o_cons (o_nes (neB false false) (fun _ _ => rfl) rfl (fun _ _ => rfl) (fun _ _ => rfl)) ?_
    refine o_cons (o_q hflW (fun _ _ => rfl) (fun _ _ => rfl)) ?_
    refine o_cons (o_skip (fun _ _ => rfl)) ?_
    refine o_cons (o_skip (fun _ _ => rfl)) ?_
    refine o_cons (o_skip (fun _ _ => rfl)) ?_
    refine o_cons (o_q hflW (fun _ _ => rfl) (fun _ _ => rfl)) ?_
    refine o_cons (o_load 0 (reads_all (tyDigC _)) (fun _ _ => rfl) rfl (fun _ _ => rfl) rfl) ?_
    refine o_cons (o_build (cs := bigs false (m * n)) (built_big _ _) (fun _ _ => rfl) rfl (fun _ _ => rfl)) ?_
    exact o_nil
  intro σ5 gs5
  refine WL2.keep (env' := [(4, .pointer (some ⟨g4_3, 0, none⟩)), (22, .agg (bigs false (m * n)))]) ⟨rfl, rfl, trivial⟩ ?_
  refine h_store 1 (v := .agg (bigs false (m * n))) (bigs false (m * n)) tyBig.2 (bigs_size _ _) (ble_size zBig_size) (bigs_oneL _ _) (over_all (c := zBig) (v := bigs false (m * n)) ((zBig_size : (zBig).size = 17).trans ((bigs_size _ _) : (bigs false (m * n)).size = 17).symm)) rfl rfl rfl rfl rfl rfl ?_
  refine h_nil (f_to (d_ret ?_))
  exact f_fin1 (.cell 1 (v := .agg (bigs false (m * n))) (reads_all (tyBigsC _ _)) rfl rfl) (fun w h => ⟨rfl, h.up.below⟩) rfl

theorem times_tt (w : World) (m n : Nat) (hm : m < BP 8) (hn : n < BP 7) : Calls Tryd.prog 63 #[BigV true m, BigV true n] w fun e w' => e = .returned (BigV false (m * n)) ∧ Below w.heap.size w w' := by
  refine d_in (args := [.agg (bigs true m), .agg (bigs true n)]) 23 Tryd.func63 rfl rfl rfl ?_
  refine d_reg ?_
  refine h_box (cs := bigs true m) rfl rfl rfl rfl ?_; intro g2_1
  refine h_box (cs := bigs true n) rfl rfl rfl rfl ?_; intro g3_2
  refine h_alloc zeBig rfl rfl ?_; intro g4_3
  refine h_done (d_reg ?_)
  refine h_q hflW rfl ?_
  refine h_load 2 (v := .agg (digs m)) (reads_D _ _) rfl rfl rfl rfl ?_
  refine h_q hflW rfl ?_
  refine h_load 1 (v := .agg (digs n)) (reads_D _ _) rfl rfl rfl rfl ?_
  refine h_call (ent_of Tryd.func92 (by kernel_rfl) rfl) (fun w hH => rmul_any _ m n hm hn) rfl rfl rfl rfl ?_
  refine h_alloc zeDig rfl rfl ?_; intro g5_4
  refine h_store 0 (v := .agg (digs (m * n))) (digs (m * n)) tyDigits.2 (digs_size _) (ble_size (digs_size _)) (digs_oneL _) (over_all (c := digs 0) (v := digs (m * n)) (((digs_size _) : (digs 0).size = 16).trans ((digs_size _) : (digs (m * n)).size = 16).symm)) rfl rfl rfl rfl rfl rfl ?_
  refine h_done (d_seq ?_)
  refine d_par 12 0 [⟨.quiet, 0, fun _ => .pointer (some ⟨g2_1, 0, none⟩), []⟩, ⟨.quiet, 0, fun _ => .bool true, [0]⟩, ⟨.quiet, 0, fun _ => .pointer (some ⟨g3_2, 0, none⟩), []⟩, ⟨.quiet, 0, fun _ => .bool true, [2]⟩, ⟨.quiet, 0, fun _ => .bool false, [1, 3]⟩, ⟨.quiet, 0, fun _ => .bool false, [4]⟩, ⟨.skip, 0, fun _ => undef, [5]⟩, ⟨.skip, 0, fun _ => undef, [6, 5]⟩, ⟨.skip, 0, fun _ => undef, [7, 5]⟩, ⟨.quiet, 0, fun _ => .bool false, [5, 8]⟩, ⟨.quiet, 0, fun _ => .agg (digs (m * n)), []⟩, ⟨.quiet, 0, fun _ => .agg (bigs false (m * n)), [9, 10]⟩] [(2, .pointer (some ⟨g2_1, 0, none⟩)), (3, .pointer (some ⟨g3_2, 0, none⟩)), (4, .pointer (some ⟨g4_3, 0, none⟩)), (5, .pointer (some ⟨g5_4, 0, none⟩))] (by kernel_rfl) (by kernel_rfl) ⟨rfl, rfl, rfl, rfl, trivial⟩ ?_ ?_
  · skip
    refine o_cons (o_q hflW (fun _ _ => rfl) (fun _ _ => rfl)) ?_
    refine o_cons (o_load 3 (reads_one tyBool (bigs_get0 _ _)) (fun _ _ => rfl) rfl (fun _ _ => rfl) rfl) ?_
    refine o_cons (o_q hflW (fun _ _ => rfl) (fun _ _ => rfl)) ?_
    refine o_cons (o_load 2 (reads_one tyBool (bigs_get0 _ _)) (fun _ _ => rfl) rfl (fun _ _ => rfl) rfl) ?_
    refine o_cons (o_nes (neB true true) (fun _ _ => rfl) rfl (fun _ _ => rfl) (fun _ _ => rfl)) ?_
    refine o_cons (o_q hflW (fun _ _ => rfl) (fun _ _ => rfl)) ?_
    refine o_cons (o_skip (fun _ _ => rfl)) ?_
    refine o_cons (o_skip (fun _ _ => rfl)) ?_
    refine o_cons (o_skip (fun _ _ => rfl)) ?_
    refine o_cons (o_q hflW (fun _ _ => rfl) (fun _ _ => rfl)) ?_
    refine o_cons (o_load 0 (reads_all (tyDigC _)) (fun _ _ => rfl) rfl (fun _ _ => rfl) rfl) ?_
    refine o_cons (o_build (cs := bigs false (m * n)) (built_big _ _) (fun _ _ => rfl) rfl (fun _ _ => rfl)) ?_
    exact o_nil
  intro σ5 gs5
  refine WL2.keep (env' := [(4, .pointer (some ⟨g4_3, 0, none⟩)), (22, .agg (bigs false (m * n)))]) ⟨rfl, rfl, trivial⟩ ?_
  refine h_store 1 (v := .agg (bigs false (m * n))) (bigs false (m * n)) tyBig.2 (bigs_size _ _) (ble_size zBig_size) (bigs_oneL _ _) (over_all (c := zBig) (v := bigs false (m * n)) ((zBig_size : (zBig).size = 17).trans ((bigs_size _ _) : (bigs false (m * n)).size = 17).symm)) rfl rfl rfl rfl rfl rfl ?_
  refine h_nil (f_to (d_ret ?_))
  exact f_fin1 (.cell 1 (v := .agg (bigs false (m * n))) (reads_all (tyBigsC _ _)) rfl rfl) (fun w h => ⟨rfl, h.up.below⟩) rfl

theorem times_ft (w : World) (m n : Nat) (hm : m < BP 8) (hn : n < BP 7) : Calls Tryd.prog 63 #[BigV false m, BigV true n] w fun e w' => e = .returned (BigV (!decide (m * n = 0)) (m * n)) ∧ Below w.heap.size w w' := by
  refine d_in (args := [.agg (bigs false m), .agg (bigs true n)]) 23 Tryd.func63 rfl rfl rfl ?_
  refine d_reg ?_
  refine h_box (cs := bigs false m) rfl rfl rfl rfl ?_; intro g2_1
  refine h_box (cs := bigs true n) rfl rfl rfl rfl ?_; intro g3_2
  refine h_alloc zeBig rfl rfl ?_; intro g4_3
  refine h_done (d_reg ?_)
  refine h_q hflW rfl ?_
  refine h_load 2 (v := .agg (digs m)) (reads_D _ _) rfl rfl rfl rfl ?_
  refine h_q hflW rfl ?_
  refine h_load 1 (v := .agg (digs n)) (reads_D _ _) rfl rfl rfl rfl ?_
  refine h_call (ent_of Tryd.func92 (by kernel_rfl) rfl) (fun w hH => rmul_any _ m n hm hn) rfl rfl rfl rfl ?_
  refine h_alloc zeDig rfl rfl ?_; intro g5_4
  refine h_store 0 (v := .agg (digs (m * n))) (digs (m * n)) tyDigits.2 (digs_size _) (ble_size (digs_size _)) (digs_oneL _) (over_all (c := digs 0) (v := digs (m * n)) (((digs_size _) : (digs 0).size = 16).trans ((digs_size _) : (digs (m * n)).size = 16).symm)) rfl rfl rfl rfl rfl rfl ?_
  refine h_done (d_seq ?_)
  refine d_par 12 1 [⟨.quiet, 0, fun _ => .pointer (some ⟨g2_1, 0, none⟩), []⟩, ⟨.quiet, 0, fun _ => .bool false, [0]⟩, ⟨.quiet, 0, fun _ => .pointer (some ⟨g3_2, 0, none⟩), []⟩, ⟨.quiet, 0, fun _ => .bool true, [2]⟩, ⟨.quiet, 0, fun _ => .bool true, [1, 3]⟩, ⟨.quiet, 0, fun _ => .bool true, [4]⟩, ⟨.quiet, 0, fun _ => .agg (digs (m * n)), [5]⟩, ⟨.call, 1, fun _ => .bool (decide (m * n = 0)), [6, 5]⟩, ⟨.quiet, 1, fun _ => .bool (!(decide (m * n = 0))), [7, 5]⟩, ⟨.quiet, 1, fun _ => .bool (!(decide (m * n = 0))), [5, 8]⟩, ⟨.quiet, 0, fun _ => .agg (digs (m * n)), []⟩, ⟨.quiet, 1, fun _ => .agg (bigs (!(decide (m * n = 0))) (m * n)), [9, 10]⟩] [(2, .pointer (some ⟨g2_1, 0, none⟩)), (3, .pointer (some ⟨g3_2, 0, none⟩)), (4, .pointer (some ⟨g4_3, 0, none⟩)), (5, .pointer (some ⟨g5_4, 0, none⟩))] (by kernel_rfl) (by kernel_rfl) ⟨rfl, rfl, rfl, rfl, trivial⟩ ?_ ?_
  · skip
    refine o_cons (o_q hflW (fun _ _ => rfl) (fun _ _ => rfl)) ?_
    refine o_cons (o_load 3 (reads_one tyBool (bigs_get0 _ _)) (fun _ _ => rfl) rfl (fun _ _ => rfl) rfl) ?_
    refine o_cons (o_q hflW (fun _ _ => rfl) (fun _ _ => rfl)) ?_
    refine o_cons (o_load 2 (reads_one tyBool (bigs_get0 _ _)) (fun _ _ => rfl) rfl (fun _ _ => rfl) rfl) ?_
    refine o_cons (o_nes (neB false true) (fun _ _ => rfl) rfl (fun _ _ => rfl) (fun _ _ => rfl)) ?_
    refine o_cons (o_q hflW (fun _ _ => rfl) (fun _ _ => rfl)) ?_
    refine o_cons (o_load 0 (reads_all (tyDigC _)) (fun _ _ => rfl) rfl (fun _ _ => rfl) rfl) ?_
    refine o_cons (o_call (ent_of Tryd.func64 (by kernel_rfl) rfl) (fun w hU => rzero_any _ (m * n) (mul_small hm hn)) (fun _ _ => rfl) rfl (fun _ _ => rfl) (fun _ _ => rfl)) ?_
    refine o_cons (o_val (fun _ _ => rfl) (fun w hH σ g b W hU hb => by exact exec_not rfl rfl rfl hb)) ?_
    refine o_cons (o_q hflW (fun _ _ => rfl) (fun _ _ => rfl)) ?_
    refine o_cons (o_load 0 (reads_all (tyDigC _)) (fun _ _ => rfl) rfl (fun _ _ => rfl) rfl) ?_
    refine o_cons (o_build (cs := bigs (!(decide (m * n = 0))) (m * n)) (built_big _ _) (fun _ _ => rfl) rfl (fun _ _ => rfl)) ?_
    exact o_nil
  intro σ5 gs5
  refine WL2.keep (env' := [(4, .pointer (some ⟨g4_3, 0, none⟩)), (22, .agg (bigs (!(decide (m * n = 0))) (m * n)))]) ⟨rfl, rfl, trivial⟩ ?_
  refine h_store 1 (v := .agg (bigs (!(decide (m * n = 0))) (m * n))) (bigs (!(decide (m * n = 0))) (m * n)) tyBig.2 (bigs_size _ _) (ble_size zBig_size) (bigs_oneL _ _) (over_all (c := zBig) (v := bigs (!(decide (m * n = 0))) (m * n)) ((zBig_size : (zBig).size = 17).trans ((bigs_size _ _) : (bigs (!(decide (m * n = 0))) (m * n)).size = 17).symm)) rfl rfl rfl rfl rfl rfl ?_
  refine h_nil (f_to (d_ret ?_))
  exact f_fin1 (.cell 1 (v := .agg (bigs (!(decide (m * n = 0))) (m * n))) (reads_all (tyBigsC _ _)) rfl rfl) (fun w h => ⟨rfl, h.up.below⟩) rfl

theorem times_tf (w : World) (m n : Nat) (hm : m < BP 8) (hn : n < BP 7) : Calls Tryd.prog 63 #[BigV true m, BigV false n] w fun e w' => e = .returned (BigV (!decide (m * n = 0)) (m * n)) ∧ Below w.heap.size w w' := by
  refine d_in (args := [.agg (bigs true m), .agg (bigs false n)]) 23 Tryd.func63 rfl rfl rfl ?_
  refine d_reg ?_
  refine h_box (cs := bigs true m) rfl rfl rfl rfl ?_; intro g2_1
  refine h_box (cs := bigs false n) rfl rfl rfl rfl ?_; intro g3_2
  refine h_alloc zeBig rfl rfl ?_; intro g4_3
  refine h_done (d_reg ?_)
  refine h_q hflW rfl ?_
  refine h_load 2 (v := .agg (digs m)) (reads_D _ _) rfl rfl rfl rfl ?_
  refine h_q hflW rfl ?_
  refine h_load 1 (v := .agg (digs n)) (reads_D _ _) rfl rfl rfl rfl ?_
  refine h_call (ent_of Tryd.func92 (by kernel_rfl) rfl) (fun w hH => rmul_any _ m n hm hn) rfl rfl rfl rfl ?_
  refine h_alloc zeDig rfl rfl ?_; intro g5_4
  refine h_store 0 (v := .agg (digs (m * n))) (digs (m * n)) tyDigits.2 (digs_size _) (ble_size (digs_size _)) (digs_oneL _) (over_all (c := digs 0) (v := digs (m * n)) (((digs_size _) : (digs 0).size = 16).trans ((digs_size _) : (digs (m * n)).size = 16).symm)) rfl rfl rfl rfl rfl rfl ?_
  refine h_done (d_seq ?_)
  refine d_par 12 1 [⟨.quiet, 0, fun _ => .pointer (some ⟨g2_1, 0, none⟩), []⟩, ⟨.quiet, 0, fun _ => .bool true, [0]⟩, ⟨.quiet, 0, fun _ => .pointer (some ⟨g3_2, 0, none⟩), []⟩, ⟨.quiet, 0, fun _ => .bool false, [2]⟩, ⟨.quiet, 0, fun _ => .bool true, [1, 3]⟩, ⟨.quiet, 0, fun _ => .bool true, [4]⟩, ⟨.quiet, 0, fun _ => .agg (digs (m * n)), [5]⟩, ⟨.call, 1, fun _ => .bool (decide (m * n = 0)), [6, 5]⟩, ⟨.quiet, 1, fun _ => .bool (!(decide (m * n = 0))), [7, 5]⟩, ⟨.quiet, 1, fun _ => .bool (!(decide (m * n = 0))), [5, 8]⟩, ⟨.quiet, 0, fun _ => .agg (digs (m * n)), []⟩, ⟨.quiet, 1, fun _ => .agg (bigs (!(decide (m * n = 0))) (m * n)), [9, 10]⟩] [(2, .pointer (some ⟨g2_1, 0, none⟩)), (3, .pointer (some ⟨g3_2, 0, none⟩)), (4, .pointer (some ⟨g4_3, 0, none⟩)), (5, .pointer (some ⟨g5_4, 0, none⟩))] (by kernel_rfl) (by kernel_rfl) ⟨rfl, rfl, rfl, rfl, trivial⟩ ?_ ?_
  · skip
    refine o_cons (o_q hflW (fun _ _ => rfl) (fun _ _ => rfl)) ?_
    refine o_cons (o_load 3 (reads_one tyBool (bigs_get0 _ _)) (fun _ _ => rfl) rfl (fun _ _ => rfl) rfl) ?_
    refine o_cons (o_q hflW (fun _ _ => rfl) (fun _ _ => rfl)) ?_
    refine o_cons (o_load 2 (reads_one tyBool (bigs_get0 _ _)) (fun _ _ => rfl) rfl (fun _ _ => rfl) rfl) ?_
    refine o_cons (o_nes (neB true false) (fun _ _ => rfl) rfl (fun _ _ => rfl) (fun _ _ => rfl)) ?_
    refine o_cons (o_q hflW (fun _ _ => rfl) (fun _ _ => rfl)) ?_
    refine o_cons (o_load 0 (reads_all (tyDigC _)) (fun _ _ => rfl) rfl (fun _ _ => rfl) rfl) ?_
    refine o_cons (o_call (ent_of Tryd.func64 (by kernel_rfl) rfl) (fun w hU => rzero_any _ (m * n) (mul_small hm hn)) (fun _ _ => rfl) rfl (fun _ _ => rfl) (fun _ _ => rfl)) ?_
    refine o_cons (o_val (fun _ _ => rfl) (fun w hH σ g b W hU hb => by exact exec_not rfl rfl rfl hb)) ?_
    refine o_cons (o_q hflW (fun _ _ => rfl) (fun _ _ => rfl)) ?_
    refine o_cons (o_load 0 (reads_all (tyDigC _)) (fun _ _ => rfl) rfl (fun _ _ => rfl) rfl) ?_
    refine o_cons (o_build (cs := bigs (!(decide (m * n = 0))) (m * n)) (built_big _ _) (fun _ _ => rfl) rfl (fun _ _ => rfl)) ?_
    exact o_nil
  intro σ5 gs5
  refine WL2.keep (env' := [(4, .pointer (some ⟨g4_3, 0, none⟩)), (22, .agg (bigs (!(decide (m * n = 0))) (m * n)))]) ⟨rfl, rfl, trivial⟩ ?_
  refine h_store 1 (v := .agg (bigs (!(decide (m * n = 0))) (m * n))) (bigs (!(decide (m * n = 0))) (m * n)) tyBig.2 (bigs_size _ _) (ble_size zBig_size) (bigs_oneL _ _) (over_all (c := zBig) (v := bigs (!(decide (m * n = 0))) (m * n)) ((zBig_size : (zBig).size = 17).trans ((bigs_size _ _) : (bigs (!(decide (m * n = 0))) (m * n)).size = 17).symm)) rfl rfl rfl rfl rfl rfl ?_
  refine h_nil (f_to (d_ret ?_))
  exact f_fin1 (.cell 1 (v := .agg (bigs (!(decide (m * n = 0))) (m * n))) (reads_all (tyBigsC _ _)) rfl rfl) (fun w h => ⟨rfl, h.up.below⟩) rfl

theorem rtimes_any (w : World) (x y : Int) (hx : x.natAbs < BP 8) (hy : y.natAbs < BP 7) : Calls Tryd.prog 63 #[BigZ x, BigZ y] w fun e w' => e = .returned (BigZ (x * y)) ∧ Below w.heap.size w w' := by
  rw [← times_z]
  unfold BigZ
  by_cases h1 : x < 0 <;> by_cases h2 : y < 0
  · simpa [h1, h2, BigZ] using times_tt w _ _ hx hy
  · simpa [h1, h2, BigZ] using times_tf w _ _ hx hy
  · simpa [h1, h2, BigZ] using times_ft w _ _ hx hy
  · simpa [h1, h2, BigZ] using times_ff w _ _ hx hy
end Go.Proofs.YtfalllekhcocgaaDoor

namespace Go.Proofs.YtfalllekhcocgaaDoor
open Go.RowKit

end Go.Proofs.YtfalllekhcocgaaDoor

namespace Go.Proofs.YtfalllekhcocgaaDoor
open Go.RowKit

theorem prod_small {x y : Int} {i j k : Nat} (hx : x.natAbs < BP i) (hy : y.natAbs < BP j) (h : i + j ≤ k) : (x * y).natAbs < BP k := by
  rw [Int.natAbs_mul]
  have h1 : x.natAbs * y.natAbs ≤ x.natAbs * BP j := Nat.mul_le_mul_left _ (Nat.le_of_lt hy)
  have h2 : x.natAbs * BP j < BP i * BP j := Nat.mul_lt_mul_of_pos_right hx (BP_pos j)
  rw [← BP_add] at h2
  have h3 := BP_le h
  omega
theorem size_W : (Tryd.prog.info? 24).map (·.size) = some 2 := by kernel_rfl

end Go.Proofs.YtfalllekhcocgaaDoor

namespace Go.Proofs.YtfalllekhcocgaaDoor
open Go.RowKit

end Go.Proofs.YtfalllekhcocgaaDoor

namespace Go.Proofs.YtfalllekhcocgaaDoor
open Go.RowKit

end Go.Proofs.YtfalllekhcocgaaDoor

namespace Go.Proofs.YtfalllekhcocgaaDoor
open Go.RowKit

theorem digs_1 : digs 1 = #[.int .u64 1, .int .u64 0, .int .u64 0, .int .u64 0, .int .u64 0, .int .u64 0, .int .u64 0, .int .u64 0, .int .u64 0, .int .u64 0, .int .u64 0, .int .u64 0, .int .u64 0, .int .u64 0, .int .u64 0, .int .u64 0] := by kernel_rfl
theorem digs_10 : digs 10 = #[.int .u64 10, .int .u64 0, .int .u64 0, .int .u64 0, .int .u64 0, .int .u64 0, .int .u64 0, .int .u64 0, .int .u64 0, .int .u64 0, .int .u64 0, .int .u64 0, .int .u64 0, .int .u64 0, .int .u64 0, .int .u64 0] := by kernel_rfl
theorem ten_small {k : Nat} (h : k ≤ 77) : 10 ^ k < BP 8 := by
  have h1 : 10 ^ k ≤ 10 ^ 77 := Nat.pow_le_pow_right (by decide) h
  have h2 : (10 : Nat) ^ 77 < BP 8 := by decide
  omega

set_option maxRecDepth 100000 in
set_option maxHeartbeats 2000000 in
theorem rten_any (w : World) (n : Int) (hn : -9223372036854775808 ≤ n ∧ n ≤ 77) : Calls Tryd.prog 67 #[.int .i64 n] w fun e w' => e = .returned (DV (10 ^ n.toNat)) ∧ Below w.heap.size w w' := by
  have hA := ((Row.new w 74 (digs 0)).alloc (.cells (digs 1) 74)).alloc (.cells (digs 10) 74)
  have hB := (Row.new (w.alloc (.cells (digs 0) 74)) 74 (digs 1)).alloc (.cells (digs 10) 74)
  have hC := Row.new ((w.alloc (.cells (digs 0) 74)).alloc (.cells (digs 1) 74)) 74 (digs 10)
  have hU := (((Up.refl w).alloc (.cells (digs 0) 74)).alloc (.cells (digs 1) 74)).alloc (.cells (digs 10) 74)
  simp only [alloc_size] at hB hC
  unfold DV
  obtain ⟨R, hR⟩ : ∃ R, R = 10 ^ n.toNat := ⟨_, rfl⟩
  rw [← hR]
  have HR := hid hR
  have HN := hid hn
  clear hn hR
  go_enter Tryd.func67, Tryd.ntmps67
  go_wp2_with fail
  obtain ⟨V, hV⟩ : ∃ V, V = ((w.alloc (.cells (digs 0) 74)).alloc (.cells (digs 1) 74)).alloc (.cells (digs 10) 74) := ⟨_, rfl⟩
  rw [digs_0, digs_1, digs_10] at hV
  rw [← hV]
  rw [← digs_0, ← digs_1, ← digs_10] at hV
  rw [← hV] at hA hB hC hU
  clear hV
  go_loopw [5] (fun i wr => ∃ j p : Nat, i = .int .i64 (j : Int) ∧ j ≤ n.toNat ∧ p = 10 ^ j ∧ Row wr w.heap.size 74 (digs 0) ∧ Row wr (w.heap.size + 1) 74 (digs p) ∧ Row wr (w.heap.size + 1 + 1) 74 (digs 10) ∧ Up w.heap.size w wr) (fun i _ => 77 - (intOf i).toNat)
  case atStart => exact ⟨0, 1, rfl, Nat.zero_le _, rfl, hA, hB, hC, hU⟩
  case round =>
    clear hA hB hC hU
    obtain ⟨j, p, rfl, hj, hp, hA, hB, hC, hU⟩ := hrel
    have hn := HN.out
    by_cases hlt : (j : Int) < n
    · have hm := fun w => rmul_any w p 10 (by rw [hp]; exact ten_small (by omega)) (by decide)
      rw [hp, ← Nat.pow_succ, ← hp] at hm
      obtain ⟨q, hq⟩ : ∃ q, q = 10 ^ (j + 1) := ⟨_, rfl⟩
      rw [show 10 ^ (j + 1) = q from hq.symm] at hm
      unfold DV at hm
      obtain ⟨E1, hE1⟩ : ∃ X, X = digs p := ⟨_, rfl⟩
      obtain ⟨E2, hE2⟩ : ∃ X, X = digs 10 := ⟨_, rfl⟩
      obtain ⟨E3, hE3⟩ : ∃ X, X = digs q := ⟨_, rfl⟩
      rw [← hE1, ← hE2, ← hE3] at hm
      rw [← hE1] at hB
      rw [← hE2] at hC
      have HE1 := hid hE1
      have HE2 := hid hE2
      have HE3 := hid hE3
      have HM := hid hm
      have HQ := hid hq
      clear hm hE1 hE2 hE3 hq hp
      go_wp2_with (first | (refine wpList_load_row rfl 74 (.tmp 3) rfl (w.heap.size + 1) rfl 74 E1 (0, 0) _ hB Tryd.underlying74 rfl (size_De HE1) ?_) | (refine wpList_load_row rfl 74 (.tmp 4) rfl (w.heap.size + 1 + 1) rfl 74 E2 (0, 0) _ hC Tryd.underlying74 rfl (size_De HE2) ?_))
      refine Calls.mono (HM.out _) ?_; rintro e w1 ⟨rfl, hb⟩
      replace hA := hA.mod (Mod.of_below hb Nil) (fun hf => hf)
      replace hB := hB.mod (Mod.of_below hb Nil) (fun hf => hf)
      replace hC := hC.mod (Mod.of_below hb Nil) (fun hf => hf)
      replace hU := hU.trans hb
      clear hb
      go_wp2_with (refine wpList_store_row rfl 74 _ _ rfl (w.heap.size + 1) E3 rfl rfl 74 E1 hB (size_De HE3) (by rw [sizeE HE1, sizeE HE3]) (oneE HE3) ?_)
      go_roundw
      case rel => exact ⟨j + 1, q, by go_num, by omega, HQ.out, hA.farRow (by omega) _, by rw [← HE3.out]; exact hB.putRow _, by rw [← HE2.out]; exact hC.farRow (by omega) _, hU.setRow (by omega) _⟩
      case measure => simp [intOf]; omega
    · have hjn : p = R := by rw [hp, HR.out]; congr 1; omega
      subst hjn
      clear hn hj hp
      go_wp2_with (first | (refine wpList_load_row rfl 74 _ rfl (w.heap.size + 1) rfl 74 (digs p) (0, 0) _ hB Tryd.underlying74 rfl (size_Dn p) ?_) | (refine wpList_store_row rfl 74 _ _ rfl (w.heap.size) (digs p) rfl rfl 74 (digs 0) hA (size_Dn p) (by rw [digs_size, digs_size]) (digs_one p) ?_))
      exact bodyPost_ret (v := .agg (digs p)) (results_cell_row Tryd.results67 _ _ (w.heap.size) 74 (digs p) (0, 0) _ rfl (hA.putRow _) Tryd.underlying74 rfl (size_Dn p)) rfl ⟨rfl, (hU.setRow (by omega) _).below⟩
end Go.Proofs.YtfalllekhcocgaaDoor
