/-
  TextW · Tyd · May · Decs · At
-/
import Derived.Test.YtmamedobphlpkaaDoorE02
import Derived.Test.YtmamedobphlpkaaDoorE03
import Derived.Test.YtmamedobphlpkaaDoorE08
import Derived.Test.YtmamedobphlpkaaDoorE09
import Derived.Test.YtmamedobphlpkaaDoorF03
set_option linter.unusedSimpArgs false
set_option linter.unusedVariables false

namespace Go.Proofs.YtmamedobphlpkaaDoor
open Go.RowKit

theorem fmtu_low (w : World) (u : Nat) (h : u < 100) : Calls Tryd.prog 95 #[.int .u64 (u : Int), .int .i64 10] w fun e w' => e = .returned (.string (bs (Lib.decDigits u))) ∧ Below w.heap.size w w' := by
  refine d_in (args := [.int .u64 (u : Int), .int .i64 10]) 32 Tryd.func95 rfl rfl rfl ?_
  refine d_reg ?_
  refine h_q hflW rfl ?_
  refine h_done (d_seq (d_reg ?_))
  refine h_q hflW rfl ?_
  refine h_cmp (cmp_eql_t (by decide)) rfl rfl rfl rfl ?_
  refine h_done (d_then rfl (d_seq (d_reg ?_)))
  refine h_q hflW rfl ?_
  refine h_cmp (cmp_lss_t (by omega)) rfl rfl rfl rfl ?_
  refine h_done (d_then rfl (d_reg ?_))
  refine h_q hflW rfl ?_
  refine h_val rfl (.int .i64 (u : Int)) (fun b w hb hH => by have e0 := hb.get 13 _ rfl; go_simp; exact IntWalk.i64_in _ (by omega)) ?_
  refine h_call (ent_of Tryd.func101 (by kernel_rfl) rfl) (fun w hH => small_any _ u h) rfl rfl rfl rfl ?_
  refine h_q hflW rfl ?_
  refine h_done (d_ret (f_then_ret (f_then_ret ?_)))
  exact f_fin1 (.tmp rfl) (fun w h => ⟨rfl, h.up.below⟩) rfl

theorem fmtu_any (w : World) (u : Nat) (h64 : u < 18446744073709551616) (htab : Lib.TabIs Tryd.prog w "internal/strconv.uint64pow10" .u64 Lib.pow10Tab) : Calls Tryd.prog 95 #[.int .u64 (u : Int), .int .i64 10] w fun e w' => e = .returned (.string (bs (Lib.decDigits u))) ∧ Below w.heap.size w w' := by
  by_cases h : u < 100
  · exact fmtu_low w u h
  · exact fmtUint_any w u (by omega) h64 htab

theorem formatU_any (w : World) (u : Nat) (h64 : u < 18446744073709551616) (htab : Lib.TabIs Tryd.prog w "internal/strconv.uint64pow10" .u64 Lib.pow10Tab) (hg : 2 < w.heap.size) : Calls Tryd.prog 81 #[.int .u64 (u : Int), .int .i64 10] w fun e w' => e = .returned (.string (bs (Lib.decDigits u))) ∧ Below w.heap.size w w' := by
  refine d_in (args := [.int .u64 (u : Int), .int .i64 10]) 8 Tryd.func81 rfl rfl rfl ?_
  refine d_reg ?_
  refine h_q hflW rfl ?_
  refine h_done (d_reg ?_)
  refine h_q hflW rfl ?_
  refine h_call (ent_of Tryd.func95 (by kernel_rfl) rfl) (fun w hH => fmtu_any _ u h64 (tab_below htab hH.up.below hg)) rfl rfl rfl rfl ?_
  refine h_q hflW rfl ?_
  refine h_done (d_ret ?_)
  exact f_fin1 (.tmp rfl) (fun w h => ⟨rfl, h.up.below⟩) rfl

/-! ## Digits in a row -/
def digit (k : Nat) : UInt8 := UInt8.ofNat (48 + k)
theorem dd_small {u : Nat} (h : u < 10) : Lib.decDigits u = [digit u] := by rw [Lib.decDigits, dif_pos h]; rfl
theorem dd_big {u : Nat} (h : ¬ u < 10) : Lib.decDigits u = Lib.decDigits (u / 10) ++ [digit (u % 10)] := by rw [Lib.decDigits, dif_neg h]; rfl
/-- noughts ahead, so that there are k digits -/
def padded : Nat → Nat → List UInt8
  | 0, _ => []
  | k + 1, u => padded k (u / 10) ++ [digit (u % 10)]
theorem padded_length : ∀ k u, (padded k u).length = k
  | 0, _ => rfl
  | k + 1, u => by simp [padded, padded_length k]
theorem dd_pos (u : Nat) : 0 < (Lib.decDigits u).length := by
  by_cases h : u < 10
  · rw [dd_small h]; simp
  · rw [dd_big h]; simp
theorem padded_zero : ∀ k, padded k 0 = Lib.repeatL [48] k
  | 0 => rfl
  | k + 1 => by
    have h : ∀ n, Lib.repeatL [48] n ++ [48] = 48 :: Lib.repeatL [48] n := by
      intro n
      induction n with
      | zero => rfl
      | succ n ih => show 48 :: (Lib.repeatL [48] n ++ [48]) = _; rw [ih]; rfl
    show padded k (0 / 10) ++ [digit (0 % 10)] = _
    rw [Nat.zero_div, padded_zero k]
    exact h k
/-- noughts and the digits -/
theorem padded_dd : ∀ k u, u < 10 ^ k → 0 < k → padded k u = Lib.repeatL [48] (k - (Lib.decDigits u).length) ++ Lib.decDigits u
  | 0, u, _, h => by omega
  | k + 1, u, hu, _ => by
    show padded k (u / 10) ++ [digit (u % 10)] = _
    by_cases h : u < 10
    · rw [dd_small h, Nat.div_eq_of_lt h, padded_zero, Nat.mod_eq_of_lt h]; rfl
    · have hk : 0 < k := by
        rcases Nat.eq_zero_or_pos k with h0 | h0
        · subst h0; omega
        · exact h0
      rw [padded_dd k (u / 10) (by rw [Nat.pow_succ] at hu; omega) hk, dd_big h, List.append_assoc]
      congr 1
      simp
/-- a number of more than k digits: what goes ahead, and the last k -/
theorem dd_split : ∀ k h l, 0 < h → l < 10 ^ k → Lib.decDigits (h * 10 ^ k + l) = Lib.decDigits h ++ padded k l
  | 0, h, l, _, hl => by
    have : l = 0 := by simpa using hl
    subst this
    simp [padded]
  | k + 1, h, l, hh, hl => by
    have hp : 0 < 10 ^ k := Nat.pow_pos (by decide)
    have hbig : ¬ h * 10 ^ (k + 1) + l < 10 := by
      rw [Nat.pow_succ]
      have : 1 * (10 ^ k * 10) ≤ h * (10 ^ k * 10) := Nat.mul_le_mul_right _ hh
      omega
    have e1 : (h * 10 ^ (k + 1) + l) / 10 = h * 10 ^ k + l / 10 := by rw [Nat.pow_succ, ← Nat.mul_assoc]; omega
    have e2 : (h * 10 ^ (k + 1) + l) % 10 = l % 10 := by rw [Nat.pow_succ, ← Nat.mul_assoc]; omega
    rw [dd_big hbig, e1, e2, dd_split k h (l / 10) hh (by rw [Nat.pow_succ] at hl; omega), List.append_assoc]
    rfl
/-- a number's text -/
def textZ (z : Int) : List UInt8 := if z < 0 then 45 :: Lib.decDigits z.natAbs else Lib.decDigits z.natAbs
theorem dd_length {u k : Nat} (hk : 0 < k) (h : u < 10 ^ k) : (Lib.decDigits u).length ≤ k := by
  have := congrArg List.length (padded_dd k u h hk)
  rw [padded_length, List.length_append] at this
  omega

theorem sizedN (w : World) (x : Int) (hx : Fits x) {b : Bool} (hb : decide (x < 0) = b) : Calls Tryd.prog 75 #[WV x] w fun e w' => e = .returned (.tuple #[UV (mag x), .bool b]) ∧ Below w.heap.size w w' := by
  have := sized_any w x hx
  rwa [hb] at this
theorem mag_le {x : Int} (hx : Fits x) : 0 ≤ mag x ∧ mag x ≤ 170141183460469231731687303715884105728 := by unfold Fits mag at *; split <;> omega
theorem divN (w : World) (x : Int) (q r : Nat) (hx : Fits x) (hq : (q : Int) = mag x / 10000000000000000000) (hr : (r : Int) = mag x % 10000000000000000000) : Calls Tryd.prog 80 #[.int .u64 (mag x / 18446744073709551616), .int .u64 (mag x % 18446744073709551616), .int .u64 10000000000000000000] w fun e w' => e = .returned (.tuple #[.int .u64 (q : Int), .int .u64 (r : Int)]) ∧ Below w.heap.size w w' := by
  have hm := mag_le hx
  have h := div64_any w (mag x / 18446744073709551616) (mag x % 18446744073709551616) 10000000000000000000 (by omega) (by omega) (by omega)
  rw [show mag x / 18446744073709551616 * 18446744073709551616 + mag x % 18446744073709551616 = mag x by omega] at h
  rw [hq, hr]
  exact as_drew h
theorem repeatN (w : World) (r : Nat) (hr : r < 10000000000000000000) : Calls Tryd.prog 68 #[.string (bs [48]), .int .i64 ((19 - (Lib.decDigits r).length : Nat) : Int)] w fun e w' => e = .returned (.string (bs (Lib.repeatL [48] (19 - (Lib.decDigits r).length)))) ∧ Below w.heap.size w w' := by
  have := repeat_any w (bs [48]) (19 - (Lib.decDigits r).length) (by omega) (by rw [bs_size]; simp only [List.length_cons, List.length_nil]; omega)
  rwa [bs_data] at this
theorem text_low {x : Int} {q r : Nat} {b : Bool} (hneg : decide (x < 0) = b) (hq : (q : Int) = mag x / 10000000000000000000) (hr : (r : Int) = mag x % 10000000000000000000) (h0 : q = 0) (_h : r < 10000000000000000000) : textZ x = if b then 45 :: Lib.decDigits r else Lib.decDigits r := by
  have e : x.natAbs = r := by unfold mag at hq hr; split at hq <;> omega
  unfold textZ
  rw [e, ← hneg]
  by_cases h : x < 0 <;> simp [h]
theorem text_big {x : Int} {q r : Nat} {b : Bool} (hneg : decide (x < 0) = b) (hq : (q : Int) = mag x / 10000000000000000000) (hr : (r : Int) = mag x % 10000000000000000000) (h0 : 0 < q) (h : r < 10000000000000000000) : textZ x = if b then 45 :: (Lib.decDigits q ++ Lib.repeatL [48] (19 - (Lib.decDigits r).length) ++ Lib.decDigits r) else Lib.decDigits q ++ Lib.repeatL [48] (19 - (Lib.decDigits r).length) ++ Lib.decDigits r := by
  have e : x.natAbs = q * 10 ^ 19 + r := by unfold mag at hq hr; split at hq <;> omega
  unfold textZ
  rw [e, dd_split 19 q r h0 (by omega), padded_dd 19 r (by omega) (by decide), ← hneg, List.append_assoc]
  by_cases h : x < 0 <;> simp [h]

theorem text_pl (w : World) (x : Int) (q r : Nat) (hx : Fits x) (hneg : decide (x < 0) = false) (hq : (q : Int) = mag x / 10000000000000000000) (hr : (r : Int) = mag x % 10000000000000000000) (h0 : q = 0) (hq64 : q < 18446744073709551616) (hr19 : r < 10000000000000000000) (htab : Lib.TabIs Tryd.prog w "internal/strconv.uint64pow10" .u64 Lib.pow10Tab) (hg : 2 < w.heap.size) : Calls Tryd.prog 67 #[WV x] w fun e w' => e = .returned (.string (bs (textZ x))) ∧ Below w.heap.size w w' := by
  refine d_in (args := [WV x]) 39 Tryd.func67 rfl rfl rfl ?_
  refine d_reg ?_
  refine h_box (cs := #[hiW x, loW x]) rfl rfl rfl rfl ?_; intro g1_1
  refine h_q hflW rfl ?_
  refine h_done (d_reg ?_)
  refine h_load 0 (v := .agg #[hiW x, loW x]) (reads_agg (cs := [hiW x, loW x]) tyWide rfl) rfl rfl rfl rfl ?_
  refine h_call (ent_of Tryd.func75 (by kernel_rfl) rfl) (fun w hH => sizedN _ x hx hneg) rfl rfl rfl rfl ?_
  refine h_q hflW rfl ?_
  refine h_alloc zeSize rfl rfl ?_; intro g3_2
  refine h_store 0 (v := UV (mag x)) (#[.int .u64 (mag x / 18446744073709551616), .int .u64 (mag x % 18446744073709551616)]) tySize.2 rfl rfl rfl rfl rfl rfl rfl rfl rfl rfl ?_
  refine h_q hflW rfl ?_
  refine h_done (d_seq ?_)
  refine d_par 11 2 [⟨.quiet, 0, fun _ => .pointer (some ⟨g3_2, 0, none⟩), []⟩, ⟨.quiet, 0, fun _ => .int .u64 (mag x / 18446744073709551616), [0]⟩, ⟨.quiet, 0, fun _ => .pointer (some ⟨g3_2, 1, none⟩), []⟩, ⟨.quiet, 0, fun _ => .int .u64 (mag x % 18446744073709551616), [2]⟩, ⟨.call, 1, fun _ => .int .u64 10000000000000000000, []⟩, ⟨.call, 2, fun _ => .tuple #[.int .u64 (q : Int), .int .u64 (r : Int)], [1, 3, 4]⟩, ⟨.quiet, 2, fun _ => .tuple #[.int .u64 (q : Int), .int .u64 (r : Int)], [5]⟩, ⟨.quiet, 2, fun _ => .int .u64 (q : Int), [6]⟩, ⟨.quiet, 2, fun _ => .int .u64 (r : Int), [6]⟩, ⟨.quiet, 2, fun _ => .int .u64 (q : Int), [7]⟩, ⟨.quiet, 2, fun _ => .int .u64 (r : Int), [8]⟩] [(2, .string (bs ([]))), (3, .pointer (some ⟨g3_2, 0, none⟩)), (4, .bool false)] (by kernel_rfl) (by kernel_rfl) ⟨rfl, rfl, rfl, trivial⟩ ?_ ?_
  · skip
    refine o_cons (o_q hflW (fun _ _ => rfl) (fun _ _ => rfl)) ?_
    refine o_cons (o_load 0 (reads_one tyUint64 rfl) (fun _ _ => rfl) rfl (fun _ _ => rfl) rfl) ?_
    refine o_cons (o_q hflW (fun _ _ => rfl) (fun _ _ => rfl)) ?_
    refine o_cons (o_load 0 (reads_one tyUint64 rfl) (fun _ _ => rfl) rfl (fun _ _ => rfl) rfl) ?_
    refine o_cons (o_call (ent_of Tryd.func52 (by kernel_rfl) rfl) (fun w hU => ten_any _ 19 (by decide)) (fun _ _ => rfl) rfl (fun _ _ => rfl) (fun _ _ => rfl)) ?_
    refine o_cons (o_call (ent_of Tryd.func80 (by kernel_rfl) rfl) (fun w hU => divN _ x q r hx hq hr) (fun _ _ => rfl) rfl (fun _ _ => rfl) (fun _ _ => rfl)) ?_
    refine o_cons (o_q hflW (fun _ _ => rfl) (fun _ _ => rfl)) ?_
    refine o_cons (o_q hflW (fun _ _ => rfl) (fun _ _ => rfl)) ?_
    refine o_cons (o_q hflW (fun _ _ => rfl) (fun _ _ => rfl)) ?_
    refine o_cons (o_q hflW (fun _ _ => rfl) (fun _ _ => rfl)) ?_
    refine o_cons (o_q hflW (fun _ _ => rfl) (fun _ _ => rfl)) ?_
    exact o_nil
  intro σ3 gs3
  refine WL2.keep (env' := [(2, .string (bs ([]))), (4, .bool false), (5, .int .u64 (q : Int)), (6, .int .u64 (r : Int))]) ⟨rfl, rfl, rfl, rfl, trivial⟩ ?_
  refine h_nil (f_to (d_reg ?_))
  refine h_q hflW rfl ?_
  refine h_call (ent_of Tryd.func81 (by kernel_rfl) rfl) (fun w hH => formatU_any _ r (by omega) (tab_below htab hH.up.below hg) (Nat.lt_of_lt_of_le hg hH.up.size)) rfl rfl rfl rfl ?_
  refine h_q hflW rfl ?_
  refine h_done (d_seq (d_reg ?_))
  refine h_q hflW rfl ?_
  refine h_cmp (cmp_gtr_f (by omega)) rfl rfl rfl rfl ?_
  refine h_done (d_else rfl (d_skip (f_to (d_seq (d_reg ?_)))))
  refine h_q hflW rfl ?_
  refine h_done (d_else rfl (d_skip (f_to (d_reg ?_))))
  refine h_q hflW rfl ?_
  refine h_done (d_ret ?_)
  exact f_fin1 (.tmp rfl) (fun w h => ⟨by rw [text_low hneg hq hr h0 hr19]; rfl, h.up.below⟩) rfl

theorem text_nl (w : World) (x : Int) (q r : Nat) (hx : Fits x) (hneg : decide (x < 0) = true) (hq : (q : Int) = mag x / 10000000000000000000) (hr : (r : Int) = mag x % 10000000000000000000) (h0 : q = 0) (hq64 : q < 18446744073709551616) (hr19 : r < 10000000000000000000) (htab : Lib.TabIs Tryd.prog w "internal/strconv.uint64pow10" .u64 Lib.pow10Tab) (hg : 2 < w.heap.size) : Calls Tryd.prog 67 #[WV x] w fun e w' => e = .returned (.string (bs (textZ x))) ∧ Below w.heap.size w w' := by
  refine d_in (args := [WV x]) 39 Tryd.func67 rfl rfl rfl ?_
  refine d_reg ?_
  refine h_box (cs := #[hiW x, loW x]) rfl rfl rfl rfl ?_; intro g1_1
  refine h_q hflW rfl ?_
  refine h_done (d_reg ?_)
  refine h_load 0 (v := .agg #[hiW x, loW x]) (reads_agg (cs := [hiW x, loW x]) tyWide rfl) rfl rfl rfl rfl ?_
  refine h_call (ent_of Tryd.func75 (by kernel_rfl) rfl) (fun w hH => sizedN _ x hx hneg) rfl rfl rfl rfl ?_
  refine h_q hflW rfl ?_
  refine h_alloc zeSize rfl rfl ?_; intro g3_2
  refine h_store 0 (v := UV (mag x)) (#[.int .u64 (mag x / 18446744073709551616), .int .u64 (mag x % 18446744073709551616)]) tySize.2 rfl rfl rfl rfl rfl rfl rfl rfl rfl rfl ?_
  refine h_q hflW rfl ?_
  refine h_done (d_seq ?_)
  refine d_par 11 2 [⟨.quiet, 0, fun _ => .pointer (some ⟨g3_2, 0, none⟩), []⟩, ⟨.quiet, 0, fun _ => .int .u64 (mag x / 18446744073709551616), [0]⟩, ⟨.quiet, 0, fun _ => .pointer (some ⟨g3_2, 1, none⟩), []⟩, ⟨.quiet, 0, fun _ => .int .u64 (mag x % 18446744073709551616), [2]⟩, ⟨.call, 1, fun _ => .int .u64 10000000000000000000, []⟩, ⟨.call, 2, fun _ => .tuple #[.int .u64 (q : Int), .int .u64 (r : Int)], [1, 3, 4]⟩, ⟨.quiet, 2, fun _ => .tuple #[.int .u64 (q : Int), .int .u64 (r : Int)], [5]⟩, ⟨.quiet, 2, fun _ => .int .u64 (q : Int), [6]⟩, ⟨.quiet, 2, fun _ => .int .u64 (r : Int), [6]⟩, ⟨.quiet, 2, fun _ => .int .u64 (q : Int), [7]⟩, ⟨.quiet, 2, fun _ => .int .u64 (r : Int), [8]⟩] [(2, .string (bs ([]))), (3, .pointer (some ⟨g3_2, 0, none⟩)), (4, .bool true)] (by kernel_rfl) (by kernel_rfl) ⟨rfl, rfl, rfl, trivial⟩ ?_ ?_
  · skip
    refine o_cons (o_q hflW (fun _ _ => rfl) (fun _ _ => rfl)) ?_
    refine o_cons (o_load 0 (reads_one tyUint64 rfl) (fun _ _ => rfl) rfl (fun _ _ => rfl) rfl) ?_
    refine o_cons (o_q hflW (fun _ _ => rfl) (fun _ _ => rfl)) ?_
    refine o_cons (o_load 0 (reads_one tyUint64 rfl) (fun _ _ => rfl) rfl (fun _ _ => rfl) rfl) ?_
    refine o_cons (o_call (ent_of Tryd.func52 (by kernel_rfl) rfl) (fun w hU => ten_any _ 19 (by decide)) (fun _ _ => rfl) rfl (fun _ _ => rfl) (fun _ _ => rfl)) ?_
    refine o_cons (o_call (ent_of Tryd.func80 (by kernel_rfl) rfl) (fun w hU => divN _ x q r hx hq hr) (fun _ _ => rfl) rfl (fun _ _ => rfl) (fun _ _ => rfl)) ?_
    refine o_cons (o_q hflW (fun _ _ => rfl) (fun _ _ => rfl)) ?_
    refine o_cons (o_q hflW (fun _ _ => rfl) (fun _ _ => rfl)) ?_
    refine o_cons (o_q hflW (fun _ _ => rfl) (fun _ _ => rfl)) ?_
    refine o_cons (o_q hflW (fun _ _ => rfl) (fun _ _ => rfl)) ?_
    refine o_cons (o_q hflW (fun _ _ => rfl) (fun _ _ => rfl)) ?_
    exact o_nil
  intro σ3 gs3
  refine WL2.keep (env' := [(2, .string (bs ([]))), (4, .bool true), (5, .int .u64 (q : Int)), (6, .int .u64 (r : Int))]) ⟨rfl, rfl, rfl, rfl, trivial⟩ ?_
  refine h_nil (f_to (d_reg ?_))
  refine h_q hflW rfl ?_
  refine h_call (ent_of Tryd.func81 (by kernel_rfl) rfl) (fun w hH => formatU_any _ r (by omega) (tab_below htab hH.up.below hg) (Nat.lt_of_lt_of_le hg hH.up.size)) rfl rfl rfl rfl ?_
  refine h_q hflW rfl ?_
  refine h_done (d_seq (d_reg ?_))
  refine h_q hflW rfl ?_
  refine h_cmp (cmp_gtr_f (by omega)) rfl rfl rfl rfl ?_
  refine h_done (d_else rfl (d_skip (f_to (d_seq (d_reg ?_)))))
  refine h_q hflW rfl ?_
  refine h_done (d_then rfl (d_reg ?_))
  refine h_q hflW rfl ?_
  refine h_cat (r := ([45]) ++ (Lib.decDigits r)) rfl (by have := dd_length (u := q) (k := 20) (by decide) (by omega); have := dd_length (u := r) (k := 19) (by decide) (by omega); simp only [List.length_append, Lib.repeatL_length, List.length_cons, List.length_nil]; omega) rfl rfl rfl rfl ?_
  refine h_q hflW rfl ?_
  refine h_done (d_ret (f_then_ret ?_))
  exact f_fin1 (.tmp rfl) (fun w h => ⟨by rw [text_low hneg hq hr h0 hr19]; rfl, h.up.below⟩) rfl

theorem text_pb (w : World) (x : Int) (q r : Nat) (hx : Fits x) (hneg : decide (x < 0) = false) (hq : (q : Int) = mag x / 10000000000000000000) (hr : (r : Int) = mag x % 10000000000000000000) (h0 : 0 < q) (hq64 : q < 18446744073709551616) (hr19 : r < 10000000000000000000) (htab : Lib.TabIs Tryd.prog w "internal/strconv.uint64pow10" .u64 Lib.pow10Tab) (hg : 2 < w.heap.size) : Calls Tryd.prog 67 #[WV x] w fun e w' => e = .returned (.string (bs (textZ x))) ∧ Below w.heap.size w w' := by
  refine d_in (args := [WV x]) 39 Tryd.func67 rfl rfl rfl ?_
  refine d_reg ?_
  refine h_box (cs := #[hiW x, loW x]) rfl rfl rfl rfl ?_; intro g1_1
  refine h_q hflW rfl ?_
  refine h_done (d_reg ?_)
  refine h_load 0 (v := .agg #[hiW x, loW x]) (reads_agg (cs := [hiW x, loW x]) tyWide rfl) rfl rfl rfl rfl ?_
  refine h_call (ent_of Tryd.func75 (by kernel_rfl) rfl) (fun w hH => sizedN _ x hx hneg) rfl rfl rfl rfl ?_
  refine h_q hflW rfl ?_
  refine h_alloc zeSize rfl rfl ?_; intro g3_2
  refine h_store 0 (v := UV (mag x)) (#[.int .u64 (mag x / 18446744073709551616), .int .u64 (mag x % 18446744073709551616)]) tySize.2 rfl rfl rfl rfl rfl rfl rfl rfl rfl rfl ?_
  refine h_q hflW rfl ?_
  refine h_done (d_seq ?_)
  refine d_par 11 2 [⟨.quiet, 0, fun _ => .pointer (some ⟨g3_2, 0, none⟩), []⟩, ⟨.quiet, 0, fun _ => .int .u64 (mag x / 18446744073709551616), [0]⟩, ⟨.quiet, 0, fun _ => .pointer (some ⟨g3_2, 1, none⟩), []⟩, ⟨.quiet, 0, fun _ => .int .u64 (mag x % 18446744073709551616), [2]⟩, ⟨.call, 1, fun _ => .int .u64 10000000000000000000, []⟩, ⟨.call, 2, fun _ => .tuple #[.int .u64 (q : Int), .int .u64 (r : Int)], [1, 3, 4]⟩, ⟨.quiet, 2, fun _ => .tuple #[.int .u64 (q : Int), .int .u64 (r : Int)], [5]⟩, ⟨.quiet, 2, fun _ => .int .u64 (q : Int), [6]⟩, ⟨.quiet, 2, fun _ => .int .u64 (r : Int), [6]⟩, ⟨.quiet, 2, fun _ => .int .u64 (q : Int), [7]⟩, ⟨.quiet, 2, fun _ => .int .u64 (r : Int), [8]⟩] [(2, .string (bs ([]))), (3, .pointer (some ⟨g3_2, 0, none⟩)), (4, .bool false)] (by kernel_rfl) (by kernel_rfl) ⟨rfl, rfl, rfl, trivial⟩ ?_ ?_
  · skip
    refine o_cons (o_q hflW (fun _ _ => rfl) (fun _ _ => rfl)) ?_
    refine o_cons (o_load 0 (reads_one tyUint64 rfl) (fun _ _ => rfl) rfl (fun _ _ => rfl) rfl) ?_
    refine o_cons (o_q hflW (fun _ _ => rfl) (fun _ _ => rfl)) ?_
    refine o_cons (o_load 0 (reads_one tyUint64 rfl) (fun _ _ => rfl) rfl (fun _ _ => rfl) rfl) ?_
    refine o_cons (o_call (ent_of Tryd.func52 (by kernel_rfl) rfl) (fun w hU => ten_any _ 19 (by decide)) (fun _ _ => rfl) rfl (fun _ _ => rfl) (fun _ _ => rfl)) ?_
    refine o_cons (o_call (ent_of Tryd.func80 (by kernel_rfl) rfl) (fun w hU => divN _ x q r hx hq hr) (fun _ _ => rfl) rfl (fun _ _ => rfl) (fun _ _ => rfl)) ?_
    refine o_cons (o_q hflW (fun _ _ => rfl) (fun _ _ => rfl)) ?_
    refine o_cons (o_q hflW (fun _ _ => rfl) (fun _ _ => rfl)) ?_
    refine o_cons (o_q hflW (fun _ _ => rfl) (fun _ _ => rfl)) ?_
    refine o_cons (o_q hflW (fun _ _ => rfl) (fun _ _ => rfl)) ?_
    refine o_cons (o_q hflW (fun _ _ => rfl) (fun _ _ => rfl)) ?_
    exact o_nil
  intro σ3 gs3
  refine WL2.keep (env' := [(2, .string (bs ([]))), (4, .bool false), (5, .int .u64 (q : Int)), (6, .int .u64 (r : Int))]) ⟨rfl, rfl, rfl, rfl, trivial⟩ ?_
  refine h_nil (f_to (d_reg ?_))
  refine h_q hflW rfl ?_
  refine h_call (ent_of Tryd.func81 (by kernel_rfl) rfl) (fun w hH => formatU_any _ r (by omega) (tab_below htab hH.up.below hg) (Nat.lt_of_lt_of_le hg hH.up.size)) rfl rfl rfl rfl ?_
  refine h_q hflW rfl ?_
  refine h_done (d_seq (d_reg ?_))
  refine h_q hflW rfl ?_
  refine h_cmp (cmp_gtr_t (by omega)) rfl rfl rfl rfl ?_
  refine h_done (d_then rfl (d_reg1 ?_))
  refine h_q hflW rfl ?_
  refine h_call (ent_of Tryd.func81 (by kernel_rfl) rfl) (fun w hH => formatU_any _ q (by omega) (tab_below htab hH.up.below hg) (Nat.lt_of_lt_of_le hg hH.up.size)) rfl rfl rfl rfl ?_
  refine h_q hflW rfl ?_
  refine h_builtin (v := .int .i64 ((Lib.decDigits r).length : Int)) (fun w cs => run_len_bs Tryd.underlying9 _ _ w cs) rfl rfl rfl ?_
  refine h_ar (z' := ((19 - (Lib.decDigits r).length : Nat) : Int)) (by have := dd_length (u := r) (k := 19) (by decide) (by omega); rw [IntWalk.i64_in _ (by omega)]; omega) rfl rfl rfl rfl rfl ?_
  refine h_call (ent_of Tryd.func68 (by kernel_rfl) rfl) (fun w hH => repeatN _ r hr19) rfl rfl rfl rfl ?_
  refine h_cat (r := (Lib.decDigits q) ++ (Lib.repeatL [48] (19 - (Lib.decDigits r).length))) rfl (by have := dd_length (u := q) (k := 20) (by decide) (by omega); rw [Lib.repeatL_length]; simp only [List.length_cons, List.length_nil]; omega) rfl rfl rfl rfl ?_
  refine h_q hflW rfl ?_
  refine h_cat (r := ((Lib.decDigits q) ++ (Lib.repeatL [48] (19 - (Lib.decDigits r).length))) ++ (Lib.decDigits r)) rfl (by have := dd_length (u := q) (k := 20) (by decide) (by omega); have := dd_length (u := r) (k := 19) (by decide) (by omega); rw [List.length_append, Lib.repeatL_length]; simp only [List.length_cons, List.length_nil]; omega) rfl rfl rfl rfl ?_
  refine h_q hflW rfl ?_
  refine h_nil (f_to (d_seq (d_reg ?_)))
  refine h_q hflW rfl ?_
  refine h_done (d_else rfl (d_skip (f_to (d_reg ?_))))
  refine h_q hflW rfl ?_
  refine h_done (d_ret ?_)
  exact f_fin1 (.tmp rfl) (fun w h => ⟨by rw [text_big hneg hq hr h0 hr19]; rfl, h.up.below⟩) rfl

theorem text_nb (w : World) (x : Int) (q r : Nat) (hx : Fits x) (hneg : decide (x < 0) = true) (hq : (q : Int) = mag x / 10000000000000000000) (hr : (r : Int) = mag x % 10000000000000000000) (h0 : 0 < q) (hq64 : q < 18446744073709551616) (hr19 : r < 10000000000000000000) (htab : Lib.TabIs Tryd.prog w "internal/strconv.uint64pow10" .u64 Lib.pow10Tab) (hg : 2 < w.heap.size) : Calls Tryd.prog 67 #[WV x] w fun e w' => e = .returned (.string (bs (textZ x))) ∧ Below w.heap.size w w' := by
  refine d_in (args := [WV x]) 39 Tryd.func67 rfl rfl rfl ?_
  refine d_reg ?_
  refine h_box (cs := #[hiW x, loW x]) rfl rfl rfl rfl ?_; intro g1_1
  refine h_q hflW rfl ?_
  refine h_done (d_reg ?_)
  refine h_load 0 (v := .agg #[hiW x, loW x]) (reads_agg (cs := [hiW x, loW x]) tyWide rfl) rfl rfl rfl rfl ?_
  refine h_call (ent_of Tryd.func75 (by kernel_rfl) rfl) (fun w hH => sizedN _ x hx hneg) rfl rfl rfl rfl ?_
  refine h_q hflW rfl ?_
  refine h_alloc zeSize rfl rfl ?_; intro g3_2
  refine h_store 0 (v := UV (mag x)) (#[.int .u64 (mag x / 18446744073709551616), .int .u64 (mag x % 18446744073709551616)]) tySize.2 rfl rfl rfl rfl rfl rfl rfl rfl rfl rfl ?_
  refine h_q hflW rfl ?_
  refine h_done (d_seq ?_)
  refine d_par 11 2 [⟨.quiet, 0, fun _ => .pointer (some ⟨g3_2, 0, none⟩), []⟩, ⟨.quiet, 0, fun _ => .int .u64 (mag x / 18446744073709551616), [0]⟩, ⟨.quiet, 0, fun _ => .pointer (some ⟨g3_2, 1, none⟩), []⟩, ⟨.quiet, 0, fun _ => .int .u64 (mag x % 18446744073709551616), [2]⟩, ⟨.call, 1, fun _ => .int .u64 10000000000000000000, []⟩, ⟨.call, 2, fun _ => .tuple #[.int .u64 (q : Int), .int .u64 (r : Int)], [1, 3, 4]⟩, ⟨.quiet, 2, fun _ => .tuple #[.int .u64 (q : Int), .int .u64 (r : Int)], [5]⟩, ⟨.quiet, 2, fun _ => .int .u64 (q : Int), [6]⟩, ⟨.quiet, 2, fun _ => .int .u64 (r : Int), [6]⟩, ⟨.quiet, 2, fun _ => .int .u64 (q : Int), [7]⟩, ⟨.quiet, 2, fun _ => .int .u64 (r : Int), [8]⟩] [(2, .string (bs ([]))), (3, .pointer (some ⟨g3_2, 0, none⟩)), (4, .bool true)] (by kernel_rfl) (by kernel_rfl) ⟨rfl, rfl, rfl, trivial⟩ ?_ ?_
  · skip
    refine o_cons (o_q hflW (fun _ _ => rfl) (fun _ _ => rfl)) ?_
    refine o_cons (o_load 0 (reads_one tyUint64 rfl) (fun _ _ => rfl) rfl (fun _ _ => rfl) rfl) ?_
    refine o_cons (o_q hflW (fun _ _ => rfl) (fun _ _ => rfl)) ?_
    refine o_cons (o_load 0 (reads_one tyUint64 rfl) (fun _ _ => rfl) rfl (fun _ _ => rfl) rfl) ?_
    refine o_cons (o_call (ent_of Tryd.func52 (by kernel_rfl) rfl) (fun w hU => ten_any _ 19 (by decide)) (fun _ _ => rfl) rfl (fun _ _ => rfl) (fun _ _ => rfl)) ?_
    refine o_cons (o_call (ent_of Tryd.func80 (by kernel_rfl) rfl) (fun w hU => divN _ x q r hx hq hr) (fun _ _ => rfl) rfl (fun _ _ => rfl) (fun _ _ => rfl)) ?_
    refine o_cons (o_q hflW (fun _ _ => rfl) (fun _ _ => rfl)) ?_
    refine o_cons (o_q hflW (fun _ _ => rfl) (fun _ _ => rfl)) ?_
    refine o_cons (o_q hflW (fun _ _ => rfl) (fun _ _ => rfl)) ?_
    refine o_cons (o_q hflW (fun _ _ => rfl) (fun _ _ => rfl)) ?_
    refine o_cons (o_q hflW (fun _ _ => rfl) (fun _ _ => rfl)) ?_
    exact o_nil
  intro σ3 gs3
  refine WL2.keep (env' := [(2, .string (bs ([]))), (4, .bool true), (5, .int .u64 (q : Int)), (6, .int .u64 (r : Int))]) ⟨rfl, rfl, rfl, rfl, trivial⟩ ?_
  refine h_nil (f_to (d_reg ?_))
  refine h_q hflW rfl ?_
  refine h_call (ent_of Tryd.func81 (by kernel_rfl) rfl) (fun w hH => formatU_any _ r (by omega) (tab_below htab hH.up.below hg) (Nat.lt_of_lt_of_le hg hH.up.size)) rfl rfl rfl rfl ?_
  refine h_q hflW rfl ?_
  refine h_done (d_seq (d_reg ?_))
  refine h_q hflW rfl ?_
  refine h_cmp (cmp_gtr_t (by omega)) rfl rfl rfl rfl ?_
  refine h_done (d_then rfl (d_reg1 ?_))
  refine h_q hflW rfl ?_
  refine h_call (ent_of Tryd.func81 (by kernel_rfl) rfl) (fun w hH => formatU_any _ q (by omega) (tab_below htab hH.up.below hg) (Nat.lt_of_lt_of_le hg hH.up.size)) rfl rfl rfl rfl ?_
  refine h_q hflW rfl ?_
  refine h_builtin (v := .int .i64 ((Lib.decDigits r).length : Int)) (fun w cs => run_len_bs Tryd.underlying9 _ _ w cs) rfl rfl rfl ?_
  refine h_ar (z' := ((19 - (Lib.decDigits r).length : Nat) : Int)) (by have := dd_length (u := r) (k := 19) (by decide) (by omega); rw [IntWalk.i64_in _ (by omega)]; omega) rfl rfl rfl rfl rfl ?_
  refine h_call (ent_of Tryd.func68 (by kernel_rfl) rfl) (fun w hH => repeatN _ r hr19) rfl rfl rfl rfl ?_
  refine h_cat (r := (Lib.decDigits q) ++ (Lib.repeatL [48] (19 - (Lib.decDigits r).length))) rfl (by have := dd_length (u := q) (k := 20) (by decide) (by omega); rw [Lib.repeatL_length]; simp only [List.length_cons, List.length_nil]; omega) rfl rfl rfl rfl ?_
  refine h_q hflW rfl ?_
  refine h_cat (r := ((Lib.decDigits q) ++ (Lib.repeatL [48] (19 - (Lib.decDigits r).length))) ++ (Lib.decDigits r)) rfl (by have := dd_length (u := q) (k := 20) (by decide) (by omega); have := dd_length (u := r) (k := 19) (by decide) (by omega); rw [List.length_append, Lib.repeatL_length]; simp only [List.length_cons, List.length_nil]; omega) rfl rfl rfl rfl ?_
  refine h_q hflW rfl ?_
  refine h_nil (f_to (d_seq (d_reg ?_)))
  refine h_q hflW rfl ?_
  refine h_done (d_then rfl (d_reg ?_))
  refine h_q hflW rfl ?_
  refine h_cat (r := ([45]) ++ (((Lib.decDigits q) ++ (Lib.repeatL [48] (19 - (Lib.decDigits r).length))) ++ (Lib.decDigits r))) rfl (by have := dd_length (u := q) (k := 20) (by decide) (by omega); have := dd_length (u := r) (k := 19) (by decide) (by omega); simp only [List.length_append, Lib.repeatL_length, List.length_cons, List.length_nil]; omega) rfl rfl rfl rfl ?_
  refine h_q hflW rfl ?_
  refine h_done (d_ret (f_then_ret ?_))
  exact f_fin1 (.tmp rfl) (fun w h => ⟨by rw [text_big hneg hq hr h0 hr19]; rfl, h.up.below⟩) rfl

theorem textW_any (w : World) (x : Int) (hx : Fits x) (htab : Lib.TabIs Tryd.prog w "internal/strconv.uint64pow10" .u64 Lib.pow10Tab) (hg : 2 < w.heap.size) : Calls Tryd.prog 67 #[WV x] w fun e w' => e = .returned (.string (bs (textZ x))) ∧ Below w.heap.size w w' := by
  have hm := mag_le hx
  obtain ⟨q, hq⟩ := Int.eq_ofNat_of_zero_le (show 0 ≤ mag x / 10000000000000000000 by omega)
  obtain ⟨r, hr⟩ := Int.eq_ofNat_of_zero_le (show 0 ≤ mag x % 10000000000000000000 by omega)
  by_cases hn : x < 0
  · by_cases h0 : q = 0
    · exact text_nl w x q r hx (decide_eq_true hn) hq.symm hr.symm h0 (by omega) (by omega) htab hg
    · exact text_nb w x q r hx (decide_eq_true hn) hq.symm hr.symm (by omega) (by omega) (by omega) htab hg
  · by_cases h0 : q = 0
    · exact text_pl w x q r hx (decide_eq_false hn) hq.symm hr.symm h0 (by omega) (by omega) htab hg
    · exact text_pb w x q r hx (decide_eq_false hn) hq.symm hr.symm (by omega) (by omega) (by omega) htab hg
end Go.Proofs.YtmamedobphlpkaaDoor

namespace Go.Proofs.YtmamedobphlpkaaDoor
open Go.RowKit
theorem tyDec : AggOf Tryd.prog 26 3 := aggOf Tryd.underlying26 rfl (by kernel_rfl)
theorem zeDec : Zero Tryd.prog 26 #[.int .i64 0, .int .u64 0, .int .i64 0] := zero_of (z := .agg #[.int .i64 0, .int .u64 0, .int .i64 0]) (by kernel_rfl) rfl
theorem fdDec0 : FieldAt Tryd.prog 26 0 0 := fun g off w => by kernel_rfl
theorem fdDec1 : FieldAt Tryd.prog 26 1 2 := fun g off w => by kernel_rfl
def flD : List ((Nat × Nat) × Nat) := [((26, 0), 0), ((26, 1), 2), ((24, 0), 0), ((24, 1), 1), ((55, 0), 0), ((55, 1), 1), ((79, 0), 0), ((79, 1), 1)]
theorem hfl : Flds Tryd.prog flD := flds_of ⟨fdDec0, fdDec1, fdWide0, fdWide1, fdBig0, fdBig1, fdSize0, fdSize1, trivial⟩
/-- a decimal -/
def Dc (c s : Int) : Value := .agg #[hiW c, loW c, .int .i64 s]
theorem eqD (a b c d e f : Int) : EqAt Tryd.prog 26 (.agg #[.int .i64 a, .int .u64 b, .int .i64 c]) (.agg #[.int .i64 d, .int .u64 e, .int .i64 f]) (a == d && (b == e && c == f)) := fun x y w => by
  go_simp
  by_cases h1 : a = d <;> by_cases h2 : b = e <;> by_cases h3 : c = f <;> simp [h1, h2, h3]
theorem neD (a b c d e f : Int) : NeAt Tryd.prog 26 (.agg #[.int .i64 a, .int .u64 b, .int .i64 c]) (.agg #[.int .i64 d, .int .u64 e, .int .i64 f]) (!(a == d && (b == e && c == f))) := fun x y w => by
  go_simp
  by_cases h1 : a = d <;> by_cases h2 : b = e <;> by_cases h3 : c = f <;> simp [h1, h2, h3]
theorem eqD_same (x y z : Int) : EqAt Tryd.prog 26 (.agg #[hiW x, loW y, .int .i64 z]) (.agg #[hiW x, loW y, .int .i64 z]) true := by
  have := eqD (x / 18446744073709551616) (y % 18446744073709551616) z (x / 18446744073709551616) (y % 18446744073709551616) z
  simpa [hiW, loW] using this
theorem neD_same (x y z : Int) : NeAt Tryd.prog 26 (.agg #[hiW x, loW y, .int .i64 z]) (.agg #[hiW x, loW y, .int .i64 z]) false := by
  have := neD (x / 18446744073709551616) (y % 18446744073709551616) z (x / 18446744073709551616) (y % 18446744073709551616) z
  simpa [hiW, loW] using this
end Go.Proofs.YtmamedobphlpkaaDoor

namespace Go.Proofs.YtmamedobphlpkaaDoor
open Go.RowKit

/-- may the scale be -/
abbrev May (s : Int) : Prop := 0 ≤ s ∧ s ≤ 18

theorem may_yes (w : World) (s : Int) (h : May s) : Calls Tryd.prog 44 #[.int .i64 s] w fun e w' => e = .returned (.bool true) ∧ Below w.heap.size w w' := by
  obtain ⟨h1, h2⟩ := h
  refine d_in (args := [.int .i64 s]) 9 Tryd.func44 rfl rfl rfl ?_
  refine d_reg ?_
  refine h_q hfl rfl ?_
  refine h_done (d_reg ?_)
  refine h_q hfl rfl ?_
  refine h_cmp (cmp_geq_t (by omega)) rfl rfl rfl rfl ?_
  refine h_q hfl rfl ?_
  refine h_cmp (cmp_leq_t (by omega)) rfl rfl rfl rfl ?_
  refine h_q hfl rfl ?_
  refine h_done (d_ret ?_)
  exact f_fin1 (.tmp rfl) (fun w h => ⟨rfl, h.up.below⟩) rfl

theorem may_low (w : World) (s : Int) (h : s < 0) : Calls Tryd.prog 44 #[.int .i64 s] w fun e w' => e = .returned (.bool false) ∧ Below w.heap.size w w' := by
  refine d_in (args := [.int .i64 s]) 9 Tryd.func44 rfl rfl rfl ?_
  refine d_reg ?_
  refine h_q hfl rfl ?_
  refine h_done (d_reg ?_)
  refine h_q hfl rfl ?_
  refine h_cmp (cmp_geq_f (by omega)) rfl rfl rfl rfl ?_
  refine h_q hfl rfl ?_
  refine h_done (d_ret ?_)
  exact f_fin1 (.tmp rfl) (fun w h => ⟨rfl, h.up.below⟩) rfl

theorem may_high (w : World) (s : Int) (h : 18 < s) : Calls Tryd.prog 44 #[.int .i64 s] w fun e w' => e = .returned (.bool false) ∧ Below w.heap.size w w' := by
  refine d_in (args := [.int .i64 s]) 9 Tryd.func44 rfl rfl rfl ?_
  refine d_reg ?_
  refine h_q hfl rfl ?_
  refine h_done (d_reg ?_)
  refine h_q hfl rfl ?_
  refine h_cmp (cmp_geq_t (by omega)) rfl rfl rfl rfl ?_
  refine h_q hfl rfl ?_
  refine h_cmp (cmp_leq_f (by omega)) rfl rfl rfl rfl ?_
  refine h_q hfl rfl ?_
  refine h_done (d_ret ?_)
  exact f_fin1 (.tmp rfl) (fun w h => ⟨rfl, h.up.below⟩) rfl

theorem may_any (w : World) (s : Int) : Calls Tryd.prog 44 #[.int .i64 s] w fun e w' => e = .returned (.bool (decide (May s))) ∧ Below w.heap.size w w' := by
  by_cases h0 : s < 0
  · rw [decide_eq_false (by omega)]; exact may_low w s h0
  · by_cases h1 : 18 < s
    · rw [decide_eq_false (by omega)]; exact may_high w s h1
    · rw [decide_eq_true (by omega)]; exact may_yes w s (by omega)

theorem right_any (w : World) (c s : Int) : Calls Tryd.prog 18 #[Dc c s] w fun e w' => e = .returned (.bool (decide (May s))) ∧ Below w.heap.size w w' := by
  refine d_in (args := [Dc c s]) 6 Tryd.func18 rfl rfl rfl ?_
  refine d_reg ?_
  refine h_box (cs := #[hiW c, loW c, .int .i64 s]) rfl rfl rfl rfl ?_; intro g1_1
  refine h_q hfl rfl ?_
  refine h_done (d_reg ?_)
  refine h_q hfl rfl ?_
  refine h_load 0 (v := .int .i64 s) (reads_one tyInt rfl) rfl rfl rfl rfl ?_
  refine h_call (ent_of Tryd.func44 (by kernel_rfl) rfl) (fun w hH => may_any _ s) rfl rfl rfl rfl ?_
  refine h_q hfl rfl ?_
  refine h_done (d_ret ?_)
  exact f_fin1 (.tmp rfl) (fun w h => ⟨rfl, h.up.below⟩) rfl

theorem made_ok (w : World) (c s : Int) : Calls Tryd.prog 40 #[WV c, .int .i64 s, .int .i64 0] w fun e w' => e = .returned (.tuple #[Dc c s, .int .i64 0]) ∧ Below w.heap.size w w' := by
  refine d_in (args := [WV c, .int .i64 s, .int .i64 0]) 15 Tryd.func40 rfl rfl rfl ?_
  refine d_reg ?_
  refine h_box (cs := #[hiW c, loW c]) rfl rfl rfl rfl ?_; intro g3_1
  refine h_alloc zeDec rfl rfl ?_; intro g6_2
  refine h_q hfl rfl ?_
  refine h_done (d_seq (d_reg ?_))
  refine h_q hfl rfl ?_
  refine h_cmp (cmp_neq_f (by decide)) rfl rfl rfl rfl ?_
  refine h_done (d_else rfl (d_skip (f_to (d_reg ?_))))
  refine h_load 1 (v := .agg #[hiW c, loW c]) (reads_agg (cs := [hiW c, loW c]) tyWide rfl) rfl rfl rfl rfl ?_
  refine h_q hfl rfl ?_
  refine h_build (cs := #[hiW c, loW c, .int .i64 s]) (by kernel_rfl) rfl rfl rfl ?_
  refine h_store 0 (v := .agg #[hiW c, loW c, .int .i64 s]) (#[hiW c, loW c, .int .i64 s]) tyDec.2 rfl rfl rfl rfl rfl rfl rfl rfl rfl rfl ?_
  refine h_q hfl rfl ?_
  refine h_done (d_ret ?_)
  exact f_fin2 (.cell 0 (v := .agg #[hiW c, loW c, .int .i64 s]) (reads_agg (cs := [hiW c, loW c, .int .i64 s]) tyDec rfl) rfl rfl) (.tmp rfl) (fun w h => ⟨rfl, h.up.below⟩) rfl

theorem made_no (w : World) (c s er : Int) (h : er ≠ 0) : Calls Tryd.prog 40 #[WV c, .int .i64 s, .int .i64 er] w fun e w' => e = .returned (.tuple #[Dc 0 0, .int .i64 er]) ∧ Below w.heap.size w w' := by
  refine d_in (args := [WV c, .int .i64 s, .int .i64 er]) 15 Tryd.func40 rfl rfl rfl ?_
  refine d_reg ?_
  refine h_box (cs := #[hiW c, loW c]) rfl rfl rfl rfl ?_; intro g3_1
  refine h_alloc zeDec rfl rfl ?_; intro g6_2
  refine h_q hfl rfl ?_
  refine h_done (d_seq (d_reg ?_))
  refine h_q hfl rfl ?_
  refine h_cmp (cmp_neq_t (by omega)) rfl rfl rfl rfl ?_
  refine h_done (d_then rfl (d_reg ?_))
  refine h_build (cs := #[.int .i64 0, .int .u64 0, .int .i64 0]) (by kernel_rfl) rfl rfl rfl ?_
  refine h_q hfl rfl ?_
  refine h_store 0 (v := .agg #[.int .i64 0, .int .u64 0, .int .i64 0]) (#[.int .i64 0, .int .u64 0, .int .i64 0]) tyDec.2 rfl rfl rfl rfl rfl rfl rfl rfl rfl rfl ?_
  refine h_q hfl rfl ?_
  refine h_done (d_ret (f_then_ret ?_))
  exact f_fin2 (.cell 0 (v := .agg #[.int .i64 0, .int .u64 0, .int .i64 0]) (reads_agg (cs := [.int .i64 0, .int .u64 0, .int .i64 0]) tyDec rfl) rfl rfl) (.tmp rfl) (fun w h => ⟨rfl, h.up.below⟩) rfl
end Go.Proofs.YtmamedobphlpkaaDoor

namespace Go.Proofs.YtmamedobphlpkaaDoor
open Go.RowKit

theorem mag_abs (x : Int) : mag x = (x.natAbs : Int) := by
  unfold mag
  split <;> omega
theorem scZ_round (x y : Int) (k : Nat) : scZ x y k = roundZ (x * y) (k : Int) := by
  have hm : mag x * mag y = ((x * y).natAbs : Int) := by rw [mag_abs, mag_abs, Int.natAbs_mul, Int.natCast_mul]
  have hs : (decide (x < 0) != decide (y < 0)) = true → x * y ≤ 0 := by
    intro h
    by_cases h1 : x < 0 <;> by_cases h2 : y < 0
    · simp [h1, h2] at h
    · exact Int.mul_nonpos_of_nonpos_of_nonneg (by omega) (by omega)
    · exact Int.mul_nonpos_of_nonneg_of_nonpos (by omega) (by omega)
    · simp [h1, h2] at h
  have hn : ¬ (decide (x < 0) != decide (y < 0)) = true → 0 ≤ x * y := by
    intro h
    by_cases h1 : x < 0 <;> by_cases h2 : y < 0
    · exact Int.mul_nonneg_of_nonpos_of_nonpos (by omega) (by omega)
    · simp [h1, h2] at h
    · simp [h1, h2] at h
    · exact Int.mul_nonneg (by omega) (by omega)
  unfold scZ
  rw [hm, hE_nat]
  obtain ⟨z, hz⟩ : ∃ z, z = x * y := ⟨_, rfl⟩
  rw [← hz] at hs hn ⊢
  have h0 : z = 0 → halfEven z.natAbs (10 ^ k) = 0 := by
    rintro rfl
    unfold halfEven
    have := Nat.pow_pos (n := k) (show 0 < 10 by decide)
    first | (simp; done) | (simp; omega)
  unfold roundZ rounded
  by_cases hk : (k : Int) ≤ 0
  · have hk0 : k = 0 := by omega
    subst hk0
    rw [if_pos hk]
    have h1 : halfEven z.natAbs (10 ^ 0) = z.natAbs := by
      unfold halfEven
      rw [Nat.pow_zero, Nat.mod_one, Nat.div_one]
      simp
    rw [h1]
    have h3 : ((10 ^ (-((0 : Nat) : Int)).toNat : Nat) : Int) = 1 := by decide
    rw [h3, Int.mul_one]
    by_cases hx : (decide (x < 0) != decide (y < 0)) = true
    · rw [if_pos hx]
      have := hs hx
      omega
    · rw [if_neg hx]
      have := hn hx
      omega
  · rw [if_neg hk, Int.toNat_natCast]
    by_cases hx : (decide (x < 0) != decide (y < 0)) = true
    · rw [if_pos hx]
      have := hs hx
      by_cases hz0 : z = 0
      · rw [h0 hz0, if_neg (by omega)]; rfl
      · rw [if_pos (by omega)]
    · rw [if_neg hx]
      have := hn hx
      rw [if_neg (by omega)]

/-- the number that is answered -/
def rz (z : Int) : Int := if Fits z then z else 0
/-- the error that is answered -/
def rE (z : Int) : Int := if Fits z then 0 else 20
theorem rz_fit {z : Int} (h : Fits z) : rz z = z := if_pos h
theorem rz_over {z : Int} (h : ¬ Fits z) : rz z = 0 := if_neg h
theorem rE_fit {z : Int} (h : Fits z) : rE z = 0 := if_pos h
theorem rE_over {z : Int} (h : ¬ Fits z) : rE z = 20 := if_neg h
theorem rE_ne {z : Int} (h : ¬ Fits z) : rE z ≠ 0 := by rw [rE_over h]; omega
theorem rz_fits (z : Int) : Fits (rz z) := by unfold rz; split <;> first | assumption | (unfold Fits; omega)
theorem resV_eq (z : Int) : resV z = .tuple #[WV (rz z), .int .i64 (rE z)] := by
  by_cases h : Fits z
  · rw [resV_fit h, rz_fit h, rE_fit h]
  · rw [resV_over h, rz_over h, rE_over h]
theorem mul_r (w : World) (x y : Int) (hx : Fits x) (hy : Fits y) : Calls Tryd.prog 28 #[WV x, WV y] w fun e w' => e = .returned (.tuple #[WV (rz (x * y)), .int .i64 (rE (x * y))]) ∧ Below w.heap.size w w' := by rw [← resV_eq]; exact mul_any w x y hx hy
theorem add_r (w : World) (x y : Int) (hx : Fits x) (hy : Fits y) : Calls Tryd.prog 30 #[WV x, WV y] w fun e w' => e = .returned (.tuple #[WV (rz (x + y)), .int .i64 (rE (x + y))]) ∧ Below w.heap.size w w' := by rw [← resV_eq]; exact add_any w x y hx hy
theorem sub_r (w : World) (x y : Int) (hx : Fits x) (hy : Fits y) : Calls Tryd.prog 29 #[WV x, WV y] w fun e w' => e = .returned (.tuple #[WV (rz (x - y)), .int .i64 (rE (x - y))]) ∧ Below w.heap.size w w' := by rw [← resV_eq]; exact sub_any w x y hx hy
theorem neg_r (w : World) (x : Int) (hx : Fits x) : Calls Tryd.prog 32 #[WV x] w fun e w' => e = .returned (.tuple #[WV (rz (-x)), .int .i64 (rE (-x))]) ∧ Below w.heap.size w w' := by rw [← resV_eq]; exact neg_any w x hx
theorem pow_fits : ∀ j : Nat, j ≤ 38 → Fits ((10 ^ j : Nat) : Int) := by decide
theorem pow_r (w : World) (j : Nat) (hj : j ≤ 38) : Calls Tryd.prog 27 #[.int .i64 (j : Int)] w fun e w' => e = .returned (.tuple #[WV ((10 ^ j : Nat) : Int), .int .i64 0]) ∧ Below w.heap.size w w' := by rw [← resV_fit (pow_fits j hj)]; exact pow_any w j hj
theorem scaled_r (w : World) (x y k : Int) (hx : Fits x) (hy : Fits y) (hk : 0 ≤ k ∧ k ≤ 36) : Calls Tryd.prog 47 #[WV x, WV y, .int .i64 k] w fun e w' => e = .returned (.tuple #[WV (rz (roundZ (x * y) k)), .int .i64 (rE (roundZ (x * y) k))]) ∧ Below w.heap.size w w' := by
  obtain ⟨n, rfl⟩ := Int.eq_ofNat_of_zero_le hk.1
  rw [← resV_eq, ← scZ_round]
  exact scaled_any w x y n hx hy (by omega)
theorem one_fits : Fits 1 := by unfold Fits; omega
theorem div_r (w : World) (x y : Int) (hx : Fits x) (hy : Fits y) (h0 : y ≠ 0) (hf : Fits (dq x y)) : Calls Tryd.prog 73 #[WV x, WV y] w fun e w' => e = .returned (.tuple #[WV (dq x y), WV (dr x y), .int .i64 0]) ∧ Below w.heap.size w w' := by
  have h := divc_any w x y hx hy
  unfold divV at h
  rwa [if_neg h0, if_pos hf] at h
end Go.Proofs.YtmamedobphlpkaaDoor

namespace Go.Proofs.YtmamedobphlpkaaDoor
open Go.RowKit

theorem round_up_eq (c : Int) (k : Int) (j : Nat) (h : k = -(j : Int)) : roundZ c k = c * ((10 ^ j : Nat) : Int) := by
  subst h
  unfold roundZ
  rw [if_pos (by omega), show (-(-(j : Int))).toNat = j by omega]

theorem at_up (w : World) (c s t : Int) (j : Nat) (how : Int) (hc : Fits c) (hs : May s) (ht : May t) (hj : s - t = -(j : Int)) (hj0 : 0 < j) : Calls Tryd.prog 50 #[Dc c s, .int .i64 t, .int .i64 how] w fun e w' => e = .returned (.tuple #[WV (rz (c * ((10 ^ j : Nat) : Int))), .int .i64 (rE (c * ((10 ^ j : Nat) : Int)))]) ∧ Below w.heap.size w w' := by
  refine d_in (args := [Dc c s, .int .i64 t, .int .i64 how]) 86 Tryd.func50 rfl rfl rfl ?_
  refine d_reg ?_
  refine h_box (cs := #[hiW c, loW c, .int .i64 s]) rfl rfl rfl rfl ?_; intro g3_1
  refine h_alloc zeWide rfl rfl ?_; intro g6_2
  refine h_q hfl rfl ?_
  refine h_done (d_reg ?_)
  refine h_call (ent_of Tryd.func65 (by kernel_rfl) rfl) (fun w hH => of_any _ 1 (by omega)) rfl rfl rfl rfl ?_
  refine h_alloc zeWide rfl rfl ?_; intro g8_3
  refine h_store 0 (v := WV 1) (#[hiW 1, loW 1]) tyWide.2 rfl rfl rfl rfl rfl rfl rfl rfl rfl rfl ?_
  refine h_done (d_reg ?_)
  refine h_q hfl rfl ?_
  refine h_load 2 (v := .int .i64 s) (reads_one tyInt rfl) rfl rfl rfl rfl ?_
  refine h_q hfl rfl ?_
  refine h_ar (z' := s - t) (IntWalk.i64_in _ (by omega)) rfl rfl rfl rfl rfl ?_
  refine h_q hfl rfl ?_
  refine h_done (d_seq (d_reg ?_))
  refine h_q hfl rfl ?_
  refine h_cmp (cmp_lss_t (by omega)) rfl rfl rfl rfl ?_
  refine h_done (d_then rfl (d_reg ?_))
  refine h_q hfl rfl ?_
  refine h_neg (z := (j : Int)) (by rw [IntWalk.i64_in _ (by omega)]; omega) rfl rfl rfl ?_
  refine h_call (ent_of Tryd.func27 (by kernel_rfl) rfl) (fun w hH => pow_r _ j (by omega)) rfl rfl rfl rfl ?_
  refine h_q hfl rfl ?_
  refine h_alloc zeWide rfl rfl ?_; intro g10_4
  refine h_store 0 (v := WV ((10 ^ j : Nat) : Int)) (#[hiW ((10 ^ j : Nat) : Int), loW ((10 ^ j : Nat) : Int)]) tyWide.2 rfl rfl rfl rfl rfl rfl rfl rfl rfl rfl ?_
  refine h_q hfl rfl ?_
  refine h_done (d_reg ?_)
  refine h_q hfl rfl ?_
  refine h_load 3 (v := .agg #[hiW c, loW c]) (reads_agg (cs := [hiW c, loW c, .int .i64 s]) tyWide rfl) rfl rfl rfl rfl ?_
  refine h_load 0 (v := .agg #[hiW ((10 ^ j : Nat) : Int), loW ((10 ^ j : Nat) : Int)]) (reads_agg (cs := [hiW ((10 ^ j : Nat) : Int), loW ((10 ^ j : Nat) : Int)]) tyWide rfl) rfl rfl rfl rfl ?_
  refine h_call (ent_of Tryd.func28 (by kernel_rfl) rfl) (fun w hH => mul_r _ _ _ hc (pow_fits j (by omega))) rfl rfl rfl rfl ?_
  refine h_q hfl rfl ?_
  refine h_store 2 (v := WV (rz (c * ((10 ^ j : Nat) : Int)))) (#[hiW (rz (c * ((10 ^ j : Nat) : Int))), loW (rz (c * ((10 ^ j : Nat) : Int)))]) tyWide.2 rfl rfl rfl rfl rfl rfl rfl rfl rfl rfl ?_
  refine h_q hfl rfl ?_
  refine h_done (d_ret (f_then_ret ?_))
  exact f_fin2 (.cell 2 (v := .agg #[hiW (rz (c * ((10 ^ j : Nat) : Int))), loW (rz (c * ((10 ^ j : Nat) : Int)))]) (reads_agg (cs := [hiW (rz (c * ((10 ^ j : Nat) : Int))), loW (rz (c * ((10 ^ j : Nat) : Int)))]) tyWide rfl) rfl rfl) (.tmp rfl) (fun w h => ⟨rfl, h.up.below⟩) rfl

theorem at_half0 (w : World) (c s t : Int) (hc : Fits c) (hs : May s) (ht : May t) (hj : t ≤ s) : Calls Tryd.prog 50 #[Dc c s, .int .i64 t, .int .i64 2] w fun e w' => e = .returned (.tuple #[WV (rz (roundZ (c * 1) (s - t))), .int .i64 (rE (roundZ (c * 1) (s - t)))]) ∧ Below w.heap.size w w' := by
  refine d_in (args := [Dc c s, .int .i64 t, .int .i64 2]) 86 Tryd.func50 rfl rfl rfl ?_
  refine d_reg ?_
  refine h_box (cs := #[hiW c, loW c, .int .i64 s]) rfl rfl rfl rfl ?_; intro g3_1
  refine h_alloc zeWide rfl rfl ?_; intro g6_2
  refine h_q hfl rfl ?_
  refine h_done (d_reg ?_)
  refine h_call (ent_of Tryd.func65 (by kernel_rfl) rfl) (fun w hH => of_any _ 1 (by omega)) rfl rfl rfl rfl ?_
  refine h_alloc zeWide rfl rfl ?_; intro g8_3
  refine h_store 0 (v := WV 1) (#[hiW 1, loW 1]) tyWide.2 rfl rfl rfl rfl rfl rfl rfl rfl rfl rfl ?_
  refine h_done (d_reg ?_)
  refine h_q hfl rfl ?_
  refine h_load 2 (v := .int .i64 s) (reads_one tyInt rfl) rfl rfl rfl rfl ?_
  refine h_q hfl rfl ?_
  refine h_ar (z' := s - t) (IntWalk.i64_in _ (by omega)) rfl rfl rfl rfl rfl ?_
  refine h_q hfl rfl ?_
  refine h_done (d_seq (d_reg ?_))
  refine h_q hfl rfl ?_
  refine h_cmp (cmp_lss_f (by omega)) rfl rfl rfl rfl ?_
  refine h_done (d_else rfl (d_skip (f_to (d_seq (d_reg ?_)))))
  refine h_q hfl rfl ?_
  refine h_cmp (cmp_eql_t (by decide)) rfl rfl rfl rfl ?_
  refine h_done (d_then rfl (d_reg ?_))
  refine h_q hfl rfl ?_
  refine h_load 2 (v := .agg #[hiW c, loW c]) (reads_agg (cs := [hiW c, loW c, .int .i64 s]) tyWide rfl) rfl rfl rfl rfl ?_
  refine h_load 0 (v := .agg #[hiW 1, loW 1]) (reads_agg (cs := [hiW 1, loW 1]) tyWide rfl) rfl rfl rfl rfl ?_
  refine h_q hfl rfl ?_
  refine h_call (ent_of Tryd.func47 (by kernel_rfl) rfl) (fun w hH => scaled_r _ _ _ _ hc one_fits (by omega)) rfl rfl rfl rfl ?_
  refine h_q hfl rfl ?_
  refine h_store 1 (v := WV (rz (roundZ (c * 1) (s - t)))) (#[hiW (rz (roundZ (c * 1) (s - t))), loW (rz (roundZ (c * 1) (s - t)))]) tyWide.2 rfl rfl rfl rfl rfl rfl rfl rfl rfl rfl ?_
  refine h_q hfl rfl ?_
  refine h_done (d_ret (f_then_ret ?_))
  exact f_fin2 (.cell 1 (v := .agg #[hiW (rz (roundZ (c * 1) (s - t))), loW (rz (roundZ (c * 1) (s - t)))]) (reads_agg (cs := [hiW (rz (roundZ (c * 1) (s - t))), loW (rz (roundZ (c * 1) (s - t)))]) tyWide rfl) rfl rfl) (.tmp rfl) (fun w h => ⟨rfl, h.up.below⟩) rfl

/-- half-even -/
theorem at_half (w : World) (c s t : Int) (hc : Fits c) (hs : May s) (ht : May t) : Calls Tryd.prog 50 #[Dc c s, .int .i64 t, .int .i64 2] w fun e w' => e = .returned (.tuple #[WV (rz (roundZ c (s - t))), .int .i64 (rE (roundZ c (s - t)))]) ∧ Below w.heap.size w w' := by
  by_cases h : t ≤ s
  · have := at_half0 w c s t hc hs ht h
    rwa [Int.mul_one] at this
  · have h' : s - t = -((t - s).toNat : Int) := by omega
    rw [round_up_eq c _ _ h']
    exact at_up w c s t _ 2 hc hs ht h' (by omega)
end Go.Proofs.YtmamedobphlpkaaDoor
