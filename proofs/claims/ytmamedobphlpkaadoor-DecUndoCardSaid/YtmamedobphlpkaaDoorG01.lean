/-
  Half3
-/
import Derived.Test.YtmamedobphlpkaaDoorF08
set_option linter.unusedSimpArgs false
set_option linter.unusedVariables false

namespace Go.Proofs.YtmamedobphlpkaaDoor
open Go.RowKit

theorem wmulF (w : World) {x y z : Int} (h : x * y = z) (hx : Fits x) (hy : Fits y) (hz : Fits z) : Calls Tryd.prog 28 #[WV x, WV y] w fun e w' => e = .returned (.tuple #[WV z, .int .i64 0]) ∧ Below w.heap.size w w' := by
  subst h; have := mul_r w x y hx hy; rwa [rz_fit hz, rE_fit hz] at this
theorem waddF (w : World) {x y z : Int} (h : x + y = z) (hx : Fits x) (hy : Fits y) (hz : Fits z) : Calls Tryd.prog 30 #[WV x, WV y] w fun e w' => e = .returned (.tuple #[WV z, .int .i64 0]) ∧ Below w.heap.size w w' := by
  subst h; have := add_r w x y hx hy; rwa [rz_fit hz, rE_fit hz] at this
theorem wsubF (w : World) {x y z : Int} (h : x - y = z) (hx : Fits x) (hy : Fits y) (hz : Fits z) : Calls Tryd.prog 29 #[WV x, WV y] w fun e w' => e = .returned (.tuple #[WV z, .int .i64 0]) ∧ Below w.heap.size w w' := by
  subst h; have := sub_r w x y hx hy; rwa [rz_fit hz, rE_fit hz] at this
theorem wnegF (w : World) {x z : Int} (h : -x = z) (hx : Fits x) (hz : Fits z) : Calls Tryd.prog 32 #[WV x] w fun e w' => e = .returned (.tuple #[WV z, .int .i64 0]) ∧ Below w.heap.size w w' := by
  subst h; have := neg_r w x hx; rwa [rz_fit hz, rE_fit hz] at this
theorem wmulO (w : World) {x y : Int} (h : ¬ Fits (x * y)) (hx : Fits x) (hy : Fits y) : Calls Tryd.prog 28 #[WV x, WV y] w fun e w' => e = .returned (.tuple #[WV 0, .int .i64 20]) ∧ Below w.heap.size w w' := by
  have := mul_r w x y hx hy; rwa [rz_over h, rE_over h] at this
theorem powL (w : World) {n : Nat} {P : Int} (h : ((10 ^ n : Nat) : Int) = P) (hn : n ≤ 38) : Calls Tryd.prog 27 #[.int .i64 (n : Int)] w fun e w' => e = .returned (.tuple #[WV P, .int .i64 0]) ∧ Below w.heap.size w w' := by
  subst h; exact pow_r w n hn
theorem rescF (w : World) {c s t f : Int} (h : rescP c s t = (f, t, 0)) (hc : Fits c) : Calls Tryd.prog 25 #[Dc c s, .int .i64 t] w fun e w' => e = .returned (.tuple #[Dc f t, .int .i64 0]) ∧ Below w.heap.size w w' := rescL w h hc
theorem rescO (w : World) {c s t : Int} (h : rescP c s t = (0, 0, 20)) (hc : Fits c) : Calls Tryd.prog 25 #[Dc c s, .int .i64 t] w fun e w' => e = .returned (.tuple #[Dc 0 0, .int .i64 20]) ∧ Below w.heap.size w w' := rescL w h hc
theorem addF3 (w : World) {c s d t z m : Int} (h : sumP (· + ·) c s d t = (z, m, 0)) (hc : Fits c) (hd : Fits d) : Calls Tryd.prog 11 #[Dc c s, Dc d t] w fun e w' => e = .returned (.tuple #[Dc z m, .int .i64 0]) ∧ Below w.heap.size w w' := addL w h hc hd
theorem addO3 (w : World) {c s d t : Int} (h : sumP (· + ·) c s d t = (0, 0, 20)) (hc : Fits c) (hd : Fits d) : Calls Tryd.prog 11 #[Dc c s, Dc d t] w fun e w' => e = .returned (.tuple #[Dc 0 0, .int .i64 20]) ∧ Below w.heap.size w w' := addL w h hc hd
theorem subF3 (w : World) {c s d t z m : Int} (h : sumP (· - ·) c s d t = (z, m, 0)) (hc : Fits c) (hd : Fits d) : Calls Tryd.prog 13 #[Dc c s, Dc d t] w fun e w' => e = .returned (.tuple #[Dc z m, .int .i64 0]) ∧ Below w.heap.size w w' := subL w h hc hd
theorem cmpF3 (w : World) {c s d t x : Int} (h : cmpP c s d t = (x, 0)) (hc : Fits c) (hd : Fits d) : Calls Tryd.prog 20 #[Dc c s, Dc d t] w fun e w' => e = .returned (.tuple #[.int .i64 x, .int .i64 0]) ∧ Below w.heap.size w w' := cmpL w h hc hd
theorem signL (w : World) {x y : Int} (h : cmp3 x 0 = y) (hx : Fits x) : Calls Tryd.prog 31 #[WV x] w fun e w' => e = .returned (.int .i64 y) ∧ Below w.heap.size w w' := by
  subst h; exact sign_any w x hx
theorem wcmpL (w : World) {x y z : Int} (h : cmp3 x y = z) (hx : Fits x) (hy : Fits y) : Calls Tryd.prog 33 #[WV x, WV y] w fun e w' => e = .returned (.int .i64 z) ∧ Below w.heap.size w w' := by
  subst h; exact cmp_any w x y hx hy

/-! ## DecHalf -/
theorem emod_in {u m k : Int} (h : u % (m + 1) = k) (hm : 0 ≤ m) : 0 ≤ k ∧ k ≤ m := by
  have h1 := Int.emod_nonneg u (show m + 1 ≠ 0 by omega)
  have h2 := Int.emod_lt_of_pos u (show 0 < m + 1 by omega)
  omega
theorem tmod_even {f : Int} (h : f % 2 = 0) : (f % 18446744073709551616).tmod 2 = 0 := by
  rw [Int.tmod_eq_emod_of_nonneg (by omega)]; omega
theorem half_near (n d : Nat) (hd : 0 < d) : 2 * ((n : Int) - halfEven n d * d).natAbs ≤ d ∧ (2 * ((n : Int) - halfEven n d * d).natAbs = d → halfEven n d % 2 = 0) := by
  have hr := Nat.mod_lt n hd
  have hn : (n : Int) = (n / d : Nat) * (d : Int) + (n % d : Nat) := by
    rw [← Int.natCast_mul, ← Int.natCast_add]; congr 1; rw [Nat.mul_comm]; exact (Nat.div_add_mod n d).symm
  unfold halfEven
  split
  · rename_i h
    have e : (n : Int) - ((n / d + 1 : Nat) : Int) * d = (n % d : Nat) - (d : Int) := by rw [Int.natCast_add, Int.add_mul, hn]; simp; omega
    rw [e]
    refine ⟨by omega, fun h2 => by omega⟩
  · rename_i h
    have e : (n : Int) - ((n / d : Nat) : Int) * d = (n % d : Nat) := by omega
    rw [e]
    refine ⟨by omega, fun h2 => by omega⟩
theorem rounded_near (z : Int) (d : Nat) (hd : 0 < d) : -(d : Int) ≤ 2 * (z - rounded z d * d) ∧ 2 * (z - rounded z d * d) ≤ d ∧ (2 * (z - rounded z d * d) = d ∨ 2 * (z - rounded z d * d) = -(d : Int) → rounded z d % 2 = 0) := by
  obtain ⟨h1, h2⟩ := half_near z.natAbs d hd
  unfold rounded
  split
  · rename_i h
    have e : z - -(halfEven z.natAbs d : Int) * d = -((z.natAbs : Int) - halfEven z.natAbs d * d) := by rw [Int.neg_mul]; omega
    rw [e]
    refine ⟨by omega, by omega, fun h3 => ?_⟩
    have := h2 (by omega)
    omega
  · rename_i h
    have e : z - (halfEven z.natAbs d : Int) * d = (z.natAbs : Int) - halfEven z.natAbs d * d := by omega
    rw [e]
    refine ⟨by omega, by omega, fun h3 => ?_⟩
    have := h2 (by omega)
    omega
theorem roundN_near (c : Int) (n : Nat) : -((10 ^ n : Nat) : Int) ≤ 2 * (c - roundZ c n * ((10 ^ n : Nat) : Int)) ∧ 2 * (c - roundZ c n * ((10 ^ n : Nat) : Int)) ≤ ((10 ^ n : Nat) : Int) ∧ (2 * (c - roundZ c n * ((10 ^ n : Nat) : Int)) = ((10 ^ n : Nat) : Int) ∨ 2 * (c - roundZ c n * ((10 ^ n : Nat) : Int)) = -((10 ^ n : Nat) : Int) → roundZ c n % 2 = 0) := by
  unfold roundZ
  split
  · rename_i h
    obtain rfl : n = 0 := by omega
    simp
  · exact rounded_near c (10 ^ n) (Nat.pow_pos (by decide))
theorem pow_le {n : Nat} (h : n ≤ 18) : 1 ≤ ((10 ^ n : Nat) : Int) ∧ ((10 ^ n : Nat) : Int) ≤ 1000000000000000000 := by
  have h1 : 10 ^ n ≤ 10 ^ 18 := Nat.pow_le_pow_right (by decide) h
  have h2 : 0 < 10 ^ n := Nat.pow_pos (by decide)
  omega
theorem near_fits {c f P : Int} (hc : Fits c) (hP : 1 ≤ P ∧ P ≤ 1000000000000000000) (h1 : -P ≤ 2 * (c - f * P)) (h2 : 2 * (c - f * P) ≤ P) : Fits f := by
  unfold Fits at *
  refine ⟨?_, ?_⟩
  · refine Int.not_lt.1 fun h => ?_
    have : f * P ≤ (-170141183460469231731687303715884105728 - 1) * P := Int.mul_le_mul_of_nonneg_right (by omega) (by omega)
    omega
  · refine Int.not_le.1 fun h => ?_
    have : 170141183460469231731687303715884105728 * P ≤ f * P := Int.mul_le_mul_of_nonneg_right (by omega) (by omega)
    omega

theorem half_over (w : World) (c s u : Int) (hc : Fits c) (hs : -9223372036854775808 ≤ s ∧ s < 9223372036854775808) (hu : -9223372036854775808 ≤ u ∧ u < 9223372036854775808) {m k f P r e : Int} {n : Nat} (hm : s % 19 = m) (hk : u % (m + 1) = k) (hn : m - k = (n : Int)) (hP : ((10 ^ n : Nat) : Int) = P) (hx : rescP c m k = (f, k, 0)) (hf : Fits f) (ho : ¬ Fits (f * P)) (htab : Lib.TabIs Tryd.prog w "internal/strconv.uint64pow10" .u64 Lib.pow10Tab) (hg : 2 < w.heap.size) : Calls Tryd.prog 7 #[Dc c s, .int .i64 u] w fun e w' => e = .returned (.bool true) ∧ Below w.heap.size w w' := by
  have hm0 : 0 ≤ m ∧ m ≤ 18 := by omega
  have hk0 := emod_in hk hm0.1
  have hn0 : n ≤ 18 := by omega
  have hP0 := pow_le hn0
  rw [hP] at hP0
  have hPf : Fits P := by unfold Fits; omega
  refine d_in (args := [Dc c s, .int .i64 u]) 103 Tryd.func7 rfl rfl rfl ?_
  refine d_reg ?_
  refine h_box (cs := #[hiW c, loW c, .int .i64 s]) rfl rfl rfl rfl ?_; intro g2_1
  refine h_q hfl rfl ?_
  refine h_done (d_reg ?_)
  refine h_load 0 (v := .agg #[hiW c, loW c, .int .i64 s]) (reads_agg (cs := [hiW c, loW c, .int .i64 s]) tyDec rfl) rfl rfl rfl rfl ?_
  refine h_call (ent_of Tryd.func10 (by kernel_rfl) rfl) (fun w hH => nearL _ hm hs) rfl rfl rfl rfl ?_
  refine h_store 0 (v := Dc c m) (#[hiW c, loW c, .int .i64 m]) tyDec.2 rfl rfl rfl rfl rfl rfl rfl rfl rfl rfl ?_
  refine h_done (d_reg ?_)
  refine h_q hfl rfl ?_
  refine h_load 0 (v := .int .i64 m) (reads_one tyInt rfl) rfl rfl rfl rfl ?_
  refine h_ar (z' := m + 1) (IntWalk.i64_in _ (by omega)) rfl rfl rfl rfl rfl ?_
  refine h_call (ent_of Tryd.func22 (by kernel_rfl) rfl) (fun w hH => pickL _ hk hu ⟨by omega, by omega⟩) rfl rfl rfl rfl ?_
  refine h_q hfl rfl ?_
  refine h_done (d_reg ?_)
  refine h_load 0 (v := .agg #[hiW c, loW c, .int .i64 m]) (reads_agg (cs := [hiW c, loW c, .int .i64 m]) tyDec rfl) rfl rfl rfl rfl ?_
  refine h_q hfl rfl ?_
  refine h_call (ent_of Tryd.func25 (by kernel_rfl) rfl) (fun w hH => rescF _ hx hc) rfl rfl rfl rfl ?_
  refine h_q hfl rfl ?_
  refine h_alloc zeDec rfl rfl ?_; intro g5_2
  refine h_store 0 (v := Dc f k) (#[hiW f, loW f, .int .i64 k]) tyDec.2 rfl rfl rfl rfl rfl rfl rfl rfl rfl rfl ?_
  refine h_q hfl rfl ?_
  refine h_done (d_seq (d_reg ?_))
  refine h_call (ent_of Tryd.func17 (by kernel_rfl) rfl) (fun w hH => known3_any _ (tab_below htab hH.up.below hg) (Nat.lt_of_lt_of_le hg hH.up.size)) rfl rfl rfl rfl ?_
  refine h_q hfl rfl ?_
  refine h_cmp (cmp_neq_f (by decide)) rfl rfl rfl rfl ?_
  refine h_q hfl rfl ?_
  refine h_load 0 (v := .int .i64 k) (reads_one tyInt rfl) rfl rfl rfl rfl ?_
  refine h_q hfl rfl ?_
  refine h_cmp (cmp_neq_f (by simp)) rfl rfl rfl rfl ?_
  refine h_q hfl rfl ?_
  refine h_done (d_else rfl (d_skip (f_to (d_reg ?_))))
  refine h_q hfl rfl ?_
  refine h_load 1 (v := .int .i64 m) (reads_one tyInt rfl) rfl rfl rfl rfl ?_
  refine h_q hfl rfl ?_
  refine h_ar (z' := (n : Int)) (by rw [IntWalk.i64_in _ (by omega)]; omega) rfl rfl rfl rfl rfl ?_
  refine h_call (ent_of Tryd.func27 (by kernel_rfl) rfl) (fun w hH => powL _ hP (by omega)) rfl rfl rfl rfl ?_
  refine h_q hfl rfl ?_
  refine h_alloc zeWide rfl rfl ?_; intro g7_3
  refine h_store 0 (v := WV P) (#[hiW P, loW P]) tyWide.2 rfl rfl rfl rfl rfl rfl rfl rfl rfl rfl ?_
  refine h_q hfl rfl ?_
  refine h_done (d_reg ?_)
  refine h_q hfl rfl ?_
  refine h_load 1 (v := .agg #[hiW f, loW f]) (reads_agg (cs := [hiW f, loW f, .int .i64 k]) tyWide rfl) rfl rfl rfl rfl ?_
  refine h_load 0 (v := .agg #[hiW P, loW P]) (reads_agg (cs := [hiW P, loW P]) tyWide rfl) rfl rfl rfl rfl ?_
  refine h_call (ent_of Tryd.func28 (by kernel_rfl) rfl) (fun w hH => wmulO _ ho hf hPf) rfl rfl rfl rfl ?_
  refine h_q hfl rfl ?_
  refine h_alloc zeWide rfl rfl ?_; intro g9_4
  refine h_store 0 (v := WV 0) (#[hiW 0, loW 0]) tyWide.2 rfl rfl rfl rfl rfl rfl rfl rfl rfl rfl ?_
  refine h_q hfl rfl ?_
  refine h_done ?_
  refine WC2.keep (env' := [(2, .pointer (some ⟨g2_1, 0, none⟩)), (4, .bool false), (5, .pointer (some ⟨g5_2, 0, none⟩)), (7, .pointer (some ⟨g7_3, 0, none⟩)), (9, .pointer (some ⟨g9_4, 0, none⟩)), (10, .int .i64 20)]) ⟨rfl, rfl, rfl, rfl, rfl, rfl, trivial⟩ ?_
  refine d_seq (d_reg ?_)
  refine h_q hfl rfl ?_
  refine h_cmp (cmp_neq_t (by decide)) rfl rfl rfl rfl ?_
  refine h_done (d_then rfl (d_reg ?_))
  refine h_q hfl rfl ?_
  refine h_cmp (cmp_eql_t (by decide)) rfl rfl rfl rfl ?_
  refine h_q hfl rfl ?_
  refine h_done (d_ret (f_then_ret ?_))
  exact f_fin1 (.tmp rfl) (fun w h => ⟨rfl, h.up.below⟩) rfl

theorem half_ne (w : World) (c s u : Int) (hc : Fits c) (hs : -9223372036854775808 ≤ s ∧ s < 9223372036854775808) (hu : -9223372036854775808 ≤ u ∧ u < 9223372036854775808) {m k f P r e : Int} {n : Nat} (hm : s % 19 = m) (hk : u % (m + 1) = k) (hn : m - k = (n : Int)) (hP : ((10 ^ n : Nat) : Int) = P) (hx : rescP c m k = (f, k, 0)) (hf : Fits f) (ho : Fits (f * P)) (hr : c - f * P = r) (he : r + r = e) (hb : -P ≤ e ∧ e ≤ P) (hs0 : e < 0) (hq : -e = P) (hev : f % 2 = 0) (htab : Lib.TabIs Tryd.prog w "internal/strconv.uint64pow10" .u64 Lib.pow10Tab) (hg : 2 < w.heap.size) : Calls Tryd.prog 7 #[Dc c s, .int .i64 u] w fun e w' => e = .returned (.bool true) ∧ Below w.heap.size w w' := by
  have hm0 : 0 ≤ m ∧ m ≤ 18 := by omega
  have hk0 := emod_in hk hm0.1
  have hn0 : n ≤ 18 := by omega
  have hP0 := pow_le hn0
  rw [hP] at hP0
  have hPf : Fits P := by unfold Fits; omega
  have hrf : Fits r := by unfold Fits; omega
  have hef : Fits e := by unfold Fits; omega
  refine d_in (args := [Dc c s, .int .i64 u]) 103 Tryd.func7 rfl rfl rfl ?_
  refine d_reg ?_
  refine h_box (cs := #[hiW c, loW c, .int .i64 s]) rfl rfl rfl rfl ?_; intro g2_1
  refine h_q hfl rfl ?_
  refine h_done (d_reg ?_)
  refine h_load 0 (v := .agg #[hiW c, loW c, .int .i64 s]) (reads_agg (cs := [hiW c, loW c, .int .i64 s]) tyDec rfl) rfl rfl rfl rfl ?_
  refine h_call (ent_of Tryd.func10 (by kernel_rfl) rfl) (fun w hH => nearL _ hm hs) rfl rfl rfl rfl ?_
  refine h_store 0 (v := Dc c m) (#[hiW c, loW c, .int .i64 m]) tyDec.2 rfl rfl rfl rfl rfl rfl rfl rfl rfl rfl ?_
  refine h_done (d_reg ?_)
  refine h_q hfl rfl ?_
  refine h_load 0 (v := .int .i64 m) (reads_one tyInt rfl) rfl rfl rfl rfl ?_
  refine h_ar (z' := m + 1) (IntWalk.i64_in _ (by omega)) rfl rfl rfl rfl rfl ?_
  refine h_call (ent_of Tryd.func22 (by kernel_rfl) rfl) (fun w hH => pickL _ hk hu ⟨by omega, by omega⟩) rfl rfl rfl rfl ?_
  refine h_q hfl rfl ?_
  refine h_done (d_reg ?_)
  refine h_load 0 (v := .agg #[hiW c, loW c, .int .i64 m]) (reads_agg (cs := [hiW c, loW c, .int .i64 m]) tyDec rfl) rfl rfl rfl rfl ?_
  refine h_q hfl rfl ?_
  refine h_call (ent_of Tryd.func25 (by kernel_rfl) rfl) (fun w hH => rescF _ hx hc) rfl rfl rfl rfl ?_
  refine h_q hfl rfl ?_
  refine h_alloc zeDec rfl rfl ?_; intro g5_2
  refine h_store 0 (v := Dc f k) (#[hiW f, loW f, .int .i64 k]) tyDec.2 rfl rfl rfl rfl rfl rfl rfl rfl rfl rfl ?_
  refine h_q hfl rfl ?_
  refine h_done (d_seq (d_reg ?_))
  refine h_call (ent_of Tryd.func17 (by kernel_rfl) rfl) (fun w hH => known3_any _ (tab_below htab hH.up.below hg) (Nat.lt_of_lt_of_le hg hH.up.size)) rfl rfl rfl rfl ?_
  refine h_q hfl rfl ?_
  refine h_cmp (cmp_neq_f (by decide)) rfl rfl rfl rfl ?_
  refine h_q hfl rfl ?_
  refine h_load 0 (v := .int .i64 k) (reads_one tyInt rfl) rfl rfl rfl rfl ?_
  refine h_q hfl rfl ?_
  refine h_cmp (cmp_neq_f (by simp)) rfl rfl rfl rfl ?_
  refine h_q hfl rfl ?_
  refine h_done (d_else rfl (d_skip (f_to (d_reg ?_))))
  refine h_q hfl rfl ?_
  refine h_load 1 (v := .int .i64 m) (reads_one tyInt rfl) rfl rfl rfl rfl ?_
  refine h_q hfl rfl ?_
  refine h_ar (z' := (n : Int)) (by rw [IntWalk.i64_in _ (by omega)]; omega) rfl rfl rfl rfl rfl ?_
  refine h_call (ent_of Tryd.func27 (by kernel_rfl) rfl) (fun w hH => powL _ hP (by omega)) rfl rfl rfl rfl ?_
  refine h_q hfl rfl ?_
  refine h_alloc zeWide rfl rfl ?_; intro g7_3
  refine h_store 0 (v := WV P) (#[hiW P, loW P]) tyWide.2 rfl rfl rfl rfl rfl rfl rfl rfl rfl rfl ?_
  refine h_q hfl rfl ?_
  refine h_done (d_reg ?_)
  refine h_q hfl rfl ?_
  refine h_load 1 (v := .agg #[hiW f, loW f]) (reads_agg (cs := [hiW f, loW f, .int .i64 k]) tyWide rfl) rfl rfl rfl rfl ?_
  refine h_load 0 (v := .agg #[hiW P, loW P]) (reads_agg (cs := [hiW P, loW P]) tyWide rfl) rfl rfl rfl rfl ?_
  refine h_call (ent_of Tryd.func28 (by kernel_rfl) rfl) (fun w hH => wmulF _ rfl hf hPf ho) rfl rfl rfl rfl ?_
  refine h_q hfl rfl ?_
  refine h_alloc zeWide rfl rfl ?_; intro g9_4
  refine h_store 0 (v := WV (f * P)) (#[hiW (f * P), loW (f * P)]) tyWide.2 rfl rfl rfl rfl rfl rfl rfl rfl rfl rfl ?_
  refine h_q hfl rfl ?_
  refine h_done ?_
  refine WC2.keep (env' := [(2, .pointer (some ⟨g2_1, 0, none⟩)), (4, .bool false), (5, .pointer (some ⟨g5_2, 0, none⟩)), (7, .pointer (some ⟨g7_3, 0, none⟩)), (9, .pointer (some ⟨g9_4, 0, none⟩)), (10, .int .i64 0)]) ⟨rfl, rfl, rfl, rfl, rfl, rfl, trivial⟩ ?_
  refine d_seq (d_reg ?_)
  refine h_q hfl rfl ?_
  refine h_cmp (cmp_neq_f (by decide)) rfl rfl rfl rfl ?_
  refine h_done (d_else rfl (d_skip (f_to (d_reg ?_))))
  refine h_q hfl rfl ?_
  refine h_load 3 (v := .agg #[hiW c, loW c]) (reads_agg (cs := [hiW c, loW c, .int .i64 m]) tyWide rfl) rfl rfl rfl rfl ?_
  refine h_load 0 (v := .agg #[hiW (f * P), loW (f * P)]) (reads_agg (cs := [hiW (f * P), loW (f * P)]) tyWide rfl) rfl rfl rfl rfl ?_
  refine h_call (ent_of Tryd.func29 (by kernel_rfl) rfl) (fun w hH => wsubF _ hr hc ho hrf) rfl rfl rfl rfl ?_
  refine h_q hfl rfl ?_
  refine h_alloc zeWide rfl rfl ?_; intro g11_5
  refine h_store 0 (v := WV r) (#[hiW r, loW r]) tyWide.2 rfl rfl rfl rfl rfl rfl rfl rfl rfl rfl ?_
  refine h_q hfl rfl ?_
  refine h_done (d_reg ?_)
  refine h_load 0 (v := .agg #[hiW r, loW r]) (reads_agg (cs := [hiW r, loW r]) tyWide rfl) rfl rfl rfl rfl ?_
  refine h_load 0 (v := .agg #[hiW r, loW r]) (reads_agg (cs := [hiW r, loW r]) tyWide rfl) rfl rfl rfl rfl ?_
  refine h_call (ent_of Tryd.func30 (by kernel_rfl) rfl) (fun w hH => waddF _ he hrf hrf hef) rfl rfl rfl rfl ?_
  refine h_q hfl rfl ?_
  refine h_alloc zeWide rfl rfl ?_; intro g13_6
  refine h_store 0 (v := WV e) (#[hiW e, loW e]) tyWide.2 rfl rfl rfl rfl rfl rfl rfl rfl rfl rfl ?_
  refine h_q hfl rfl ?_
  refine h_done (d_seq (d_reg ?_))
  refine h_q hfl rfl ?_
  refine h_cmp (cmp_neq_f (by decide)) rfl rfl rfl rfl ?_
  refine h_q hfl rfl ?_
  refine h_cmp (cmp_neq_f (by decide)) rfl rfl rfl rfl ?_
  refine h_q hfl rfl ?_
  refine h_done (d_else rfl (d_skip (f_to (d_seq (d_reg ?_)))))
  refine h_load 0 (v := .agg #[hiW e, loW e]) (reads_agg (cs := [hiW e, loW e]) tyWide rfl) rfl rfl rfl rfl ?_
  refine h_call (ent_of Tryd.func31 (by kernel_rfl) rfl) (fun w hH => signL _ (y := -1) (cmp3_lt hs0) hef) rfl rfl rfl rfl ?_
  refine h_cmp (cmp_lss_t (by decide)) rfl rfl rfl rfl ?_
  refine h_done (d_then rfl (d_reg1 ?_))
  refine h_load 0 (v := .agg #[hiW e, loW e]) (reads_agg (cs := [hiW e, loW e]) tyWide rfl) rfl rfl rfl rfl ?_
  refine h_call (ent_of Tryd.func32 (by kernel_rfl) rfl) (fun w hH => wnegF _ rfl hef (by unfold Fits; omega)) rfl rfl rfl rfl ?_
  refine h_q hfl rfl ?_
  refine h_store 0 (v := WV (-e)) (#[hiW (-e), loW (-e)]) tyWide.2 rfl rfl rfl rfl rfl rfl rfl rfl rfl rfl ?_
  refine h_nil (f_to (d_reg ?_))
  refine h_load 0 (v := .agg #[hiW (-e), loW (-e)]) (reads_agg (cs := [hiW (-e), loW (-e)]) tyWide rfl) rfl rfl rfl rfl ?_
  refine h_load 3 (v := .agg #[hiW P, loW P]) (reads_agg (cs := [hiW P, loW P]) tyWide rfl) rfl rfl rfl rfl ?_
  refine h_call (ent_of Tryd.func33 (by kernel_rfl) rfl) (fun w hH => wcmpL _ (z := 0) (by rw [hq]; exact cmp3_eq _) (by unfold Fits; omega) hPf) rfl rfl rfl rfl ?_
  refine h_q hfl rfl ?_
  refine h_done (d_reg ?_)
  refine h_q hfl rfl ?_
  refine h_cmp (cmp_lss_f (by decide)) rfl rfl rfl rfl ?_
  refine h_q hfl rfl ?_
  refine h_cmp (cmp_eql_t (by decide)) rfl rfl rfl rfl ?_
  refine h_q hfl rfl ?_
  refine h_load 4 (v := loW f) (reads_one tyUint64 rfl) rfl rfl rfl rfl ?_
  refine h_val rfl (.int .u64 0) (fun b w hb hH => by have e0 := hb.get 98 _ rfl; go_simp; simp only [loW]; go_simp; exact tmod_even hev) ?_
  refine h_cmp (cmp_eql_t (by decide)) rfl rfl rfl rfl ?_
  refine h_q hfl rfl ?_
  refine h_done ?_
  refine WC2.keep (env' := [(4, .bool true)]) ⟨rfl, trivial⟩ ?_
  refine d_ret ?_
  exact f_fin1 (.tmp rfl) (fun w h => ⟨rfl, h.up.below⟩) rfl

theorem half_nl (w : World) (c s u : Int) (hc : Fits c) (hs : -9223372036854775808 ≤ s ∧ s < 9223372036854775808) (hu : -9223372036854775808 ≤ u ∧ u < 9223372036854775808) {m k f P r e : Int} {n : Nat} (hm : s % 19 = m) (hk : u % (m + 1) = k) (hn : m - k = (n : Int)) (hP : ((10 ^ n : Nat) : Int) = P) (hx : rescP c m k = (f, k, 0)) (hf : Fits f) (ho : Fits (f * P)) (hr : c - f * P = r) (he : r + r = e) (hb : -P ≤ e ∧ e ≤ P) (hs0 : e < 0) (hq : -e < P) (htab : Lib.TabIs Tryd.prog w "internal/strconv.uint64pow10" .u64 Lib.pow10Tab) (hg : 2 < w.heap.size) : Calls Tryd.prog 7 #[Dc c s, .int .i64 u] w fun e w' => e = .returned (.bool true) ∧ Below w.heap.size w w' := by
  have hm0 : 0 ≤ m ∧ m ≤ 18 := by omega
  have hk0 := emod_in hk hm0.1
  have hn0 : n ≤ 18 := by omega
  have hP0 := pow_le hn0
  rw [hP] at hP0
  have hPf : Fits P := by unfold Fits; omega
  have hrf : Fits r := by unfold Fits; omega
  have hef : Fits e := by unfold Fits; omega
  refine d_in (args := [Dc c s, .int .i64 u]) 103 Tryd.func7 rfl rfl rfl ?_
  refine d_reg ?_
  refine h_box (cs := #[hiW c, loW c, .int .i64 s]) rfl rfl rfl rfl ?_; intro g2_1
  refine h_q hfl rfl ?_
  refine h_done (d_reg ?_)
  refine h_load 0 (v := .agg #[hiW c, loW c, .int .i64 s]) (reads_agg (cs := [hiW c, loW c, .int .i64 s]) tyDec rfl) rfl rfl rfl rfl ?_
  refine h_call (ent_of Tryd.func10 (by kernel_rfl) rfl) (fun w hH => nearL _ hm hs) rfl rfl rfl rfl ?_
  refine h_store 0 (v := Dc c m) (#[hiW c, loW c, .int .i64 m]) tyDec.2 rfl rfl rfl rfl rfl rfl rfl rfl rfl rfl ?_
  refine h_done (d_reg ?_)
  refine h_q hfl rfl ?_
  refine h_load 0 (v := .int .i64 m) (reads_one tyInt rfl) rfl rfl rfl rfl ?_
  refine h_ar (z' := m + 1) (IntWalk.i64_in _ (by omega)) rfl rfl rfl rfl rfl ?_
  refine h_call (ent_of Tryd.func22 (by kernel_rfl) rfl) (fun w hH => pickL _ hk hu ⟨by omega, by omega⟩) rfl rfl rfl rfl ?_
  refine h_q hfl rfl ?_
  refine h_done (d_reg ?_)
  refine h_load 0 (v := .agg #[hiW c, loW c, .int .i64 m]) (reads_agg (cs := [hiW c, loW c, .int .i64 m]) tyDec rfl) rfl rfl rfl rfl ?_
  refine h_q hfl rfl ?_
  refine h_call (ent_of Tryd.func25 (by kernel_rfl) rfl) (fun w hH => rescF _ hx hc) rfl rfl rfl rfl ?_
  refine h_q hfl rfl ?_
  refine h_alloc zeDec rfl rfl ?_; intro g5_2
  refine h_store 0 (v := Dc f k) (#[hiW f, loW f, .int .i64 k]) tyDec.2 rfl rfl rfl rfl rfl rfl rfl rfl rfl rfl ?_
  refine h_q hfl rfl ?_
  refine h_done (d_seq (d_reg ?_))
  refine h_call (ent_of Tryd.func17 (by kernel_rfl) rfl) (fun w hH => known3_any _ (tab_below htab hH.up.below hg) (Nat.lt_of_lt_of_le hg hH.up.size)) rfl rfl rfl rfl ?_
  refine h_q hfl rfl ?_
  refine h_cmp (cmp_neq_f (by decide)) rfl rfl rfl rfl ?_
  refine h_q hfl rfl ?_
  refine h_load 0 (v := .int .i64 k) (reads_one tyInt rfl) rfl rfl rfl rfl ?_
  refine h_q hfl rfl ?_
  refine h_cmp (cmp_neq_f (by simp)) rfl rfl rfl rfl ?_
  refine h_q hfl rfl ?_
  refine h_done (d_else rfl (d_skip (f_to (d_reg ?_))))
  refine h_q hfl rfl ?_
  refine h_load 1 (v := .int .i64 m) (reads_one tyInt rfl) rfl rfl rfl rfl ?_
  refine h_q hfl rfl ?_
  refine h_ar (z' := (n : Int)) (by rw [IntWalk.i64_in _ (by omega)]; omega) rfl rfl rfl rfl rfl ?_
  refine h_call (ent_of Tryd.func27 (by kernel_rfl) rfl) (fun w hH => powL _ hP (by omega)) rfl rfl rfl rfl ?_
  refine h_q hfl rfl ?_
  refine h_alloc zeWide rfl rfl ?_; intro g7_3
  refine h_store 0 (v := WV P) (#[hiW P, loW P]) tyWide.2 rfl rfl rfl rfl rfl rfl rfl rfl rfl rfl ?_
  refine h_q hfl rfl ?_
  refine h_done (d_reg ?_)
  refine h_q hfl rfl ?_
  refine h_load 1 (v := .agg #[hiW f, loW f]) (reads_agg (cs := [hiW f, loW f, .int .i64 k]) tyWide rfl) rfl rfl rfl rfl ?_
  refine h_load 0 (v := .agg #[hiW P, loW P]) (reads_agg (cs := [hiW P, loW P]) tyWide rfl) rfl rfl rfl rfl ?_
  refine h_call (ent_of Tryd.func28 (by kernel_rfl) rfl) (fun w hH => wmulF _ rfl hf hPf ho) rfl rfl rfl rfl ?_
  refine h_q hfl rfl ?_
  refine h_alloc zeWide rfl rfl ?_; intro g9_4
  refine h_store 0 (v := WV (f * P)) (#[hiW (f * P), loW (f * P)]) tyWide.2 rfl rfl rfl rfl rfl rfl rfl rfl rfl rfl ?_
  refine h_q hfl rfl ?_
  refine h_done ?_
  refine WC2.keep (env' := [(2, .pointer (some ⟨g2_1, 0, none⟩)), (4, .bool false), (5, .pointer (some ⟨g5_2, 0, none⟩)), (7, .pointer (some ⟨g7_3, 0, none⟩)), (9, .pointer (some ⟨g9_4, 0, none⟩)), (10, .int .i64 0)]) ⟨rfl, rfl, rfl, rfl, rfl, rfl, trivial⟩ ?_
  refine d_seq (d_reg ?_)
  refine h_q hfl rfl ?_
  refine h_cmp (cmp_neq_f (by decide)) rfl rfl rfl rfl ?_
  refine h_done (d_else rfl (d_skip (f_to (d_reg ?_))))
  refine h_q hfl rfl ?_
  refine h_load 3 (v := .agg #[hiW c, loW c]) (reads_agg (cs := [hiW c, loW c, .int .i64 m]) tyWide rfl) rfl rfl rfl rfl ?_
  refine h_load 0 (v := .agg #[hiW (f * P), loW (f * P)]) (reads_agg (cs := [hiW (f * P), loW (f * P)]) tyWide rfl) rfl rfl rfl rfl ?_
  refine h_call (ent_of Tryd.func29 (by kernel_rfl) rfl) (fun w hH => wsubF _ hr hc ho hrf) rfl rfl rfl rfl ?_
  refine h_q hfl rfl ?_
  refine h_alloc zeWide rfl rfl ?_; intro g11_5
  refine h_store 0 (v := WV r) (#[hiW r, loW r]) tyWide.2 rfl rfl rfl rfl rfl rfl rfl rfl rfl rfl ?_
  refine h_q hfl rfl ?_
  refine h_done (d_reg ?_)
  refine h_load 0 (v := .agg #[hiW r, loW r]) (reads_agg (cs := [hiW r, loW r]) tyWide rfl) rfl rfl rfl rfl ?_
  refine h_load 0 (v := .agg #[hiW r, loW r]) (reads_agg (cs := [hiW r, loW r]) tyWide rfl) rfl rfl rfl rfl ?_
  refine h_call (ent_of Tryd.func30 (by kernel_rfl) rfl) (fun w hH => waddF _ he hrf hrf hef) rfl rfl rfl rfl ?_
  refine h_q hfl rfl ?_
  refine h_alloc zeWide rfl rfl ?_; intro g13_6
  refine h_store 0 (v := WV e) (#[hiW e, loW e]) tyWide.2 rfl rfl rfl rfl rfl rfl rfl rfl rfl rfl ?_
  refine h_q hfl rfl ?_
  refine h_done (d_seq (d_reg ?_))
  refine h_q hfl rfl ?_
  refine h_cmp (cmp_neq_f (by decide)) rfl rfl rfl rfl ?_
  refine h_q hfl rfl ?_
  refine h_cmp (cmp_neq_f (by decide)) rfl rfl rfl rfl ?_
  refine h_q hfl rfl ?_
  refine h_done (d_else rfl (d_skip (f_to (d_seq (d_reg ?_)))))
  refine h_load 0 (v := .agg #[hiW e, loW e]) (reads_agg (cs := [hiW e, loW e]) tyWide rfl) rfl rfl rfl rfl ?_
  refine h_call (ent_of Tryd.func31 (by kernel_rfl) rfl) (fun w hH => signL _ (y := -1) (cmp3_lt hs0) hef) rfl rfl rfl rfl ?_
  refine h_cmp (cmp_lss_t (by decide)) rfl rfl rfl rfl ?_
  refine h_done (d_then rfl (d_reg1 ?_))
  refine h_load 0 (v := .agg #[hiW e, loW e]) (reads_agg (cs := [hiW e, loW e]) tyWide rfl) rfl rfl rfl rfl ?_
  refine h_call (ent_of Tryd.func32 (by kernel_rfl) rfl) (fun w hH => wnegF _ rfl hef (by unfold Fits; omega)) rfl rfl rfl rfl ?_
  refine h_q hfl rfl ?_
  refine h_store 0 (v := WV (-e)) (#[hiW (-e), loW (-e)]) tyWide.2 rfl rfl rfl rfl rfl rfl rfl rfl rfl rfl ?_
  refine h_nil (f_to (d_reg ?_))
  refine h_load 0 (v := .agg #[hiW (-e), loW (-e)]) (reads_agg (cs := [hiW (-e), loW (-e)]) tyWide rfl) rfl rfl rfl rfl ?_
  refine h_load 3 (v := .agg #[hiW P, loW P]) (reads_agg (cs := [hiW P, loW P]) tyWide rfl) rfl rfl rfl rfl ?_
  refine h_call (ent_of Tryd.func33 (by kernel_rfl) rfl) (fun w hH => wcmpL _ (z := -1) (cmp3_lt hq) (by unfold Fits; omega) hPf) rfl rfl rfl rfl ?_
  refine h_q hfl rfl ?_
  refine h_done (d_reg ?_)
  refine h_q hfl rfl ?_
  refine h_cmp (cmp_lss_t (by decide)) rfl rfl rfl rfl ?_
  refine h_q hfl rfl ?_
  refine h_done ?_
  refine WC2.keep (env' := [(4, .bool true)]) ⟨rfl, trivial⟩ ?_
  refine d_ret ?_
  exact f_fin1 (.tmp rfl) (fun w h => ⟨rfl, h.up.below⟩) rfl

theorem half_pe (w : World) (c s u : Int) (hc : Fits c) (hs : -9223372036854775808 ≤ s ∧ s < 9223372036854775808) (hu : -9223372036854775808 ≤ u ∧ u < 9223372036854775808) {m k f P r e : Int} {n : Nat} (hm : s % 19 = m) (hk : u % (m + 1) = k) (hn : m - k = (n : Int)) (hP : ((10 ^ n : Nat) : Int) = P) (hx : rescP c m k = (f, k, 0)) (hf : Fits f) (ho : Fits (f * P)) (hr : c - f * P = r) (he : r + r = e) (hb : -P ≤ e ∧ e ≤ P) (hs0 : ¬ e < 0) (hq : e = P) (hev : f % 2 = 0) (htab : Lib.TabIs Tryd.prog w "internal/strconv.uint64pow10" .u64 Lib.pow10Tab) (hg : 2 < w.heap.size) : Calls Tryd.prog 7 #[Dc c s, .int .i64 u] w fun e w' => e = .returned (.bool true) ∧ Below w.heap.size w w' := by
  have hm0 : 0 ≤ m ∧ m ≤ 18 := by omega
  have hk0 := emod_in hk hm0.1
  have hn0 : n ≤ 18 := by omega
  have hP0 := pow_le hn0
  rw [hP] at hP0
  have hPf : Fits P := by unfold Fits; omega
  have hrf : Fits r := by unfold Fits; omega
  have hef : Fits e := by unfold Fits; omega
  refine d_in (args := [Dc c s, .int .i64 u]) 103 Tryd.func7 rfl rfl rfl ?_
  refine d_reg ?_
  refine h_box (cs := #[hiW c, loW c, .int .i64 s]) rfl rfl rfl rfl ?_; intro g2_1
  refine h_q hfl rfl ?_
  refine h_done (d_reg ?_)
  refine h_load 0 (v := .agg #[hiW c, loW c, .int .i64 s]) (reads_agg (cs := [hiW c, loW c, .int .i64 s]) tyDec rfl) rfl rfl rfl rfl ?_
  refine h_call (ent_of Tryd.func10 (by kernel_rfl) rfl) (fun w hH => nearL _ hm hs) rfl rfl rfl rfl ?_
  refine h_store 0 (v := Dc c m) (#[hiW c, loW c, .int .i64 m]) tyDec.2 rfl rfl rfl rfl rfl rfl rfl rfl rfl rfl ?_
  refine h_done (d_reg ?_)
  refine h_q hfl rfl ?_
  refine h_load 0 (v := .int .i64 m) (reads_one tyInt rfl) rfl rfl rfl rfl ?_
  refine h_ar (z' := m + 1) (IntWalk.i64_in _ (by omega)) rfl rfl rfl rfl rfl ?_
  refine h_call (ent_of Tryd.func22 (by kernel_rfl) rfl) (fun w hH => pickL _ hk hu ⟨by omega, by omega⟩) rfl rfl rfl rfl ?_
  refine h_q hfl rfl ?_
  refine h_done (d_reg ?_)
  refine h_load 0 (v := .agg #[hiW c, loW c, .int .i64 m]) (reads_agg (cs := [hiW c, loW c, .int .i64 m]) tyDec rfl) rfl rfl rfl rfl ?_
  refine h_q hfl rfl ?_
  refine h_call (ent_of Tryd.func25 (by kernel_rfl) rfl) (fun w hH => rescF _ hx hc) rfl rfl rfl rfl ?_
  refine h_q hfl rfl ?_
  refine h_alloc zeDec rfl rfl ?_; intro g5_2
  refine h_store 0 (v := Dc f k) (#[hiW f, loW f, .int .i64 k]) tyDec.2 rfl rfl rfl rfl rfl rfl rfl rfl rfl rfl ?_
  refine h_q hfl rfl ?_
  refine h_done (d_seq (d_reg ?_))
  refine h_call (ent_of Tryd.func17 (by kernel_rfl) rfl) (fun w hH => known3_any _ (tab_below htab hH.up.below hg) (Nat.lt_of_lt_of_le hg hH.up.size)) rfl rfl rfl rfl ?_
  refine h_q hfl rfl ?_
  refine h_cmp (cmp_neq_f (by decide)) rfl rfl rfl rfl ?_
  refine h_q hfl rfl ?_
  refine h_load 0 (v := .int .i64 k) (reads_one tyInt rfl) rfl rfl rfl rfl ?_
  refine h_q hfl rfl ?_
  refine h_cmp (cmp_neq_f (by simp)) rfl rfl rfl rfl ?_
  refine h_q hfl rfl ?_
  refine h_done (d_else rfl (d_skip (f_to (d_reg ?_))))
  refine h_q hfl rfl ?_
  refine h_load 1 (v := .int .i64 m) (reads_one tyInt rfl) rfl rfl rfl rfl ?_
  refine h_q hfl rfl ?_
  refine h_ar (z' := (n : Int)) (by rw [IntWalk.i64_in _ (by omega)]; omega) rfl rfl rfl rfl rfl ?_
  refine h_call (ent_of Tryd.func27 (by kernel_rfl) rfl) (fun w hH => powL _ hP (by omega)) rfl rfl rfl rfl ?_
  refine h_q hfl rfl ?_
  refine h_alloc zeWide rfl rfl ?_; intro g7_3
  refine h_store 0 (v := WV P) (#[hiW P, loW P]) tyWide.2 rfl rfl rfl rfl rfl rfl rfl rfl rfl rfl ?_
  refine h_q hfl rfl ?_
  refine h_done (d_reg ?_)
  refine h_q hfl rfl ?_
  refine h_load 1 (v := .agg #[hiW f, loW f]) (reads_agg (cs := [hiW f, loW f, .int .i64 k]) tyWide rfl) rfl rfl rfl rfl ?_
  refine h_load 0 (v := .agg #[hiW P, loW P]) (reads_agg (cs := [hiW P, loW P]) tyWide rfl) rfl rfl rfl rfl ?_
  refine h_call (ent_of Tryd.func28 (by kernel_rfl) rfl) (fun w hH => wmulF _ rfl hf hPf ho) rfl rfl rfl rfl ?_
  refine h_q hfl rfl ?_
  refine h_alloc zeWide rfl rfl ?_; intro g9_4
  refine h_store 0 (v := WV (f * P)) (#[hiW (f * P), loW (f * P)]) tyWide.2 rfl rfl rfl rfl rfl rfl rfl rfl rfl rfl ?_
  refine h_q hfl rfl ?_
  refine h_done ?_
  refine WC2.keep (env' := [(2, .pointer (some ⟨g2_1, 0, none⟩)), (4, .bool false), (5, .pointer (some ⟨g5_2, 0, none⟩)), (7, .pointer (some ⟨g7_3, 0, none⟩)), (9, .pointer (some ⟨g9_4, 0, none⟩)), (10, .int .i64 0)]) ⟨rfl, rfl, rfl, rfl, rfl, rfl, trivial⟩ ?_
  refine d_seq (d_reg ?_)
  refine h_q hfl rfl ?_
  refine h_cmp (cmp_neq_f (by decide)) rfl rfl rfl rfl ?_
  refine h_done (d_else rfl (d_skip (f_to (d_reg ?_))))
  refine h_q hfl rfl ?_
  refine h_load 3 (v := .agg #[hiW c, loW c]) (reads_agg (cs := [hiW c, loW c, .int .i64 m]) tyWide rfl) rfl rfl rfl rfl ?_
  refine h_load 0 (v := .agg #[hiW (f * P), loW (f * P)]) (reads_agg (cs := [hiW (f * P), loW (f * P)]) tyWide rfl) rfl rfl rfl rfl ?_
  refine h_call (ent_of Tryd.func29 (by kernel_rfl) rfl) (fun w hH => wsubF _ hr hc ho hrf) rfl rfl rfl rfl ?_
  refine h_q hfl rfl ?_
  refine h_alloc zeWide rfl rfl ?_; intro g11_5
  refine h_store 0 (v := WV r) (#[hiW r, loW r]) tyWide.2 rfl rfl rfl rfl rfl rfl rfl rfl rfl rfl ?_
  refine h_q hfl rfl ?_
  refine h_done (d_reg ?_)
  refine h_load 0 (v := .agg #[hiW r, loW r]) (reads_agg (cs := [hiW r, loW r]) tyWide rfl) rfl rfl rfl rfl ?_
  refine h_load 0 (v := .agg #[hiW r, loW r]) (reads_agg (cs := [hiW r, loW r]) tyWide rfl) rfl rfl rfl rfl ?_
  refine h_call (ent_of Tryd.func30 (by kernel_rfl) rfl) (fun w hH => waddF _ he hrf hrf hef) rfl rfl rfl rfl ?_
  refine h_q hfl rfl ?_
  refine h_alloc zeWide rfl rfl ?_; intro g13_6
  refine h_store 0 (v := WV e) (#[hiW e, loW e]) tyWide.2 rfl rfl rfl rfl rfl rfl rfl rfl rfl rfl ?_
  refine h_q hfl rfl ?_
  refine h_done (d_seq (d_reg ?_))
  refine h_q hfl rfl ?_
  refine h_cmp (cmp_neq_f (by decide)) rfl rfl rfl rfl ?_
  refine h_q hfl rfl ?_
  refine h_cmp (cmp_neq_f (by decide)) rfl rfl rfl rfl ?_
  refine h_q hfl rfl ?_
  refine h_done (d_else rfl (d_skip (f_to (d_seq (d_reg ?_)))))
  refine h_load 0 (v := .agg #[hiW e, loW e]) (reads_agg (cs := [hiW e, loW e]) tyWide rfl) rfl rfl rfl rfl ?_
  refine h_call (ent_of Tryd.func31 (by kernel_rfl) rfl) (fun w hH => signL _ (y := cmp3 e 0) rfl hef) rfl rfl rfl rfl ?_
  refine h_cmp (cmp_lss_f (by have := cmp3_cases e 0; omega)) rfl rfl rfl rfl ?_
  refine h_done (d_else rfl (d_skip (f_to (d_reg ?_))))
  refine h_load 0 (v := .agg #[hiW e, loW e]) (reads_agg (cs := [hiW e, loW e]) tyWide rfl) rfl rfl rfl rfl ?_
  refine h_load 3 (v := .agg #[hiW P, loW P]) (reads_agg (cs := [hiW P, loW P]) tyWide rfl) rfl rfl rfl rfl ?_
  refine h_call (ent_of Tryd.func33 (by kernel_rfl) rfl) (fun w hH => wcmpL _ (z := 0) (by rw [hq]; exact cmp3_eq _) hef hPf) rfl rfl rfl rfl ?_
  refine h_q hfl rfl ?_
  refine h_done (d_reg ?_)
  refine h_q hfl rfl ?_
  refine h_cmp (cmp_lss_f (by decide)) rfl rfl rfl rfl ?_
  refine h_q hfl rfl ?_
  refine h_cmp (cmp_eql_t (by decide)) rfl rfl rfl rfl ?_
  refine h_q hfl rfl ?_
  refine h_load 4 (v := loW f) (reads_one tyUint64 rfl) rfl rfl rfl rfl ?_
  refine h_val rfl (.int .u64 0) (fun b w hb hH => by have e0 := hb.get 98 _ rfl; go_simp; simp only [loW]; go_simp; exact tmod_even hev) ?_
  refine h_cmp (cmp_eql_t (by decide)) rfl rfl rfl rfl ?_
  refine h_q hfl rfl ?_
  refine h_done ?_
  refine WC2.keep (env' := [(4, .bool true)]) ⟨rfl, trivial⟩ ?_
  refine d_ret ?_
  exact f_fin1 (.tmp rfl) (fun w h => ⟨rfl, h.up.below⟩) rfl

theorem half_pl (w : World) (c s u : Int) (hc : Fits c) (hs : -9223372036854775808 ≤ s ∧ s < 9223372036854775808) (hu : -9223372036854775808 ≤ u ∧ u < 9223372036854775808) {m k f P r e : Int} {n : Nat} (hm : s % 19 = m) (hk : u % (m + 1) = k) (hn : m - k = (n : Int)) (hP : ((10 ^ n : Nat) : Int) = P) (hx : rescP c m k = (f, k, 0)) (hf : Fits f) (ho : Fits (f * P)) (hr : c - f * P = r) (he : r + r = e) (hb : -P ≤ e ∧ e ≤ P) (hs0 : ¬ e < 0) (hq : e < P) (htab : Lib.TabIs Tryd.prog w "internal/strconv.uint64pow10" .u64 Lib.pow10Tab) (hg : 2 < w.heap.size) : Calls Tryd.prog 7 #[Dc c s, .int .i64 u] w fun e w' => e = .returned (.bool true) ∧ Below w.heap.size w w' := by
  have hm0 : 0 ≤ m ∧ m ≤ 18 := by omega
  have hk0 := emod_in hk hm0.1
  have hn0 : n ≤ 18 := by omega
  have hP0 := pow_le hn0
  rw [hP] at hP0
  have hPf : Fits P := by unfold Fits; omega
  have hrf : Fits r := by unfold Fits; omega
  have hef : Fits e := by unfold Fits; omega
  refine d_in (args := [Dc c s, .int .i64 u]) 103 Tryd.func7 rfl rfl rfl ?_
  refine d_reg ?_
  refine h_box (cs := #[hiW c, loW c, .int .i64 s]) rfl rfl rfl rfl ?_; intro g2_1
  refine h_q hfl rfl ?_
  refine h_done (d_reg ?_)
  refine h_load 0 (v := .agg #[hiW c, loW c, .int .i64 s]) (reads_agg (cs := [hiW c, loW c, .int .i64 s]) tyDec rfl) rfl rfl rfl rfl ?_
  refine h_call (ent_of Tryd.func10 (by kernel_rfl) rfl) (fun w hH => nearL _ hm hs) rfl rfl rfl rfl ?_
  refine h_store 0 (v := Dc c m) (#[hiW c, loW c, .int .i64 m]) tyDec.2 rfl rfl rfl rfl rfl rfl rfl rfl rfl rfl ?_
  refine h_done (d_reg ?_)
  refine h_q hfl rfl ?_
  refine h_load 0 (v := .int .i64 m) (reads_one tyInt rfl) rfl rfl rfl rfl ?_
  refine h_ar (z' := m + 1) (IntWalk.i64_in _ (by omega)) rfl rfl rfl rfl rfl ?_
  refine h_call (ent_of Tryd.func22 (by kernel_rfl) rfl) (fun w hH => pickL _ hk hu ⟨by omega, by omega⟩) rfl rfl rfl rfl ?_
  refine h_q hfl rfl ?_
  refine h_done (d_reg ?_)
  refine h_load 0 (v := .agg #[hiW c, loW c, .int .i64 m]) (reads_agg (cs := [hiW c, loW c, .int .i64 m]) tyDec rfl) rfl rfl rfl rfl ?_
  refine h_q hfl rfl ?_
  refine h_call (ent_of Tryd.func25 (by kernel_rfl) rfl) (fun w hH => rescF _ hx hc) rfl rfl rfl rfl ?_
  refine h_q hfl rfl ?_
  refine h_alloc zeDec rfl rfl ?_; intro g5_2
  refine h_store 0 (v := Dc f k) (#[hiW f, loW f, .int .i64 k]) tyDec.2 rfl rfl rfl rfl rfl rfl rfl rfl rfl rfl ?_
  refine h_q hfl rfl ?_
  refine h_done (d_seq (d_reg ?_))
  refine h_call (ent_of Tryd.func17 (by kernel_rfl) rfl) (fun w hH => known3_any _ (tab_below htab hH.up.below hg) (Nat.lt_of_lt_of_le hg hH.up.size)) rfl rfl rfl rfl ?_
  refine h_q hfl rfl ?_
  refine h_cmp (cmp_neq_f (by decide)) rfl rfl rfl rfl ?_
  refine h_q hfl rfl ?_
  refine h_load 0 (v := .int .i64 k) (reads_one tyInt rfl) rfl rfl rfl rfl ?_
  refine h_q hfl rfl ?_
  refine h_cmp (cmp_neq_f (by simp)) rfl rfl rfl rfl ?_
  refine h_q hfl rfl ?_
  refine h_done (d_else rfl (d_skip (f_to (d_reg ?_))))
  refine h_q hfl rfl ?_
  refine h_load 1 (v := .int .i64 m) (reads_one tyInt rfl) rfl rfl rfl rfl ?_
  refine h_q hfl rfl ?_
  refine h_ar (z' := (n : Int)) (by rw [IntWalk.i64_in _ (by omega)]; omega) rfl rfl rfl rfl rfl ?_
  refine h_call (ent_of Tryd.func27 (by kernel_rfl) rfl) (fun w hH => powL _ hP (by omega)) rfl rfl rfl rfl ?_
  refine h_q hfl rfl ?_
  refine h_alloc zeWide rfl rfl ?_; intro g7_3
  refine h_store 0 (v := WV P) (#[hiW P, loW P]) tyWide.2 rfl rfl rfl rfl rfl rfl rfl rfl rfl rfl ?_
  refine h_q hfl rfl ?_
  refine h_done (d_reg ?_)
  refine h_q hfl rfl ?_
  refine h_load 1 (v := .agg #[hiW f, loW f]) (reads_agg (cs := [hiW f, loW f, .int .i64 k]) tyWide rfl) rfl rfl rfl rfl ?_
  refine h_load 0 (v := .agg #[hiW P, loW P]) (reads_agg (cs := [hiW P, loW P]) tyWide rfl) rfl rfl rfl rfl ?_
  refine h_call (ent_of Tryd.func28 (by kernel_rfl) rfl) (fun w hH => wmulF _ rfl hf hPf ho) rfl rfl rfl rfl ?_
  refine h_q hfl rfl ?_
  refine h_alloc zeWide rfl rfl ?_; intro g9_4
  refine h_store 0 (v := WV (f * P)) (#[hiW (f * P), loW (f * P)]) tyWide.2 rfl rfl rfl rfl rfl rfl rfl rfl rfl rfl ?_
  refine h_q hfl rfl ?_
  refine h_done ?_
  refine WC2.keep (env' := [(2, .pointer (some ⟨g2_1, 0, none⟩)), (4, .bool false), (5, .pointer (some ⟨g5_2, 0, none⟩)), (7, .pointer (some ⟨g7_3, 0, none⟩)), (9, .pointer (some ⟨g9_4, 0, none⟩)), (10, .int .i64 0)]) ⟨rfl, rfl, rfl, rfl, rfl, rfl, trivial⟩ ?_
  refine d_seq (d_reg ?_)
  refine h_q hfl rfl ?_
  refine h_cmp (cmp_neq_f (by decide)) rfl rfl rfl rfl ?_
  refine h_done (d_else rfl (d_skip (f_to (d_reg ?_))))
  refine h_q hfl rfl ?_
  refine h_load 3 (v := .agg #[hiW c, loW c]) (reads_agg (cs := [hiW c, loW c, .int .i64 m]) tyWide rfl) rfl rfl rfl rfl ?_
  refine h_load 0 (v := .agg #[hiW (f * P), loW (f * P)]) (reads_agg (cs := [hiW (f * P), loW (f * P)]) tyWide rfl) rfl rfl rfl rfl ?_
  refine h_call (ent_of Tryd.func29 (by kernel_rfl) rfl) (fun w hH => wsubF _ hr hc ho hrf) rfl rfl rfl rfl ?_
  refine h_q hfl rfl ?_
  refine h_alloc zeWide rfl rfl ?_; intro g11_5
  refine h_store 0 (v := WV r) (#[hiW r, loW r]) tyWide.2 rfl rfl rfl rfl rfl rfl rfl rfl rfl rfl ?_
  refine h_q hfl rfl ?_
  refine h_done (d_reg ?_)
  refine h_load 0 (v := .agg #[hiW r, loW r]) (reads_agg (cs := [hiW r, loW r]) tyWide rfl) rfl rfl rfl rfl ?_
  refine h_load 0 (v := .agg #[hiW r, loW r]) (reads_agg (cs := [hiW r, loW r]) tyWide rfl) rfl rfl rfl rfl ?_
  refine h_call (ent_of Tryd.func30 (by kernel_rfl) rfl) (fun w hH => waddF _ he hrf hrf hef) rfl rfl rfl rfl ?_
  refine h_q hfl rfl ?_
  refine h_alloc zeWide rfl rfl ?_; intro g13_6
  refine h_store 0 (v := WV e) (#[hiW e, loW e]) tyWide.2 rfl rfl rfl rfl rfl rfl rfl rfl rfl rfl ?_
  refine h_q hfl rfl ?_
  refine h_done (d_seq (d_reg ?_))
  refine h_q hfl rfl ?_
  refine h_cmp (cmp_neq_f (by decide)) rfl rfl rfl rfl ?_
  refine h_q hfl rfl ?_
  refine h_cmp (cmp_neq_f (by decide)) rfl rfl rfl rfl ?_
  refine h_q hfl rfl ?_
  refine h_done (d_else rfl (d_skip (f_to (d_seq (d_reg ?_)))))
  refine h_load 0 (v := .agg #[hiW e, loW e]) (reads_agg (cs := [hiW e, loW e]) tyWide rfl) rfl rfl rfl rfl ?_
  refine h_call (ent_of Tryd.func31 (by kernel_rfl) rfl) (fun w hH => signL _ (y := cmp3 e 0) rfl hef) rfl rfl rfl rfl ?_
  refine h_cmp (cmp_lss_f (by have := cmp3_cases e 0; omega)) rfl rfl rfl rfl ?_
  refine h_done (d_else rfl (d_skip (f_to (d_reg ?_))))
  refine h_load 0 (v := .agg #[hiW e, loW e]) (reads_agg (cs := [hiW e, loW e]) tyWide rfl) rfl rfl rfl rfl ?_
  refine h_load 3 (v := .agg #[hiW P, loW P]) (reads_agg (cs := [hiW P, loW P]) tyWide rfl) rfl rfl rfl rfl ?_
  refine h_call (ent_of Tryd.func33 (by kernel_rfl) rfl) (fun w hH => wcmpL _ (z := -1) (cmp3_lt hq) hef hPf) rfl rfl rfl rfl ?_
  refine h_q hfl rfl ?_
  refine h_done (d_reg ?_)
  refine h_q hfl rfl ?_
  refine h_cmp (cmp_lss_t (by decide)) rfl rfl rfl rfl ?_
  refine h_q hfl rfl ?_
  refine h_done ?_
  refine WC2.keep (env' := [(4, .bool true)]) ⟨rfl, trivial⟩ ?_
  refine d_ret ?_
  exact f_fin1 (.tmp rfl) (fun w h => ⟨rfl, h.up.below⟩) rfl

theorem lawHalf (w : World) (c s u : Int) (hc : Fits c) (hs : -9223372036854775808 ≤ s ∧ s < 9223372036854775808) (hu : -9223372036854775808 ≤ u ∧ u < 9223372036854775808) (htab : Lib.TabIs Tryd.prog w "internal/strconv.uint64pow10" .u64 Lib.pow10Tab) (hg : 2 < w.heap.size) : Calls Tryd.prog 7 #[Dc c s, .int .i64 u] w fun e w' => e = .returned (.bool true) ∧ Below w.heap.size w w' := by
  obtain ⟨m, hm⟩ : ∃ m, s % 19 = m := ⟨_, rfl⟩
  obtain ⟨k, hk⟩ : ∃ k, u % (m + 1) = k := ⟨_, rfl⟩
  have hm0 : 0 ≤ m ∧ m ≤ 18 := by omega
  have hk0 := emod_in hk hm0.1
  obtain ⟨n, hn⟩ := Int.eq_ofNat_of_zero_le (show 0 ≤ m - k by omega)
  obtain ⟨f, hfe⟩ : ∃ f, roundZ c n = f := ⟨_, rfl⟩
  obtain ⟨P, hP⟩ : ∃ P : Int, ((10 ^ n : Nat) : Int) = P := ⟨_, rfl⟩
  obtain ⟨hb1, hb2, hev⟩ := roundN_near c n
  have hP0 := pow_le (n := n) (by omega)
  rw [hfe, hP] at hb1 hb2 hev
  rw [hP] at hP0
  have hf : Fits f := near_fits hc hP0 hb1 hb2
  have hx : rescP c m k = (f, k, 0) := by
    unfold rescP okP
    rw [if_pos ⟨hm0, by unfold May; omega⟩, hn, hfe, rz_fit hf, rE_fit hf, show rs f k = k from if_pos hf]
  by_cases ho : Fits (f * P)
  · obtain ⟨r, hr⟩ : ∃ r, c - f * P = r := ⟨_, rfl⟩
    obtain ⟨e, he⟩ : ∃ e, r + r = e := ⟨_, rfl⟩
    have e2 : 2 * (c - f * P) = e := by omega
    rw [e2] at hb1 hb2 hev
    by_cases hs0 : e < 0
    · by_cases hq : -e = P
      · exact half_ne w c s u hc hs hu hm hk hn hP hx hf ho hr he ⟨hb1, hb2⟩ hs0 hq (hev (.inr (by omega))) htab hg
      · exact half_nl w c s u hc hs hu hm hk hn hP hx hf ho hr he ⟨hb1, hb2⟩ hs0 (by omega) htab hg
    · by_cases hq : e = P
      · exact half_pe w c s u hc hs hu hm hk hn hP hx hf ho hr he ⟨hb1, hb2⟩ hs0 hq (hev (.inl hq)) htab hg
      · exact half_pl w c s u hc hs hu hm hk hn hP hx hf ho hr he ⟨hb1, hb2⟩ hs0 (by omega) htab hg
  · exact half_over w c s u hc hs hu (r := 0) (e := 0) hm hk hn hP hx hf ho htab hg
end Go.Proofs.YtmamedobphlpkaaDoor
