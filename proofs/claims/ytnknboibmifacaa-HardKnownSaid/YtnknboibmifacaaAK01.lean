/-
  HdK · HdP · HdZ
-/
import Derived.Test.YtnknboibmifacaaAA06
import Derived.Test.YtnknboibmifacaaAB01
import Derived.Test.YtnknboibmifacaaAB02
import Derived.Test.YtnknboibmifacaaAJ03
set_option linter.unusedSimpArgs false
set_option linter.unusedVariables false

namespace Go.Proofs.Ytnknboibmifacaa.Sep
open Go.RowKit
open Go.Proofs.Ytnknboibmifacaa.Mem (Dist Blk Chg below0)

def encHv (x : Int × Int) : List Value := [.int .u64 x.1, .int .i64 x.2]
theorem okHv : EncOf 2 encHv := ⟨fun _ => rfl, fun x v h => by unfold encHv at h; simp at h; rcases h with rfl | rfl <;> rfl⟩
def hz (x : HV) : Int × Int := (((x.1 : Nat) : Int), ((x.2 : Nat) : Int))
def okHr (x : Int × Int) : Prop := (0 ≤ x.1 ∧ x.1 ≤ 18446744073709551615) ∧ (-9223372036854775808 ≤ x.2 ∧ x.2 ≤ 9223372036854775807)
theorem eqHard (a b c d : Int) : EqAt Try.prog 28 (.agg #[.int .u64 a, .int .i64 b]) (.agg #[.int .u64 c, .int .i64 d]) (a == c && b == d) := fun x y w => by
  go_simp
  by_cases h1 : a = c <;> by_cases h2 : b = d <;> simp [h1, h2]
theorem eqHz (y x : HV) (b : Bool) (h : decide (y = x) = b) : EqAt Try.prog 28 (.agg #[.int .u64 ((y.1 : Nat) : Int), .int .i64 ((y.2 : Nat) : Int)]) (.agg #[.int .u64 ((x.1 : Nat) : Int), .int .i64 ((x.2 : Nat) : Int)]) b := by
  have h1 := eqHard ((y.1 : Nat) : Int) ((y.2 : Nat) : Int) ((x.1 : Nat) : Int) ((x.2 : Nat) : Int)
  have h2 : (((y.1 : Nat) : Int) == ((x.1 : Nat) : Int) && ((y.2 : Nat) : Int) == ((x.2 : Nat) : Int)) = b := by
    rw [← h, Bool.eq_iff_iff]
    simp [Prod.ext_iff]
    omega
  rwa [h2] at h1
theorem eqH_t (a b : Int) : EqAt Try.prog 28 (.agg #[.int .u64 a, .int .i64 b]) (.agg #[.int .u64 a, .int .i64 b]) true := by
  have h1 := eqHard a b a b
  rwa [show (a == a && b == b) = true by simp] at h1
theorem fitK_mono {k j : Nat} {d : DiskD} (h : d.fitK k) (hj : j ≤ k) : d.fitK j := by
  obtain ⟨h1, h2⟩ := h
  exact ⟨by omega, by omega⟩
theorem fitK_save {k : Nat} {d : DiskD} {x : HV} (h : d.fitK (k + 3)) (hx : hvOk x) : (saveHD d x).1.fitK k := by
  have hl := fr_len hx
  unfold saveHD
  split
  · exact fitK_mono (fitK_append (k := k + 2) h (by omega)) (by omega)
  · unfold beginHD
    have h1 := fitK_rm (k := k + 2) h
    split
    · exact fitK_mono h1 (by omega)
    · have h2 := fitK_append (n := newN) (b := frameL (layH x)) (k := k + 1) h1 (by omega)
      split
      · exact fitK_mono h2 (by omega)
      · exact fitK_ren h2
theorem new_fitK {room : Int} {k : Nat} (hk : k ≤ 9000) : (newD room).fitK k := ⟨by
  show 0 + 0 + 65536 * k ≤ _
  omega, by
  show 0 + k ≤ _
  omega⟩
theorem HS.fit0 {d : DiskD} {L : List HV} {k : Nat} (h : HS d L) (hw : d.wait = []) (hk : k ≤ 9000) : d.fitK k := by
  have h1 := h.used
  have h2 : d.now = d.syn := by unfold DiskD.now; rw [hw]; rfl
  rw [h2] at h1
  refine ⟨?_, ?_⟩
  · rw [hw]
    show usedF d.syn + 0 + _ ≤ _
    omega
  · rw [hw]
    show 0 + k ≤ _
    omega
theorem hs_read {d : DiskD} {L : List HV} (h : HS d L) {b : List UInt8} (hb : (readD (rmNewD d).1 hardN).getD [] = b) : b.length ≤ 137438953472 := by
  have hrm : rmNewD d = (d, 0) := by
    unfold rmNewD readD
    rw [if_neg]
    rw [h.up, if_neg (by simp), h.none_]
    simp
  rw [hrm] at hb
  have hr : (readD d hardN).getD [] = frH L := by
    unfold readD
    rw [h.up, if_neg (by simp), h.at_]
  have := h.le
  rw [← hb, hr]; omega
theorem file_read {room : Int} {f : FS} {V : HV → Prop} (h : HFile f V) {b : List UInt8} (hb : (readD (rmNewD ⟨room, f, [], none, false⟩).1 hardN).getD [] = b) : b.length ≤ 137438953472 := by
  have h1 : (readD (rmNewD ⟨room, f, [], none, false⟩).1 hardN).getD [] = (getM f hardN).getD [] := by
    unfold rmNewD
    split
    · rename_i hs
      have hx : ∃ x, getM f newN = some x := Option.isSome_iff_exists.1 hs
      obtain ⟨x, hx⟩ := hx
      have hdel : delD ⟨room, f, [], none, false⟩ newN = (doesD ⟨room, f, [], none, false⟩ (.del newN), 0) := by
        unfold delD
        rw [hd_begin rfl rfl]
        simp only
        rw [if_neg (by simp)]
        show (match getM f newN with | none => _ | some _ => _) = _
        rw [hx]
      rw [hdel]
      show ((if false = true then none else getM (doesD ⟨room, f, [], none, false⟩ (.del newN)).now hardN).getD []) = _
      rw [if_neg (by simp), now_does]
      show (getM (delM f newN) hardN).getD [] = _
      rw [getM_del h.nd, if_neg hard_ne]
    · rfl
  have := h.lh
  rw [← hb, h1]; omega
/-- what stands at the i-th round: all that were saved, A; synced up to the a-th -/
structure KI (i a : Nat) (A : List HV) (d : DiskD) (L : List HV) : Prop where
  hs : HS d L
  cr : CR d fun x => ∃ j, a ≤ j ∧ A[j]? = some x
  len : A.length = i + 1
  ai : a ≤ i
  last : A[i]? = some (lastH L)
  fit : d.fitK (300 - 3 * i)
theorem ki0 : KI 0 0 [(0, 0)] (newD 1048576) [] := ⟨hs_new rfl, cr_new ⟨0, Nat.le_refl _, rfl⟩, rfl, Nat.le_refl _, rfl, new_fitK (by decide)⟩
theorem KI.sync {i a : Nat} {A : List HV} {d : DiskD} {L : List HV} (h : KI i a A d L) : ∃ d', syncD d = (d', 0) ∧ KI i i A d' L := by
  obtain ⟨d', h1, h2, h3, h4⟩ := hs_sync h.hs (V := fun x => ∃ j, i ≤ j ∧ A[j]? = some x) ⟨i, Nat.le_refl _, h.last⟩
  exact ⟨d', h1, h2, h3, h.len, Nat.le_refl _, h.last, h2.fit0 h4 (by omega)⟩
theorem KI.save {i a : Nat} {A : List HV} {d : DiskD} {L : List HV} (h : KI i a A d L) (hi : i < 90) {x : HV} (hx : hvOk x) : ∃ d' L', saveHD d x = (d', 0) ∧ KI (i + 1) a (A ++ [x]) d' L' := by
  have hold : ∀ y, (∃ j, a ≤ j ∧ A[j]? = some y) → ∃ j, a ≤ j ∧ (A ++ [x])[j]? = some y := fun y ⟨j, h1, h2⟩ => ⟨j, h1, by rw [List.getElem?_append_left (List.getElem?_eq_some_iff.1 h2).1]; exact h2⟩
  have hnew : (A ++ [x])[i + 1]? = some x := by rw [List.getElem?_append_right (by rw [h.len]; omega), h.len]; simp
  obtain ⟨d', L', h1, h2, h3, h4, _, _⟩ := h.hs.save (h.cr.imp hold) (hold _ ⟨i, h.ai, h.last⟩) hx ⟨i + 1, by have := h.ai; omega, hnew⟩
  refine ⟨d', L', h1, h2, h3, by rw [List.length_append, h.len]; rfl, by have := h.ai; omega, by rw [h4]; exact hnew, ?_⟩
  have h5 := fitK_save (k := 300 - 3 * (i + 1)) (d := d) (x := x) (fitK_mono h.fit (by omega)) hx
  rwa [h1] at h5
theorem KI.crash {i a : Nat} {A : List HV} {d : DiskD} {L : List HV} (h : KI i a A d L) (keep torn : Int) : (crashD d keep torn).fitK 9 ∧ (∀ b, (readD (rmNewD (crashD d keep torn)).1 hardN).getD [] = b → b.length ≤ 137438953472) ∧ ∃ d' x j, openHD (crashD d keep torn) = (d', x, 0) ∧ a ≤ j ∧ A[j]? = some x := by
  obtain ⟨h1, d', x, h2, j, h3, h4⟩ := h.cr.crash keep torn
  exact ⟨h1, fun b hb => file_read (h.cr (keepD d keep) (keepD_le d keep) |>.left torn) hb, d', x, j, h2, h3, h4⟩
/-- a value made right -/
def shH (y : Int × Int) : HV := ((y.1 % 400).toNat, (y.2 % 8).toNat)
theorem shH_ok (y : Int × Int) : hvOk (shH y) ∧ (((shH y).1 : Nat) : Int) = y.1 % 400 ∧ (((shH y).2 : Nat) : Int) = y.2 % 8 := by
  have h1 := Int.emod_nonneg y.1 (show (400 : Int) ≠ 0 by decide)
  have h2 := Int.emod_lt_of_pos y.1 (show (0 : Int) < 400 by decide)
  have h3 := Int.emod_nonneg y.2 (show (8 : Int) ≠ 0 by decide)
  have h4 := Int.emod_lt_of_pos y.2 (show (0 : Int) < 8 by decide)
  unfold shH hvOk
  simp only
  omega
theorem tmod_posH {a b : Int} (h : 0 ≤ a) : a.tmod b = a % b := Int.tmod_eq_emod_of_nonneg h
/-- the example -/
theorem knh : ∃ d1 d2 d3 : DiskD, saveHD (newD 1048576) (3, 1) = (d1, 0) ∧ d1.fit ∧ syncD d1 = (d2, 0) ∧ d2.fitK 9 ∧ saveHD d2 (4, 2) = (d3, 0) ∧ d3.fitK 6 ∧ openHD d3 = (d3, (4, 2), 0) ∧ (∀ b, (readD (rmNewD d3).1 hardN).getD [] = b → b.length ≤ 137438953472) ∧ (crashD d3 0 3).fitK 9 ∧ (∀ b, (readD (rmNewD (crashD d3 0 3)).1 hardN).getD [] = b → b.length ≤ 137438953472) ∧ ∃ d4, openHD (crashD d3 0 3) = (d4, (3, 1), 0) := by
  have hs0 : HS (newD 1048576) [] := hs_new rfl
  obtain ⟨d1, L1, h1, hs1, hc1, hl1, hw1, _⟩ := hs0.save (cr_new (V := fun _ => True) trivial) trivial (x := (3, 1)) (by decide) trivial
  have hf1 := fitK_save (k := 6) (d := newD 1048576) (x := (3, 1)) (new_fitK (by decide)) (by decide)
  rw [h1] at hf1
  obtain ⟨d2, h2, hs2, hc2, hw2⟩ := hs_sync hs1 (V := fun _ => True) trivial
  obtain ⟨d3, L3, h3, hs3, hc3, hl3, hw3, hk3⟩ := hs2.save hc2 trivial (x := (4, 2)) (by decide) trivial
  have hf3 := fitK_save (k := 6) (d := d2) (x := (4, 2)) (hs2.fit0 hw2 (by decide)) (by decide)
  rw [h3] at hf3
  have hk := hk3 (fun x => x = (3, 1)) hl1
  have he : keepD d3 0 = d2.wait.length := by rw [hw2]; unfold keepD; simp
  rw [← he] at hk
  obtain ⟨hf4, d4, x, h4, rfl⟩ := hk.crash 3
  exact ⟨d1, d2, d3, h1, hf1.fit, h2, hs2.fit0 hw2 (by decide), h3, hf3, by rw [hs_open hs3, hl3], fun b hb => hs_read hs3 hb, hf4, fun b hb => file_read (hk.left 3) hb, d4, h4⟩

set_option maxRecDepth 100000 in
theorem hknown_true (w : World)  : Calls Try.prog 7 #[] w fun e w' => e = .returned (.bool true) ∧ Below w.heap.size w w' := by
  refine d_in (args := []) 62 Try.func7 rfl rfl rfl ?_
  obtain ⟨d1, d2, d3, k1, f1, k2, f2, k3, f3, k4, r4, f5, r5, d4, k5⟩ := knh
  obtain ⟨d0, hd0⟩ : ∃ d0, newD 1048576 = d0 := ⟨_, rfl⟩
  have f0 : d0.fitK 9 := by rw [← hd0]; exact new_fitK (by decide)
  rw [hd0] at k1
  obtain ⟨dc, hdc⟩ : ∃ dc, crashD d3 0 3 = dc := ⟨_, rfl⟩
  rw [hdc] at f5 r5 k5
  obtain ⟨kk, hkk⟩ : ∃ k, keepD d3 0 = k := ⟨_, rfl⟩
  refine d_reg ?_
  refine h_q hflU rfl ?_
  refine h_done (d_reg ?_)
  refine h_q hflU rfl ?_
  refine h_act (post := fun p => [DiskT p d0]) rfl (a_does (os' := fun p => [DiskT p d0]) [] 0 (ent_of Try.func5 (by kernel_rfl) rfl) ((hd0 ▸ disk_new 1048576 (by decide))) rfl rfl rfl (fun _ => rfl) rfl rfl rfl) ?_; rintro p
  refine h_q hflU rfl ?_
  refine h_done (d_seq (d_reg ?_))
  refine h_q hflU rfl ?_
  refine h_val rfl (.bool false) (fun b w hb hH => exec_cmp rfl rfl rfl (cmp_neq_f (by decide)) hb) ?_
  refine h_q hflU rfl ?_
  refine h_val rfl (.bool false) (fun b w hb hH => exec_pnil_eql (by kernel_rfl) rfl rfl rfl hb) ?_
  refine h_q hflU rfl ?_
  refine h_val rfl (.agg #[.int .u64 3, .int .i64 1]) (fun b w hb hH => exec_build rfl rfl (by kernel_rfl) hb) ?_
  refine h_act (post := fun _ => [DiskT p d1]) rfl (a_does (os' := fun _ => [DiskT p d1]) [0] 0 (ent_of Try.func8 (by kernel_rfl) rfl) (hsave_does (z := (3, 1)) (by decide) (fitK_mono f0 (by decide)) k1) rfl rfl rfl (fun _ => rfl) rfl rfl rfl) ?_; rintro ⟨⟩
  refine h_val rfl (.bool false) (fun b w hb hH => exec_cmp rfl rfl rfl (cmp_neq_f (by decide)) hb) ?_
  refine h_q hflU rfl ?_
  refine h_act (post := fun _ => [DiskT p d2]) rfl (a_does (os' := fun _ => [DiskT p d2]) [0] 0 (ent_of Try.func11 (by kernel_rfl) rfl) (disk_sync f1 k2) rfl rfl rfl (fun _ => rfl) rfl rfl rfl) ?_; rintro ⟨⟩
  refine h_val rfl (.bool false) (fun b w hb hH => exec_cmp rfl rfl rfl (cmp_neq_f (by decide)) hb) ?_
  refine h_q hflU rfl ?_
  refine h_val rfl (.agg #[.int .u64 4, .int .i64 2]) (fun b w hb hH => exec_build rfl rfl (by kernel_rfl) hb) ?_
  refine h_act (post := fun _ => [DiskT p d3]) rfl (a_does (os' := fun _ => [DiskT p d3]) [0] 0 (ent_of Try.func8 (by kernel_rfl) rfl) (hsave_does (z := (4, 2)) (by decide) (fitK_mono f2 (by decide)) k3) rfl rfl rfl (fun _ => rfl) rfl rfl rfl) ?_; rintro ⟨⟩
  refine h_val rfl (.bool false) (fun b w hb hH => exec_cmp rfl rfl rfl (cmp_neq_f (by decide)) hb) ?_
  refine h_q hflU rfl ?_
  refine h_done (d_else rfl (d_skip (f_to (d_reg ?_))))
  refine h_q hflU rfl ?_
  refine h_act (post := fun _ => [DiskT p d3]) rfl (a_does (os' := fun _ => [DiskT p d3]) [0] 0 (ent_of Try.func6 (by kernel_rfl) rfl) (hopen_does (fitK_mono f3 (by decide)) r4 k4) rfl rfl rfl (fun _ => rfl) rfl rfl rfl) ?_; rintro ⟨⟩
  refine h_q hflU rfl ?_
  refine h_act (post := fun g3 => [cell g3 28 #[.int .u64 0, .int .i64 0], DiskT p d3]) rfl (a_alloc ze_api_Hard rfl) ?_; rintro g3
  refine h_acts (post := fun _ => [cell g3 28 #[.int .u64 4, .int .i64 2], DiskT p d3]) rfl rfl (a_store 0 (v := .agg #[.int .u64 4, .int .i64 2]) #[.int .u64 4, .int .i64 2] ty_api_Hard.2 rfl rfl rfl rfl rfl rfl rfl rfl rfl) ?_; rintro ⟨⟩
  refine h_q hflU rfl ?_
  refine h_done (d_reg ?_)
  refine h_q hflU rfl ?_
  refine h_act (post := fun _ => [cell g3 28 #[.int .u64 4, .int .i64 2], DiskT p dc]) rfl (a_does (os' := fun _ => [cell g3 28 #[.int .u64 4, .int .i64 2], DiskT p dc]) [1] 0 (ent_of Try.func13 (by kernel_rfl) rfl) (disk_crash f3.fit (by decide) (by decide) hkk hdc) rfl rfl rfl (fun _ => rfl) rfl rfl rfl) ?_; rintro ⟨⟩
  refine h_done (d_reg ?_)
  refine h_q hflU rfl ?_
  refine h_act (post := fun _ => [cell g3 28 #[.int .u64 4, .int .i64 2], DiskT p d4]) rfl (a_does (os' := fun _ => [cell g3 28 #[.int .u64 4, .int .i64 2], DiskT p d4]) [1] 0 (ent_of Try.func6 (by kernel_rfl) rfl) (hopen_does (fitK_mono f5 (by decide)) r5 k5) rfl rfl rfl (fun _ => rfl) rfl rfl rfl) ?_; rintro ⟨⟩
  refine h_q hflU rfl ?_
  refine h_act (post := fun g5 => [cell g5 28 #[.int .u64 0, .int .i64 0], cell g3 28 #[.int .u64 4, .int .i64 2], DiskT p d4]) rfl (a_alloc ze_api_Hard rfl) ?_; rintro g5
  refine h_acts (post := fun _ => [cell g5 28 #[.int .u64 3, .int .i64 1], cell g3 28 #[.int .u64 4, .int .i64 2], DiskT p d4]) rfl rfl (a_store 0 (v := .agg #[.int .u64 3, .int .i64 1]) #[.int .u64 3, .int .i64 1] ty_api_Hard.2 rfl rfl rfl rfl rfl rfl rfl rfl rfl) ?_; rintro ⟨⟩
  refine h_q hflU rfl ?_
  refine h_done ?_
  refine WC2.keep (env' := [(0, .bool false), (3, .pointer (some ⟨g3, 0, none⟩)), (4, .int .i64 0), (5, .pointer (some ⟨g5, 0, none⟩)), (6, .int .i64 0)]) ⟨rfl, rfl, rfl, rfl, rfl, trivial⟩ ?_
  refine d_reg ?_
  refine h_q hflU rfl ?_
  refine h_val rfl (.bool true) (fun b w hb hH => exec_cmp rfl rfl rfl (cmp_eql_t (by decide)) hb) ?_
  refine h_q hflU rfl ?_
  refine h_val rfl (.agg #[.int .u64 4, .int .i64 2]) (fun b w hb hH => exec_load rfl rfl (reads_agg (cs := [.int .u64 4, .int .i64 2]) ty_api_Hard rfl) (hH.row 1 rfl) hb) ?_
  refine h_val rfl (.agg #[.int .u64 4, .int .i64 2]) (fun b w hb hH => exec_build rfl rfl (by kernel_rfl) hb) ?_
  refine h_val rfl (.bool true) (fun b w hb hH => exec_eqs (eqH_t 4 2) rfl rfl rfl hb) ?_
  refine h_q hflU rfl ?_
  refine h_val rfl (.bool true) (fun b w hb hH => exec_cmp rfl rfl rfl (cmp_eql_t (by decide)) hb) ?_
  refine h_q hflU rfl ?_
  refine h_val rfl (.agg #[.int .u64 3, .int .i64 1]) (fun b w hb hH => exec_load rfl rfl (reads_agg (cs := [.int .u64 3, .int .i64 1]) ty_api_Hard rfl) (hH.row 0 rfl) hb) ?_
  refine h_val rfl (.agg #[.int .u64 3, .int .i64 1]) (fun b w hb hH => exec_build rfl rfl (by kernel_rfl) hb) ?_
  refine h_val rfl (.bool true) (fun b w hb hH => exec_eqs (eqH_t 3 1) rfl rfl rfl hb) ?_
  refine h_q hflU rfl ?_
  refine h_done (d_ret ?_)
  exact f_fin1 (.tmp rfl) (fun w h => ⟨rfl, below0 h.up⟩) rfl

set_option maxRecDepth 100000 in
theorem hardknown_true (w : World)  : Calls Try.prog 3 #[] w fun e w' => e = .returned (.bool true) ∧ Below w.heap.size w w' := by
  refine d_in (args := []) 56 Try.func3 rfl rfl rfl ?_
  have hs0 : HS (newD 1048576) [] := hs_new rfl
  refine d_reg ?_
  refine h_q hflU rfl ?_
  refine h_done (d_reg ?_)
  refine h_q hflU rfl ?_
  refine h_act (post := fun p => [DiskT p (newD 1048576)]) rfl (a_does (os' := fun p => [DiskT p (newD 1048576)]) [] 0 (ent_of Try.func5 (by kernel_rfl) rfl) (disk_new 1048576 (by decide)) rfl rfl rfl (fun _ => rfl) rfl rfl rfl) ?_; rintro p
  refine h_q hflU rfl ?_
  refine h_done (d_reg ?_)
  refine h_q hflU rfl ?_
  refine h_act (post := fun _ => [DiskT p (newD 1048576)]) rfl (a_does (os' := fun _ => [DiskT p (newD 1048576)]) [0] 0 (ent_of Try.func6 (by kernel_rfl) rfl) (hopen_does (new_fitK (by decide)) (fun b hb => hs_read hs0 hb) (hs_open hs0)) rfl rfl rfl (fun _ => rfl) rfl rfl rfl) ?_; rintro ⟨⟩
  refine h_q hflU rfl ?_
  refine h_act (post := fun g3 => [cell g3 28 #[.int .u64 0, .int .i64 0], DiskT p (newD 1048576)]) rfl (a_alloc ze_api_Hard rfl) ?_; rintro g3
  refine h_acts (post := fun _ => [cell g3 28 #[.int .u64 0, .int .i64 0], DiskT p (newD 1048576)]) rfl rfl (a_store 0 (v := .agg #[.int .u64 0, .int .i64 0]) #[.int .u64 0, .int .i64 0] ty_api_Hard.2 rfl rfl rfl rfl rfl rfl rfl rfl rfl) ?_; rintro ⟨⟩
  refine h_q hflU rfl ?_
  refine h_done (d_reg ?_)
  refine h_q hflU rfl ?_
  refine h_act (post := fun _ => [cell g3 28 #[.int .u64 0, .int .i64 0], DiskT p (newD 1048576)]) rfl (a_call (ent_of Try.func6 (by kernel_rfl) rfl) (fun w hH => hopen_nil w) rfl rfl rfl) ?_; rintro ⟨⟩
  refine h_q hflU rfl ?_
  refine h_act (post := fun g5 => [cell g5 28 #[.int .u64 0, .int .i64 0], cell g3 28 #[.int .u64 0, .int .i64 0], DiskT p (newD 1048576)]) rfl (a_alloc ze_api_Hard rfl) ?_; rintro g5
  refine h_acts (post := fun _ => [cell g5 28 #[.int .u64 0, .int .i64 0], cell g3 28 #[.int .u64 0, .int .i64 0], DiskT p (newD 1048576)]) rfl rfl (a_store 0 (v := .agg #[.int .u64 0, .int .i64 0]) #[.int .u64 0, .int .i64 0] ty_api_Hard.2 rfl rfl rfl rfl rfl rfl rfl rfl rfl) ?_; rintro ⟨⟩
  refine h_q hflU rfl ?_
  refine h_done (d_reg ?_)
  refine h_q hflU rfl ?_
  refine h_act (post := fun _ => [cell g5 28 #[.int .u64 0, .int .i64 0], cell g3 28 #[.int .u64 0, .int .i64 0], DiskT p (newD 1048576)]) rfl (a_call (ent_of Try.func7 (by kernel_rfl) rfl) (fun w hH => hknown_true w) rfl rfl rfl) ?_; rintro ⟨⟩
  refine h_q hflU rfl ?_
  refine h_val rfl (.agg #[.int .u64 0, .int .i64 0]) (fun b w hb hH => exec_load rfl rfl (reads_agg (cs := [.int .u64 0, .int .i64 0]) ty_api_Hard rfl) (hH.row 1 rfl) hb) ?_
  refine h_val rfl (.agg #[.int .u64 0, .int .i64 0]) (fun b w hb hH => exec_build rfl rfl (by kernel_rfl) hb) ?_
  refine h_val rfl (.bool true) (fun b w hb hH => exec_eqs (eqH_t 0 0) rfl rfl rfl hb) ?_
  refine h_q hflU rfl ?_
  refine h_val rfl (.bool true) (fun b w hb hH => exec_cmp rfl rfl rfl (cmp_eql_t (by decide)) hb) ?_
  refine h_q hflU rfl ?_
  refine h_val rfl (.bool true) (fun b w hb hH => exec_cmp rfl rfl rfl (cmp_eql_t (by decide)) hb) ?_
  refine h_q hflU rfl ?_
  refine h_val rfl (.agg #[.int .u64 0, .int .i64 0]) (fun b w hb hH => exec_build rfl rfl (by kernel_rfl) hb) ?_
  refine h_act (post := fun _ => [cell g5 28 #[.int .u64 0, .int .i64 0], cell g3 28 #[.int .u64 0, .int .i64 0], DiskT p (newD 1048576)]) rfl (a_call (ent_of Try.func8 (by kernel_rfl) rfl) (fun w hH => hsave_nil w 0 0) rfl rfl rfl) ?_; rintro ⟨⟩
  refine h_val rfl (.bool true) (fun b w hb hH => exec_cmp rfl rfl rfl (cmp_eql_t (by decide)) hb) ?_
  refine h_q hflU rfl ?_
  refine h_val rfl (.agg #[.int .u64 0, .int .i64 8]) (fun b w hb hH => exec_build rfl rfl (by kernel_rfl) hb) ?_
  refine h_act (post := fun _ => [cell g5 28 #[.int .u64 0, .int .i64 0], cell g3 28 #[.int .u64 0, .int .i64 0], DiskT p (newD 1048576)]) rfl (a_call (ent_of Try.func8 (by kernel_rfl) rfl) (fun w hH => hsave_bad w 0 8 (by decide)) rfl rfl rfl) ?_; rintro ⟨⟩
  refine h_val rfl (.bool true) (fun b w hb hH => exec_cmp rfl rfl rfl (cmp_eql_t (by decide)) hb) ?_
  refine h_q hflU rfl ?_
  refine h_val rfl (.agg #[.int .u64 72057594037927935, .int .i64 7]) (fun b w hb hH => exec_build rfl rfl (by kernel_rfl) hb) ?_
  refine h_act (post := fun _ => [cell g5 28 #[.int .u64 0, .int .i64 0], cell g3 28 #[.int .u64 0, .int .i64 0], DiskT p (newD 1048576)]) rfl (a_call (ent_of Try.func9 (by kernel_rfl) rfl) (fun w hH => hright w 72057594037927935 7 true (by decide)) rfl rfl rfl) ?_; rintro ⟨⟩
  refine h_q hflU rfl ?_
  refine h_val rfl (.agg #[.int .u64 72057594037927936, .int .i64 0]) (fun b w hb hH => exec_build rfl rfl (by kernel_rfl) hb) ?_
  refine h_act (post := fun _ => [cell g5 28 #[.int .u64 0, .int .i64 0], cell g3 28 #[.int .u64 0, .int .i64 0], DiskT p (newD 1048576)]) rfl (a_call (ent_of Try.func9 (by kernel_rfl) rfl) (fun w hH => hright w 72057594037927936 0 false (by decide)) rfl rfl rfl) ?_; rintro ⟨⟩
  refine h_q hflU rfl ?_
  refine h_done ?_
  refine WC2.keep (env' := [(0, .bool true)]) ⟨rfl, trivial⟩ ?_
  refine d_ret ?_
  exact f_fin1 (.tmp rfl) (fun w h => ⟨rfl, below0 h.up⟩) rfl

set_option maxRecDepth 100000 in
theorem hshaped_near (w : World) (y : Int × Int) (hy : okHr y) : Calls Try.prog 12 #[.agg #[.int .i64 0, .int .u64 y.1, .int .i64 y.2, .bool true, .int .i64 0, .int .i64 0, .int .i64 0]] w fun e w' => e = .returned (.agg #[.int .u64 (((shH y).1 : Nat) : Int), .int .i64 (((shH y).2 : Nat) : Int)]) ∧ Below w.heap.size w w' := by
  refine d_in (args := [.agg #[.int .i64 0, .int .u64 y.1, .int .i64 y.2, .bool true, .int .i64 0, .int .i64 0, .int .i64 0]]) 16 Try.func12 rfl rfl rfl ?_
  obtain ⟨⟨hy1, hy2⟩, hy3⟩ := hy
  obtain ⟨hk, hq1, hq2⟩ := shH_ok y
  refine d_reg ?_
  refine h_q hflU rfl ?_
  refine h_act (post := fun g1 => [cell g1 41 #[.int .i64 0, .int .u64 y.1, .int .i64 y.2, .bool true, .int .i64 0, .int .i64 0, .int .i64 0]]) rfl (a_box (cs := #[.int .i64 0, .int .u64 y.1, .int .i64 y.2, .bool true, .int .i64 0, .int .i64 0, .int .i64 0]) rfl rfl rfl) ?_; rintro g1
  refine h_act (post := fun g2 => [cell g2 28 #[.int .u64 0, .int .i64 0], cell g1 41 #[.int .i64 0, .int .u64 y.1, .int .i64 y.2, .bool true, .int .i64 0, .int .i64 0, .int .i64 0]]) rfl (a_alloc ze_api_Hard rfl) ?_; rintro g2
  refine h_done (d_seq (d_reg ?_))
  refine h_q hflU rfl ?_
  refine h_val rfl (.bool true) (fun b w hb hH => exec_load rfl rfl (reads_one ty_bool rfl) (hH.row 1 rfl) hb) ?_
  refine h_done (d_then rfl (d_seq ?_))
  refine d_parS 9 1 [⟨.quiet, [none], fun _ => .pointer (some ⟨g1, 1, none⟩), []⟩, ⟨.quiet, [none], fun _ => .pointer (some ⟨g1, 1, none⟩), [0]⟩, ⟨.quiet, [none], fun _ => .int .u64 y.1, [1]⟩, ⟨.quiet, [none], fun _ => .int .u64 (((shH y).1 : Nat) : Int), [2]⟩, ⟨.quiet, [none], fun _ => .pointer (some ⟨g1, 1, none⟩), []⟩, ⟨.quiet, [none], fun _ => .pointer (some ⟨g1, 2, none⟩), [4]⟩, ⟨.quiet, [none], fun _ => .int .i64 y.2, [5]⟩, ⟨.actv 0, [some false], fun _ => .int .i64 (((shH y).2 : Nat) : Int), [6]⟩, ⟨.quiet, [some true], fun _ => .agg #[.int .u64 (((shH y).1 : Nat) : Int), .int .i64 (((shH y).2 : Nat) : Int)], [3, 7]⟩] [(1, .pointer (some ⟨g1, 0, none⟩)), (2, .pointer (some ⟨g2, 0, none⟩))] (fun ρ => match ρ with | [r0] => [cell g2 28 #[.int .u64 0, .int .i64 0], cell g1 41 #[.int .i64 0, .int .u64 y.1, .int .i64 y.2, .bool true, .int .i64 0, .int .i64 0, .int .i64 0]] | _ => []) (by kernel_rfl) (by kernel_rfl) ⟨rfl, rfl, trivial⟩ rfl ?_ ?_
  · skip
    refine s_cons (by intro r0_; exact ⟨rfl, fun b w hH hb => exec_q1 hflU rfl hb⟩) ?_
    refine s_cons (by intro r0_; exact ⟨rfl, fun b w hH hb => exec_q1 hflU rfl hb⟩) ?_
    refine s_cons (by intro r0_; exact ⟨rfl, fun b w hH hb => exec_load rfl rfl (reads_one ty_uint64 rfl) (hH.row 1 rfl) hb⟩) ?_
    refine s_cons (by intro r0_; exact ⟨rfl, fun b w hH hb => exec_remI rfl rfl rfl (by decide) ((tmod_posH hy1).trans hq1.symm) hb⟩) ?_
    refine s_cons (by intro r0_; exact ⟨rfl, fun b w hH hb => exec_q1 hflU rfl hb⟩) ?_
    refine s_cons (by intro r0_; exact ⟨rfl, fun b w hH hb => exec_q1 hflU rfl hb⟩) ?_
    refine s_cons (by intro r0_; exact ⟨rfl, fun b w hH hb => exec_load rfl rfl (reads_one ty_int rfl) (hH.row 1 rfl) hb⟩) ?_
    refine s_cons (by exact ⟨rfl, Acts.su (a_call (ent_of Try.func10 (by kernel_rfl) rfl) (fun w hH => pick w y.2 8 hy3 (by decide) hq2.symm) rfl rfl rfl) rfl⟩) ?_
    refine s_cons (by intro v0_; exact ⟨rfl, fun b w hH hb => exec_build rfl rfl (by kernel_rfl) hb⟩) ?_
    exact s_nil
  intro v0_
  refine WL2.keep (env' := [(1, .pointer (some ⟨g1, 0, none⟩)), (2, .pointer (some ⟨g2, 0, none⟩)), (13, .agg #[.int .u64 (((shH y).1 : Nat) : Int), .int .i64 (((shH y).2 : Nat) : Int)])]) ⟨rfl, rfl, rfl, trivial⟩ ?_
  refine h_q hflU rfl ?_
  refine h_acts (post := fun _ => [cell g2 28 #[.int .u64 (((shH y).1 : Nat) : Int), .int .i64 (((shH y).2 : Nat) : Int)], cell g1 41 #[.int .i64 0, .int .u64 y.1, .int .i64 y.2, .bool true, .int .i64 0, .int .i64 0, .int .i64 0]]) rfl rfl (a_store 0 (v := .agg #[.int .u64 (((shH y).1 : Nat) : Int), .int .i64 (((shH y).2 : Nat) : Int)]) #[.int .u64 (((shH y).1 : Nat) : Int), .int .i64 (((shH y).2 : Nat) : Int)] ty_api_Hard.2 rfl rfl rfl rfl rfl rfl rfl rfl rfl) ?_; rintro ⟨⟩
  refine h_nil (f_to (d_ret (f_then_ret ?_)))
  exact f_fin1 (.cell 0 (v := .agg #[.int .u64 (((shH y).1 : Nat) : Int), .int .i64 (((shH y).2 : Nat) : Int)]) (reads_agg (cs := [.int .u64 (((shH y).1 : Nat) : Int), .int .i64 (((shH y).2 : Nat) : Int)]) ty_api_Hard rfl) rfl rfl) (fun w h => ⟨rfl, below0 h.up⟩) rfl
end Go.Proofs.Ytnknboibmifacaa.Sep

namespace Go.Proofs.Ytnknboibmifacaa.Sep
open Go.RowKit
open Go.Proofs.Ytnknboibmifacaa.Mem (Dist Blk Chg below0)

theorem pick_nat (a m : Int) (hm : 0 < m) : ∃ S : Nat, a % m = (S : Int) ∧ (S : Int) < m := by
  have h1 := Int.emod_nonneg a (show m ≠ 0 by omega)
  have h2 := Int.emod_lt_of_pos a hm
  exact ⟨(a % m).toNat, (Int.toNat_of_nonneg h1).symm, by omega⟩

set_option maxRecDepth 100000 in
theorem hardkeeps_true (w : World) (v0 : Value) (l0 : List (Int × Int)) (hv0 : SlRd w 2 v0 l0.length (flat encHv l0)) (hl0 : l0.length ≤ 9223372036854775807) (ho0 : ∀ y ∈ l0, okHr y) (sy keep torn : Int) (hsy : -9223372036854775808 ≤ sy ∧ sy ≤ 9223372036854775807) (hkp : -9223372036854775808 ≤ keep ∧ keep ≤ 9223372036854775807) (htn : -9223372036854775808 ≤ torn ∧ torn ≤ 9223372036854775807) : Calls Try.prog 4 #[v0, .int .i64 sy, .int .i64 keep, .int .i64 torn] w fun e w' => e = .returned (.bool true) ∧ Below w.heap.size w w' := by
  refine d_in (args := [v0, .int .i64 sy, .int .i64 keep, .int .i64 torn]) 96 Try.func4 rfl rfl rfl ?_
  obtain ⟨N, hN⟩ : ∃ N, min l0.length 80 = N := ⟨_, rfl⟩
  have hN80 : N ≤ 80 := by omega
  have hNl : N ≤ l0.length := by omega
  obtain ⟨S, hS, hSl⟩ := pick_nat sy ((N : Int) + 1) (by omega)
  refine d_reg ?_
  refine h_q hflU rfl ?_
  refine h_done (d_reg ?_)
  refine h_q hflU rfl ?_
  refine h_act (post := fun p => [DiskT p (newD 1048576)]) rfl (a_does (os' := fun p => [DiskT p (newD 1048576)]) [] 0 (ent_of Try.func5 (by kernel_rfl) rfl) (disk_new 1048576 (by decide)) rfl rfl rfl (fun _ => rfl) rfl rfl rfl) ?_; rintro p
  refine h_q hflU rfl ?_
  refine h_done (d_seq (d_reg ?_))
  refine h_q hflU rfl ?_
  refine h_act (post := fun _ => [DiskT p (newD 1048576)]) rfl (a_call (ent_of Try.func7 (by kernel_rfl) rfl) (fun w hH => hknown_true w) rfl rfl rfl) ?_; rintro ⟨⟩
  refine h_q hflU rfl ?_
  refine h_val rfl (.bool false) (fun b w hb hH => exec_cmp rfl rfl rfl (cmp_neq_f (by decide)) hb) ?_
  refine h_q hflU rfl ?_
  refine h_val rfl (.bool false) (fun b w hb hH => exec_pnil_eql (by kernel_rfl) rfl rfl rfl hb) ?_
  refine h_q hflU rfl ?_
  refine h_done (d_else rfl (d_skip (f_to (d_reg ?_))))
  refine h_q hflU rfl ?_
  refine h_done ?_
  refine d_nilvec 28 2 encHv ?_
  refine d_reg ?_
  refine h_q hflU rfl ?_
  refine h_val rfl (.agg #[.int .u64 0, .int .i64 0]) (fun b w hb hH => exec_build rfl rfl (by kernel_rfl) hb) ?_
  refine h_act (X := Value) (val := fun v : Value => v) (post := fun u1 => [Vec 28 2 encHv u1 ([(hz (0, 0))]), Vec 28 2 encHv (.slice none 0 0) ([]), DiskT p (newD 1048576)]) rfl (by refine a_buildK (e := 28) (t := 34) (k := 2) (enc := encHv) (x := .tmp 34) (c := .agg #[.int .u64 0, .int .i64 0]) ?_ ?_ ?_ (hz (0, 0)) ?_ ?_ ?_; exact sl_api_Hard; exact (by decide); exact okHv; exact rfl; exact rfl; exact rfl) ?_; rintro u1
  refine h_act (post := fun av0 => [Vec 28 2 encHv u1 ([(hz (0, 0))]), Vec 28 2 encHv av0 ([] ++ [hz (0, 0)]), DiskT p (newD 1048576)]) rfl (a_appendK (nb := 16) 1 sl_api_Hard okHv (by kernel_rfl) (by decide) rfl ([(hz (0, 0))]) (fun w hH => hH.vec 0 rfl okHv) (by decide) rfl rfl rfl rfl) ?_; rintro av0
  refine h_q hflU rfl ?_
  refine h_done (d_reg ?_)
  refine h_q hflU rfl ?_
  refine h_done (d_reg ?_)
  refine h_q hflU rfl ?_
  refine h_val rfl (.int .i64 (l0.length : Int)) (fun b w hb hH => e_slen (arg_rd hv0 hH) Try.underlying34 rfl rfl hb) ?_
  refine h_val rfl (.int .i64 (N : Int)) (fun b w hb hH => exec_builtin2 rfl rfl (fun cs => (fun w cs => run_min2 (by omega) _ _ w cs) w cs) hb) ?_
  refine h_q hflU rfl ?_
  refine h_done (d_reg ?_)
  refine h_q hflU rfl ?_
  refine h_val rfl (.int .i64 ((N : Int) + 1)) (fun b w hb hH => exec_ar rfl rfl rfl rfl (IntWalk.i64_in _ (by omega)) hb) ?_
  refine h_act (post := fun _ => [Vec 28 2 encHv u1 ([(hz (0, 0))]), Vec 28 2 encHv av0 ([] ++ [hz (0, 0)]), DiskT p (newD 1048576)]) rfl (a_call (ent_of Try.func10 (by kernel_rfl) rfl) (fun w hH => pick w sy ((N : Int) + 1) hsy (by omega) hS) rfl rfl rfl) ?_; rintro ⟨⟩
  refine h_q hflU rfl ?_
  refine h_done (d_seq (d_reg ?_))
  refine h_q hflU rfl ?_
  refine h_done (d_block ?_)
  refine d_loop (α := Nat × Nat × Value × List HV × DiskD × List HV) (fun ⟨i, a, av, A, d, L⟩ => [(0, v0), (2, .int .i64 keep), (3, .int .i64 torn), (8, .bool false), (9, .pointer (some ⟨p, 0, none⟩)), (11, av), (12, .int .i64 ((a : Nat) : Int)), (13, .int .i64 (N : Int)), (1, .int .i64 (S : Int)), (14, .int .i64 ((i : Nat) : Int))]) (fun ⟨i, a, av, A, d, L⟩ => [Vec 28 2 encHv u1 ([(hz (0, 0))]), Vec 28 2 encHv av (A.map hz), DiskT p d]) (fun ⟨i, a, av, A, d, L⟩ => i ≤ N ∧ KI i a A d L) (fun ⟨i, a, av, A, d, L⟩ => N - i) (0, 0, av0, [(0, 0)], newD 1048576, []) ⟨Nat.zero_le _, ki0⟩ ⟨rfl, rfl, rfl, rfl, rfl, rfl, rfl, rfl, rfl, rfl, trivial⟩ rfl ?_
  rintro ⟨i, a, av, A, d, L⟩ hI
  refine WC2.at_ (env' := [(0, v0), (2, .int .i64 keep), (3, .int .i64 torn), (8, .bool false), (9, .pointer (some ⟨p, 0, none⟩)), (11, av), (12, .int .i64 ((a : Nat) : Int)), (13, .int .i64 (N : Int)), (1, .int .i64 (S : Int)), (14, .int .i64 ((i : Nat) : Int))]) (rs' := [Vec 28 2 encHv u1 ([(hz (0, 0))]), Vec 28 2 encHv av (A.map hz), DiskT p d]) ⟨rfl, rfl, rfl, rfl, rfl, rfl, rfl, rfl, rfl, rfl, trivial⟩ rfl ?_
  obtain ⟨hI1, hK⟩ := hI
  have hAl := hK.len
  have hai := hK.ai
  have hAm : (A.map hz).length = i + 1 := by rw [List.length_map]; exact hAl
  refine d_seq ?_
  have hc : i < N ∨ N ≤ i := by omega
  rcases hc with hi | hi
  · skip
    obtain ⟨y, hil⟩ : ∃ y, l0[i]? = some y := ⟨_, List.getElem?_eq_getElem (by omega)⟩
    have hy := ho0 y (List.mem_of_getElem? hil)
    refine d_reg ?_
    refine h_q hflU rfl ?_
    refine h_val rfl (.bool true) (fun b w hb hH => exec_cmp rfl rfl rfl (cmp_lss_t (by omega)) hb) ?_
    refine h_done (d_then rfl (d_skip (f_to (d_seq (d_block (d_seq ?_))))))
    rcases Classical.em (i = S) with hiS | hiS
    · skip
      obtain ⟨d1, hsyn, hK1⟩ := hK.sync
      obtain ⟨d', L', hsv, hK3⟩ := hK1.save (by omega) (shH_ok y).1
      refine d_reg ?_
      refine h_q hflU rfl ?_
      refine h_val rfl (.bool true) (fun b w hb hH => exec_cmp rfl rfl rfl (cmp_eql_t (by omega)) hb) ?_
      refine h_done (d_then rfl (d_seq (d_reg ?_)))
      refine h_q hflU rfl ?_
      refine h_act (post := fun _ => [Vec 28 2 encHv u1 ([(hz (0, 0))]), Vec 28 2 encHv av (A.map hz), DiskT p d1]) rfl (a_does (os' := fun _ => [Vec 28 2 encHv u1 ([(hz (0, 0))]), Vec 28 2 encHv av (A.map hz), DiskT p d1]) [2] 0 (ent_of Try.func11 (by kernel_rfl) rfl) (disk_sync hK.fit.fit hsyn) rfl rfl rfl (fun _ => rfl) rfl rfl rfl) ?_; rintro ⟨⟩
      refine h_val rfl (.bool false) (fun b w hb hH => exec_cmp rfl rfl rfl (cmp_neq_f (by decide)) hb) ?_
      refine h_done (d_else rfl (d_skip (f_to (d_reg1 ?_))))
      refine h_q hflU rfl ?_
      refine h_val rfl (.int .i64 ((A.map hz).length : Int)) (fun b w hb hH => e_vlen 1 Try.underlying34 rfl rfl rfl hH hb) ?_
      refine h_val rfl (.int .i64 ((i : Nat) : Int)) (fun b w hb hH => exec_ar rfl rfl rfl rfl (by rw [IntWalk.i64_in _ (by omega)]; omega) hb) ?_
      refine h_q hflU rfl ?_
      refine h_nil (f_to (d_reg ?_))
      refine h_q hflU rfl ?_
      refine h_val rfl (elp v0 (i * 2)) (fun b w hb hH => e_sidx okHv (arg_rd hv0 hH) sl_api_Hard (j := i) hil rfl rfl rfl hb) ?_
      refine h_val rfl (.agg (encHv y).toArray) (fun b w hb hH => e_sagg okHv (by decide) (arg_rd hv0 hH) (j := i) hil ty_api_Hard rfl rfl hb) ?_
      refine h_val rfl (.agg #[.int .i64 0, .int .u64 y.1, .int .i64 y.2, .bool true, .int .i64 0, .int .i64 0, .int .i64 0]) (fun b w hb hH => exec_build rfl rfl (by kernel_rfl) hb) ?_
      refine h_act (post := fun _ => [Vec 28 2 encHv u1 ([(hz (0, 0))]), Vec 28 2 encHv av (A.map hz), DiskT p d1]) rfl (a_call (ent_of Try.func12 (by kernel_rfl) rfl) (fun w hH => hshaped_near w y hy) rfl rfl rfl) ?_; rintro ⟨⟩
      refine h_act (post := fun g15 => [cell g15 28 #[.int .u64 0, .int .i64 0], Vec 28 2 encHv u1 ([(hz (0, 0))]), Vec 28 2 encHv av (A.map hz), DiskT p d1]) rfl (a_alloc ze_api_Hard rfl) ?_; rintro g15
      refine h_acts (post := fun _ => [cell g15 28 #[.int .u64 (((shH y).1 : Nat) : Int), .int .i64 (((shH y).2 : Nat) : Int)], Vec 28 2 encHv u1 ([(hz (0, 0))]), Vec 28 2 encHv av (A.map hz), DiskT p d1]) rfl rfl (a_store 0 (v := .agg #[.int .u64 (((shH y).1 : Nat) : Int), .int .i64 (((shH y).2 : Nat) : Int)]) #[.int .u64 (((shH y).1 : Nat) : Int), .int .i64 (((shH y).2 : Nat) : Int)] ty_api_Hard.2 rfl rfl rfl rfl rfl rfl rfl rfl rfl) ?_; rintro ⟨⟩
      refine h_done (d_seq (d_reg ?_))
      refine h_q hflU rfl ?_
      refine h_val rfl (.agg #[.int .u64 (((shH y).1 : Nat) : Int), .int .i64 (((shH y).2 : Nat) : Int)]) (fun b w hb hH => exec_load rfl rfl (reads_agg (cs := [.int .u64 (((shH y).1 : Nat) : Int), .int .i64 (((shH y).2 : Nat) : Int)]) ty_api_Hard rfl) (hH.row 0 rfl) hb) ?_
      refine h_act (post := fun _ => [cell g15 28 #[.int .u64 (((shH y).1 : Nat) : Int), .int .i64 (((shH y).2 : Nat) : Int)], Vec 28 2 encHv u1 ([(hz (0, 0))]), Vec 28 2 encHv av (A.map hz), DiskT p d']) rfl (a_does (os' := fun _ => [cell g15 28 #[.int .u64 (((shH y).1 : Nat) : Int), .int .i64 (((shH y).2 : Nat) : Int)], Vec 28 2 encHv u1 ([(hz (0, 0))]), Vec 28 2 encHv av (A.map hz), DiskT p d']) [3] 0 (ent_of Try.func8 (by kernel_rfl) rfl) (hsave_does (shH_ok y).1 (fitK_mono hK1.fit (by omega)) hsv) rfl rfl rfl (fun _ => rfl) rfl rfl rfl) ?_; rintro ⟨⟩
      refine h_val rfl (.bool false) (fun b w hb hH => exec_cmp rfl rfl rfl (cmp_neq_f (by decide)) hb) ?_
      refine h_done (d_else rfl (d_skip (f_to (d_reg1 ?_))))
      refine h_q hflU rfl ?_
      refine h_val rfl (.agg #[.int .u64 (((shH y).1 : Nat) : Int), .int .i64 (((shH y).2 : Nat) : Int)]) (fun b w hb hH => exec_load rfl rfl (reads_agg (cs := [.int .u64 (((shH y).1 : Nat) : Int), .int .i64 (((shH y).2 : Nat) : Int)]) ty_api_Hard rfl) (hH.row 0 rfl) hb) ?_
      refine h_act (X := Value) (val := fun v : Value => v) (post := fun u2 => [Vec 28 2 encHv u2 ([(hz (shH y))]), cell g15 28 #[.int .u64 (((shH y).1 : Nat) : Int), .int .i64 (((shH y).2 : Nat) : Int)], Vec 28 2 encHv u1 ([(hz (0, 0))]), Vec 28 2 encHv av (A.map hz), DiskT p d']) rfl (by refine a_buildK (e := 28) (t := 34) (k := 2) (enc := encHv) (x := .tmp 69) (c := .agg #[.int .u64 (((shH y).1 : Nat) : Int), .int .i64 (((shH y).2 : Nat) : Int)]) ?_ ?_ ?_ (hz (shH y)) ?_ ?_ ?_; exact sl_api_Hard; exact (by decide); exact okHv; exact rfl; exact rfl; exact rfl) ?_; rintro u2
      refine h_act (post := fun av2 => [Vec 28 2 encHv u2 ([(hz (shH y))]), cell g15 28 #[.int .u64 (((shH y).1 : Nat) : Int), .int .i64 (((shH y).2 : Nat) : Int)], Vec 28 2 encHv u1 ([(hz (0, 0))]), Vec 28 2 encHv av2 ((A ++ [shH y]).map hz), DiskT p d']) rfl (a_appendK (nb := 16) 3 sl_api_Hard okHv (by kernel_rfl) (by decide) rfl ([(hz (shH y))]) (fun w hH => hH.vec 0 rfl okHv) (by simp only [List.length_map, List.length_cons, List.length_nil]; omega) rfl rfl rfl (List.map_append (f := hz) (l₁ := A) (l₂ := [shH y])).symm) ?_; rintro av2
      refine h_q hflU rfl ?_
      refine h_nil (f_block (f_to (d_reg1 ?_)))
      refine h_q hflU rfl ?_
      refine h_val rfl (.int .i64 ((i + 1 : Nat) : Int)) (fun b w hb hH => exec_ar rfl rfl rfl rfl (by rw [IntWalk.i64_in _ (by omega)]; omega) hb) ?_
      refine h_q hflU rfl ?_
      refine h_nil ?_
      exact f_again (i + 1, i, av2, A ++ [shH y], d', L') 2 ⟨hi, hK3⟩ (show N - (i + 1) < N - i by omega) ⟨rfl, rfl, rfl, rfl, rfl, rfl, rfl, rfl, rfl, rfl, trivial⟩ rfl
    · skip
      obtain ⟨d', L', hsv, hK3⟩ := hK.save (by omega) (shH_ok y).1
      refine d_reg ?_
      refine h_q hflU rfl ?_
      refine h_val rfl (.bool false) (fun b w hb hH => exec_cmp rfl rfl rfl (cmp_eql_f (by omega)) hb) ?_
      refine h_done (d_else rfl (d_skip (f_to (d_reg ?_))))
      refine h_q hflU rfl ?_
      refine h_val rfl (elp v0 (i * 2)) (fun b w hb hH => e_sidx okHv (arg_rd hv0 hH) sl_api_Hard (j := i) hil rfl rfl rfl hb) ?_
      refine h_val rfl (.agg (encHv y).toArray) (fun b w hb hH => e_sagg okHv (by decide) (arg_rd hv0 hH) (j := i) hil ty_api_Hard rfl rfl hb) ?_
      refine h_val rfl (.agg #[.int .i64 0, .int .u64 y.1, .int .i64 y.2, .bool true, .int .i64 0, .int .i64 0, .int .i64 0]) (fun b w hb hH => exec_build rfl rfl (by kernel_rfl) hb) ?_
      refine h_act (post := fun _ => [Vec 28 2 encHv u1 ([(hz (0, 0))]), Vec 28 2 encHv av (A.map hz), DiskT p d]) rfl (a_call (ent_of Try.func12 (by kernel_rfl) rfl) (fun w hH => hshaped_near w y hy) rfl rfl rfl) ?_; rintro ⟨⟩
      refine h_act (post := fun g15 => [cell g15 28 #[.int .u64 0, .int .i64 0], Vec 28 2 encHv u1 ([(hz (0, 0))]), Vec 28 2 encHv av (A.map hz), DiskT p d]) rfl (a_alloc ze_api_Hard rfl) ?_; rintro g15
      refine h_acts (post := fun _ => [cell g15 28 #[.int .u64 (((shH y).1 : Nat) : Int), .int .i64 (((shH y).2 : Nat) : Int)], Vec 28 2 encHv u1 ([(hz (0, 0))]), Vec 28 2 encHv av (A.map hz), DiskT p d]) rfl rfl (a_store 0 (v := .agg #[.int .u64 (((shH y).1 : Nat) : Int), .int .i64 (((shH y).2 : Nat) : Int)]) #[.int .u64 (((shH y).1 : Nat) : Int), .int .i64 (((shH y).2 : Nat) : Int)] ty_api_Hard.2 rfl rfl rfl rfl rfl rfl rfl rfl rfl) ?_; rintro ⟨⟩
      refine h_done (d_seq (d_reg ?_))
      refine h_q hflU rfl ?_
      refine h_val rfl (.agg #[.int .u64 (((shH y).1 : Nat) : Int), .int .i64 (((shH y).2 : Nat) : Int)]) (fun b w hb hH => exec_load rfl rfl (reads_agg (cs := [.int .u64 (((shH y).1 : Nat) : Int), .int .i64 (((shH y).2 : Nat) : Int)]) ty_api_Hard rfl) (hH.row 0 rfl) hb) ?_
      refine h_act (post := fun _ => [cell g15 28 #[.int .u64 (((shH y).1 : Nat) : Int), .int .i64 (((shH y).2 : Nat) : Int)], Vec 28 2 encHv u1 ([(hz (0, 0))]), Vec 28 2 encHv av (A.map hz), DiskT p d']) rfl (a_does (os' := fun _ => [cell g15 28 #[.int .u64 (((shH y).1 : Nat) : Int), .int .i64 (((shH y).2 : Nat) : Int)], Vec 28 2 encHv u1 ([(hz (0, 0))]), Vec 28 2 encHv av (A.map hz), DiskT p d']) [3] 0 (ent_of Try.func8 (by kernel_rfl) rfl) (hsave_does (shH_ok y).1 (fitK_mono hK.fit (by omega)) hsv) rfl rfl rfl (fun _ => rfl) rfl rfl rfl) ?_; rintro ⟨⟩
      refine h_val rfl (.bool false) (fun b w hb hH => exec_cmp rfl rfl rfl (cmp_neq_f (by decide)) hb) ?_
      refine h_done (d_else rfl (d_skip (f_to (d_reg1 ?_))))
      refine h_q hflU rfl ?_
      refine h_val rfl (.agg #[.int .u64 (((shH y).1 : Nat) : Int), .int .i64 (((shH y).2 : Nat) : Int)]) (fun b w hb hH => exec_load rfl rfl (reads_agg (cs := [.int .u64 (((shH y).1 : Nat) : Int), .int .i64 (((shH y).2 : Nat) : Int)]) ty_api_Hard rfl) (hH.row 0 rfl) hb) ?_
      refine h_act (X := Value) (val := fun v : Value => v) (post := fun u3 => [Vec 28 2 encHv u3 ([(hz (shH y))]), cell g15 28 #[.int .u64 (((shH y).1 : Nat) : Int), .int .i64 (((shH y).2 : Nat) : Int)], Vec 28 2 encHv u1 ([(hz (0, 0))]), Vec 28 2 encHv av (A.map hz), DiskT p d']) rfl (by refine a_buildK (e := 28) (t := 34) (k := 2) (enc := encHv) (x := .tmp 69) (c := .agg #[.int .u64 (((shH y).1 : Nat) : Int), .int .i64 (((shH y).2 : Nat) : Int)]) ?_ ?_ ?_ (hz (shH y)) ?_ ?_ ?_; exact sl_api_Hard; exact (by decide); exact okHv; exact rfl; exact rfl; exact rfl) ?_; rintro u3
      refine h_act (post := fun av2 => [Vec 28 2 encHv u3 ([(hz (shH y))]), cell g15 28 #[.int .u64 (((shH y).1 : Nat) : Int), .int .i64 (((shH y).2 : Nat) : Int)], Vec 28 2 encHv u1 ([(hz (0, 0))]), Vec 28 2 encHv av2 ((A ++ [shH y]).map hz), DiskT p d']) rfl (a_appendK (nb := 16) 3 sl_api_Hard okHv (by kernel_rfl) (by decide) rfl ([(hz (shH y))]) (fun w hH => hH.vec 0 rfl okHv) (by simp only [List.length_map, List.length_cons, List.length_nil]; omega) rfl rfl rfl (List.map_append (f := hz) (l₁ := A) (l₂ := [shH y])).symm) ?_; rintro av2
      refine h_q hflU rfl ?_
      refine h_nil (f_block (f_to (d_reg1 ?_)))
      refine h_q hflU rfl ?_
      refine h_val rfl (.int .i64 ((i + 1 : Nat) : Int)) (fun b w hb hH => exec_ar rfl rfl rfl rfl (by rw [IntWalk.i64_in _ (by omega)]; omega) hb) ?_
      refine h_q hflU rfl ?_
      refine h_nil ?_
      exact f_again (i + 1, a, av2, A ++ [shH y], d', L') 2 ⟨hi, hK3⟩ (show N - (i + 1) < N - i by omega) ⟨rfl, rfl, rfl, rfl, rfl, rfl, rfl, rfl, rfl, rfl, trivial⟩ rfl
  · skip
    obtain rfl : i = N := by omega
    obtain ⟨kf, kr, dE, x, j, hop, haj, hAj⟩ := hK.crash keep torn
    obtain ⟨dc, hdc⟩ : ∃ dc, crashD d keep torn = dc := ⟨_, rfl⟩
    rw [hdc] at kf kr hop
    obtain ⟨kk, hkk⟩ : ∃ k, keepD d keep = k := ⟨_, rfl⟩
    have hjl : j < A.length := (List.getElem?_eq_some_iff.1 hAj).1
    refine d_reg ?_
    refine h_q hflU rfl ?_
    refine h_val rfl (.bool false) (fun b w hb hH => exec_cmp rfl rfl rfl (cmp_lss_f (by omega)) hb) ?_
    refine h_done (d_else rfl (d_exit (f_then_exit (f_then_exit (f_block_exit (f_to (d_reg ?_)))))))
    refine h_q hflU rfl ?_
    refine h_act (post := fun _ => [Vec 28 2 encHv u1 ([(hz (0, 0))]), Vec 28 2 encHv av (A.map hz), DiskT p dc]) rfl (a_does (os' := fun _ => [Vec 28 2 encHv u1 ([(hz (0, 0))]), Vec 28 2 encHv av (A.map hz), DiskT p dc]) [2] 0 (ent_of Try.func13 (by kernel_rfl) rfl) (disk_crash hK.fit.fit hkp htn hkk hdc) rfl rfl rfl (fun _ => rfl) rfl rfl rfl) ?_; rintro ⟨⟩
    refine h_done (d_reg ?_)
    refine h_q hflU rfl ?_
    refine h_act (post := fun _ => [Vec 28 2 encHv u1 ([(hz (0, 0))]), Vec 28 2 encHv av (A.map hz), DiskT p dE]) rfl (a_does (os' := fun _ => [Vec 28 2 encHv u1 ([(hz (0, 0))]), Vec 28 2 encHv av (A.map hz), DiskT p dE]) [2] 0 (ent_of Try.func6 (by kernel_rfl) rfl) (hopen_does (fitK_mono kf (by decide)) kr hop) rfl rfl rfl (fun _ => rfl) rfl rfl rfl) ?_; rintro ⟨⟩
    refine h_q hflU rfl ?_
    refine h_act (post := fun g16 => [cell g16 28 #[.int .u64 0, .int .i64 0], Vec 28 2 encHv u1 ([(hz (0, 0))]), Vec 28 2 encHv av (A.map hz), DiskT p dE]) rfl (a_alloc ze_api_Hard rfl) ?_; rintro g16
    refine h_acts (post := fun _ => [cell g16 28 #[.int .u64 ((x.1 : Nat) : Int), .int .i64 ((x.2 : Nat) : Int)], Vec 28 2 encHv u1 ([(hz (0, 0))]), Vec 28 2 encHv av (A.map hz), DiskT p dE]) rfl rfl (a_store 0 (v := .agg #[.int .u64 ((x.1 : Nat) : Int), .int .i64 ((x.2 : Nat) : Int)]) #[.int .u64 ((x.1 : Nat) : Int), .int .i64 ((x.2 : Nat) : Int)] ty_api_Hard.2 rfl rfl rfl rfl rfl rfl rfl rfl rfl) ?_; rintro ⟨⟩
    refine h_q hflU rfl ?_
    refine h_done (d_seq (d_reg ?_))
    refine h_q hflU rfl ?_
    refine h_val rfl (.bool false) (fun b w hb hH => exec_cmp rfl rfl rfl (cmp_neq_f (by decide)) hb) ?_
    refine h_done (d_else rfl (d_skip (f_to (d_seq (d_reg ?_)))))
    refine h_q hflU rfl ?_
    refine h_done (d_block ?_)
    refine d_loop (α := Nat) (fun k => [(8, .bool false), (11, av), (16, .pointer (some ⟨g16, 0, none⟩)), (18, .int .i64 ((k : Nat) : Int))]) (fun k => [cell g16 28 #[.int .u64 ((x.1 : Nat) : Int), .int .i64 ((x.2 : Nat) : Int)], Vec 28 2 encHv u1 ([(hz (0, 0))]), Vec 28 2 encHv av (A.map hz), DiskT p dE]) (fun k => a ≤ k ∧ k ≤ j) (fun k => j - k) a ⟨Nat.le_refl _, haj⟩ ⟨rfl, rfl, rfl, rfl, trivial⟩ rfl ?_
    rintro k hJ
    refine WC2.at_ (env' := [(8, .bool false), (11, av), (16, .pointer (some ⟨g16, 0, none⟩)), (18, .int .i64 ((k : Nat) : Int))]) (rs' := [cell g16 28 #[.int .u64 ((x.1 : Nat) : Int), .int .i64 ((x.2 : Nat) : Int)], Vec 28 2 encHv u1 ([(hz (0, 0))]), Vec 28 2 encHv av (A.map hz), DiskT p dE]) ⟨rfl, rfl, rfl, rfl, trivial⟩ rfl ?_
    have hJ1 := hJ.1
    have hJ2 := hJ.2
    obtain ⟨yk, hAk⟩ : ∃ y, A[k]? = some y := ⟨_, List.getElem?_eq_getElem (by omega)⟩
    have hAkz : (A.map hz)[k]? = some (hz yk) := by rw [List.getElem?_map, hAk]; rfl
    refine d_seq (d_reg ?_)
    refine h_q hflU rfl ?_
    refine h_val rfl (.int .i64 ((A.map hz).length : Int)) (fun b w hb hH => e_vlen 2 Try.underlying34 rfl rfl rfl hH hb) ?_
    refine h_val rfl (.bool true) (fun b w hb hH => exec_cmp rfl rfl rfl (cmp_lss_t (by omega)) hb) ?_
    refine h_done (d_then rfl (d_skip (f_to (d_seq (d_block ?_)))))
    rcases Classical.em (yk = x) with he | he
    · skip
      refine d_seq ?_
      refine d_parS 6 0 [⟨.quiet, [], fun _ => av, []⟩, ⟨.quiet, [], fun _ => .int .i64 ((k : Nat) : Int), []⟩, ⟨.quiet, [], fun _ => elp av (k * 2), [0, 1]⟩, ⟨.quiet, [], fun _ => .agg (encHv (hz yk)).toArray, [2]⟩, ⟨.quiet, [], fun _ => .agg #[.int .u64 ((x.1 : Nat) : Int), .int .i64 ((x.2 : Nat) : Int)], []⟩, ⟨.quiet, [], fun _ => .bool true, [3, 4]⟩] [(8, .bool false), (11, av), (16, .pointer (some ⟨g16, 0, none⟩)), (18, .int .i64 ((k : Nat) : Int)), (84, .int .i64 ((k : Nat) : Int)), (85, av), (86, .int .i64 ((A.map hz).length : Int)), (87, .bool true)] (fun _ => [cell g16 28 #[.int .u64 ((x.1 : Nat) : Int), .int .i64 ((x.2 : Nat) : Int)], Vec 28 2 encHv u1 ([(hz (0, 0))]), Vec 28 2 encHv av (A.map hz), DiskT p dE]) (by kernel_rfl) (by kernel_rfl) ⟨rfl, rfl, rfl, rfl, rfl, rfl, rfl, rfl, trivial⟩ rfl ?_ ?_
      · skip
        refine s_cons (by exact ⟨rfl, fun b w hH hb => exec_q1 hflU rfl hb⟩) ?_
        refine s_cons (by exact ⟨rfl, fun b w hH hb => exec_q1 hflU rfl hb⟩) ?_
        refine s_cons (by exact ⟨rfl, fun b w hH hb => e_vidx 2 sl_api_Hard okHv rfl k (by omega) rfl rfl rfl hH hb⟩) ?_
        refine s_cons (by exact ⟨rfl, fun b w hH hb => e_sagg okHv (by decide) (hH.vec 2 rfl okHv) (j := k) hAkz ty_api_Hard rfl rfl hb⟩) ?_
        refine s_cons (by exact ⟨rfl, fun b w hH hb => exec_load rfl rfl (reads_agg (cs := [.int .u64 ((x.1 : Nat) : Int), .int .i64 ((x.2 : Nat) : Int)]) ty_api_Hard rfl) (hH.row 0 rfl) hb⟩) ?_
        refine s_cons (by exact ⟨rfl, fun b w hH hb => exec_eqs (eqHz yk x true (by simp [he])) rfl rfl rfl hb⟩) ?_
        exact s_nil
      refine WL2.keep (env' := [(8, .bool false), (11, av), (16, .pointer (some ⟨g16, 0, none⟩)), (18, .int .i64 ((k : Nat) : Int)), (84, .int .i64 ((k : Nat) : Int)), (85, av), (86, .int .i64 ((A.map hz).length : Int)), (87, .bool true), (90, av), (91, .int .i64 ((k : Nat) : Int)), (92, elp av (k * 2)), (93, .agg (encHv (hz yk)).toArray), (94, .agg #[.int .u64 ((x.1 : Nat) : Int), .int .i64 ((x.2 : Nat) : Int)]), (95, .bool true)]) ⟨rfl, rfl, rfl, rfl, rfl, rfl, rfl, rfl, rfl, rfl, rfl, rfl, rfl, rfl, trivial⟩ ?_
      refine h_nil (f_to (d_then rfl (d_reg ?_)))
      refine h_q hflU rfl ?_
      refine h_done (d_ret (f_block_ret (f_then_ret (f_then_ret (f_block_ret (f_then_ret ?_))))))
      exact f_fin1 (.tmp rfl) (fun w h => ⟨rfl, below0 h.up⟩) rfl
    · skip
      have hkj : k ≠ j := fun e => he (Option.some.inj ((hAk.symm.trans (e ▸ rfl)).trans hAj))
      refine d_seq ?_
      refine d_parS 6 0 [⟨.quiet, [], fun _ => av, []⟩, ⟨.quiet, [], fun _ => .int .i64 ((k : Nat) : Int), []⟩, ⟨.quiet, [], fun _ => elp av (k * 2), [0, 1]⟩, ⟨.quiet, [], fun _ => .agg (encHv (hz yk)).toArray, [2]⟩, ⟨.quiet, [], fun _ => .agg #[.int .u64 ((x.1 : Nat) : Int), .int .i64 ((x.2 : Nat) : Int)], []⟩, ⟨.quiet, [], fun _ => .bool false, [3, 4]⟩] [(8, .bool false), (11, av), (16, .pointer (some ⟨g16, 0, none⟩)), (18, .int .i64 ((k : Nat) : Int)), (84, .int .i64 ((k : Nat) : Int)), (85, av), (86, .int .i64 ((A.map hz).length : Int)), (87, .bool true)] (fun _ => [cell g16 28 #[.int .u64 ((x.1 : Nat) : Int), .int .i64 ((x.2 : Nat) : Int)], Vec 28 2 encHv u1 ([(hz (0, 0))]), Vec 28 2 encHv av (A.map hz), DiskT p dE]) (by kernel_rfl) (by kernel_rfl) ⟨rfl, rfl, rfl, rfl, rfl, rfl, rfl, rfl, trivial⟩ rfl ?_ ?_
      · skip
        refine s_cons (by exact ⟨rfl, fun b w hH hb => exec_q1 hflU rfl hb⟩) ?_
        refine s_cons (by exact ⟨rfl, fun b w hH hb => exec_q1 hflU rfl hb⟩) ?_
        refine s_cons (by exact ⟨rfl, fun b w hH hb => e_vidx 2 sl_api_Hard okHv rfl k (by omega) rfl rfl rfl hH hb⟩) ?_
        refine s_cons (by exact ⟨rfl, fun b w hH hb => e_sagg okHv (by decide) (hH.vec 2 rfl okHv) (j := k) hAkz ty_api_Hard rfl rfl hb⟩) ?_
        refine s_cons (by exact ⟨rfl, fun b w hH hb => exec_load rfl rfl (reads_agg (cs := [.int .u64 ((x.1 : Nat) : Int), .int .i64 ((x.2 : Nat) : Int)]) ty_api_Hard rfl) (hH.row 0 rfl) hb⟩) ?_
        refine s_cons (by exact ⟨rfl, fun b w hH hb => exec_eqs (eqHz yk x false (by simp [he])) rfl rfl rfl hb⟩) ?_
        exact s_nil
      refine WL2.keep (env' := [(8, .bool false), (11, av), (16, .pointer (some ⟨g16, 0, none⟩)), (18, .int .i64 ((k : Nat) : Int)), (84, .int .i64 ((k : Nat) : Int)), (85, av), (86, .int .i64 ((A.map hz).length : Int)), (87, .bool true), (90, av), (91, .int .i64 ((k : Nat) : Int)), (92, elp av (k * 2)), (93, .agg (encHv (hz yk)).toArray), (94, .agg #[.int .u64 ((x.1 : Nat) : Int), .int .i64 ((x.2 : Nat) : Int)]), (95, .bool false)]) ⟨rfl, rfl, rfl, rfl, rfl, rfl, rfl, rfl, rfl, rfl, rfl, rfl, rfl, rfl, trivial⟩ ?_
      refine h_nil (f_to (d_else rfl (d_skip (f_block (f_to (d_reg1 ?_))))))
      refine h_q hflU rfl ?_
      refine h_val rfl (.int .i64 ((k + 1 : Nat) : Int)) (fun b w hb hH => exec_ar rfl rfl rfl rfl (by rw [IntWalk.i64_in _ (by omega)]; omega) hb) ?_
      refine h_q hflU rfl ?_
      refine h_nil ?_
      exact f_again (k + 1) 0 ⟨by omega, by omega⟩ (show j - (k + 1) < j - k by omega) ⟨rfl, rfl, rfl, rfl, trivial⟩ rfl
end Go.Proofs.Ytnknboibmifacaa.Sep

namespace Go.Proofs.Ytnknboibmifacaa.Sep
open Go.RowKit
open Go.Proofs.Ytnknboibmifacaa.Mem (Dist Blk Chg below0)
open Go.ChangeShapes Go.WideShapes Go.ChangeAt
section
variable {H : Type} {enc : TypeId × Value → H} {W : World} {base b0 : Nat} {r : Reach} {spare : Nat → Bool} {held : Bool} {v : Value} {d : DataW H} {p : List MemPlace}
theorem fld1h {P : Program} {n j : Nat} {f : Field} {cs : List Value} {ys : List (DataW H × List MemPlace)} {a : Value} {y : DataW H × List MemPlace} (hc : P.cellsOf f.type = 1) (ho : f.offset = j) (h : DataW.trod enc P W base spare held n f.type ((cs.drop f.offset).take (P.cellsOf f.type)) = ys[j]?) (ha : cs[j]? = some a) (hy : ys[j]? = some y) : DataW.trod enc P W base spare held n f.type [a] = some y := by
  rw [ho, hc, hy] at h
  obtain ⟨hj, ha⟩ := List.getElem?_eq_some_iff.1 ha
  rw [List.drop_eq_getElem_cons hj, ha] at h
  exact h
set_option maxRecDepth 100000 in
theorem open_hards (hval : Value.okWide Try.prog W r b0 34 v) (h : DataW.Trod enc Try.prog W base spare held 34 v d p) : ∃ A c, ∃ l : List (Int × Int), v = .slice A l.length c ∧ l.length ≤ maxLen ∧ SlRd W 2 v l.length (flat encHv l) ∧ ∀ y ∈ l, okHr y :=
  open_slice okHv (by decide) Try.underlying34 (by kernel_rfl) (fun n cs x hcl h => by
    obtain ⟨ys, n', _, hx, _, hyl, hf⟩ := DataW.trod_struct Try.underlying28 h
    have hyl : ys.length = 2 := hyl
    match cs, hcl with
    | [a0, a1], _ =>
      obtain ⟨y0, g0⟩ : ∃ y, ys[0]? = some y := ⟨_, List.getElem?_eq_getElem (by omega)⟩
      obtain ⟨y1, g1⟩ : ∃ y, ys[1]? = some y := ⟨_, List.getElem?_eq_getElem (by omega)⟩
      have h0 := fld1h (by kernel_rfl) rfl (hf 0 _ rfl) rfl g0
      have h1 := fld1h (by kernel_rfl) rfl (hf 1 _ rfl) rfl g1
      obtain ⟨z0, e0, _, w0⟩ := DataW.trod_int Try.underlying26 h0
      obtain ⟨z1, e1, _, w1⟩ := DataW.trod_int Try.underlying3 h1
      simp at e0 e1
      subst e0; subst e1
      exact ⟨(z0, z1), rfl, wf_u64 w0, wf_i64 w1⟩) hval h
end
end Go.Proofs.Ytnknboibmifacaa.Sep
