/-
  HdC
-/
import Derived.Test.YtnknboibmifacaaAE01
import Derived.Test.YtnknboibmifacaaAF01
import Derived.Test.YtnknboibmifacaaAJ02
set_option linter.unusedSimpArgs false
set_option linter.unusedVariables false

namespace Go.Proofs.Ytnknboibmifacaa.Sep
open Go.RowKit
open Go.Proofs.Ytnknboibmifacaa.Mem (Dist Blk Chg below0)

theorem rm_two {d : DiskD} {d1 : DiskD} {e : Nat} (h : rmNewD d = (d1, e)) : (rmNewD d).1 = d1 ∧ (rmNewD d).2 = e := by rw [h]; exact ⟨rfl, rfl⟩
set_option maxRecDepth 100000 in
theorem hopen_does {p : Nat} {d d' : DiskD} {z : HV} {e : Nat} (hf : d.fitK 2) (hbl : ∀ b, (readD (rmNewD d).1 hardN).getD [] = b → b.length ≤ 137438953472) (h : openHD d = (d', z, e)) : Does Try.prog 6 #[.pointer (some ⟨p, 0, none⟩)] [DiskT p d] (fun (_ : Unit) => .tuple #[.agg #[.int .u64 ((z.1 : Nat) : Int), .int .i64 ((z.2 : Nat) : Int)], .int .i64 (e : Int)]) (fun (_ : Unit) => [DiskT p d']) := by
  refine d_ins (args := [.pointer (some ⟨p, 0, none⟩)]) 41 Try.func6 rfl rfl rfl ?_; intro w rs
  obtain ⟨⟨d1, e1⟩, hrm⟩ : ∃ R, rmNewD d = R := ⟨_, rfl⟩
  obtain ⟨hr1, hr2⟩ := rm_two hrm
  have hf1 : d1.fitK 1 := by rw [← hr1]; exact fitK_rm hf
  obtain ⟨b, hb⟩ : ∃ b, (readD d1 hardN).getD [] = b := ⟨_, rfl⟩
  obtain ⟨⟨z1, n1⟩, hlat⟩ : ∃ R, latB b = R := ⟨_, rfl⟩
  obtain ⟨⟨d2, e2⟩, hcut⟩ : ∃ R, cutD d1 hardN (n1 : Int) = R := ⟨_, rfl⟩
  unfold openHD at h
  rw [hr1, hr2, hb, hlat] at h
  simp only at h
  rw [hcut] at h
  simp only at h
  obtain ⟨ok, hok⟩ : ∃ ok, (readD d1 hardN).isSome = ok := ⟨_, rfl⟩
  replace hbl : b.length ≤ 137438953472 := hbl b (by rw [hr1]; exact hb)
  refine d_reg ?_
  refine h_q hflU rfl ?_
  refine h_act (post := fun g2 => [cell g2 28 #[.int .u64 0, .int .i64 0], DiskT p d]) rfl (a_alloc ze_api_Hard rfl) ?_; rintro g2
  refine h_q hflU rfl ?_
  refine h_done (d_seq (d_reg ?_))
  refine h_q hflU rfl ?_
  refine h_val rfl (.bool false) (fun b w hb hH => exec_pnil_eql (by kernel_rfl) rfl rfl rfl hb) ?_
  refine h_done (d_else rfl (d_skip (f_to (d_seq (d_reg ?_)))))
  refine h_q hflU rfl ?_
  refine h_act (post := fun _ => [cell g2 28 #[.int .u64 0, .int .i64 0], DiskT p d1]) rfl (a_does (os' := fun _ => [cell g2 28 #[.int .u64 0, .int .i64 0], DiskT p d1]) [1] 0 (ent_of Try.func15 (by kernel_rfl) rfl) (rmnew_does hf.fit hrm) rfl rfl rfl (fun _ => rfl) rfl rfl rfl) ?_; rintro ⟨⟩
  refine h_q hflU rfl ?_
  refine h_done ?_
  rcases Nat.eq_zero_or_pos e1 with he1 | he1
  · skip
    rw [if_neg (by omega)] at h
    refine d_reg ?_
    refine h_q hflU rfl ?_
    refine h_val rfl (.bool false) (fun b w hb hH => exec_cmp rfl rfl rfl (cmp_neq_f (by omega)) hb) ?_
    refine h_done (d_else rfl (d_skip (f_to (d_reg ?_))))
    refine h_q hflU rfl ?_
    refine h_act (post := fun bv => [Vec 5 1 encB bv b, cell g2 28 #[.int .u64 0, .int .i64 0], DiskT p d1]) rfl (a_does (os' := fun bv => [Vec 5 1 encB bv b, cell g2 28 #[.int .u64 0, .int .i64 0], DiskT p d1]) [1] 0 (ent_of Try.func16 (by kernel_rfl) rfl) (disk_read (n := hardN) hf1.fit hok hb) rfl rfl rfl (fun _ => rfl) rfl rfl rfl) ?_; rintro bv
    refine h_q hflU rfl ?_
    refine h_done (d_reg ?_)
    refine h_q hflU rfl ?_
    refine h_act (post := fun _ => [Vec 5 1 encB bv b, cell g2 28 #[.int .u64 0, .int .i64 0], DiskT p d1]) rfl (a_does (os' := fun _ => [Vec 5 1 encB bv b, cell g2 28 #[.int .u64 0, .int .i64 0], DiskT p d1]) [0] 0 (ent_of Try.func17 (by kernel_rfl) rfl) (latest_does (y := b) rd8_vec hbl hlat) rfl rfl rfl (fun _ => rfl) rfl rfl rfl) ?_; rintro ⟨⟩
    refine h_q hflU rfl ?_
    refine h_act (post := fun g7 => [cell g7 28 #[.int .u64 0, .int .i64 0], Vec 5 1 encB bv b, cell g2 28 #[.int .u64 0, .int .i64 0], DiskT p d1]) rfl (a_alloc ze_api_Hard rfl) ?_; rintro g7
    refine h_acts (post := fun _ => [cell g7 28 #[.int .u64 ((z1.1 : Nat) : Int), .int .i64 ((z1.2 : Nat) : Int)], Vec 5 1 encB bv b, cell g2 28 #[.int .u64 0, .int .i64 0], DiskT p d1]) rfl rfl (a_store 0 (v := .agg #[.int .u64 ((z1.1 : Nat) : Int), .int .i64 ((z1.2 : Nat) : Int)]) #[.int .u64 ((z1.1 : Nat) : Int), .int .i64 ((z1.2 : Nat) : Int)] ty_api_Hard.2 rfl rfl rfl rfl rfl rfl rfl rfl rfl) ?_; rintro ⟨⟩
    refine h_q hflU rfl ?_
    refine h_done (d_seq ?_)
    rcases Nat.lt_or_ge n1 b.length with hlt | hge
    · skip
      rw [if_pos hlt] at h
      refine d_reg ?_
      refine h_q hflU rfl ?_
      refine h_val rfl (.int .i64 (b.length : Int)) (fun b w hb hH => e_vlen 1 Try.underlying50 rfl rfl rfl hH hb) ?_
      refine h_val rfl (.bool true) (fun b w hb hH => exec_cmp rfl rfl rfl (cmp_lss_t (by omega)) hb) ?_
      refine h_done (d_then rfl (d_reg ?_))
      refine h_q hflU rfl ?_
      refine h_act (post := fun _ => [cell g7 28 #[.int .u64 ((z1.1 : Nat) : Int), .int .i64 ((z1.2 : Nat) : Int)], Vec 5 1 encB bv b, cell g2 28 #[.int .u64 0, .int .i64 0], DiskT p d2]) rfl (a_does (os' := fun _ => [cell g7 28 #[.int .u64 ((z1.1 : Nat) : Int), .int .i64 ((z1.2 : Nat) : Int)], Vec 5 1 encB bv b, cell g2 28 #[.int .u64 0, .int .i64 0], DiskT p d2]) [3] 0 (ent_of Try.func18 (by kernel_rfl) rfl) (disk_truncate (n := hardN) hf1.fit hcut) rfl rfl rfl (fun _ => rfl) rfl rfl rfl) ?_; rintro ⟨⟩
      refine h_q hflU rfl ?_
      refine h_done ?_
      rcases Nat.eq_zero_or_pos e2 with he2 | he2
      · skip
        rw [if_neg (by omega)] at h
        obtain ⟨rfl, rfl, rfl⟩ : d2 = d' ∧ z1 = z ∧ 0 = e := by simpa [Prod.ext_iff] using h
        refine d_reg ?_
        refine h_q hflU rfl ?_
        refine h_val rfl (.bool false) (fun b w hb hH => exec_cmp rfl rfl rfl (cmp_neq_f (by omega)) hb) ?_
        refine h_done (d_else rfl (d_skip (f_to (d_reg ?_))))
        refine h_q hflU rfl ?_
        refine h_val rfl (.agg #[.int .u64 ((z1.1 : Nat) : Int), .int .i64 ((z1.2 : Nat) : Int)]) (fun b w hb hH => exec_load rfl rfl (reads_agg (cs := [.int .u64 ((z1.1 : Nat) : Int), .int .i64 ((z1.2 : Nat) : Int)]) ty_api_Hard rfl) (hH.row 0 rfl) hb) ?_
        refine h_acts (post := fun _ => [cell g7 28 #[.int .u64 ((z1.1 : Nat) : Int), .int .i64 ((z1.2 : Nat) : Int)], Vec 5 1 encB bv b, cell g2 28 #[.int .u64 ((z1.1 : Nat) : Int), .int .i64 ((z1.2 : Nat) : Int)], DiskT p d2]) rfl rfl (a_store 2 (v := .agg #[.int .u64 ((z1.1 : Nat) : Int), .int .i64 ((z1.2 : Nat) : Int)]) #[.int .u64 ((z1.1 : Nat) : Int), .int .i64 ((z1.2 : Nat) : Int)] ty_api_Hard.2 rfl rfl rfl rfl rfl rfl rfl rfl rfl) ?_; rintro ⟨⟩
        refine h_q hflU rfl ?_
        refine h_done (d_ret ?_)
        exact f_fin2 (.cell 2 (v := .agg #[.int .u64 ((z1.1 : Nat) : Int), .int .i64 ((z1.2 : Nat) : Int)]) (reads_agg (cs := [.int .u64 ((z1.1 : Nat) : Int), .int .i64 ((z1.2 : Nat) : Int)]) ty_api_Hard rfl) rfl rfl) (.tmp rfl) (fun w h => tells () rfl [3] rfl h same_parts) rfl
      · skip
        rw [if_pos (by omega)] at h
        obtain ⟨rfl, rfl, rfl⟩ : d2 = d' ∧ (0, 0) = z ∧ e2 = e := by simpa [Prod.ext_iff] using h
        refine d_reg ?_
        refine h_q hflU rfl ?_
        refine h_val rfl (.bool true) (fun b w hb hH => exec_cmp rfl rfl rfl (cmp_neq_t (by omega)) hb) ?_
        refine h_done (d_then rfl (d_reg ?_))
        refine h_q hflU rfl ?_
        refine h_val rfl (.agg #[.int .u64 0, .int .i64 0]) (fun b w hb hH => exec_build rfl rfl (by kernel_rfl) hb) ?_
        refine h_q hflU rfl ?_
        refine h_acts (post := fun _ => [cell g7 28 #[.int .u64 ((z1.1 : Nat) : Int), .int .i64 ((z1.2 : Nat) : Int)], Vec 5 1 encB bv b, cell g2 28 #[.int .u64 0, .int .i64 0], DiskT p d2]) rfl rfl (a_store 2 (v := .agg #[.int .u64 0, .int .i64 0]) #[.int .u64 0, .int .i64 0] ty_api_Hard.2 rfl rfl rfl rfl rfl rfl rfl rfl rfl) ?_; rintro ⟨⟩
        refine h_q hflU rfl ?_
        refine h_done (d_ret (f_then_ret ?_))
        exact f_fin2 (.cell 2 (v := .agg #[.int .u64 0, .int .i64 0]) (reads_agg (cs := [.int .u64 0, .int .i64 0]) ty_api_Hard rfl) rfl rfl) (.tmp rfl) (fun w h => tells () rfl [3] rfl h same_parts) rfl
    · skip
      rw [if_neg (by omega)] at h
      obtain ⟨rfl, rfl, rfl⟩ : d1 = d' ∧ z1 = z ∧ 0 = e := by simpa [Prod.ext_iff] using h
      refine d_reg ?_
      refine h_q hflU rfl ?_
      refine h_val rfl (.int .i64 (b.length : Int)) (fun b w hb hH => e_vlen 1 Try.underlying50 rfl rfl rfl hH hb) ?_
      refine h_val rfl (.bool false) (fun b w hb hH => exec_cmp rfl rfl rfl (cmp_lss_f (by omega)) hb) ?_
      refine h_done (d_else rfl (d_skip (f_to (d_reg ?_))))
      refine h_q hflU rfl ?_
      refine h_val rfl (.agg #[.int .u64 ((z1.1 : Nat) : Int), .int .i64 ((z1.2 : Nat) : Int)]) (fun b w hb hH => exec_load rfl rfl (reads_agg (cs := [.int .u64 ((z1.1 : Nat) : Int), .int .i64 ((z1.2 : Nat) : Int)]) ty_api_Hard rfl) (hH.row 0 rfl) hb) ?_
      refine h_acts (post := fun _ => [cell g7 28 #[.int .u64 ((z1.1 : Nat) : Int), .int .i64 ((z1.2 : Nat) : Int)], Vec 5 1 encB bv b, cell g2 28 #[.int .u64 ((z1.1 : Nat) : Int), .int .i64 ((z1.2 : Nat) : Int)], DiskT p d1]) rfl rfl (a_store 2 (v := .agg #[.int .u64 ((z1.1 : Nat) : Int), .int .i64 ((z1.2 : Nat) : Int)]) #[.int .u64 ((z1.1 : Nat) : Int), .int .i64 ((z1.2 : Nat) : Int)] ty_api_Hard.2 rfl rfl rfl rfl rfl rfl rfl rfl rfl) ?_; rintro ⟨⟩
      refine h_q hflU rfl ?_
      refine h_done (d_ret ?_)
      exact f_fin2 (.cell 2 (v := .agg #[.int .u64 ((z1.1 : Nat) : Int), .int .i64 ((z1.2 : Nat) : Int)]) (reads_agg (cs := [.int .u64 ((z1.1 : Nat) : Int), .int .i64 ((z1.2 : Nat) : Int)]) ty_api_Hard rfl) rfl rfl) (.tmp rfl) (fun w h => tells () rfl [3] rfl h same_parts) rfl
  · skip
    rw [if_pos (by omega)] at h
    obtain ⟨rfl, rfl, rfl⟩ : d1 = d' ∧ (0, 0) = z ∧ e1 = e := by simpa [Prod.ext_iff] using h
    refine d_reg ?_
    refine h_q hflU rfl ?_
    refine h_val rfl (.bool true) (fun b w hb hH => exec_cmp rfl rfl rfl (cmp_neq_t (by omega)) hb) ?_
    refine h_done (d_then rfl (d_reg ?_))
    refine h_q hflU rfl ?_
    refine h_val rfl (.agg #[.int .u64 0, .int .i64 0]) (fun b w hb hH => exec_build rfl rfl (by kernel_rfl) hb) ?_
    refine h_q hflU rfl ?_
    refine h_acts (post := fun _ => [cell g2 28 #[.int .u64 0, .int .i64 0], DiskT p d1]) rfl rfl (a_store 0 (v := .agg #[.int .u64 0, .int .i64 0]) #[.int .u64 0, .int .i64 0] ty_api_Hard.2 rfl rfl rfl rfl rfl rfl rfl rfl rfl) ?_; rintro ⟨⟩
    refine h_q hflU rfl ?_
    refine h_done (d_ret (f_then_ret ?_))
    exact f_fin2 (.cell 0 (v := .agg #[.int .u64 0, .int .i64 0]) (reads_agg (cs := [.int .u64 0, .int .i64 0]) ty_api_Hard rfl) rfl rfl) (.tmp rfl) (fun w h => tells () rfl [1] rfl h same_parts) rfl

set_option maxRecDepth 100000 in
theorem hbegin_does {p : Nat} {d d' : DiskD} {f : List UInt8} {e : Nat} {X : Ass} {v : Value} (hf : d.fitK 3) (hX : Rd8 X v f) (hfl : f.length ≤ 65536) (h : beginHD d f = (d', e)) : Does Try.prog 22 #[.pointer (some ⟨p, 0, none⟩), v] [DiskT p d, X] (fun (_ : Unit) => .int .i64 (e : Int)) (fun (_ : Unit) => [DiskT p d', X]) := by
  refine d_ins (args := [.pointer (some ⟨p, 0, none⟩), v]) 20 Try.func22 rfl rfl rfl ?_; intro w rs
  obtain ⟨⟨d1, e1⟩, hrm⟩ : ∃ R, rmNewD d = R := ⟨_, rfl⟩
  obtain ⟨hr1, hr2⟩ := rm_two hrm
  have hf1 : d1.fitK 2 := by rw [← hr1]; exact fitK_rm hf
  obtain ⟨⟨d2, e2⟩, happ⟩ : ∃ R, appendD d1 newN f = R := ⟨_, rfl⟩
  have hf2 : d2.fitK 1 := by have := fitK_append (n := newN) (b := f) hf1 hfl; rwa [happ] at this
  unfold beginHD at h
  rw [hrm] at h
  simp only at h
  rw [happ] at h
  simp only at h
  refine d_reg ?_
  refine h_q hflU rfl ?_
  refine h_done (d_seq (d_reg ?_))
  refine h_q hflU rfl ?_
  refine h_act (post := fun _ => [DiskT p d1, X]) rfl (a_does (os' := fun _ => [DiskT p d1, X]) [0] 0 (ent_of Try.func15 (by kernel_rfl) rfl) (rmnew_does hf.fit hrm) rfl rfl rfl (fun _ => rfl) rfl rfl rfl) ?_; rintro ⟨⟩
  refine h_q hflU rfl ?_
  refine h_done ?_
  rcases Nat.eq_zero_or_pos e1 with he1 | he1
  · skip
    rw [if_neg (by omega)] at h
    refine d_reg ?_
    refine h_q hflU rfl ?_
    refine h_val rfl (.bool false) (fun b w hb hH => exec_cmp rfl rfl rfl (cmp_neq_f (by omega)) hb) ?_
    refine h_done (d_else rfl (d_skip (f_to (d_seq (d_reg ?_)))))
    refine h_q hflU rfl ?_
    refine h_act (post := fun _ => [DiskT p d2, X]) rfl (a_does (os' := fun _ => [DiskT p d2, X]) [0, 1] 0 (ent_of Try.func21 (by kernel_rfl) rfl) (disk_append (n := newN) hf1.fit (by omega) hX happ) rfl rfl rfl (fun _ => rfl) rfl rfl rfl) ?_; rintro ⟨⟩
    refine h_q hflU rfl ?_
    refine h_done ?_
    rcases Nat.eq_zero_or_pos e2 with he2 | he2
    · skip
      rw [if_neg (by omega)] at h
      have hren : renD d2 newN hardN = (d', e) := h
      refine d_reg ?_
      refine h_q hflU rfl ?_
      refine h_val rfl (.bool false) (fun b w hb hH => exec_cmp rfl rfl rfl (cmp_neq_f (by omega)) hb) ?_
      refine h_done (d_else rfl (d_skip (f_to (d_reg ?_))))
      refine h_q hflU rfl ?_
      refine h_act (post := fun _ => [DiskT p d', X]) rfl (a_does (os' := fun _ => [DiskT p d', X]) [0] 0 (ent_of Try.func42 (by kernel_rfl) rfl) (disk_rename (n := newN) (b := hardN) hf2.fit hren) rfl rfl rfl (fun _ => rfl) rfl rfl rfl) ?_; rintro ⟨⟩
      refine h_q hflU rfl ?_
      refine h_done (d_ret ?_)
      exact f_fin1 (.tmp rfl) (fun w h => tells () rfl [0, 1] rfl h same_parts) rfl
    · skip
      rw [if_pos (by omega)] at h
      obtain ⟨rfl, rfl⟩ : d2 = d' ∧ e2 = e := Prod.mk.inj h
      refine d_reg ?_
      refine h_q hflU rfl ?_
      refine h_val rfl (.bool true) (fun b w hb hH => exec_cmp rfl rfl rfl (cmp_neq_t (by omega)) hb) ?_
      refine h_done (d_then rfl (d_reg ?_))
      refine h_q hflU rfl ?_
      refine h_done (d_ret (f_then_ret ?_))
      exact f_fin1 (.tmp rfl) (fun w h => tells () rfl [0, 1] rfl h same_parts) rfl
  · skip
    rw [if_pos (by omega)] at h
    obtain ⟨rfl, rfl⟩ : d1 = d' ∧ e1 = e := Prod.mk.inj h
    refine d_reg ?_
    refine h_q hflU rfl ?_
    refine h_val rfl (.bool true) (fun b w hb hH => exec_cmp rfl rfl rfl (cmp_neq_t (by omega)) hb) ?_
    refine h_done (d_then rfl (d_reg ?_))
    refine h_q hflU rfl ?_
    refine h_done (d_ret (f_then_ret ?_))
    exact f_fin1 (.tmp rfl) (fun w h => tells () rfl [0, 1] rfl h same_parts) rfl

set_option maxRecDepth 100000 in
theorem hsave_does {p : Nat} {d d' : DiskD} {z : HV} {e : Nat} (hk : hvOk z) (hf : d.fitK 3) (h : saveHD d z = (d', e)) : Does Try.prog 8 #[.pointer (some ⟨p, 0, none⟩), .agg #[.int .u64 ((z.1 : Nat) : Int), .int .i64 ((z.2 : Nat) : Int)]] [DiskT p d] (fun (_ : Unit) => .int .i64 (e : Int)) (fun (_ : Unit) => [DiskT p d']) := by
  refine d_ins (args := [.pointer (some ⟨p, 0, none⟩), .agg #[.int .u64 ((z.1 : Nat) : Int), .int .i64 ((z.2 : Nat) : Int)]]) 32 Try.func8 rfl rfl rfl ?_; intro w rs
  obtain ⟨b, hb⟩ : ∃ b, (readD d hardN).getD [] = b := ⟨_, rfl⟩
  obtain ⟨ok, hok⟩ : ∃ ok, (readD d hardN).isSome = ok := ⟨_, rfl⟩
  unfold saveHD at h
  rw [hb] at h
  have hfl : (frameL (layH z)).length ≤ 17 := fr_len hk
  have hll := layH_len hk
  refine d_reg ?_
  refine h_q hflU rfl ?_
  refine h_act (post := fun g3 => [cell g3 28 #[.int .u64 ((z.1 : Nat) : Int), .int .i64 ((z.2 : Nat) : Int)], DiskT p d]) rfl (a_box (cs := #[.int .u64 ((z.1 : Nat) : Int), .int .i64 ((z.2 : Nat) : Int)]) rfl rfl rfl) ?_; rintro g3
  refine h_q hflU rfl ?_
  refine h_done (d_seq (d_reg ?_))
  refine h_q hflU rfl ?_
  refine h_val rfl (.bool false) (fun b w hb hH => exec_pnil_eql (by kernel_rfl) rfl rfl rfl hb) ?_
  refine h_q hflU rfl ?_
  refine h_val rfl (.agg #[.int .u64 ((z.1 : Nat) : Int), .int .i64 ((z.2 : Nat) : Int)]) (fun b w hb hH => exec_load rfl rfl (reads_agg (cs := [.int .u64 ((z.1 : Nat) : Int), .int .i64 ((z.2 : Nat) : Int)]) ty_api_Hard rfl) (hH.row 0 rfl) hb) ?_
  refine h_act (post := fun _ => [cell g3 28 #[.int .u64 ((z.1 : Nat) : Int), .int .i64 ((z.2 : Nat) : Int)], DiskT p d]) rfl (a_call (ent_of Try.func9 (by kernel_rfl) rfl) (fun w hH => hright_ok w hk) rfl rfl rfl) ?_; rintro ⟨⟩
  refine h_q hflU rfl ?_
  refine h_done (d_else rfl (d_skip (f_to (d_reg ?_))))
  refine h_q hflU rfl ?_
  refine h_val rfl (.agg #[.int .u64 ((z.1 : Nat) : Int), .int .i64 ((z.2 : Nat) : Int)]) (fun b w hb hH => exec_load rfl rfl (reads_agg (cs := [.int .u64 ((z.1 : Nat) : Int), .int .i64 ((z.2 : Nat) : Int)]) ty_api_Hard rfl) (hH.row 0 rfl) hb) ?_
  refine h_act (post := fun lv => [Vec 5 1 encB lv (layH z), cell g3 28 #[.int .u64 ((z.1 : Nat) : Int), .int .i64 ((z.2 : Nat) : Int)], DiskT p d]) rfl (a_does (os' := fun lv => [Vec 5 1 encB lv (layH z), cell g3 28 #[.int .u64 ((z.1 : Nat) : Int), .int .i64 ((z.2 : Nat) : Int)], DiskT p d]) [] 0 (ent_of Try.func20 (by kernel_rfl) rfl) (hlay_does hk) rfl rfl rfl (fun _ => rfl) rfl rfl rfl) ?_; rintro lv
  refine h_act (post := fun fv => [Vec 5 1 encB fv (frameL (layH z)), Vec 5 1 encB lv (layH z), cell g3 28 #[.int .u64 ((z.1 : Nat) : Int), .int .i64 ((z.2 : Nat) : Int)], DiskT p d]) rfl (a_does (os' := fun fv => [Vec 5 1 encB fv (frameL (layH z)), Vec 5 1 encB lv (layH z), cell g3 28 #[.int .u64 ((z.1 : Nat) : Int), .int .i64 ((z.2 : Nat) : Int)], DiskT p d]) [0] 0 (ent_of Try.func19 (by kernel_rfl) rfl) (frame_does rd8_vec (by omega) rfl) rfl rfl rfl (fun _ => rfl) rfl rfl rfl) ?_; rintro fv
  refine h_q hflU rfl ?_
  refine h_done (d_seq (d_reg ?_))
  refine h_q hflU rfl ?_
  refine h_act (post := fun bv => [Vec 5 1 encB bv b, Vec 5 1 encB fv (frameL (layH z)), Vec 5 1 encB lv (layH z), cell g3 28 #[.int .u64 ((z.1 : Nat) : Int), .int .i64 ((z.2 : Nat) : Int)], DiskT p d]) rfl (a_does (os' := fun bv => [Vec 5 1 encB bv b, Vec 5 1 encB fv (frameL (layH z)), Vec 5 1 encB lv (layH z), cell g3 28 #[.int .u64 ((z.1 : Nat) : Int), .int .i64 ((z.2 : Nat) : Int)], DiskT p d]) [3] 0 (ent_of Try.func16 (by kernel_rfl) rfl) (disk_read (n := hardN) hf.fit hok hb) rfl rfl rfl (fun _ => rfl) rfl rfl rfl) ?_; rintro bv
  refine h_q hflU rfl ?_
  refine h_done ?_
  rcases Nat.lt_or_ge b.length 256 with hlt | hge
  · skip
    rw [if_pos hlt] at h
    refine d_reg ?_
    refine h_q hflU rfl ?_
    refine h_val rfl (.int .i64 (b.length : Int)) (fun b w hb hH => e_vlen 0 Try.underlying50 rfl rfl rfl hH hb) ?_
    refine h_val rfl (.bool true) (fun b w hb hH => exec_cmp rfl rfl rfl (cmp_lss_t (by omega)) hb) ?_
    refine h_done (d_then rfl (d_reg ?_))
    refine h_q hflU rfl ?_
    refine h_act (post := fun _ => [Vec 5 1 encB bv b, Vec 5 1 encB fv (frameL (layH z)), Vec 5 1 encB lv (layH z), cell g3 28 #[.int .u64 ((z.1 : Nat) : Int), .int .i64 ((z.2 : Nat) : Int)], DiskT p d']) rfl (a_does (os' := fun _ => [Vec 5 1 encB bv b, Vec 5 1 encB fv (frameL (layH z)), Vec 5 1 encB lv (layH z), cell g3 28 #[.int .u64 ((z.1 : Nat) : Int), .int .i64 ((z.2 : Nat) : Int)], DiskT p d']) [4, 1] 0 (ent_of Try.func21 (by kernel_rfl) rfl) (disk_append (n := hardN) hf.fit (by omega) rd8_vec h) rfl rfl rfl (fun _ => rfl) rfl rfl rfl) ?_; rintro ⟨⟩
    refine h_q hflU rfl ?_
    refine h_done (d_ret (f_then_ret ?_))
    exact f_fin1 (.tmp rfl) (fun w h => tells () rfl [4] rfl h same_parts) rfl
  · skip
    rw [if_neg (by omega)] at h
    refine d_reg ?_
    refine h_q hflU rfl ?_
    refine h_val rfl (.int .i64 (b.length : Int)) (fun b w hb hH => e_vlen 0 Try.underlying50 rfl rfl rfl hH hb) ?_
    refine h_val rfl (.bool false) (fun b w hb hH => exec_cmp rfl rfl rfl (cmp_lss_f (by omega)) hb) ?_
    refine h_done (d_else rfl (d_skip (f_to (d_reg ?_))))
    refine h_q hflU rfl ?_
    refine h_act (post := fun _ => [Vec 5 1 encB bv b, Vec 5 1 encB fv (frameL (layH z)), Vec 5 1 encB lv (layH z), cell g3 28 #[.int .u64 ((z.1 : Nat) : Int), .int .i64 ((z.2 : Nat) : Int)], DiskT p d']) rfl (a_does (os' := fun _ => [Vec 5 1 encB bv b, Vec 5 1 encB fv (frameL (layH z)), Vec 5 1 encB lv (layH z), cell g3 28 #[.int .u64 ((z.1 : Nat) : Int), .int .i64 ((z.2 : Nat) : Int)], DiskT p d']) [4, 1] 0 (ent_of Try.func22 (by kernel_rfl) rfl) (hbegin_does hf rd8_vec (by omega) h) rfl rfl rfl (fun _ => rfl) rfl rfl rfl) ?_; rintro ⟨⟩
    refine h_q hflU rfl ?_
    refine h_done (d_ret ?_)
    exact f_fin1 (.tmp rfl) (fun w h => tells () rfl [4] rfl h same_parts) rfl

set_option maxRecDepth 100000 in
theorem hsave_bad (w : World) {p : Nat} (t v : Int) (hb : (decide (t ≤ 72057594037927935) && (decide (v ≥ 0) && decide (v ≤ 7))) = false) : Calls Try.prog 8 #[.pointer (some ⟨p, 0, none⟩), .agg #[.int .u64 t, .int .i64 v]] w fun e w' => e = .returned (.int .i64 1) ∧ Below w.heap.size w w' := by
  refine d_in (args := [.pointer (some ⟨p, 0, none⟩), .agg #[.int .u64 t, .int .i64 v]]) 32 Try.func8 rfl rfl rfl ?_
  refine d_reg ?_
  refine h_q hflU rfl ?_
  refine h_act (post := fun g3 => [cell g3 28 #[.int .u64 t, .int .i64 v]]) rfl (a_box (cs := #[.int .u64 t, .int .i64 v]) rfl rfl rfl) ?_; rintro g3
  refine h_q hflU rfl ?_
  refine h_done (d_seq (d_reg ?_))
  refine h_q hflU rfl ?_
  refine h_val rfl (.bool false) (fun b w hb hH => exec_pnil_eql (by kernel_rfl) rfl rfl rfl hb) ?_
  refine h_q hflU rfl ?_
  refine h_val rfl (.agg #[.int .u64 t, .int .i64 v]) (fun b w hb hH => exec_load rfl rfl (reads_agg (cs := [.int .u64 t, .int .i64 v]) ty_api_Hard rfl) (hH.row 0 rfl) hb) ?_
  refine h_act (post := fun _ => [cell g3 28 #[.int .u64 t, .int .i64 v]]) rfl (a_call (ent_of Try.func9 (by kernel_rfl) rfl) (fun w hH => hright w t v false hb) rfl rfl rfl) ?_; rintro ⟨⟩
  refine h_q hflU rfl ?_
  refine h_done (d_then rfl (d_reg ?_))
  refine h_q hflU rfl ?_
  refine h_done (d_ret (f_then_ret ?_))
  exact f_fin1 (.tmp rfl) (fun w h => ⟨rfl, below0 h.up⟩) rfl

set_option maxRecDepth 100000 in
theorem hsave_nil (w : World) (t v : Int) : Calls Try.prog 8 #[.pointer none, .agg #[.int .u64 t, .int .i64 v]] w fun e w' => e = .returned (.int .i64 1) ∧ Below w.heap.size w w' := by
  refine d_in (args := [.pointer none, .agg #[.int .u64 t, .int .i64 v]]) 32 Try.func8 rfl rfl rfl ?_
  refine d_reg ?_
  refine h_q hflU rfl ?_
  refine h_act (post := fun g3 => [cell g3 28 #[.int .u64 t, .int .i64 v]]) rfl (a_box (cs := #[.int .u64 t, .int .i64 v]) rfl rfl rfl) ?_; rintro g3
  refine h_q hflU rfl ?_
  refine h_done (d_seq (d_reg ?_))
  refine h_q hflU rfl ?_
  refine h_val rfl (.bool true) (fun b w hb hH => exec_pnil2_eql (by kernel_rfl) rfl rfl rfl hb) ?_
  refine h_q hflU rfl ?_
  refine h_done (d_then rfl (d_reg ?_))
  refine h_q hflU rfl ?_
  refine h_done (d_ret (f_then_ret ?_))
  exact f_fin1 (.tmp rfl) (fun w h => ⟨rfl, below0 h.up⟩) rfl

set_option maxRecDepth 100000 in
theorem hopen_nil (w : World)  : Calls Try.prog 6 #[.pointer none] w fun e w' => e = .returned (.tuple #[.agg #[.int .u64 0, .int .i64 0], .int .i64 1]) ∧ Below w.heap.size w w' := by
  refine d_in (args := [.pointer none]) 41 Try.func6 rfl rfl rfl ?_
  refine d_reg ?_
  refine h_q hflU rfl ?_
  refine h_act (post := fun g2 => [cell g2 28 #[.int .u64 0, .int .i64 0]]) rfl (a_alloc ze_api_Hard rfl) ?_; rintro g2
  refine h_q hflU rfl ?_
  refine h_done (d_seq (d_reg ?_))
  refine h_q hflU rfl ?_
  refine h_val rfl (.bool true) (fun b w hb hH => exec_pnil2_eql (by kernel_rfl) rfl rfl rfl hb) ?_
  refine h_done (d_then rfl (d_reg ?_))
  refine h_q hflU rfl ?_
  refine h_val rfl (.agg #[.int .u64 0, .int .i64 0]) (fun b w hb hH => exec_build rfl rfl (by kernel_rfl) hb) ?_
  refine h_acts (post := fun _ => [cell g2 28 #[.int .u64 0, .int .i64 0]]) rfl rfl (a_store 0 (v := .agg #[.int .u64 0, .int .i64 0]) #[.int .u64 0, .int .i64 0] ty_api_Hard.2 rfl rfl rfl rfl rfl rfl rfl rfl rfl) ?_; rintro ⟨⟩
  refine h_q hflU rfl ?_
  refine h_done (d_ret (f_then_ret ?_))
  exact f_fin2 (.cell 0 (v := .agg #[.int .u64 0, .int .i64 0]) (reads_agg (cs := [.int .u64 0, .int .i64 0]) ty_api_Hard rfl) rfl rfl) (.tmp rfl) (fun w h => ⟨rfl, below0 h.up⟩) rfl
end Go.Proofs.Ytnknboibmifacaa.Sep
