/-
  RpcM2
-/
import Derived.Test.YtnhcbjlaeaohjaaBH01
set_option linter.unusedSimpArgs false
set_option linter.unusedVariables false

namespace Go.Proofs.Ytnhcbjlaeaohjaa.Sep
open Go.RowKit
open Go.Proofs.Ytnhcbjlaeaohjaa.Mem (Dist Blk Chg below0)

theorem rtext_le (most : Nat) (l : List UInt8) (f : Nat) : (rtext (most : Int) l f).1.length ≤ most := by
  have h := vnum_le most l
  unfold rtext
  rw [Int.toNat_natCast]
  split
  · exact Nat.zero_le _
  · split
    · exact Nat.zero_le _
    · split
      · exact Nat.zero_le _
      · simp only [List.length_take]; omega
theorem rlist_le (l : List UInt8) (f : Nat) : (rlist l f).1.length ≤ 4 := by
  obtain ⟨⟨n, l1, f1⟩, h1⟩ : ∃ R, rnum 4 l f = R := ⟨_, rfl⟩
  have h4 := rnum_most 4 l f
  rw [h1] at h4
  rw [rlist_of h1]
  obtain ⟨⟨es, l2, f2⟩, h2⟩ : ∃ R, rents n l1 f1 = R := ⟨_, rfl⟩
  rw [h2]
  have := (rents_ok h2).1
  simp only at h4 ⊢
  omega
/-- what is read of few bytes is within its bounds -/
theorem readM_in {l l' : List UInt8} {m : MsgD} {f' : Nat} (hl : l.length ≤ 1024) (h : readM l = (m, l', f')) : m.ok ∧ m.es.length ≤ 4 ∧ (∀ e, e ∈ m.es → rightE e = true) ∧ m.d.length ≤ 256 := by
  obtain ⟨⟨k, l0, f0, h0, a, l1, f1, h1, b, l2, f2, h2, t, l3, f3, h3, i, l4, f4, h4, lt, l5, f5, h5, co, l6, f6, h6, es, l7, f7, h7, rf, l8, f8, h8, bi, bt, bc, l9, f9, h9, o, l10, f10, h10, la, l11, f11, h11, d, h12, hm⟩⟩ := readM_steps h
  have e7 : es.length ≤ 4 ∧ ∀ e, e ∈ es → rightE e = true := by
    refine ⟨?_, rI_range good_list (fun e he => by cases he) h7⟩
    cases hb : wth (fm (k : Int)) 8
    · rw [hb] at h7
      have h7 : (([] : List EntD), l6, f6) = (es, l7, f7) := h7
      simp only [Prod.mk.injEq] at h7
      rw [← h7.1]; simp
    · rw [hb] at h7
      have h7 : rlist l6 f6 = (es, l7, f7) := h7
      have := rlist_le l6 f6
      rwa [h7] at this
  have e12 : d.length ≤ 256 := by
    cases hb : wth (fm (k : Int)) 256
    · rw [hb] at h12
      have h12 : (([] : List UInt8), l11, f11) = (d, l', f') := h12
      simp only [Prod.mk.injEq] at h12
      rw [← h12.1]; simp
    · rw [hb] at h12
      have h12 : rtext 256 l11 f11 = (d, l', f') := h12
      have := rtext_le 256 l11 f11
      rwa [show rtext ((256 : Nat) : Int) l11 f11 = (d, l', f') from h12] at this
  have h1 : m.es.length ≤ 4 := by rw [hm]; exact e7.1
  have h2 : m.d.length ≤ 256 := by rw [hm]; exact e12
  exact ⟨readM_ok (by omega) h (by omega) (by omega), h1, by rw [hm]; exact e7.2, h2⟩
theorem rend_stuck {l l' : List UInt8} {f : Nat} (h : f ≠ 0) : rend l f = rend l' f := by rw [rend_fault h, rend_fault h]
theorem rI_len {α : Type} (b : Bool) (z : α) {r : α × List UInt8 × Nat} {l : List UInt8} {f : Nat} (h : r.2.1.length ≤ l.length) : (rI b z r l f).2.1.length ≤ l.length := by
  cases b
  · exact Nat.le_refl _
  · exact h
/-- what reading a message comes to -/
structure RdX where
  v : MsgV
  en : Nat
  l : List UInt8
  f : Nat
def ROk (R : MsgD × List UInt8 × Nat) (x : RdX) : Prop := x.v.m.es = x.v.es.map (·.e) ∧ ((x.en = 0 ∧ rend x.l x.f = rend R.2.1 R.2.2 ∧ (rend R.2.1 R.2.2 = 0 → x.v.m = R.1)) ∨ (x.en ≠ 0 ∧ x.en = rend R.2.1 R.2.2))
theorem kinds_of6 {k : Nat} (h : k ≤ 6) (hb : wth (fm (k : Int)) 8 = true) : wth (fm (k : Int)) 16 = false ∧ wth (fm (k : Int)) 32 = false ∧ wth (fm (k : Int)) 64 = false ∧ wth (fm (k : Int)) 128 = false ∧ wth (fm (k : Int)) 256 = false := by
  rcases (show k = 0 ∨ k = 1 ∨ k = 2 ∨ k = 3 ∨ k = 4 ∨ k = 5 ∨ k = 6 by omega) with rfl | rfl | rfl | rfl | rfl | rfl | rfl <;> revert hb <;> decide
theorem fm_nz {k : Nat} (h : k ≤ 6) (h0 : k ≠ 0) : fm (k : Int) ≠ 0 := by
  rcases (show k = 1 ∨ k = 2 ∨ k = 3 ∨ k = 4 ∨ k = 5 ∨ k = 6 by omega) with rfl | rfl | rfl | rfl | rfl | rfl <;> decide
theorem REOk_of {es : List EntD} {l : List UInt8} {f : Nat} {Q : List EntD × List UInt8 × Nat} {x : REX} (h : REOk Q x) (e : Q = (es, l, f)) : (f = 0 ∧ x.en = 0 ∧ x.l = l ∧ x.f = 0 ∧ x.es.map (·.e) = es) ∨ (f ≠ 0 ∧ ((x.en = f ∧ x.f = 0) ∨ (x.en = 0 ∧ x.f = f))) := by
  subst e
  exact h

set_option maxHeartbeats 1000000 in
set_option maxRecDepth 100000 in
theorem readM_does (g : Nat) (l : List UInt8) (hl : l.length ≤ 1024) : Does Try.prog 42 #[.pointer (some ⟨g, 0, none⟩)] [RdT g l 0] (fun (x : RdX) => .tuple #[.agg #[.int .i64 x.v.m.k, .int .i64 x.v.m.a, .int .i64 x.v.m.b, .int .u64 x.v.m.t, .int .u64 x.v.m.i, .int .u64 x.v.m.lt, x.v.ev, .int .u64 x.v.m.co, .bool x.v.m.rf, .int .u64 x.v.m.bi, .int .u64 x.v.m.bt, .int .i64 x.v.m.bc, .int .i64 x.v.m.o, x.v.dv, .bool x.v.m.la], .int .i64 (x.en : Int)]) (fun (x : RdX) => [RdT g x.l x.f, Ents 36 x.v.ev x.v.es, Vec 5 1 encB x.v.dv x.v.m.d, fact (ROk (readM l) x)]) := by
  obtain ⟨⟨m, l', f'⟩, hM⟩ : ∃ R, readM l = R := ⟨_, rfl⟩
  rw [hM]
  obtain ⟨⟨k, l0, f0, h0, a, l1, f1, h1, bb, l2, f2, h2, t, l3, f3, h3, i, l4, f4, h4, lt, l5, f5, h5, co, l6, f6, h6, es, l7, f7, h7, rf, l8, f8, h8, bi, bt, bc, l9, f9, h9, o, l10, f10, h10, la, l11, f11, h11, d, h12, hm⟩⟩ := readM_steps hM
  have hk6 := rbyte_le 6 l 0
  rw [h0] at hk6
  have hk6 : k ≤ 6 := hk6
  obtain ⟨b1, hb1⟩ : ∃ b1, wth (fm (k : Int)) 1 = b1 := ⟨_, rfl⟩
  rw [hb1] at h4
  obtain ⟨b2, hb2⟩ : ∃ b2, wth (fm (k : Int)) 2 = b2 := ⟨_, rfl⟩
  rw [hb2] at h5
  obtain ⟨b3, hb3⟩ : ∃ b3, wth (fm (k : Int)) 4 = b3 := ⟨_, rfl⟩
  rw [hb3] at h6
  obtain ⟨b4, hb4⟩ : ∃ b4, wth (fm (k : Int)) 8 = b4 := ⟨_, rfl⟩
  rw [hb4] at h7
  obtain ⟨b5, hb5⟩ : ∃ b5, wth (fm (k : Int)) 16 = b5 := ⟨_, rfl⟩
  rw [hb5] at h8
  obtain ⟨b6, hb6⟩ : ∃ b6, wth (fm (k : Int)) 32 = b6 := ⟨_, rfl⟩
  rw [hb6] at h9
  obtain ⟨b7, hb7⟩ : ∃ b7, wth (fm (k : Int)) 64 = b7 := ⟨_, rfl⟩
  rw [hb7] at h10
  obtain ⟨b8, hb8⟩ : ∃ b8, wth (fm (k : Int)) 128 = b8 := ⟨_, rfl⟩
  rw [hb8] at h11
  obtain ⟨b9, hb9⟩ : ∃ b9, wth (fm (k : Int)) 256 = b9 := ⟨_, rfl⟩
  rw [hb9] at h12
  obtain ⟨h, hh⟩ : ∃ h, fp (k : Int) = h := ⟨_, rfl⟩
  have hlt : h < 1024 := hh ▸ fp_lt _
  have hp1 : wth h 2 = b1 := by rw [← hh, fp_index, hb1]
  have hp2 : wth h 4 = b2 := by rw [← hh, fp_logterm, hb2]
  have hp3 : wth h 8 = b3 := by rw [← hh, fp_commit, hb3]
  have hp4 : wth h 16 = b4 := by rw [← hh, fp_entries, hb4]
  have hp5 : wth h 32 = b5 := by rw [← hh, fp_refused, hb5]
  have hp6 : wth h 64 = b6 := by rw [← hh, fp_base, hb6]
  have hp7 : wth h 128 = b7 := by rw [← hh, fp_offset, hb7]
  have hp8 : wth h 256 = b8 := by rw [← hh, fp_last, hb8]
  have hp9 : wth h 512 = b9 := by rw [← hh, fp_data, hb9]
  refine d_ins (args := [.pointer (some ⟨g, 0, none⟩)]) 79 Try.func42 rfl rfl rfl ?_; intro w rs
  refine d_reg ?_
  refine h_q hflS rfl ?_
  refine h_act (post := fun g2 => [cell g2 28 #[.int .i64 0, .int .i64 0, .int .i64 0, .int .u64 0, .int .u64 0, .int .u64 0, .slice none 0 0, .int .u64 0, .bool false, .int .u64 0, .int .u64 0, .int .i64 0, .int .i64 0, .slice none 0 0, .bool false], RdT g l 0]) rfl (a_alloc ze_api_Msg rfl) ?_; rintro g2
  refine h_q hflS rfl ?_
  refine h_done (d_reg ?_)
  refine h_q hflS rfl ?_
  refine h_act (post := fun _ => [cell g2 28 #[.int .i64 0, .int .i64 0, .int .i64 0, .int .u64 0, .int .u64 0, .int .u64 0, .slice none 0 0, .int .u64 0, .bool false, .int .u64 0, .int .u64 0, .int .i64 0, .int .i64 0, .slice none 0 0, .bool false], RdT g l0 f0]) rfl (a_does (os' := fun _ => [cell g2 28 #[.int .i64 0, .int .i64 0, .int .i64 0, .int .u64 0, .int .u64 0, .int .u64 0, .slice none 0 0, .int .u64 0, .bool false, .int .u64 0, .int .u64 0, .int .i64 0, .int .i64 0, .slice none 0 0, .bool false], RdT g l0 f0]) [1] 0 (ent_of Try.func59 (by kernel_rfl) rfl) (rd_byte g l 0 6 (by decide) (k, l0, f0) h0) rfl rfl rfl (fun _ => rfl) rfl rfl rfl) ?_; rintro ⟨⟩
  refine h_val rfl (.int .i64 (k : Int)) (fun b w hb hH => exec_conv Try.underlying5 Try.underlying3 (IntWalk.i64_in _ (by omega)) rfl rfl hb) ?_
  refine h_q hflS rfl ?_
  refine h_acts (post := fun _ => [cell g2 28 #[.int .i64 (k : Int), .int .i64 0, .int .i64 0, .int .u64 0, .int .u64 0, .int .u64 0, .slice none 0 0, .int .u64 0, .bool false, .int .u64 0, .int .u64 0, .int .i64 0, .int .i64 0, .slice none 0 0, .bool false], RdT g l0 f0]) rfl rfl (a_store 0 (v := .int .i64 (k : Int)) #[.int .i64 (k : Int), .int .i64 0, .int .i64 0, .int .u64 0, .int .u64 0, .int .u64 0, .slice none 0 0, .int .u64 0, .bool false, .int .u64 0, .int .u64 0, .int .i64 0, .int .i64 0, .slice none 0 0, .bool false] ty_int.2 rfl rfl rfl rfl rfl rfl rfl rfl rfl) ?_; rintro ⟨⟩
  refine h_done ?_
  by_cases hk : k = 0
  · skip
    obtain ⟨b_, hb_⟩ : ∃ b_, (k != 0) = b_ := ⟨_, rfl⟩
    obtain rfl : b_ = false := by rw [← hb_, hk]; rfl
    rw [hb_] at h1 h2 h3
    have hz0 : fm (k : Int) = 0 := by rw [hk]; rfl
    obtain rfl : b1 = false := by rw [← hb1, hz0]; rfl
    obtain rfl : b2 = false := by rw [← hb2, hz0]; rfl
    obtain rfl : b3 = false := by rw [← hb3, hz0]; rfl
    obtain rfl : b4 = false := by rw [← hb4, hz0]; rfl
    obtain rfl : b5 = false := by rw [← hb5, hz0]; rfl
    obtain rfl : b6 = false := by rw [← hb6, hz0]; rfl
    obtain rfl : b7 = false := by rw [← hb7, hz0]; rfl
    obtain rfl : b8 = false := by rw [← hb8, hz0]; rfl
    obtain rfl : b9 = false := by rw [← hb9, hz0]; rfl
    obtain rfl : h = 0 := by rw [← hh, hk]; rfl
    obtain ⟨rfl, rfl, rfl⟩ : 0 = a ∧ l0 = l1 ∧ f0 = f1 := by simpa [rI, eq_comm] using h1
    obtain ⟨rfl, rfl, rfl⟩ : 0 = bb ∧ l0 = l2 ∧ f0 = f2 := by simpa [rI, eq_comm] using h2
    obtain ⟨rfl, rfl, rfl⟩ : 0 = t ∧ l0 = l3 ∧ f0 = f3 := by simpa [rI, eq_comm] using h3
    obtain ⟨rfl, rfl, rfl⟩ : 0 = i ∧ l0 = l4 ∧ f0 = f4 := by simpa [rI, eq_comm] using h4
    obtain ⟨rfl, rfl, rfl⟩ : 0 = lt ∧ l0 = l5 ∧ f0 = f5 := by simpa [rI, eq_comm] using h5
    obtain ⟨rfl, rfl, rfl⟩ : 0 = co ∧ l0 = l6 ∧ f0 = f6 := by simpa [rI, eq_comm] using h6
    obtain ⟨rfl, rfl, rfl⟩ : [] = es ∧ l0 = l7 ∧ f0 = f7 := by simpa [rI, eq_comm] using h7
    obtain ⟨rfl, rfl, rfl⟩ : 0 = rf ∧ l0 = l8 ∧ f0 = f8 := by simpa [rI, eq_comm] using h8
    obtain ⟨⟨rfl, rfl, rfl⟩, rfl, rfl⟩ : (0 = bi ∧ 0 = bt ∧ 0 = bc) ∧ l0 = l9 ∧ f0 = f9 := by simpa [rI] using h9
    obtain ⟨rfl, rfl, rfl⟩ : 0 = o ∧ l0 = l10 ∧ f0 = f10 := by simpa [rI, eq_comm] using h10
    obtain ⟨rfl, rfl, rfl⟩ : 0 = la ∧ l0 = l11 ∧ f0 = f11 := by simpa [rI, eq_comm] using h11
    obtain ⟨rfl, rfl, rfl⟩ : [] = d ∧ l0 = l' ∧ f0 = f' := by simpa [rI, eq_comm] using h12
    refine d_reg ?_
    refine h_q hflS rfl ?_
    refine h_val rfl (.int .i64 (k : Int)) (fun b w hb hH => exec_load rfl rfl (reads_one ty_int rfl) (hH.row 0 rfl) hb) ?_
    refine h_act (post := fun _ => [cell g2 28 #[.int .i64 (k : Int), .int .i64 0, .int .i64 0, .int .u64 0, .int .u64 0, .int .u64 0, .slice none 0 0, .int .u64 0, .bool false, .int .u64 0, .int .u64 0, .int .i64 0, .int .i64 0, .slice none 0 0, .bool false], RdT g l0 f0]) rfl (a_call (ent_of Try.func37 (by kernel_rfl) rfl) (fun w hH => fields_any w (k : Int) 0 hh) rfl rfl rfl) ?_; rintro ⟨⟩
    refine h_q hflS rfl ?_
    refine h_done (d_seq (d_reg ?_))
    refine h_q hflS rfl ?_
    refine h_val rfl (.bool true) (fun b w hb hH => exec_cmp rfl rfl rfl (cmp_eql_t rfl) hb) ?_
    refine h_done (d_then rfl ?_)
    refine d_new (t := Ents 36 (.slice none 0 0) ([])) (entsT_nil) ?_
    refine d_nilvec 5 1 encB ?_
    refine d_reg ?_
    refine h_q hflS rfl ?_
    refine h_val rfl (.agg #[.int .i64 (k : Int), .int .i64 0, .int .i64 0, .int .u64 0, .int .u64 0, .int .u64 0, .slice none 0 0, .int .u64 0, .bool false, .int .u64 0, .int .u64 0, .int .i64 0, .int .i64 0, .slice none 0 0, .bool false]) (fun b w hb hH => exec_load rfl rfl (reads_agg (cs := [.int .i64 (k : Int), .int .i64 0, .int .i64 0, .int .u64 0, .int .u64 0, .int .u64 0, .slice none 0 0, .int .u64 0, .bool false, .int .u64 0, .int .u64 0, .int .i64 0, .int .i64 0, .slice none 0 0, .bool false]) ty_api_Msg rfl) (hH.row 2 rfl) hb) ?_
    refine h_acts (post := fun _ => [Vec 5 1 encB (.slice none 0 0) ([]), Ents 36 (.slice none 0 0) ([]), cell g2 28 #[.int .i64 (k : Int), .int .i64 0, .int .i64 0, .int .u64 0, .int .u64 0, .int .u64 0, .slice none 0 0, .int .u64 0, .bool false, .int .u64 0, .int .u64 0, .int .i64 0, .int .i64 0, .slice none 0 0, .bool false], RdT g l0 f0]) rfl rfl (a_store 2 (v := .agg #[.int .i64 (k : Int), .int .i64 0, .int .i64 0, .int .u64 0, .int .u64 0, .int .u64 0, .slice none 0 0, .int .u64 0, .bool false, .int .u64 0, .int .u64 0, .int .i64 0, .int .i64 0, .slice none 0 0, .bool false]) #[.int .i64 (k : Int), .int .i64 0, .int .i64 0, .int .u64 0, .int .u64 0, .int .u64 0, .slice none 0 0, .int .u64 0, .bool false, .int .u64 0, .int .u64 0, .int .i64 0, .int .i64 0, .slice none 0 0, .bool false] ty_api_Msg.2 rfl rfl rfl rfl rfl rfl rfl rfl rfl) ?_; rintro ⟨⟩
    refine h_q hflS rfl ?_
    refine h_done (d_ret (f_then_ret ?_))
    exact f_fin2 (.cell 2 (v := .agg #[.int .i64 (k : Int), .int .i64 0, .int .i64 0, .int .u64 0, .int .u64 0, .int .u64 0, .slice none 0 0, .int .u64 0, .bool false, .int .u64 0, .int .u64 0, .int .i64 0, .int .i64 0, .slice none 0 0, .bool false]) (reads_agg (cs := [.int .i64 (k : Int), .int .i64 0, .int .i64 0, .int .u64 0, .int .u64 0, .int .u64 0, .slice none 0 0, .int .u64 0, .bool false, .int .u64 0, .int .u64 0, .int .i64 0, .int .i64 0, .slice none 0 0, .bool false]) ty_api_Msg rfl) rfl rfl) (.tmp rfl) (fun w h => tells (⟨⟨⟨(k : Int), 0, 0, 0, 0, 0, [], 0, false, 0, 0, 0, 0, [], false⟩, [], none, 0, none, 0⟩, 0, l0, f0⟩ : RdX) rfl [3, 1, 0] rfl h (fun z hz => ⟨z, .refl _, fact_add (xs := [_, _, _]) (show ROk _ _ from ⟨rfl, .inl ⟨rfl, rfl, fun _ => by rw [hm]; try rfl⟩⟩) hz⟩)) rfl
  · skip
    have hkb : (k != 0) = true := by simpa using hk
    rw [hkb] at h1 h2 h3
    have hp0 : wth h 1 = true := by rw [← hh]; exact fp_term (fm_nz hk6 hk)
    have hne : h ≠ 0 := by rw [← hh]; intro e; exact fm_nz hk6 hk ((fp_zero _).1 e)
    have hna := rbyte_le 7 l0 f0
    rw [show rbyte 7 l0 f0 = (a, l1, f1) from h1] at hna
    have hna : a ≤ 7 := hna
    have hnbb := rbyte_le 7 l1 f1
    rw [show rbyte 7 l1 f1 = (bb, l2, f2) from h2] at hnbb
    have hnbb : bb ≤ 7 := hnbb
    have g0 := rbyte_length 6 l 0
    rw [h0] at g0
    have g0 : l0.length ≤ l.length := g0
    have g1 := rbyte_length 7 l0 f0
    rw [show rbyte 7 l0 f0 = (a, l1, f1) from h1] at g1
    have g1 : l1.length ≤ l0.length := g1
    have g2_ := rbyte_length 7 l1 f1
    rw [show rbyte 7 l1 f1 = (bb, l2, f2) from h2] at g2_
    have g2_ : l2.length ≤ l1.length := g2_
    have g3 := rnum_length 72057594037927935 l2 f2
    rw [show rnum 72057594037927935 l2 f2 = (t, l3, f3) from h3] at g3
    have g3 : l3.length ≤ l2.length := g3
    have hlen6 : l6.length ≤ l3.length := by
            have g4 := rI_len (l := l3) (f := f3) b1 (0 : Nat) (rnum_length 72057594037927935 l3 f3)
            rw [h4] at g4
            have g5 := rI_len (l := l4) (f := f4) b2 (0 : Nat) (rnum_length 72057594037927935 l4 f4)
            rw [h5] at g5
            have g6 := rI_len (l := l5) (f := f5) b3 (0 : Nat) (rnum_length 72057594037927935 l5 f5)
            rw [h6] at g6
            simp only at g4 g5 g6
            omega
    refine d_reg ?_
    refine h_q hflS rfl ?_
    refine h_val rfl (.int .i64 (k : Int)) (fun b w hb hH => exec_load rfl rfl (reads_one ty_int rfl) (hH.row 0 rfl) hb) ?_
    refine h_act (post := fun _ => [cell g2 28 #[.int .i64 (k : Int), .int .i64 0, .int .i64 0, .int .u64 0, .int .u64 0, .int .u64 0, .slice none 0 0, .int .u64 0, .bool false, .int .u64 0, .int .u64 0, .int .i64 0, .int .i64 0, .slice none 0 0, .bool false], RdT g l0 f0]) rfl (a_call (ent_of Try.func37 (by kernel_rfl) rfl) (fun w hH => fields_any w (k : Int) h hh) rfl rfl rfl) ?_; rintro ⟨⟩
    refine h_q hflS rfl ?_
    refine h_done (d_seq (d_reg ?_))
    refine h_q hflS rfl ?_
    refine h_val rfl (.bool false) (fun b w hb hH => exec_cmp rfl rfl rfl (cmp_eql_f (by omega)) hb) ?_
    refine h_done (d_else rfl (d_skip (f_to (d_reg ?_))))
    refine h_q hflS rfl ?_
    refine h_act (post := fun _ => [cell g2 28 #[.int .i64 (k : Int), .int .i64 0, .int .i64 0, .int .u64 0, .int .u64 0, .int .u64 0, .slice none 0 0, .int .u64 0, .bool false, .int .u64 0, .int .u64 0, .int .i64 0, .int .i64 0, .slice none 0 0, .bool false], RdT g l1 f1]) rfl (a_does (os' := fun _ => [cell g2 28 #[.int .i64 (k : Int), .int .i64 0, .int .i64 0, .int .u64 0, .int .u64 0, .int .u64 0, .slice none 0 0, .int .u64 0, .bool false, .int .u64 0, .int .u64 0, .int .i64 0, .int .i64 0, .slice none 0 0, .bool false], RdT g l1 f1]) [1] 0 (ent_of Try.func59 (by kernel_rfl) rfl) (rd_byte g l0 f0 7 (by decide) (a, l1, f1) h1) rfl rfl rfl (fun _ => rfl) rfl rfl rfl) ?_; rintro ⟨⟩
    refine h_val rfl (.int .i64 (a : Int)) (fun b w hb hH => exec_conv Try.underlying5 Try.underlying3 (IntWalk.i64_in _ (by omega)) rfl rfl hb) ?_
    refine h_q hflS rfl ?_
    refine h_acts (post := fun _ => [cell g2 28 #[.int .i64 (k : Int), .int .i64 (a : Int), .int .i64 0, .int .u64 0, .int .u64 0, .int .u64 0, .slice none 0 0, .int .u64 0, .bool false, .int .u64 0, .int .u64 0, .int .i64 0, .int .i64 0, .slice none 0 0, .bool false], RdT g l1 f1]) rfl rfl (a_store 0 (v := .int .i64 (a : Int)) #[.int .i64 (k : Int), .int .i64 (a : Int), .int .i64 0, .int .u64 0, .int .u64 0, .int .u64 0, .slice none 0 0, .int .u64 0, .bool false, .int .u64 0, .int .u64 0, .int .i64 0, .int .i64 0, .slice none 0 0, .bool false] ty_int.2 rfl rfl rfl rfl rfl rfl rfl rfl rfl) ?_; rintro ⟨⟩
    refine h_done (d_reg ?_)
    refine h_q hflS rfl ?_
    refine h_act (post := fun _ => [cell g2 28 #[.int .i64 (k : Int), .int .i64 (a : Int), .int .i64 0, .int .u64 0, .int .u64 0, .int .u64 0, .slice none 0 0, .int .u64 0, .bool false, .int .u64 0, .int .u64 0, .int .i64 0, .int .i64 0, .slice none 0 0, .bool false], RdT g l2 f2]) rfl (a_does (os' := fun _ => [cell g2 28 #[.int .i64 (k : Int), .int .i64 (a : Int), .int .i64 0, .int .u64 0, .int .u64 0, .int .u64 0, .slice none 0 0, .int .u64 0, .bool false, .int .u64 0, .int .u64 0, .int .i64 0, .int .i64 0, .slice none 0 0, .bool false], RdT g l2 f2]) [1] 0 (ent_of Try.func59 (by kernel_rfl) rfl) (rd_byte g l1 f1 7 (by decide) (bb, l2, f2) h2) rfl rfl rfl (fun _ => rfl) rfl rfl rfl) ?_; rintro ⟨⟩
    refine h_val rfl (.int .i64 (bb : Int)) (fun b w hb hH => exec_conv Try.underlying5 Try.underlying3 (IntWalk.i64_in _ (by omega)) rfl rfl hb) ?_
    refine h_q hflS rfl ?_
    refine h_acts (post := fun _ => [cell g2 28 #[.int .i64 (k : Int), .int .i64 (a : Int), .int .i64 (bb : Int), .int .u64 0, .int .u64 0, .int .u64 0, .slice none 0 0, .int .u64 0, .bool false, .int .u64 0, .int .u64 0, .int .i64 0, .int .i64 0, .slice none 0 0, .bool false], RdT g l2 f2]) rfl rfl (a_store 0 (v := .int .i64 (bb : Int)) #[.int .i64 (k : Int), .int .i64 (a : Int), .int .i64 (bb : Int), .int .u64 0, .int .u64 0, .int .u64 0, .slice none 0 0, .int .u64 0, .bool false, .int .u64 0, .int .u64 0, .int .i64 0, .int .i64 0, .slice none 0 0, .bool false] ty_int.2 rfl rfl rfl rfl rfl rfl rfl rfl rfl) ?_; rintro ⟨⟩
    refine h_done (d_seq (d_reg ?_))
    refine h_q hflS rfl ?_
    refine h_act (post := fun _ => [cell g2 28 #[.int .i64 (k : Int), .int .i64 (a : Int), .int .i64 (bb : Int), .int .u64 0, .int .u64 0, .int .u64 0, .slice none 0 0, .int .u64 0, .bool false, .int .u64 0, .int .u64 0, .int .i64 0, .int .i64 0, .slice none 0 0, .bool false], RdT g l2 f2]) rfl (a_call (ent_of Try.func49 (by kernel_rfl) rfl) (fun w hH => with_r w h 1 hlt (by decide) true hp0) rfl rfl rfl) ?_; rintro ⟨⟩
    refine h_done (d_then rfl (d_reg1 ?_))
    refine h_q hflS rfl ?_
    refine h_act (post := fun _ => [cell g2 28 #[.int .i64 (k : Int), .int .i64 (a : Int), .int .i64 (bb : Int), .int .u64 0, .int .u64 0, .int .u64 0, .slice none 0 0, .int .u64 0, .bool false, .int .u64 0, .int .u64 0, .int .i64 0, .int .i64 0, .slice none 0 0, .bool false], RdT g l3 f3]) rfl (a_does (os' := fun _ => [cell g2 28 #[.int .i64 (k : Int), .int .i64 (a : Int), .int .i64 (bb : Int), .int .u64 0, .int .u64 0, .int .u64 0, .slice none 0 0, .int .u64 0, .bool false, .int .u64 0, .int .u64 0, .int .i64 0, .int .i64 0, .slice none 0 0, .bool false], RdT g l3 f3]) [1] 0 (ent_of Try.func60 (by kernel_rfl) rfl) (rd_num g l2 f2 72057594037927935 (by decide) (t, l3, f3) h3) rfl rfl rfl (fun _ => rfl) rfl rfl rfl) ?_; rintro ⟨⟩
    refine h_q hflS rfl ?_
    refine h_acts (post := fun _ => [cell g2 28 #[.int .i64 (k : Int), .int .i64 (a : Int), .int .i64 (bb : Int), .int .u64 (t : Int), .int .u64 0, .int .u64 0, .slice none 0 0, .int .u64 0, .bool false, .int .u64 0, .int .u64 0, .int .i64 0, .int .i64 0, .slice none 0 0, .bool false], RdT g l3 f3]) rfl rfl (a_store 0 (v := .int .u64 (t : Int)) #[.int .i64 (k : Int), .int .i64 (a : Int), .int .i64 (bb : Int), .int .u64 (t : Int), .int .u64 0, .int .u64 0, .slice none 0 0, .int .u64 0, .bool false, .int .u64 0, .int .u64 0, .int .i64 0, .int .i64 0, .slice none 0 0, .bool false] ty_uint64.2 rfl rfl rfl rfl rfl rfl rfl rfl rfl) ?_; rintro ⟨⟩
    refine h_nil (f_to (d_seq (d_reg ?_)))
    refine h_q hflS rfl ?_
    refine h_act (post := fun _ => [cell g2 28 #[.int .i64 (k : Int), .int .i64 (a : Int), .int .i64 (bb : Int), .int .u64 (t : Int), .int .u64 0, .int .u64 0, .slice none 0 0, .int .u64 0, .bool false, .int .u64 0, .int .u64 0, .int .i64 0, .int .i64 0, .slice none 0 0, .bool false], RdT g l3 f3]) rfl (a_call (ent_of Try.func49 (by kernel_rfl) rfl) (fun w hH => with_r w h 2 hlt (by decide) b1 hp1) rfl rfl rfl) ?_; rintro ⟨⟩
    refine h_done ?_
    refine d_mid [(0, .pointer (some ⟨g, 0, none⟩)), (2, .pointer (some ⟨g2, 0, none⟩)), (3, .int .i64 0), (4, .int .i64 (h : Int))] [cell g2 28 #[.int .i64 (k : Int), .int .i64 (a : Int), .int .i64 (bb : Int), .int .u64 (t : Int), .int .u64 (i : Int), .int .u64 0, .slice none 0 0, .int .u64 0, .bool false, .int .u64 0, .int .u64 0, .int .i64 0, .int .i64 0, .slice none 0 0, .bool false], RdT g l4 f4] ?_ ?_
    · skip
      cases b1
      · skip
        obtain ⟨rfl, rfl, rfl⟩ : 0 = i ∧ l3 = l4 ∧ f3 = f4 := by simpa [rI, eq_comm] using h4
        refine d_else rfl (d_skip ?_)
        exact f_mid 0 ⟨rfl, rfl, rfl, rfl, trivial⟩ rfl
      · skip
        refine d_then rfl (d_reg1 ?_)
        refine h_q hflS rfl ?_
        refine h_act (post := fun _ => [cell g2 28 #[.int .i64 (k : Int), .int .i64 (a : Int), .int .i64 (bb : Int), .int .u64 (t : Int), .int .u64 0, .int .u64 0, .slice none 0 0, .int .u64 0, .bool false, .int .u64 0, .int .u64 0, .int .i64 0, .int .i64 0, .slice none 0 0, .bool false], RdT g l4 f4]) rfl (a_does (os' := fun _ => [cell g2 28 #[.int .i64 (k : Int), .int .i64 (a : Int), .int .i64 (bb : Int), .int .u64 (t : Int), .int .u64 0, .int .u64 0, .slice none 0 0, .int .u64 0, .bool false, .int .u64 0, .int .u64 0, .int .i64 0, .int .i64 0, .slice none 0 0, .bool false], RdT g l4 f4]) [1] 0 (ent_of Try.func60 (by kernel_rfl) rfl) (rd_num g l3 f3 72057594037927935 (by decide) (i, l4, f4) h4) rfl rfl rfl (fun _ => rfl) rfl rfl rfl) ?_; rintro ⟨⟩
        refine h_q hflS rfl ?_
        refine h_acts (post := fun _ => [cell g2 28 #[.int .i64 (k : Int), .int .i64 (a : Int), .int .i64 (bb : Int), .int .u64 (t : Int), .int .u64 (i : Int), .int .u64 0, .slice none 0 0, .int .u64 0, .bool false, .int .u64 0, .int .u64 0, .int .i64 0, .int .i64 0, .slice none 0 0, .bool false], RdT g l4 f4]) rfl rfl (a_store 0 (v := .int .u64 (i : Int)) #[.int .i64 (k : Int), .int .i64 (a : Int), .int .i64 (bb : Int), .int .u64 (t : Int), .int .u64 (i : Int), .int .u64 0, .slice none 0 0, .int .u64 0, .bool false, .int .u64 0, .int .u64 0, .int .i64 0, .int .i64 0, .slice none 0 0, .bool false] ty_uint64.2 rfl rfl rfl rfl rfl rfl rfl rfl rfl) ?_; rintro ⟨⟩
        refine h_nil ?_
        exact f_mid 0 ⟨rfl, rfl, rfl, rfl, trivial⟩ rfl
    refine f_to (d_seq (d_reg ?_))
    refine h_q hflS rfl ?_
    refine h_act (post := fun _ => [cell g2 28 #[.int .i64 (k : Int), .int .i64 (a : Int), .int .i64 (bb : Int), .int .u64 (t : Int), .int .u64 (i : Int), .int .u64 0, .slice none 0 0, .int .u64 0, .bool false, .int .u64 0, .int .u64 0, .int .i64 0, .int .i64 0, .slice none 0 0, .bool false], RdT g l4 f4]) rfl (a_call (ent_of Try.func49 (by kernel_rfl) rfl) (fun w hH => with_r w h 4 hlt (by decide) b2 hp2) rfl rfl rfl) ?_; rintro ⟨⟩
    refine h_done ?_
    refine d_mid [(0, .pointer (some ⟨g, 0, none⟩)), (2, .pointer (some ⟨g2, 0, none⟩)), (3, .int .i64 0), (4, .int .i64 (h : Int))] [cell g2 28 #[.int .i64 (k : Int), .int .i64 (a : Int), .int .i64 (bb : Int), .int .u64 (t : Int), .int .u64 (i : Int), .int .u64 (lt : Int), .slice none 0 0, .int .u64 0, .bool false, .int .u64 0, .int .u64 0, .int .i64 0, .int .i64 0, .slice none 0 0, .bool false], RdT g l5 f5] ?_ ?_
    · skip
      cases b2
      · skip
        obtain ⟨rfl, rfl, rfl⟩ : 0 = lt ∧ l4 = l5 ∧ f4 = f5 := by simpa [rI, eq_comm] using h5
        refine d_else rfl (d_skip ?_)
        exact f_mid 0 ⟨rfl, rfl, rfl, rfl, trivial⟩ rfl
      · skip
        refine d_then rfl (d_reg1 ?_)
        refine h_q hflS rfl ?_
        refine h_act (post := fun _ => [cell g2 28 #[.int .i64 (k : Int), .int .i64 (a : Int), .int .i64 (bb : Int), .int .u64 (t : Int), .int .u64 (i : Int), .int .u64 0, .slice none 0 0, .int .u64 0, .bool false, .int .u64 0, .int .u64 0, .int .i64 0, .int .i64 0, .slice none 0 0, .bool false], RdT g l5 f5]) rfl (a_does (os' := fun _ => [cell g2 28 #[.int .i64 (k : Int), .int .i64 (a : Int), .int .i64 (bb : Int), .int .u64 (t : Int), .int .u64 (i : Int), .int .u64 0, .slice none 0 0, .int .u64 0, .bool false, .int .u64 0, .int .u64 0, .int .i64 0, .int .i64 0, .slice none 0 0, .bool false], RdT g l5 f5]) [1] 0 (ent_of Try.func60 (by kernel_rfl) rfl) (rd_num g l4 f4 72057594037927935 (by decide) (lt, l5, f5) h5) rfl rfl rfl (fun _ => rfl) rfl rfl rfl) ?_; rintro ⟨⟩
        refine h_q hflS rfl ?_
        refine h_acts (post := fun _ => [cell g2 28 #[.int .i64 (k : Int), .int .i64 (a : Int), .int .i64 (bb : Int), .int .u64 (t : Int), .int .u64 (i : Int), .int .u64 (lt : Int), .slice none 0 0, .int .u64 0, .bool false, .int .u64 0, .int .u64 0, .int .i64 0, .int .i64 0, .slice none 0 0, .bool false], RdT g l5 f5]) rfl rfl (a_store 0 (v := .int .u64 (lt : Int)) #[.int .i64 (k : Int), .int .i64 (a : Int), .int .i64 (bb : Int), .int .u64 (t : Int), .int .u64 (i : Int), .int .u64 (lt : Int), .slice none 0 0, .int .u64 0, .bool false, .int .u64 0, .int .u64 0, .int .i64 0, .int .i64 0, .slice none 0 0, .bool false] ty_uint64.2 rfl rfl rfl rfl rfl rfl rfl rfl rfl) ?_; rintro ⟨⟩
        refine h_nil ?_
        exact f_mid 0 ⟨rfl, rfl, rfl, rfl, trivial⟩ rfl
    refine f_to (d_seq (d_reg ?_))
    refine h_q hflS rfl ?_
    refine h_act (post := fun _ => [cell g2 28 #[.int .i64 (k : Int), .int .i64 (a : Int), .int .i64 (bb : Int), .int .u64 (t : Int), .int .u64 (i : Int), .int .u64 (lt : Int), .slice none 0 0, .int .u64 0, .bool false, .int .u64 0, .int .u64 0, .int .i64 0, .int .i64 0, .slice none 0 0, .bool false], RdT g l5 f5]) rfl (a_call (ent_of Try.func49 (by kernel_rfl) rfl) (fun w hH => with_r w h 8 hlt (by decide) b3 hp3) rfl rfl rfl) ?_; rintro ⟨⟩
    refine h_done ?_
    refine d_mid [(0, .pointer (some ⟨g, 0, none⟩)), (2, .pointer (some ⟨g2, 0, none⟩)), (3, .int .i64 0), (4, .int .i64 (h : Int))] [cell g2 28 #[.int .i64 (k : Int), .int .i64 (a : Int), .int .i64 (bb : Int), .int .u64 (t : Int), .int .u64 (i : Int), .int .u64 (lt : Int), .slice none 0 0, .int .u64 (co : Int), .bool false, .int .u64 0, .int .u64 0, .int .i64 0, .int .i64 0, .slice none 0 0, .bool false], RdT g l6 f6] ?_ ?_
    · skip
      cases b3
      · skip
        obtain ⟨rfl, rfl, rfl⟩ : 0 = co ∧ l5 = l6 ∧ f5 = f6 := by simpa [rI, eq_comm] using h6
        refine d_else rfl (d_skip ?_)
        exact f_mid 0 ⟨rfl, rfl, rfl, rfl, trivial⟩ rfl
      · skip
        refine d_then rfl (d_reg1 ?_)
        refine h_q hflS rfl ?_
        refine h_act (post := fun _ => [cell g2 28 #[.int .i64 (k : Int), .int .i64 (a : Int), .int .i64 (bb : Int), .int .u64 (t : Int), .int .u64 (i : Int), .int .u64 (lt : Int), .slice none 0 0, .int .u64 0, .bool false, .int .u64 0, .int .u64 0, .int .i64 0, .int .i64 0, .slice none 0 0, .bool false], RdT g l6 f6]) rfl (a_does (os' := fun _ => [cell g2 28 #[.int .i64 (k : Int), .int .i64 (a : Int), .int .i64 (bb : Int), .int .u64 (t : Int), .int .u64 (i : Int), .int .u64 (lt : Int), .slice none 0 0, .int .u64 0, .bool false, .int .u64 0, .int .u64 0, .int .i64 0, .int .i64 0, .slice none 0 0, .bool false], RdT g l6 f6]) [1] 0 (ent_of Try.func60 (by kernel_rfl) rfl) (rd_num g l5 f5 72057594037927935 (by decide) (co, l6, f6) h6) rfl rfl rfl (fun _ => rfl) rfl rfl rfl) ?_; rintro ⟨⟩
        refine h_q hflS rfl ?_
        refine h_acts (post := fun _ => [cell g2 28 #[.int .i64 (k : Int), .int .i64 (a : Int), .int .i64 (bb : Int), .int .u64 (t : Int), .int .u64 (i : Int), .int .u64 (lt : Int), .slice none 0 0, .int .u64 (co : Int), .bool false, .int .u64 0, .int .u64 0, .int .i64 0, .int .i64 0, .slice none 0 0, .bool false], RdT g l6 f6]) rfl rfl (a_store 0 (v := .int .u64 (co : Int)) #[.int .i64 (k : Int), .int .i64 (a : Int), .int .i64 (bb : Int), .int .u64 (t : Int), .int .u64 (i : Int), .int .u64 (lt : Int), .slice none 0 0, .int .u64 (co : Int), .bool false, .int .u64 0, .int .u64 0, .int .i64 0, .int .i64 0, .slice none 0 0, .bool false] ty_uint64.2 rfl rfl rfl rfl rfl rfl rfl rfl rfl) ?_; rintro ⟨⟩
        refine h_nil ?_
        exact f_mid 0 ⟨rfl, rfl, rfl, rfl, trivial⟩ rfl
    refine f_to (d_seq (d_reg ?_))
    refine h_q hflS rfl ?_
    refine h_act (post := fun _ => [cell g2 28 #[.int .i64 (k : Int), .int .i64 (a : Int), .int .i64 (bb : Int), .int .u64 (t : Int), .int .u64 (i : Int), .int .u64 (lt : Int), .slice none 0 0, .int .u64 (co : Int), .bool false, .int .u64 0, .int .u64 0, .int .i64 0, .int .i64 0, .slice none 0 0, .bool false], RdT g l6 f6]) rfl (a_call (ent_of Try.func49 (by kernel_rfl) rfl) (fun w hH => with_r w h 16 hlt (by decide) b4 hp4) rfl rfl rfl) ?_; rintro ⟨⟩
    refine h_done ?_
    cases b4
    · skip
      obtain ⟨rfl, rfl, rfl⟩ : [] = es ∧ l6 = l7 ∧ f6 = f7 := by simpa [rI, eq_comm] using h7
      refine d_new (t := Ents 36 (.slice none 0 0) ([])) (entsT_nil) ?_
      refine d_else rfl (d_skip (f_to (d_seq (d_reg ?_))))
      refine h_q hflS rfl ?_
      refine h_act (post := fun _ => [Ents 36 (.slice none 0 0) ([]), cell g2 28 #[.int .i64 (k : Int), .int .i64 (a : Int), .int .i64 (bb : Int), .int .u64 (t : Int), .int .u64 (i : Int), .int .u64 (lt : Int), .slice none 0 0, .int .u64 (co : Int), .bool false, .int .u64 0, .int .u64 0, .int .i64 0, .int .i64 0, .slice none 0 0, .bool false], RdT g l6 f6]) rfl (a_call (ent_of Try.func49 (by kernel_rfl) rfl) (fun w hH => with_r w h 32 hlt (by decide) b5 hp5) rfl rfl rfl) ?_; rintro ⟨⟩
      refine h_done ?_
      refine d_mid [(0, .pointer (some ⟨g, 0, none⟩)), (2, .pointer (some ⟨g2, 0, none⟩)), (3, .int .i64 0), (4, .int .i64 (h : Int))] [Ents 36 (.slice none 0 0) ([]), cell g2 28 #[.int .i64 (k : Int), .int .i64 (a : Int), .int .i64 (bb : Int), .int .u64 (t : Int), .int .u64 (i : Int), .int .u64 (lt : Int), .slice none 0 0, .int .u64 (co : Int), .bool (rf == 1), .int .u64 0, .int .u64 0, .int .i64 0, .int .i64 0, .slice none 0 0, .bool false], RdT g l8 f8] ?_ ?_
      · skip
        cases b5
        · skip
          obtain ⟨rfl, rfl, rfl⟩ : 0 = rf ∧ l6 = l8 ∧ f6 = f8 := by simpa [rI, eq_comm] using h8
          refine d_else rfl (d_skip ?_)
          exact f_mid 0 ⟨rfl, rfl, rfl, rfl, trivial⟩ rfl
        · skip
          refine d_then rfl (d_reg1 ?_)
          refine h_q hflS rfl ?_
          refine h_act (post := fun _ => [Ents 36 (.slice none 0 0) ([]), cell g2 28 #[.int .i64 (k : Int), .int .i64 (a : Int), .int .i64 (bb : Int), .int .u64 (t : Int), .int .u64 (i : Int), .int .u64 (lt : Int), .slice none 0 0, .int .u64 (co : Int), .bool false, .int .u64 0, .int .u64 0, .int .i64 0, .int .i64 0, .slice none 0 0, .bool false], RdT g l8 f8]) rfl (a_does (os' := fun _ => [Ents 36 (.slice none 0 0) ([]), cell g2 28 #[.int .i64 (k : Int), .int .i64 (a : Int), .int .i64 (bb : Int), .int .u64 (t : Int), .int .u64 (i : Int), .int .u64 (lt : Int), .slice none 0 0, .int .u64 (co : Int), .bool false, .int .u64 0, .int .u64 0, .int .i64 0, .int .i64 0, .slice none 0 0, .bool false], RdT g l8 f8]) [2] 0 (ent_of Try.func82 (by kernel_rfl) rfl) (readBool_does g l6 f6 rf l8 f8 h8) rfl rfl rfl (fun _ => rfl) rfl rfl rfl) ?_; rintro ⟨⟩
          refine h_q hflS rfl ?_
          refine h_acts (post := fun _ => [Ents 36 (.slice none 0 0) ([]), cell g2 28 #[.int .i64 (k : Int), .int .i64 (a : Int), .int .i64 (bb : Int), .int .u64 (t : Int), .int .u64 (i : Int), .int .u64 (lt : Int), .slice none 0 0, .int .u64 (co : Int), .bool (rf == 1), .int .u64 0, .int .u64 0, .int .i64 0, .int .i64 0, .slice none 0 0, .bool false], RdT g l8 f8]) rfl rfl (a_store 1 (v := .bool (rf == 1)) #[.int .i64 (k : Int), .int .i64 (a : Int), .int .i64 (bb : Int), .int .u64 (t : Int), .int .u64 (i : Int), .int .u64 (lt : Int), .slice none 0 0, .int .u64 (co : Int), .bool (rf == 1), .int .u64 0, .int .u64 0, .int .i64 0, .int .i64 0, .slice none 0 0, .bool false] ty_bool.2 rfl rfl rfl rfl rfl rfl rfl rfl rfl) ?_; rintro ⟨⟩
          refine h_nil ?_
          exact f_mid 0 ⟨rfl, rfl, rfl, rfl, trivial⟩ rfl
      refine f_to (d_seq (d_reg ?_))
      refine h_q hflS rfl ?_
      refine h_act (post := fun _ => [Ents 36 (.slice none 0 0) ([]), cell g2 28 #[.int .i64 (k : Int), .int .i64 (a : Int), .int .i64 (bb : Int), .int .u64 (t : Int), .int .u64 (i : Int), .int .u64 (lt : Int), .slice none 0 0, .int .u64 (co : Int), .bool (rf == 1), .int .u64 0, .int .u64 0, .int .i64 0, .int .i64 0, .slice none 0 0, .bool false], RdT g l8 f8]) rfl (a_call (ent_of Try.func49 (by kernel_rfl) rfl) (fun w hH => with_r w h 64 hlt (by decide) b6 hp6) rfl rfl rfl) ?_; rintro ⟨⟩
      refine h_done ?_
      refine d_mid [(0, .pointer (some ⟨g, 0, none⟩)), (2, .pointer (some ⟨g2, 0, none⟩)), (3, .int .i64 0), (4, .int .i64 (h : Int))] [Ents 36 (.slice none 0 0) ([]), cell g2 28 #[.int .i64 (k : Int), .int .i64 (a : Int), .int .i64 (bb : Int), .int .u64 (t : Int), .int .u64 (i : Int), .int .u64 (lt : Int), .slice none 0 0, .int .u64 (co : Int), .bool (rf == 1), .int .u64 bi, .int .u64 bt, .int .i64 bc, .int .i64 0, .slice none 0 0, .bool false], RdT g l9 f9] ?_ ?_
      · skip
        cases b6
        · skip
          obtain ⟨⟨rfl, rfl, rfl⟩, rfl, rfl⟩ : (0 = bi ∧ 0 = bt ∧ 0 = bc) ∧ l8 = l9 ∧ f8 = f9 := by simpa [rI] using h9
          refine d_else rfl (d_skip ?_)
          exact f_mid 0 ⟨rfl, rfl, rfl, rfl, trivial⟩ rfl
        · skip
          refine d_then rfl (d_reg1 ?_)
          refine h_q hflS rfl ?_
          refine h_act (post := fun _ => [Ents 36 (.slice none 0 0) ([]), cell g2 28 #[.int .i64 (k : Int), .int .i64 (a : Int), .int .i64 (bb : Int), .int .u64 (t : Int), .int .u64 (i : Int), .int .u64 (lt : Int), .slice none 0 0, .int .u64 (co : Int), .bool (rf == 1), .int .u64 0, .int .u64 0, .int .i64 0, .int .i64 0, .slice none 0 0, .bool false], RdT g l9 f9]) rfl (a_does (os' := fun _ => [Ents 36 (.slice none 0 0) ([]), cell g2 28 #[.int .i64 (k : Int), .int .i64 (a : Int), .int .i64 (bb : Int), .int .u64 (t : Int), .int .u64 (i : Int), .int .u64 (lt : Int), .slice none 0 0, .int .u64 (co : Int), .bool (rf == 1), .int .u64 0, .int .u64 0, .int .i64 0, .int .i64 0, .slice none 0 0, .bool false], RdT g l9 f9]) [2] 0 (ent_of Try.func83 (by kernel_rfl) rfl) (readBase_does g l8 f8 bi bt bc l9 f9 h9) rfl rfl rfl (fun _ => rfl) rfl rfl rfl) ?_; rintro ⟨⟩
          refine h_q hflS rfl ?_
          refine h_acts (post := fun _ => [Ents 36 (.slice none 0 0) ([]), cell g2 28 #[.int .i64 (k : Int), .int .i64 (a : Int), .int .i64 (bb : Int), .int .u64 (t : Int), .int .u64 (i : Int), .int .u64 (lt : Int), .slice none 0 0, .int .u64 (co : Int), .bool (rf == 1), .int .u64 bi, .int .u64 bt, .int .i64 bc, .int .i64 0, .slice none 0 0, .bool false], RdT g l9 f9]) rfl rfl (a_store 1 (v := .agg #[.int .u64 bi, .int .u64 bt, .int .i64 bc]) #[.int .i64 (k : Int), .int .i64 (a : Int), .int .i64 (bb : Int), .int .u64 (t : Int), .int .u64 (i : Int), .int .u64 (lt : Int), .slice none 0 0, .int .u64 (co : Int), .bool (rf == 1), .int .u64 bi, .int .u64 bt, .int .i64 bc, .int .i64 0, .slice none 0 0, .bool false] ty_api_Base.2 rfl rfl rfl rfl rfl rfl rfl rfl rfl) ?_; rintro ⟨⟩
          refine h_nil ?_
          exact f_mid 0 ⟨rfl, rfl, rfl, rfl, trivial⟩ rfl
      refine f_to (d_seq (d_reg ?_))
      refine h_q hflS rfl ?_
      refine h_act (post := fun _ => [Ents 36 (.slice none 0 0) ([]), cell g2 28 #[.int .i64 (k : Int), .int .i64 (a : Int), .int .i64 (bb : Int), .int .u64 (t : Int), .int .u64 (i : Int), .int .u64 (lt : Int), .slice none 0 0, .int .u64 (co : Int), .bool (rf == 1), .int .u64 bi, .int .u64 bt, .int .i64 bc, .int .i64 0, .slice none 0 0, .bool false], RdT g l9 f9]) rfl (a_call (ent_of Try.func49 (by kernel_rfl) rfl) (fun w hH => with_r w h 128 hlt (by decide) b7 hp7) rfl rfl rfl) ?_; rintro ⟨⟩
      refine h_done ?_
      refine d_mid [(0, .pointer (some ⟨g, 0, none⟩)), (2, .pointer (some ⟨g2, 0, none⟩)), (3, .int .i64 0), (4, .int .i64 (h : Int))] [Ents 36 (.slice none 0 0) ([]), cell g2 28 #[.int .i64 (k : Int), .int .i64 (a : Int), .int .i64 (bb : Int), .int .u64 (t : Int), .int .u64 (i : Int), .int .u64 (lt : Int), .slice none 0 0, .int .u64 (co : Int), .bool (rf == 1), .int .u64 bi, .int .u64 bt, .int .i64 bc, .int .i64 (o : Int), .slice none 0 0, .bool false], RdT g l10 f10] ?_ ?_
      · skip
        cases b7
        · skip
          obtain ⟨rfl, rfl, rfl⟩ : 0 = o ∧ l9 = l10 ∧ f9 = f10 := by simpa [rI, eq_comm] using h10
          refine d_else rfl (d_skip ?_)
          exact f_mid 0 ⟨rfl, rfl, rfl, rfl, trivial⟩ rfl
        · skip
          have ho := rnum_most 32768 l9 f9
          rw [show rnum 32768 l9 f9 = (o, l10, f10) from h10] at ho
          have ho : o ≤ 32768 := ho
          refine d_then rfl (d_reg1 ?_)
          refine h_q hflS rfl ?_
          refine h_act (post := fun _ => [Ents 36 (.slice none 0 0) ([]), cell g2 28 #[.int .i64 (k : Int), .int .i64 (a : Int), .int .i64 (bb : Int), .int .u64 (t : Int), .int .u64 (i : Int), .int .u64 (lt : Int), .slice none 0 0, .int .u64 (co : Int), .bool (rf == 1), .int .u64 bi, .int .u64 bt, .int .i64 bc, .int .i64 0, .slice none 0 0, .bool false], RdT g l10 f10]) rfl (a_does (os' := fun _ => [Ents 36 (.slice none 0 0) ([]), cell g2 28 #[.int .i64 (k : Int), .int .i64 (a : Int), .int .i64 (bb : Int), .int .u64 (t : Int), .int .u64 (i : Int), .int .u64 (lt : Int), .slice none 0 0, .int .u64 (co : Int), .bool (rf == 1), .int .u64 bi, .int .u64 bt, .int .i64 bc, .int .i64 0, .slice none 0 0, .bool false], RdT g l10 f10]) [2] 0 (ent_of Try.func60 (by kernel_rfl) rfl) (rd_num g l9 f9 32768 (by decide) (o, l10, f10) h10) rfl rfl rfl (fun _ => rfl) rfl rfl rfl) ?_; rintro ⟨⟩
          refine h_val rfl (.int .i64 (o : Int)) (fun b w hb hH => exec_conv Try.underlying22 Try.underlying3 (IntWalk.i64_in _ (by omega)) rfl rfl hb) ?_
          refine h_q hflS rfl ?_
          refine h_acts (post := fun _ => [Ents 36 (.slice none 0 0) ([]), cell g2 28 #[.int .i64 (k : Int), .int .i64 (a : Int), .int .i64 (bb : Int), .int .u64 (t : Int), .int .u64 (i : Int), .int .u64 (lt : Int), .slice none 0 0, .int .u64 (co : Int), .bool (rf == 1), .int .u64 bi, .int .u64 bt, .int .i64 bc, .int .i64 (o : Int), .slice none 0 0, .bool false], RdT g l10 f10]) rfl rfl (a_store 1 (v := .int .i64 (o : Int)) #[.int .i64 (k : Int), .int .i64 (a : Int), .int .i64 (bb : Int), .int .u64 (t : Int), .int .u64 (i : Int), .int .u64 (lt : Int), .slice none 0 0, .int .u64 (co : Int), .bool (rf == 1), .int .u64 bi, .int .u64 bt, .int .i64 bc, .int .i64 (o : Int), .slice none 0 0, .bool false] ty_int.2 rfl rfl rfl rfl rfl rfl rfl rfl rfl) ?_; rintro ⟨⟩
          refine h_nil ?_
          exact f_mid 0 ⟨rfl, rfl, rfl, rfl, trivial⟩ rfl
      refine f_to (d_seq (d_reg ?_))
      refine h_q hflS rfl ?_
      refine h_act (post := fun _ => [Ents 36 (.slice none 0 0) ([]), cell g2 28 #[.int .i64 (k : Int), .int .i64 (a : Int), .int .i64 (bb : Int), .int .u64 (t : Int), .int .u64 (i : Int), .int .u64 (lt : Int), .slice none 0 0, .int .u64 (co : Int), .bool (rf == 1), .int .u64 bi, .int .u64 bt, .int .i64 bc, .int .i64 (o : Int), .slice none 0 0, .bool false], RdT g l10 f10]) rfl (a_call (ent_of Try.func49 (by kernel_rfl) rfl) (fun w hH => with_r w h 256 hlt (by decide) b8 hp8) rfl rfl rfl) ?_; rintro ⟨⟩
      refine h_done ?_
      refine d_mid [(0, .pointer (some ⟨g, 0, none⟩)), (2, .pointer (some ⟨g2, 0, none⟩)), (3, .int .i64 0), (4, .int .i64 (h : Int))] [Ents 36 (.slice none 0 0) ([]), cell g2 28 #[.int .i64 (k : Int), .int .i64 (a : Int), .int .i64 (bb : Int), .int .u64 (t : Int), .int .u64 (i : Int), .int .u64 (lt : Int), .slice none 0 0, .int .u64 (co : Int), .bool (rf == 1), .int .u64 bi, .int .u64 bt, .int .i64 bc, .int .i64 (o : Int), .slice none 0 0, .bool (la == 1)], RdT g l11 f11] ?_ ?_
      · skip
        cases b8
        · skip
          obtain ⟨rfl, rfl, rfl⟩ : 0 = la ∧ l10 = l11 ∧ f10 = f11 := by simpa [rI, eq_comm] using h11
          refine d_else rfl (d_skip ?_)
          exact f_mid 0 ⟨rfl, rfl, rfl, rfl, trivial⟩ rfl
        · skip
          refine d_then rfl (d_reg1 ?_)
          refine h_q hflS rfl ?_
          refine h_act (post := fun _ => [Ents 36 (.slice none 0 0) ([]), cell g2 28 #[.int .i64 (k : Int), .int .i64 (a : Int), .int .i64 (bb : Int), .int .u64 (t : Int), .int .u64 (i : Int), .int .u64 (lt : Int), .slice none 0 0, .int .u64 (co : Int), .bool (rf == 1), .int .u64 bi, .int .u64 bt, .int .i64 bc, .int .i64 (o : Int), .slice none 0 0, .bool false], RdT g l11 f11]) rfl (a_does (os' := fun _ => [Ents 36 (.slice none 0 0) ([]), cell g2 28 #[.int .i64 (k : Int), .int .i64 (a : Int), .int .i64 (bb : Int), .int .u64 (t : Int), .int .u64 (i : Int), .int .u64 (lt : Int), .slice none 0 0, .int .u64 (co : Int), .bool (rf == 1), .int .u64 bi, .int .u64 bt, .int .i64 bc, .int .i64 (o : Int), .slice none 0 0, .bool false], RdT g l11 f11]) [2] 0 (ent_of Try.func82 (by kernel_rfl) rfl) (readBool_does g l10 f10 la l11 f11 h11) rfl rfl rfl (fun _ => rfl) rfl rfl rfl) ?_; rintro ⟨⟩
          refine h_q hflS rfl ?_
          refine h_acts (post := fun _ => [Ents 36 (.slice none 0 0) ([]), cell g2 28 #[.int .i64 (k : Int), .int .i64 (a : Int), .int .i64 (bb : Int), .int .u64 (t : Int), .int .u64 (i : Int), .int .u64 (lt : Int), .slice none 0 0, .int .u64 (co : Int), .bool (rf == 1), .int .u64 bi, .int .u64 bt, .int .i64 bc, .int .i64 (o : Int), .slice none 0 0, .bool (la == 1)], RdT g l11 f11]) rfl rfl (a_store 1 (v := .bool (la == 1)) #[.int .i64 (k : Int), .int .i64 (a : Int), .int .i64 (bb : Int), .int .u64 (t : Int), .int .u64 (i : Int), .int .u64 (lt : Int), .slice none 0 0, .int .u64 (co : Int), .bool (rf == 1), .int .u64 bi, .int .u64 bt, .int .i64 bc, .int .i64 (o : Int), .slice none 0 0, .bool (la == 1)] ty_bool.2 rfl rfl rfl rfl rfl rfl rfl rfl rfl) ?_; rintro ⟨⟩
          refine h_nil ?_
          exact f_mid 0 ⟨rfl, rfl, rfl, rfl, trivial⟩ rfl
      refine f_to (d_seq (d_reg ?_))
      refine h_q hflS rfl ?_
      refine h_act (post := fun _ => [Ents 36 (.slice none 0 0) ([]), cell g2 28 #[.int .i64 (k : Int), .int .i64 (a : Int), .int .i64 (bb : Int), .int .u64 (t : Int), .int .u64 (i : Int), .int .u64 (lt : Int), .slice none 0 0, .int .u64 (co : Int), .bool (rf == 1), .int .u64 bi, .int .u64 bt, .int .i64 bc, .int .i64 (o : Int), .slice none 0 0, .bool (la == 1)], RdT g l11 f11]) rfl (a_call (ent_of Try.func49 (by kernel_rfl) rfl) (fun w hH => with_r w h 512 hlt (by decide) b9 hp9) rfl rfl rfl) ?_; rintro ⟨⟩
      refine h_done ?_
      cases b9
      · skip
        obtain ⟨rfl, rfl, rfl⟩ : [] = d ∧ l11 = l' ∧ f11 = f' := by simpa [rI, eq_comm] using h12
        refine d_else rfl (d_skip (f_to ?_))
        refine d_nilvec 5 1 encB ?_
        refine d_reg ?_
        refine h_q hflS rfl ?_
        refine h_val rfl (.agg #[.int .i64 (k : Int), .int .i64 (a : Int), .int .i64 (bb : Int), .int .u64 (t : Int), .int .u64 (i : Int), .int .u64 (lt : Int), .slice none 0 0, .int .u64 (co : Int), .bool (rf == 1), .int .u64 bi, .int .u64 bt, .int .i64 bc, .int .i64 (o : Int), .slice none 0 0, .bool (la == 1)]) (fun b w hb hH => exec_load rfl rfl (reads_agg (cs := [.int .i64 (k : Int), .int .i64 (a : Int), .int .i64 (bb : Int), .int .u64 (t : Int), .int .u64 (i : Int), .int .u64 (lt : Int), .slice none 0 0, .int .u64 (co : Int), .bool (rf == 1), .int .u64 bi, .int .u64 bt, .int .i64 bc, .int .i64 (o : Int), .slice none 0 0, .bool (la == 1)]) ty_api_Msg rfl) (hH.row 2 rfl) hb) ?_
        refine h_q hflS rfl ?_
        refine h_acts (post := fun _ => [Vec 5 1 encB (.slice none 0 0) ([]), Ents 36 (.slice none 0 0) ([]), cell g2 28 #[.int .i64 (k : Int), .int .i64 (a : Int), .int .i64 (bb : Int), .int .u64 (t : Int), .int .u64 (i : Int), .int .u64 (lt : Int), .slice none 0 0, .int .u64 (co : Int), .bool (rf == 1), .int .u64 bi, .int .u64 bt, .int .i64 bc, .int .i64 (o : Int), .slice none 0 0, .bool (la == 1)], RdT g l11 f11]) rfl rfl (a_store 2 (v := .agg #[.int .i64 (k : Int), .int .i64 (a : Int), .int .i64 (bb : Int), .int .u64 (t : Int), .int .u64 (i : Int), .int .u64 (lt : Int), .slice none 0 0, .int .u64 (co : Int), .bool (rf == 1), .int .u64 bi, .int .u64 bt, .int .i64 bc, .int .i64 (o : Int), .slice none 0 0, .bool (la == 1)]) #[.int .i64 (k : Int), .int .i64 (a : Int), .int .i64 (bb : Int), .int .u64 (t : Int), .int .u64 (i : Int), .int .u64 (lt : Int), .slice none 0 0, .int .u64 (co : Int), .bool (rf == 1), .int .u64 bi, .int .u64 bt, .int .i64 bc, .int .i64 (o : Int), .slice none 0 0, .bool (la == 1)] ty_api_Msg.2 rfl rfl rfl rfl rfl rfl rfl rfl rfl) ?_; rintro ⟨⟩
        refine h_q hflS rfl ?_
        refine h_done (d_ret ?_)
        exact f_fin2 (.cell 2 (v := .agg #[.int .i64 (k : Int), .int .i64 (a : Int), .int .i64 (bb : Int), .int .u64 (t : Int), .int .u64 (i : Int), .int .u64 (lt : Int), .slice none 0 0, .int .u64 (co : Int), .bool (rf == 1), .int .u64 bi, .int .u64 bt, .int .i64 bc, .int .i64 (o : Int), .slice none 0 0, .bool (la == 1)]) (reads_agg (cs := [.int .i64 (k : Int), .int .i64 (a : Int), .int .i64 (bb : Int), .int .u64 (t : Int), .int .u64 (i : Int), .int .u64 (lt : Int), .slice none 0 0, .int .u64 (co : Int), .bool (rf == 1), .int .u64 bi, .int .u64 bt, .int .i64 bc, .int .i64 (o : Int), .slice none 0 0, .bool (la == 1)]) ty_api_Msg rfl) rfl rfl) (.tmp rfl) (fun w h => tells (⟨⟨⟨(k : Int), (a : Int), (bb : Int), (t : Int), (i : Int), (lt : Int), [], (co : Int), rf == 1, bi, bt, bc, (o : Int), [], la == 1⟩, [], none, 0, none, 0⟩, 0, l11, f11⟩ : RdX) rfl [3, 1, 0] rfl h (fun z hz => ⟨z, .refl _, fact_add (xs := [_, _, _]) (show ROk _ _ from ⟨rfl, .inl ⟨rfl, rfl, fun _ => by rw [hm]; try rfl⟩⟩) hz⟩)) rfl
      · skip
        refine d_then rfl (d_reg1 ?_)
        refine h_q hflS rfl ?_
        refine h_act (post := fun v9 => [Vec 5 1 encB v9 d, Ents 36 (.slice none 0 0) ([]), cell g2 28 #[.int .i64 (k : Int), .int .i64 (a : Int), .int .i64 (bb : Int), .int .u64 (t : Int), .int .u64 (i : Int), .int .u64 (lt : Int), .slice none 0 0, .int .u64 (co : Int), .bool (rf == 1), .int .u64 bi, .int .u64 bt, .int .i64 bc, .int .i64 (o : Int), .slice none 0 0, .bool (la == 1)], RdT g l' f']) rfl (a_does (os' := fun v9 => [Vec 5 1 encB v9 d, Ents 36 (.slice none 0 0) ([]), cell g2 28 #[.int .i64 (k : Int), .int .i64 (a : Int), .int .i64 (bb : Int), .int .u64 (t : Int), .int .u64 (i : Int), .int .u64 (lt : Int), .slice none 0 0, .int .u64 (co : Int), .bool (rf == 1), .int .u64 bi, .int .u64 bt, .int .i64 bc, .int .i64 (o : Int), .slice none 0 0, .bool (la == 1)], RdT g l' f']) [2] 0 (ent_of Try.func61 (by kernel_rfl) rfl) (rd_text g l11 f11 256 (by decide) (d, l', f') h12) rfl rfl rfl (fun _ => rfl) rfl rfl rfl) ?_; rintro v9
        refine WL2.fact 0 rfl (fun _ h => Vec.is h) ?_; rintro ⟨A9, c9, rfl⟩
        refine h_q hflS rfl ?_
        refine h_acts (post := fun _ => [Vec 5 1 encB (.slice A9 d.length c9) d, Ents 36 (.slice none 0 0) ([]), cell g2 28 #[.int .i64 (k : Int), .int .i64 (a : Int), .int .i64 (bb : Int), .int .u64 (t : Int), .int .u64 (i : Int), .int .u64 (lt : Int), .slice none 0 0, .int .u64 (co : Int), .bool (rf == 1), .int .u64 bi, .int .u64 bt, .int .i64 bc, .int .i64 (o : Int), .slice A9 d.length c9, .bool (la == 1)], RdT g l' f']) rfl rfl (a_store 2 (v := .slice A9 d.length c9) #[.int .i64 (k : Int), .int .i64 (a : Int), .int .i64 (bb : Int), .int .u64 (t : Int), .int .u64 (i : Int), .int .u64 (lt : Int), .slice none 0 0, .int .u64 (co : Int), .bool (rf == 1), .int .u64 bi, .int .u64 bt, .int .i64 bc, .int .i64 (o : Int), .slice A9 d.length c9, .bool (la == 1)] ty_s_uint8.2 rfl rfl rfl rfl rfl rfl rfl rfl rfl) ?_; rintro ⟨⟩
        refine h_nil (f_to (d_reg ?_))
        refine h_q hflS rfl ?_
        refine h_val rfl (.agg #[.int .i64 (k : Int), .int .i64 (a : Int), .int .i64 (bb : Int), .int .u64 (t : Int), .int .u64 (i : Int), .int .u64 (lt : Int), .slice none 0 0, .int .u64 (co : Int), .bool (rf == 1), .int .u64 bi, .int .u64 bt, .int .i64 bc, .int .i64 (o : Int), .slice A9 d.length c9, .bool (la == 1)]) (fun b w hb hH => exec_load rfl rfl (reads_agg (cs := [.int .i64 (k : Int), .int .i64 (a : Int), .int .i64 (bb : Int), .int .u64 (t : Int), .int .u64 (i : Int), .int .u64 (lt : Int), .slice none 0 0, .int .u64 (co : Int), .bool (rf == 1), .int .u64 bi, .int .u64 bt, .int .i64 bc, .int .i64 (o : Int), .slice A9 d.length c9, .bool (la == 1)]) ty_api_Msg rfl) (hH.row 2 rfl) hb) ?_
        refine h_q hflS rfl ?_
        refine h_acts (post := fun _ => [Vec 5 1 encB (.slice A9 d.length c9) d, Ents 36 (.slice none 0 0) ([]), cell g2 28 #[.int .i64 (k : Int), .int .i64 (a : Int), .int .i64 (bb : Int), .int .u64 (t : Int), .int .u64 (i : Int), .int .u64 (lt : Int), .slice none 0 0, .int .u64 (co : Int), .bool (rf == 1), .int .u64 bi, .int .u64 bt, .int .i64 bc, .int .i64 (o : Int), .slice A9 d.length c9, .bool (la == 1)], RdT g l' f']) rfl rfl (a_store 2 (v := .agg #[.int .i64 (k : Int), .int .i64 (a : Int), .int .i64 (bb : Int), .int .u64 (t : Int), .int .u64 (i : Int), .int .u64 (lt : Int), .slice none 0 0, .int .u64 (co : Int), .bool (rf == 1), .int .u64 bi, .int .u64 bt, .int .i64 bc, .int .i64 (o : Int), .slice A9 d.length c9, .bool (la == 1)]) #[.int .i64 (k : Int), .int .i64 (a : Int), .int .i64 (bb : Int), .int .u64 (t : Int), .int .u64 (i : Int), .int .u64 (lt : Int), .slice none 0 0, .int .u64 (co : Int), .bool (rf == 1), .int .u64 bi, .int .u64 bt, .int .i64 bc, .int .i64 (o : Int), .slice A9 d.length c9, .bool (la == 1)] ty_api_Msg.2 rfl rfl rfl rfl rfl rfl rfl rfl rfl) ?_; rintro ⟨⟩
        refine h_q hflS rfl ?_
        refine h_done (d_ret ?_)
        exact f_fin2 (.cell 2 (v := .agg #[.int .i64 (k : Int), .int .i64 (a : Int), .int .i64 (bb : Int), .int .u64 (t : Int), .int .u64 (i : Int), .int .u64 (lt : Int), .slice none 0 0, .int .u64 (co : Int), .bool (rf == 1), .int .u64 bi, .int .u64 bt, .int .i64 bc, .int .i64 (o : Int), .slice A9 d.length c9, .bool (la == 1)]) (reads_agg (cs := [.int .i64 (k : Int), .int .i64 (a : Int), .int .i64 (bb : Int), .int .u64 (t : Int), .int .u64 (i : Int), .int .u64 (lt : Int), .slice none 0 0, .int .u64 (co : Int), .bool (rf == 1), .int .u64 bi, .int .u64 bt, .int .i64 bc, .int .i64 (o : Int), .slice A9 d.length c9, .bool (la == 1)]) ty_api_Msg rfl) rfl rfl) (.tmp rfl) (fun w h => tells (⟨⟨⟨(k : Int), (a : Int), (bb : Int), (t : Int), (i : Int), (lt : Int), [], (co : Int), rf == 1, bi, bt, bc, (o : Int), d, la == 1⟩, [], none, 0, A9, c9⟩, 0, l', f'⟩ : RdX) rfl [3, 1, 0] rfl h (fun z hz => ⟨z, .refl _, fact_add (xs := [_, _, _]) (show ROk _ _ from ⟨rfl, .inl ⟨rfl, rfl, fun _ => by rw [hm]; try rfl⟩⟩) hz⟩)) rfl
    · skip
      obtain ⟨q5, q6, q7, q8, q9⟩ := kinds_of6 hk6 hb4
      obtain rfl : b5 = false := hb5.symm.trans q5
      obtain rfl : b6 = false := hb6.symm.trans q6
      obtain rfl : b7 = false := hb7.symm.trans q7
      obtain rfl : b8 = false := hb8.symm.trans q8
      obtain rfl : b9 = false := hb9.symm.trans q9
      obtain ⟨rfl, rfl, rfl⟩ : 0 = rf ∧ l7 = l8 ∧ f7 = f8 := by simpa [rI, eq_comm] using h8
      obtain ⟨⟨rfl, rfl, rfl⟩, rfl, rfl⟩ : (0 = bi ∧ 0 = bt ∧ 0 = bc) ∧ l7 = l9 ∧ f7 = f9 := by simpa [rI] using h9
      obtain ⟨rfl, rfl, rfl⟩ : 0 = o ∧ l7 = l10 ∧ f7 = f10 := by simpa [rI, eq_comm] using h10
      obtain ⟨rfl, rfl, rfl⟩ : 0 = la ∧ l7 = l11 ∧ f7 = f11 := by simpa [rI, eq_comm] using h11
      obtain ⟨rfl, rfl, rfl⟩ : [] = d ∧ l7 = l' ∧ f7 = f' := by simpa [rI, eq_comm] using h12
      have hl6 : l6.length ≤ 1024 := by have := hlen6; omega
      refine d_then rfl (d_reg1 ?_)
      refine h_q hflS rfl ?_
      refine h_act rfl (a_does  [1] 0 (ent_of Try.func81 (by kernel_rfl) rfl) (readEntries_does g l6 f6 hl6) rfl rfl rfl (fun _ => rfl) rfl rfl rfl) ?_; rintro ⟨EA, ec, es2, en2, lz, fz⟩
      refine WL2.fact 1 rfl (fun _ h => h.2) ?_; rintro hRE
      refine h_q hflS rfl ?_
      refine h_acts (post := fun _ => [Ents 36 (.slice EA es2.length ec) es2, fact (REOk (rlist l6 f6) ⟨EA, ec, es2, en2, lz, fz⟩), cell g2 28 #[.int .i64 (k : Int), .int .i64 (a : Int), .int .i64 (bb : Int), .int .u64 (t : Int), .int .u64 (i : Int), .int .u64 (lt : Int), .slice EA es2.length ec, .int .u64 (co : Int), .bool false, .int .u64 0, .int .u64 0, .int .i64 0, .int .i64 0, .slice none 0 0, .bool false], RdT g lz fz]) rfl rfl (a_store 2 (v := .slice EA es2.length ec) #[.int .i64 (k : Int), .int .i64 (a : Int), .int .i64 (bb : Int), .int .u64 (t : Int), .int .u64 (i : Int), .int .u64 (lt : Int), .slice EA es2.length ec, .int .u64 (co : Int), .bool false, .int .u64 0, .int .u64 0, .int .i64 0, .int .i64 0, .slice none 0 0, .bool false] ty_s_api_Entry.2 rfl rfl rfl rfl rfl rfl rfl rfl rfl) ?_; rintro ⟨⟩
      refine h_q hflS rfl ?_
      refine h_nil (f_to (d_seq (d_reg ?_)))
      refine h_q hflS rfl ?_
      refine h_act (post := fun _ => [Ents 36 (.slice EA es2.length ec) es2, fact (REOk (rlist l6 f6) ⟨EA, ec, es2, en2, lz, fz⟩), cell g2 28 #[.int .i64 (k : Int), .int .i64 (a : Int), .int .i64 (bb : Int), .int .u64 (t : Int), .int .u64 (i : Int), .int .u64 (lt : Int), .slice EA es2.length ec, .int .u64 (co : Int), .bool false, .int .u64 0, .int .u64 0, .int .i64 0, .int .i64 0, .slice none 0 0, .bool false], RdT g lz fz]) rfl (a_call (ent_of Try.func49 (by kernel_rfl) rfl) (fun w hH => with_r w h 32 hlt (by decide) false hp5) rfl rfl rfl) ?_; rintro ⟨⟩
      refine h_done (d_else rfl (d_skip (f_to (d_seq (d_reg ?_)))))
      refine h_q hflS rfl ?_
      refine h_act (post := fun _ => [Ents 36 (.slice EA es2.length ec) es2, fact (REOk (rlist l6 f6) ⟨EA, ec, es2, en2, lz, fz⟩), cell g2 28 #[.int .i64 (k : Int), .int .i64 (a : Int), .int .i64 (bb : Int), .int .u64 (t : Int), .int .u64 (i : Int), .int .u64 (lt : Int), .slice EA es2.length ec, .int .u64 (co : Int), .bool false, .int .u64 0, .int .u64 0, .int .i64 0, .int .i64 0, .slice none 0 0, .bool false], RdT g lz fz]) rfl (a_call (ent_of Try.func49 (by kernel_rfl) rfl) (fun w hH => with_r w h 64 hlt (by decide) false hp6) rfl rfl rfl) ?_; rintro ⟨⟩
      refine h_done (d_else rfl (d_skip (f_to (d_seq (d_reg ?_)))))
      refine h_q hflS rfl ?_
      refine h_act (post := fun _ => [Ents 36 (.slice EA es2.length ec) es2, fact (REOk (rlist l6 f6) ⟨EA, ec, es2, en2, lz, fz⟩), cell g2 28 #[.int .i64 (k : Int), .int .i64 (a : Int), .int .i64 (bb : Int), .int .u64 (t : Int), .int .u64 (i : Int), .int .u64 (lt : Int), .slice EA es2.length ec, .int .u64 (co : Int), .bool false, .int .u64 0, .int .u64 0, .int .i64 0, .int .i64 0, .slice none 0 0, .bool false], RdT g lz fz]) rfl (a_call (ent_of Try.func49 (by kernel_rfl) rfl) (fun w hH => with_r w h 128 hlt (by decide) false hp7) rfl rfl rfl) ?_; rintro ⟨⟩
      refine h_done (d_else rfl (d_skip (f_to (d_seq (d_reg ?_)))))
      refine h_q hflS rfl ?_
      refine h_act (post := fun _ => [Ents 36 (.slice EA es2.length ec) es2, fact (REOk (rlist l6 f6) ⟨EA, ec, es2, en2, lz, fz⟩), cell g2 28 #[.int .i64 (k : Int), .int .i64 (a : Int), .int .i64 (bb : Int), .int .u64 (t : Int), .int .u64 (i : Int), .int .u64 (lt : Int), .slice EA es2.length ec, .int .u64 (co : Int), .bool false, .int .u64 0, .int .u64 0, .int .i64 0, .int .i64 0, .slice none 0 0, .bool false], RdT g lz fz]) rfl (a_call (ent_of Try.func49 (by kernel_rfl) rfl) (fun w hH => with_r w h 256 hlt (by decide) false hp8) rfl rfl rfl) ?_; rintro ⟨⟩
      refine h_done (d_else rfl (d_skip (f_to (d_seq (d_reg ?_)))))
      refine h_q hflS rfl ?_
      refine h_act (post := fun _ => [Ents 36 (.slice EA es2.length ec) es2, fact (REOk (rlist l6 f6) ⟨EA, ec, es2, en2, lz, fz⟩), cell g2 28 #[.int .i64 (k : Int), .int .i64 (a : Int), .int .i64 (bb : Int), .int .u64 (t : Int), .int .u64 (i : Int), .int .u64 (lt : Int), .slice EA es2.length ec, .int .u64 (co : Int), .bool false, .int .u64 0, .int .u64 0, .int .i64 0, .int .i64 0, .slice none 0 0, .bool false], RdT g lz fz]) rfl (a_call (ent_of Try.func49 (by kernel_rfl) rfl) (fun w hH => with_r w h 512 hlt (by decide) false hp9) rfl rfl rfl) ?_; rintro ⟨⟩
      refine h_done (d_else rfl (d_skip (f_to ?_)))
      have hRE2 := REOk_of hRE (show rlist l6 f6 = (es, l7, f7) from h7)
      refine WC2.leave [1] rfl rfl ?_
      refine d_nilvec 5 1 encB ?_
      refine d_reg ?_
      refine h_q hflS rfl ?_
      refine h_val rfl (.agg #[.int .i64 (k : Int), .int .i64 (a : Int), .int .i64 (bb : Int), .int .u64 (t : Int), .int .u64 (i : Int), .int .u64 (lt : Int), .slice EA es2.length ec, .int .u64 (co : Int), .bool false, .int .u64 0, .int .u64 0, .int .i64 0, .int .i64 0, .slice none 0 0, .bool false]) (fun b w hb hH => exec_load rfl rfl (reads_agg (cs := [.int .i64 (k : Int), .int .i64 (a : Int), .int .i64 (bb : Int), .int .u64 (t : Int), .int .u64 (i : Int), .int .u64 (lt : Int), .slice EA es2.length ec, .int .u64 (co : Int), .bool false, .int .u64 0, .int .u64 0, .int .i64 0, .int .i64 0, .slice none 0 0, .bool false]) ty_api_Msg rfl) (hH.row 2 rfl) hb) ?_
      refine h_q hflS rfl ?_
      refine h_acts (post := fun _ => [Vec 5 1 encB (.slice none 0 0) ([]), Ents 36 (.slice EA es2.length ec) es2, cell g2 28 #[.int .i64 (k : Int), .int .i64 (a : Int), .int .i64 (bb : Int), .int .u64 (t : Int), .int .u64 (i : Int), .int .u64 (lt : Int), .slice EA es2.length ec, .int .u64 (co : Int), .bool false, .int .u64 0, .int .u64 0, .int .i64 0, .int .i64 0, .slice none 0 0, .bool false], RdT g lz fz]) rfl rfl (a_store 2 (v := .agg #[.int .i64 (k : Int), .int .i64 (a : Int), .int .i64 (bb : Int), .int .u64 (t : Int), .int .u64 (i : Int), .int .u64 (lt : Int), .slice EA es2.length ec, .int .u64 (co : Int), .bool false, .int .u64 0, .int .u64 0, .int .i64 0, .int .i64 0, .slice none 0 0, .bool false]) #[.int .i64 (k : Int), .int .i64 (a : Int), .int .i64 (bb : Int), .int .u64 (t : Int), .int .u64 (i : Int), .int .u64 (lt : Int), .slice EA es2.length ec, .int .u64 (co : Int), .bool false, .int .u64 0, .int .u64 0, .int .i64 0, .int .i64 0, .slice none 0 0, .bool false] ty_api_Msg.2 rfl rfl rfl rfl rfl rfl rfl rfl rfl) ?_; rintro ⟨⟩
      refine h_q hflS rfl ?_
      refine h_done (d_ret ?_)
      exact f_fin2 (.cell 2 (v := .agg #[.int .i64 (k : Int), .int .i64 (a : Int), .int .i64 (bb : Int), .int .u64 (t : Int), .int .u64 (i : Int), .int .u64 (lt : Int), .slice EA es2.length ec, .int .u64 (co : Int), .bool false, .int .u64 0, .int .u64 0, .int .i64 0, .int .i64 0, .slice none 0 0, .bool false]) (reads_agg (cs := [.int .i64 (k : Int), .int .i64 (a : Int), .int .i64 (bb : Int), .int .u64 (t : Int), .int .u64 (i : Int), .int .u64 (lt : Int), .slice EA es2.length ec, .int .u64 (co : Int), .bool false, .int .u64 0, .int .u64 0, .int .i64 0, .int .i64 0, .slice none 0 0, .bool false]) ty_api_Msg rfl) rfl rfl) (.tmp rfl) (fun w h => tells (⟨⟨⟨(k : Int), (a : Int), (bb : Int), (t : Int), (i : Int), (lt : Int), es2.map (·.e), (co : Int), false, 0, 0, 0, 0, [], false⟩, es2, EA, ec, none, 0⟩, en2, lz, fz⟩ : RdX) rfl [3, 1, 0] rfl h (fun z hz => ⟨z, .refl _, fact_add (xs := [_, _, _]) (show ROk _ _ from by
            refine ⟨rfl, ?_⟩
            rcases hRE2 with ⟨q1, q2, q3, q4, q5⟩ | ⟨q1, ⟨q2, q3⟩ | ⟨q2, q3⟩⟩
            · simp only at q2 q3 q4 q5
              refine .inl ⟨q2, by show rend lz fz = rend l7 f7; rw [q3, q4, q1], fun _ => ?_⟩
              rw [hm, ← q5]; try rfl
            · simp only at q2 q3
              exact .inr ⟨by show en2 ≠ 0; omega, by show en2 = rend l7 f7; rw [rend_fault q1]; exact q2⟩
            · simp only at q2 q3
              refine .inl ⟨q2, by show rend lz fz = rend l7 f7; rw [q3]; exact rend_stuck q1, fun h => ?_⟩
              exfalso
              have h : rend l7 f7 = 0 := h
              rw [rend_fault q1] at h
              exact q1 h) hz⟩)) rfl
end Go.Proofs.Ytnhcbjlaeaohjaa.Sep
