/-
  CmdF
-/
import Derived.Test.YtlkknncndgamdaaDoorD01
import Derived.Test.YtlkknncndgamdaaDoorE01
set_option linter.unusedSimpArgs false
set_option linter.unusedVariables false

namespace Go.Proofs.YtlkknncndgamdaaDoor.Sep
open Go.RowKit
open Go.Proofs.YtlkknncndgamdaaDoor.Mem (Dist Blk Chg below0)

theorem rbyte_le (most : Nat) (l : List UInt8) (f : Nat) : (rbyte most l f).1 ≤ most := by
  unfold rbyte
  split
  · exact Nat.zero_le _
  · cases l with
    | nil => exact Nat.zero_le _
    | cons b r =>
      simp only
      split
      · exact Nat.zero_le _
      · show b.toNat ≤ most; omega
theorem rr_mk {B : Value} {b : List UInt8} {g : Nat} : ∀ rs : List RowT, Parts [cell g 80 #[B, .int .i64 0, .int .i64 0]] rs → RrT B b g b 0 rs := fun rs hz => ⟨0, Nat.zero_le _, rfl, hz.one'⟩
theorem fo_on {k : Int} (h : 1 ≤ k ∧ k ≤ 11) : fo k ≠ 0 := by
  rcases kinds_of h with rfl | rfl | rfl | rfl | rfl | rfl | rfl | rfl | rfl | rfl | rfl <;> decide

set_option maxRecDepth 100000 in
theorem rdecode_sl (w : World) (A : Option Addr) (cp : Nat) (l : List UInt8) (hv : Sl8 w (.slice A l.length cp) l) (hl : l.length ≤ 140737488355328) (c : CmdD) (en : Nat) (hD : Decoded l c en) : Calls Tryd.prog 35 #[.slice A l.length cp] w fun e w' => e = .returned (.tuple #[.agg #[.int .i64 c.k, .int .u64 c.s, .int .u64 c.q, .int .u64 c.a, .int .u64 c.b, .int .i64 c.hi, .int .u64 c.lo, .int .i64 c.sc, .string (bs c.x), .string (bs c.y)], .int .i64 (en : Int)]) ∧ Below w.heap.size w w' := by
  refine d_in (args := [.slice A l.length cp]) 72 Tryd.func35 rfl rfl rfl ?_
  refine d_reg ?_
  refine h_q hflS rfl ?_
  refine h_act (post := fun g1 => [cell g1 28 #[.int .i64 0, .int .u64 0, .int .u64 0, .int .u64 0, .int .u64 0, .int .i64 0, .int .u64 0, .int .i64 0, .string { data := #[] }, .string { data := #[] }]]) rfl (a_alloc ze_api_Cmd rfl) ?_; rintro g1
  refine h_q hflS rfl ?_
  refine h_done (d_seq ?_)
  rcases hD.is with ⟨q1, rfl, rfl⟩ | ⟨q1, c0, l', f', ⟨hr⟩, hq⟩
  · skip
    refine d_reg ?_
    refine h_q hflS rfl ?_
    refine h_val rfl (.int .i64 (l.length : Int)) (fun b w hb hH => e_slen ((arg80 hv hH).rd) Tryd.underlying33 rfl rfl hb) ?_
    refine h_val rfl (.bool true) (fun b w hb hH => exec_cmp rfl rfl rfl (cmp_gtr_t (by omega)) hb) ?_
    refine h_done (d_then rfl (d_reg ?_))
    refine h_q hflS rfl ?_
    refine h_val rfl (.agg #[.int .i64 0, .int .u64 0, .int .u64 0, .int .u64 0, .int .u64 0, .int .i64 0, .int .u64 0, .int .i64 0, .string { data := #[] }, .string { data := #[] }]) (fun b w hb hH => exec_build rfl rfl (by kernel_rfl) hb) ?_
    refine h_acts (post := fun _ => [cell g1 28 #[.int .i64 0, .int .u64 0, .int .u64 0, .int .u64 0, .int .u64 0, .int .i64 0, .int .u64 0, .int .i64 0, .string { data := #[] }, .string { data := #[] }]]) rfl rfl (a_store 0 (v := .agg #[.int .i64 0, .int .u64 0, .int .u64 0, .int .u64 0, .int .u64 0, .int .i64 0, .int .u64 0, .int .i64 0, .string { data := #[] }, .string { data := #[] }]) #[.int .i64 0, .int .u64 0, .int .u64 0, .int .u64 0, .int .u64 0, .int .i64 0, .int .u64 0, .int .i64 0, .string { data := #[] }, .string { data := #[] }] ty_api_Cmd.2 rfl rfl rfl rfl rfl rfl rfl rfl rfl) ?_; rintro ⟨⟩
    refine h_q hflS rfl ?_
    refine h_done (d_ret (f_then_ret ?_))
    exact f_fin2 (.cell 0 (v := .agg #[.int .i64 0, .int .u64 0, .int .u64 0, .int .u64 0, .int .u64 0, .int .i64 0, .int .u64 0, .int .i64 0, .string { data := #[] }, .string { data := #[] }]) (reads_agg (cs := [.int .i64 0, .int .u64 0, .int .u64 0, .int .u64 0, .int .u64 0, .int .i64 0, .int .u64 0, .int .i64 0, .string { data := #[] }, .string { data := #[] }]) ty_api_Cmd rfl) rfl rfl) (.tmp rfl) (fun w h => ⟨rfl, below0 h.up⟩) rfl
  · skip
    have ho := hr.ok
    obtain ⟨n0, l0, f0, h0, n1, l1, f1, h1, n2, l2, f2, h2, n3, l3, f3, h3, n4, l4, f4, h4, hi, lo, sc, l5, f5, h5, x, l6, f6, h6, y, h7, rfl⟩ := hr
    have hn0 := rbyte_le 11 l 0
    rw [h0] at hn0
    have hn0 : n0 ≤ 11 := hn0
    obtain ⟨h, hh⟩ : ∃ h, fo (n0 : Int) = h := ⟨_, rfl⟩
    rw [hh] at h1 h2 h3 h4 h5 h6 h7
    obtain ⟨b1, hb1⟩ : ∃ b1, wth h 1 = b1 := ⟨_, rfl⟩
    rw [hb1] at h1
    obtain ⟨b2, hb2⟩ : ∃ b2, wth h 2 = b2 := ⟨_, rfl⟩
    rw [hb2] at h2
    obtain ⟨b3, hb3⟩ : ∃ b3, wth h 4 = b3 := ⟨_, rfl⟩
    rw [hb3] at h3
    obtain ⟨b4, hb4⟩ : ∃ b4, wth h 8 = b4 := ⟨_, rfl⟩
    rw [hb4] at h4
    obtain ⟨b5, hb5⟩ : ∃ b5, wth h 16 = b5 := ⟨_, rfl⟩
    rw [hb5] at h5
    obtain ⟨b6, hb6⟩ : ∃ b6, wth h 32 = b6 := ⟨_, rfl⟩
    rw [hb6] at h6
    obtain ⟨b7, hb7⟩ : ∃ b7, wth h 64 = b7 := ⟨_, rfl⟩
    rw [hb7] at h7
    obtain ⟨lw, hlw⟩ : ∃ lw, ofL (n0 : Int) = lw := ⟨_, rfl⟩
    have hll : lw.length ≤ 9223372036854775806 := by have := ofL_len (n0 : Int); rw [hlw] at this; omega
    have ha2 : hasB lw [115, 101, 113] = b2 := by rw [← hlw, has_seq, hh, hb2]
    have ha3 : hasB lw [97] = b3 := by rw [← hlw, has_a, hh, hb3]
    have ha4 : hasB lw [98] = b4 := by rw [← hlw, has_b, hh, hb4]
    have ha5 : hasB lw [97, 109, 111, 117, 110, 116] = b5 := by rw [← hlw, has_amount, hh, hb5]
    have ha6 : hasB lw [120] = b6 := by rw [← hlw, has_x, hh, hb6]
    have ha7 : hasB lw [121] = b7 := by rw [← hlw, has_y, hh, hb7]
    obtain ⟨pg, hpg⟩ : ∃ pg, decide ((n0 : Int) > 0) = pg := ⟨_, rfl⟩
    have hpgc : cmpB .gtr (n0 : Int) 0 = some pg := by rw [← hpg]; rfl
    refine d_reg ?_
    refine h_q hflS rfl ?_
    refine h_val rfl (.int .i64 (l.length : Int)) (fun b w hb hH => e_slen ((arg80 hv hH).rd) Tryd.underlying33 rfl rfl hb) ?_
    refine h_val rfl (.bool false) (fun b w hb hH => exec_cmp rfl rfl rfl (cmp_gtr_f (by omega)) hb) ?_
    refine h_done (d_else rfl (d_skip (f_to (d_reg ?_))))
    refine h_q hflS rfl ?_
    refine h_val rfl (.agg #[.slice A l.length cp, .int .i64 0, .int .i64 0]) (fun b w hb hH => exec_build rfl rfl (by kernel_rfl) hb) ?_
    refine h_act (post := fun gr => [cell gr 80 #[.slice A l.length cp, .int .i64 0, .int .i64 0], cell g1 28 #[.int .i64 0, .int .u64 0, .int .u64 0, .int .u64 0, .int .u64 0, .int .i64 0, .int .u64 0, .int .i64 0, .string { data := #[] }, .string { data := #[] }]]) rfl (a_box (cs := #[.slice A l.length cp, .int .i64 0, .int .i64 0]) rfl rfl rfl) ?_; rintro gr
    refine h_q hflS rfl ?_
    refine h_done ?_
    refine d_close [0] rfl (rr_mk (B := .slice A l.length cp) (b := l) (g := gr)) rfl ?_
    refine d_reg ?_
    refine h_q hflS rfl ?_
    refine h_act (post := fun gc => [cell gc 28 #[.int .i64 0, .int .u64 0, .int .u64 0, .int .u64 0, .int .u64 0, .int .i64 0, .int .u64 0, .int .i64 0, .string { data := #[] }, .string { data := #[] }], RrT (.slice A l.length cp) l gr l 0, cell g1 28 #[.int .i64 0, .int .u64 0, .int .u64 0, .int .u64 0, .int .u64 0, .int .i64 0, .int .u64 0, .int .i64 0, .string { data := #[] }, .string { data := #[] }]]) rfl (a_alloc ze_api_Cmd rfl) ?_; rintro gc
    refine h_done (d_reg ?_)
    refine h_q hflS rfl ?_
    refine h_act (post := fun _ => [cell gc 28 #[.int .i64 0, .int .u64 0, .int .u64 0, .int .u64 0, .int .u64 0, .int .i64 0, .int .u64 0, .int .i64 0, .string { data := #[] }, .string { data := #[] }], RrT (.slice A l.length cp) l gr l0 f0, cell g1 28 #[.int .i64 0, .int .u64 0, .int .u64 0, .int .u64 0, .int .u64 0, .int .i64 0, .int .u64 0, .int .i64 0, .string { data := #[] }, .string { data := #[] }]]) rfl (a_doesU (Below.refl _ _) (fun _ h => h.elim) (os' := fun _ => [cell gc 28 #[.int .i64 0, .int .u64 0, .int .u64 0, .int .u64 0, .int .u64 0, .int .i64 0, .int .u64 0, .int .i64 0, .string { data := #[] }, .string { data := #[] }], RrT (.slice A l.length cp) l gr l0 f0, cell g1 28 #[.int .i64 0, .int .u64 0, .int .u64 0, .int .u64 0, .int .u64 0, .int .i64 0, .int .u64 0, .int .i64 0, .string { data := #[] }, .string { data := #[] }]]) [1] 0 (ent_of Tryd.func47 (by kernel_rfl) rfl) (rr_byte hv hl 11 (by decide) (n0, l0, f0) h0) rfl rfl rfl (fun _ => rfl) rfl rfl rfl) ?_; rintro ⟨⟩
    refine h_val rfl (.int .i64 (n0 : Int)) (fun b w hb hH => by exact exec_conv Tryd.underlying5 Tryd.underlying3 (IntWalk.i64_in _ (by omega)) rfl rfl hb) ?_
    refine h_q hflS rfl ?_
    refine h_acts (post := fun _ => [cell gc 28 #[.int .i64 (n0 : Int), .int .u64 0, .int .u64 0, .int .u64 0, .int .u64 0, .int .i64 0, .int .u64 0, .int .i64 0, .string { data := #[] }, .string { data := #[] }], RrT (.slice A l.length cp) l gr l0 f0, cell g1 28 #[.int .i64 0, .int .u64 0, .int .u64 0, .int .u64 0, .int .u64 0, .int .i64 0, .int .u64 0, .int .i64 0, .string { data := #[] }, .string { data := #[] }]]) rfl rfl (a_store 0 (v := .int .i64 (n0 : Int)) #[.int .i64 (n0 : Int), .int .u64 0, .int .u64 0, .int .u64 0, .int .u64 0, .int .i64 0, .int .u64 0, .int .i64 0, .string { data := #[] }, .string { data := #[] }] ty_int.2 rfl rfl rfl rfl rfl rfl rfl rfl rfl) ?_; rintro ⟨⟩
    refine h_done (d_reg ?_)
    refine h_q hflS rfl ?_
    refine h_val rfl (.int .i64 (n0 : Int)) (fun b w hb hH => exec_load rfl rfl (reads_one ty_int rfl) (hH.row 0 rfl) hb) ?_
    refine h_act (post := fun _ => [cell gc 28 #[.int .i64 (n0 : Int), .int .u64 0, .int .u64 0, .int .u64 0, .int .u64 0, .int .i64 0, .int .u64 0, .int .i64 0, .string { data := #[] }, .string { data := #[] }], RrT (.slice A l.length cp) l gr l0 f0, cell g1 28 #[.int .i64 0, .int .u64 0, .int .u64 0, .int .u64 0, .int .u64 0, .int .i64 0, .int .u64 0, .int .i64 0, .string { data := #[] }, .string { data := #[] }]]) rfl (a_call (ent_of Tryd.func23 (by kernel_rfl) rfl) (fun w hH => of_any w (n0 : Int) lw hlw) rfl rfl rfl) ?_; rintro ⟨⟩
    refine h_q hflS rfl ?_
    refine h_done (d_reg ?_)
    refine h_q hflS rfl ?_
    refine h_done (d_seq (d_reg ?_))
    refine h_q hflS rfl ?_
    refine h_val rfl (.int .i64 (n0 : Int)) (fun b w hb hH => exec_load rfl rfl (reads_one ty_int rfl) (hH.row 0 rfl) hb) ?_
    refine h_val rfl (.bool pg) (fun b w hb hH => exec_cmp rfl rfl rfl hpgc hb) ?_
    refine h_done ?_
    refine d_mid [(2, .pointer (some ⟨g1, 0, none⟩)), (3, .int .i64 0), (4, .pointer (some ⟨gr, 0, none⟩)), (5, .pointer (some ⟨gc, 0, none⟩))] [cell gc 28 #[.int .i64 (n0 : Int), .int .u64 (n1 : Int), .int .u64 (n2 : Int), .int .u64 (n3 : Int), .int .u64 (n4 : Int), .int .i64 hi, .int .u64 (lo : Int), .int .i64 (sc : Int), .string (bs x), .string (bs y)], RrT (.slice A l.length cp) l gr l' f', cell g1 28 #[.int .i64 0, .int .u64 0, .int .u64 0, .int .u64 0, .int .u64 0, .int .i64 0, .int .u64 0, .int .i64 0, .string { data := #[] }, .string { data := #[] }]] ?_ ?_
    · skip
      cases pg
      · skip
        obtain rfl : n0 = 0 := by have := of_decide_eq_false hpg; omega
        obtain rfl : h = 0 := hh.symm.trans rfl
        obtain rfl : b1 = false := hb1.symm.trans (wth_zero _)
        obtain rfl : b2 = false := hb2.symm.trans (wth_zero _)
        obtain rfl : b3 = false := hb3.symm.trans (wth_zero _)
        obtain rfl : b4 = false := hb4.symm.trans (wth_zero _)
        obtain rfl : b5 = false := hb5.symm.trans (wth_zero _)
        obtain rfl : b6 = false := hb6.symm.trans (wth_zero _)
        obtain rfl : b7 = false := hb7.symm.trans (wth_zero _)
        obtain ⟨rfl, rfl, rfl⟩ : 0 = n1 ∧ l0 = l1 ∧ f0 = f1 := by simpa [rIf] using h1
        obtain ⟨rfl, rfl, rfl⟩ : 0 = n2 ∧ l0 = l2 ∧ f0 = f2 := by simpa [rIf] using h2
        obtain ⟨rfl, rfl, rfl⟩ : 0 = n3 ∧ l0 = l3 ∧ f0 = f3 := by simpa [rIf] using h3
        obtain ⟨rfl, rfl, rfl⟩ : 0 = n4 ∧ l0 = l4 ∧ f0 = f4 := by simpa [rIf] using h4
        obtain ⟨⟨rfl, rfl, rfl⟩, rfl, rfl⟩ : (0 = hi ∧ 0 = lo ∧ 0 = sc) ∧ l0 = l5 ∧ f0 = f5 := by simpa [rIfD] using h5
        obtain ⟨rfl, rfl, rfl⟩ : [] = x ∧ l0 = l6 ∧ f0 = f6 := by simpa [rIfX, eq_comm] using h6
        obtain ⟨rfl, rfl, rfl⟩ : [] = y ∧ l0 = l' ∧ f0 = f' := by simpa [rIfX, eq_comm] using h7
        refine d_else rfl (d_skip ?_)
        exact f_mid 0 ⟨rfl, rfl, rfl, rfl, trivial⟩ rfl
      · skip
        have hn1 : 0 < n0 := by have := of_decide_eq_true hpg; omega
        obtain rfl : b1 = true := by rw [← hb1, ← hh]; exact fo_session (by have := (fo_on (k := (n0 : Int)) (by omega)); exact this)
        refine d_then rfl (d_reg ?_)
        refine h_q hflS rfl ?_
        refine h_act (post := fun _ => [cell gc 28 #[.int .i64 (n0 : Int), .int .u64 0, .int .u64 0, .int .u64 0, .int .u64 0, .int .i64 0, .int .u64 0, .int .i64 0, .string { data := #[] }, .string { data := #[] }], RrT (.slice A l.length cp) l gr l1 f1, cell g1 28 #[.int .i64 0, .int .u64 0, .int .u64 0, .int .u64 0, .int .u64 0, .int .i64 0, .int .u64 0, .int .i64 0, .string { data := #[] }, .string { data := #[] }]]) rfl (a_doesU (Below.refl _ _) (fun _ h => h.elim) (os' := fun _ => [cell gc 28 #[.int .i64 (n0 : Int), .int .u64 0, .int .u64 0, .int .u64 0, .int .u64 0, .int .i64 0, .int .u64 0, .int .i64 0, .string { data := #[] }, .string { data := #[] }], RrT (.slice A l.length cp) l gr l1 f1, cell g1 28 #[.int .i64 0, .int .u64 0, .int .u64 0, .int .u64 0, .int .u64 0, .int .i64 0, .int .u64 0, .int .i64 0, .string { data := #[] }, .string { data := #[] }]]) [1] 0 (ent_of Tryd.func48 (by kernel_rfl) rfl) (rr_num hv hl 72057594037927935 (by decide) (n1, l1, f1) h1) rfl rfl rfl (fun _ => rfl) rfl rfl rfl) ?_; rintro ⟨⟩
        refine h_q hflS rfl ?_
        refine h_acts (post := fun _ => [cell gc 28 #[.int .i64 (n0 : Int), .int .u64 (n1 : Int), .int .u64 0, .int .u64 0, .int .u64 0, .int .i64 0, .int .u64 0, .int .i64 0, .string { data := #[] }, .string { data := #[] }], RrT (.slice A l.length cp) l gr l1 f1, cell g1 28 #[.int .i64 0, .int .u64 0, .int .u64 0, .int .u64 0, .int .u64 0, .int .i64 0, .int .u64 0, .int .i64 0, .string { data := #[] }, .string { data := #[] }]]) rfl rfl (a_store 0 (v := .int .u64 (n1 : Int)) #[.int .i64 (n0 : Int), .int .u64 (n1 : Int), .int .u64 0, .int .u64 0, .int .u64 0, .int .i64 0, .int .u64 0, .int .i64 0, .string { data := #[] }, .string { data := #[] }] ty_uint64.2 rfl rfl rfl rfl rfl rfl rfl rfl rfl) ?_; rintro ⟨⟩
        refine h_done (d_seq (d_reg ?_))
        refine h_q hflS rfl ?_
        refine h_act (post := fun _ => [cell gc 28 #[.int .i64 (n0 : Int), .int .u64 (n1 : Int), .int .u64 0, .int .u64 0, .int .u64 0, .int .i64 0, .int .u64 0, .int .i64 0, .string { data := #[] }, .string { data := #[] }], RrT (.slice A l.length cp) l gr l1 f1, cell g1 28 #[.int .i64 0, .int .u64 0, .int .u64 0, .int .u64 0, .int .u64 0, .int .i64 0, .int .u64 0, .int .i64 0, .string { data := #[] }, .string { data := #[] }]]) rfl (a_call (ent_of Tryd.func25 (by kernel_rfl) rfl) (fun w hH => has_any w lw [115, 101, 113] b2 ha2 hll) rfl rfl rfl) ?_; rintro ⟨⟩
        refine h_done ?_
        refine d_mid [(2, .pointer (some ⟨g1, 0, none⟩)), (3, .int .i64 0), (4, .pointer (some ⟨gr, 0, none⟩)), (5, .pointer (some ⟨gc, 0, none⟩)), (6, .string (bs lw)), (7, .int .u64 18446744073709551615)] [cell gc 28 #[.int .i64 (n0 : Int), .int .u64 (n1 : Int), .int .u64 (n2 : Int), .int .u64 0, .int .u64 0, .int .i64 0, .int .u64 0, .int .i64 0, .string (bs ([])), .string (bs ([]))], RrT (.slice A l.length cp) l gr l2 f2, cell g1 28 #[.int .i64 0, .int .u64 0, .int .u64 0, .int .u64 0, .int .u64 0, .int .i64 0, .int .u64 0, .int .i64 0, .string { data := #[] }, .string { data := #[] }]] ?_ ?_
        · skip
          cases b2
          · skip
            obtain ⟨rfl, rfl, rfl⟩ : 0 = n2 ∧ l1 = l2 ∧ f1 = f2 := by simpa [rIf] using h2
            refine d_else rfl (d_skip ?_)
            exact f_mid 0 ⟨rfl, rfl, rfl, rfl, rfl, rfl, trivial⟩ rfl
          · skip
            refine d_then rfl (d_reg1 ?_)
            refine h_q hflS rfl ?_
            refine h_act (post := fun _ => [cell gc 28 #[.int .i64 (n0 : Int), .int .u64 (n1 : Int), .int .u64 0, .int .u64 0, .int .u64 0, .int .i64 0, .int .u64 0, .int .i64 0, .string { data := #[] }, .string { data := #[] }], RrT (.slice A l.length cp) l gr l2 f2, cell g1 28 #[.int .i64 0, .int .u64 0, .int .u64 0, .int .u64 0, .int .u64 0, .int .i64 0, .int .u64 0, .int .i64 0, .string { data := #[] }, .string { data := #[] }]]) rfl (a_doesU (Below.refl _ _) (fun _ h => h.elim) (os' := fun _ => [cell gc 28 #[.int .i64 (n0 : Int), .int .u64 (n1 : Int), .int .u64 0, .int .u64 0, .int .u64 0, .int .i64 0, .int .u64 0, .int .i64 0, .string { data := #[] }, .string { data := #[] }], RrT (.slice A l.length cp) l gr l2 f2, cell g1 28 #[.int .i64 0, .int .u64 0, .int .u64 0, .int .u64 0, .int .u64 0, .int .i64 0, .int .u64 0, .int .i64 0, .string { data := #[] }, .string { data := #[] }]]) [1] 0 (ent_of Tryd.func48 (by kernel_rfl) rfl) (rr_num hv hl 72057594037927935 (by decide) (n2, l2, f2) h2) rfl rfl rfl (fun _ => rfl) rfl rfl rfl) ?_; rintro ⟨⟩
            refine h_q hflS rfl ?_
            refine h_acts (post := fun _ => [cell gc 28 #[.int .i64 (n0 : Int), .int .u64 (n1 : Int), .int .u64 (n2 : Int), .int .u64 0, .int .u64 0, .int .i64 0, .int .u64 0, .int .i64 0, .string { data := #[] }, .string { data := #[] }], RrT (.slice A l.length cp) l gr l2 f2, cell g1 28 #[.int .i64 0, .int .u64 0, .int .u64 0, .int .u64 0, .int .u64 0, .int .i64 0, .int .u64 0, .int .i64 0, .string { data := #[] }, .string { data := #[] }]]) rfl rfl (a_store 0 (v := .int .u64 (n2 : Int)) #[.int .i64 (n0 : Int), .int .u64 (n1 : Int), .int .u64 (n2 : Int), .int .u64 0, .int .u64 0, .int .i64 0, .int .u64 0, .int .i64 0, .string { data := #[] }, .string { data := #[] }] ty_uint64.2 rfl rfl rfl rfl rfl rfl rfl rfl rfl) ?_; rintro ⟨⟩
            refine h_nil ?_
            exact f_mid 0 ⟨rfl, rfl, rfl, rfl, rfl, rfl, trivial⟩ rfl
        refine f_to (d_seq (d_reg ?_))
        refine h_q hflS rfl ?_
        refine h_act (post := fun _ => [cell gc 28 #[.int .i64 (n0 : Int), .int .u64 (n1 : Int), .int .u64 (n2 : Int), .int .u64 0, .int .u64 0, .int .i64 0, .int .u64 0, .int .i64 0, .string (bs ([])), .string (bs ([]))], RrT (.slice A l.length cp) l gr l2 f2, cell g1 28 #[.int .i64 0, .int .u64 0, .int .u64 0, .int .u64 0, .int .u64 0, .int .i64 0, .int .u64 0, .int .i64 0, .string { data := #[] }, .string { data := #[] }]]) rfl (a_call (ent_of Tryd.func25 (by kernel_rfl) rfl) (fun w hH => has_any w lw [97] b3 ha3 hll) rfl rfl rfl) ?_; rintro ⟨⟩
        refine h_done ?_
        refine d_mid [(2, .pointer (some ⟨g1, 0, none⟩)), (3, .int .i64 0), (4, .pointer (some ⟨gr, 0, none⟩)), (5, .pointer (some ⟨gc, 0, none⟩)), (6, .string (bs lw)), (7, .int .u64 18446744073709551615)] [cell gc 28 #[.int .i64 (n0 : Int), .int .u64 (n1 : Int), .int .u64 (n2 : Int), .int .u64 (n3 : Int), .int .u64 0, .int .i64 0, .int .u64 0, .int .i64 0, .string (bs ([])), .string (bs ([]))], RrT (.slice A l.length cp) l gr l3 f3, cell g1 28 #[.int .i64 0, .int .u64 0, .int .u64 0, .int .u64 0, .int .u64 0, .int .i64 0, .int .u64 0, .int .i64 0, .string { data := #[] }, .string { data := #[] }]] ?_ ?_
        · skip
          cases b3
          · skip
            obtain ⟨rfl, rfl, rfl⟩ : 0 = n3 ∧ l2 = l3 ∧ f2 = f3 := by simpa [rIf] using h3
            refine d_else rfl (d_skip ?_)
            exact f_mid 0 ⟨rfl, rfl, rfl, rfl, rfl, rfl, trivial⟩ rfl
          · skip
            refine d_then rfl (d_reg1 ?_)
            refine h_q hflS rfl ?_
            refine h_act (post := fun _ => [cell gc 28 #[.int .i64 (n0 : Int), .int .u64 (n1 : Int), .int .u64 (n2 : Int), .int .u64 0, .int .u64 0, .int .i64 0, .int .u64 0, .int .i64 0, .string (bs ([])), .string (bs ([]))], RrT (.slice A l.length cp) l gr l3 f3, cell g1 28 #[.int .i64 0, .int .u64 0, .int .u64 0, .int .u64 0, .int .u64 0, .int .i64 0, .int .u64 0, .int .i64 0, .string { data := #[] }, .string { data := #[] }]]) rfl (a_doesU (Below.refl _ _) (fun _ h => h.elim) (os' := fun _ => [cell gc 28 #[.int .i64 (n0 : Int), .int .u64 (n1 : Int), .int .u64 (n2 : Int), .int .u64 0, .int .u64 0, .int .i64 0, .int .u64 0, .int .i64 0, .string (bs ([])), .string (bs ([]))], RrT (.slice A l.length cp) l gr l3 f3, cell g1 28 #[.int .i64 0, .int .u64 0, .int .u64 0, .int .u64 0, .int .u64 0, .int .i64 0, .int .u64 0, .int .i64 0, .string { data := #[] }, .string { data := #[] }]]) [1] 0 (ent_of Tryd.func48 (by kernel_rfl) rfl) (rr_num hv hl 18446744073709551615 (by decide) (n3, l3, f3) h3) rfl rfl rfl (fun _ => rfl) rfl rfl rfl) ?_; rintro ⟨⟩
            refine h_q hflS rfl ?_
            refine h_acts (post := fun _ => [cell gc 28 #[.int .i64 (n0 : Int), .int .u64 (n1 : Int), .int .u64 (n2 : Int), .int .u64 (n3 : Int), .int .u64 0, .int .i64 0, .int .u64 0, .int .i64 0, .string (bs ([])), .string (bs ([]))], RrT (.slice A l.length cp) l gr l3 f3, cell g1 28 #[.int .i64 0, .int .u64 0, .int .u64 0, .int .u64 0, .int .u64 0, .int .i64 0, .int .u64 0, .int .i64 0, .string { data := #[] }, .string { data := #[] }]]) rfl rfl (a_store 0 (v := .int .u64 (n3 : Int)) #[.int .i64 (n0 : Int), .int .u64 (n1 : Int), .int .u64 (n2 : Int), .int .u64 (n3 : Int), .int .u64 0, .int .i64 0, .int .u64 0, .int .i64 0, .string (bs ([])), .string (bs ([]))] ty_uint64.2 rfl rfl rfl rfl rfl rfl rfl rfl rfl) ?_; rintro ⟨⟩
            refine h_nil ?_
            exact f_mid 0 ⟨rfl, rfl, rfl, rfl, rfl, rfl, trivial⟩ rfl
        refine f_to (d_seq (d_reg ?_))
        refine h_q hflS rfl ?_
        refine h_act (post := fun _ => [cell gc 28 #[.int .i64 (n0 : Int), .int .u64 (n1 : Int), .int .u64 (n2 : Int), .int .u64 (n3 : Int), .int .u64 0, .int .i64 0, .int .u64 0, .int .i64 0, .string (bs ([])), .string (bs ([]))], RrT (.slice A l.length cp) l gr l3 f3, cell g1 28 #[.int .i64 0, .int .u64 0, .int .u64 0, .int .u64 0, .int .u64 0, .int .i64 0, .int .u64 0, .int .i64 0, .string { data := #[] }, .string { data := #[] }]]) rfl (a_call (ent_of Tryd.func25 (by kernel_rfl) rfl) (fun w hH => has_any w lw [98] b4 ha4 hll) rfl rfl rfl) ?_; rintro ⟨⟩
        refine h_done ?_
        refine d_mid [(2, .pointer (some ⟨g1, 0, none⟩)), (3, .int .i64 0), (4, .pointer (some ⟨gr, 0, none⟩)), (5, .pointer (some ⟨gc, 0, none⟩)), (6, .string (bs lw))] [cell gc 28 #[.int .i64 (n0 : Int), .int .u64 (n1 : Int), .int .u64 (n2 : Int), .int .u64 (n3 : Int), .int .u64 (n4 : Int), .int .i64 0, .int .u64 0, .int .i64 0, .string (bs ([])), .string (bs ([]))], RrT (.slice A l.length cp) l gr l4 f4, cell g1 28 #[.int .i64 0, .int .u64 0, .int .u64 0, .int .u64 0, .int .u64 0, .int .i64 0, .int .u64 0, .int .i64 0, .string { data := #[] }, .string { data := #[] }]] ?_ ?_
        · skip
          cases b4
          · skip
            obtain ⟨rfl, rfl, rfl⟩ : 0 = n4 ∧ l3 = l4 ∧ f3 = f4 := by simpa [rIf] using h4
            refine d_else rfl (d_skip ?_)
            exact f_mid 0 ⟨rfl, rfl, rfl, rfl, rfl, trivial⟩ rfl
          · skip
            refine d_then rfl (d_reg1 ?_)
            refine h_q hflS rfl ?_
            refine h_act (post := fun _ => [cell gc 28 #[.int .i64 (n0 : Int), .int .u64 (n1 : Int), .int .u64 (n2 : Int), .int .u64 (n3 : Int), .int .u64 0, .int .i64 0, .int .u64 0, .int .i64 0, .string (bs ([])), .string (bs ([]))], RrT (.slice A l.length cp) l gr l4 f4, cell g1 28 #[.int .i64 0, .int .u64 0, .int .u64 0, .int .u64 0, .int .u64 0, .int .i64 0, .int .u64 0, .int .i64 0, .string { data := #[] }, .string { data := #[] }]]) rfl (a_doesU (Below.refl _ _) (fun _ h => h.elim) (os' := fun _ => [cell gc 28 #[.int .i64 (n0 : Int), .int .u64 (n1 : Int), .int .u64 (n2 : Int), .int .u64 (n3 : Int), .int .u64 0, .int .i64 0, .int .u64 0, .int .i64 0, .string (bs ([])), .string (bs ([]))], RrT (.slice A l.length cp) l gr l4 f4, cell g1 28 #[.int .i64 0, .int .u64 0, .int .u64 0, .int .u64 0, .int .u64 0, .int .i64 0, .int .u64 0, .int .i64 0, .string { data := #[] }, .string { data := #[] }]]) [1] 0 (ent_of Tryd.func48 (by kernel_rfl) rfl) (rr_num hv hl 18446744073709551615 (by decide) (n4, l4, f4) h4) rfl rfl rfl (fun _ => rfl) rfl rfl rfl) ?_; rintro ⟨⟩
            refine h_q hflS rfl ?_
            refine h_acts (post := fun _ => [cell gc 28 #[.int .i64 (n0 : Int), .int .u64 (n1 : Int), .int .u64 (n2 : Int), .int .u64 (n3 : Int), .int .u64 (n4 : Int), .int .i64 0, .int .u64 0, .int .i64 0, .string (bs ([])), .string (bs ([]))], RrT (.slice A l.length cp) l gr l4 f4, cell g1 28 #[.int .i64 0, .int .u64 0, .int .u64 0, .int .u64 0, .int .u64 0, .int .i64 0, .int .u64 0, .int .i64 0, .string { data := #[] }, .string { data := #[] }]]) rfl rfl (a_store 0 (v := .int .u64 (n4 : Int)) #[.int .i64 (n0 : Int), .int .u64 (n1 : Int), .int .u64 (n2 : Int), .int .u64 (n3 : Int), .int .u64 (n4 : Int), .int .i64 0, .int .u64 0, .int .i64 0, .string (bs ([])), .string (bs ([]))] ty_uint64.2 rfl rfl rfl rfl rfl rfl rfl rfl rfl) ?_; rintro ⟨⟩
            refine h_nil ?_
            exact f_mid 0 ⟨rfl, rfl, rfl, rfl, rfl, trivial⟩ rfl
        refine f_to (d_seq (d_reg ?_))
        refine h_q hflS rfl ?_
        refine h_act (post := fun _ => [cell gc 28 #[.int .i64 (n0 : Int), .int .u64 (n1 : Int), .int .u64 (n2 : Int), .int .u64 (n3 : Int), .int .u64 (n4 : Int), .int .i64 0, .int .u64 0, .int .i64 0, .string (bs ([])), .string (bs ([]))], RrT (.slice A l.length cp) l gr l4 f4, cell g1 28 #[.int .i64 0, .int .u64 0, .int .u64 0, .int .u64 0, .int .u64 0, .int .i64 0, .int .u64 0, .int .i64 0, .string { data := #[] }, .string { data := #[] }]]) rfl (a_call (ent_of Tryd.func25 (by kernel_rfl) rfl) (fun w hH => has_any w lw [97, 109, 111, 117, 110, 116] b5 ha5 hll) rfl rfl rfl) ?_; rintro ⟨⟩
        refine h_done ?_
        refine d_mid [(2, .pointer (some ⟨g1, 0, none⟩)), (3, .int .i64 0), (4, .pointer (some ⟨gr, 0, none⟩)), (5, .pointer (some ⟨gc, 0, none⟩)), (6, .string (bs lw))] [cell gc 28 #[.int .i64 (n0 : Int), .int .u64 (n1 : Int), .int .u64 (n2 : Int), .int .u64 (n3 : Int), .int .u64 (n4 : Int), .int .i64 hi, .int .u64 (lo : Int), .int .i64 (sc : Int), .string (bs ([])), .string (bs ([]))], RrT (.slice A l.length cp) l gr l5 f5, cell g1 28 #[.int .i64 0, .int .u64 0, .int .u64 0, .int .u64 0, .int .u64 0, .int .i64 0, .int .u64 0, .int .i64 0, .string { data := #[] }, .string { data := #[] }]] ?_ ?_
        · skip
          cases b5
          · skip
            obtain ⟨⟨rfl, rfl, rfl⟩, rfl, rfl⟩ : (0 = hi ∧ 0 = lo ∧ 0 = sc) ∧ l4 = l5 ∧ f4 = f5 := by simpa [rIfD] using h5
            refine d_else rfl (d_skip ?_)
            exact f_mid 0 ⟨rfl, rfl, rfl, rfl, rfl, trivial⟩ rfl
          · skip
            refine d_then rfl (d_reg1 ?_)
            refine h_q hflS rfl ?_
            refine h_act (post := fun _ => [cell gc 28 #[.int .i64 (n0 : Int), .int .u64 (n1 : Int), .int .u64 (n2 : Int), .int .u64 (n3 : Int), .int .u64 (n4 : Int), .int .i64 0, .int .u64 0, .int .i64 0, .string (bs ([])), .string (bs ([]))], RrT (.slice A l.length cp) l gr l5 f5, cell g1 28 #[.int .i64 0, .int .u64 0, .int .u64 0, .int .u64 0, .int .u64 0, .int .i64 0, .int .u64 0, .int .i64 0, .string { data := #[] }, .string { data := #[] }]]) rfl (a_doesU (Below.refl _ _) (fun _ h => h.elim) (os' := fun _ => [cell gc 28 #[.int .i64 (n0 : Int), .int .u64 (n1 : Int), .int .u64 (n2 : Int), .int .u64 (n3 : Int), .int .u64 (n4 : Int), .int .i64 0, .int .u64 0, .int .i64 0, .string (bs ([])), .string (bs ([]))], RrT (.slice A l.length cp) l gr l5 f5, cell g1 28 #[.int .i64 0, .int .u64 0, .int .u64 0, .int .u64 0, .int .u64 0, .int .i64 0, .int .u64 0, .int .i64 0, .string { data := #[] }, .string { data := #[] }]]) [1] 0 (ent_of Tryd.func49 (by kernel_rfl) rfl) (rReadAmount_does w _ l hv hl gr l4 f4 ((hi, lo, sc), l5, f5) h5) rfl rfl rfl (fun _ => rfl) rfl rfl rfl) ?_; rintro ⟨⟩
            refine h_q hflS rfl ?_
            refine h_acts (post := fun _ => [cell gc 28 #[.int .i64 (n0 : Int), .int .u64 (n1 : Int), .int .u64 (n2 : Int), .int .u64 (n3 : Int), .int .u64 (n4 : Int), .int .i64 hi, .int .u64 (lo : Int), .int .i64 (sc : Int), .string (bs ([])), .string (bs ([]))], RrT (.slice A l.length cp) l gr l5 f5, cell g1 28 #[.int .i64 0, .int .u64 0, .int .u64 0, .int .u64 0, .int .u64 0, .int .i64 0, .int .u64 0, .int .i64 0, .string { data := #[] }, .string { data := #[] }]]) rfl rfl (a_store 0 (v := .agg #[.int .i64 hi, .int .u64 (lo : Int), .int .i64 (sc : Int)]) #[.int .i64 (n0 : Int), .int .u64 (n1 : Int), .int .u64 (n2 : Int), .int .u64 (n3 : Int), .int .u64 (n4 : Int), .int .i64 hi, .int .u64 (lo : Int), .int .i64 (sc : Int), .string (bs ([])), .string (bs ([]))] ty_api_Dec.2 rfl rfl rfl rfl rfl rfl rfl rfl rfl) ?_; rintro ⟨⟩
            refine h_nil ?_
            exact f_mid 0 ⟨rfl, rfl, rfl, rfl, rfl, trivial⟩ rfl
        refine f_to (d_seq (d_reg ?_))
        refine h_q hflS rfl ?_
        refine h_act (post := fun _ => [cell gc 28 #[.int .i64 (n0 : Int), .int .u64 (n1 : Int), .int .u64 (n2 : Int), .int .u64 (n3 : Int), .int .u64 (n4 : Int), .int .i64 hi, .int .u64 (lo : Int), .int .i64 (sc : Int), .string (bs ([])), .string (bs ([]))], RrT (.slice A l.length cp) l gr l5 f5, cell g1 28 #[.int .i64 0, .int .u64 0, .int .u64 0, .int .u64 0, .int .u64 0, .int .i64 0, .int .u64 0, .int .i64 0, .string { data := #[] }, .string { data := #[] }]]) rfl (a_call (ent_of Tryd.func25 (by kernel_rfl) rfl) (fun w hH => has_any w lw [120] b6 ha6 hll) rfl rfl rfl) ?_; rintro ⟨⟩
        refine h_done ?_
        refine d_mid [(2, .pointer (some ⟨g1, 0, none⟩)), (3, .int .i64 0), (4, .pointer (some ⟨gr, 0, none⟩)), (5, .pointer (some ⟨gc, 0, none⟩)), (6, .string (bs lw))] [cell gc 28 #[.int .i64 (n0 : Int), .int .u64 (n1 : Int), .int .u64 (n2 : Int), .int .u64 (n3 : Int), .int .u64 (n4 : Int), .int .i64 hi, .int .u64 (lo : Int), .int .i64 (sc : Int), .string (bs x), .string (bs ([]))], RrT (.slice A l.length cp) l gr l6 f6, cell g1 28 #[.int .i64 0, .int .u64 0, .int .u64 0, .int .u64 0, .int .u64 0, .int .i64 0, .int .u64 0, .int .i64 0, .string { data := #[] }, .string { data := #[] }]] ?_ ?_
        · skip
          cases b6
          · skip
            obtain ⟨rfl, rfl, rfl⟩ : [] = x ∧ l5 = l6 ∧ f5 = f6 := by simpa [rIfX, eq_comm] using h6
            refine d_else rfl (d_skip ?_)
            exact f_mid 0 ⟨rfl, rfl, rfl, rfl, rfl, trivial⟩ rfl
          · skip
            refine d_then rfl (d_reg1 ?_)
            refine h_q hflS rfl ?_
            refine h_act (post := fun _ => [cell gc 28 #[.int .i64 (n0 : Int), .int .u64 (n1 : Int), .int .u64 (n2 : Int), .int .u64 (n3 : Int), .int .u64 (n4 : Int), .int .i64 hi, .int .u64 (lo : Int), .int .i64 (sc : Int), .string (bs ([])), .string (bs ([]))], RrT (.slice A l.length cp) l gr l6 f6, cell g1 28 #[.int .i64 0, .int .u64 0, .int .u64 0, .int .u64 0, .int .u64 0, .int .i64 0, .int .u64 0, .int .i64 0, .string { data := #[] }, .string { data := #[] }]]) rfl (a_doesU (Below.refl _ _) (fun _ h => h.elim) (os' := fun _ => [cell gc 28 #[.int .i64 (n0 : Int), .int .u64 (n1 : Int), .int .u64 (n2 : Int), .int .u64 (n3 : Int), .int .u64 (n4 : Int), .int .i64 hi, .int .u64 (lo : Int), .int .i64 (sc : Int), .string (bs ([])), .string (bs ([]))], RrT (.slice A l.length cp) l gr l6 f6, cell g1 28 #[.int .i64 0, .int .u64 0, .int .u64 0, .int .u64 0, .int .u64 0, .int .i64 0, .int .u64 0, .int .i64 0, .string { data := #[] }, .string { data := #[] }]]) [1] 0 (ent_of Tryd.func50 (by kernel_rfl) rfl) (letters_does w _ l hv hl gr l5 f5 (x, l6, f6) h6) rfl rfl rfl (fun _ => rfl) rfl rfl rfl) ?_; rintro ⟨⟩
            refine h_q hflS rfl ?_
            refine h_acts (post := fun _ => [cell gc 28 #[.int .i64 (n0 : Int), .int .u64 (n1 : Int), .int .u64 (n2 : Int), .int .u64 (n3 : Int), .int .u64 (n4 : Int), .int .i64 hi, .int .u64 (lo : Int), .int .i64 (sc : Int), .string (bs x), .string (bs ([]))], RrT (.slice A l.length cp) l gr l6 f6, cell g1 28 #[.int .i64 0, .int .u64 0, .int .u64 0, .int .u64 0, .int .u64 0, .int .i64 0, .int .u64 0, .int .i64 0, .string { data := #[] }, .string { data := #[] }]]) rfl rfl (a_store 0 (v := .string (bs x)) #[.int .i64 (n0 : Int), .int .u64 (n1 : Int), .int .u64 (n2 : Int), .int .u64 (n3 : Int), .int .u64 (n4 : Int), .int .i64 hi, .int .u64 (lo : Int), .int .i64 (sc : Int), .string (bs x), .string (bs ([]))] ty_string.2 rfl rfl rfl rfl rfl rfl rfl rfl rfl) ?_; rintro ⟨⟩
            refine h_nil ?_
            exact f_mid 0 ⟨rfl, rfl, rfl, rfl, rfl, trivial⟩ rfl
        refine f_to (d_reg ?_)
        refine h_q hflS rfl ?_
        refine h_act (post := fun _ => [cell gc 28 #[.int .i64 (n0 : Int), .int .u64 (n1 : Int), .int .u64 (n2 : Int), .int .u64 (n3 : Int), .int .u64 (n4 : Int), .int .i64 hi, .int .u64 (lo : Int), .int .i64 (sc : Int), .string (bs x), .string (bs ([]))], RrT (.slice A l.length cp) l gr l6 f6, cell g1 28 #[.int .i64 0, .int .u64 0, .int .u64 0, .int .u64 0, .int .u64 0, .int .i64 0, .int .u64 0, .int .i64 0, .string { data := #[] }, .string { data := #[] }]]) rfl (a_call (ent_of Tryd.func25 (by kernel_rfl) rfl) (fun w hH => has_any w lw [121] b7 ha7 hll) rfl rfl rfl) ?_; rintro ⟨⟩
        refine h_done ?_
        refine d_mid [(2, .pointer (some ⟨g1, 0, none⟩)), (3, .int .i64 0), (4, .pointer (some ⟨gr, 0, none⟩)), (5, .pointer (some ⟨gc, 0, none⟩))] [cell gc 28 #[.int .i64 (n0 : Int), .int .u64 (n1 : Int), .int .u64 (n2 : Int), .int .u64 (n3 : Int), .int .u64 (n4 : Int), .int .i64 hi, .int .u64 (lo : Int), .int .i64 (sc : Int), .string (bs x), .string (bs y)], RrT (.slice A l.length cp) l gr l' f', cell g1 28 #[.int .i64 0, .int .u64 0, .int .u64 0, .int .u64 0, .int .u64 0, .int .i64 0, .int .u64 0, .int .i64 0, .string { data := #[] }, .string { data := #[] }]] ?_ ?_
        · skip
          cases b7
          · skip
            obtain ⟨rfl, rfl, rfl⟩ : [] = y ∧ l6 = l' ∧ f6 = f' := by simpa [rIfX, eq_comm] using h7
            refine d_else rfl (d_skip ?_)
            exact f_mid 0 ⟨rfl, rfl, rfl, rfl, trivial⟩ rfl
          · skip
            refine d_then rfl (d_reg1 ?_)
            refine h_q hflS rfl ?_
            refine h_act (post := fun _ => [cell gc 28 #[.int .i64 (n0 : Int), .int .u64 (n1 : Int), .int .u64 (n2 : Int), .int .u64 (n3 : Int), .int .u64 (n4 : Int), .int .i64 hi, .int .u64 (lo : Int), .int .i64 (sc : Int), .string (bs x), .string (bs ([]))], RrT (.slice A l.length cp) l gr l' f', cell g1 28 #[.int .i64 0, .int .u64 0, .int .u64 0, .int .u64 0, .int .u64 0, .int .i64 0, .int .u64 0, .int .i64 0, .string { data := #[] }, .string { data := #[] }]]) rfl (a_doesU (Below.refl _ _) (fun _ h => h.elim) (os' := fun _ => [cell gc 28 #[.int .i64 (n0 : Int), .int .u64 (n1 : Int), .int .u64 (n2 : Int), .int .u64 (n3 : Int), .int .u64 (n4 : Int), .int .i64 hi, .int .u64 (lo : Int), .int .i64 (sc : Int), .string (bs x), .string (bs ([]))], RrT (.slice A l.length cp) l gr l' f', cell g1 28 #[.int .i64 0, .int .u64 0, .int .u64 0, .int .u64 0, .int .u64 0, .int .i64 0, .int .u64 0, .int .i64 0, .string { data := #[] }, .string { data := #[] }]]) [1] 0 (ent_of Tryd.func50 (by kernel_rfl) rfl) (letters_does w _ l hv hl gr l6 f6 (y, l', f') h7) rfl rfl rfl (fun _ => rfl) rfl rfl rfl) ?_; rintro ⟨⟩
            refine h_q hflS rfl ?_
            refine h_acts (post := fun _ => [cell gc 28 #[.int .i64 (n0 : Int), .int .u64 (n1 : Int), .int .u64 (n2 : Int), .int .u64 (n3 : Int), .int .u64 (n4 : Int), .int .i64 hi, .int .u64 (lo : Int), .int .i64 (sc : Int), .string (bs x), .string (bs y)], RrT (.slice A l.length cp) l gr l' f', cell g1 28 #[.int .i64 0, .int .u64 0, .int .u64 0, .int .u64 0, .int .u64 0, .int .i64 0, .int .u64 0, .int .i64 0, .string { data := #[] }, .string { data := #[] }]]) rfl rfl (a_store 0 (v := .string (bs y)) #[.int .i64 (n0 : Int), .int .u64 (n1 : Int), .int .u64 (n2 : Int), .int .u64 (n3 : Int), .int .u64 (n4 : Int), .int .i64 hi, .int .u64 (lo : Int), .int .i64 (sc : Int), .string (bs x), .string (bs y)] ty_string.2 rfl rfl rfl rfl rfl rfl rfl rfl rfl) ?_; rintro ⟨⟩
            refine h_nil ?_
            exact f_mid 0 ⟨rfl, rfl, rfl, rfl, trivial⟩ rfl
        exact f_mid 0 ⟨rfl, rfl, rfl, rfl, trivial⟩ rfl
    refine f_to (d_seq ?_)
    rcases hq with ⟨q2, rfl, rfl⟩ | ⟨q2, q3, rfl, rfl⟩ | ⟨q2, q3, hcc, rfl⟩
    · skip
      refine d_reg ?_
      refine h_q hflS rfl ?_
      refine h_act (post := fun _ => [cell gc 28 #[.int .i64 (n0 : Int), .int .u64 (n1 : Int), .int .u64 (n2 : Int), .int .u64 (n3 : Int), .int .u64 (n4 : Int), .int .i64 hi, .int .u64 (lo : Int), .int .i64 (sc : Int), .string (bs x), .string (bs y)], RrT (.slice A l.length cp) l gr l' f', cell g1 28 #[.int .i64 0, .int .u64 0, .int .u64 0, .int .u64 0, .int .u64 0, .int .i64 0, .int .u64 0, .int .i64 0, .string { data := #[] }, .string { data := #[] }]]) rfl (a_doesU (Below.refl _ _) (fun _ h => h.elim) (os' := fun _ => [cell gc 28 #[.int .i64 (n0 : Int), .int .u64 (n1 : Int), .int .u64 (n2 : Int), .int .u64 (n3 : Int), .int .u64 (n4 : Int), .int .i64 hi, .int .u64 (lo : Int), .int .i64 (sc : Int), .string (bs x), .string (bs y)], RrT (.slice A l.length cp) l gr l' f', cell g1 28 #[.int .i64 0, .int .u64 0, .int .u64 0, .int .u64 0, .int .u64 0, .int .i64 0, .int .u64 0, .int .i64 0, .string { data := #[] }, .string { data := #[] }]]) [1] 0 (ent_of Tryd.func51 (by kernel_rfl) rfl) (rr_end hv hl (rend l' f') rfl) rfl rfl rfl (fun _ => rfl) rfl rfl rfl) ?_; rintro ⟨⟩
      refine h_q hflS rfl ?_
      refine h_done (d_reg ?_)
      refine h_q hflS rfl ?_
      refine h_val rfl (.bool true) (fun b w hb hH => exec_cmp rfl rfl rfl (cmp_neq_t (by omega)) hb) ?_
      refine h_done (d_then rfl (d_reg ?_))
      refine h_q hflS rfl ?_
      refine h_val rfl (.agg #[.int .i64 0, .int .u64 0, .int .u64 0, .int .u64 0, .int .u64 0, .int .i64 0, .int .u64 0, .int .i64 0, .string { data := #[] }, .string { data := #[] }]) (fun b w hb hH => exec_build rfl rfl (by kernel_rfl) hb) ?_
      refine h_q hflS rfl ?_
      refine h_acts (post := fun _ => [cell gc 28 #[.int .i64 (n0 : Int), .int .u64 (n1 : Int), .int .u64 (n2 : Int), .int .u64 (n3 : Int), .int .u64 (n4 : Int), .int .i64 hi, .int .u64 (lo : Int), .int .i64 (sc : Int), .string (bs x), .string (bs y)], RrT (.slice A l.length cp) l gr l' f', cell g1 28 #[.int .i64 0, .int .u64 0, .int .u64 0, .int .u64 0, .int .u64 0, .int .i64 0, .int .u64 0, .int .i64 0, .string { data := #[] }, .string { data := #[] }]]) rfl rfl (a_store 2 (v := .agg #[.int .i64 0, .int .u64 0, .int .u64 0, .int .u64 0, .int .u64 0, .int .i64 0, .int .u64 0, .int .i64 0, .string { data := #[] }, .string { data := #[] }]) #[.int .i64 0, .int .u64 0, .int .u64 0, .int .u64 0, .int .u64 0, .int .i64 0, .int .u64 0, .int .i64 0, .string { data := #[] }, .string { data := #[] }] ty_api_Cmd.2 rfl rfl rfl rfl rfl rfl rfl rfl rfl) ?_; rintro ⟨⟩
      refine h_q hflS rfl ?_
      refine h_done (d_ret (f_then_ret ?_))
      exact f_fin2 (.cell 2 (v := .agg #[.int .i64 0, .int .u64 0, .int .u64 0, .int .u64 0, .int .u64 0, .int .i64 0, .int .u64 0, .int .i64 0, .string { data := #[] }, .string { data := #[] }]) (reads_agg (cs := [.int .i64 0, .int .u64 0, .int .u64 0, .int .u64 0, .int .u64 0, .int .i64 0, .int .u64 0, .int .i64 0, .string { data := #[] }, .string { data := #[] }]) ty_api_Cmd rfl) rfl rfl) (.tmp rfl) (fun w h => ⟨rfl, below0 h.up⟩) rfl
    · skip
      refine d_reg ?_
      refine h_q hflS rfl ?_
      refine h_act (post := fun _ => [cell gc 28 #[.int .i64 (n0 : Int), .int .u64 (n1 : Int), .int .u64 (n2 : Int), .int .u64 (n3 : Int), .int .u64 (n4 : Int), .int .i64 hi, .int .u64 (lo : Int), .int .i64 (sc : Int), .string (bs x), .string (bs y)], RrT (.slice A l.length cp) l gr l' f', cell g1 28 #[.int .i64 0, .int .u64 0, .int .u64 0, .int .u64 0, .int .u64 0, .int .i64 0, .int .u64 0, .int .i64 0, .string { data := #[] }, .string { data := #[] }]]) rfl (a_doesU (Below.refl _ _) (fun _ h => h.elim) (os' := fun _ => [cell gc 28 #[.int .i64 (n0 : Int), .int .u64 (n1 : Int), .int .u64 (n2 : Int), .int .u64 (n3 : Int), .int .u64 (n4 : Int), .int .i64 hi, .int .u64 (lo : Int), .int .i64 (sc : Int), .string (bs x), .string (bs y)], RrT (.slice A l.length cp) l gr l' f', cell g1 28 #[.int .i64 0, .int .u64 0, .int .u64 0, .int .u64 0, .int .u64 0, .int .i64 0, .int .u64 0, .int .i64 0, .string { data := #[] }, .string { data := #[] }]]) [1] 0 (ent_of Tryd.func51 (by kernel_rfl) rfl) (rr_end hv hl 0 q2) rfl rfl rfl (fun _ => rfl) rfl rfl rfl) ?_; rintro ⟨⟩
      refine h_q hflS rfl ?_
      refine h_done (d_reg ?_)
      refine h_q hflS rfl ?_
      refine h_val rfl (.bool false) (fun b w hb hH => exec_cmp rfl rfl rfl (cmp_neq_f (by decide)) hb) ?_
      refine h_done (d_else rfl (d_skip (f_to (d_seq (d_reg ?_)))))
      refine h_q hflS rfl ?_
      refine h_val rfl (.agg #[.int .i64 (n0 : Int), .int .u64 (n1 : Int), .int .u64 (n2 : Int), .int .u64 (n3 : Int), .int .u64 (n4 : Int), .int .i64 hi, .int .u64 (lo : Int), .int .i64 (sc : Int), .string (bs x), .string (bs y)]) (fun b w hb hH => exec_load rfl rfl (reads_agg (cs := [.int .i64 (n0 : Int), .int .u64 (n1 : Int), .int .u64 (n2 : Int), .int .u64 (n3 : Int), .int .u64 (n4 : Int), .int .i64 hi, .int .u64 (lo : Int), .int .i64 (sc : Int), .string (bs x), .string (bs y)]) ty_api_Cmd rfl) (hH.row 0 rfl) hb) ?_
      refine h_act (post := fun _ => [cell gc 28 #[.int .i64 (n0 : Int), .int .u64 (n1 : Int), .int .u64 (n2 : Int), .int .u64 (n3 : Int), .int .u64 (n4 : Int), .int .i64 hi, .int .u64 (lo : Int), .int .i64 (sc : Int), .string (bs x), .string (bs y)], RrT (.slice A l.length cp) l gr l' f', cell g1 28 #[.int .i64 0, .int .u64 0, .int .u64 0, .int .u64 0, .int .u64 0, .int .i64 0, .int .u64 0, .int .i64 0, .string { data := #[] }, .string { data := #[] }]]) rfl (a_call (ent_of Tryd.func10 (by kernel_rfl) rfl) (fun w hH => rright_any w (⟨(n0 : Int), (n1 : Int), (n2 : Int), (n3 : Int), (n4 : Int), hi, (lo : Int), (sc : Int), x, y⟩ : CmdD) ho false q3) rfl rfl rfl) ?_; rintro ⟨⟩
      refine h_q hflS rfl ?_
      refine h_done (d_then rfl (d_reg ?_))
      refine h_q hflS rfl ?_
      refine h_val rfl (.agg #[.int .i64 0, .int .u64 0, .int .u64 0, .int .u64 0, .int .u64 0, .int .i64 0, .int .u64 0, .int .i64 0, .string { data := #[] }, .string { data := #[] }]) (fun b w hb hH => exec_build rfl rfl (by kernel_rfl) hb) ?_
      refine h_acts (post := fun _ => [cell gc 28 #[.int .i64 (n0 : Int), .int .u64 (n1 : Int), .int .u64 (n2 : Int), .int .u64 (n3 : Int), .int .u64 (n4 : Int), .int .i64 hi, .int .u64 (lo : Int), .int .i64 (sc : Int), .string (bs x), .string (bs y)], RrT (.slice A l.length cp) l gr l' f', cell g1 28 #[.int .i64 0, .int .u64 0, .int .u64 0, .int .u64 0, .int .u64 0, .int .i64 0, .int .u64 0, .int .i64 0, .string { data := #[] }, .string { data := #[] }]]) rfl rfl (a_store 2 (v := .agg #[.int .i64 0, .int .u64 0, .int .u64 0, .int .u64 0, .int .u64 0, .int .i64 0, .int .u64 0, .int .i64 0, .string { data := #[] }, .string { data := #[] }]) #[.int .i64 0, .int .u64 0, .int .u64 0, .int .u64 0, .int .u64 0, .int .i64 0, .int .u64 0, .int .i64 0, .string { data := #[] }, .string { data := #[] }] ty_api_Cmd.2 rfl rfl rfl rfl rfl rfl rfl rfl rfl) ?_; rintro ⟨⟩
      refine h_q hflS rfl ?_
      refine h_done (d_ret (f_then_ret ?_))
      exact f_fin2 (.cell 2 (v := .agg #[.int .i64 0, .int .u64 0, .int .u64 0, .int .u64 0, .int .u64 0, .int .i64 0, .int .u64 0, .int .i64 0, .string { data := #[] }, .string { data := #[] }]) (reads_agg (cs := [.int .i64 0, .int .u64 0, .int .u64 0, .int .u64 0, .int .u64 0, .int .i64 0, .int .u64 0, .int .i64 0, .string { data := #[] }, .string { data := #[] }]) ty_api_Cmd rfl) rfl rfl) (.tmp rfl) (fun w h => ⟨rfl, below0 h.up⟩) rfl
    · skip
      refine d_reg ?_
      refine h_q hflS rfl ?_
      refine h_act (post := fun _ => [cell gc 28 #[.int .i64 (n0 : Int), .int .u64 (n1 : Int), .int .u64 (n2 : Int), .int .u64 (n3 : Int), .int .u64 (n4 : Int), .int .i64 hi, .int .u64 (lo : Int), .int .i64 (sc : Int), .string (bs x), .string (bs y)], RrT (.slice A l.length cp) l gr l' f', cell g1 28 #[.int .i64 0, .int .u64 0, .int .u64 0, .int .u64 0, .int .u64 0, .int .i64 0, .int .u64 0, .int .i64 0, .string { data := #[] }, .string { data := #[] }]]) rfl (a_doesU (Below.refl _ _) (fun _ h => h.elim) (os' := fun _ => [cell gc 28 #[.int .i64 (n0 : Int), .int .u64 (n1 : Int), .int .u64 (n2 : Int), .int .u64 (n3 : Int), .int .u64 (n4 : Int), .int .i64 hi, .int .u64 (lo : Int), .int .i64 (sc : Int), .string (bs x), .string (bs y)], RrT (.slice A l.length cp) l gr l' f', cell g1 28 #[.int .i64 0, .int .u64 0, .int .u64 0, .int .u64 0, .int .u64 0, .int .i64 0, .int .u64 0, .int .i64 0, .string { data := #[] }, .string { data := #[] }]]) [1] 0 (ent_of Tryd.func51 (by kernel_rfl) rfl) (rr_end hv hl 0 q2) rfl rfl rfl (fun _ => rfl) rfl rfl rfl) ?_; rintro ⟨⟩
      refine h_q hflS rfl ?_
      refine h_done (d_reg ?_)
      refine h_q hflS rfl ?_
      refine h_val rfl (.bool false) (fun b w hb hH => exec_cmp rfl rfl rfl (cmp_neq_f (by decide)) hb) ?_
      refine h_done (d_else rfl (d_skip (f_to (d_seq (d_reg ?_)))))
      refine h_q hflS rfl ?_
      refine h_val rfl (.agg #[.int .i64 (n0 : Int), .int .u64 (n1 : Int), .int .u64 (n2 : Int), .int .u64 (n3 : Int), .int .u64 (n4 : Int), .int .i64 hi, .int .u64 (lo : Int), .int .i64 (sc : Int), .string (bs x), .string (bs y)]) (fun b w hb hH => exec_load rfl rfl (reads_agg (cs := [.int .i64 (n0 : Int), .int .u64 (n1 : Int), .int .u64 (n2 : Int), .int .u64 (n3 : Int), .int .u64 (n4 : Int), .int .i64 hi, .int .u64 (lo : Int), .int .i64 (sc : Int), .string (bs x), .string (bs y)]) ty_api_Cmd rfl) (hH.row 0 rfl) hb) ?_
      refine h_act (post := fun _ => [cell gc 28 #[.int .i64 (n0 : Int), .int .u64 (n1 : Int), .int .u64 (n2 : Int), .int .u64 (n3 : Int), .int .u64 (n4 : Int), .int .i64 hi, .int .u64 (lo : Int), .int .i64 (sc : Int), .string (bs x), .string (bs y)], RrT (.slice A l.length cp) l gr l' f', cell g1 28 #[.int .i64 0, .int .u64 0, .int .u64 0, .int .u64 0, .int .u64 0, .int .i64 0, .int .u64 0, .int .i64 0, .string { data := #[] }, .string { data := #[] }]]) rfl (a_call (ent_of Tryd.func10 (by kernel_rfl) rfl) (fun w hH => rright_any w (⟨(n0 : Int), (n1 : Int), (n2 : Int), (n3 : Int), (n4 : Int), hi, (lo : Int), (sc : Int), x, y⟩ : CmdD) ho true q3) rfl rfl rfl) ?_; rintro ⟨⟩
      refine h_q hflS rfl ?_
      refine h_done (d_else rfl (d_skip (f_to (d_reg ?_))))
      refine h_q hflS rfl ?_
      refine h_val rfl (.agg #[.int .i64 (n0 : Int), .int .u64 (n1 : Int), .int .u64 (n2 : Int), .int .u64 (n3 : Int), .int .u64 (n4 : Int), .int .i64 hi, .int .u64 (lo : Int), .int .i64 (sc : Int), .string (bs x), .string (bs y)]) (fun b w hb hH => exec_load rfl rfl (reads_agg (cs := [.int .i64 (n0 : Int), .int .u64 (n1 : Int), .int .u64 (n2 : Int), .int .u64 (n3 : Int), .int .u64 (n4 : Int), .int .i64 hi, .int .u64 (lo : Int), .int .i64 (sc : Int), .string (bs x), .string (bs y)]) ty_api_Cmd rfl) (hH.row 0 rfl) hb) ?_
      refine h_acts (post := fun _ => [cell gc 28 #[.int .i64 (n0 : Int), .int .u64 (n1 : Int), .int .u64 (n2 : Int), .int .u64 (n3 : Int), .int .u64 (n4 : Int), .int .i64 hi, .int .u64 (lo : Int), .int .i64 (sc : Int), .string (bs x), .string (bs y)], RrT (.slice A l.length cp) l gr l' f', cell g1 28 #[.int .i64 (n0 : Int), .int .u64 (n1 : Int), .int .u64 (n2 : Int), .int .u64 (n3 : Int), .int .u64 (n4 : Int), .int .i64 hi, .int .u64 (lo : Int), .int .i64 (sc : Int), .string (bs x), .string (bs y)]]) rfl rfl (a_store 2 (v := .agg #[.int .i64 (n0 : Int), .int .u64 (n1 : Int), .int .u64 (n2 : Int), .int .u64 (n3 : Int), .int .u64 (n4 : Int), .int .i64 hi, .int .u64 (lo : Int), .int .i64 (sc : Int), .string (bs x), .string (bs y)]) #[.int .i64 (n0 : Int), .int .u64 (n1 : Int), .int .u64 (n2 : Int), .int .u64 (n3 : Int), .int .u64 (n4 : Int), .int .i64 hi, .int .u64 (lo : Int), .int .i64 (sc : Int), .string (bs x), .string (bs y)] ty_api_Cmd.2 rfl rfl rfl rfl rfl rfl rfl rfl rfl) ?_; rintro ⟨⟩
      refine h_q hflS rfl ?_
      refine h_done (d_ret ?_)
      exact f_fin2 (.cell 2 (v := .agg #[.int .i64 (n0 : Int), .int .u64 (n1 : Int), .int .u64 (n2 : Int), .int .u64 (n3 : Int), .int .u64 (n4 : Int), .int .i64 hi, .int .u64 (lo : Int), .int .i64 (sc : Int), .string (bs x), .string (bs y)]) (reads_agg (cs := [.int .i64 (n0 : Int), .int .u64 (n1 : Int), .int .u64 (n2 : Int), .int .u64 (n3 : Int), .int .u64 (n4 : Int), .int .i64 hi, .int .u64 (lo : Int), .int .i64 (sc : Int), .string (bs x), .string (bs y)]) ty_api_Cmd rfl) rfl rfl) (.tmp rfl) (fun w h => ⟨by rw [hcc]; rfl, below0 h.up⟩) rfl

theorem rdecode_any (w : World) (v : Value) (l : List UInt8) (hv : Sl8 w v l) (hl : l.length ≤ 140737488355328) (c : CmdD) (en : Nat) (hD : Decoded l c en) : Calls Tryd.prog 35 #[v] w fun e w' => e = .returned (.tuple #[.agg #[.int .i64 c.k, .int .u64 c.s, .int .u64 c.q, .int .u64 c.a, .int .u64 c.b, .int .i64 c.hi, .int .u64 c.lo, .int .i64 c.sc, .string (bs c.x), .string (bs c.y)], .int .i64 (en : Int)]) ∧ Below w.heap.size w w' := by
  obtain ⟨A, cp, e, hb⟩ := hv
  subst e
  exact rdecode_sl w A cp l ⟨A, cp, rfl, hb⟩ hl c en hD
end Go.Proofs.YtlkknncndgamdaaDoor.Sep
