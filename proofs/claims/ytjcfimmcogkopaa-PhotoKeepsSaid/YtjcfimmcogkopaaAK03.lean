/-
  PhC
-/
import Derived.Test.YtjcfimmcogkopaaAE01
import Derived.Test.YtjcfimmcogkopaaAF01
import Derived.Test.YtjcfimmcogkopaaAG01
import Derived.Test.YtjcfimmcogkopaaAI01
import Derived.Test.YtjcfimmcogkopaaAK02
set_option linter.unusedSimpArgs false
set_option linter.unusedVariables false

namespace Go.Proofs.Ytjcfimmcogkopaa.Sep
open Go.RowKit
open Go.Proofs.Ytjcfimmcogkopaa.Mem (Dist Blk Chg below0)

theorem onlyP_is {b : List UInt8} {s : SnV} (h : onlyP b = some s) : ∃ p, listL b = ([p], b.length) ∧ readP p = some s := by
  unfold onlyP at h
  split at h
  · rename_i p k e
    split at h
    · rename_i hk
      exact ⟨p, by rw [e, hk], h⟩
    · cases h
  · cases h
theorem onlyP_not {b : List UInt8} (h : onlyP b = none) : (∃ p, listL b = ([p], b.length) ∧ readP p = none) ∨ ((listL b).1.length ≠ 1 ∨ (listL b).2 ≠ b.length) := by
  unfold onlyP at h
  split at h
  · rename_i p k e
    split at h
    · rename_i hk
      exact .inl ⟨p, by rw [e, hk], h⟩
    · rename_i hk
      exact .inr (.inr (by rw [e]; exact hk))
  · rename_i hn
    refine .inr (.inl fun hl => ?_)
    obtain ⟨p, hp⟩ := List.length_eq_one_iff.1 hl
    exact hn p (listL b).2 (Prod.ext hp rfl)

set_option maxRecDepth 100000 in
theorem ponly_some {X : Ass} {v : Value} {b : List UInt8} {s : SnV} (hX : Rd8 X v b) (hl : b.length ≤ 137438953472) (ho : onlyP b = some s) : Does Try.prog 19 #[v] [X] (fun (x : Option Addr × Nat) => .tuple #[.agg #[.int .u64 s.i, .int .u64 s.t, .int .i64 s.c, .slice x.1 s.d.length x.2], .bool true]) (fun (x : Option Addr × Nat) => [X, Vec 5 1 encB (.slice x.1 s.d.length x.2) s.d]) := by
  refine d_ins (args := [v]) 27 Try.func19 rfl rfl rfl ?_; intro w rs
  obtain ⟨p, hls, hrd⟩ := onlyP_is ho
  obtain ⟨ps, hps⟩ : ∃ ps, ps = [p] := ⟨_, rfl⟩
  obtain ⟨k, hk⟩ : ∃ k, k = b.length := ⟨_, rfl⟩
  rw [← hps, ← hk] at hls
  refine d_reg ?_
  refine h_q hflU rfl ?_
  refine h_act (post := fun g2 => [cell g2 31 #[.int .u64 0, .int .u64 0, .int .i64 0, .slice none 0 0], X]) rfl (a_alloc ze_api_Snap rfl) ?_; rintro g2
  refine h_q hflU rfl ?_
  refine h_done (d_reg ?_)
  refine h_q hflU rfl ?_
  refine h_act (post := fun (x : PsV) => [PartsT 29 x.v x.l, fact (x.l.map (·.2) = ps), cell g2 31 #[.int .u64 0, .int .u64 0, .int .i64 0, .slice none 0 0], X]) rfl (a_does (os' := fun (x : PsV) => [PartsT 29 x.v x.l, fact (x.l.map (·.2) = ps), cell g2 31 #[.int .u64 0, .int .u64 0, .int .i64 0, .slice none 0 0], X]) [1] 0 (ent_of Try.func34 (by kernel_rfl) rfl) (plist_does hX hl hls) rfl rfl rfl (fun _ => rfl) rfl rfl rfl) ?_; rintro x
  refine WL2.fact 1 rfl (fun _ h => h.2) ?_; rintro hxps
  refine WL2.leave [1] rfl rfl ?_
  replace hxps : x.l.map (·.2) = ps := hxps
  have hxl : x.l.length = ps.length := by rw [← hxps, List.length_map]
  refine h_q hflU rfl ?_
  refine h_done (d_seq ?_)
  obtain ⟨⟨v5, p5⟩, hxj⟩ : ∃ y, x.l[0]? = some y := ⟨_, List.getElem?_eq_getElem (by rw [hxl, hps]; exact Nat.succ_pos _)⟩
  have h9 : (x.l.map (·.2))[0]? = some p5 := by rw [List.getElem?_map, hxj]; rfl
  rw [hxps, hps] at h9
  obtain rfl := Option.some.inj h9
  have hpl : p.length ≤ 65536 := by have h7 := list_parts b.length b; change ∀ x, x ∈ (listL b).1 → x.length ≤ 65536 at h7; rw [hls, hps] at h7; exact h7 p (by simp)
  refine d_reg ?_
  refine h_q hflU rfl ?_
  refine h_val rfl (.int .i64 (x.l.length : Int)) (fun b w hb hH => e_plen 0 Try.underlying72 rfl rfl rfl hH hb) ?_
  refine h_val rfl (.bool false) (fun b w hb hH => exec_cmp rfl rfl rfl (cmp_neq_f (by rw [hxl, hps]; rfl)) hb) ?_
  refine h_q hflU rfl ?_
  refine h_val rfl (.int .i64 (b.length : Int)) (fun b w hb hH => e_slen (((hH.rd8 2 rfl hX).rd)) Try.underlying29 rfl rfl hb) ?_
  refine h_val rfl (.bool false) (fun b w hb hH => exec_cmp rfl rfl rfl (cmp_neq_f (by omega)) hb) ?_
  refine h_q hflU rfl ?_
  refine h_done (d_else rfl (d_skip (f_to (d_reg ?_))))
  refine h_q hflU rfl ?_
  refine h_val rfl (elp x.v (0 * 1)) (fun b w hb hH => e_pidx 0 sl_s_uint8 rfl 0 (by rw [hxl, hps]; exact Nat.succ_pos _) rfl rfl rfl hH hb) ?_
  refine h_val rfl (v5) (fun b w hb hH => e_pload 0 ty_s_uint8 rfl 0 hxj rfl rfl hH hb) ?_
  refine h_act rfl (a_makes  [] 0 (ent_of Try.func35 (by kernel_rfl) rfl) (fun w hH => pread_some (u := w) (hH.rd8 0 rfl (prt_rd8p hxj)) hpl hrd) rfl rfl rfl (fun _ => rfl) rfl rfl rfl) ?_; rintro ⟨A9, c9⟩
  refine h_q hflU rfl ?_
  refine h_acts (post := fun _ => [Vec 5 1 encB (.slice A9 s.d.length c9) s.d, PartsT 29 x.v x.l, cell g2 31 #[.int .u64 s.i, .int .u64 s.t, .int .i64 s.c, .slice A9 s.d.length c9], X]) rfl rfl (a_store 2 (v := .agg #[.int .u64 s.i, .int .u64 s.t, .int .i64 s.c, .slice A9 s.d.length c9]) #[.int .u64 s.i, .int .u64 s.t, .int .i64 s.c, .slice A9 s.d.length c9] ty_api_Snap.2 rfl rfl rfl rfl rfl rfl rfl rfl rfl) ?_; rintro ⟨⟩
  refine h_q hflU rfl ?_
  refine h_done (d_ret ?_)
  exact f_fin2 (.cell 2 (v := .agg #[.int .u64 s.i, .int .u64 s.t, .int .i64 s.c, .slice A9 s.d.length c9]) (reads_agg (cs := [.int .u64 s.i, .int .u64 s.t, .int .i64 s.c, .slice A9 s.d.length c9]) ty_api_Snap rfl) rfl rfl) (.tmp rfl) (fun w h => tells (A9, c9) rfl [3, 0] rfl h same_parts) rfl

set_option maxRecDepth 100000 in
theorem ponly_none {X : Ass} {v : Value} {b : List UInt8} (hX : Rd8 X v b) (hl : b.length ≤ 137438953472) (ho : onlyP b = none) : Does Try.prog 19 #[v] [X] (fun (_ : Unit) => .tuple #[.agg #[.int .u64 0, .int .u64 0, .int .i64 0, .slice none 0 0], .bool false]) (fun (_ : Unit) => [X]) := by
  refine d_ins (args := [v]) 27 Try.func19 rfl rfl rfl ?_; intro w rs
  obtain ⟨⟨ps, k⟩, hls⟩ : ∃ R, listL b = R := ⟨_, rfl⟩
  have hno := onlyP_not ho
  rw [hls] at hno
  refine d_reg ?_
  refine h_q hflU rfl ?_
  refine h_act (post := fun g2 => [cell g2 31 #[.int .u64 0, .int .u64 0, .int .i64 0, .slice none 0 0], X]) rfl (a_alloc ze_api_Snap rfl) ?_; rintro g2
  refine h_q hflU rfl ?_
  refine h_done (d_reg ?_)
  refine h_q hflU rfl ?_
  refine h_act (post := fun (x : PsV) => [PartsT 29 x.v x.l, fact (x.l.map (·.2) = ps), cell g2 31 #[.int .u64 0, .int .u64 0, .int .i64 0, .slice none 0 0], X]) rfl (a_does (os' := fun (x : PsV) => [PartsT 29 x.v x.l, fact (x.l.map (·.2) = ps), cell g2 31 #[.int .u64 0, .int .u64 0, .int .i64 0, .slice none 0 0], X]) [1] 0 (ent_of Try.func34 (by kernel_rfl) rfl) (plist_does hX hl hls) rfl rfl rfl (fun _ => rfl) rfl rfl rfl) ?_; rintro x
  refine WL2.fact 1 rfl (fun _ h => h.2) ?_; rintro hxps
  refine WL2.leave [1] rfl rfl ?_
  replace hxps : x.l.map (·.2) = ps := hxps
  have hxl : x.l.length = ps.length := by rw [← hxps, List.length_map]
  refine h_q hflU rfl ?_
  refine h_done (d_seq ?_)
  rcases hno with ⟨p, h1, hrd⟩ | h1
  rotate_left
  rcases Classical.em (ps.length = 1) with h2 | h2
  · skip
    refine d_reg ?_
    refine h_q hflU rfl ?_
    refine h_val rfl (.int .i64 (x.l.length : Int)) (fun b w hb hH => e_plen 0 Try.underlying72 rfl rfl rfl hH hb) ?_
    refine h_val rfl (.bool false) (fun b w hb hH => exec_cmp rfl rfl rfl (cmp_neq_f (by omega)) hb) ?_
    refine h_q hflU rfl ?_
    refine h_val rfl (.int .i64 (b.length : Int)) (fun b w hb hH => e_slen (((hH.rd8 2 rfl hX).rd)) Try.underlying29 rfl rfl hb) ?_
    refine h_val rfl (.bool true) (fun b w hb hH => exec_cmp rfl rfl rfl (cmp_neq_t (by rcases h1 with h1 | h1; exact absurd h2 h1; simp only at h1; omega)) hb) ?_
    refine h_q hflU rfl ?_
    refine h_done (d_then rfl (d_reg ?_))
    refine h_q hflU rfl ?_
    refine h_val rfl (.agg #[.int .u64 0, .int .u64 0, .int .i64 0, .slice none 0 0]) (fun b w hb hH => exec_build rfl rfl (by kernel_rfl) hb) ?_
    refine h_acts (post := fun _ => [PartsT 29 x.v x.l, cell g2 31 #[.int .u64 0, .int .u64 0, .int .i64 0, .slice none 0 0], X]) rfl rfl (a_store 1 (v := .agg #[.int .u64 0, .int .u64 0, .int .i64 0, .slice none 0 0]) #[.int .u64 0, .int .u64 0, .int .i64 0, .slice none 0 0] ty_api_Snap.2 rfl rfl rfl rfl rfl rfl rfl rfl rfl) ?_; rintro ⟨⟩
    refine h_q hflU rfl ?_
    refine h_done (d_ret (f_then_ret ?_))
    exact f_fin2 (.cell 1 (v := .agg #[.int .u64 0, .int .u64 0, .int .i64 0, .slice none 0 0]) (reads_agg (cs := [.int .u64 0, .int .u64 0, .int .i64 0, .slice none 0 0]) ty_api_Snap rfl) rfl rfl) (.tmp rfl) (fun w h => tells () rfl [2] rfl h same_parts) rfl
  · skip
    refine d_reg ?_
    refine h_q hflU rfl ?_
    refine h_val rfl (.int .i64 (x.l.length : Int)) (fun b w hb hH => e_plen 0 Try.underlying72 rfl rfl rfl hH hb) ?_
    refine h_val rfl (.bool true) (fun b w hb hH => exec_cmp rfl rfl rfl (cmp_neq_t (by omega)) hb) ?_
    refine h_q hflU rfl ?_
    refine h_done (d_then rfl (d_reg ?_))
    refine h_q hflU rfl ?_
    refine h_val rfl (.agg #[.int .u64 0, .int .u64 0, .int .i64 0, .slice none 0 0]) (fun b w hb hH => exec_build rfl rfl (by kernel_rfl) hb) ?_
    refine h_acts (post := fun _ => [PartsT 29 x.v x.l, cell g2 31 #[.int .u64 0, .int .u64 0, .int .i64 0, .slice none 0 0], X]) rfl rfl (a_store 1 (v := .agg #[.int .u64 0, .int .u64 0, .int .i64 0, .slice none 0 0]) #[.int .u64 0, .int .u64 0, .int .i64 0, .slice none 0 0] ty_api_Snap.2 rfl rfl rfl rfl rfl rfl rfl rfl rfl) ?_; rintro ⟨⟩
    refine h_q hflU rfl ?_
    refine h_done (d_ret (f_then_ret ?_))
    exact f_fin2 (.cell 1 (v := .agg #[.int .u64 0, .int .u64 0, .int .i64 0, .slice none 0 0]) (reads_agg (cs := [.int .u64 0, .int .u64 0, .int .i64 0, .slice none 0 0]) ty_api_Snap rfl) rfl rfl) (.tmp rfl) (fun w h => tells () rfl [2] rfl h same_parts) rfl
  · skip
    obtain ⟨hps, hk⟩ := Prod.mk.inj h1
    obtain ⟨⟨v5, p5⟩, hxj⟩ : ∃ y, x.l[0]? = some y := ⟨_, List.getElem?_eq_getElem (by rw [hxl, hps]; exact Nat.succ_pos _)⟩
    have h9 : (x.l.map (·.2))[0]? = some p5 := by rw [List.getElem?_map, hxj]; rfl
    rw [hxps, hps] at h9
    obtain rfl := Option.some.inj h9
    have hpl : p.length ≤ 65536 := by have h7 := list_parts b.length b; change ∀ x, x ∈ (listL b).1 → x.length ≤ 65536 at h7; rw [hls, hps] at h7; exact h7 p (by simp)
    refine d_reg ?_
    refine h_q hflU rfl ?_
    refine h_val rfl (.int .i64 (x.l.length : Int)) (fun b w hb hH => e_plen 0 Try.underlying72 rfl rfl rfl hH hb) ?_
    refine h_val rfl (.bool false) (fun b w hb hH => exec_cmp rfl rfl rfl (cmp_neq_f (by rw [hxl, hps]; rfl)) hb) ?_
    refine h_q hflU rfl ?_
    refine h_val rfl (.int .i64 (b.length : Int)) (fun b w hb hH => e_slen (((hH.rd8 2 rfl hX).rd)) Try.underlying29 rfl rfl hb) ?_
    refine h_val rfl (.bool false) (fun b w hb hH => exec_cmp rfl rfl rfl (cmp_neq_f (by omega)) hb) ?_
    refine h_q hflU rfl ?_
    refine h_done (d_else rfl (d_skip (f_to (d_reg ?_))))
    refine h_q hflU rfl ?_
    refine h_val rfl (elp x.v (0 * 1)) (fun b w hb hH => e_pidx 0 sl_s_uint8 rfl 0 (by rw [hxl, hps]; exact Nat.succ_pos _) rfl rfl rfl hH hb) ?_
    refine h_val rfl (v5) (fun b w hb hH => e_pload 0 ty_s_uint8 rfl 0 hxj rfl rfl hH hb) ?_
    refine h_act (post := fun _ => [PartsT 29 x.v x.l, cell g2 31 #[.int .u64 0, .int .u64 0, .int .i64 0, .slice none 0 0], X]) rfl (a_makes (os' := fun _ => [PartsT 29 x.v x.l, cell g2 31 #[.int .u64 0, .int .u64 0, .int .i64 0, .slice none 0 0], X]) [] 0 (ent_of Try.func35 (by kernel_rfl) rfl) (fun w hH => pread_none (u := w) (hH.rd8 0 rfl (prt_rd8p hxj)) hpl hrd) rfl rfl rfl (fun _ => rfl) rfl rfl rfl) ?_; rintro ⟨⟩
    refine h_q hflU rfl ?_
    refine h_acts (post := fun _ => [PartsT 29 x.v x.l, cell g2 31 #[.int .u64 0, .int .u64 0, .int .i64 0, .slice none 0 0], X]) rfl rfl (a_store 1 (v := .agg #[.int .u64 0, .int .u64 0, .int .i64 0, .slice none 0 0]) #[.int .u64 0, .int .u64 0, .int .i64 0, .slice none 0 0] ty_api_Snap.2 rfl rfl rfl rfl rfl rfl rfl rfl rfl) ?_; rintro ⟨⟩
    refine h_q hflU rfl ?_
    refine h_done (d_ret ?_)
    exact f_fin2 (.cell 1 (v := .agg #[.int .u64 0, .int .u64 0, .int .i64 0, .slice none 0 0]) (reads_agg (cs := [.int .u64 0, .int .u64 0, .int .i64 0, .slice none 0 0]) ty_api_Snap rfl) rfl rfl) (.tmp rfl) (fun w h => tells () rfl [2] rfl h same_parts) rfl

set_option maxRecDepth 100000 in
theorem popen_some {p : Nat} {d d' : DiskD} {s : SnV} {e : Nat} (hf : d.fitK 2) (hbl : ∀ b, (readD (rmSD d).1 snapN).getD [] = b → b.length ≤ 137438953472) (h : openPD d = (d', some s, e)) : Does Try.prog 6 #[.pointer (some ⟨p, 0, none⟩)] [DiskT p d] (fun (x : Option Addr × Nat) => .tuple #[.agg #[.int .u64 s.i, .int .u64 s.t, .int .i64 s.c, .slice x.1 s.d.length x.2], .bool true, .int .i64 (e : Int)]) (fun (x : Option Addr × Nat) => [DiskT p d', Vec 5 1 encB (.slice x.1 s.d.length x.2) s.d]) := by
  refine d_ins (args := [.pointer (some ⟨p, 0, none⟩)]) 31 Try.func6 rfl rfl rfl ?_; intro w rs
  obtain ⟨⟨d1, e1⟩, hrm⟩ : ∃ R, rmSD d = R := ⟨_, rfl⟩
  have hr1 : (rmSD d).1 = d1 := by rw [hrm]
  have hr2 : (rmSD d).2 = e1 := by rw [hrm]
  have hf1 : d1.fitK 1 := by rw [← hr1]; exact fitK_rmS hf
  obtain ⟨b, hb⟩ : ∃ b, (readD d1 snapN).getD [] = b := ⟨_, rfl⟩
  unfold openPD at h
  rw [hr1, hr2, hb] at h
  obtain ⟨ok, hok⟩ : ∃ ok, (readD d1 snapN).isSome = ok := ⟨_, rfl⟩
  replace hbl : b.length ≤ 137438953472 := hbl b (by rw [hr1]; exact hb)
  have he1 : e1 = 0 := by by_cases h9 : e1 = 0; exact h9; rw [if_pos h9] at h; cases h
  rw [if_neg (by omega)] at h
  obtain ⟨rfl, ho, rfl⟩ : d1 = d' ∧ onlyP b = some s ∧ 0 = e := by simpa [Prod.ext_iff] using h
  refine d_reg ?_
  refine h_q hflU rfl ?_
  refine h_act (post := fun g2 => [cell g2 31 #[.int .u64 0, .int .u64 0, .int .i64 0, .slice none 0 0], DiskT p d]) rfl (a_alloc ze_api_Snap rfl) ?_; rintro g2
  refine h_q hflU rfl ?_
  refine h_done (d_seq (d_reg ?_))
  refine h_q hflU rfl ?_
  refine h_val rfl (.bool false) (fun b w hb hH => exec_pnil_eql (by kernel_rfl) rfl rfl rfl hb) ?_
  refine h_done (d_else rfl (d_skip (f_to (d_seq (d_reg ?_)))))
  refine h_q hflU rfl ?_
  refine h_act (post := fun _ => [cell g2 31 #[.int .u64 0, .int .u64 0, .int .i64 0, .slice none 0 0], DiskT p d1]) rfl (a_does (os' := fun _ => [cell g2 31 #[.int .u64 0, .int .u64 0, .int .i64 0, .slice none 0 0], DiskT p d1]) [1] 0 (ent_of Try.func17 (by kernel_rfl) rfl) (prm_does hf.fit hrm) rfl rfl rfl (fun _ => rfl) rfl rfl rfl) ?_; rintro ⟨⟩
  refine h_q hflU rfl ?_
  refine h_done (d_reg ?_)
  refine h_q hflU rfl ?_
  refine h_val rfl (.bool false) (fun b w hb hH => exec_cmp rfl rfl rfl (cmp_neq_f (by omega)) hb) ?_
  refine h_done (d_else rfl (d_skip (f_to (d_reg ?_))))
  refine h_q hflU rfl ?_
  refine h_act (post := fun bv => [Vec 5 1 encB bv b, cell g2 31 #[.int .u64 0, .int .u64 0, .int .i64 0, .slice none 0 0], DiskT p d1]) rfl (a_does (os' := fun bv => [Vec 5 1 encB bv b, cell g2 31 #[.int .u64 0, .int .u64 0, .int .i64 0, .slice none 0 0], DiskT p d1]) [1] 0 (ent_of Try.func18 (by kernel_rfl) rfl) (disk_read (n := snapN) hf1.fit hok hb) rfl rfl rfl (fun _ => rfl) rfl rfl rfl) ?_; rintro bv
  refine h_q hflU rfl ?_
  refine h_done (d_reg ?_)
  refine h_q hflU rfl ?_
  refine h_act rfl (a_does  [0] 0 (ent_of Try.func19 (by kernel_rfl) rfl) (ponly_some (b := b) rd8_vec hbl ho) rfl rfl rfl (fun _ => rfl) rfl rfl rfl) ?_; rintro ⟨A9, c9⟩
  refine h_q hflU rfl ?_
  refine h_act (post := fun g8 => [cell g8 31 #[.int .u64 0, .int .u64 0, .int .i64 0, .slice none 0 0], Vec 5 1 encB (.slice A9 s.d.length c9) s.d, Vec 5 1 encB bv b, cell g2 31 #[.int .u64 0, .int .u64 0, .int .i64 0, .slice none 0 0], DiskT p d1]) rfl (a_alloc ze_api_Snap rfl) ?_; rintro g8
  refine h_acts (post := fun _ => [cell g8 31 #[.int .u64 s.i, .int .u64 s.t, .int .i64 s.c, .slice A9 s.d.length c9], Vec 5 1 encB (.slice A9 s.d.length c9) s.d, Vec 5 1 encB bv b, cell g2 31 #[.int .u64 0, .int .u64 0, .int .i64 0, .slice none 0 0], DiskT p d1]) rfl rfl (a_store 0 (v := .agg #[.int .u64 s.i, .int .u64 s.t, .int .i64 s.c, .slice A9 s.d.length c9]) #[.int .u64 s.i, .int .u64 s.t, .int .i64 s.c, .slice A9 s.d.length c9] ty_api_Snap.2 rfl rfl rfl rfl rfl rfl rfl rfl rfl) ?_; rintro ⟨⟩
  refine h_q hflU rfl ?_
  refine h_done (d_reg ?_)
  refine h_q hflU rfl ?_
  refine h_val rfl (.agg #[.int .u64 s.i, .int .u64 s.t, .int .i64 s.c, .slice A9 s.d.length c9]) (fun b w hb hH => exec_load rfl rfl (reads_agg (cs := [.int .u64 s.i, .int .u64 s.t, .int .i64 s.c, .slice A9 s.d.length c9]) ty_api_Snap rfl) (hH.row 0 rfl) hb) ?_
  refine h_q hflU rfl ?_
  refine h_acts (post := fun _ => [cell g8 31 #[.int .u64 s.i, .int .u64 s.t, .int .i64 s.c, .slice A9 s.d.length c9], Vec 5 1 encB (.slice A9 s.d.length c9) s.d, Vec 5 1 encB bv b, cell g2 31 #[.int .u64 s.i, .int .u64 s.t, .int .i64 s.c, .slice A9 s.d.length c9], DiskT p d1]) rfl rfl (a_store 3 (v := .agg #[.int .u64 s.i, .int .u64 s.t, .int .i64 s.c, .slice A9 s.d.length c9]) #[.int .u64 s.i, .int .u64 s.t, .int .i64 s.c, .slice A9 s.d.length c9] ty_api_Snap.2 rfl rfl rfl rfl rfl rfl rfl rfl rfl) ?_; rintro ⟨⟩
  refine h_q hflU rfl ?_
  refine h_done (d_ret ?_)
  exact f_fin3 (.cell 3 (v := .agg #[.int .u64 s.i, .int .u64 s.t, .int .i64 s.c, .slice A9 s.d.length c9]) (reads_agg (cs := [.int .u64 s.i, .int .u64 s.t, .int .i64 s.c, .slice A9 s.d.length c9]) ty_api_Snap rfl) rfl rfl) (.tmp rfl) (.tmp rfl) (fun w h => tells (A9, c9) rfl [4, 1] rfl h same_parts) rfl

set_option maxRecDepth 100000 in
theorem popen_none {p : Nat} {d d' : DiskD} {e : Nat} (hf : d.fitK 2) (hbl : ∀ b, (readD (rmSD d).1 snapN).getD [] = b → b.length ≤ 137438953472) (h : openPD d = (d', none, e)) : Does Try.prog 6 #[.pointer (some ⟨p, 0, none⟩)] [DiskT p d] (fun (_ : Unit) => .tuple #[.agg #[.int .u64 0, .int .u64 0, .int .i64 0, .slice none 0 0], .bool false, .int .i64 (e : Int)]) (fun (_ : Unit) => [DiskT p d']) := by
  refine d_ins (args := [.pointer (some ⟨p, 0, none⟩)]) 31 Try.func6 rfl rfl rfl ?_; intro w rs
  obtain ⟨⟨d1, e1⟩, hrm⟩ : ∃ R, rmSD d = R := ⟨_, rfl⟩
  have hr1 : (rmSD d).1 = d1 := by rw [hrm]
  have hr2 : (rmSD d).2 = e1 := by rw [hrm]
  have hf1 : d1.fitK 1 := by rw [← hr1]; exact fitK_rmS hf
  obtain ⟨b, hb⟩ : ∃ b, (readD d1 snapN).getD [] = b := ⟨_, rfl⟩
  unfold openPD at h
  rw [hr1, hr2, hb] at h
  obtain ⟨ok, hok⟩ : ∃ ok, (readD d1 snapN).isSome = ok := ⟨_, rfl⟩
  replace hbl : b.length ≤ 137438953472 := hbl b (by rw [hr1]; exact hb)
  refine d_reg ?_
  refine h_q hflU rfl ?_
  refine h_act (post := fun g2 => [cell g2 31 #[.int .u64 0, .int .u64 0, .int .i64 0, .slice none 0 0], DiskT p d]) rfl (a_alloc ze_api_Snap rfl) ?_; rintro g2
  refine h_q hflU rfl ?_
  refine h_done (d_seq (d_reg ?_))
  refine h_q hflU rfl ?_
  refine h_val rfl (.bool false) (fun b w hb hH => exec_pnil_eql (by kernel_rfl) rfl rfl rfl hb) ?_
  refine h_done (d_else rfl (d_skip (f_to (d_seq (d_reg ?_)))))
  refine h_q hflU rfl ?_
  refine h_act (post := fun _ => [cell g2 31 #[.int .u64 0, .int .u64 0, .int .i64 0, .slice none 0 0], DiskT p d1]) rfl (a_does (os' := fun _ => [cell g2 31 #[.int .u64 0, .int .u64 0, .int .i64 0, .slice none 0 0], DiskT p d1]) [1] 0 (ent_of Try.func17 (by kernel_rfl) rfl) (prm_does hf.fit hrm) rfl rfl rfl (fun _ => rfl) rfl rfl rfl) ?_; rintro ⟨⟩
  refine h_q hflU rfl ?_
  refine h_done ?_
  rcases Nat.eq_zero_or_pos e1 with he1 | he1
  · skip
    rw [if_neg (by omega)] at h
    obtain ⟨rfl, ho, rfl⟩ : d1 = d' ∧ onlyP b = none ∧ 0 = e := by simpa [Prod.ext_iff] using h
    refine d_reg ?_
    refine h_q hflU rfl ?_
    refine h_val rfl (.bool false) (fun b w hb hH => exec_cmp rfl rfl rfl (cmp_neq_f (by omega)) hb) ?_
    refine h_done (d_else rfl (d_skip (f_to (d_reg ?_))))
    refine h_q hflU rfl ?_
    refine h_act (post := fun bv => [Vec 5 1 encB bv b, cell g2 31 #[.int .u64 0, .int .u64 0, .int .i64 0, .slice none 0 0], DiskT p d1]) rfl (a_does (os' := fun bv => [Vec 5 1 encB bv b, cell g2 31 #[.int .u64 0, .int .u64 0, .int .i64 0, .slice none 0 0], DiskT p d1]) [1] 0 (ent_of Try.func18 (by kernel_rfl) rfl) (disk_read (n := snapN) hf1.fit hok hb) rfl rfl rfl (fun _ => rfl) rfl rfl rfl) ?_; rintro bv
    refine h_q hflU rfl ?_
    refine h_done (d_reg ?_)
    refine h_q hflU rfl ?_
    refine h_act (post := fun _ => [Vec 5 1 encB bv b, cell g2 31 #[.int .u64 0, .int .u64 0, .int .i64 0, .slice none 0 0], DiskT p d1]) rfl (a_does (os' := fun _ => [Vec 5 1 encB bv b, cell g2 31 #[.int .u64 0, .int .u64 0, .int .i64 0, .slice none 0 0], DiskT p d1]) [0] 0 (ent_of Try.func19 (by kernel_rfl) rfl) (ponly_none (b := b) rd8_vec hbl ho) rfl rfl rfl (fun _ => rfl) rfl rfl rfl) ?_; rintro ⟨⟩
    refine h_q hflU rfl ?_
    refine h_act (post := fun g8 => [cell g8 31 #[.int .u64 0, .int .u64 0, .int .i64 0, .slice none 0 0], Vec 5 1 encB bv b, cell g2 31 #[.int .u64 0, .int .u64 0, .int .i64 0, .slice none 0 0], DiskT p d1]) rfl (a_alloc ze_api_Snap rfl) ?_; rintro g8
    refine h_acts (post := fun _ => [cell g8 31 #[.int .u64 0, .int .u64 0, .int .i64 0, .slice none 0 0], Vec 5 1 encB bv b, cell g2 31 #[.int .u64 0, .int .u64 0, .int .i64 0, .slice none 0 0], DiskT p d1]) rfl rfl (a_store 0 (v := .agg #[.int .u64 0, .int .u64 0, .int .i64 0, .slice none 0 0]) #[.int .u64 0, .int .u64 0, .int .i64 0, .slice none 0 0] ty_api_Snap.2 rfl rfl rfl rfl rfl rfl rfl rfl rfl) ?_; rintro ⟨⟩
    refine h_q hflU rfl ?_
    refine h_done (d_reg ?_)
    refine h_q hflU rfl ?_
    refine h_val rfl (.agg #[.int .u64 0, .int .u64 0, .int .i64 0, .slice none 0 0]) (fun b w hb hH => exec_load rfl rfl (reads_agg (cs := [.int .u64 0, .int .u64 0, .int .i64 0, .slice none 0 0]) ty_api_Snap rfl) (hH.row 0 rfl) hb) ?_
    refine h_q hflU rfl ?_
    refine h_acts (post := fun _ => [cell g8 31 #[.int .u64 0, .int .u64 0, .int .i64 0, .slice none 0 0], Vec 5 1 encB bv b, cell g2 31 #[.int .u64 0, .int .u64 0, .int .i64 0, .slice none 0 0], DiskT p d1]) rfl rfl (a_store 2 (v := .agg #[.int .u64 0, .int .u64 0, .int .i64 0, .slice none 0 0]) #[.int .u64 0, .int .u64 0, .int .i64 0, .slice none 0 0] ty_api_Snap.2 rfl rfl rfl rfl rfl rfl rfl rfl rfl) ?_; rintro ⟨⟩
    refine h_q hflU rfl ?_
    refine h_done (d_ret ?_)
    exact f_fin3 (.cell 2 (v := .agg #[.int .u64 0, .int .u64 0, .int .i64 0, .slice none 0 0]) (reads_agg (cs := [.int .u64 0, .int .u64 0, .int .i64 0, .slice none 0 0]) ty_api_Snap rfl) rfl rfl) (.tmp rfl) (.tmp rfl) (fun w h => tells () rfl [3] rfl h same_parts) rfl
  · skip
    rw [if_pos (by omega)] at h
    obtain ⟨rfl, rfl⟩ : d1 = d' ∧ e1 = e := by simpa [Prod.ext_iff] using h
    refine d_reg ?_
    refine h_q hflU rfl ?_
    refine h_val rfl (.bool true) (fun b w hb hH => exec_cmp rfl rfl rfl (cmp_neq_t (by omega)) hb) ?_
    refine h_done (d_then rfl (d_reg ?_))
    refine h_q hflU rfl ?_
    refine h_val rfl (.agg #[.int .u64 0, .int .u64 0, .int .i64 0, .slice none 0 0]) (fun b w hb hH => exec_build rfl rfl (by kernel_rfl) hb) ?_
    refine h_q hflU rfl ?_
    refine h_acts (post := fun _ => [cell g2 31 #[.int .u64 0, .int .u64 0, .int .i64 0, .slice none 0 0], DiskT p d1]) rfl rfl (a_store 0 (v := .agg #[.int .u64 0, .int .u64 0, .int .i64 0, .slice none 0 0]) #[.int .u64 0, .int .u64 0, .int .i64 0, .slice none 0 0] ty_api_Snap.2 rfl rfl rfl rfl rfl rfl rfl rfl rfl) ?_; rintro ⟨⟩
    refine h_q hflU rfl ?_
    refine h_done (d_ret (f_then_ret ?_))
    exact f_fin3 (.cell 0 (v := .agg #[.int .u64 0, .int .u64 0, .int .i64 0, .slice none 0 0]) (reads_agg (cs := [.int .u64 0, .int .u64 0, .int .i64 0, .slice none 0 0]) ty_api_Snap rfl) rfl rfl) (.tmp rfl) (.tmp rfl) (fun w h => tells () rfl [1] rfl h same_parts) rfl

set_option maxRecDepth 100000 in
theorem popen_nil (w : World)  : Calls Try.prog 6 #[.pointer none] w fun e w' => e = .returned (.tuple #[.agg #[.int .u64 0, .int .u64 0, .int .i64 0, .slice none 0 0], .bool false, .int .i64 1]) ∧ Below w.heap.size w w' := by
  refine d_in (args := [.pointer none]) 31 Try.func6 rfl rfl rfl ?_
  refine d_reg ?_
  refine h_q hflU rfl ?_
  refine h_act (post := fun g2 => [cell g2 31 #[.int .u64 0, .int .u64 0, .int .i64 0, .slice none 0 0]]) rfl (a_alloc ze_api_Snap rfl) ?_; rintro g2
  refine h_q hflU rfl ?_
  refine h_done (d_seq (d_reg ?_))
  refine h_q hflU rfl ?_
  refine h_val rfl (.bool true) (fun b w hb hH => exec_pnil2_eql (by kernel_rfl) rfl rfl rfl hb) ?_
  refine h_done (d_then rfl (d_reg ?_))
  refine h_q hflU rfl ?_
  refine h_val rfl (.agg #[.int .u64 0, .int .u64 0, .int .i64 0, .slice none 0 0]) (fun b w hb hH => exec_build rfl rfl (by kernel_rfl) hb) ?_
  refine h_acts (post := fun _ => [cell g2 31 #[.int .u64 0, .int .u64 0, .int .i64 0, .slice none 0 0]]) rfl rfl (a_store 0 (v := .agg #[.int .u64 0, .int .u64 0, .int .i64 0, .slice none 0 0]) #[.int .u64 0, .int .u64 0, .int .i64 0, .slice none 0 0] ty_api_Snap.2 rfl rfl rfl rfl rfl rfl rfl rfl rfl) ?_; rintro ⟨⟩
  refine h_q hflU rfl ?_
  refine h_done (d_ret (f_then_ret ?_))
  exact f_fin3 (.cell 0 (v := .agg #[.int .u64 0, .int .u64 0, .int .i64 0, .slice none 0 0]) (reads_agg (cs := [.int .u64 0, .int .u64 0, .int .i64 0, .slice none 0 0]) ty_api_Snap rfl) rfl rfl) (.tmp rfl) (.tmp rfl) (fun w h => ⟨rfl, below0 h.up⟩) rfl

set_option maxRecDepth 100000 in
theorem psave_does {p : Nat} {d d' : DiskD} {s : SnV} {e : Nat} {X : Ass} {A : Option Addr} {cp : Nat} (hk : SnOk s) (hf : d.fitK 3) (hX : Rd8 X (.slice A s.d.length cp) s.d) (h : savePD d (frP s) = (d', e)) : Does Try.prog 8 #[.pointer (some ⟨p, 0, none⟩), .agg #[.int .u64 s.i, .int .u64 s.t, .int .i64 s.c, .slice A s.d.length cp]] [DiskT p d, X] (fun (_ : Unit) => .int .i64 (e : Int)) (fun (_ : Unit) => [DiskT p d', X]) := by
  refine d_ins (args := [.pointer (some ⟨p, 0, none⟩), .agg #[.int .u64 s.i, .int .u64 s.t, .int .i64 s.c, .slice A s.d.length cp]]) 29 Try.func8 rfl rfl rfl ?_; intro w rs
  obtain ⟨⟨d1, e1⟩, hrm⟩ : ∃ R, rmSD d = R := ⟨_, rfl⟩
  have hr1 : (rmSD d).1 = d1 := by rw [hrm]
  have hf1 : d1.fitK 2 := by rw [← hr1]; exact fitK_rmS hf
  have hll := layP_len hk
  have hfl := frP_len hk
  obtain ⟨⟨d2, e2⟩, happ⟩ : ∃ R, appendD d1 snewN (frP s) = R := ⟨_, rfl⟩
  have hf2 : d2.fitK 1 := by have := fitK_append (n := snewN) (b := frP s) hf1 (by omega); rwa [happ] at this
  unfold savePD at h
  rw [hrm] at h
  simp only at h
  rw [happ] at h
  simp only at h
  refine d_reg ?_
  refine h_q hflU rfl ?_
  refine h_act (post := fun g3 => [cell g3 31 #[.int .u64 s.i, .int .u64 s.t, .int .i64 s.c, .slice A s.d.length cp], DiskT p d, X]) rfl (a_box (cs := #[.int .u64 s.i, .int .u64 s.t, .int .i64 s.c, .slice A s.d.length cp]) rfl rfl rfl) ?_; rintro g3
  refine h_q hflU rfl ?_
  refine h_done (d_seq (d_reg ?_))
  refine h_q hflU rfl ?_
  refine h_val rfl (.bool false) (fun b w hb hH => exec_pnil_eql (by kernel_rfl) rfl rfl rfl hb) ?_
  refine h_q hflU rfl ?_
  refine h_val rfl (.agg #[.int .u64 s.i, .int .u64 s.t, .int .i64 s.c, .slice A s.d.length cp]) (fun b w hb hH => exec_load rfl rfl (reads_agg (cs := [.int .u64 s.i, .int .u64 s.t, .int .i64 s.c, .slice A s.d.length cp]) ty_api_Snap rfl) (hH.row 0 rfl) hb) ?_
  refine h_act (post := fun _ => [cell g3 31 #[.int .u64 s.i, .int .u64 s.t, .int .i64 s.c, .slice A s.d.length cp], DiskT p d, X]) rfl (a_call (ent_of Try.func10 (by kernel_rfl) rfl) (fun w hH => pright_ok w true (rightP_iff.2 hk)) rfl rfl rfl) ?_; rintro ⟨⟩
  refine h_q hflU rfl ?_
  refine h_done (d_else rfl (d_skip (f_to (d_seq (d_reg ?_)))))
  refine h_q hflU rfl ?_
  refine h_act (post := fun _ => [cell g3 31 #[.int .u64 s.i, .int .u64 s.t, .int .i64 s.c, .slice A s.d.length cp], DiskT p d1, X]) rfl (a_does (os' := fun _ => [cell g3 31 #[.int .u64 s.i, .int .u64 s.t, .int .i64 s.c, .slice A s.d.length cp], DiskT p d1, X]) [1] 0 (ent_of Try.func17 (by kernel_rfl) rfl) (prm_does hf.fit hrm) rfl rfl rfl (fun _ => rfl) rfl rfl rfl) ?_; rintro ⟨⟩
  refine h_q hflU rfl ?_
  refine h_done ?_
  rcases Nat.eq_zero_or_pos e1 with he1 | he1
  · skip
    rw [if_neg (by omega)] at h
    refine d_reg ?_
    refine h_q hflU rfl ?_
    refine h_val rfl (.bool false) (fun b w hb hH => exec_cmp rfl rfl rfl (cmp_neq_f (by omega)) hb) ?_
    refine h_done (d_else rfl (d_skip (f_to (d_seq (d_reg ?_)))))
    refine h_q hflU rfl ?_
    refine h_val rfl (.agg #[.int .u64 s.i, .int .u64 s.t, .int .i64 s.c, .slice A s.d.length cp]) (fun b w hb hH => exec_load rfl rfl (reads_agg (cs := [.int .u64 s.i, .int .u64 s.t, .int .i64 s.c, .slice A s.d.length cp]) ty_api_Snap rfl) (hH.row 0 rfl) hb) ?_
    refine h_act (post := fun lv => [Vec 5 1 encB lv (layP s), cell g3 31 #[.int .u64 s.i, .int .u64 s.t, .int .i64 s.c, .slice A s.d.length cp], DiskT p d1, X]) rfl (a_makes (os' := fun lv => [Vec 5 1 encB lv (layP s), cell g3 31 #[.int .u64 s.i, .int .u64 s.t, .int .i64 s.c, .slice A s.d.length cp], DiskT p d1, X]) [] 0 (ent_of Try.func22 (by kernel_rfl) rfl) (fun w hH => play_does (u := w) hk (hH.rd8 2 rfl hX)) rfl rfl rfl (fun _ => rfl) rfl rfl rfl) ?_; rintro lv
    refine h_act (post := fun fv => [Vec 5 1 encB fv (frP s), Vec 5 1 encB lv (layP s), cell g3 31 #[.int .u64 s.i, .int .u64 s.t, .int .i64 s.c, .slice A s.d.length cp], DiskT p d1, X]) rfl (a_does (os' := fun fv => [Vec 5 1 encB fv (frP s), Vec 5 1 encB lv (layP s), cell g3 31 #[.int .u64 s.i, .int .u64 s.t, .int .i64 s.c, .slice A s.d.length cp], DiskT p d1, X]) [0] 0 (ent_of Try.func21 (by kernel_rfl) rfl) (frame_does rd8_vec (by omega) rfl) rfl rfl rfl (fun _ => rfl) rfl rfl rfl) ?_; rintro fv
    refine h_act (post := fun _ => [Vec 5 1 encB fv (frP s), Vec 5 1 encB lv (layP s), cell g3 31 #[.int .u64 s.i, .int .u64 s.t, .int .i64 s.c, .slice A s.d.length cp], DiskT p d2, X]) rfl (a_does (os' := fun _ => [Vec 5 1 encB fv (frP s), Vec 5 1 encB lv (layP s), cell g3 31 #[.int .u64 s.i, .int .u64 s.t, .int .i64 s.c, .slice A s.d.length cp], DiskT p d2, X]) [3, 0] 0 (ent_of Try.func20 (by kernel_rfl) rfl) (disk_append (n := snewN) hf1.fit (by omega) rd8_vec happ) rfl rfl rfl (fun _ => rfl) rfl rfl rfl) ?_; rintro ⟨⟩
    refine h_q hflU rfl ?_
    refine h_done ?_
    rcases Nat.eq_zero_or_pos e2 with he2 | he2
    · skip
      rw [if_neg (by omega)] at h
      have hren : renD d2 snewN snapN = (d', e) := h
      refine d_reg ?_
      refine h_q hflU rfl ?_
      refine h_val rfl (.bool false) (fun b w hb hH => exec_cmp rfl rfl rfl (cmp_neq_f (by omega)) hb) ?_
      refine h_done (d_else rfl (d_skip (f_to (d_reg ?_))))
      refine h_q hflU rfl ?_
      refine h_act (post := fun _ => [Vec 5 1 encB fv (frP s), Vec 5 1 encB lv (layP s), cell g3 31 #[.int .u64 s.i, .int .u64 s.t, .int .i64 s.c, .slice A s.d.length cp], DiskT p d', X]) rfl (a_does (os' := fun _ => [Vec 5 1 encB fv (frP s), Vec 5 1 encB lv (layP s), cell g3 31 #[.int .u64 s.i, .int .u64 s.t, .int .i64 s.c, .slice A s.d.length cp], DiskT p d', X]) [3] 0 (ent_of Try.func23 (by kernel_rfl) rfl) (disk_rename (n := snewN) (b := snapN) hf2.fit hren) rfl rfl rfl (fun _ => rfl) rfl rfl rfl) ?_; rintro ⟨⟩
      refine h_q hflU rfl ?_
      refine h_done (d_ret ?_)
      exact f_fin1 (.tmp rfl) (fun w h => tells () rfl [3, 4] rfl h same_parts) rfl
    · skip
      rw [if_pos (by omega)] at h
      obtain ⟨rfl, rfl⟩ : d2 = d' ∧ e2 = e := Prod.mk.inj h
      refine d_reg ?_
      refine h_q hflU rfl ?_
      refine h_val rfl (.bool true) (fun b w hb hH => exec_cmp rfl rfl rfl (cmp_neq_t (by omega)) hb) ?_
      refine h_done (d_then rfl (d_reg ?_))
      refine h_q hflU rfl ?_
      refine h_done (d_ret (f_then_ret ?_))
      exact f_fin1 (.tmp rfl) (fun w h => tells () rfl [3, 4] rfl h same_parts) rfl
  · skip
    rw [if_pos (by omega)] at h
    obtain ⟨rfl, rfl⟩ : d1 = d' ∧ e1 = e := Prod.mk.inj h
    refine d_reg ?_
    refine h_q hflU rfl ?_
    refine h_val rfl (.bool true) (fun b w hb hH => exec_cmp rfl rfl rfl (cmp_neq_t (by omega)) hb) ?_
    refine h_done (d_then rfl (d_reg ?_))
    refine h_q hflU rfl ?_
    refine h_done (d_ret (f_then_ret ?_))
    exact f_fin1 (.tmp rfl) (fun w h => tells () rfl [1, 2] rfl h same_parts) rfl

set_option maxRecDepth 100000 in
theorem psave_bad (w : World) {p : Nat} {s : SnV} {A : Option Addr} {cp : Nat} (hb : rightP s = false) : Calls Try.prog 8 #[.pointer (some ⟨p, 0, none⟩), .agg #[.int .u64 s.i, .int .u64 s.t, .int .i64 s.c, .slice A s.d.length cp]] w fun e w' => e = .returned (.int .i64 1) ∧ Below w.heap.size w w' := by
  refine d_in (args := [.pointer (some ⟨p, 0, none⟩), .agg #[.int .u64 s.i, .int .u64 s.t, .int .i64 s.c, .slice A s.d.length cp]]) 29 Try.func8 rfl rfl rfl ?_
  refine d_reg ?_
  refine h_q hflU rfl ?_
  refine h_act (post := fun g3 => [cell g3 31 #[.int .u64 s.i, .int .u64 s.t, .int .i64 s.c, .slice A s.d.length cp]]) rfl (a_box (cs := #[.int .u64 s.i, .int .u64 s.t, .int .i64 s.c, .slice A s.d.length cp]) rfl rfl rfl) ?_; rintro g3
  refine h_q hflU rfl ?_
  refine h_done (d_seq (d_reg ?_))
  refine h_q hflU rfl ?_
  refine h_val rfl (.bool false) (fun b w hb hH => exec_pnil_eql (by kernel_rfl) rfl rfl rfl hb) ?_
  refine h_q hflU rfl ?_
  refine h_val rfl (.agg #[.int .u64 s.i, .int .u64 s.t, .int .i64 s.c, .slice A s.d.length cp]) (fun b w hb hH => exec_load rfl rfl (reads_agg (cs := [.int .u64 s.i, .int .u64 s.t, .int .i64 s.c, .slice A s.d.length cp]) ty_api_Snap rfl) (hH.row 0 rfl) hb) ?_
  refine h_act (post := fun _ => [cell g3 31 #[.int .u64 s.i, .int .u64 s.t, .int .i64 s.c, .slice A s.d.length cp]]) rfl (a_call (ent_of Try.func10 (by kernel_rfl) rfl) (fun w hH => pright_ok w false hb) rfl rfl rfl) ?_; rintro ⟨⟩
  refine h_q hflU rfl ?_
  refine h_done (d_then rfl (d_reg ?_))
  refine h_q hflU rfl ?_
  refine h_done (d_ret (f_then_ret ?_))
  exact f_fin1 (.tmp rfl) (fun w h => ⟨rfl, below0 h.up⟩) rfl

set_option maxRecDepth 100000 in
theorem psave_nil (w : World) {s : SnV} {A : Option Addr} {cp : Nat} : Calls Try.prog 8 #[.pointer none, .agg #[.int .u64 s.i, .int .u64 s.t, .int .i64 s.c, .slice A s.d.length cp]] w fun e w' => e = .returned (.int .i64 1) ∧ Below w.heap.size w w' := by
  refine d_in (args := [.pointer none, .agg #[.int .u64 s.i, .int .u64 s.t, .int .i64 s.c, .slice A s.d.length cp]]) 29 Try.func8 rfl rfl rfl ?_
  refine d_reg ?_
  refine h_q hflU rfl ?_
  refine h_act (post := fun g3 => [cell g3 31 #[.int .u64 s.i, .int .u64 s.t, .int .i64 s.c, .slice A s.d.length cp]]) rfl (a_box (cs := #[.int .u64 s.i, .int .u64 s.t, .int .i64 s.c, .slice A s.d.length cp]) rfl rfl rfl) ?_; rintro g3
  refine h_q hflU rfl ?_
  refine h_done (d_seq (d_reg ?_))
  refine h_q hflU rfl ?_
  refine h_val rfl (.bool true) (fun b w hb hH => exec_pnil2_eql (by kernel_rfl) rfl rfl rfl hb) ?_
  refine h_q hflU rfl ?_
  refine h_done (d_then rfl (d_reg ?_))
  refine h_q hflU rfl ?_
  refine h_done (d_ret (f_then_ret ?_))
  exact f_fin1 (.tmp rfl) (fun w h => ⟨rfl, below0 h.up⟩) rfl
end Go.Proofs.Ytjcfimmcogkopaa.Sep
