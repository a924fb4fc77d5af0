/-
  DskQ
-/
import Derived.Test.YtjcfimmcogkopaaAD01
set_option linter.unusedSimpArgs false
set_option linter.unusedVariables false

namespace Go.Proofs.Ytjcfimmcogkopaa.Sep
open Go.RowKit
open Go.Proofs.Ytjcfimmcogkopaa.Mem (Dist Blk Chg below0)

set_option maxRecDepth 100000 in
theorem ren_no {p : Nat} {d d1 : DiskD} {n : List UInt8} {b2 : List UInt8} (h : beginD d = (d1, 3)) : Does Try.prog 23 #[.pointer (some ⟨p, 0, none⟩), .string (bs n), .string (bs b2)] [DiskT p d] (fun (_ : Unit) => .int .i64 3) (fun (_ : Unit) => [DiskT p d1]) := by
  refine d_ins (args := [.pointer (some ⟨p, 0, none⟩), .string (bs n), .string (bs b2)]) 25 Try.func23 rfl rfl rfl ?_; intro w rs
  refine d_reg ?_
  refine h_q hflK rfl ?_
  refine h_done (d_seq (d_reg ?_))
  refine h_q hflK rfl ?_
  refine h_act (post := fun _ => [DiskT p d1]) rfl (a_does (os' := fun _ => [DiskT p d1]) [0] 0 (ent_of Try.func26 (by kernel_rfl) rfl) (begin_no h) rfl rfl rfl (fun _ => rfl) rfl rfl rfl) ?_; rintro ⟨⟩
  refine h_q hflK rfl ?_
  refine h_done (d_then rfl (d_reg ?_))
  refine h_q hflK rfl ?_
  refine h_done (d_ret (f_then_ret ?_))
  exact f_fin1 (.tmp rfl) (fun w h => tells () rfl [0] rfl h same_parts) rfl

set_option maxRecDepth 100000 in
theorem ren_bad {p : Nat} {d d1 : DiskD} {n : List UInt8} {b2 : List UInt8} (h : beginD d = (d1, 0)) (hn : nameB b2 = false) : Does Try.prog 23 #[.pointer (some ⟨p, 0, none⟩), .string (bs n), .string (bs b2)] [DiskT p d] (fun (_ : Unit) => .int .i64 1) (fun (_ : Unit) => [DiskT p d1]) := by
  refine d_ins (args := [.pointer (some ⟨p, 0, none⟩), .string (bs n), .string (bs b2)]) 25 Try.func23 rfl rfl rfl ?_; intro w rs
  refine d_reg ?_
  refine h_q hflK rfl ?_
  refine h_done (d_seq (d_reg ?_))
  refine h_q hflK rfl ?_
  refine h_act (post := fun _ => [DiskT p d1]) rfl (a_does (os' := fun _ => [DiskT p d1]) [0] 0 (ent_of Try.func26 (by kernel_rfl) rfl) (begin_ok h) rfl rfl rfl (fun _ => rfl) rfl rfl rfl) ?_; rintro ⟨⟩
  refine h_q hflK rfl ?_
  refine h_done (d_else rfl (d_skip (f_to (d_seq (d_reg ?_)))))
  refine h_q hflK rfl ?_
  refine h_act (post := fun _ => [DiskT p d1]) rfl (a_call (ent_of Try.func36 (by kernel_rfl) rfl) (fun w hH => nameMay_no w b2 hn) rfl rfl rfl) ?_; rintro ⟨⟩
  refine h_q hflK rfl ?_
  refine h_done (d_then rfl (d_reg ?_))
  refine h_q hflK rfl ?_
  refine h_done (d_ret (f_then_ret ?_))
  exact f_fin1 (.tmp rfl) (fun w h => tells () rfl [0] rfl h same_parts) rfl

set_option maxRecDepth 100000 in
theorem ren_none {p : Nat} {d d1 : DiskD} {n : List UInt8} {b2 : List UInt8} (hfit : d.fit) (h : beginD d = (d1, 0)) (hn : nameB b2 = true) (hg : getM d1.now n = none) : Does Try.prog 23 #[.pointer (some ⟨p, 0, none⟩), .string (bs n), .string (bs b2)] [DiskT p d] (fun (_ : Unit) => .int .i64 4) (fun (_ : Unit) => [DiskT p d1]) := by
  have hd1 := (begin_up h).1
  have hfit1 := begin_fit h hfit
  refine d_ins (args := [.pointer (some ⟨p, 0, none⟩), .string (bs n), .string (bs b2)]) 25 Try.func23 rfl rfl rfl ?_; intro w rs
  refine d_reg ?_
  refine h_q hflK rfl ?_
  refine h_done (d_seq (d_reg ?_))
  refine h_q hflK rfl ?_
  refine h_act (post := fun _ => [DiskT p d1]) rfl (a_does (os' := fun _ => [DiskT p d1]) [0] 0 (ent_of Try.func26 (by kernel_rfl) rfl) (begin_ok h) rfl rfl rfl (fun _ => rfl) rfl rfl rfl) ?_; rintro ⟨⟩
  refine h_q hflK rfl ?_
  refine h_done (d_else rfl (d_skip (f_to (d_seq (d_reg ?_)))))
  refine h_q hflK rfl ?_
  refine h_act (post := fun _ => [DiskT p d1]) rfl (a_call (ent_of Try.func36 (by kernel_rfl) rfl) (fun w hH => nameMay_ok w b2 hn) rfl rfl rfl) ?_; rintro ⟨⟩
  refine h_q hflK rfl ?_
  refine h_done (d_else rfl (d_skip (f_to (d_seq ?_))))
  refine d_open 0 rfl (disk_upL hd1) (fun _ => rfl) ?_; rintro x
  refine WC2.fact 3 rfl filesT_nodup ?_; rintro hsn
  refine WC2.fact 4 rfl filE_nodup_map ?_; rintro hgn
  have hgL : getM x.L n = none := by rw [getM_L x.hg hgn] at hg; simpa using hg
  refine d_reg ?_
  refine h_q hflK rfl ?_
  refine h_val rfl (.pointer (some ⟨p, 0, none⟩)) (fun b w hb hH => by exact exec_nilCheck rfl rfl hb) ?_
  refine h_q hflK rfl ?_
  refine h_val rfl (x.sh) (fun b w hb hH => exec_load rfl rfl (reads_one ty_disk_files rfl) (hH.row 0 rfl) hb) ?_
  refine h_q hflK rfl ?_
  refine h_act (post := fun _ => [cell p 53 #[.int .i64 d1.room, .int .i64 (fzI d1.fuse), .bool false, x.pv, x.sm, x.sh], Vec 68 5 encO x.pv x.W, OpsE x.W, FilesT x.sm d1.syn, MapT encKey encFil x.sh x.L, FilE x.L]) rfl (a_does (os' := fun _ => [cell p 53 #[.int .i64 d1.room, .int .i64 (fzI d1.fuse), .bool false, x.pv, x.sm, x.sh], Vec 68 5 encO x.pv x.W, OpsE x.W, FilesT x.sm d1.syn, MapT encKey encFil x.sh x.L, FilE x.L]) [4] 0 (ent_of Try.func33 (by kernel_rfl) rfl) (has_t _ _ n _ hgL) rfl rfl rfl (fun _ => rfl) rfl rfl rfl) ?_; rintro ⟨⟩
  refine h_q hflK rfl ?_
  refine h_done (d_then rfl (d_reg ?_))
  refine h_q hflK rfl ?_
  refine h_done (d_ret (f_then_ret ?_))
  exact f_fin1 (.tmp rfl) (fun w h => tells () rfl [0, 1, 2, 3, 4, 5] rfl h (upL_close (os := []) x hd1)) rfl

set_option maxRecDepth 100000 in
theorem ren_ok {p : Nat} {d d1 : DiskD} {n : List UInt8} {b2 : List UInt8} {y : List UInt8} (hfit : d.fit) (h : beginD d = (d1, 0)) (hn : nameB b2 = true) (hg : getM d1.now n = some y) : Does Try.prog 23 #[.pointer (some ⟨p, 0, none⟩), .string (bs n), .string (bs b2)] [DiskT p d] (fun (_ : Unit) => .int .i64 0) (fun (_ : Unit) => [DiskT p (doesD d1 (.ren n b2))]) := by
  have hd1 := (begin_up h).1
  have hfit1 := begin_fit h hfit
  have hg_ := hg
  refine d_ins (args := [.pointer (some ⟨p, 0, none⟩), .string (bs n), .string (bs b2)]) 25 Try.func23 rfl rfl rfl ?_; intro w rs
  refine d_reg ?_
  refine h_q hflK rfl ?_
  refine h_done (d_seq (d_reg ?_))
  refine h_q hflK rfl ?_
  refine h_act (post := fun _ => [DiskT p d1]) rfl (a_does (os' := fun _ => [DiskT p d1]) [0] 0 (ent_of Try.func26 (by kernel_rfl) rfl) (begin_ok h) rfl rfl rfl (fun _ => rfl) rfl rfl rfl) ?_; rintro ⟨⟩
  refine h_q hflK rfl ?_
  refine h_done (d_else rfl (d_skip (f_to (d_seq (d_reg ?_)))))
  refine h_q hflK rfl ?_
  refine h_act (post := fun _ => [DiskT p d1]) rfl (a_call (ent_of Try.func36 (by kernel_rfl) rfl) (fun w hH => nameMay_ok w b2 hn) rfl rfl rfl) ?_; rintro ⟨⟩
  refine h_q hflK rfl ?_
  refine h_done (d_else rfl (d_skip (f_to (d_seq ?_))))
  refine d_open 0 rfl (disk_upL hd1) (fun _ => rfl) ?_; rintro x
  refine WC2.fact 3 rfl filesT_nodup ?_; rintro hsn
  refine WC2.fact 4 rfl filE_nodup_map ?_; rintro hgn
  obtain ⟨r, hgL, hry⟩ : ∃ r, getM x.L n = some r ∧ r.2 = y := by rw [getM_L x.hg hgn] at hg; exact Option.map_eq_some_iff.1 hg
  subst hry
  have hm : (n, r) ∈ x.L := (getM_some (by rw [keys_fsL] at hgn; exact hgn)).1 hgL
  refine d_reg ?_
  refine h_q hflK rfl ?_
  refine h_val rfl (.pointer (some ⟨p, 0, none⟩)) (fun b w hb hH => by exact exec_nilCheck rfl rfl hb) ?_
  refine h_q hflK rfl ?_
  refine h_val rfl (x.sh) (fun b w hb hH => exec_load rfl rfl (reads_one ty_disk_files rfl) (hH.row 0 rfl) hb) ?_
  refine h_q hflK rfl ?_
  refine h_act (post := fun _ => [cell p 53 #[.int .i64 d1.room, .int .i64 (fzI d1.fuse), .bool false, x.pv, x.sm, x.sh], Vec 68 5 encO x.pv x.W, OpsE x.W, FilesT x.sm d1.syn, MapT encKey encFil x.sh x.L, FilE x.L]) rfl (a_does (os' := fun _ => [cell p 53 #[.int .i64 d1.room, .int .i64 (fzI d1.fuse), .bool false, x.pv, x.sm, x.sh], Vec 68 5 encO x.pv x.W, OpsE x.W, FilesT x.sm d1.syn, MapT encKey encFil x.sh x.L, FilE x.L]) [4] 0 (ent_of Try.func33 (by kernel_rfl) rfl) (has_t _ _ n _ hgL) rfl rfl rfl (fun _ => rfl) rfl rfl rfl) ?_; rintro ⟨⟩
  refine h_q hflK rfl ?_
  refine h_done (d_else rfl (d_skip (f_to ?_)))
  refine d_close [0, 1, 2, 3, 4, 5] rfl (upL_one x hd1) rfl ?_
  refine d_nilvec 5 1 encB ?_
  refine d_reg ?_
  refine h_q hflK rfl ?_
  refine h_val rfl (.agg #[.int .i64 2, .string (bs n), .slice none 0 0, .int .i64 0, .string (bs b2)]) (fun b w hb hH => exec_build rfl rfl (by kernel_rfl) hb) ?_
  refine h_act (post := fun _ => [emp, DiskT p (doesD d1 (⟨.ren n b2, none, 0⟩ : OpV).o)]) rfl (a_does (os' := fun _ => [emp, DiskT p (doesD d1 (⟨.ren n b2, none, 0⟩ : OpV).o)]) [1, 0] 0 (ent_of Try.func38 (by kernel_rfl) rfl) (take_t (x := ⟨.ren n b2, none, 0⟩) hd1 hfit1 ⟨⟨_, hg_⟩, hn⟩ (Nat.zero_le _)) rfl rfl rfl (fun _ => rfl) rfl rfl rfl) ?_; rintro ⟨⟩
  refine WL2.leave [0] rfl rfl ?_
  refine h_q hflK rfl ?_
  refine h_done (d_ret ?_)
  exact f_fin1 (.tmp rfl) (fun w h => tells () rfl [0] rfl h same_parts) rfl

theorem disk_rename {p : Nat} {d d' : DiskD} {n b : List UInt8} {e : Nat} (hd : d.fit) (h : renD d n b = (d', e)) : Does Try.prog 23 #[.pointer (some ⟨p, 0, none⟩), .string (bs n), .string (bs b)] [DiskT p d] (fun _ : Unit => .int .i64 (e : Int)) (fun _ => [DiskT p d']) := by
  unfold renD at h
  obtain ⟨d1, e1, h1⟩ : ∃ d1 e1, beginD d = (d1, e1) := ⟨_, _, rfl⟩
  have h01 := begin_01 d
  rw [h1] at h h01
  simp only at h h01
  rcases h01 with rfl | rfl
  · rw [if_pos (by decide)] at h
    cases h
    exact ren_no h1
  · rw [if_neg (by decide)] at h
    cases hn : nameB b
    · rw [hn, if_pos rfl] at h
      cases h
      exact ren_bad h1 hn
    · rw [hn, if_neg (by decide)] at h
      cases hg : getM d1.now n with
      | none => rw [hg] at h; cases h; exact ren_none hd h1 hn hg
      | some y => rw [hg] at h; cases h; exact ren_ok hd h1 hn hg
end Go.Proofs.Ytjcfimmcogkopaa.Sep
