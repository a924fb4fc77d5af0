/-
  DskAU · DskR
-/
import Derived.Test.YtfiojppagmnpcaaDoorDB02
import Derived.Test.YtfiojppagmnpcaaDoorDD01
import Derived.Test.YtfiojppagmnpcaaDoorDE01
set_option linter.unusedSimpArgs false
set_option linter.unusedVariables false

namespace Go.Proofs.YtfiojppagmnpcaaDoor.Sep
open Go.RowKit
open Go.Proofs.YtfiojppagmnpcaaDoor.Mem (Dist Blk Chg below0)

set_option maxRecDepth 100000 in
theorem disk_used {p : Nat} {d : DiskD} {k : Nat} (hdn : d.down = false) (hfit : d.fit) (h : usedD d = k) : Does Tryd.prog 7 #[.pointer (some ⟨p, 0, none⟩)] [DiskT p d] (fun (_ : Unit) => .int .i64 (k : Int)) (fun (_ : Unit) => [DiskT p d]) := by
  refine d_ins (args := [.pointer (some ⟨p, 0, none⟩)]) 20 Tryd.func7 rfl rfl rfl ?_; intro w rs
  refine d_open 0 rfl (disk_upL hdn) (fun _ => rfl) ?_; rintro x
  refine WC2.fact 3 rfl filesT_nodup ?_; rintro hsn
  refine WC2.fact 4 rfl filE_nodup_map ?_; rintro hgn
  have hpu : usedF (fsL x.L) ≤ 1099511627776 := by rw [perm_used x.hg]; exact now_le hfit hsn x.hok
  have hk_ : usedF (fsL x.L) = k := by rw [← h]; unfold usedD; rw [hdn, if_neg (by simp)]; exact perm_used x.hg
  refine d_reg ?_
  refine h_q hflK rfl ?_
  refine h_done (d_reg ?_)
  refine h_q hflK rfl ?_
  refine h_done (d_seq (d_reg ?_))
  refine h_q hflK rfl ?_
  refine h_val rfl (.pointer (some ⟨p, 0, none⟩)) (fun b w hb hH => by exact exec_nilCheck rfl rfl hb) ?_
  refine h_q hflK rfl ?_
  refine h_val rfl (x.sh) (fun b w hb hH => exec_load rfl rfl (reads_one ty_disk_files rfl) (hH.row 0 rfl) hb) ?_
  refine h_act (post := fun g1 => [cell p 42 #[.int .i64 d.room, .int .i64 (fzI d.fuse), .bool false, x.pv, x.sm, x.sh], Vec 51 5 encO x.pv x.W, OpsE x.W, FilesT x.sm d.syn, RngT encKey encFil x.sh (.pointer (some ⟨g1, 0, none⟩)) x.L x.L none, FilE x.L]) rfl (a_range 4 Tryd.underlying39 rfl rfl rfl) ?_; rintro g1
  refine h_done (d_block ?_)
  refine d_loop (α := Nat × FilL × Option (List UInt8 × PtT)) (fun ⟨n, left, cur⟩ => [(2, .int .i64 0), (3, .int .i64 ((n : Nat) : Int)), (10, .pointer (some ⟨g1, 0, none⟩))]) (fun ⟨n, left, cur⟩ => [cell p 42 #[.int .i64 d.room, .int .i64 (fzI d.fuse), .bool false, x.pv, x.sm, x.sh], Vec 51 5 encO x.pv x.W, OpsE x.W, FilesT x.sm d.syn, RngT encKey encFil x.sh (.pointer (some ⟨g1, 0, none⟩)) x.L left cur, FilE x.L]) (fun ⟨n, left, cur⟩ => n + usedF (fsL left) = usedF (fsL x.L) ∧ ∀ p, p ∈ left → p ∈ x.L) (fun ⟨n, left, cur⟩ => left.length) (0, x.L, none) ⟨Nat.zero_add _, fun _ h => h⟩ ⟨rfl, rfl, rfl, trivial⟩ rfl ?_
  rintro ⟨n, left, cur⟩ hI
  refine WC2.at_ (env' := [(2, .int .i64 0), (3, .int .i64 ((n : Nat) : Int)), (10, .pointer (some ⟨g1, 0, none⟩))]) (rs' := [cell p 42 #[.int .i64 d.room, .int .i64 (fzI d.fuse), .bool false, x.pv, x.sm, x.sh], Vec 51 5 encO x.pv x.W, OpsE x.W, FilesT x.sm d.syn, RngT encKey encFil x.sh (.pointer (some ⟨g1, 0, none⟩)) x.L left cur, FilE x.L]) ⟨rfl, rfl, rfl, trivial⟩ rfl ?_
  have hI1 : n + usedF (fsL left) = usedF (fsL x.L) := hI.1
  rcases Classical.em (left = []) with hc | hc
  · skip
    have hn : n = k := by rw [hc] at hI1; rw [← hk_]; simpa [fsL, usedF] using hI1
    refine d_reg ?_
    refine h_q hflK rfl ?_
    refine h_val rfl (.tuple #[.bool false]) (fun b w hb hH => e_next0 4 rfl hc rfl rfl hH hb) ?_
    refine h_q hflK rfl ?_
    refine h_done (d_seq (d_else rfl (d_exit (f_then_exit (f_then_exit (f_block_exit (f_to ?_)))))))
    refine d_open 4 rfl rng_close (fun _ => rfl) ?_; rintro ⟨⟩
    refine WC2.leave [1] rfl rfl ?_
    refine d_reg ?_
    refine h_q hflK rfl ?_
    refine h_done (d_ret ?_)
    exact f_fin1 (.tmp rfl) (fun w h => tells () (by rw [hn]) [1, 2, 3, 4, 0, 5] rfl h (upL_close (os := []) x hdn)) rfl
  · skip
    refine d_reg ?_
    refine h_q hflK rfl ?_
    refine h_act (post := fun q : { q : Nat × List UInt8 × PtT // (left)[q.1]? = some q.2 } => [cell p 42 #[.int .i64 d.room, .int .i64 (fzI d.fuse), .bool false, x.pv, x.sm, x.sh], Vec 51 5 encO x.pv x.W, OpsE x.W, FilesT x.sm d.syn, RngT encKey encFil x.sh (.pointer (some ⟨g1, 0, none⟩)) x.L (left.eraseIdx q.1.1) (some (q.1.2.1, q.1.2.2)), FilE x.L]) rfl (a_next1 4 rfl hc rfl rfl) ?_; rintro q
    refine h_q hflK rfl ?_
    refine h_done (d_seq (d_then rfl (d_skip (f_to (d_block ?_)))))
    have hqm : q.1.2 ∈ x.L := hI.2 _ (List.mem_of_getElem? q.2)
    have hqu : usedF (fsL (left.eraseIdx q.1.1)) + q.1.2.2.2.length = usedF (fsL left) := used_erase q.2
    refine d_reg ?_
    refine h_q hflK rfl ?_
    refine h_val rfl (.tuple #[.string (bs q.1.2.1), q.1.2.2.1]) (fun b w hb hH => e_entry 4 rfl rfl rfl hH hb) ?_
    refine h_q hflK rfl ?_
    refine h_done (d_reg1 ?_)
    refine h_q hflK rfl ?_
    refine h_val rfl (.int .i64 (q.1.2.2.2.length : Int)) (fun b w hb hH => e_slen ((hH.rd8 5 rfl (rd8_fil hqm)).rd) Tryd.underlying32 rfl rfl hb) ?_
    refine h_val rfl (.int .i64 ((n + q.1.2.2.2.length : Nat) : Int)) (fun b w hb hH => exec_ar rfl rfl rfl rfl (by rw [IntWalk.i64_in _ (by omega)]; omega) hb) ?_
    refine h_q hflK rfl ?_
    refine h_nil (f_block ?_)
    exact f_again (n + q.1.2.2.2.length, left.eraseIdx q.1.1, some (q.1.2.1, q.1.2.2)) 0 ⟨by omega, fun p hp => hI.2 p (List.mem_of_mem_eraseIdx hp)⟩ (show (left.eraseIdx q.1.1).length < left.length from erase_less q.2) ⟨rfl, rfl, rfl, trivial⟩ rfl

set_option maxRecDepth 100000 in
theorem append_noU (u : World) {p : Nat} {d d1 : DiskD} {n y : List UInt8} {v : Value} (h : beginD d = (d1, 3)) : DoesU u Tryd.prog 9 #[.pointer (some ⟨p, 0, none⟩), .string (bs n), v] [DiskT p d] (fun (_ : Unit) => .int .i64 3) (fun (_ : Unit) => [DiskT p d1]) := by
  refine d_insU (args := [.pointer (some ⟨p, 0, none⟩), .string (bs n), v]) 48 Tryd.func9 rfl rfl rfl ?_; intro w rs hU hS
  refine d_reg ?_
  refine h_q hflK rfl ?_
  refine h_done (d_seq (d_reg ?_))
  refine h_q hflK rfl ?_
  refine h_act (post := fun _ => [DiskT p d1]) rfl (a_does (os' := fun _ => [DiskT p d1]) [0] 0 (ent_of Tryd.func15 (by kernel_rfl) rfl) (begin_no h) rfl rfl rfl (fun _ => rfl) rfl rfl rfl) ?_; rintro ⟨⟩
  refine h_q hflK rfl ?_
  refine h_done (d_then rfl (d_reg ?_))
  refine h_q hflK rfl ?_
  refine h_done (d_ret (f_then_ret ?_))
  exact f_fin1 (.tmp rfl) (fun w h => tells () rfl [0] rfl h same_parts) rfl

set_option maxRecDepth 100000 in
theorem append_badU (u : World) {p : Nat} {d d1 : DiskD} {n y : List UInt8} {v : Value} (h : beginD d = (d1, 0)) (hn : nameB n = false) : DoesU u Tryd.prog 9 #[.pointer (some ⟨p, 0, none⟩), .string (bs n), v] [DiskT p d] (fun (_ : Unit) => .int .i64 1) (fun (_ : Unit) => [DiskT p d1]) := by
  refine d_insU (args := [.pointer (some ⟨p, 0, none⟩), .string (bs n), v]) 48 Tryd.func9 rfl rfl rfl ?_; intro w rs hU hS
  refine d_reg ?_
  refine h_q hflK rfl ?_
  refine h_done (d_seq (d_reg ?_))
  refine h_q hflK rfl ?_
  refine h_act (post := fun _ => [DiskT p d1]) rfl (a_does (os' := fun _ => [DiskT p d1]) [0] 0 (ent_of Tryd.func15 (by kernel_rfl) rfl) (begin_ok h) rfl rfl rfl (fun _ => rfl) rfl rfl rfl) ?_; rintro ⟨⟩
  refine h_q hflK rfl ?_
  refine h_done (d_else rfl (d_skip (f_to (d_seq (d_reg ?_)))))
  refine h_q hflK rfl ?_
  refine h_act (post := fun _ => [DiskT p d1]) rfl (a_call (ent_of Tryd.func16 (by kernel_rfl) rfl) (fun w hH => nameMay_no w n hn) rfl rfl rfl) ?_; rintro ⟨⟩
  refine h_q hflK rfl ?_
  refine h_done (d_then rfl (d_reg ?_))
  refine h_q hflK rfl ?_
  refine h_done (d_ret (f_then_ret ?_))
  exact f_fin1 (.tmp rfl) (fun w h => tells () rfl [0] rfl h same_parts) rfl

set_option maxRecDepth 100000 in
theorem append_fullU (u : World) {p : Nat} {d d1 : DiskD} {n y : List UInt8} {v : Value} (hv : Sl8 u v y) (hfit : d.fit) (h : beginD d = (d1, 0)) (hn : nameB n = true) (hy : y.length ≤ 140737488351232) (hf : fitsD d1 n y = false) : DoesU u Tryd.prog 9 #[.pointer (some ⟨p, 0, none⟩), .string (bs n), v] [DiskT p d] (fun (_ : Unit) => .int .i64 2) (fun (_ : Unit) => [DiskT p d1]) := by
  have hd1 := (begin_up h).1
  have hfit1 := begin_fit h hfit
  refine d_insU (args := [.pointer (some ⟨p, 0, none⟩), .string (bs n), v]) 48 Tryd.func9 rfl rfl rfl ?_; intro w rs hU hS
  refine d_reg ?_
  refine h_q hflK rfl ?_
  refine h_done (d_seq (d_reg ?_))
  refine h_q hflK rfl ?_
  refine h_act (post := fun _ => [DiskT p d1]) rfl (a_does (os' := fun _ => [DiskT p d1]) [0] 0 (ent_of Tryd.func15 (by kernel_rfl) rfl) (begin_ok h) rfl rfl rfl (fun _ => rfl) rfl rfl rfl) ?_; rintro ⟨⟩
  refine h_q hflK rfl ?_
  refine h_done (d_else rfl (d_skip (f_to (d_seq (d_reg ?_)))))
  refine h_q hflK rfl ?_
  refine h_act (post := fun _ => [DiskT p d1]) rfl (a_call (ent_of Tryd.func16 (by kernel_rfl) rfl) (fun w hH => nameMay_ok w n hn) rfl rfl rfl) ?_; rintro ⟨⟩
  refine h_q hflK rfl ?_
  refine h_done (d_else rfl (d_skip (f_to ?_)))
  refine d_open 0 rfl (disk_upL hd1) (fun _ => rfl) ?_; rintro x
  refine WC2.fact 3 rfl filesT_nodup ?_; rintro hsn
  refine WC2.fact 4 rfl filE_nodup_map ?_; rintro hgn
  have hr := x.hr
  have hpu : usedF (fsL x.L) ≤ 1099511627776 := by rw [perm_used x.hg]; exact now_le hfit1 hsn x.hok
  rcases full_ways x.hg hgn hf with ⟨hlen, hgL⟩ | ⟨hlen, r, hgL⟩ | ⟨hlen, hgL, h64⟩
  · skip
    refine d_reg ?_
    refine h_q hflK rfl ?_
    refine h_val rfl (.pointer (some ⟨p, 0, none⟩)) (fun b w hb hH => by exact exec_nilCheck rfl rfl hb) ?_
    refine h_q hflK rfl ?_
    refine h_val rfl (x.sh) (fun b w hb hH => exec_load rfl rfl (reads_one ty_disk_files rfl) (hH.row 0 rfl) hb) ?_
    refine h_q hflK rfl ?_
    refine h_act (post := fun _ => [cell p 42 #[.int .i64 d1.room, .int .i64 (fzI d1.fuse), .bool false, x.pv, x.sm, x.sh], Vec 51 5 encO x.pv x.W, OpsE x.W, FilesT x.sm d1.syn, MapT encKey encFil x.sh x.L, FilE x.L]) rfl (a_does (os' := fun _ => [cell p 42 #[.int .i64 d1.room, .int .i64 (fzI d1.fuse), .bool false, x.pv, x.sm, x.sh], Vec 51 5 encO x.pv x.W, OpsE x.W, FilesT x.sm d1.syn, MapT encKey encFil x.sh x.L, FilE x.L]) [4] 0 (ent_of Tryd.func17 (by kernel_rfl) rfl) (has_t _ _ n _ hgL) rfl rfl rfl (fun _ => rfl) rfl rfl rfl) ?_; rintro ⟨⟩
    refine h_q hflK rfl ?_
    refine h_done (d_seq (d_seq ?_))
    refine d_parS 21 1 [⟨.quiet, [none], fun _ => v, []⟩, ⟨.quiet, [none], fun _ => .int .i64 (y.length : Int), [0]⟩, ⟨.quiet, [none], fun _ => .pointer (some ⟨p, 0, none⟩), []⟩, ⟨.quiet, [none], fun _ => .pointer (some ⟨p, 0, none⟩), [2]⟩, ⟨.quiet, [none], fun _ => .pointer (some ⟨p, 0, none⟩), [3]⟩, ⟨.quiet, [none], fun _ => .int .i64 d1.room, [4]⟩, ⟨.quiet, [none], fun _ => .pointer (some ⟨p, 0, none⟩), []⟩, ⟨.actv 0, [some false], fun _ => .int .i64 ((usedF (fsL x.L) : Nat) : Int), [6]⟩, ⟨.quiet, [some true], fun _ => .int .i64 (d1.room - (usedF (fsL x.L) : Int)), [5, 7]⟩, ⟨.quiet, [some true], fun _ => .bool true, [1, 8]⟩, ⟨.quiet, [some true], fun _ => .bool true, [9]⟩, ⟨.skip, [some true], fun _ => undef, [10]⟩, ⟨.skip, [some true], fun _ => undef, [11, 10]⟩, ⟨.skip, [some true], fun _ => undef, [12]⟩, ⟨.skip, [some true], fun _ => undef, [13, 12]⟩, ⟨.skip, [some true], fun _ => undef, [14, 12]⟩, ⟨.skip, [some true], fun _ => undef, [15, 12]⟩, ⟨.skip, [some true], fun _ => undef, [16, 12]⟩, ⟨.skip, [some true], fun _ => undef, [17, 12]⟩, ⟨.skip, [some true], fun _ => undef, [12, 18, 10]⟩, ⟨.quiet, [some true], fun _ => .bool true, [10, 19]⟩] [(0, .pointer (some ⟨p, 0, none⟩)), (1, .string (bs n)), (2, v), (6, .int .i64 0), (7, .bool true)] (fun ρ => match ρ with | [r0] => [cell p 42 #[.int .i64 d1.room, .int .i64 (fzI d1.fuse), .bool false, x.pv, x.sm, x.sh], Vec 51 5 encO x.pv x.W, OpsE x.W, FilesT x.sm d1.syn, MapT encKey encFil x.sh x.L, FilE x.L] | _ => []) (by kernel_rfl) (by kernel_rfl) ⟨rfl, rfl, rfl, rfl, rfl, trivial⟩ rfl ?_ ?_
    · skip
      refine s_cons (by intro r0_; exact ⟨rfl, fun b w hH hb => exec_q1 hflK rfl hb⟩) ?_
      refine s_cons (by intro r0_; exact ⟨rfl, fun b w hH hb => e_slen ((arg8 hv hU hS hH).rd) Tryd.underlying32 rfl rfl hb⟩) ?_
      refine s_cons (by intro r0_; exact ⟨rfl, fun b w hH hb => exec_q1 hflK rfl hb⟩) ?_
      refine s_cons (by intro r0_; exact ⟨rfl, fun b w hH hb => by exact exec_nilCheck rfl rfl hb⟩) ?_
      refine s_cons (by intro r0_; exact ⟨rfl, fun b w hH hb => exec_q1 hflK rfl hb⟩) ?_
      refine s_cons (by intro r0_; exact ⟨rfl, fun b w hH hb => exec_load rfl rfl (reads_one ty_int rfl) (hH.row 0 rfl) hb⟩) ?_
      refine s_cons (by intro r0_; exact ⟨rfl, fun b w hH hb => exec_q1 hflK rfl hb⟩) ?_
      refine s_cons (by exact ⟨rfl, Acts.su (a_does (os' := fun _ => [cell p 42 #[.int .i64 d1.room, .int .i64 (fzI d1.fuse), .bool false, x.pv, x.sm, x.sh], Vec 51 5 encO x.pv x.W, OpsE x.W, FilesT x.sm d1.syn, MapT encKey encFil x.sh x.L, FilE x.L]) [0, 4, 5] 0 (ent_of Tryd.func7 (by kernel_rfl) rfl) (used_t p _ _ _ _ _ _ x.L hpu) rfl rfl rfl (fun _ => rfl) rfl rfl rfl) rfl⟩) ?_
      refine s_cons (by intro v0_; exact ⟨rfl, fun b w hH hb => exec_ar rfl rfl rfl rfl (IntWalk.i64_in _ (by omega)) hb⟩) ?_
      refine s_cons (by intro v0_; exact ⟨rfl, fun b w hH hb => exec_cmp rfl rfl rfl (cmp_gtr_t (by omega)) hb⟩) ?_
      refine s_cons (by intro v0_; exact ⟨rfl, fun b w hH hb => exec_q1 hflK rfl hb⟩) ?_
      refine s_cons (by intro v0_; exact ⟨rfl, rfl⟩) ?_
      refine s_cons (by intro v0_; exact ⟨rfl, rfl⟩) ?_
      refine s_cons (by intro v0_; exact ⟨rfl, rfl⟩) ?_
      refine s_cons (by intro v0_; exact ⟨rfl, rfl⟩) ?_
      refine s_cons (by intro v0_; exact ⟨rfl, rfl⟩) ?_
      refine s_cons (by intro v0_; exact ⟨rfl, rfl⟩) ?_
      refine s_cons (by intro v0_; exact ⟨rfl, rfl⟩) ?_
      refine s_cons (by intro v0_; exact ⟨rfl, rfl⟩) ?_
      refine s_cons (by intro v0_; exact ⟨rfl, rfl⟩) ?_
      refine s_cons (by intro v0_; exact ⟨rfl, fun b w hH hb => exec_q1 hflK rfl hb⟩) ?_
      exact s_nil
    intro v0_
    refine WL2.keep (env' := [(0, .pointer (some ⟨p, 0, none⟩)), (1, .string (bs n)), (2, v), (6, .int .i64 0), (41, .bool true)]) ⟨rfl, rfl, rfl, rfl, rfl, trivial⟩ ?_
    refine h_nil (f_to (d_then rfl (d_reg ?_)))
    refine h_q hflK rfl ?_
    refine h_done (d_ret (f_then_ret ?_))
    exact f_fin1 (.tmp rfl) (fun w h => tells () rfl [0, 1, 2, 3, 4, 5] rfl h (upL_close (os := []) x hd1)) rfl
  · skip
    refine d_reg ?_
    refine h_q hflK rfl ?_
    refine h_val rfl (.pointer (some ⟨p, 0, none⟩)) (fun b w hb hH => by exact exec_nilCheck rfl rfl hb) ?_
    refine h_q hflK rfl ?_
    refine h_val rfl (x.sh) (fun b w hb hH => exec_load rfl rfl (reads_one ty_disk_files rfl) (hH.row 0 rfl) hb) ?_
    refine h_q hflK rfl ?_
    refine h_act (post := fun _ => [cell p 42 #[.int .i64 d1.room, .int .i64 (fzI d1.fuse), .bool false, x.pv, x.sm, x.sh], Vec 51 5 encO x.pv x.W, OpsE x.W, FilesT x.sm d1.syn, MapT encKey encFil x.sh x.L, FilE x.L]) rfl (a_does (os' := fun _ => [cell p 42 #[.int .i64 d1.room, .int .i64 (fzI d1.fuse), .bool false, x.pv, x.sm, x.sh], Vec 51 5 encO x.pv x.W, OpsE x.W, FilesT x.sm d1.syn, MapT encKey encFil x.sh x.L, FilE x.L]) [4] 0 (ent_of Tryd.func17 (by kernel_rfl) rfl) (has_t _ _ n _ hgL) rfl rfl rfl (fun _ => rfl) rfl rfl rfl) ?_; rintro ⟨⟩
    refine h_q hflK rfl ?_
    refine h_done (d_seq (d_seq ?_))
    refine d_parS 21 1 [⟨.quiet, [none], fun _ => v, []⟩, ⟨.quiet, [none], fun _ => .int .i64 (y.length : Int), [0]⟩, ⟨.quiet, [none], fun _ => .pointer (some ⟨p, 0, none⟩), []⟩, ⟨.quiet, [none], fun _ => .pointer (some ⟨p, 0, none⟩), [2]⟩, ⟨.quiet, [none], fun _ => .pointer (some ⟨p, 0, none⟩), [3]⟩, ⟨.quiet, [none], fun _ => .int .i64 d1.room, [4]⟩, ⟨.quiet, [none], fun _ => .pointer (some ⟨p, 0, none⟩), []⟩, ⟨.actv 0, [some false], fun _ => .int .i64 ((usedF (fsL x.L) : Nat) : Int), [6]⟩, ⟨.quiet, [some true], fun _ => .int .i64 (d1.room - (usedF (fsL x.L) : Int)), [5, 7]⟩, ⟨.quiet, [some true], fun _ => .bool true, [1, 8]⟩, ⟨.quiet, [some true], fun _ => .bool true, [9]⟩, ⟨.skip, [some true], fun _ => undef, [10]⟩, ⟨.skip, [some true], fun _ => undef, [11, 10]⟩, ⟨.skip, [some true], fun _ => undef, [12]⟩, ⟨.skip, [some true], fun _ => undef, [13, 12]⟩, ⟨.skip, [some true], fun _ => undef, [14, 12]⟩, ⟨.skip, [some true], fun _ => undef, [15, 12]⟩, ⟨.skip, [some true], fun _ => undef, [16, 12]⟩, ⟨.skip, [some true], fun _ => undef, [17, 12]⟩, ⟨.skip, [some true], fun _ => undef, [12, 18, 10]⟩, ⟨.quiet, [some true], fun _ => .bool true, [10, 19]⟩] [(0, .pointer (some ⟨p, 0, none⟩)), (1, .string (bs n)), (2, v), (6, .int .i64 0), (7, .bool false)] (fun ρ => match ρ with | [r0] => [cell p 42 #[.int .i64 d1.room, .int .i64 (fzI d1.fuse), .bool false, x.pv, x.sm, x.sh], Vec 51 5 encO x.pv x.W, OpsE x.W, FilesT x.sm d1.syn, MapT encKey encFil x.sh x.L, FilE x.L] | _ => []) (by kernel_rfl) (by kernel_rfl) ⟨rfl, rfl, rfl, rfl, rfl, trivial⟩ rfl ?_ ?_
    · skip
      refine s_cons (by intro r0_; exact ⟨rfl, fun b w hH hb => exec_q1 hflK rfl hb⟩) ?_
      refine s_cons (by intro r0_; exact ⟨rfl, fun b w hH hb => e_slen ((arg8 hv hU hS hH).rd) Tryd.underlying32 rfl rfl hb⟩) ?_
      refine s_cons (by intro r0_; exact ⟨rfl, fun b w hH hb => exec_q1 hflK rfl hb⟩) ?_
      refine s_cons (by intro r0_; exact ⟨rfl, fun b w hH hb => by exact exec_nilCheck rfl rfl hb⟩) ?_
      refine s_cons (by intro r0_; exact ⟨rfl, fun b w hH hb => exec_q1 hflK rfl hb⟩) ?_
      refine s_cons (by intro r0_; exact ⟨rfl, fun b w hH hb => exec_load rfl rfl (reads_one ty_int rfl) (hH.row 0 rfl) hb⟩) ?_
      refine s_cons (by intro r0_; exact ⟨rfl, fun b w hH hb => exec_q1 hflK rfl hb⟩) ?_
      refine s_cons (by exact ⟨rfl, Acts.su (a_does (os' := fun _ => [cell p 42 #[.int .i64 d1.room, .int .i64 (fzI d1.fuse), .bool false, x.pv, x.sm, x.sh], Vec 51 5 encO x.pv x.W, OpsE x.W, FilesT x.sm d1.syn, MapT encKey encFil x.sh x.L, FilE x.L]) [0, 4, 5] 0 (ent_of Tryd.func7 (by kernel_rfl) rfl) (used_t p _ _ _ _ _ _ x.L hpu) rfl rfl rfl (fun _ => rfl) rfl rfl rfl) rfl⟩) ?_
      refine s_cons (by intro v0_; exact ⟨rfl, fun b w hH hb => exec_ar rfl rfl rfl rfl (IntWalk.i64_in _ (by omega)) hb⟩) ?_
      refine s_cons (by intro v0_; exact ⟨rfl, fun b w hH hb => exec_cmp rfl rfl rfl (cmp_gtr_t (by omega)) hb⟩) ?_
      refine s_cons (by intro v0_; exact ⟨rfl, fun b w hH hb => exec_q1 hflK rfl hb⟩) ?_
      refine s_cons (by intro v0_; exact ⟨rfl, rfl⟩) ?_
      refine s_cons (by intro v0_; exact ⟨rfl, rfl⟩) ?_
      refine s_cons (by intro v0_; exact ⟨rfl, rfl⟩) ?_
      refine s_cons (by intro v0_; exact ⟨rfl, rfl⟩) ?_
      refine s_cons (by intro v0_; exact ⟨rfl, rfl⟩) ?_
      refine s_cons (by intro v0_; exact ⟨rfl, rfl⟩) ?_
      refine s_cons (by intro v0_; exact ⟨rfl, rfl⟩) ?_
      refine s_cons (by intro v0_; exact ⟨rfl, rfl⟩) ?_
      refine s_cons (by intro v0_; exact ⟨rfl, rfl⟩) ?_
      refine s_cons (by intro v0_; exact ⟨rfl, fun b w hH hb => exec_q1 hflK rfl hb⟩) ?_
      exact s_nil
    intro v0_
    refine WL2.keep (env' := [(0, .pointer (some ⟨p, 0, none⟩)), (1, .string (bs n)), (2, v), (6, .int .i64 0), (41, .bool true)]) ⟨rfl, rfl, rfl, rfl, rfl, trivial⟩ ?_
    refine h_nil (f_to (d_then rfl (d_reg ?_)))
    refine h_q hflK rfl ?_
    refine h_done (d_ret (f_then_ret ?_))
    exact f_fin1 (.tmp rfl) (fun w h => tells () rfl [0, 1, 2, 3, 4, 5] rfl h (upL_close (os := []) x hd1)) rfl
  · skip
    refine d_reg ?_
    refine h_q hflK rfl ?_
    refine h_val rfl (.pointer (some ⟨p, 0, none⟩)) (fun b w hb hH => by exact exec_nilCheck rfl rfl hb) ?_
    refine h_q hflK rfl ?_
    refine h_val rfl (x.sh) (fun b w hb hH => exec_load rfl rfl (reads_one ty_disk_files rfl) (hH.row 0 rfl) hb) ?_
    refine h_q hflK rfl ?_
    refine h_act (post := fun _ => [cell p 42 #[.int .i64 d1.room, .int .i64 (fzI d1.fuse), .bool false, x.pv, x.sm, x.sh], Vec 51 5 encO x.pv x.W, OpsE x.W, FilesT x.sm d1.syn, MapT encKey encFil x.sh x.L, FilE x.L]) rfl (a_does (os' := fun _ => [cell p 42 #[.int .i64 d1.room, .int .i64 (fzI d1.fuse), .bool false, x.pv, x.sm, x.sh], Vec 51 5 encO x.pv x.W, OpsE x.W, FilesT x.sm d1.syn, MapT encKey encFil x.sh x.L, FilE x.L]) [4] 0 (ent_of Tryd.func17 (by kernel_rfl) rfl) (has_t _ _ n _ hgL) rfl rfl rfl (fun _ => rfl) rfl rfl rfl) ?_; rintro ⟨⟩
    refine h_q hflK rfl ?_
    refine h_done (d_seq (d_seq ?_))
    refine d_parS 21 1 [⟨.quiet, [none], fun _ => v, []⟩, ⟨.quiet, [none], fun _ => .int .i64 (y.length : Int), [0]⟩, ⟨.quiet, [none], fun _ => .pointer (some ⟨p, 0, none⟩), []⟩, ⟨.quiet, [none], fun _ => .pointer (some ⟨p, 0, none⟩), [2]⟩, ⟨.quiet, [none], fun _ => .pointer (some ⟨p, 0, none⟩), [3]⟩, ⟨.quiet, [none], fun _ => .int .i64 d1.room, [4]⟩, ⟨.quiet, [none], fun _ => .pointer (some ⟨p, 0, none⟩), []⟩, ⟨.actv 0, [some false], fun _ => .int .i64 ((usedF (fsL x.L) : Nat) : Int), [6]⟩, ⟨.quiet, [some true], fun _ => .int .i64 (d1.room - (usedF (fsL x.L) : Int)), [5, 7]⟩, ⟨.quiet, [some true], fun _ => .bool false, [1, 8]⟩, ⟨.quiet, [some true], fun _ => .bool false, [9]⟩, ⟨.quiet, [some true], fun _ => .bool true, [10]⟩, ⟨.quiet, [some true], fun _ => .bool true, [11, 10]⟩, ⟨.quiet, [some true], fun _ => .pointer (some ⟨p, 0, none⟩), [12]⟩, ⟨.quiet, [some true], fun _ => .pointer (some ⟨p, 0, none⟩), [13, 12]⟩, ⟨.quiet, [some true], fun _ => .pointer (some ⟨p, 5, none⟩), [14, 12]⟩, ⟨.quiet, [some true], fun _ => x.sh, [15, 12]⟩, ⟨.quiet, [some true], fun _ => .int .i64 (x.L.length : Int), [16, 12]⟩, ⟨.quiet, [some true], fun _ => .bool true, [17, 12]⟩, ⟨.quiet, [some true], fun _ => .bool true, [12, 18, 10]⟩, ⟨.quiet, [some true], fun _ => .bool true, [10, 19]⟩] [(0, .pointer (some ⟨p, 0, none⟩)), (1, .string (bs n)), (2, v), (6, .int .i64 0), (7, .bool true)] (fun ρ => match ρ with | [r0] => [cell p 42 #[.int .i64 d1.room, .int .i64 (fzI d1.fuse), .bool false, x.pv, x.sm, x.sh], Vec 51 5 encO x.pv x.W, OpsE x.W, FilesT x.sm d1.syn, MapT encKey encFil x.sh x.L, FilE x.L] | _ => []) (by kernel_rfl) (by kernel_rfl) ⟨rfl, rfl, rfl, rfl, rfl, trivial⟩ rfl ?_ ?_
    · skip
      refine s_cons (by intro r0_; exact ⟨rfl, fun b w hH hb => exec_q1 hflK rfl hb⟩) ?_
      refine s_cons (by intro r0_; exact ⟨rfl, fun b w hH hb => e_slen ((arg8 hv hU hS hH).rd) Tryd.underlying32 rfl rfl hb⟩) ?_
      refine s_cons (by intro r0_; exact ⟨rfl, fun b w hH hb => exec_q1 hflK rfl hb⟩) ?_
      refine s_cons (by intro r0_; exact ⟨rfl, fun b w hH hb => by exact exec_nilCheck rfl rfl hb⟩) ?_
      refine s_cons (by intro r0_; exact ⟨rfl, fun b w hH hb => exec_q1 hflK rfl hb⟩) ?_
      refine s_cons (by intro r0_; exact ⟨rfl, fun b w hH hb => exec_load rfl rfl (reads_one ty_int rfl) (hH.row 0 rfl) hb⟩) ?_
      refine s_cons (by intro r0_; exact ⟨rfl, fun b w hH hb => exec_q1 hflK rfl hb⟩) ?_
      refine s_cons (by exact ⟨rfl, Acts.su (a_does (os' := fun _ => [cell p 42 #[.int .i64 d1.room, .int .i64 (fzI d1.fuse), .bool false, x.pv, x.sm, x.sh], Vec 51 5 encO x.pv x.W, OpsE x.W, FilesT x.sm d1.syn, MapT encKey encFil x.sh x.L, FilE x.L]) [0, 4, 5] 0 (ent_of Tryd.func7 (by kernel_rfl) rfl) (used_t p _ _ _ _ _ _ x.L hpu) rfl rfl rfl (fun _ => rfl) rfl rfl rfl) rfl⟩) ?_
      refine s_cons (by intro v0_; exact ⟨rfl, fun b w hH hb => exec_ar rfl rfl rfl rfl (IntWalk.i64_in _ (by omega)) hb⟩) ?_
      refine s_cons (by intro v0_; exact ⟨rfl, fun b w hH hb => exec_cmp rfl rfl rfl (cmp_gtr_f (by omega)) hb⟩) ?_
      refine s_cons (by intro v0_; exact ⟨rfl, fun b w hH hb => exec_q1 hflK rfl hb⟩) ?_
      refine s_cons (by intro v0_; exact ⟨rfl, fun b w hH hb => exec_q1 hflK rfl hb⟩) ?_
      refine s_cons (by intro v0_; exact ⟨rfl, fun b w hH hb => exec_q1 hflK rfl hb⟩) ?_
      refine s_cons (by intro v0_; exact ⟨rfl, fun b w hH hb => exec_q1 hflK rfl hb⟩) ?_
      refine s_cons (by intro v0_; exact ⟨rfl, fun b w hH hb => by exact exec_nilCheck rfl rfl hb⟩) ?_
      refine s_cons (by intro v0_; exact ⟨rfl, fun b w hH hb => exec_q1 hflK rfl hb⟩) ?_
      refine s_cons (by intro v0_; exact ⟨rfl, fun b w hH hb => exec_load rfl rfl (reads_one ty_disk_files rfl) (hH.row 0 rfl) hb⟩) ?_
      refine s_cons (by intro v0_; exact ⟨rfl, fun b w hH hb => e_mlen 4 Tryd.underlying39 rfl rfl rfl hH hb⟩) ?_
      refine s_cons (by intro v0_; exact ⟨rfl, fun b w hH hb => exec_cmp rfl rfl rfl (cmp_geq_t (by omega)) hb⟩) ?_
      refine s_cons (by intro v0_; exact ⟨rfl, fun b w hH hb => exec_q1 hflK rfl hb⟩) ?_
      refine s_cons (by intro v0_; exact ⟨rfl, fun b w hH hb => exec_q1 hflK rfl hb⟩) ?_
      exact s_nil
    intro v0_
    refine WL2.keep (env' := [(0, .pointer (some ⟨p, 0, none⟩)), (1, .string (bs n)), (2, v), (6, .int .i64 0), (41, .bool true)]) ⟨rfl, rfl, rfl, rfl, rfl, trivial⟩ ?_
    refine h_nil (f_to (d_then rfl (d_reg ?_)))
    refine h_q hflK rfl ?_
    refine h_done (d_ret (f_then_ret ?_))
    exact f_fin1 (.tmp rfl) (fun w h => tells () rfl [0, 1, 2, 3, 4, 5] rfl h (upL_close (os := []) x hd1)) rfl

set_option maxRecDepth 100000 in
theorem append_okU (u : World) {p : Nat} {d d1 : DiskD} {n y : List UInt8} {v : Value} (hv : Sl8 u v y) (hfit : d.fit) (h : beginD d = (d1, 0)) (hn : nameB n = true) (hy : y.length ≤ 140737488351232) (hf : fitsD d1 n y = true) : DoesU u Tryd.prog 9 #[.pointer (some ⟨p, 0, none⟩), .string (bs n), v] [DiskT p d] (fun (_ : Unit) => .int .i64 0) (fun (_ : Unit) => [DiskT p (doesD d1 (.app n y))]) := by
  have hd1 := (begin_up h).1
  have hfit1 := begin_fit h hfit
  refine d_insU (args := [.pointer (some ⟨p, 0, none⟩), .string (bs n), v]) 48 Tryd.func9 rfl rfl rfl ?_; intro w rs hU hS
  refine d_reg ?_
  refine h_q hflK rfl ?_
  refine h_done (d_seq (d_reg ?_))
  refine h_q hflK rfl ?_
  refine h_act (post := fun _ => [DiskT p d1]) rfl (a_does (os' := fun _ => [DiskT p d1]) [0] 0 (ent_of Tryd.func15 (by kernel_rfl) rfl) (begin_ok h) rfl rfl rfl (fun _ => rfl) rfl rfl rfl) ?_; rintro ⟨⟩
  refine h_q hflK rfl ?_
  refine h_done (d_else rfl (d_skip (f_to (d_seq (d_reg ?_)))))
  refine h_q hflK rfl ?_
  refine h_act (post := fun _ => [DiskT p d1]) rfl (a_call (ent_of Tryd.func16 (by kernel_rfl) rfl) (fun w hH => nameMay_ok w n hn) rfl rfl rfl) ?_; rintro ⟨⟩
  refine h_q hflK rfl ?_
  refine h_done (d_else rfl (d_skip (f_to ?_)))
  refine d_open 0 rfl (disk_upL hd1) (fun _ => rfl) ?_; rintro x
  refine WC2.fact 3 rfl filesT_nodup ?_; rintro hsn
  refine WC2.fact 4 rfl filE_nodup_map ?_; rintro hgn
  have hr := x.hr
  have hpu : usedF (fsL x.L) ≤ 1099511627776 := by rw [perm_used x.hg]; exact now_le hfit1 hsn x.hok
  obtain ⟨hlen, hw⟩ := ok_ways x.hg hgn hf
  have hsz : (OpD.app n y).size ≤ 1048576 := by show y.length ≤ _; omega
  rcases hw with ⟨r, hgL⟩ | ⟨hgL, h64⟩
  · skip
    refine d_reg ?_
    refine h_q hflK rfl ?_
    refine h_val rfl (.pointer (some ⟨p, 0, none⟩)) (fun b w hb hH => by exact exec_nilCheck rfl rfl hb) ?_
    refine h_q hflK rfl ?_
    refine h_val rfl (x.sh) (fun b w hb hH => exec_load rfl rfl (reads_one ty_disk_files rfl) (hH.row 0 rfl) hb) ?_
    refine h_q hflK rfl ?_
    refine h_act (post := fun _ => [cell p 42 #[.int .i64 d1.room, .int .i64 (fzI d1.fuse), .bool false, x.pv, x.sm, x.sh], Vec 51 5 encO x.pv x.W, OpsE x.W, FilesT x.sm d1.syn, MapT encKey encFil x.sh x.L, FilE x.L]) rfl (a_does (os' := fun _ => [cell p 42 #[.int .i64 d1.room, .int .i64 (fzI d1.fuse), .bool false, x.pv, x.sm, x.sh], Vec 51 5 encO x.pv x.W, OpsE x.W, FilesT x.sm d1.syn, MapT encKey encFil x.sh x.L, FilE x.L]) [4] 0 (ent_of Tryd.func17 (by kernel_rfl) rfl) (has_t _ _ n _ hgL) rfl rfl rfl (fun _ => rfl) rfl rfl rfl) ?_; rintro ⟨⟩
    refine h_q hflK rfl ?_
    refine h_done (d_seq (d_seq ?_))
    refine d_parS 21 1 [⟨.quiet, [none], fun _ => v, []⟩, ⟨.quiet, [none], fun _ => .int .i64 (y.length : Int), [0]⟩, ⟨.quiet, [none], fun _ => .pointer (some ⟨p, 0, none⟩), []⟩, ⟨.quiet, [none], fun _ => .pointer (some ⟨p, 0, none⟩), [2]⟩, ⟨.quiet, [none], fun _ => .pointer (some ⟨p, 0, none⟩), [3]⟩, ⟨.quiet, [none], fun _ => .int .i64 d1.room, [4]⟩, ⟨.quiet, [none], fun _ => .pointer (some ⟨p, 0, none⟩), []⟩, ⟨.actv 0, [some false], fun _ => .int .i64 ((usedF (fsL x.L) : Nat) : Int), [6]⟩, ⟨.quiet, [some true], fun _ => .int .i64 (d1.room - (usedF (fsL x.L) : Int)), [5, 7]⟩, ⟨.quiet, [some true], fun _ => .bool false, [1, 8]⟩, ⟨.quiet, [some true], fun _ => .bool false, [9]⟩, ⟨.quiet, [some true], fun _ => .bool false, [10]⟩, ⟨.quiet, [some true], fun _ => .bool false, [11, 10]⟩, ⟨.skip, [some true], fun _ => undef, [12]⟩, ⟨.skip, [some true], fun _ => undef, [13, 12]⟩, ⟨.skip, [some true], fun _ => undef, [14, 12]⟩, ⟨.skip, [some true], fun _ => undef, [15, 12]⟩, ⟨.skip, [some true], fun _ => undef, [16, 12]⟩, ⟨.skip, [some true], fun _ => undef, [17, 12]⟩, ⟨.quiet, [some true], fun _ => .bool false, [12, 18, 10]⟩, ⟨.quiet, [some true], fun _ => .bool false, [10, 19]⟩] [(0, .pointer (some ⟨p, 0, none⟩)), (1, .string (bs n)), (2, v), (6, .int .i64 0), (7, .bool false)] (fun ρ => match ρ with | [r0] => [cell p 42 #[.int .i64 d1.room, .int .i64 (fzI d1.fuse), .bool false, x.pv, x.sm, x.sh], Vec 51 5 encO x.pv x.W, OpsE x.W, FilesT x.sm d1.syn, MapT encKey encFil x.sh x.L, FilE x.L] | _ => []) (by kernel_rfl) (by kernel_rfl) ⟨rfl, rfl, rfl, rfl, rfl, trivial⟩ rfl ?_ ?_
    · skip
      refine s_cons (by intro r0_; exact ⟨rfl, fun b w hH hb => exec_q1 hflK rfl hb⟩) ?_
      refine s_cons (by intro r0_; exact ⟨rfl, fun b w hH hb => e_slen ((arg8 hv hU hS hH).rd) Tryd.underlying32 rfl rfl hb⟩) ?_
      refine s_cons (by intro r0_; exact ⟨rfl, fun b w hH hb => exec_q1 hflK rfl hb⟩) ?_
      refine s_cons (by intro r0_; exact ⟨rfl, fun b w hH hb => by exact exec_nilCheck rfl rfl hb⟩) ?_
      refine s_cons (by intro r0_; exact ⟨rfl, fun b w hH hb => exec_q1 hflK rfl hb⟩) ?_
      refine s_cons (by intro r0_; exact ⟨rfl, fun b w hH hb => exec_load rfl rfl (reads_one ty_int rfl) (hH.row 0 rfl) hb⟩) ?_
      refine s_cons (by intro r0_; exact ⟨rfl, fun b w hH hb => exec_q1 hflK rfl hb⟩) ?_
      refine s_cons (by exact ⟨rfl, Acts.su (a_does (os' := fun _ => [cell p 42 #[.int .i64 d1.room, .int .i64 (fzI d1.fuse), .bool false, x.pv, x.sm, x.sh], Vec 51 5 encO x.pv x.W, OpsE x.W, FilesT x.sm d1.syn, MapT encKey encFil x.sh x.L, FilE x.L]) [0, 4, 5] 0 (ent_of Tryd.func7 (by kernel_rfl) rfl) (used_t p _ _ _ _ _ _ x.L hpu) rfl rfl rfl (fun _ => rfl) rfl rfl rfl) rfl⟩) ?_
      refine s_cons (by intro v0_; exact ⟨rfl, fun b w hH hb => exec_ar rfl rfl rfl rfl (IntWalk.i64_in _ (by omega)) hb⟩) ?_
      refine s_cons (by intro v0_; exact ⟨rfl, fun b w hH hb => exec_cmp rfl rfl rfl (cmp_gtr_f (by omega)) hb⟩) ?_
      refine s_cons (by intro v0_; exact ⟨rfl, fun b w hH hb => exec_q1 hflK rfl hb⟩) ?_
      refine s_cons (by intro v0_; exact ⟨rfl, fun b w hH hb => exec_q1 hflK rfl hb⟩) ?_
      refine s_cons (by intro v0_; exact ⟨rfl, fun b w hH hb => exec_q1 hflK rfl hb⟩) ?_
      refine s_cons (by intro v0_; exact ⟨rfl, rfl⟩) ?_
      refine s_cons (by intro v0_; exact ⟨rfl, rfl⟩) ?_
      refine s_cons (by intro v0_; exact ⟨rfl, rfl⟩) ?_
      refine s_cons (by intro v0_; exact ⟨rfl, rfl⟩) ?_
      refine s_cons (by intro v0_; exact ⟨rfl, rfl⟩) ?_
      refine s_cons (by intro v0_; exact ⟨rfl, rfl⟩) ?_
      refine s_cons (by intro v0_; exact ⟨rfl, fun b w hH hb => exec_q1 hflK rfl hb⟩) ?_
      refine s_cons (by intro v0_; exact ⟨rfl, fun b w hH hb => exec_q1 hflK rfl hb⟩) ?_
      exact s_nil
    intro v0_
    refine WL2.keep (env' := [(0, .pointer (some ⟨p, 0, none⟩)), (1, .string (bs n)), (2, v), (6, .int .i64 0), (41, .bool false)]) ⟨rfl, rfl, rfl, rfl, rfl, trivial⟩ ?_
    refine h_nil (f_to (d_else rfl (d_skip (f_to ?_))))
    refine d_close [0, 1, 2, 3, 4, 5] rfl (upL_one x hd1) rfl ?_
    refine d_reg ?_
    refine h_q hflK rfl ?_
    refine h_act (post := fun v9 => [Vec 5 1 encB v9 y, DiskT p d1]) rfl (a_doesU hU hS (os' := fun v9 => [Vec 5 1 encB v9 y, DiskT p d1]) [] 0 (ent_of Tryd.func19 (by kernel_rfl) rfl) (clone8U u hv (by omega)) rfl rfl rfl (fun _ => rfl) rfl rfl rfl) ?_; rintro v9
    refine WL2.fact 0 rfl (fun _ h => Vec.is h) ?_; rintro ⟨A9, c9, rfl⟩
    refine h_val rfl (.agg #[.int .i64 0, .string (bs n), .slice A9 y.length c9, .int .i64 0, .string { data := #[] }]) (fun b w hb hH => exec_build rfl rfl (by kernel_rfl) hb) ?_
    refine h_act (post := fun _ => [emp, DiskT p (doesD d1 (.app n y))]) rfl (a_does (os' := fun _ => [emp, DiskT p (doesD d1 (.app n y))]) [1, 0] 0 (ent_of Tryd.func18 (by kernel_rfl) rfl) (take_t (x := ⟨.app n y, A9, c9⟩) hd1 hfit1 trivial hsz) rfl rfl rfl (fun _ => rfl) rfl rfl rfl) ?_; rintro ⟨⟩
    refine WL2.leave [0] rfl rfl ?_
    refine h_q hflK rfl ?_
    refine h_done (d_ret ?_)
    exact f_fin1 (.tmp rfl) (fun w h => tells () rfl [0] rfl h same_parts) rfl
  · skip
    refine d_reg ?_
    refine h_q hflK rfl ?_
    refine h_val rfl (.pointer (some ⟨p, 0, none⟩)) (fun b w hb hH => by exact exec_nilCheck rfl rfl hb) ?_
    refine h_q hflK rfl ?_
    refine h_val rfl (x.sh) (fun b w hb hH => exec_load rfl rfl (reads_one ty_disk_files rfl) (hH.row 0 rfl) hb) ?_
    refine h_q hflK rfl ?_
    refine h_act (post := fun _ => [cell p 42 #[.int .i64 d1.room, .int .i64 (fzI d1.fuse), .bool false, x.pv, x.sm, x.sh], Vec 51 5 encO x.pv x.W, OpsE x.W, FilesT x.sm d1.syn, MapT encKey encFil x.sh x.L, FilE x.L]) rfl (a_does (os' := fun _ => [cell p 42 #[.int .i64 d1.room, .int .i64 (fzI d1.fuse), .bool false, x.pv, x.sm, x.sh], Vec 51 5 encO x.pv x.W, OpsE x.W, FilesT x.sm d1.syn, MapT encKey encFil x.sh x.L, FilE x.L]) [4] 0 (ent_of Tryd.func17 (by kernel_rfl) rfl) (has_t _ _ n _ hgL) rfl rfl rfl (fun _ => rfl) rfl rfl rfl) ?_; rintro ⟨⟩
    refine h_q hflK rfl ?_
    refine h_done (d_seq (d_seq ?_))
    refine d_parS 21 1 [⟨.quiet, [none], fun _ => v, []⟩, ⟨.quiet, [none], fun _ => .int .i64 (y.length : Int), [0]⟩, ⟨.quiet, [none], fun _ => .pointer (some ⟨p, 0, none⟩), []⟩, ⟨.quiet, [none], fun _ => .pointer (some ⟨p, 0, none⟩), [2]⟩, ⟨.quiet, [none], fun _ => .pointer (some ⟨p, 0, none⟩), [3]⟩, ⟨.quiet, [none], fun _ => .int .i64 d1.room, [4]⟩, ⟨.quiet, [none], fun _ => .pointer (some ⟨p, 0, none⟩), []⟩, ⟨.actv 0, [some false], fun _ => .int .i64 ((usedF (fsL x.L) : Nat) : Int), [6]⟩, ⟨.quiet, [some true], fun _ => .int .i64 (d1.room - (usedF (fsL x.L) : Int)), [5, 7]⟩, ⟨.quiet, [some true], fun _ => .bool false, [1, 8]⟩, ⟨.quiet, [some true], fun _ => .bool false, [9]⟩, ⟨.quiet, [some true], fun _ => .bool true, [10]⟩, ⟨.quiet, [some true], fun _ => .bool true, [11, 10]⟩, ⟨.quiet, [some true], fun _ => .pointer (some ⟨p, 0, none⟩), [12]⟩, ⟨.quiet, [some true], fun _ => .pointer (some ⟨p, 0, none⟩), [13, 12]⟩, ⟨.quiet, [some true], fun _ => .pointer (some ⟨p, 5, none⟩), [14, 12]⟩, ⟨.quiet, [some true], fun _ => x.sh, [15, 12]⟩, ⟨.quiet, [some true], fun _ => .int .i64 (x.L.length : Int), [16, 12]⟩, ⟨.quiet, [some true], fun _ => .bool false, [17, 12]⟩, ⟨.quiet, [some true], fun _ => .bool false, [12, 18, 10]⟩, ⟨.quiet, [some true], fun _ => .bool false, [10, 19]⟩] [(0, .pointer (some ⟨p, 0, none⟩)), (1, .string (bs n)), (2, v), (6, .int .i64 0), (7, .bool true)] (fun ρ => match ρ with | [r0] => [cell p 42 #[.int .i64 d1.room, .int .i64 (fzI d1.fuse), .bool false, x.pv, x.sm, x.sh], Vec 51 5 encO x.pv x.W, OpsE x.W, FilesT x.sm d1.syn, MapT encKey encFil x.sh x.L, FilE x.L] | _ => []) (by kernel_rfl) (by kernel_rfl) ⟨rfl, rfl, rfl, rfl, rfl, trivial⟩ rfl ?_ ?_
    · skip
      refine s_cons (by intro r0_; exact ⟨rfl, fun b w hH hb => exec_q1 hflK rfl hb⟩) ?_
      refine s_cons (by intro r0_; exact ⟨rfl, fun b w hH hb => e_slen ((arg8 hv hU hS hH).rd) Tryd.underlying32 rfl rfl hb⟩) ?_
      refine s_cons (by intro r0_; exact ⟨rfl, fun b w hH hb => exec_q1 hflK rfl hb⟩) ?_
      refine s_cons (by intro r0_; exact ⟨rfl, fun b w hH hb => by exact exec_nilCheck rfl rfl hb⟩) ?_
      refine s_cons (by intro r0_; exact ⟨rfl, fun b w hH hb => exec_q1 hflK rfl hb⟩) ?_
      refine s_cons (by intro r0_; exact ⟨rfl, fun b w hH hb => exec_load rfl rfl (reads_one ty_int rfl) (hH.row 0 rfl) hb⟩) ?_
      refine s_cons (by intro r0_; exact ⟨rfl, fun b w hH hb => exec_q1 hflK rfl hb⟩) ?_
      refine s_cons (by exact ⟨rfl, Acts.su (a_does (os' := fun _ => [cell p 42 #[.int .i64 d1.room, .int .i64 (fzI d1.fuse), .bool false, x.pv, x.sm, x.sh], Vec 51 5 encO x.pv x.W, OpsE x.W, FilesT x.sm d1.syn, MapT encKey encFil x.sh x.L, FilE x.L]) [0, 4, 5] 0 (ent_of Tryd.func7 (by kernel_rfl) rfl) (used_t p _ _ _ _ _ _ x.L hpu) rfl rfl rfl (fun _ => rfl) rfl rfl rfl) rfl⟩) ?_
      refine s_cons (by intro v0_; exact ⟨rfl, fun b w hH hb => exec_ar rfl rfl rfl rfl (IntWalk.i64_in _ (by omega)) hb⟩) ?_
      refine s_cons (by intro v0_; exact ⟨rfl, fun b w hH hb => exec_cmp rfl rfl rfl (cmp_gtr_f (by omega)) hb⟩) ?_
      refine s_cons (by intro v0_; exact ⟨rfl, fun b w hH hb => exec_q1 hflK rfl hb⟩) ?_
      refine s_cons (by intro v0_; exact ⟨rfl, fun b w hH hb => exec_q1 hflK rfl hb⟩) ?_
      refine s_cons (by intro v0_; exact ⟨rfl, fun b w hH hb => exec_q1 hflK rfl hb⟩) ?_
      refine s_cons (by intro v0_; exact ⟨rfl, fun b w hH hb => exec_q1 hflK rfl hb⟩) ?_
      refine s_cons (by intro v0_; exact ⟨rfl, fun b w hH hb => by exact exec_nilCheck rfl rfl hb⟩) ?_
      refine s_cons (by intro v0_; exact ⟨rfl, fun b w hH hb => exec_q1 hflK rfl hb⟩) ?_
      refine s_cons (by intro v0_; exact ⟨rfl, fun b w hH hb => exec_load rfl rfl (reads_one ty_disk_files rfl) (hH.row 0 rfl) hb⟩) ?_
      refine s_cons (by intro v0_; exact ⟨rfl, fun b w hH hb => e_mlen 4 Tryd.underlying39 rfl rfl rfl hH hb⟩) ?_
      refine s_cons (by intro v0_; exact ⟨rfl, fun b w hH hb => exec_cmp rfl rfl rfl (cmp_geq_f (by omega)) hb⟩) ?_
      refine s_cons (by intro v0_; exact ⟨rfl, fun b w hH hb => exec_q1 hflK rfl hb⟩) ?_
      refine s_cons (by intro v0_; exact ⟨rfl, fun b w hH hb => exec_q1 hflK rfl hb⟩) ?_
      exact s_nil
    intro v0_
    refine WL2.keep (env' := [(0, .pointer (some ⟨p, 0, none⟩)), (1, .string (bs n)), (2, v), (6, .int .i64 0), (41, .bool false)]) ⟨rfl, rfl, rfl, rfl, rfl, trivial⟩ ?_
    refine h_nil (f_to (d_else rfl (d_skip (f_to ?_))))
    refine d_close [0, 1, 2, 3, 4, 5] rfl (upL_one x hd1) rfl ?_
    refine d_reg ?_
    refine h_q hflK rfl ?_
    refine h_act (post := fun v9 => [Vec 5 1 encB v9 y, DiskT p d1]) rfl (a_doesU hU hS (os' := fun v9 => [Vec 5 1 encB v9 y, DiskT p d1]) [] 0 (ent_of Tryd.func19 (by kernel_rfl) rfl) (clone8U u hv (by omega)) rfl rfl rfl (fun _ => rfl) rfl rfl rfl) ?_; rintro v9
    refine WL2.fact 0 rfl (fun _ h => Vec.is h) ?_; rintro ⟨A9, c9, rfl⟩
    refine h_val rfl (.agg #[.int .i64 0, .string (bs n), .slice A9 y.length c9, .int .i64 0, .string { data := #[] }]) (fun b w hb hH => exec_build rfl rfl (by kernel_rfl) hb) ?_
    refine h_act (post := fun _ => [emp, DiskT p (doesD d1 (.app n y))]) rfl (a_does (os' := fun _ => [emp, DiskT p (doesD d1 (.app n y))]) [1, 0] 0 (ent_of Tryd.func18 (by kernel_rfl) rfl) (take_t (x := ⟨.app n y, A9, c9⟩) hd1 hfit1 trivial hsz) rfl rfl rfl (fun _ => rfl) rfl rfl rfl) ?_; rintro ⟨⟩
    refine WL2.leave [0] rfl rfl ?_
    refine h_q hflK rfl ?_
    refine h_done (d_ret ?_)
    exact f_fin1 (.tmp rfl) (fun w h => tells () rfl [0] rfl h same_parts) rfl

theorem disk_appendU (u : World) {p : Nat} {d d' : DiskD} {n b : List UInt8} {v : Value} {e : Nat} (hd : d.fit) (hv : Sl8 u v b) (hb : b.length ≤ 140737488351232) (h : appendD d n b = (d', e)) : DoesU u Tryd.prog 9 #[.pointer (some ⟨p, 0, none⟩), .string (bs n), v] [DiskT p d] (fun _ : Unit => .int .i64 (e : Int)) (fun _ => [DiskT p d']) := by
  unfold appendD at h
  obtain ⟨d1, e1, h1⟩ : ∃ d1 e1, beginD d = (d1, e1) := ⟨_, _, rfl⟩
  have h01 := begin_01 d
  rw [h1] at h h01
  simp only at h h01
  rcases h01 with rfl | rfl
  · rw [if_pos (by decide)] at h
    cases h
    exact append_noU u (y := b) h1
  · rw [if_neg (by decide)] at h
    cases hn : nameB n
    · rw [hn, if_pos rfl] at h
      cases h
      exact append_badU u (y := b) h1 hn
    · rw [hn, if_neg (by decide)] at h
      cases hf : fitsD d1 n b
      · rw [hf, if_pos rfl] at h
        cases h
        exact append_fullU u hv hd h1 hn hb hf
      · rw [hf, if_neg (by decide)] at h
        cases h
        exact append_okU u hv hd h1 hn hb hf
end Go.Proofs.YtfiojppagmnpcaaDoor.Sep

namespace Go.Proofs.YtfiojppagmnpcaaDoor.Sep
open Go.RowKit
/-- the names of the law -/
def nm4 : List (List UInt8) := [[97], [98], [115, 48, 48, 48, 48, 48, 48, 48, 48, 48, 48, 48, 48, 48, 48, 49], [115, 110, 97, 112]]
theorem nodup_le {α : Type} [BEq α] [LawfulBEq α] : ∀ {l m : List α}, l.Nodup → (∀ x, x ∈ l → x ∈ m) → l.length ≤ m.length
  | [], _, _, _ => Nat.zero_le _
  | a :: l, m, h, hs => by
    have ha := hs a (List.mem_cons_self ..)
    have hn := List.nodup_cons.1 h
    have h1 := nodup_le (m := m.erase a) hn.2 (fun x hx => (List.mem_erase_of_ne (fun e : x = a => hn.1 (by rw [← e]; exact hx))).2 (hs x (List.mem_cons_of_mem _ hx)))
    rw [List.length_erase_of_mem ha] at h1
    have h2 := List.length_pos_of_mem ha
    rw [List.length_cons]; omega
structure RoomI (d : DiskD) (room k : Nat) : Prop where
  is : d.room = (room : Int)
  syn : d.syn = []
  fuse : d.fuse = none
  down : d.down = false
  used : usedF d.now ≤ room
  keys : ∀ x, x ∈ keysM d.now → x ∈ nm4
  len : d.wait.length ≤ k
  size : (d.wait.map OpD.size).sum ≤ room * k
section
variable {d : DiskD} {room k : Nat} {n b : List UInt8}
theorem RoomI.nodup (h : RoomI d room k) : (keysM d.now).Nodup := by
  unfold DiskD.now
  rw [h.syn]
  exact nodup_all _ List.nodup_nil
theorem RoomI.files (h : RoomI d room k) : d.now.length ≤ 4 := by
  have := nodup_le h.nodup h.keys
  unfold keysM at this
  rw [List.length_map] at this
  exact this
theorem RoomI.fit (h : RoomI d room k) (hr : room ≤ 1048576) (hk : k ≤ 1000) : d.fit := by
  refine ⟨?_, by have := h.len; omega⟩
  rw [h.syn]
  show usedF [] + _ ≤ _
  have h1 := h.size
  have h2 : room * k ≤ 1048576 * 1000 := Nat.mul_le_mul hr hk
  have h3 : usedF [] = 0 := rfl
  omega
theorem RoomI.begin (h : RoomI d room k) : beginD d = (d, 0) := by
  unfold beginD
  rw [if_neg (by rw [h.down, h.fuse]; simp)]
  have := h.fuse
  cases d
  simp only at this
  subst this
  rfl
theorem roomI_new : RoomI (newD (room : Int)) room 0 := ⟨rfl, rfl, rfl, rfl, Nat.zero_le _, (fun x hx => by cases hx), Nat.le_refl _, Nat.zero_le _⟩
theorem name4 (h : n ∈ nm4) : nameB n = true := by
  have : ∀ x, x ∈ nm4 → nameB x = true := by decide
  exact this n h
theorem RoomI.app (h : RoomI d room k) (hn : n ∈ nm4) (hf : usedF d.now + b.length ≤ room) : appendD d n b = (doesD d (.app n b), 0) ∧ RoomI (doesD d (.app n b)) room (k + 1) := by
  have hfit : fitsD d n b = true := by
    unfold fitsD
    rw [Bool.and_eq_true, decide_eq_true_eq, h.is]
    have := h.files
    refine ⟨by omega, ?_⟩
    simp
    right
    omega
  constructor
  · unfold appendD
    rw [h.begin]
    simp only
    rw [if_neg (by simp), name4 hn, if_neg (by simp), hfit, if_neg (by simp)]
  · refine ⟨h.is, h.syn, h.fuse, h.down, ?_, ?_, ?_, ?_⟩
    · rw [now_does, used_append h.nodup]; exact hf
    · rw [now_does]
      intro x hx
      obtain ⟨p, hp, rfl⟩ := List.mem_map.1 hx
      rcases (mem_put h.nodup p).1 hp with rfl | ⟨h1, _⟩
      · exact hn
      · exact h.keys _ (List.mem_map_of_mem h1)
    · show (d.wait ++ [_]).length ≤ _
      rw [List.length_append]; have := h.len; simp only [List.length_cons, List.length_nil]; omega
    · show ((d.wait ++ [_]).map OpD.size).sum ≤ _
      rw [List.map_append, List.sum_append_nat, Nat.mul_succ]
      have h1 := h.size
      have h2 : ([OpD.app n b].map OpD.size).sum = b.length := by simp [OpD.size]
      omega
theorem RoomI.full (h : RoomI d room k) (hn : n ∈ nm4) (hf : room < usedF d.now + b.length) : appendD d n b = (d, 2) := by
  have hfit : fitsD d n b = false := by
    unfold fitsD
    rw [h.is, Bool.and_eq_false_iff]
    left
    exact decide_eq_false (by omega)
  unfold appendD
  rw [h.begin]
  simp only
  rw [if_neg (by simp), name4 hn, if_neg (by simp), hfit, if_pos (by simp)]
theorem RoomI.del (h : RoomI d room k) : ∃ d' e, delD d n = (d', e) ∧ RoomI d' room (k + 1) := by
  unfold delD
  rw [h.begin]
  simp only
  rw [if_neg (by simp)]
  cases hg : getM d.now n with
  | none => exact ⟨_, _, rfl, ⟨h.is, h.syn, h.fuse, h.down, h.used, h.keys, Nat.le_succ_of_le h.len, Nat.le_trans h.size (Nat.mul_le_mul_left _ (Nat.le_succ k))⟩⟩
  | some x =>
    refine ⟨_, _, rfl, ⟨h.is, h.syn, h.fuse, h.down, ?_, ?_, ?_, ?_⟩⟩
    · rw [now_does]
      have h1 := used_del h.nodup hg
      have h2 := h.used
      show usedF (delM d.now n) ≤ _
      omega
    · rw [now_does]
      intro y hy
      obtain ⟨p, hp, rfl⟩ := List.mem_map.1 hy
      exact h.keys _ (List.mem_map_of_mem ((mem_del h.nodup p).1 hp).1)
    · show (d.wait ++ [_]).length ≤ _
      rw [List.length_append]; have := h.len; simp only [List.length_cons, List.length_nil]; omega
    · show ((d.wait ++ [_]).map OpD.size).sum ≤ _
      rw [List.map_append, List.sum_append_nat, Nat.mul_succ]
      have h1 := h.size
      have h2 : ([OpD.del n].map OpD.size).sum = 0 := rfl
      omega
theorem RoomI.next (h : RoomI d room k) : RoomI d room (k + 1) := ⟨h.is, h.syn, h.fuse, h.down, h.used, h.keys, Nat.le_succ_of_le h.len, Nat.le_trans h.size (Nat.mul_le_mul_left _ (Nat.le_succ k))⟩
theorem RoomI.usedD (h : RoomI d room k) : Sep.usedD d = usedF d.now := by
  unfold Sep.usedD
  rw [h.down, if_neg (by simp)]
end
end Go.Proofs.YtfiojppagmnpcaaDoor.Sep
