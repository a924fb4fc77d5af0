/-
  DskE · DskG
-/
import Derived.Test.YtjcfimmcogkopaaAB03
import Derived.Test.YtjcfimmcogkopaaAC01
set_option linter.unusedSimpArgs false
set_option linter.unusedVariables false

namespace Go.Proofs.Ytjcfimmcogkopaa.Sep
open Go.RowKit
open Go.Proofs.Ytjcfimmcogkopaa.Mem (Dist Blk Chg below0)

set_option maxRecDepth 100000 in
theorem begin_dn {p : Nat} {d : DiskD} (hd : d.down = true) : Does Try.prog 26 #[.pointer (some ⟨p, 0, none⟩)] [DiskT p d] (fun (_ : Unit) => .bool false) (fun (_ : Unit) => [DiskT p d]) := by
  refine d_ins (args := [.pointer (some ⟨p, 0, none⟩)]) 30 Try.func26 rfl rfl rfl ?_; intro w rs
  refine d_open 0 rfl (disk_dn hd) (fun _ => rfl) ?_; rintro x
  refine d_reg ?_
  refine h_q hflK rfl ?_
  refine h_done (d_seq (d_reg ?_))
  refine h_q hflK rfl ?_
  refine h_val rfl (.pointer (some ⟨p, 0, none⟩)) (fun b w hb hH => by exact exec_nilCheck rfl rfl hb) ?_
  refine h_q hflK rfl ?_
  refine h_val rfl (.bool true) (fun b w hb hH => exec_load rfl rfl (reads_one ty_bool rfl) (hH.row 0 rfl) hb) ?_
  refine h_done (d_then rfl (d_reg ?_))
  refine h_q hflK rfl ?_
  refine h_done (d_ret (f_then_ret ?_))
  exact f_fin1 (.tmp rfl) (fun w h => tells () rfl [0, 1, 2, 3] rfl h (dn_close (os := []) ⟨x.pv, x.sm, .map none, x.W, [], x.hW, (fun h => by rw [hd] at h; cases h), x.hok, x.hf, x.hr, x.hk⟩ hd rfl)) rfl

set_option maxRecDepth 100000 in
theorem begin_burnt {p : Nat} {d : DiskD} (hd : d.down = false) (hf : d.fuse = some 0) : Does Try.prog 26 #[.pointer (some ⟨p, 0, none⟩)] [DiskT p d] (fun (_ : Unit) => .bool false) (fun (_ : Unit) => [DiskT p ({ d with down := true })]) := by
  refine d_ins (args := [.pointer (some ⟨p, 0, none⟩)]) 30 Try.func26 rfl rfl rfl ?_; intro w rs
  refine d_open 0 rfl (disk_up hd) (fun _ => rfl) ?_; rintro x
  refine d_reg ?_
  refine h_q hflK rfl ?_
  refine h_done (d_seq (d_reg ?_))
  refine h_q hflK rfl ?_
  refine h_val rfl (.pointer (some ⟨p, 0, none⟩)) (fun b w hb hH => by exact exec_nilCheck rfl rfl hb) ?_
  refine h_q hflK rfl ?_
  refine h_val rfl (.bool false) (fun b w hb hH => exec_load rfl rfl (reads_one ty_bool rfl) (hH.row 0 rfl) hb) ?_
  refine h_done (d_else rfl (d_skip (f_to (d_seq (d_reg ?_)))))
  refine h_q hflK rfl ?_
  refine h_val rfl (.pointer (some ⟨p, 0, none⟩)) (fun b w hb hH => by exact exec_nilCheck rfl rfl hb) ?_
  refine h_q hflK rfl ?_
  refine h_val rfl (.int .i64 (fzI d.fuse)) (fun b w hb hH => exec_load rfl rfl (reads_one ty_int rfl) (hH.row 0 rfl) hb) ?_
  refine h_val rfl (.bool true) (fun b w hb hH => exec_cmp rfl rfl rfl (cmp_eql_t (by rw [hf]; rfl)) hb) ?_
  refine h_done (d_then rfl (d_reg ?_))
  refine h_q hflK rfl ?_
  refine h_val rfl (.pointer (some ⟨p, 0, none⟩)) (fun b w hb hH => by exact exec_nilCheck rfl rfl hb) ?_
  refine h_q hflK rfl ?_
  refine h_acts (post := fun _ => [cell p 53 #[.int .i64 d.room, .int .i64 (fzI d.fuse), .bool true, x.pv, x.sm, x.sh], Vec 68 5 encO x.pv x.W, OpsE x.W, FilesT x.sm d.syn, FilesT x.sh x.g]) rfl rfl (a_store 0 (v := .bool true) #[.int .i64 d.room, .int .i64 (fzI d.fuse), .bool true, x.pv, x.sm, x.sh] ty_bool.2 rfl rfl rfl rfl rfl rfl rfl rfl rfl) ?_; rintro ⟨⟩
  refine h_val rfl (.pointer (some ⟨p, 0, none⟩)) (fun b w hb hH => by exact exec_nilCheck rfl rfl hb) ?_
  refine h_q hflK rfl ?_
  refine h_acts (post := fun _ => [cell p 53 #[.int .i64 d.room, .int .i64 (fzI d.fuse), .bool true, x.pv, x.sm, .map none], Vec 68 5 encO x.pv x.W, OpsE x.W, FilesT x.sm d.syn, FilesT x.sh x.g]) rfl rfl (a_store 0 (v := .map none) #[.int .i64 d.room, .int .i64 (fzI d.fuse), .bool true, x.pv, x.sm, .map none] ty_disk_files.2 rfl rfl rfl rfl rfl rfl rfl rfl rfl) ?_; rintro ⟨⟩
  refine h_done (d_reg ?_)
  refine h_q hflK rfl ?_
  refine h_done (d_ret (f_then_ret ?_))
  exact f_fin1 (.tmp rfl) (fun w h => tells () rfl [0, 1, 2, 3] rfl h (dn_close (os := []) (d := { d with down := true }) ⟨x.pv, x.sm, .map none, x.W, [], x.hW, (fun h => by cases h), x.hok, x.hf, x.hr, x.hk⟩ rfl rfl)) rfl

set_option maxRecDepth 100000 in
theorem begin_some {p : Nat} {d : DiskD} {n : Nat} (hd : d.down = false) (hf : d.fuse = some (n + 1)) : Does Try.prog 26 #[.pointer (some ⟨p, 0, none⟩)] [DiskT p d] (fun (_ : Unit) => .bool true) (fun (_ : Unit) => [DiskT p ({ d with fuse := some n })]) := by
  refine d_ins (args := [.pointer (some ⟨p, 0, none⟩)]) 30 Try.func26 rfl rfl rfl ?_; intro w rs
  refine d_open 0 rfl (disk_up hd) (fun _ => rfl) ?_; rintro x
  have hz : fzI d.fuse = (n : Int) + 1 := by rw [hf]; rfl
  have hn := x.hf _ hf
  refine d_reg ?_
  refine h_q hflK rfl ?_
  refine h_done (d_seq (d_reg ?_))
  refine h_q hflK rfl ?_
  refine h_val rfl (.pointer (some ⟨p, 0, none⟩)) (fun b w hb hH => by exact exec_nilCheck rfl rfl hb) ?_
  refine h_q hflK rfl ?_
  refine h_val rfl (.bool false) (fun b w hb hH => exec_load rfl rfl (reads_one ty_bool rfl) (hH.row 0 rfl) hb) ?_
  refine h_done (d_else rfl (d_skip (f_to (d_seq (d_reg ?_)))))
  refine h_q hflK rfl ?_
  refine h_val rfl (.pointer (some ⟨p, 0, none⟩)) (fun b w hb hH => by exact exec_nilCheck rfl rfl hb) ?_
  refine h_q hflK rfl ?_
  refine h_val rfl (.int .i64 (fzI d.fuse)) (fun b w hb hH => exec_load rfl rfl (reads_one ty_int rfl) (hH.row 0 rfl) hb) ?_
  refine h_val rfl (.bool false) (fun b w hb hH => exec_cmp rfl rfl rfl (cmp_eql_f (by omega)) hb) ?_
  refine h_done (d_else rfl (d_skip (f_to (d_seq (d_reg ?_)))))
  refine h_q hflK rfl ?_
  refine h_val rfl (.pointer (some ⟨p, 0, none⟩)) (fun b w hb hH => by exact exec_nilCheck rfl rfl hb) ?_
  refine h_q hflK rfl ?_
  refine h_val rfl (.int .i64 (fzI d.fuse)) (fun b w hb hH => exec_load rfl rfl (reads_one ty_int rfl) (hH.row 0 rfl) hb) ?_
  refine h_val rfl (.bool true) (fun b w hb hH => exec_cmp rfl rfl rfl (cmp_gtr_t (by omega)) hb) ?_
  refine h_done (d_then rfl (d_reg1 ?_))
  refine h_q hflK rfl ?_
  refine h_val rfl (.pointer (some ⟨p, 0, none⟩)) (fun b w hb hH => by exact exec_nilCheck rfl rfl hb) ?_
  refine h_q hflK rfl ?_
  refine h_val rfl (.int .i64 (fzI d.fuse)) (fun b w hb hH => exec_load rfl rfl (reads_one ty_int rfl) (hH.row 0 rfl) hb) ?_
  refine h_val rfl (.int .i64 (n : Int)) (fun b w hb hH => exec_ar rfl rfl rfl rfl (by rw [IntWalk.i64_in _ (by omega)]; omega) hb) ?_
  refine h_val rfl (.pointer (some ⟨p, 0, none⟩)) (fun b w hb hH => by exact exec_nilCheck rfl rfl hb) ?_
  refine h_q hflK rfl ?_
  refine h_acts (post := fun _ => [cell p 53 #[.int .i64 d.room, .int .i64 (n : Int), .bool false, x.pv, x.sm, x.sh], Vec 68 5 encO x.pv x.W, OpsE x.W, FilesT x.sm d.syn, FilesT x.sh x.g]) rfl rfl (a_store 0 (v := .int .i64 (n : Int)) #[.int .i64 d.room, .int .i64 (n : Int), .bool false, x.pv, x.sm, x.sh] ty_int.2 rfl rfl rfl rfl rfl rfl rfl rfl rfl) ?_; rintro ⟨⟩
  refine h_nil (f_to (d_reg ?_))
  refine h_q hflK rfl ?_
  refine h_done (d_ret ?_)
  exact f_fin1 (.tmp rfl) (fun w h => tells () rfl [0, 1, 2, 3, 4] rfl h (up_close (os := []) (d := { d with fuse := some n }) ⟨x.pv, x.sm, x.sh, x.W, x.g, x.hW, x.hg, x.hok, (fun m hm => by cases hm; omega), x.hr, x.hk⟩ hd)) rfl

set_option maxRecDepth 100000 in
theorem begin_inf {p : Nat} {d : DiskD} (hd : d.down = false) (hf : d.fuse = none) : Does Try.prog 26 #[.pointer (some ⟨p, 0, none⟩)] [DiskT p d] (fun (_ : Unit) => .bool true) (fun (_ : Unit) => [DiskT p d]) := by
  refine d_ins (args := [.pointer (some ⟨p, 0, none⟩)]) 30 Try.func26 rfl rfl rfl ?_; intro w rs
  refine d_open 0 rfl (disk_up hd) (fun _ => rfl) ?_; rintro x
  have hz : fzI d.fuse = -1 := by rw [hf]; rfl
  refine d_reg ?_
  refine h_q hflK rfl ?_
  refine h_done (d_seq (d_reg ?_))
  refine h_q hflK rfl ?_
  refine h_val rfl (.pointer (some ⟨p, 0, none⟩)) (fun b w hb hH => by exact exec_nilCheck rfl rfl hb) ?_
  refine h_q hflK rfl ?_
  refine h_val rfl (.bool false) (fun b w hb hH => exec_load rfl rfl (reads_one ty_bool rfl) (hH.row 0 rfl) hb) ?_
  refine h_done (d_else rfl (d_skip (f_to (d_seq (d_reg ?_)))))
  refine h_q hflK rfl ?_
  refine h_val rfl (.pointer (some ⟨p, 0, none⟩)) (fun b w hb hH => by exact exec_nilCheck rfl rfl hb) ?_
  refine h_q hflK rfl ?_
  refine h_val rfl (.int .i64 (fzI d.fuse)) (fun b w hb hH => exec_load rfl rfl (reads_one ty_int rfl) (hH.row 0 rfl) hb) ?_
  refine h_val rfl (.bool false) (fun b w hb hH => exec_cmp rfl rfl rfl (cmp_eql_f (by omega)) hb) ?_
  refine h_done (d_else rfl (d_skip (f_to (d_seq (d_reg ?_)))))
  refine h_q hflK rfl ?_
  refine h_val rfl (.pointer (some ⟨p, 0, none⟩)) (fun b w hb hH => by exact exec_nilCheck rfl rfl hb) ?_
  refine h_q hflK rfl ?_
  refine h_val rfl (.int .i64 (fzI d.fuse)) (fun b w hb hH => exec_load rfl rfl (reads_one ty_int rfl) (hH.row 0 rfl) hb) ?_
  refine h_val rfl (.bool false) (fun b w hb hH => exec_cmp rfl rfl rfl (cmp_gtr_f (by omega)) hb) ?_
  refine h_done (d_else rfl (d_skip (f_to (d_reg ?_))))
  refine h_q hflK rfl ?_
  refine h_done (d_ret ?_)
  exact f_fin1 (.tmp rfl) (fun w h => tells () rfl [0, 1, 2, 3, 4] rfl h (up_close (os := []) x hd)) rfl

theorem begin_no {p : Nat} {d d1 : DiskD} (h : beginD d = (d1, 3)) : Does Try.prog 26 #[.pointer (some ⟨p, 0, none⟩)] [DiskT p d] (fun _ : Unit => .bool false) (fun _ => [DiskT p d1]) := by
  unfold beginD at h
  cases hd : d.down
  · cases hf : d.fuse with
    | none => rw [if_neg (by simp [hd, hf])] at h; cases h
    | some n =>
      cases n with
      | zero => rw [if_pos (.inr hf)] at h; cases h; exact begin_burnt hd hf
      | succ n => rw [if_neg (by simp [hd, hf])] at h; cases h
  · rw [if_pos (.inl hd)] at h
    cases h
    have e : ({ d with down := true } : DiskD) = d := by obtain ⟨_, _, _, _, dn⟩ := d; cases hd; rfl
    rw [e]; exact begin_dn hd
theorem begin_ok {p : Nat} {d d1 : DiskD} (h : beginD d = (d1, 0)) : Does Try.prog 26 #[.pointer (some ⟨p, 0, none⟩)] [DiskT p d] (fun _ : Unit => .bool true) (fun _ => [DiskT p d1]) := by
  unfold beginD at h
  cases hd : d.down
  · cases hf : d.fuse with
    | none =>
      rw [if_neg (by simp [hd, hf])] at h
      cases h
      have e : ({ d with fuse := d.fuse.map (· - 1) } : DiskD) = d := by obtain ⟨_, _, _, fu, _⟩ := d; cases hf; rfl
      rw [e]; exact begin_inf hd hf
    | some n =>
      cases n with
      | zero => rw [if_pos (.inr hf)] at h; cases h
      | succ n =>
        rw [if_neg (by simp [hd, hf])] at h
        cases h
        rw [hf]; exact begin_some hd hf
  · rw [if_pos (.inl hd)] at h; cases h
/-- a disk behind the beginning of an operation that is let through -/
theorem begin_up {d d1 : DiskD} (h : beginD d = (d1, 0)) : d1.down = false ∧ d1.syn = d.syn ∧ d1.wait = d.wait ∧ d1.room = d.room := by
  unfold beginD at h
  cases hd : d.down
  · by_cases hf : d.fuse = some 0
    · rw [if_pos (.inr hf)] at h; cases h
    · rw [if_neg (by simp [hd, hf])] at h; cases h; exact ⟨hd, rfl, rfl, rfl⟩
  · rw [if_pos (.inl hd)] at h; cases h
theorem begin_01 (d : DiskD) : (beginD d).2 = 3 ∨ (beginD d).2 = 0 := by
  unfold beginD
  split
  · exact .inl rfl
  · exact .inr rfl
theorem begin_fit {d d1 : DiskD} (h : beginD d = (d1, 0)) (hd : d.fit) : d1.fit := by
  obtain ⟨_, h1, h2, _⟩ := begin_up h
  unfold DiskD.fit
  rw [h1, h2]; exact hd

set_option maxRecDepth 100000 in
theorem take_t {p : Nat} {d : DiskD} {x : OpV} (hd : d.down = false) (hfit : d.fit) (ho : OkO d.now x.o) (hl : x.o.size ≤ 1048576) : Does Try.prog 38 #[.pointer (some ⟨p, 0, none⟩), .agg (encO x).toArray] [DiskT p d, Vec 5 1 encB x.v x.o.data] (fun (_ : Unit) => .int .i64 0) (fun (_ : Unit) => [DiskT p (doesD d x.o)]) := by
  refine d_ins (args := [.pointer (some ⟨p, 0, none⟩), .agg (encO x).toArray]) 21 Try.func38 rfl rfl rfl ?_; intro w rs
  refine d_open 0 rfl (disk_up hd) (fun _ => rfl) ?_; rintro y
  refine WC2.fact 3 rfl filesT_nodup ?_; rintro hsn
  refine WC2.fact 4 rfl filesT_nodup ?_; rintro hgn
  have hu : usedF y.g ≤ 1099511627776 := by rw [perm_used (y.hg hd)]; exact now_le hfit hsn y.hok
  have hWl := ops_len y
  have hw := hfit.2
  have ho2 := okO_perm (y.hg hd).symm (now_nodup hsn) ho
  refine d_reg ?_
  refine h_q hflK rfl ?_
  refine h_act (post := fun g1 => [cell g1 68 #[.int .i64 x.o.kind, .string (bs x.o.name), x.v, .int .i64 (x.o.cutS : Int), .string (bs x.o.to)], cell p 53 #[.int .i64 d.room, .int .i64 (fzI d.fuse), .bool false, y.pv, y.sm, y.sh], Vec 68 5 encO y.pv y.W, OpsE y.W, FilesT y.sm d.syn, FilesT y.sh y.g, Vec 5 1 encB x.v x.o.data]) rfl (a_box (cs := #[.int .i64 x.o.kind, .string (bs x.o.name), x.v, .int .i64 (x.o.cutS : Int), .string (bs x.o.to)]) rfl rfl rfl) ?_; rintro g1
  refine h_q hflK rfl ?_
  refine h_done (d_seq ?_)
  refine d_parS 6 1 [⟨.quiet, [none], fun _ => .pointer (some ⟨p, 0, none⟩), []⟩, ⟨.quiet, [none], fun _ => .pointer (some ⟨p, 0, none⟩), [0]⟩, ⟨.quiet, [none], fun _ => .pointer (some ⟨p, 5, none⟩), [1]⟩, ⟨.quiet, [none], fun _ => y.sh, [2]⟩, ⟨.quiet, [none], fun _ => .agg #[.int .i64 x.o.kind, .string (bs x.o.name), x.v, .int .i64 (x.o.cutS : Int), .string (bs x.o.to)], []⟩, ⟨.actv 0, [some false], fun _ => .tuple #[], [3, 4]⟩] [(0, .pointer (some ⟨p, 0, none⟩)), (3, .pointer (some ⟨g1, 0, none⟩)), (4, .int .i64 0)] (fun ρ => match ρ with | [r0] => [cell g1 68 #[.int .i64 x.o.kind, .string (bs x.o.name), x.v, .int .i64 (x.o.cutS : Int), .string (bs x.o.to)], cell p 53 #[.int .i64 d.room, .int .i64 (fzI d.fuse), .bool false, y.pv, y.sm, y.sh], Vec 68 5 encO y.pv y.W, OpsE y.W, FilesT y.sm d.syn, selS r0 (fun _ => FilesT y.sh (doneF y.g x.o)) (FilesT y.sh y.g), Vec 5 1 encB x.v x.o.data] | _ => []) (by kernel_rfl) (by kernel_rfl) ⟨rfl, rfl, rfl, trivial⟩ rfl ?_ ?_
  · skip
    refine s_cons (by intro r0_; exact ⟨rfl, fun b w hH hb => exec_q1 hflK rfl hb⟩) ?_
    refine s_cons (by intro r0_; exact ⟨rfl, fun b w hH hb => by exact exec_nilCheck rfl rfl hb⟩) ?_
    refine s_cons (by intro r0_; exact ⟨rfl, fun b w hH hb => exec_q1 hflK rfl hb⟩) ?_
    refine s_cons (by intro r0_; exact ⟨rfl, fun b w hH hb => exec_load rfl rfl (reads_one ty_disk_files rfl) (hH.row 1 rfl) hb⟩) ?_
    refine s_cons (by intro r0_; exact ⟨rfl, fun b w hH hb => exec_load rfl rfl (reads_agg (cs := [.int .i64 x.o.kind, .string (bs x.o.name), x.v, .int .i64 (x.o.cutS : Int), .string (bs x.o.to)]) ty_disk_operation rfl) (hH.row 0 rfl) hb⟩) ?_
    refine s_cons (by exact ⟨rfl, Acts.su (a_does (os' := fun _ => [cell g1 68 #[.int .i64 x.o.kind, .string (bs x.o.name), x.v, .int .i64 (x.o.cutS : Int), .string (bs x.o.to)], cell p 53 #[.int .i64 d.room, .int .i64 (fzI d.fuse), .bool false, y.pv, y.sm, y.sh], Vec 68 5 encO y.pv y.W, OpsE y.W, FilesT y.sm d.syn, FilesT y.sh (doneF y.g x.o), Vec 5 1 encB x.v x.o.data]) [5, 6] 0 (ent_of Try.func46 (by kernel_rfl) rfl) (do_any ho2 rd8_vec (by omega) rfl) rfl rfl rfl (fun _ => rfl) rfl rfl rfl) rfl⟩) ?_
    exact s_nil
  intro v0_
  refine WL2.keep (env' := [(0, .pointer (some ⟨p, 0, none⟩)), (3, .pointer (some ⟨g1, 0, none⟩)), (4, .int .i64 0)]) ⟨rfl, rfl, rfl, trivial⟩ ?_
  refine h_nil (f_to (d_seq ?_))
  refine d_emps 1 rfl ?_
  refine d_parS 10 2 [⟨.quiet, [none, none], fun _ => .pointer (some ⟨p, 0, none⟩), []⟩, ⟨.quiet, [none, none], fun _ => .pointer (some ⟨p, 0, none⟩), []⟩, ⟨.quiet, [none, none], fun _ => .pointer (some ⟨p, 0, none⟩), [1]⟩, ⟨.quiet, [none, none], fun _ => .pointer (some ⟨p, 3, none⟩), [2]⟩, ⟨.quiet, [none, none], fun _ => y.pv, [3]⟩, ⟨.quiet, [none, none], fun _ => .agg #[.int .i64 x.o.kind, .string (bs x.o.name), x.v, .int .i64 (x.o.cutS : Int), .string (bs x.o.to)], []⟩, ⟨.act 0, [some false, some false], fun _ => undef, [5]⟩, ⟨.act 1, [some true, some false], fun _ => undef, [4, 6]⟩, ⟨.quiet, [some true, some true], fun _ => .pointer (some ⟨p, 0, none⟩), [0]⟩, ⟨.quiet, [some true, some true], fun _ => .pointer (some ⟨p, 3, none⟩), [8]⟩] [(0, .pointer (some ⟨p, 0, none⟩)), (3, .pointer (some ⟨g1, 0, none⟩)), (4, .int .i64 0)] (fun ρ => match ρ with | [r0, r1] => [selS r0 (fun u1 => Vec 68 5 encO u1 ([x])) (emp), cell g1 68 #[.int .i64 x.o.kind, .string (bs x.o.name), x.v, .int .i64 (x.o.cutS : Int), .string (bs x.o.to)], cell p 53 #[.int .i64 d.room, .int .i64 (fzI d.fuse), .bool false, y.pv, y.sm, y.sh], selS r1 (fun u2 => Vec 68 5 encO u2 (y.W ++ ([x]))) (Vec 68 5 encO y.pv y.W), OpsE y.W, FilesT y.sm d.syn, FilesT y.sh (doneF y.g x.o), Vec 5 1 encB x.v x.o.data] | _ => []) (by kernel_rfl) (by kernel_rfl) ⟨rfl, rfl, rfl, trivial⟩ rfl ?_ ?_
  · skip
    refine s_cons (by intro r0_ r1_; exact ⟨rfl, fun b w hH hb => exec_q1 hflK rfl hb⟩) ?_
    refine s_cons (by intro r0_ r1_; exact ⟨rfl, fun b w hH hb => exec_q1 hflK rfl hb⟩) ?_
    refine s_cons (by intro r0_ r1_; exact ⟨rfl, fun b w hH hb => by exact exec_nilCheck rfl rfl hb⟩) ?_
    refine s_cons (by intro r0_ r1_; exact ⟨rfl, fun b w hH hb => exec_q1 hflK rfl hb⟩) ?_
    refine s_cons (by intro r0_ r1_; exact ⟨rfl, fun b w hH hb => exec_load rfl rfl (reads_one ty_s_disk_operation rfl) (hH.row 2 rfl) hb⟩) ?_
    refine s_cons (by intro r0_ r1_; exact ⟨rfl, fun b w hH hb => exec_load rfl rfl (reads_agg (cs := [.int .i64 x.o.kind, .string (bs x.o.name), x.v, .int .i64 (x.o.cutS : Int), .string (bs x.o.to)]) ty_disk_operation rfl) (hH.row 1 rfl) hb⟩) ?_
    refine s_cons (by exact ⟨rfl, Acts.s (Acts.place (val := fun u1 : Value => u1) (t := fun u1 => Vec 68 5 encO u1 ([x])) (os' := fun u1 => [Vec 68 5 encO u1 ([x]), cell g1 68 #[.int .i64 x.o.kind, .string (bs x.o.name), x.v, .int .i64 (x.o.cutS : Int), .string (bs x.o.to)], cell p 53 #[.int .i64 d.room, .int .i64 (fzI d.fuse), .bool false, y.pv, y.sm, y.sh], Vec 68 5 encO y.pv y.W, OpsE y.W, FilesT y.sm d.syn, FilesT y.sh (doneF y.g x.o), Vec 5 1 encB x.v x.o.data]) 0 rfl (by refine a_buildK (e := 68) (t := 51) (k := 5) (enc := encO) (x := .tmp 16) (c := .agg #[.int .i64 x.o.kind, .string (bs x.o.name), x.v, .int .i64 (x.o.cutS : Int), .string (bs x.o.to)]) ?_ ?_ ?_ x ?_ ?_ ?_; exact sl_disk_operation; exact (by decide); exact okO; exact rfl; exact rfl; exact rfl) (fun _ => rfl)) (fun _ => rfl)⟩) ?_
    refine s_cons (by intro u1; exact ⟨rfl, Acts.s (a_append 3 sl_disk_operation okO rfl ([x]) (fun w hH => hH.vec 0 rfl okO) (by simp only [List.length_cons, List.length_nil]; omega) rfl rfl rfl rfl) (fun _ => rfl)⟩) ?_
    refine s_cons (by intro u1 u2; exact ⟨rfl, fun b w hH hb => by exact exec_nilCheck rfl rfl hb⟩) ?_
    refine s_cons (by intro u1 u2; exact ⟨rfl, fun b w hH hb => exec_q1 hflK rfl hb⟩) ?_
    exact s_nil
  intro u1 u2
  refine WL2.keep (env' := [(4, .int .i64 0), (18, u2), (20, .pointer (some ⟨p, 3, none⟩))]) ⟨rfl, rfl, rfl, trivial⟩ ?_
  refine h_q hflK rfl ?_
  refine h_acts (post := fun _ => [Vec 68 5 encO u1 ([x]), cell g1 68 #[.int .i64 x.o.kind, .string (bs x.o.name), x.v, .int .i64 (x.o.cutS : Int), .string (bs x.o.to)], cell p 53 #[.int .i64 d.room, .int .i64 (fzI d.fuse), .bool false, u2, y.sm, y.sh], Vec 68 5 encO u2 (y.W ++ ([x])), OpsE y.W, FilesT y.sm d.syn, FilesT y.sh (doneF y.g x.o), Vec 5 1 encB x.v x.o.data]) rfl rfl (a_storev 2 3 (v := u2) #[.int .i64 d.room, .int .i64 (fzI d.fuse), .bool false, u2, y.sm, y.sh] ty_s_disk_operation.2 rfl (fun _ h => Vec.c1 h) rfl rfl rfl rfl rfl rfl rfl) ?_; rintro ⟨⟩
  refine h_nil (f_to ?_)
  refine d_close [4, 7] rfl each_close rfl ?_
  refine d_reg ?_
  refine h_q hflK rfl ?_
  refine h_done (d_ret ?_)
  exact f_fin1 (.tmp rfl) (fun w h => tells () rfl [3, 4, 0, 5, 6] rfl h (up_close (os := []) (d := doesD d x.o) ⟨u2, y.sm, y.sh, y.W ++ [x], doneF y.g x.o, (by rw [show opsO (y.W ++ [x]) = opsO y.W ++ [x.o] by simp [opsO], y.hW]; rfl), (fun _ => by rw [now_does]; exact perm_done (y.hg hd) hgn x.o), okOs_push y.hok ho, y.hf, y.hr, y.hk⟩ hd)) rfl
end Go.Proofs.Ytjcfimmcogkopaa.Sep

namespace Go.Proofs.Ytjcfimmcogkopaa.Sep
open Go.RowKit
open Go.Proofs.Ytjcfimmcogkopaa.Mem (Dist Blk Chg below0)

set_option maxRecDepth 100000 in
theorem settle_t {p k : Nat} {r1 r2 r3 pv sm sh : Value} {W K : List OpV} {f f' : FS} (hk : k ≤ W.length) (hW : W.length ≤ 1000000) (hK : W.take k = K) (hok : okOs f (opsO K)) (hsz : usedF f + ((opsO K).map OpD.size).sum ≤ 1099511627776) (hf : (opsO K).foldl doneF f = f') : Does Try.prog 27 #[.pointer (some ⟨p, 0, none⟩), .int .i64 (k : Int)] [cell p 53 #[r1, r2, r3, pv, sm, sh], Vec 68 5 encO pv W, OpsE W, FilesT sm f] (fun (_ : Unit) => .tuple #[]) (fun (_ : Unit) => [cell p 53 #[r1, r2, r3, .slice none 0 0, sm, sh], Vec 68 5 encO pv W, OpsE W, FilesT sm f']) := by
  refine d_ins (args := [.pointer (some ⟨p, 0, none⟩), .int .i64 (k : Int)]) 27 Try.func27 rfl rfl rfl ?_; intro w rs
  refine WC2.fact 3 rfl filesT_nodup ?_; rintro hnd
  have hKl : K.length ≤ W.length := by rw [← hK, List.length_take]; omega
  refine d_seq (d_reg ?_)
  refine h_q hflK rfl ?_
  refine h_val rfl (.pointer (some ⟨p, 0, none⟩)) (fun b w hb hH => by exact exec_nilCheck rfl rfl hb) ?_
  refine h_q hflK rfl ?_
  refine h_val rfl (pv) (fun b w hb hH => exec_load rfl rfl (reads_one ty_s_disk_operation rfl) (hH.row 0 rfl) hb) ?_
  refine h_q hflK rfl ?_
  refine h_val rfl (subv 5 pv 0 k) (fun b w hb hH => e_vsub_hi 1 (b := k) sl_disk_operation rfl hk rfl rfl rfl hH hb) ?_
  refine h_val rfl (.int .i64 (K.length : Int)) (fun b w hb hH => e_slen (hH.vecq 1 rfl okO (Nat.zero_le _) hk (m := K) (by simpa using hK)) Try.underlying51 rfl rfl hb) ?_
  refine h_q hflK rfl ?_
  refine h_done (d_block ?_)
  refine d_loop (α := Nat) (fun i => [(0, .pointer (some ⟨p, 0, none⟩)), (11, subv 5 pv 0 k), (12, .int .i64 (K.length : Int)), (13, .int .i64 ((i : Nat) : Int))]) (fun i => [cell p 53 #[r1, r2, r3, pv, sm, sh], Vec 68 5 encO pv W, OpsE W, FilesT sm (((opsO K).take i).foldl doneF f)]) (fun i => i ≤ K.length) (fun i => K.length - i) 0 (Nat.zero_le _) ⟨rfl, rfl, rfl, rfl, trivial⟩ rfl ?_
  rintro i hI
  refine WC2.at_ (env' := [(0, .pointer (some ⟨p, 0, none⟩)), (11, subv 5 pv 0 k), (12, .int .i64 (K.length : Int)), (13, .int .i64 ((i : Nat) : Int))]) (rs' := [cell p 53 #[r1, r2, r3, pv, sm, sh], Vec 68 5 encO pv W, OpsE W, FilesT sm (((opsO K).take i).foldl doneF f)]) ⟨rfl, rfl, rfl, rfl, trivial⟩ rfl ?_
  have hc : i < K.length ∨ K.length ≤ i := by omega
  rcases hc with hi | hi
  · skip
    obtain ⟨a, ha⟩ : ∃ a, K[i]? = some a := ⟨_, List.getElem?_eq_getElem hi⟩
    have haW : a ∈ W := by rw [← hK] at ha; exact List.mem_of_mem_take (List.mem_of_getElem? ha)
    have hao : (opsO K)[i]? = some a.o := by unfold opsO; rw [List.getElem?_map, ha]; rfl
    have hsa : usedF (((opsO K).take i).foldl doneF f) + a.o.size ≤ 1099511627776 := settle_sizes hnd hok hao hsz
    refine d_reg ?_
    refine h_q hflK rfl ?_
    refine h_val rfl (.bool true) (fun b w hb hH => exec_cmp rfl rfl rfl (cmp_lss_t (by omega)) hb) ?_
    refine h_done (d_seq (d_then rfl (d_skip (f_to (d_seq (d_block (d_reg ?_)))))))
    refine h_q hflK rfl ?_
    refine h_val rfl (elp (subv 5 pv 0 k) (i * 5)) (fun b w hb hH => e_sidx okO (hH.vecq 1 rfl okO (Nat.zero_le _) hk (m := K) (by simpa using hK)) sl_disk_operation (j := i) ha rfl rfl rfl hb) ?_
    refine h_val rfl (.agg (encO a).toArray) (fun b w hb hH => e_sagg okO (by decide) (hH.vecq 1 rfl okO (Nat.zero_le _) hk (m := K) (by simpa using hK)) (j := i) ha ty_disk_operation rfl rfl hb) ?_
    refine h_act (post := fun gc => [cell gc 68 #[.int .i64 0, .string { data := #[] }, .slice none 0 0, .int .i64 0, .string { data := #[] }], cell p 53 #[r1, r2, r3, pv, sm, sh], Vec 68 5 encO pv W, OpsE W, FilesT sm (((opsO K).take i).foldl doneF f)]) rfl (a_alloc ze_disk_operation rfl) ?_; rintro gc
    refine h_acts (post := fun _ => [cell gc 68 #[.int .i64 a.o.kind, .string (bs a.o.name), a.v, .int .i64 (a.o.cutS : Int), .string (bs a.o.to)], cell p 53 #[r1, r2, r3, pv, sm, sh], Vec 68 5 encO pv W, OpsE W, FilesT sm (((opsO K).take i).foldl doneF f)]) rfl rfl (a_store 0 (v := .agg (encO a).toArray) #[.int .i64 a.o.kind, .string (bs a.o.name), a.v, .int .i64 (a.o.cutS : Int), .string (bs a.o.to)] ty_disk_operation.2 rfl rfl rfl rfl rfl rfl rfl rfl rfl) ?_; rintro ⟨⟩
    refine h_done ?_
    refine d_parS 6 1 [⟨.quiet, [none], fun _ => .pointer (some ⟨p, 0, none⟩), []⟩, ⟨.quiet, [none], fun _ => .pointer (some ⟨p, 0, none⟩), [0]⟩, ⟨.quiet, [none], fun _ => .pointer (some ⟨p, 4, none⟩), [1]⟩, ⟨.quiet, [none], fun _ => sm, [2]⟩, ⟨.quiet, [none], fun _ => .agg #[.int .i64 a.o.kind, .string (bs a.o.name), a.v, .int .i64 (a.o.cutS : Int), .string (bs a.o.to)], []⟩, ⟨.actv 0, [some false], fun _ => .tuple #[], [3, 4]⟩] [(0, .pointer (some ⟨p, 0, none⟩)), (11, subv 5 pv 0 k), (12, .int .i64 (K.length : Int)), (13, .int .i64 ((i : Nat) : Int)), (14, .bool true), (15, elp (subv 5 pv 0 k) (i * 5)), (16, .agg (encO a).toArray), (5, .pointer (some ⟨gc, 0, none⟩))] (fun ρ => match ρ with | [r0] => [cell gc 68 #[.int .i64 a.o.kind, .string (bs a.o.name), a.v, .int .i64 (a.o.cutS : Int), .string (bs a.o.to)], cell p 53 #[r1, r2, r3, pv, sm, sh], Vec 68 5 encO pv W, OpsE W, selS r0 (fun _ => FilesT sm (((opsO K).take (i + 1)).foldl doneF f)) (FilesT sm (((opsO K).take i).foldl doneF f))] | _ => []) (by kernel_rfl) (by kernel_rfl) ⟨rfl, rfl, rfl, rfl, rfl, rfl, rfl, rfl, trivial⟩ rfl ?_ ?_
    · skip
      refine s_cons (by intro r0_; exact ⟨rfl, fun b w hH hb => exec_q1 hflK rfl hb⟩) ?_
      refine s_cons (by intro r0_; exact ⟨rfl, fun b w hH hb => by exact exec_nilCheck rfl rfl hb⟩) ?_
      refine s_cons (by intro r0_; exact ⟨rfl, fun b w hH hb => exec_q1 hflK rfl hb⟩) ?_
      refine s_cons (by intro r0_; exact ⟨rfl, fun b w hH hb => exec_load rfl rfl (reads_one ty_disk_files rfl) (hH.row 1 rfl) hb⟩) ?_
      refine s_cons (by intro r0_; exact ⟨rfl, fun b w hH hb => exec_load rfl rfl (reads_agg (cs := [.int .i64 a.o.kind, .string (bs a.o.name), a.v, .int .i64 (a.o.cutS : Int), .string (bs a.o.to)]) ty_disk_operation rfl) (hH.row 0 rfl) hb⟩) ?_
      refine s_cons (by exact ⟨rfl, Acts.su (a_does (os' := fun _ => [cell gc 68 #[.int .i64 a.o.kind, .string (bs a.o.name), a.v, .int .i64 (a.o.cutS : Int), .string (bs a.o.to)], cell p 53 #[r1, r2, r3, pv, sm, sh], Vec 68 5 encO pv W, OpsE W, FilesT sm (((opsO K).take (i + 1)).foldl doneF f)]) [4, 3] 0 (ent_of Try.func46 (by kernel_rfl) rfl) (do_any (okOs_at hok hao) (rd8_ops haW) (by omega) (fold_take hao f).symm) rfl rfl rfl (fun _ => rfl) rfl rfl rfl) rfl⟩) ?_
      exact s_nil
    intro v0_
    refine WL2.keep (env' := [(0, .pointer (some ⟨p, 0, none⟩)), (11, subv 5 pv 0 k), (12, .int .i64 (K.length : Int)), (13, .int .i64 ((i : Nat) : Int)), (14, .bool true), (15, elp (subv 5 pv 0 k) (i * 5)), (16, .agg (encO a).toArray), (5, .pointer (some ⟨gc, 0, none⟩)), (17, .pointer (some ⟨p, 0, none⟩)), (18, .pointer (some ⟨p, 0, none⟩)), (19, .pointer (some ⟨p, 4, none⟩)), (20, sm), (21, .agg #[.int .i64 a.o.kind, .string (bs a.o.name), a.v, .int .i64 (a.o.cutS : Int), .string (bs a.o.to)])]) ⟨rfl, rfl, rfl, rfl, rfl, rfl, rfl, rfl, rfl, rfl, rfl, rfl, rfl, trivial⟩ ?_
    refine h_nil (f_block (f_to ?_))
    refine WC2.leave [0] rfl rfl ?_
    refine d_reg1 ?_
    refine h_q hflK rfl ?_
    refine h_val rfl (.int .i64 ((i + 1 : Nat) : Int)) (fun b w hb hH => exec_ar rfl rfl rfl rfl (by rw [IntWalk.i64_in _ (by omega)]; omega) hb) ?_
    refine h_q hflK rfl ?_
    refine h_nil ?_
    exact f_again (i + 1) 0 (by omega) (by show K.length - (i + 1) < K.length - i; omega) ⟨rfl, rfl, rfl, rfl, trivial⟩ rfl
  · skip
    have he : ((opsO K).take i).foldl doneF f = f' := by rw [List.take_of_length_le (by unfold opsO; rw [List.length_map]; exact hi)]; exact hf
    refine d_reg ?_
    refine h_q hflK rfl ?_
    refine h_val rfl (.bool false) (fun b w hb hH => exec_cmp rfl rfl rfl (cmp_lss_f (by omega)) hb) ?_
    refine h_done (d_seq (d_else rfl (d_exit (f_then_exit (f_then_exit (f_block_exit (f_to ?_)))))))
    rw [he]
    refine d_reg1 ?_
    refine h_q hflK rfl ?_
    refine h_val rfl (.pointer (some ⟨p, 0, none⟩)) (fun b w hb hH => by exact exec_nilCheck rfl rfl hb) ?_
    refine h_q hflK rfl ?_
    refine h_acts (post := fun _ => [cell p 53 #[r1, r2, r3, .slice none 0 0, sm, sh], Vec 68 5 encO pv W, OpsE W, FilesT sm f']) rfl rfl (a_store 0 (v := .slice none 0 0) #[r1, r2, r3, .slice none 0 0, sm, sh] ty_s_disk_operation.2 rfl rfl rfl rfl rfl rfl rfl rfl rfl) ?_; rintro ⟨⟩
    refine h_nil ?_
    exact f_fin0n  (fun w h => tells () rfl [0, 1, 2, 3] rfl h same_parts) rfl

set_option maxRecDepth 100000 in
theorem tear_nil {X : Ass} {v : Value} {f : FS} {x : OpV} {torn : Int} (hX : Rd8 X x.v x.o.data) (hd : x.o.data = []) : Does Try.prog 29 #[v, .agg (encO x).toArray, .int .i64 torn] [FilesT v f, X] (fun (_ : Unit) => .tuple #[]) (fun (_ : Unit) => [FilesT v f, X]) := by
  refine d_ins (args := [v, .agg (encO x).toArray, .int .i64 torn]) 26 Try.func29 rfl rfl rfl ?_; intro w rs
  refine d_reg ?_
  refine h_q hflK rfl ?_
  refine h_act (post := fun g1 => [cell g1 68 #[.int .i64 x.o.kind, .string (bs x.o.name), x.v, .int .i64 (x.o.cutS : Int), .string (bs x.o.to)], FilesT v f, X]) rfl (a_box (cs := #[.int .i64 x.o.kind, .string (bs x.o.name), x.v, .int .i64 (x.o.cutS : Int), .string (bs x.o.to)]) rfl rfl rfl) ?_; rintro g1
  refine h_done (d_seq (d_reg ?_))
  refine h_q hflK rfl ?_
  refine h_val rfl (x.v) (fun b w hb hH => exec_load rfl rfl (reads_one ty_s_uint8 rfl) (hH.row 0 rfl) hb) ?_
  refine h_val rfl (.int .i64 (x.o.data.length : Int)) (fun b w hb hH => e_slen ((hH.rd8 2 rfl hX).rd) Try.underlying29 rfl rfl hb) ?_
  refine h_val rfl (.bool true) (fun b w hb hH => exec_cmp rfl rfl rfl (cmp_eql_t (by rw [hd]; rfl)) hb) ?_
  refine h_done (d_then rfl (d_ret (f_then_ret ?_)))
  exact f_fin0  (fun w h => tells () rfl [1, 2] rfl h same_parts) rfl

set_option maxRecDepth 100000 in
theorem tear_app {X : Ass} {v : Value} {f f' : FS} {n y b1 : List UInt8} {A : Option Addr} {c : Nat} {torn : Int} (hX : Rd8 X (.slice A y.length c) y) (hl : usedF f + y.length ≤ 1099511627776) (hy : y ≠ []) (ht : (torn % (y.length : Int)).toNat = b1.length) (hb1 : y.take b1.length = b1) (h : tornF f (.app n y) torn = f') : Does Try.prog 29 #[v, .agg #[.int .i64 0, .string (bs n), .slice A y.length c, .int .i64 0, .string (bs ([]))], .int .i64 torn] [FilesT v f, X] (fun (_ : Unit) => .tuple #[]) (fun (_ : Unit) => [FilesT v f', X]) := by
  have h_ := h
  have hb0 : 0 < y.length := List.length_pos_iff.2 hy
  have h1 := Int.emod_nonneg torn (show (y.length : Int) ≠ 0 by omega)
  have h2 := Int.emod_lt_of_pos torn (show 0 < (y.length : Int) by omega)
  have hX1 : Rd8 X (.slice A b1.length c) b1 := fun rs w ha hb => by
    have := (hX rs w ha hb).takes (k := b1.length) (by omega)
    rwa [hb1] at this
  have hsub : subv 1 (.slice A y.length c) 0 b1.length = .slice A b1.length c := subTake
  unfold tornF at h_
  simp only [ht, hy, or_false, hb1] at h_
  refine d_ins (args := [v, .agg #[.int .i64 0, .string (bs n), .slice A y.length c, .int .i64 0, .string (bs ([]))], .int .i64 torn]) 26 Try.func29 rfl rfl rfl ?_; intro w rs
  refine d_reg ?_
  refine h_q hflK rfl ?_
  refine h_act (post := fun g1 => [cell g1 68 #[.int .i64 0, .string (bs n), .slice A y.length c, .int .i64 0, .string (bs ([]))], FilesT v f, X]) rfl (a_box (cs := #[.int .i64 0, .string (bs n), .slice A y.length c, .int .i64 0, .string (bs ([]))]) rfl rfl rfl) ?_; rintro g1
  refine h_done (d_seq (d_reg ?_))
  refine h_q hflK rfl ?_
  refine h_val rfl (.slice A y.length c) (fun b w hb hH => exec_load rfl rfl (reads_one ty_s_uint8 rfl) (hH.row 0 rfl) hb) ?_
  refine h_val rfl (.int .i64 (y.length : Int)) (fun b w hb hH => e_slen ((hH.rd8 2 rfl hX).rd) Try.underlying29 rfl rfl hb) ?_
  refine h_val rfl (.bool false) (fun b w hb hH => exec_cmp rfl rfl rfl (cmp_eql_f (by omega)) hb) ?_
  refine h_done (d_else rfl (d_skip (f_to (d_seq ?_))))
  refine d_parS 9 1 [⟨.quiet, [none], fun _ => .pointer (some ⟨g1, 2, none⟩), []⟩, ⟨.quiet, [none], fun _ => .slice A y.length c, [0]⟩, ⟨.quiet, [none], fun _ => .int .i64 torn, []⟩, ⟨.quiet, [none], fun _ => .pointer (some ⟨g1, 2, none⟩), []⟩, ⟨.quiet, [none], fun _ => .slice A y.length c, [3]⟩, ⟨.quiet, [none], fun _ => .int .i64 (y.length : Int), [4]⟩, ⟨.actv 0, [some false], fun _ => .int .i64 (b1.length : Int), [2, 5]⟩, ⟨.quiet, [some true], fun _ => .slice A b1.length c, [1, 6]⟩, ⟨.quiet, [some true], fun _ => .pointer (some ⟨g1, 2, none⟩), []⟩] [(0, v), (2, .int .i64 torn), (4, .pointer (some ⟨g1, 0, none⟩))] (fun ρ => match ρ with | [r0] => [cell g1 68 #[.int .i64 0, .string (bs n), .slice A y.length c, .int .i64 0, .string (bs ([]))], FilesT v f, X] | _ => []) (by kernel_rfl) (by kernel_rfl) ⟨rfl, rfl, rfl, trivial⟩ rfl ?_ ?_
  · skip
    refine s_cons (by intro r0_; exact ⟨rfl, fun b w hH hb => exec_q1 hflK rfl hb⟩) ?_
    refine s_cons (by intro r0_; exact ⟨rfl, fun b w hH hb => exec_load rfl rfl (reads_one ty_s_uint8 rfl) (hH.row 0 rfl) hb⟩) ?_
    refine s_cons (by intro r0_; exact ⟨rfl, fun b w hH hb => exec_q1 hflK rfl hb⟩) ?_
    refine s_cons (by intro r0_; exact ⟨rfl, fun b w hH hb => exec_q1 hflK rfl hb⟩) ?_
    refine s_cons (by intro r0_; exact ⟨rfl, fun b w hH hb => exec_load rfl rfl (reads_one ty_s_uint8 rfl) (hH.row 0 rfl) hb⟩) ?_
    refine s_cons (by intro r0_; exact ⟨rfl, fun b w hH hb => e_slen ((hH.rd8 2 rfl hX).rd) Try.underlying29 rfl rfl hb⟩) ?_
    refine s_cons (by exact ⟨rfl, Acts.su (a_call (ent_of Try.func28 (by kernel_rfl) rfl) (fun w hH => modulo_any w torn (y.length : Int) (b1.length : Int) (by omega) (by omega) (by omega)) rfl rfl rfl) rfl⟩) ?_
    refine s_cons (by intro v0_; exact ⟨rfl, fun b w hH hb => e_sub_hi (j := b1.length) sl_uint8 hsub (Nat.le_trans (by omega) (sl8_cap (A := A) (n := y.length) (c := c) (hH.rd8 2 rfl hX))) rfl rfl rfl hH hb⟩) ?_
    refine s_cons (by intro v0_; exact ⟨rfl, fun b w hH hb => exec_q1 hflK rfl hb⟩) ?_
    exact s_nil
  intro v0_
  refine WL2.keep (env' := [(0, v), (4, .pointer (some ⟨g1, 0, none⟩)), (17, .slice A b1.length c), (18, .pointer (some ⟨g1, 2, none⟩))]) ⟨rfl, rfl, rfl, rfl, trivial⟩ ?_
  refine h_q hflK rfl ?_
  refine h_acts (post := fun _ => [cell g1 68 #[.int .i64 0, .string (bs n), .slice A b1.length c, .int .i64 0, .string (bs ([]))], FilesT v f, X]) rfl rfl (a_store 0 (v := .slice A b1.length c) #[.int .i64 0, .string (bs n), .slice A b1.length c, .int .i64 0, .string (bs ([]))] ty_s_uint8.2 rfl rfl rfl rfl rfl rfl rfl rfl rfl) ?_; rintro ⟨⟩
  refine h_nil (f_to ?_)
  rcases Nat.eq_zero_or_pos b1.length with h0 | h0
  · skip
    rw [if_pos h0] at h_
    subst h_
    refine d_reg ?_
    refine h_q hflK rfl ?_
    refine h_val rfl (.slice A b1.length c) (fun b w hb hH => exec_load rfl rfl (reads_one ty_s_uint8 rfl) (hH.row 0 rfl) hb) ?_
    refine h_val rfl (.int .i64 (b1.length : Int)) (fun b w hb hH => e_slen ((hH.rd8 2 rfl hX1).rd) Try.underlying29 rfl rfl hb) ?_
    refine h_val rfl (.bool false) (fun b w hb hH => exec_cmp rfl rfl rfl (cmp_gtr_f (by omega)) hb) ?_
    refine h_done (d_else rfl (d_skip ?_))
    exact f_fin0n  (fun w h => tells () rfl [1, 2] rfl h same_parts) rfl
  · skip
    rw [if_neg (by omega)] at h_
    refine d_reg ?_
    refine h_q hflK rfl ?_
    refine h_val rfl (.slice A b1.length c) (fun b w hb hH => exec_load rfl rfl (reads_one ty_s_uint8 rfl) (hH.row 0 rfl) hb) ?_
    refine h_val rfl (.int .i64 (b1.length : Int)) (fun b w hb hH => e_slen ((hH.rd8 2 rfl hX1).rd) Try.underlying29 rfl rfl hb) ?_
    refine h_val rfl (.bool true) (fun b w hb hH => exec_cmp rfl rfl rfl (cmp_gtr_t (by omega)) hb) ?_
    refine h_done (d_then rfl (d_reg1 ?_))
    refine h_q hflK rfl ?_
    refine h_val rfl (.agg #[.int .i64 0, .string (bs n), .slice A b1.length c, .int .i64 0, .string (bs ([]))]) (fun b w hb hH => exec_load rfl rfl (reads_agg (cs := [.int .i64 0, .string (bs n), .slice A b1.length c, .int .i64 0, .string (bs ([]))]) ty_disk_operation rfl) (hH.row 0 rfl) hb) ?_
    refine h_act (post := fun _ => [cell g1 68 #[.int .i64 0, .string (bs n), .slice A b1.length c, .int .i64 0, .string (bs ([]))], FilesT v f', X]) rfl (a_does (os' := fun _ => [cell g1 68 #[.int .i64 0, .string (bs n), .slice A b1.length c, .int .i64 0, .string (bs ([]))], FilesT v f', X]) [1, 2] 0 (ent_of Try.func46 (by kernel_rfl) rfl) (do_app hX1 (by omega) h_) rfl rfl rfl (fun _ => rfl) rfl rfl rfl) ?_; rintro ⟨⟩
    refine h_nil ?_
    exact f_fin0n  (fun w h => tells () rfl [1, 2] rfl h same_parts) rfl

theorem tear_any {X : Ass} {v : Value} {f f' : FS} {x : OpV} {torn : Int} (hX : Rd8 X x.v x.o.data) (hl : usedF f + x.o.size ≤ 1099511627776) (h : tornF f x.o torn = f') : Does Try.prog 29 #[v, .agg (encO x).toArray, .int .i64 torn] [FilesT v f, X] (fun _ : Unit => .tuple #[]) (fun _ => [FilesT v f', X]) := by
  by_cases hd : x.o.data = []
  · rw [torn_nil hd] at h
    subst h
    exact tear_nil hX hd
  · obtain ⟨o, A, c⟩ := x
    cases o with
    | app n b =>
      have hb : b ≠ [] := hd
      have h0 : 0 < b.length := List.length_pos_iff.2 hb
      have h1 := Int.emod_nonneg torn (show (b.length : Int) ≠ 0 by omega)
      have h2 := Int.emod_lt_of_pos torn (show 0 < (b.length : Int) by omega)
      have h3 : (b.take (torn % (b.length : Int)).toNat).length = (torn % (b.length : Int)).toNat := by rw [List.length_take]; omega
      exact tear_app (b1 := b.take (torn % (b.length : Int)).toNat) hX hl hb h3.symm (congrArg (fun k => b.take k) h3) h
    | cut n s => exact absurd rfl hd
    | ren a b => exact absurd rfl hd
    | del n => exact absurd rfl hd

set_option maxRecDepth 100000 in
theorem copied_t {v : Value} {f : FS} (hl : usedF f ≤ 1099511627776) : Does Try.prog 30 #[v] [FilesT v f] (fun (x : { q : Nat × FS // q.2.Perm f }) => .map (some x.1.1)) (fun (x : { q : Nat × FS // q.2.Perm f }) => [FilesT v f, FilesT (.map (some x.1.1)) x.1.2]) := by
  refine d_ins (args := [v]) 21 Try.func30 rfl rfl rfl ?_; intro w rs
  refine WC2.fact 0 rfl filesT_nodup ?_; rintro hnd
  refine d_open 0 rfl files_open (fun _ => rfl) ?_; rintro ⟨L, hL⟩
  subst hL
  refine d_reg ?_
  refine h_q hflK rfl ?_
  refine h_done (d_reg ?_)
  refine h_q hflK rfl ?_
  refine h_val rfl (.int .i64 (L.length : Int)) (fun b w hb hH => e_mlen 0 Try.underlying50 rfl rfl rfl hH hb) ?_
  refine h_act (post := fun gc => [MapT encKey encFil (.map (some gc)) ([]), MapT encKey encFil v L, FilE L]) rfl (a_mmakeN (kk := encKey) (vv := encFil) Try.underlying50 rfl rfl) ?_; rintro gc
  refine h_q hflK rfl ?_
  refine h_done (d_seq ?_)
  refine d_new (t := FilE ([])) (each_nil) ?_
  refine d_reg ?_
  refine h_q hflK rfl ?_
  refine h_act (post := fun g1 => [FilE ([]), MapT encKey encFil (.map (some gc)) ([]), RngT encKey encFil v (.pointer (some ⟨g1, 0, none⟩)) L L none, FilE L]) rfl (a_range 2 Try.underlying50 rfl rfl rfl) ?_; rintro g1
  refine h_done (d_block ?_)
  refine d_loop (α := FilL × FilL × Option (List UInt8 × PtT)) (fun ⟨left, done, cur⟩ => [(2, .map none), (3, .map (some gc)), (10, .pointer (some ⟨g1, 0, none⟩))]) (fun ⟨left, done, cur⟩ => [FilE done, MapT encKey encFil (.map (some gc)) done, RngT encKey encFil v (.pointer (some ⟨g1, 0, none⟩)) L left cur, FilE L]) (fun ⟨left, done, cur⟩ => (fsL done ++ fsL left).Perm (fsL L) ∧ ∀ p, p ∈ left → p ∈ L) (fun ⟨left, done, cur⟩ => left.length) (L, [], none) ⟨.refl _, fun _ h => h⟩ ⟨rfl, rfl, rfl, trivial⟩ rfl ?_
  rintro ⟨left, done, cur⟩ hI
  refine WC2.at_ (env' := [(2, .map none), (3, .map (some gc)), (10, .pointer (some ⟨g1, 0, none⟩))]) (rs' := [FilE done, MapT encKey encFil (.map (some gc)) done, RngT encKey encFil v (.pointer (some ⟨g1, 0, none⟩)) L left cur, FilE L]) ⟨rfl, rfl, rfl, trivial⟩ rfl ?_
  rcases Classical.em (left = []) with hc | hc
  · skip
    have hp : (fsL done).Perm (fsL L) := by have := hI.1; rw [hc] at this; simpa [fsL] using this
    refine d_reg ?_
    refine h_q hflK rfl ?_
    refine h_val rfl (.tuple #[.bool false]) (fun b w hb hH => e_next0 2 rfl hc rfl rfl hH hb) ?_
    refine h_q hflK rfl ?_
    refine h_done (d_seq (d_else rfl (d_exit (f_then_exit (f_then_exit (f_block_exit (f_to ?_)))))))
    refine d_open 2 rfl rng_close (fun _ => rfl) ?_; rintro ⟨⟩
    refine WC2.leave [1] rfl rfl ?_
    refine d_reg ?_
    refine h_q hflK rfl ?_
    refine h_done (d_ret ?_)
    exact f_fin1 (.tmp rfl) (fun w h => tells (X := { q : Nat × FS // q.2.Perm (fsL L) }) ⟨(gc, fsL done), hp⟩ rfl [0, 3, 2, 1] rfl h (copied_tell rfl)) rfl
  · skip
    refine d_reg ?_
    refine h_q hflK rfl ?_
    refine h_act (post := fun q : { q : Nat × List UInt8 × PtT // (left)[q.1]? = some q.2 } => [FilE done, MapT encKey encFil (.map (some gc)) done, RngT encKey encFil v (.pointer (some ⟨g1, 0, none⟩)) L (left.eraseIdx q.1.1) (some (q.1.2.1, q.1.2.2)), FilE L]) rfl (a_next1 2 rfl hc rfl rfl) ?_; rintro q
    refine h_q hflK rfl ?_
    refine h_done (d_seq (d_then rfl (d_skip (f_to (d_block ?_)))))
    have hqm : q.1.2 ∈ L := hI.2 _ (List.mem_of_getElem? q.2)
    have hqn : fnd q.1.2.1 done 0 = none := copied_new hnd hI.1 q.2
    have hql : q.1.2.2.2.length ≤ usedF (fsL L) := used_get hnd ((getM_some hnd).2 (List.mem_map.2 ⟨_, hqm, rfl⟩))
    refine d_reg ?_
    refine h_q hflK rfl ?_
    refine h_val rfl (.tuple #[.string (bs q.1.2.1), q.1.2.2.1]) (fun b w hb hH => e_entry 2 rfl rfl rfl hH hb) ?_
    refine h_q hflK rfl ?_
    refine h_done (d_reg1 ?_)
    refine h_q hflK rfl ?_
    refine h_act (post := fun v9 => [Vec 5 1 encB v9 q.1.2.2.2, FilE done, MapT encKey encFil (.map (some gc)) done, RngT encKey encFil v (.pointer (some ⟨g1, 0, none⟩)) L (left.eraseIdx q.1.1) (some (q.1.2.1, q.1.2.2)), FilE L]) rfl (a_does (os' := fun v9 => [Vec 5 1 encB v9 q.1.2.2.2, FilE done, MapT encKey encFil (.map (some gc)) done, RngT encKey encFil v (.pointer (some ⟨g1, 0, none⟩)) L (left.eraseIdx q.1.1) (some (q.1.2.1, q.1.2.2)), FilE L]) [3] 0 (ent_of Try.func32 (by kernel_rfl) rfl) (clone8 (rd8_fil hqm) (by omega)) rfl rfl rfl (fun _ => rfl) rfl rfl rfl) ?_; rintro v9
    refine h_acts (post := fun _ => [Vec 5 1 encB v9 q.1.2.2.2, FilE done, MapT encKey encFil (.map (some gc)) (putM done q.1.2.1 (v9, q.1.2.2.2)), RngT encKey encFil v (.pointer (some ⟨g1, 0, none⟩)) L (left.eraseIdx q.1.1) (some (q.1.2.1, q.1.2.2)), FilE L]) rfl rfl (a_mput 2 mapTyF rfl q.1.2.1 (v9, q.1.2.2.2) rfl rfl rfl rfl rfl rfl) ?_; rintro ⟨⟩
    refine h_close [1, 0] rfl (fil_new hqn (v9, q.1.2.2.2)) rfl ?_
    refine h_nil (f_block ?_)
    exact f_again (left.eraseIdx q.1.1, putM done q.1.2.1 (v9, q.1.2.2.2), some (q.1.2.1, q.1.2.2)) 0 ⟨copied_step hI.1 q.2 hqn, fun p hp => hI.2 p (List.mem_of_mem_eraseIdx hp)⟩ (show (left.eraseIdx q.1.1).length < left.length from erase_less q.2) ⟨rfl, rfl, rfl, trivial⟩ rfl
end Go.Proofs.Ytjcfimmcogkopaa.Sep
