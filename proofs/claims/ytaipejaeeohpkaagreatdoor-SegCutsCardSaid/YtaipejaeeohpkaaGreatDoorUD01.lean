/-
  DskE · DskG
-/
import Derived.Test.YtaipejaeeohpkaaGreatDoorUB05
import Derived.Test.YtaipejaeeohpkaaGreatDoorUC01
set_option linter.unusedSimpArgs false
set_option linter.unusedVariables false
set_option maxRecDepth 100000
namespace Go.Proofs.YtaipejaeeohpkaaGreatDoor.Sep
open Go.RowKit
open Go.Proofs.YtaipejaeeohpkaaGreatDoor.Mem (Dist Blk Chg below0)
theorem begin_dn {p : Nat} {d : DiskD} (hd : d.down = true) : Does Tryz.prog 84 #[.pointer (some ⟨p, 0, none⟩)] [DiskT p d] (fun (_ : Unit) => .bool false) (fun (_ : Unit) => [DiskT p d]) := by
 refine d_ins (args := [.pointer (some ⟨p, 0, none⟩)]) 30 Tryz.func84 rfl rfl rfl ?_; intro w rs
 refine d_open 0 rfl (disk_dn hd) (fun _ => rfl) ?_; rintro x
 refine d_reg ?_
 refine h_q hflK rfl ?_
 refine h_done (d_seq (d_reg ?_))
 refine h_q hflK rfl ?_
 refine h_val rfl (.pointer (some ⟨p, 0, none⟩)) (fun b w hb hH => by exact xNc rfl rfl hb) ?_
 refine h_q hflK rfl ?_
 refine h_val rfl (.bool true) (fun b w hb hH => xLd rfl rfl (rOn ty_bool rfl) (hH.row 0 rfl) hb) ?_
 refine h_done (d_then rfl (d_reg ?_))
 refine h_q hflK rfl ?_
 refine h_done (d_ret (fTr ?_))
 exact f_fin1 (.tmp rfl) (fun w h => tells () rfl [0, 1, 2, 3] rfl h (dn_close (os := []) ⟨x.pv, x.sm, .map none, x.W, [], x.hW, (fun h => by rw [hd] at h; cases h), x.hok, x.hf, x.hr, x.hk⟩ hd rfl)) rfl
theorem begin_burnt {p : Nat} {d : DiskD} (hd : d.down = false) (hf : d.fuse = some 0) : Does Tryz.prog 84 #[.pointer (some ⟨p, 0, none⟩)] [DiskT p d] (fun (_ : Unit) => .bool false) (fun (_ : Unit) => [DiskT p ({ d with down := true })]) := by
 refine d_ins (args := [.pointer (some ⟨p, 0, none⟩)]) 30 Tryz.func84 rfl rfl rfl ?_; intro w rs
 refine d_open 0 rfl (disk_up hd) (fun _ => rfl) ?_; rintro x
 refine d_reg ?_
 refine h_q hflK rfl ?_
 refine h_done (d_seq (d_reg ?_))
 refine h_q hflK rfl ?_
 refine h_val rfl (.pointer (some ⟨p, 0, none⟩)) (fun b w hb hH => by exact xNc rfl rfl hb) ?_
 refine h_q hflK rfl ?_
 refine h_val rfl (.bool false) (fun b w hb hH => xLd rfl rfl (rOn ty_bool rfl) (hH.row 0 rfl) hb) ?_
 refine h_done (d_else rfl (d_skip (f_to (d_seq (d_reg ?_)))))
 refine h_q hflK rfl ?_
 refine h_val rfl (.pointer (some ⟨p, 0, none⟩)) (fun b w hb hH => by exact xNc rfl rfl hb) ?_
 refine h_q hflK rfl ?_
 refine h_val rfl (.int .i64 (fzI d.fuse)) (fun b w hb hH => xLd rfl rfl (rOn ty_int rfl) (hH.row 0 rfl) hb) ?_
 refine h_val rfl (.bool true) (fun b w hb hH => xCm rfl rfl rfl (cEt (by rw [hf]; rfl)) hb) ?_
 refine h_done (d_then rfl (d_reg ?_))
 refine h_q hflK rfl ?_
 refine h_val rfl (.pointer (some ⟨p, 0, none⟩)) (fun b w hb hH => by exact xNc rfl rfl hb) ?_
 refine h_q hflK rfl ?_
 refine h_acts (post := fun _ => [cell p 84 #[.int .i64 d.room, .int .i64 (fzI d.fuse), .bool true, x.pv, x.sm, x.sh], Vec 127 5 encO x.pv x.W, OpsE x.W, FilesT x.sm d.syn, FilesT x.sh x.g]) rfl rfl (a_store 0 (v := .bool true) #[.int .i64 d.room, .int .i64 (fzI d.fuse), .bool true, x.pv, x.sm, x.sh] ty_bool.2 rfl rfl rfl rfl rfl rfl rfl rfl rfl) ?_; rintro ⟨⟩
 refine h_val rfl (.pointer (some ⟨p, 0, none⟩)) (fun b w hb hH => by exact xNc rfl rfl hb) ?_
 refine h_q hflK rfl ?_
 refine h_acts (post := fun _ => [cell p 84 #[.int .i64 d.room, .int .i64 (fzI d.fuse), .bool true, x.pv, x.sm, .map none], Vec 127 5 encO x.pv x.W, OpsE x.W, FilesT x.sm d.syn, FilesT x.sh x.g]) rfl rfl (a_store 0 (v := .map none) #[.int .i64 d.room, .int .i64 (fzI d.fuse), .bool true, x.pv, x.sm, .map none] ty_disk_files.2 rfl rfl rfl rfl rfl rfl rfl rfl rfl) ?_; rintro ⟨⟩
 refine h_done (d_reg ?_)
 refine h_q hflK rfl ?_
 refine h_done (d_ret (fTr ?_))
 exact f_fin1 (.tmp rfl) (fun w h => tells () rfl [0, 1, 2, 3] rfl h (dn_close (os := []) (d := { d with down := true }) ⟨x.pv, x.sm, .map none, x.W, [], x.hW, (fun h => by cases h), x.hok, x.hf, x.hr, x.hk⟩ rfl rfl)) rfl
theorem begin_some {p : Nat} {d : DiskD} {n : Nat} (hd : d.down = false) (hf : d.fuse = some (n + 1)) : Does Tryz.prog 84 #[.pointer (some ⟨p, 0, none⟩)] [DiskT p d] (fun (_ : Unit) => .bool true) (fun (_ : Unit) => [DiskT p ({ d with fuse := some n })]) := by
 refine d_ins (args := [.pointer (some ⟨p, 0, none⟩)]) 30 Tryz.func84 rfl rfl rfl ?_; intro w rs
 refine d_open 0 rfl (disk_up hd) (fun _ => rfl) ?_; rintro x
 have hz : fzI d.fuse = (n : Int) + 1 := by rw [hf]; rfl
 have hn := x.hf _ hf
 refine d_reg ?_
 refine h_q hflK rfl ?_
 refine h_done (d_seq (d_reg ?_))
 refine h_q hflK rfl ?_
 refine h_val rfl (.pointer (some ⟨p, 0, none⟩)) (fun b w hb hH => by exact xNc rfl rfl hb) ?_
 refine h_q hflK rfl ?_
 refine h_val rfl (.bool false) (fun b w hb hH => xLd rfl rfl (rOn ty_bool rfl) (hH.row 0 rfl) hb) ?_
 refine h_done (d_else rfl (d_skip (f_to (d_seq (d_reg ?_)))))
 refine h_q hflK rfl ?_
 refine h_val rfl (.pointer (some ⟨p, 0, none⟩)) (fun b w hb hH => by exact xNc rfl rfl hb) ?_
 refine h_q hflK rfl ?_
 refine h_val rfl (.int .i64 (fzI d.fuse)) (fun b w hb hH => xLd rfl rfl (rOn ty_int rfl) (hH.row 0 rfl) hb) ?_
 refine h_val rfl (.bool false) (fun b w hb hH => xCm rfl rfl rfl (cEf (by omega)) hb) ?_
 refine h_done (d_else rfl (d_skip (f_to (d_seq (d_reg ?_)))))
 refine h_q hflK rfl ?_
 refine h_val rfl (.pointer (some ⟨p, 0, none⟩)) (fun b w hb hH => by exact xNc rfl rfl hb) ?_
 refine h_q hflK rfl ?_
 refine h_val rfl (.int .i64 (fzI d.fuse)) (fun b w hb hH => xLd rfl rfl (rOn ty_int rfl) (hH.row 0 rfl) hb) ?_
 refine h_val rfl (.bool true) (fun b w hb hH => xCm rfl rfl rfl (cmp_gtr_t (by omega)) hb) ?_
 refine h_done (d_then rfl (d_reg1 ?_))
 refine h_q hflK rfl ?_
 refine h_val rfl (.pointer (some ⟨p, 0, none⟩)) (fun b w hb hH => by exact xNc rfl rfl hb) ?_
 refine h_q hflK rfl ?_
 refine h_val rfl (.int .i64 (fzI d.fuse)) (fun b w hb hH => xLd rfl rfl (rOn ty_int rfl) (hH.row 0 rfl) hb) ?_
 refine h_val rfl (.int .i64 (n : Int)) (fun b w hb hH => exec_ar rfl rfl rfl rfl (by rw [IntWalk.i64_in _ (by omega)]; omega) hb) ?_
 refine h_val rfl (.pointer (some ⟨p, 0, none⟩)) (fun b w hb hH => by exact xNc rfl rfl hb) ?_
 refine h_q hflK rfl ?_
 refine h_acts (post := fun _ => [cell p 84 #[.int .i64 d.room, .int .i64 (n : Int), .bool false, x.pv, x.sm, x.sh], Vec 127 5 encO x.pv x.W, OpsE x.W, FilesT x.sm d.syn, FilesT x.sh x.g]) rfl rfl (a_store 0 (v := .int .i64 (n : Int)) #[.int .i64 d.room, .int .i64 (n : Int), .bool false, x.pv, x.sm, x.sh] ty_int.2 rfl rfl rfl rfl rfl rfl rfl rfl rfl) ?_; rintro ⟨⟩
 refine h_nil (f_to (d_reg ?_))
 refine h_q hflK rfl ?_
 refine h_done (d_ret ?_)
 exact f_fin1 (.tmp rfl) (fun w h => tells () rfl [0, 1, 2, 3, 4] rfl h (up_close (os := []) (d := { d with fuse := some n }) ⟨x.pv, x.sm, x.sh, x.W, x.g, x.hW, x.hg, x.hok, (fun m hm => by cases hm; omega), x.hr, x.hk⟩ hd)) rfl
theorem begin_inf {p : Nat} {d : DiskD} (hd : d.down = false) (hf : d.fuse = none) : Does Tryz.prog 84 #[.pointer (some ⟨p, 0, none⟩)] [DiskT p d] (fun (_ : Unit) => .bool true) (fun (_ : Unit) => [DiskT p d]) := by
 refine d_ins (args := [.pointer (some ⟨p, 0, none⟩)]) 30 Tryz.func84 rfl rfl rfl ?_; intro w rs
 refine d_open 0 rfl (disk_up hd) (fun _ => rfl) ?_; rintro x
 have hz : fzI d.fuse = -1 := by rw [hf]; rfl
 refine d_reg ?_
 refine h_q hflK rfl ?_
 refine h_done (d_seq (d_reg ?_))
 refine h_q hflK rfl ?_
 refine h_val rfl (.pointer (some ⟨p, 0, none⟩)) (fun b w hb hH => by exact xNc rfl rfl hb) ?_
 refine h_q hflK rfl ?_
 refine h_val rfl (.bool false) (fun b w hb hH => xLd rfl rfl (rOn ty_bool rfl) (hH.row 0 rfl) hb) ?_
 refine h_done (d_else rfl (d_skip (f_to (d_seq (d_reg ?_)))))
 refine h_q hflK rfl ?_
 refine h_val rfl (.pointer (some ⟨p, 0, none⟩)) (fun b w hb hH => by exact xNc rfl rfl hb) ?_
 refine h_q hflK rfl ?_
 refine h_val rfl (.int .i64 (fzI d.fuse)) (fun b w hb hH => xLd rfl rfl (rOn ty_int rfl) (hH.row 0 rfl) hb) ?_
 refine h_val rfl (.bool false) (fun b w hb hH => xCm rfl rfl rfl (cEf (by omega)) hb) ?_
 refine h_done (d_else rfl (d_skip (f_to (d_seq (d_reg ?_)))))
 refine h_q hflK rfl ?_
 refine h_val rfl (.pointer (some ⟨p, 0, none⟩)) (fun b w hb hH => by exact xNc rfl rfl hb) ?_
 refine h_q hflK rfl ?_
 refine h_val rfl (.int .i64 (fzI d.fuse)) (fun b w hb hH => xLd rfl rfl (rOn ty_int rfl) (hH.row 0 rfl) hb) ?_
 refine h_val rfl (.bool false) (fun b w hb hH => xCm rfl rfl rfl (cmp_gtr_f (by omega)) hb) ?_
 refine h_done (d_else rfl (d_skip (f_to (d_reg ?_))))
 refine h_q hflK rfl ?_
 refine h_done (d_ret ?_)
 exact f_fin1 (.tmp rfl) (fun w h => tells () rfl [0, 1, 2, 3, 4] rfl h (up_close (os := []) x hd)) rfl
theorem begin_no {p : Nat} {d d1 : DiskD} (h : beginD d = (d1, 3)) : Does Tryz.prog 84 #[.pointer (some ⟨p, 0, none⟩)] [DiskT p d] (fun _ : Unit => .bool false) (fun _ => [DiskT p d1]) := by
  unfold beginD at h
  cases hd : d.down
  · cases hf : d.fuse with
    | none => rw [if_neg (by simp [hd, hf])] at h; cases h
    | some n =>
      cases n with
      | zero => rw [if_pos (.inr hf)] at h; cases h; exact begin_burnt hd hf
      | succ n => rw [if_neg (by simp [hd, hf])] at h; cases h
  · rw [if_pos (.inl hd)] at h
    cases h
    have e : ({ d with down := true } : DiskD) = d := by obtain ⟨_, _, _, _, dn⟩ := d; cases hd; rfl
    rw [e]; exact begin_dn hd
theorem begin_ok {p : Nat} {d d1 : DiskD} (h : beginD d = (d1, 0)) : Does Tryz.prog 84 #[.pointer (some ⟨p, 0, none⟩)] [DiskT p d] (fun _ : Unit => .bool true) (fun _ => [DiskT p d1]) := by
  unfold beginD at h
  cases hd : d.down
  · cases hf : d.fuse with
    | none =>
      rw [if_neg (by simp [hd, hf])] at h
      cases h
      have e : ({ d with fuse := d.fuse.map (· - 1) } : DiskD) = d := by obtain ⟨_, _, _, fu, _⟩ := d; cases hf; rfl
      rw [e]; exact begin_inf hd hf
    | some n =>
      cases n with
      | zero => rw [if_pos (.inr hf)] at h; cases h
      | succ n =>
        rw [if_neg (by simp [hd, hf])] at h
        cases h
        rw [hf]; exact begin_some hd hf
  · rw [if_pos (.inl hd)] at h; cases h
theorem begin_up {d d1 : DiskD} (h : beginD d = (d1, 0)) : d1.down = false ∧ d1.syn = d.syn ∧ d1.wait = d.wait ∧ d1.room = d.room := by
  unfold beginD at h
  cases hd : d.down
  · by_cases hf : d.fuse = some 0
    · rw [if_pos (.inr hf)] at h; cases h
    · rw [if_neg (by simp [hd, hf])] at h; cases h; exact ⟨hd, rfl, rfl, rfl⟩
  · rw [if_pos (.inl hd)] at h; cases h
theorem begin_01 (d : DiskD) : (beginD d).2 = 3 ∨ (beginD d).2 = 0 := by
  unfold beginD
  split
  · exact .inl rfl
  · exact .inr rfl
theorem begin_fit {d d1 : DiskD} (h : beginD d = (d1, 0)) (hd : d.fit) : d1.fit := by
 obtain ⟨_, h1, h2, _⟩ := begin_up h
 unfold DiskD.fit
 rw [h1, h2]; exact hd
theorem take_t {p : Nat} {d : DiskD} {x : OpV} (hd : d.down = false) (hfit : d.fit) (ho : OkO d.now x.o) (hl : x.o.size ≤ 1048576) : Does Tryz.prog 104 #[.pointer (some ⟨p, 0, none⟩), .agg (encO x).toArray] [DiskT p d, Vec 5 1 encB x.v x.o.data] (fun (_ : Unit) => .int .i64 0) (fun (_ : Unit) => [DiskT p (doesD d x.o)]) := by
  refine d_ins (args := [.pointer (some ⟨p, 0, none⟩), .agg (encO x).toArray]) 21 Tryz.func104 rfl rfl rfl ?_; intro w rs
  refine d_open 0 rfl (disk_up hd) (fun _ => rfl) ?_; rintro y
  refine WC2.fact 3 rfl filesT_nodup ?_; rintro hsn
  refine WC2.fact 4 rfl filesT_nodup ?_; rintro hgn
  have hu : usedF y.g ≤ 1099511627776 := by rw [perm_used (y.hg hd)]; exact now_le hfit hsn y.hok
  have hWl := ops_len y
  have hw := hfit.2
  have ho2 := okO_perm (y.hg hd).symm (now_nodup hsn) ho
  refine d_reg ?_
  refine h_q hflK rfl ?_
  refine h_act (post := fun g1 => [cell g1 127 #[.int .i64 x.o.kind, .string (bs x.o.name), x.v, .int .i64 (x.o.cutS : Int), .string (bs x.o.to)], cell p 84 #[.int .i64 d.room, .int .i64 (fzI d.fuse), .bool false, y.pv, y.sm, y.sh], Vec 127 5 encO y.pv y.W, OpsE y.W, FilesT y.sm d.syn, FilesT y.sh y.g, Vec 5 1 encB x.v x.o.data]) rfl (a_box (cs := #[.int .i64 x.o.kind, .string (bs x.o.name), x.v, .int .i64 (x.o.cutS : Int), .string (bs x.o.to)]) rfl rfl rfl) ?_; rintro g1
  refine h_q hflK rfl ?_
  refine h_done (d_seq ?_)
  refine d_parS 6 1 [⟨.quiet, [none], fun _ => .pointer (some ⟨p, 0, none⟩), []⟩, ⟨.quiet, [none], fun _ => .pointer (some ⟨p, 0, none⟩), [0]⟩, ⟨.quiet, [none], fun _ => .pointer (some ⟨p, 5, none⟩), [1]⟩, ⟨.quiet, [none], fun _ => y.sh, [2]⟩, ⟨.quiet, [none], fun _ => .agg #[.int .i64 x.o.kind, .string (bs x.o.name), x.v, .int .i64 (x.o.cutS : Int), .string (bs x.o.to)], []⟩, ⟨.actv 0, [some false], fun _ => .tuple #[], [3, 4]⟩] [(0, .pointer (some ⟨p, 0, none⟩)), (3, .pointer (some ⟨g1, 0, none⟩)), (4, .int .i64 0)] (fun ρ => match ρ with | [r0] => [cell g1 127 #[.int .i64 x.o.kind, .string (bs x.o.name), x.v, .int .i64 (x.o.cutS : Int), .string (bs x.o.to)], cell p 84 #[.int .i64 d.room, .int .i64 (fzI d.fuse), .bool false, y.pv, y.sm, y.sh], Vec 127 5 encO y.pv y.W, OpsE y.W, FilesT y.sm d.syn, selS r0 (fun _ => FilesT y.sh (doneF y.g x.o)) (FilesT y.sh y.g), Vec 5 1 encB x.v x.o.data] | _ => []) (by kernel_rfl) (by kernel_rfl) ⟨rfl, rfl, rfl, trivial⟩ rfl ?_ ?_
  · skip
    refine s_cons (by intro r0_; exact ⟨rfl, fun b w hH hb => exec_q1 hflK rfl hb⟩) ?_
    refine s_cons (by intro r0_; exact ⟨rfl, fun b w hH hb => by exact xNc rfl rfl hb⟩) ?_
    refine s_cons (by intro r0_; exact ⟨rfl, fun b w hH hb => exec_q1 hflK rfl hb⟩) ?_
    refine s_cons (by intro r0_; exact ⟨rfl, fun b w hH hb => xLd rfl rfl (rOn ty_disk_files rfl) (hH.row 1 rfl) hb⟩) ?_
    refine s_cons (by intro r0_; exact ⟨rfl, fun b w hH hb => xLd rfl rfl (rAg (cs := [.int .i64 x.o.kind, .string (bs x.o.name), x.v, .int .i64 (x.o.cutS : Int), .string (bs x.o.to)]) ty_disk_operation rfl) (hH.row 0 rfl) hb⟩) ?_
    refine s_cons (by exact ⟨rfl, Acts.su (a_does (os' := fun _ => [cell g1 127 #[.int .i64 x.o.kind, .string (bs x.o.name), x.v, .int .i64 (x.o.cutS : Int), .string (bs x.o.to)], cell p 84 #[.int .i64 d.room, .int .i64 (fzI d.fuse), .bool false, y.pv, y.sm, y.sh], Vec 127 5 encO y.pv y.W, OpsE y.W, FilesT y.sm d.syn, FilesT y.sh (doneF y.g x.o), Vec 5 1 encB x.v x.o.data]) [5, 6] 0 (ent_of Tryz.func128 (by kernel_rfl) rfl) (do_any ho2 rd8_vec (by omega) rfl) rfl rfl rfl (fun _ => rfl) rfl rfl rfl) rfl⟩) ?_
    exact s_nil
  intro v0_
  refine WL2.keep (env' := [(0, .pointer (some ⟨p, 0, none⟩)), (3, .pointer (some ⟨g1, 0, none⟩)), (4, .int .i64 0)]) ⟨rfl, rfl, rfl, trivial⟩ ?_
  refine h_nil (f_to (d_seq ?_))
  refine d_emps 1 rfl ?_
  refine d_parS 10 2 [⟨.quiet, [none, none], fun _ => .pointer (some ⟨p, 0, none⟩), []⟩, ⟨.quiet, [none, none], fun _ => .pointer (some ⟨p, 0, none⟩), []⟩, ⟨.quiet, [none, none], fun _ => .pointer (some ⟨p, 0, none⟩), [1]⟩, ⟨.quiet, [none, none], fun _ => .pointer (some ⟨p, 3, none⟩), [2]⟩, ⟨.quiet, [none, none], fun _ => y.pv, [3]⟩, ⟨.quiet, [none, none], fun _ => .agg #[.int .i64 x.o.kind, .string (bs x.o.name), x.v, .int .i64 (x.o.cutS : Int), .string (bs x.o.to)], []⟩, ⟨.act 0, [some false, some false], fun _ => undef, [5]⟩, ⟨.act 1, [some true, some false], fun _ => undef, [4, 6]⟩, ⟨.quiet, [some true, some true], fun _ => .pointer (some ⟨p, 0, none⟩), [0]⟩, ⟨.quiet, [some true, some true], fun _ => .pointer (some ⟨p, 3, none⟩), [8]⟩] [(0, .pointer (some ⟨p, 0, none⟩)), (3, .pointer (some ⟨g1, 0, none⟩)), (4, .int .i64 0)] (fun ρ => match ρ with | [r0, r1] => [selS r0 (fun u1 => Vec 127 5 encO u1 ([x])) (emp), cell g1 127 #[.int .i64 x.o.kind, .string (bs x.o.name), x.v, .int .i64 (x.o.cutS : Int), .string (bs x.o.to)], cell p 84 #[.int .i64 d.room, .int .i64 (fzI d.fuse), .bool false, y.pv, y.sm, y.sh], selS r1 (fun u2 => Vec 127 5 encO u2 (y.W ++ ([x]))) (Vec 127 5 encO y.pv y.W), OpsE y.W, FilesT y.sm d.syn, FilesT y.sh (doneF y.g x.o), Vec 5 1 encB x.v x.o.data] | _ => []) (by kernel_rfl) (by kernel_rfl) ⟨rfl, rfl, rfl, trivial⟩ rfl ?_ ?_
  · skip
    refine s_cons (by intro r0_ r1_; exact ⟨rfl, fun b w hH hb => exec_q1 hflK rfl hb⟩) ?_
    refine s_cons (by intro r0_ r1_; exact ⟨rfl, fun b w hH hb => exec_q1 hflK rfl hb⟩) ?_
    refine s_cons (by intro r0_ r1_; exact ⟨rfl, fun b w hH hb => by exact xNc rfl rfl hb⟩) ?_
    refine s_cons (by intro r0_ r1_; exact ⟨rfl, fun b w hH hb => exec_q1 hflK rfl hb⟩) ?_
    refine s_cons (by intro r0_ r1_; exact ⟨rfl, fun b w hH hb => xLd rfl rfl (rOn ty_s_disk_operation rfl) (hH.row 2 rfl) hb⟩) ?_
    refine s_cons (by intro r0_ r1_; exact ⟨rfl, fun b w hH hb => xLd rfl rfl (rAg (cs := [.int .i64 x.o.kind, .string (bs x.o.name), x.v, .int .i64 (x.o.cutS : Int), .string (bs x.o.to)]) ty_disk_operation rfl) (hH.row 1 rfl) hb⟩) ?_
    refine s_cons (by exact ⟨rfl, Acts.s (Acts.place (val := fun u1 : Value => u1) (t := fun u1 => Vec 127 5 encO u1 ([x])) (os' := fun u1 => [Vec 127 5 encO u1 ([x]), cell g1 127 #[.int .i64 x.o.kind, .string (bs x.o.name), x.v, .int .i64 (x.o.cutS : Int), .string (bs x.o.to)], cell p 84 #[.int .i64 d.room, .int .i64 (fzI d.fuse), .bool false, y.pv, y.sm, y.sh], Vec 127 5 encO y.pv y.W, OpsE y.W, FilesT y.sm d.syn, FilesT y.sh (doneF y.g x.o), Vec 5 1 encB x.v x.o.data]) 0 rfl (by refine a_buildK (e := 127) (t := 82) (k := 5) (enc := encO) (x := .tmp 16) (c := .agg #[.int .i64 x.o.kind, .string (bs x.o.name), x.v, .int .i64 (x.o.cutS : Int), .string (bs x.o.to)]) ?_ ?_ ?_ x ?_ ?_ ?_; exact sl_disk_operation; exact (by decide); exact okO; exact rfl; exact rfl; exact rfl) (fun _ => rfl)) (fun _ => rfl)⟩) ?_
    refine s_cons (by intro u1; exact ⟨rfl, Acts.s (a_append 3 sl_disk_operation okO rfl ([x]) (fun w hH => hH.vec 0 rfl okO) (by simp only [List.length_cons, List.length_nil]; omega) rfl rfl rfl rfl) (fun _ => rfl)⟩) ?_
    refine s_cons (by intro u1 u2; exact ⟨rfl, fun b w hH hb => by exact xNc rfl rfl hb⟩) ?_
    refine s_cons (by intro u1 u2; exact ⟨rfl, fun b w hH hb => exec_q1 hflK rfl hb⟩) ?_
    exact s_nil
  intro u1 u2
  refine WL2.keep (env' := [(4, .int .i64 0), (18, u2), (20, .pointer (some ⟨p, 3, none⟩))]) ⟨rfl, rfl, rfl, trivial⟩ ?_
  refine h_q hflK rfl ?_
  refine h_acts (post := fun _ => [Vec 127 5 encO u1 ([x]), cell g1 127 #[.int .i64 x.o.kind, .string (bs x.o.name), x.v, .int .i64 (x.o.cutS : Int), .string (bs x.o.to)], cell p 84 #[.int .i64 d.room, .int .i64 (fzI d.fuse), .bool false, u2, y.sm, y.sh], Vec 127 5 encO u2 (y.W ++ ([x])), OpsE y.W, FilesT y.sm d.syn, FilesT y.sh (doneF y.g x.o), Vec 5 1 encB x.v x.o.data]) rfl rfl (a_storev 2 3 (v := u2) #[.int .i64 d.room, .int .i64 (fzI d.fuse), .bool false, u2, y.sm, y.sh] ty_s_disk_operation.2 rfl (fun _ h => Vec.c1 h) rfl rfl rfl rfl rfl rfl rfl) ?_; rintro ⟨⟩
  refine h_nil (f_to ?_)
  refine d_close [4, 7] rfl each_close rfl ?_
  refine d_reg ?_
  refine h_q hflK rfl ?_
  refine h_done (d_ret ?_)
  exact f_fin1 (.tmp rfl) (fun w h => tells () rfl [3, 4, 0, 5, 6] rfl h (up_close (os := []) (d := doesD d x.o) ⟨u2, y.sm, y.sh, y.W ++ [x], doneF y.g x.o, (by rw [show opsO (y.W ++ [x]) = opsO y.W ++ [x.o] by simp [opsO], y.hW]; rfl), (fun _ => by rw [now_does]; exact perm_done (y.hg hd) hgn x.o), okOs_push y.hok ho, y.hf, y.hr, y.hk⟩ hd)) rfl
end Go.Proofs.YtaipejaeeohpkaaGreatDoor.Sep
namespace Go.Proofs.YtaipejaeeohpkaaGreatDoor.Sep
open Go.RowKit
open Go.Proofs.YtaipejaeeohpkaaGreatDoor.Mem (Dist Blk Chg below0)
end Go.Proofs.YtaipejaeeohpkaaGreatDoor.Sep
