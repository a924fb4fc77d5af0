/-
  DskJ
-/
import Derived.Test.YtjcfimmcogkopaaAD01
set_option linter.unusedSimpArgs false
set_option linter.unusedVariables false

namespace Go.Proofs.Ytjcfimmcogkopaa.Sep
open Go.RowKit
open Go.Proofs.Ytjcfimmcogkopaa.Mem (Dist Blk Chg below0)

theorem torn_le {f : FS} {o : OpD} {torn : Int} (hn : (keysM f).Nodup) : usedF (tornF f o torn) ≤ usedF f + o.size := by
  cases o with
  | app n b =>
    unfold tornF
    simp only
    split
    · exact Nat.le_add_right _ _
    · rw [used_append hn, List.length_take]; show _ ≤ usedF f + b.length; omega
  | cut n s => exact Nat.le_add_right _ _
  | ren a b => exact Nat.le_add_right _ _
  | del n => exact Nat.le_add_right _ _

set_option maxRecDepth 100000 in
theorem remove_no {p : Nat} {d d1 : DiskD} {n : List UInt8} (h : beginD d = (d1, 3)) : Does Try.prog 31 #[.pointer (some ⟨p, 0, none⟩), .string (bs n)] [DiskT p d] (fun (_ : Unit) => .int .i64 3) (fun (_ : Unit) => [DiskT p d1]) := by
  refine d_ins (args := [.pointer (some ⟨p, 0, none⟩), .string (bs n)]) 19 Try.func31 rfl rfl rfl ?_; intro w rs
  refine d_reg ?_
  refine h_q hflK rfl ?_
  refine h_done (d_seq (d_reg ?_))
  refine h_q hflK rfl ?_
  refine h_act (post := fun _ => [DiskT p d1]) rfl (a_does (os' := fun _ => [DiskT p d1]) [0] 0 (ent_of Try.func26 (by kernel_rfl) rfl) (begin_no h) rfl rfl rfl (fun _ => rfl) rfl rfl rfl) ?_; rintro ⟨⟩
  refine h_q hflK rfl ?_
  refine h_done (d_then rfl (d_reg ?_))
  refine h_q hflK rfl ?_
  refine h_done (d_ret (f_then_ret ?_))
  exact f_fin1 (.tmp rfl) (fun w h => tells () rfl [0] rfl h same_parts) rfl

set_option maxRecDepth 100000 in
theorem remove_none {p : Nat} {d d1 : DiskD} {n : List UInt8} (hfit : d.fit) (h : beginD d = (d1, 0)) (hg : getM d1.now n = none) : Does Try.prog 31 #[.pointer (some ⟨p, 0, none⟩), .string (bs n)] [DiskT p d] (fun (_ : Unit) => .int .i64 4) (fun (_ : Unit) => [DiskT p d1]) := by
  have hd1 := (begin_up h).1
  have hfit1 := begin_fit h hfit
  refine d_ins (args := [.pointer (some ⟨p, 0, none⟩), .string (bs n)]) 19 Try.func31 rfl rfl rfl ?_; intro w rs
  refine d_reg ?_
  refine h_q hflK rfl ?_
  refine h_done (d_seq (d_reg ?_))
  refine h_q hflK rfl ?_
  refine h_act (post := fun _ => [DiskT p d1]) rfl (a_does (os' := fun _ => [DiskT p d1]) [0] 0 (ent_of Try.func26 (by kernel_rfl) rfl) (begin_ok h) rfl rfl rfl (fun _ => rfl) rfl rfl rfl) ?_; rintro ⟨⟩
  refine h_q hflK rfl ?_
  refine h_done (d_else rfl (d_skip (f_to (d_seq ?_))))
  refine d_open 0 rfl (disk_upL hd1) (fun _ => rfl) ?_; rintro x
  refine WC2.fact 3 rfl filesT_nodup ?_; rintro hsn
  refine WC2.fact 4 rfl filE_nodup_map ?_; rintro hgn
  have hgL : getM x.L n = none := by rw [getM_L x.hg hgn] at hg; simpa using hg
  refine d_reg ?_
  refine h_q hflK rfl ?_
  refine h_val rfl (.pointer (some ⟨p, 0, none⟩)) (fun b w hb hH => by exact exec_nilCheck rfl rfl hb) ?_
  refine h_q hflK rfl ?_
  refine h_val rfl (x.sh) (fun b w hb hH => exec_load rfl rfl (reads_one ty_disk_files rfl) (hH.row 0 rfl) hb) ?_
  refine h_q hflK rfl ?_
  refine h_act (post := fun _ => [cell p 53 #[.int .i64 d1.room, .int .i64 (fzI d1.fuse), .bool false, x.pv, x.sm, x.sh], Vec 68 5 encO x.pv x.W, OpsE x.W, FilesT x.sm d1.syn, MapT encKey encFil x.sh x.L, FilE x.L]) rfl (a_does (os' := fun _ => [cell p 53 #[.int .i64 d1.room, .int .i64 (fzI d1.fuse), .bool false, x.pv, x.sm, x.sh], Vec 68 5 encO x.pv x.W, OpsE x.W, FilesT x.sm d1.syn, MapT encKey encFil x.sh x.L, FilE x.L]) [4] 0 (ent_of Try.func33 (by kernel_rfl) rfl) (has_t _ _ n _ hgL) rfl rfl rfl (fun _ => rfl) rfl rfl rfl) ?_; rintro ⟨⟩
  refine h_q hflK rfl ?_
  refine h_done (d_then rfl (d_reg ?_))
  refine h_q hflK rfl ?_
  refine h_done (d_ret (f_then_ret ?_))
  exact f_fin1 (.tmp rfl) (fun w h => tells () rfl [0, 1, 2, 3, 4, 5] rfl h (upL_close (os := []) x hd1)) rfl

set_option maxRecDepth 100000 in
theorem remove_some {p : Nat} {d d1 : DiskD} {n : List UInt8} {y : List UInt8} (hfit : d.fit) (h : beginD d = (d1, 0)) (hg : getM d1.now n = some y) : Does Try.prog 31 #[.pointer (some ⟨p, 0, none⟩), .string (bs n)] [DiskT p d] (fun (_ : Unit) => .int .i64 0) (fun (_ : Unit) => [DiskT p (doesD d1 (.del n))]) := by
  have hd1 := (begin_up h).1
  have hfit1 := begin_fit h hfit
  refine d_ins (args := [.pointer (some ⟨p, 0, none⟩), .string (bs n)]) 19 Try.func31 rfl rfl rfl ?_; intro w rs
  refine d_reg ?_
  refine h_q hflK rfl ?_
  refine h_done (d_seq (d_reg ?_))
  refine h_q hflK rfl ?_
  refine h_act (post := fun _ => [DiskT p d1]) rfl (a_does (os' := fun _ => [DiskT p d1]) [0] 0 (ent_of Try.func26 (by kernel_rfl) rfl) (begin_ok h) rfl rfl rfl (fun _ => rfl) rfl rfl rfl) ?_; rintro ⟨⟩
  refine h_q hflK rfl ?_
  refine h_done (d_else rfl (d_skip (f_to (d_seq ?_))))
  refine d_open 0 rfl (disk_upL hd1) (fun _ => rfl) ?_; rintro x
  refine WC2.fact 3 rfl filesT_nodup ?_; rintro hsn
  refine WC2.fact 4 rfl filE_nodup_map ?_; rintro hgn
  obtain ⟨r, hgL, _⟩ : ∃ r, getM x.L n = some r ∧ r.2 = y := by rw [getM_L x.hg hgn] at hg; exact Option.map_eq_some_iff.1 hg
  refine d_reg ?_
  refine h_q hflK rfl ?_
  refine h_val rfl (.pointer (some ⟨p, 0, none⟩)) (fun b w hb hH => by exact exec_nilCheck rfl rfl hb) ?_
  refine h_q hflK rfl ?_
  refine h_val rfl (x.sh) (fun b w hb hH => exec_load rfl rfl (reads_one ty_disk_files rfl) (hH.row 0 rfl) hb) ?_
  refine h_q hflK rfl ?_
  refine h_act (post := fun _ => [cell p 53 #[.int .i64 d1.room, .int .i64 (fzI d1.fuse), .bool false, x.pv, x.sm, x.sh], Vec 68 5 encO x.pv x.W, OpsE x.W, FilesT x.sm d1.syn, MapT encKey encFil x.sh x.L, FilE x.L]) rfl (a_does (os' := fun _ => [cell p 53 #[.int .i64 d1.room, .int .i64 (fzI d1.fuse), .bool false, x.pv, x.sm, x.sh], Vec 68 5 encO x.pv x.W, OpsE x.W, FilesT x.sm d1.syn, MapT encKey encFil x.sh x.L, FilE x.L]) [4] 0 (ent_of Try.func33 (by kernel_rfl) rfl) (has_t _ _ n _ hgL) rfl rfl rfl (fun _ => rfl) rfl rfl rfl) ?_; rintro ⟨⟩
  refine h_q hflK rfl ?_
  refine h_done (d_else rfl (d_skip (f_to ?_)))
  refine d_close [0, 1, 2, 3, 4, 5] rfl (upL_one x hd1) rfl ?_
  refine d_nilvec 5 1 encB ?_
  refine d_reg ?_
  refine h_q hflK rfl ?_
  refine h_val rfl (.agg #[.int .i64 3, .string (bs n), .slice none 0 0, .int .i64 0, .string { data := #[] }]) (fun b w hb hH => exec_build rfl rfl (by kernel_rfl) hb) ?_
  refine h_act (post := fun _ => [emp, DiskT p (doesD d1 (.del n))]) rfl (a_does (os' := fun _ => [emp, DiskT p (doesD d1 (.del n))]) [1, 0] 0 (ent_of Try.func38 (by kernel_rfl) rfl) (take_t (x := ⟨.del n, none, 0⟩) hd1 hfit1 trivial (Nat.zero_le _)) rfl rfl rfl (fun _ => rfl) rfl rfl rfl) ?_; rintro ⟨⟩
  refine WL2.leave [0] rfl rfl ?_
  refine h_q hflK rfl ?_
  refine h_done (d_ret ?_)
  exact f_fin1 (.tmp rfl) (fun w h => tells () rfl [0] rfl h same_parts) rfl

theorem disk_remove {p : Nat} {d d' : DiskD} {n : List UInt8} {e : Nat} (hd : d.fit) (h : delD d n = (d', e)) : Does Try.prog 31 #[.pointer (some ⟨p, 0, none⟩), .string (bs n)] [DiskT p d] (fun _ : Unit => .int .i64 (e : Int)) (fun _ => [DiskT p d']) := by
  unfold delD at h
  obtain ⟨d1, e1, h1⟩ : ∃ d1 e1, beginD d = (d1, e1) := ⟨_, _, rfl⟩
  have h01 := begin_01 d
  rw [h1] at h h01
  simp only at h h01
  rcases h01 with rfl | rfl
  · rw [if_pos (by decide)] at h
    cases h
    exact remove_no h1
  · rw [if_neg (by decide)] at h
    cases hg : getM d1.now n with
    | none => rw [hg] at h; cases h; exact remove_none hd h1 hg
    | some y => rw [hg] at h; cases h; exact remove_some hd h1 hg

set_option maxRecDepth 100000 in
theorem sync_no {p : Nat} {d d1 : DiskD} (h : beginD d = (d1, 3)) : Does Try.prog 12 #[.pointer (some ⟨p, 0, none⟩)] [DiskT p d] (fun (_ : Unit) => .int .i64 3) (fun (_ : Unit) => [DiskT p d1]) := by
  refine d_ins (args := [.pointer (some ⟨p, 0, none⟩)]) 13 Try.func12 rfl rfl rfl ?_; intro w rs
  refine d_reg ?_
  refine h_q hflK rfl ?_
  refine h_done (d_seq (d_reg ?_))
  refine h_q hflK rfl ?_
  refine h_act (post := fun _ => [DiskT p d1]) rfl (a_does (os' := fun _ => [DiskT p d1]) [0] 0 (ent_of Try.func26 (by kernel_rfl) rfl) (begin_no h) rfl rfl rfl (fun _ => rfl) rfl rfl rfl) ?_; rintro ⟨⟩
  refine h_q hflK rfl ?_
  refine h_done (d_then rfl (d_reg ?_))
  refine h_q hflK rfl ?_
  refine h_done (d_ret (f_then_ret ?_))
  exact f_fin1 (.tmp rfl) (fun w h => tells () rfl [0] rfl h same_parts) rfl

set_option maxRecDepth 100000 in
theorem sync_ok {p : Nat} {d d1 : DiskD} (hfit : d.fit) (h : beginD d = (d1, 0)) : Does Try.prog 12 #[.pointer (some ⟨p, 0, none⟩)] [DiskT p d] (fun (_ : Unit) => .int .i64 0) (fun (_ : Unit) => [DiskT p ({ d1 with syn := d1.now, wait := [] })]) := by
  have hd1 := (begin_up h).1
  have hfit1 := begin_fit h hfit
  refine d_ins (args := [.pointer (some ⟨p, 0, none⟩)]) 13 Try.func12 rfl rfl rfl ?_; intro w rs
  refine d_reg ?_
  refine h_q hflK rfl ?_
  refine h_done (d_seq (d_reg ?_))
  refine h_q hflK rfl ?_
  refine h_act (post := fun _ => [DiskT p d1]) rfl (a_does (os' := fun _ => [DiskT p d1]) [0] 0 (ent_of Try.func26 (by kernel_rfl) rfl) (begin_ok h) rfl rfl rfl (fun _ => rfl) rfl rfl rfl) ?_; rintro ⟨⟩
  refine h_q hflK rfl ?_
  refine h_done (d_else rfl (d_skip (f_to ?_)))
  refine d_open 0 rfl (disk_up hd1) (fun _ => rfl) ?_; rintro x
  refine WC2.fact 3 rfl filesT_nodup ?_; rintro hsn
  have hWl := ops_len x
  have hw := hfit1.2
  have hok : okOs d1.syn (opsO x.W) := by rw [x.hW]; exact x.hok
  have hsz : usedF d1.syn + ((opsO x.W).map OpD.size).sum ≤ 1099511627776 := by rw [x.hW]; exact hfit1.1
  refine d_reg ?_
  refine h_q hflK rfl ?_
  refine h_val rfl (.pointer (some ⟨p, 0, none⟩)) (fun b w hb hH => by exact exec_nilCheck rfl rfl hb) ?_
  refine h_q hflK rfl ?_
  refine h_val rfl (x.pv) (fun b w hb hH => exec_load rfl rfl (reads_one ty_s_disk_operation rfl) (hH.row 0 rfl) hb) ?_
  refine h_val rfl (.int .i64 (x.W.length : Int)) (fun b w hb hH => e_vlen 1 Try.underlying51 rfl rfl rfl hH hb) ?_
  refine h_act (post := fun _ => [cell p 53 #[.int .i64 d1.room, .int .i64 (fzI d1.fuse), .bool false, .slice none 0 0, x.sm, x.sh], Vec 68 5 encO x.pv x.W, OpsE x.W, FilesT x.sm d1.now, FilesT x.sh x.g]) rfl (a_does (os' := fun _ => [cell p 53 #[.int .i64 d1.room, .int .i64 (fzI d1.fuse), .bool false, .slice none 0 0, x.sm, x.sh], Vec 68 5 encO x.pv x.W, OpsE x.W, FilesT x.sm d1.now, FilesT x.sh x.g]) [0, 1, 2, 3] 0 (ent_of Try.func27 (by kernel_rfl) rfl) (settle_t (k := x.W.length) (K := x.W) (Nat.le_refl _) (by omega) (List.take_of_length_le (Nat.le_refl _)) hok hsz (show (opsO x.W).foldl doneF d1.syn = d1.now by rw [x.hW]; rfl)) rfl rfl rfl (fun _ => rfl) rfl rfl rfl) ?_; rintro ⟨⟩
  refine h_done ?_
  refine WC2.leave [1, 2] rfl rfl ?_
  refine d_nilvec 68 5 encO ?_
  refine d_new (t := OpsE ([])) (each_nil) ?_
  refine d_reg ?_
  refine h_q hflK rfl ?_
  refine h_done (d_ret ?_)
  exact f_fin1 (.tmp rfl) (fun w h => tells () rfl [2, 1, 0, 3, 4] rfl h (up_close (os := []) (d := { d1 with syn := d1.now, wait := [] }) ⟨.slice none 0 0, x.sm, x.sh, [], x.g, rfl, (fun _ => x.hg hd1), okOs_nil, x.hf, x.hr, now_names hsn x.hk x.hok⟩ hd1)) rfl

theorem disk_sync {p : Nat} {d d' : DiskD} {e : Nat} (hd : d.fit) (h : syncD d = (d', e)) : Does Try.prog 12 #[.pointer (some ⟨p, 0, none⟩)] [DiskT p d] (fun _ : Unit => .int .i64 (e : Int)) (fun _ => [DiskT p d']) := by
  unfold syncD at h
  obtain ⟨d1, e1, h1⟩ : ∃ d1 e1, beginD d = (d1, e1) := ⟨_, _, rfl⟩
  have h01 := begin_01 d
  rw [h1] at h h01
  simp only at h h01
  rcases h01 with rfl | rfl
  · rw [if_pos (by decide)] at h
    cases h
    exact sync_no h1
  · rw [if_neg (by decide)] at h
    cases h
    exact sync_ok hd h1

set_option maxRecDepth 100000 in
theorem crash_t {p : Nat} {d : DiskD} {keep torn : Int} {k : Nat} (hd : d.fit) (hk : keepD d keep = k) : Does Try.prog 14 #[.pointer (some ⟨p, 0, none⟩), .int .i64 keep, .int .i64 torn] [DiskT p d] (fun (_ : Unit) => .int .i64 (k : Int)) (fun (_ : Unit) => [DiskT p (crashD d keep torn)]) := by
  refine d_ins (args := [.pointer (some ⟨p, 0, none⟩), .int .i64 keep, .int .i64 torn]) 53 Try.func14 rfl rfl rfl ?_; intro w rs
  refine d_open 0 rfl disk_open (fun _ => rfl) ?_; rintro x
  refine WC2.fact 3 rfl filesT_nodup ?_; rintro hsn
  have hWl := ops_len x
  have hw := hd.2
  have hkW : k ≤ x.W.length := by rw [hWl, ← hk]; exact keepD_le d keep
  have hmod : keep % ((x.W.length : Int) + 1) = (k : Int) := by rw [← hk, hWl]; unfold keepD; have := Int.emod_nonneg keep (show ((d.wait.length : Int) + 1) ≠ 0 by omega); omega
  have hoT : opsO (x.W.take k) = d.wait.take k := by rw [← x.hW]; unfold opsO; rw [List.map_take]
  have hok : okOs d.syn (opsO (x.W.take k)) := by rw [hoT]; exact okOs_take k x.hok
  have hsz0 := size_take d.wait k
  have hfs := hd.1
  have hsz : usedF d.syn + ((opsO (x.W.take k)).map OpD.size).sum ≤ 1099511627776 := by rw [hoT]; omega
  have hu1 : usedF ((d.wait.take k).foldl doneF d.syn) ≤ 1099511627776 := Nat.le_trans (used_all_le _ hsn (okOs_take k x.hok)) (by omega)
  refine d_reg ?_
  refine h_q hflK rfl ?_
  refine h_done (d_reg ?_)
  refine h_q hflK rfl ?_
  refine h_val rfl (.pointer (some ⟨p, 0, none⟩)) (fun b w hb hH => by exact exec_nilCheck rfl rfl hb) ?_
  refine h_q hflK rfl ?_
  refine h_val rfl (x.pv) (fun b w hb hH => exec_load rfl rfl (reads_one ty_s_disk_operation rfl) (hH.row 0 rfl) hb) ?_
  refine h_val rfl (.int .i64 (x.W.length : Int)) (fun b w hb hH => e_vlen 1 Try.underlying51 rfl rfl rfl hH hb) ?_
  refine h_val rfl (.int .i64 ((x.W.length : Int) + 1)) (fun b w hb hH => exec_ar rfl rfl rfl rfl (IntWalk.i64_in _ (by omega)) hb) ?_
  refine h_act (post := fun _ => [cell p 53 #[.int .i64 d.room, .int .i64 (fzI d.fuse), .bool d.down, x.pv, x.sm, x.sh], Vec 68 5 encO x.pv x.W, OpsE x.W, FilesT x.sm d.syn, ShT d.down x.sh x.g]) rfl (a_call (ent_of Try.func28 (by kernel_rfl) rfl) (fun w hH => modulo_any w keep ((x.W.length : Int) + 1) (k : Int) (by omega) (by omega) hmod) rfl rfl rfl) ?_; rintro ⟨⟩
  refine h_q hflK rfl ?_
  refine h_done (d_reg ?_)
  refine h_q hflK rfl ?_
  refine h_val rfl (.pointer (some ⟨p, 0, none⟩)) (fun b w hb hH => by exact exec_nilCheck rfl rfl hb) ?_
  refine h_q hflK rfl ?_
  refine h_val rfl (x.pv) (fun b w hb hH => exec_load rfl rfl (reads_one ty_s_disk_operation rfl) (hH.row 0 rfl) hb) ?_
  refine h_q hflK rfl ?_
  refine h_val rfl (subv 5 x.pv k x.W.length) (fun b w hb hH => e_vsub_lo 1 (a := k) sl_disk_operation rfl hkW rfl rfl rfl hH hb) ?_
  refine h_q hflK rfl ?_
  refine h_done (d_reg ?_)
  refine h_q hflK rfl ?_
  refine h_act (post := fun _ => [cell p 53 #[.int .i64 d.room, .int .i64 (fzI d.fuse), .bool d.down, .slice none 0 0, x.sm, x.sh], Vec 68 5 encO x.pv x.W, OpsE x.W, FilesT x.sm ((d.wait.take k).foldl doneF d.syn), ShT d.down x.sh x.g]) rfl (a_does (os' := fun _ => [cell p 53 #[.int .i64 d.room, .int .i64 (fzI d.fuse), .bool d.down, .slice none 0 0, x.sm, x.sh], Vec 68 5 encO x.pv x.W, OpsE x.W, FilesT x.sm ((d.wait.take k).foldl doneF d.syn), ShT d.down x.sh x.g]) [0, 1, 2, 3] 0 (ent_of Try.func27 (by kernel_rfl) rfl) (settle_t (k := k) (K := x.W.take k) hkW (by omega) rfl hok hsz (congrArg (List.foldl doneF d.syn) hoT)) rfl rfl rfl (fun _ => rfl) rfl rfl rfl) ?_; rintro ⟨⟩
  refine h_done (d_seq ?_)
  rcases Nat.lt_or_ge k x.W.length with hc | hc
  · skip
    obtain ⟨a, ha⟩ : ∃ a, x.W[k]? = some a := ⟨_, List.getElem?_eq_getElem hc⟩
    have ha0 : (x.W.drop k)[0]? = some a := by rw [List.getElem?_drop, Nat.add_zero]; exact ha
    have haW : a ∈ x.W := List.mem_of_getElem? ha
    have hao : d.wait[k]? = some a.o := by rw [← x.hW]; unfold opsO; rw [List.getElem?_map, ha]; rfl
    have hsa : usedF ((d.wait.take k).foldl doneF d.syn) + a.o.size ≤ 1099511627776 := settle_sizes hsn x.hok hao hfs
    have hlf : tornF ((d.wait.take k).foldl doneF d.syn) a.o torn = leftF d keep torn := by rw [leftF_torn, hk, hao]
    have hul : usedF (leftF d keep torn) ≤ 1099511627776 := by rw [← hlf]; exact Nat.le_trans (torn_le (nodup_all _ hsn)) hsa
    refine d_reg ?_
    refine h_q hflK rfl ?_
    refine h_val rfl (.int .i64 ((x.W.drop k).length : Int)) (fun b w hb hH => e_slen (hH.vecq 1 rfl okO hkW (Nat.le_refl _) (m := x.W.drop k) (by simp)) Try.underlying51 rfl rfl hb) ?_
    refine h_val rfl (.bool true) (fun b w hb hH => exec_cmp rfl rfl rfl (cmp_gtr_t (by rw [List.length_drop]; omega)) hb) ?_
    refine h_done (d_then rfl ?_)
    refine d_parS 9 1 [⟨.quiet, [none], fun _ => .pointer (some ⟨p, 0, none⟩), []⟩, ⟨.quiet, [none], fun _ => .pointer (some ⟨p, 0, none⟩), [0]⟩, ⟨.quiet, [none], fun _ => .pointer (some ⟨p, 4, none⟩), [1]⟩, ⟨.quiet, [none], fun _ => x.sm, [2]⟩, ⟨.quiet, [none], fun _ => subv 5 x.pv k x.W.length, []⟩, ⟨.quiet, [none], fun _ => elp (subv 5 x.pv k x.W.length) (0 * 5), [4]⟩, ⟨.quiet, [none], fun _ => .agg (encO a).toArray, [5]⟩, ⟨.quiet, [none], fun _ => .int .i64 torn, []⟩, ⟨.actv 0, [some false], fun _ => .tuple #[], [3, 6, 7]⟩] [(0, .pointer (some ⟨p, 0, none⟩)), (2, .int .i64 torn), (6, .int .i64 0), (7, .int .i64 (k : Int)), (8, subv 5 x.pv k x.W.length)] (fun ρ => match ρ with | [r0] => [cell p 53 #[.int .i64 d.room, .int .i64 (fzI d.fuse), .bool d.down, .slice none 0 0, x.sm, x.sh], Vec 68 5 encO x.pv x.W, OpsE x.W, selS r0 (fun _ => FilesT x.sm (leftF d keep torn)) (FilesT x.sm ((d.wait.take k).foldl doneF d.syn)), ShT d.down x.sh x.g] | _ => []) (by kernel_rfl) (by kernel_rfl) ⟨rfl, rfl, rfl, rfl, rfl, trivial⟩ rfl ?_ ?_
    · skip
      refine s_cons (by intro r0_; exact ⟨rfl, fun b w hH hb => exec_q1 hflK rfl hb⟩) ?_
      refine s_cons (by intro r0_; exact ⟨rfl, fun b w hH hb => by exact exec_nilCheck rfl rfl hb⟩) ?_
      refine s_cons (by intro r0_; exact ⟨rfl, fun b w hH hb => exec_q1 hflK rfl hb⟩) ?_
      refine s_cons (by intro r0_; exact ⟨rfl, fun b w hH hb => exec_load rfl rfl (reads_one ty_disk_files rfl) (hH.row 0 rfl) hb⟩) ?_
      refine s_cons (by intro r0_; exact ⟨rfl, fun b w hH hb => exec_q1 hflK rfl hb⟩) ?_
      refine s_cons (by intro r0_; exact ⟨rfl, fun b w hH hb => e_sidx okO (hH.vecq 1 rfl okO hkW (Nat.le_refl _) (m := x.W.drop k) (by simp)) sl_disk_operation (j := 0) ha0 rfl rfl rfl hb⟩) ?_
      refine s_cons (by intro r0_; exact ⟨rfl, fun b w hH hb => e_sagg okO (by decide) (hH.vecq 1 rfl okO hkW (Nat.le_refl _) (m := x.W.drop k) (by simp)) (j := 0) ha0 ty_disk_operation rfl rfl hb⟩) ?_
      refine s_cons (by intro r0_; exact ⟨rfl, fun b w hH hb => exec_q1 hflK rfl hb⟩) ?_
      refine s_cons (by exact ⟨rfl, Acts.su (a_does (os' := fun _ => [cell p 53 #[.int .i64 d.room, .int .i64 (fzI d.fuse), .bool d.down, .slice none 0 0, x.sm, x.sh], Vec 68 5 encO x.pv x.W, OpsE x.W, FilesT x.sm (leftF d keep torn), ShT d.down x.sh x.g]) [3, 2] 0 (ent_of Try.func29 (by kernel_rfl) rfl) (tear_any (rd8_ops haW) hsa hlf) rfl rfl rfl (fun _ => rfl) rfl rfl rfl) rfl⟩) ?_
      exact s_nil
    intro v0_
    refine WL2.keep (env' := [(0, .pointer (some ⟨p, 0, none⟩)), (6, .int .i64 0), (7, .int .i64 (k : Int))]) ⟨rfl, rfl, rfl, trivial⟩ ?_
    refine h_nil (f_to (d_reg ?_))
    refine h_q hflK rfl ?_
    refine h_val rfl (.pointer (some ⟨p, 0, none⟩)) (fun b w hb hH => by exact exec_nilCheck rfl rfl hb) ?_
    refine h_q hflK rfl ?_
    refine h_val rfl (x.sm) (fun b w hb hH => exec_load rfl rfl (reads_one ty_disk_files rfl) (hH.row 0 rfl) hb) ?_
    refine h_act (post := fun (y : { q : Nat × FS // q.2.Perm (leftF d keep torn) }) => [FilesT (.map (some y.1.1)) y.1.2, cell p 53 #[.int .i64 d.room, .int .i64 (fzI d.fuse), .bool d.down, .slice none 0 0, x.sm, x.sh], Vec 68 5 encO x.pv x.W, OpsE x.W, FilesT x.sm (leftF d keep torn), ShT d.down x.sh x.g]) rfl (a_does (os' := fun (y : { q : Nat × FS // q.2.Perm (leftF d keep torn) }) => [FilesT (.map (some y.1.1)) y.1.2, cell p 53 #[.int .i64 d.room, .int .i64 (fzI d.fuse), .bool d.down, .slice none 0 0, x.sm, x.sh], Vec 68 5 encO x.pv x.W, OpsE x.W, FilesT x.sm (leftF d keep torn), ShT d.down x.sh x.g]) [3] 0 (ent_of Try.func30 (by kernel_rfl) rfl) (copied_t hul) rfl rfl rfl (fun _ => rfl) rfl rfl rfl) ?_; rintro y
    refine h_val rfl (.pointer (some ⟨p, 0, none⟩)) (fun b w hb hH => by exact exec_nilCheck rfl rfl hb) ?_
    refine h_q hflK rfl ?_
    refine h_acts (post := fun _ => [FilesT (.map (some y.1.1)) y.1.2, cell p 53 #[.int .i64 d.room, .int .i64 (fzI d.fuse), .bool d.down, .slice none 0 0, x.sm, .map (some y.1.1)], Vec 68 5 encO x.pv x.W, OpsE x.W, FilesT x.sm (leftF d keep torn), ShT d.down x.sh x.g]) rfl rfl (a_store 1 (v := .map (some y.1.1)) #[.int .i64 d.room, .int .i64 (fzI d.fuse), .bool d.down, .slice none 0 0, x.sm, .map (some y.1.1)] ty_disk_files.2 rfl rfl rfl rfl rfl rfl rfl rfl rfl) ?_; rintro ⟨⟩
    refine h_done (d_reg ?_)
    refine h_q hflK rfl ?_
    refine h_val rfl (.pointer (some ⟨p, 0, none⟩)) (fun b w hb hH => by exact exec_nilCheck rfl rfl hb) ?_
    refine h_q hflK rfl ?_
    refine h_acts (post := fun _ => [FilesT (.map (some y.1.1)) y.1.2, cell p 53 #[.int .i64 d.room, .int .i64 (-1), .bool d.down, .slice none 0 0, x.sm, .map (some y.1.1)], Vec 68 5 encO x.pv x.W, OpsE x.W, FilesT x.sm (leftF d keep torn), ShT d.down x.sh x.g]) rfl rfl (a_store 1 (v := .int .i64 (-1)) #[.int .i64 d.room, .int .i64 (-1), .bool d.down, .slice none 0 0, x.sm, .map (some y.1.1)] ty_int.2 rfl rfl rfl rfl rfl rfl rfl rfl rfl) ?_; rintro ⟨⟩
    refine h_val rfl (.pointer (some ⟨p, 0, none⟩)) (fun b w hb hH => by exact exec_nilCheck rfl rfl hb) ?_
    refine h_q hflK rfl ?_
    refine h_acts (post := fun _ => [FilesT (.map (some y.1.1)) y.1.2, cell p 53 #[.int .i64 d.room, .int .i64 (-1), .bool false, .slice none 0 0, x.sm, .map (some y.1.1)], Vec 68 5 encO x.pv x.W, OpsE x.W, FilesT x.sm (leftF d keep torn), ShT d.down x.sh x.g]) rfl rfl (a_store 1 (v := .bool false) #[.int .i64 d.room, .int .i64 (-1), .bool false, .slice none 0 0, x.sm, .map (some y.1.1)] ty_bool.2 rfl rfl rfl rfl rfl rfl rfl rfl rfl) ?_; rintro ⟨⟩
    refine h_done ?_
    refine WC2.leave [2, 3, 5] rfl rfl ?_
    refine d_nilvec 68 5 encO ?_
    refine d_new (t := OpsE ([])) (each_nil) ?_
    refine d_reg ?_
    refine h_q hflK rfl ?_
    refine h_done (d_ret ?_)
    exact f_fin1 (.tmp rfl) (fun w h => tells () rfl [3, 1, 0, 4, 2] rfl h (up_close (os := []) (d := crashD d keep torn) ⟨.slice none 0 0, x.sm, .map (some y.1.1), [], y.1.2, rfl, (fun _ => y.2), okOs_nil, (fun n h => by cases h), x.hr, names_left hsn x.hk x.hok⟩ rfl)) rfl
  · skip
    have hlf : (d.wait.take k).foldl doneF d.syn = leftF d keep torn := by rw [leftF_torn, hk, List.getElem?_eq_none (by omega)]
    rw [hlf]
    have hul : usedF (leftF d keep torn) ≤ 1099511627776 := by rw [← hlf]; exact hu1
    refine d_reg ?_
    refine h_q hflK rfl ?_
    refine h_val rfl (.int .i64 ((x.W.drop k).length : Int)) (fun b w hb hH => e_slen (hH.vecq 1 rfl okO hkW (Nat.le_refl _) (m := x.W.drop k) (by simp)) Try.underlying51 rfl rfl hb) ?_
    refine h_val rfl (.bool false) (fun b w hb hH => exec_cmp rfl rfl rfl (cmp_gtr_f (by rw [List.length_drop]; omega)) hb) ?_
    refine h_done (d_else rfl (d_skip (f_to (d_reg ?_))))
    refine h_q hflK rfl ?_
    refine h_val rfl (.pointer (some ⟨p, 0, none⟩)) (fun b w hb hH => by exact exec_nilCheck rfl rfl hb) ?_
    refine h_q hflK rfl ?_
    refine h_val rfl (x.sm) (fun b w hb hH => exec_load rfl rfl (reads_one ty_disk_files rfl) (hH.row 0 rfl) hb) ?_
    refine h_act (post := fun (y : { q : Nat × FS // q.2.Perm (leftF d keep torn) }) => [FilesT (.map (some y.1.1)) y.1.2, cell p 53 #[.int .i64 d.room, .int .i64 (fzI d.fuse), .bool d.down, .slice none 0 0, x.sm, x.sh], Vec 68 5 encO x.pv x.W, OpsE x.W, FilesT x.sm (leftF d keep torn), ShT d.down x.sh x.g]) rfl (a_does (os' := fun (y : { q : Nat × FS // q.2.Perm (leftF d keep torn) }) => [FilesT (.map (some y.1.1)) y.1.2, cell p 53 #[.int .i64 d.room, .int .i64 (fzI d.fuse), .bool d.down, .slice none 0 0, x.sm, x.sh], Vec 68 5 encO x.pv x.W, OpsE x.W, FilesT x.sm (leftF d keep torn), ShT d.down x.sh x.g]) [3] 0 (ent_of Try.func30 (by kernel_rfl) rfl) (copied_t hul) rfl rfl rfl (fun _ => rfl) rfl rfl rfl) ?_; rintro y
    refine h_val rfl (.pointer (some ⟨p, 0, none⟩)) (fun b w hb hH => by exact exec_nilCheck rfl rfl hb) ?_
    refine h_q hflK rfl ?_
    refine h_acts (post := fun _ => [FilesT (.map (some y.1.1)) y.1.2, cell p 53 #[.int .i64 d.room, .int .i64 (fzI d.fuse), .bool d.down, .slice none 0 0, x.sm, .map (some y.1.1)], Vec 68 5 encO x.pv x.W, OpsE x.W, FilesT x.sm (leftF d keep torn), ShT d.down x.sh x.g]) rfl rfl (a_store 1 (v := .map (some y.1.1)) #[.int .i64 d.room, .int .i64 (fzI d.fuse), .bool d.down, .slice none 0 0, x.sm, .map (some y.1.1)] ty_disk_files.2 rfl rfl rfl rfl rfl rfl rfl rfl rfl) ?_; rintro ⟨⟩
    refine h_done (d_reg ?_)
    refine h_q hflK rfl ?_
    refine h_val rfl (.pointer (some ⟨p, 0, none⟩)) (fun b w hb hH => by exact exec_nilCheck rfl rfl hb) ?_
    refine h_q hflK rfl ?_
    refine h_acts (post := fun _ => [FilesT (.map (some y.1.1)) y.1.2, cell p 53 #[.int .i64 d.room, .int .i64 (-1), .bool d.down, .slice none 0 0, x.sm, .map (some y.1.1)], Vec 68 5 encO x.pv x.W, OpsE x.W, FilesT x.sm (leftF d keep torn), ShT d.down x.sh x.g]) rfl rfl (a_store 1 (v := .int .i64 (-1)) #[.int .i64 d.room, .int .i64 (-1), .bool d.down, .slice none 0 0, x.sm, .map (some y.1.1)] ty_int.2 rfl rfl rfl rfl rfl rfl rfl rfl rfl) ?_; rintro ⟨⟩
    refine h_val rfl (.pointer (some ⟨p, 0, none⟩)) (fun b w hb hH => by exact exec_nilCheck rfl rfl hb) ?_
    refine h_q hflK rfl ?_
    refine h_acts (post := fun _ => [FilesT (.map (some y.1.1)) y.1.2, cell p 53 #[.int .i64 d.room, .int .i64 (-1), .bool false, .slice none 0 0, x.sm, .map (some y.1.1)], Vec 68 5 encO x.pv x.W, OpsE x.W, FilesT x.sm (leftF d keep torn), ShT d.down x.sh x.g]) rfl rfl (a_store 1 (v := .bool false) #[.int .i64 d.room, .int .i64 (-1), .bool false, .slice none 0 0, x.sm, .map (some y.1.1)] ty_bool.2 rfl rfl rfl rfl rfl rfl rfl rfl rfl) ?_; rintro ⟨⟩
    refine h_done ?_
    refine WC2.leave [2, 3, 5] rfl rfl ?_
    refine d_nilvec 68 5 encO ?_
    refine d_new (t := OpsE ([])) (each_nil) ?_
    refine d_reg ?_
    refine h_q hflK rfl ?_
    refine h_done (d_ret ?_)
    exact f_fin1 (.tmp rfl) (fun w h => tells () rfl [3, 1, 0, 4, 2] rfl h (up_close (os := []) (d := crashD d keep torn) ⟨.slice none 0 0, x.sm, .map (some y.1.1), [], y.1.2, rfl, (fun _ => y.2), okOs_nil, (fun n h => by cases h), x.hr, names_left hsn x.hk x.hok⟩ rfl)) rfl

theorem disk_crash {p : Nat} {d d' : DiskD} {keep torn : Int} {k : Nat} (hd : d.fit) (h1 : -9223372036854775808 ≤ keep ∧ keep ≤ 9223372036854775807) (h2 : -9223372036854775808 ≤ torn ∧ torn ≤ 9223372036854775807) (hk : keepD d keep = k) (h : crashD d keep torn = d') : Does Try.prog 14 #[.pointer (some ⟨p, 0, none⟩), .int .i64 keep, .int .i64 torn] [DiskT p d] (fun _ : Unit => .int .i64 (k : Int)) (fun _ => [DiskT p d']) := by
  subst h
  exact crash_t hd hk
end Go.Proofs.Ytjcfimmcogkopaa.Sep
