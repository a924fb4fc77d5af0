/-
  DskH · DskI
-/
import Derived.Test.YtjcfimmcogkopaaAD01
set_option linter.unusedSimpArgs false
set_option linter.unusedVariables false

namespace Go.Proofs.Ytjcfimmcogkopaa.Sep
open Go.RowKit
open Go.Proofs.Ytjcfimmcogkopaa.Mem (Dist Blk Chg below0)

set_option maxRecDepth 100000 in
theorem disk_new (room : Int) (h : 0 ≤ room ∧ room ≤ 1048576) : Does Try.prog 5 #[.int .i64 room] [] (fun (p : Nat) => .tuple #[.pointer (some ⟨p, 0, none⟩), .int .i64 0]) (fun (p : Nat) => [DiskT p (newD room)]) := by
  have h_ := h
  refine d_ins (args := [.int .i64 room]) 12 Try.func5 rfl rfl rfl ?_; intro w rs
  refine d_reg ?_
  refine h_q hflK rfl ?_
  refine h_done (d_seq (d_reg ?_))
  refine h_q hflK rfl ?_
  refine h_act (post := fun _ => []) rfl (a_call (ent_of Try.func16 (by kernel_rfl) rfl) (fun w hH => roomMay_ok w room h) rfl rfl rfl) ?_; rintro ⟨⟩
  refine h_q hflK rfl ?_
  refine h_done (d_else rfl (d_skip (f_to ?_)))
  refine d_nilvec 68 5 encO ?_
  refine d_new (t := OpsE ([])) (each_nil) ?_
  refine d_new (t := FilE ([])) (each_nil) ?_
  refine d_new (t := FilE ([])) (each_nil) ?_
  refine d_reg ?_
  refine h_q hflK rfl ?_
  refine h_act (post := fun ga => [MapT encKey encFil (.map (some ga)) ([]), FilE ([]), FilE ([]), OpsE ([]), Vec 68 5 encO (.slice none 0 0) ([])]) rfl (a_mmake (kk := encKey) (vv := encFil) rfl rfl) ?_; rintro ga
  refine h_act (post := fun gb => [MapT encKey encFil (.map (some gb)) ([]), MapT encKey encFil (.map (some ga)) ([]), FilE ([]), FilE ([]), OpsE ([]), Vec 68 5 encO (.slice none 0 0) ([])]) rfl (a_mmake (kk := encKey) (vv := encFil) rfl rfl) ?_; rintro gb
  refine h_val rfl (.agg #[.int .i64 room, .int .i64 (-1), .bool false, .slice none 0 0, .map (some ga), .map (some gb)]) (fun b w hb hH => exec_build rfl rfl (by kernel_rfl) hb) ?_
  refine h_act (post := fun p => [cell p 53 #[.int .i64 room, .int .i64 (-1), .bool false, .slice none 0 0, .map (some ga), .map (some gb)], MapT encKey encFil (.map (some gb)) ([]), MapT encKey encFil (.map (some ga)) ([]), FilE ([]), FilE ([]), OpsE ([]), Vec 68 5 encO (.slice none 0 0) ([])]) rfl (a_box (cs := #[.int .i64 room, .int .i64 (-1), .bool false, .slice none 0 0, .map (some ga), .map (some gb)]) rfl rfl rfl) ?_; rintro p
  refine h_q hflK rfl ?_
  refine h_done (d_ret ?_)
  exact f_fin2 (.tmp rfl) (.tmp rfl) (fun w h => tells p rfl [0, 6, 5, 2, 4, 1, 3] rfl h (new_tell h_)) rfl

set_option maxRecDepth 100000 in
theorem rdk_dn {p : Nat} {d : DiskD} {n y : List UInt8}  (hd : d.down = true) : Does Try.prog 18 #[.pointer (some ⟨p, 0, none⟩), .string (bs n)] [DiskT p d] (fun (v : Value) => .tuple #[v, .bool false]) (fun (v : Value) => [DiskT p d, Vec 5 1 encB v ([])]) := by
  refine d_ins (args := [.pointer (some ⟨p, 0, none⟩), .string (bs n)]) 19 Try.func18 rfl rfl rfl ?_; intro w rs
  refine d_open 0 rfl (disk_dn hd) (fun _ => rfl) ?_; rintro x
  refine d_nilvec 5 1 encB ?_
  refine d_reg ?_
  refine h_q hflK rfl ?_
  refine h_done (d_seq ?_)
  refine d_emps 1 rfl ?_
  refine d_parS 13 2 [⟨.quiet, [none, none], fun _ => .pointer (some ⟨p, 0, none⟩), []⟩, ⟨.quiet, [none, none], fun _ => .pointer (some ⟨p, 0, none⟩), [0]⟩, ⟨.quiet, [none, none], fun _ => .pointer (some ⟨p, 5, none⟩), [1]⟩, ⟨.quiet, [none, none], fun _ => .map none, [2]⟩, ⟨.quiet, [none, none], fun _ => .string (bs n), []⟩, ⟨.quiet, [none, none], fun _ => .slice none 0 0, [3, 4]⟩, ⟨.act 0, [some false, some false], fun _ => undef, [5]⟩, ⟨.quiet, [none, none], fun _ => .pointer (some ⟨p, 0, none⟩), []⟩, ⟨.quiet, [none, none], fun _ => .pointer (some ⟨p, 0, none⟩), [7]⟩, ⟨.quiet, [none, none], fun _ => .pointer (some ⟨p, 5, none⟩), [8]⟩, ⟨.quiet, [none, none], fun _ => .map none, [9]⟩, ⟨.quiet, [none, none], fun _ => .string (bs n), []⟩, ⟨.actv 1, [some true, some false], fun _ => .bool false, [10, 11]⟩] [(0, .pointer (some ⟨p, 0, none⟩)), (1, .string (bs n)), (4, .slice none 0 0), (5, .bool false)] (fun ρ => match ρ with | [r0, r1] => [selS r0 (fun v9 => Vec 5 1 encB v9 ([])) (emp), Vec 5 1 encB (.slice none 0 0) ([]), cell p 53 #[.int .i64 d.room, .int .i64 (fzI d.fuse), .bool true, x.pv, x.sm, .map none], Vec 68 5 encO x.pv x.W, OpsE x.W, FilesT x.sm d.syn] | _ => []) (by kernel_rfl) (by kernel_rfl) ⟨rfl, rfl, rfl, rfl, trivial⟩ rfl ?_ ?_
  · skip
    refine s_cons (by intro r0_ r1_; exact ⟨rfl, fun b w hH hb => exec_q1 hflK rfl hb⟩) ?_
    refine s_cons (by intro r0_ r1_; exact ⟨rfl, fun b w hH hb => by exact exec_nilCheck rfl rfl hb⟩) ?_
    refine s_cons (by intro r0_ r1_; exact ⟨rfl, fun b w hH hb => exec_q1 hflK rfl hb⟩) ?_
    refine s_cons (by intro r0_ r1_; exact ⟨rfl, fun b w hH hb => exec_load rfl rfl (reads_one ty_disk_files rfl) (hH.row 2 rfl) hb⟩) ?_
    refine s_cons (by intro r0_ r1_; exact ⟨rfl, fun b w hH hb => exec_q1 hflK rfl hb⟩) ?_
    refine s_cons (by intro r0_ r1_; exact ⟨rfl, fun b w hH hb => e_mget0 mapTyF rfl (k := n) rfl rfl hb⟩) ?_
    refine s_cons (by exact ⟨rfl, Acts.s (a_does (os' := fun v9 => [Vec 5 1 encB v9 ([]), Vec 5 1 encB (.slice none 0 0) ([]), cell p 53 #[.int .i64 d.room, .int .i64 (fzI d.fuse), .bool true, x.pv, x.sm, .map none], Vec 68 5 encO x.pv x.W, OpsE x.W, FilesT x.sm d.syn]) [1, 0] 1 (ent_of Try.func32 (by kernel_rfl) rfl) (clone8 rd8_vec (by decide)) rfl rfl rfl (fun _ => rfl) rfl rfl rfl) (fun _ => rfl)⟩) ?_
    refine s_cons (by intro r0_ r1_; exact ⟨rfl, fun b w hH hb => exec_q1 hflK rfl hb⟩) ?_
    refine s_cons (by intro r0_ r1_; exact ⟨rfl, fun b w hH hb => by exact exec_nilCheck rfl rfl hb⟩) ?_
    refine s_cons (by intro r0_ r1_; exact ⟨rfl, fun b w hH hb => exec_q1 hflK rfl hb⟩) ?_
    refine s_cons (by intro r0_ r1_; exact ⟨rfl, fun b w hH hb => exec_load rfl rfl (reads_one ty_disk_files rfl) (hH.row 2 rfl) hb⟩) ?_
    refine s_cons (by intro r0_ r1_; exact ⟨rfl, fun b w hH hb => exec_q1 hflK rfl hb⟩) ?_
    refine s_cons (by intro v9; exact ⟨rfl, Acts.su (a_does (os' := fun _ => [Vec 5 1 encB v9 ([]), Vec 5 1 encB (.slice none 0 0) ([]), cell p 53 #[.int .i64 d.room, .int .i64 (fzI d.fuse), .bool true, x.pv, x.sm, .map none], Vec 68 5 encO x.pv x.W, OpsE x.W, FilesT x.sm d.syn]) [] 0 (ent_of Try.func33 (by kernel_rfl) rfl) (has_nil n) rfl rfl rfl (fun _ => rfl) rfl rfl rfl) rfl⟩) ?_
    exact s_nil
  intro v9 v1_
  refine WL2.keep (env' := [(4, .slice none 0 0), (5, .bool false), (12, v9), (18, .bool false)]) ⟨rfl, rfl, rfl, rfl, trivial⟩ ?_
  refine h_q hflK rfl ?_
  refine h_nil (f_to (d_ret ?_))
  exact f_fin2 (.tmp rfl) (.tmp rfl) (fun w h => tells v9 rfl [2, 3, 4, 5, 0] rfl h (dn_close ⟨x.pv, x.sm, .map none, x.W, [], x.hW, (fun h => by rw [hd] at h; cases h), x.hok, x.hf, x.hr, x.hk⟩ hd rfl)) rfl

set_option maxRecDepth 100000 in
theorem rdk_none {p : Nat} {d : DiskD} {n y : List UInt8}  (hd : d.down = false) (hg : getM d.now n = none) : Does Try.prog 18 #[.pointer (some ⟨p, 0, none⟩), .string (bs n)] [DiskT p d] (fun (v : Value) => .tuple #[v, .bool false]) (fun (v : Value) => [DiskT p d, Vec 5 1 encB v ([])]) := by
  refine d_ins (args := [.pointer (some ⟨p, 0, none⟩), .string (bs n)]) 19 Try.func18 rfl rfl rfl ?_; intro w rs
  refine d_open 0 rfl (disk_upL hd) (fun _ => rfl) ?_; rintro y
  refine WC2.fact 3 rfl filesT_nodup ?_; rintro hsn
  refine WC2.fact 4 rfl filE_nodup_map ?_; rintro hgn
  have hgL : getM y.L n = none := by rw [getM_L y.hg hgn] at hg; simpa using hg
  refine d_nilvec 5 1 encB ?_
  refine d_reg ?_
  refine h_q hflK rfl ?_
  refine h_done (d_seq ?_)
  refine d_emps 1 rfl ?_
  refine d_parS 13 2 [⟨.quiet, [none, none], fun _ => .pointer (some ⟨p, 0, none⟩), []⟩, ⟨.quiet, [none, none], fun _ => .pointer (some ⟨p, 0, none⟩), [0]⟩, ⟨.quiet, [none, none], fun _ => .pointer (some ⟨p, 5, none⟩), [1]⟩, ⟨.quiet, [none, none], fun _ => y.sh, [2]⟩, ⟨.quiet, [none, none], fun _ => .string (bs n), []⟩, ⟨.quiet, [none, none], fun _ => .slice none 0 0, [3, 4]⟩, ⟨.act 0, [some false, some false], fun _ => undef, [5]⟩, ⟨.quiet, [none, none], fun _ => .pointer (some ⟨p, 0, none⟩), []⟩, ⟨.quiet, [none, none], fun _ => .pointer (some ⟨p, 0, none⟩), [7]⟩, ⟨.quiet, [none, none], fun _ => .pointer (some ⟨p, 5, none⟩), [8]⟩, ⟨.quiet, [none, none], fun _ => y.sh, [9]⟩, ⟨.quiet, [none, none], fun _ => .string (bs n), []⟩, ⟨.actv 1, [some true, some false], fun _ => .bool false, [10, 11]⟩] [(0, .pointer (some ⟨p, 0, none⟩)), (1, .string (bs n)), (4, .slice none 0 0), (5, .bool false)] (fun ρ => match ρ with | [r0, r1] => [selS r0 (fun v9 => Vec 5 1 encB v9 ([])) (emp), Vec 5 1 encB (.slice none 0 0) ([]), cell p 53 #[.int .i64 d.room, .int .i64 (fzI d.fuse), .bool false, y.pv, y.sm, y.sh], Vec 68 5 encO y.pv y.W, OpsE y.W, FilesT y.sm d.syn, MapT encKey encFil y.sh y.L, FilE y.L] | _ => []) (by kernel_rfl) (by kernel_rfl) ⟨rfl, rfl, rfl, rfl, trivial⟩ rfl ?_ ?_
  · skip
    refine s_cons (by intro r0_ r1_; exact ⟨rfl, fun b w hH hb => exec_q1 hflK rfl hb⟩) ?_
    refine s_cons (by intro r0_ r1_; exact ⟨rfl, fun b w hH hb => by exact exec_nilCheck rfl rfl hb⟩) ?_
    refine s_cons (by intro r0_ r1_; exact ⟨rfl, fun b w hH hb => exec_q1 hflK rfl hb⟩) ?_
    refine s_cons (by intro r0_ r1_; exact ⟨rfl, fun b w hH hb => exec_load rfl rfl (reads_one ty_disk_files rfl) (hH.row 2 rfl) hb⟩) ?_
    refine s_cons (by intro r0_ r1_; exact ⟨rfl, fun b w hH hb => exec_q1 hflK rfl hb⟩) ?_
    refine s_cons (by intro r0_ r1_; exact ⟨rfl, fun b w hH hb => e_mget 6 mapTyF rfl (k := n) (r := none) hgL rfl rfl rfl hH hb⟩) ?_
    refine s_cons (by exact ⟨rfl, Acts.s (a_does (os' := fun v9 => [Vec 5 1 encB v9 ([]), Vec 5 1 encB (.slice none 0 0) ([]), cell p 53 #[.int .i64 d.room, .int .i64 (fzI d.fuse), .bool false, y.pv, y.sm, y.sh], Vec 68 5 encO y.pv y.W, OpsE y.W, FilesT y.sm d.syn, MapT encKey encFil y.sh y.L, FilE y.L]) [1, 0] 1 (ent_of Try.func32 (by kernel_rfl) rfl) (clone8 rd8_vec (by decide)) rfl rfl rfl (fun _ => rfl) rfl rfl rfl) (fun _ => rfl)⟩) ?_
    refine s_cons (by intro r0_ r1_; exact ⟨rfl, fun b w hH hb => exec_q1 hflK rfl hb⟩) ?_
    refine s_cons (by intro r0_ r1_; exact ⟨rfl, fun b w hH hb => by exact exec_nilCheck rfl rfl hb⟩) ?_
    refine s_cons (by intro r0_ r1_; exact ⟨rfl, fun b w hH hb => exec_q1 hflK rfl hb⟩) ?_
    refine s_cons (by intro r0_ r1_; exact ⟨rfl, fun b w hH hb => exec_load rfl rfl (reads_one ty_disk_files rfl) (hH.row 2 rfl) hb⟩) ?_
    refine s_cons (by intro r0_ r1_; exact ⟨rfl, fun b w hH hb => exec_q1 hflK rfl hb⟩) ?_
    refine s_cons (by intro v9; exact ⟨rfl, Acts.su (a_does (os' := fun _ => [Vec 5 1 encB v9 ([]), Vec 5 1 encB (.slice none 0 0) ([]), cell p 53 #[.int .i64 d.room, .int .i64 (fzI d.fuse), .bool false, y.pv, y.sm, y.sh], Vec 68 5 encO y.pv y.W, OpsE y.W, FilesT y.sm d.syn, MapT encKey encFil y.sh y.L, FilE y.L]) [6] 0 (ent_of Try.func33 (by kernel_rfl) rfl) (has_t _ _ n _ hgL) rfl rfl rfl (fun _ => rfl) rfl rfl rfl) rfl⟩) ?_
    exact s_nil
  intro v9 v1_
  refine WL2.keep (env' := [(4, .slice none 0 0), (5, .bool false), (12, v9), (18, .bool false)]) ⟨rfl, rfl, rfl, rfl, trivial⟩ ?_
  refine h_q hflK rfl ?_
  refine h_nil (f_to (d_ret ?_))
  exact f_fin2 (.tmp rfl) (.tmp rfl) (fun w h => tells v9 rfl [2, 3, 4, 5, 6, 7, 0] rfl h (upL_close y hd)) rfl

set_option maxRecDepth 100000 in
theorem rdk_some {p : Nat} {d : DiskD} {n y : List UInt8}  (hd : d.down = false) (hfit : d.fit) (hg : getM d.now n = some y) : Does Try.prog 18 #[.pointer (some ⟨p, 0, none⟩), .string (bs n)] [DiskT p d] (fun (v : Value) => .tuple #[v, .bool true]) (fun (v : Value) => [DiskT p d, Vec 5 1 encB v y]) := by
  refine d_ins (args := [.pointer (some ⟨p, 0, none⟩), .string (bs n)]) 19 Try.func18 rfl rfl rfl ?_; intro w rs
  refine d_open 0 rfl (disk_upL hd) (fun _ => rfl) ?_; rintro x
  refine WC2.fact 3 rfl filesT_nodup ?_; rintro hsn
  refine WC2.fact 4 rfl filE_nodup_map ?_; rintro hgn
  obtain ⟨r, hgL, hry⟩ : ∃ r, getM x.L n = some r ∧ r.2 = y := by rw [getM_L x.hg hgn] at hg; exact Option.map_eq_some_iff.1 hg
  subst hry
  have hm : (n, r) ∈ x.L := (getM_some (by rw [keys_fsL] at hgn; exact hgn)).1 hgL
  have hpu : usedF (fsL x.L) ≤ 1099511627776 := by rw [perm_used x.hg]; exact now_le hfit hsn x.hok
  have hrl : r.2.length ≤ usedF (fsL x.L) := used_get hgn (by rw [getM_fsL, hgL]; rfl)
  refine d_reg ?_
  refine h_q hflK rfl ?_
  refine h_done (d_seq ?_)
  refine d_emps 1 rfl ?_
  refine d_parS 13 2 [⟨.quiet, [none, none], fun _ => .pointer (some ⟨p, 0, none⟩), []⟩, ⟨.quiet, [none, none], fun _ => .pointer (some ⟨p, 0, none⟩), [0]⟩, ⟨.quiet, [none, none], fun _ => .pointer (some ⟨p, 5, none⟩), [1]⟩, ⟨.quiet, [none, none], fun _ => x.sh, [2]⟩, ⟨.quiet, [none, none], fun _ => .string (bs n), []⟩, ⟨.quiet, [none, none], fun _ => r.1, [3, 4]⟩, ⟨.act 0, [some false, some false], fun _ => undef, [5]⟩, ⟨.quiet, [none, none], fun _ => .pointer (some ⟨p, 0, none⟩), []⟩, ⟨.quiet, [none, none], fun _ => .pointer (some ⟨p, 0, none⟩), [7]⟩, ⟨.quiet, [none, none], fun _ => .pointer (some ⟨p, 5, none⟩), [8]⟩, ⟨.quiet, [none, none], fun _ => x.sh, [9]⟩, ⟨.quiet, [none, none], fun _ => .string (bs n), []⟩, ⟨.actv 1, [some true, some false], fun _ => .bool true, [10, 11]⟩] [(0, .pointer (some ⟨p, 0, none⟩)), (1, .string (bs n)), (4, .slice none 0 0), (5, .bool false)] (fun ρ => match ρ with | [r0, r1] => [selS r0 (fun v9 => Vec 5 1 encB v9 r.2) (emp), cell p 53 #[.int .i64 d.room, .int .i64 (fzI d.fuse), .bool false, x.pv, x.sm, x.sh], Vec 68 5 encO x.pv x.W, OpsE x.W, FilesT x.sm d.syn, MapT encKey encFil x.sh x.L, FilE x.L] | _ => []) (by kernel_rfl) (by kernel_rfl) ⟨rfl, rfl, rfl, rfl, trivial⟩ rfl ?_ ?_
  · skip
    refine s_cons (by intro r0_ r1_; exact ⟨rfl, fun b w hH hb => exec_q1 hflK rfl hb⟩) ?_
    refine s_cons (by intro r0_ r1_; exact ⟨rfl, fun b w hH hb => by exact exec_nilCheck rfl rfl hb⟩) ?_
    refine s_cons (by intro r0_ r1_; exact ⟨rfl, fun b w hH hb => exec_q1 hflK rfl hb⟩) ?_
    refine s_cons (by intro r0_ r1_; exact ⟨rfl, fun b w hH hb => exec_load rfl rfl (reads_one ty_disk_files rfl) (hH.row 1 rfl) hb⟩) ?_
    refine s_cons (by intro r0_ r1_; exact ⟨rfl, fun b w hH hb => exec_q1 hflK rfl hb⟩) ?_
    refine s_cons (by intro r0_ r1_; exact ⟨rfl, fun b w hH hb => e_mget 5 mapTyF rfl (k := n) (r := some r) hgL rfl rfl rfl hH hb⟩) ?_
    refine s_cons (by exact ⟨rfl, Acts.s (a_does (os' := fun v9 => [Vec 5 1 encB v9 r.2, cell p 53 #[.int .i64 d.room, .int .i64 (fzI d.fuse), .bool false, x.pv, x.sm, x.sh], Vec 68 5 encO x.pv x.W, OpsE x.W, FilesT x.sm d.syn, MapT encKey encFil x.sh x.L, FilE x.L]) [6, 0] 1 (ent_of Try.func32 (by kernel_rfl) rfl) (clone8 (rd8_fil hm) (by show r.2.length ≤ _; omega)) rfl rfl rfl (fun _ => rfl) rfl rfl rfl) (fun _ => rfl)⟩) ?_
    refine s_cons (by intro r0_ r1_; exact ⟨rfl, fun b w hH hb => exec_q1 hflK rfl hb⟩) ?_
    refine s_cons (by intro r0_ r1_; exact ⟨rfl, fun b w hH hb => by exact exec_nilCheck rfl rfl hb⟩) ?_
    refine s_cons (by intro r0_ r1_; exact ⟨rfl, fun b w hH hb => exec_q1 hflK rfl hb⟩) ?_
    refine s_cons (by intro r0_ r1_; exact ⟨rfl, fun b w hH hb => exec_load rfl rfl (reads_one ty_disk_files rfl) (hH.row 1 rfl) hb⟩) ?_
    refine s_cons (by intro r0_ r1_; exact ⟨rfl, fun b w hH hb => exec_q1 hflK rfl hb⟩) ?_
    refine s_cons (by intro v9; exact ⟨rfl, Acts.su (a_does (os' := fun _ => [Vec 5 1 encB v9 r.2, cell p 53 #[.int .i64 d.room, .int .i64 (fzI d.fuse), .bool false, x.pv, x.sm, x.sh], Vec 68 5 encO x.pv x.W, OpsE x.W, FilesT x.sm d.syn, MapT encKey encFil x.sh x.L, FilE x.L]) [5] 0 (ent_of Try.func33 (by kernel_rfl) rfl) (has_t _ _ n _ hgL) rfl rfl rfl (fun _ => rfl) rfl rfl rfl) rfl⟩) ?_
    exact s_nil
  intro v9 v1_
  refine WL2.keep (env' := [(4, .slice none 0 0), (5, .bool false), (12, v9), (18, .bool true)]) ⟨rfl, rfl, rfl, rfl, trivial⟩ ?_
  refine h_q hflK rfl ?_
  refine h_nil (f_to (d_ret ?_))
  exact f_fin2 (.tmp rfl) (.tmp rfl) (fun w h => tells v9 rfl [1, 2, 3, 4, 5, 6, 0] rfl h (upL_close x hd)) rfl

theorem disk_read {p : Nat} {d : DiskD} {n b : List UInt8} {ok : Bool} (hd : d.fit) (h : (readD d n).isSome = ok) (hb : (readD d n).getD [] = b) : Does Try.prog 18 #[.pointer (some ⟨p, 0, none⟩), .string (bs n)] [DiskT p d] (fun v : Value => .tuple #[v, .bool ok]) (fun v => [DiskT p d, Vec 5 1 encB v b]) := by
  subst h hb
  unfold readD
  cases hdn : d.down
  · rw [if_neg (by simp)]
    cases hg : getM d.now n with
    | none => exact rdk_none (y := []) hdn hg
    | some y => exact rdk_some hdn hd hg
  · rw [if_pos rfl]
    exact rdk_dn (y := []) hdn
end Go.Proofs.Ytjcfimmcogkopaa.Sep

namespace Go.Proofs.Ytjcfimmcogkopaa.Sep
open Go.RowKit
open Go.Proofs.Ytjcfimmcogkopaa.Mem (Dist Blk Chg below0)

set_option maxRecDepth 100000 in
theorem append_no {X : Ass} {p : Nat} {d d1 : DiskD} {n y : List UInt8} {v : Value} (h : beginD d = (d1, 3)) : Does Try.prog 20 #[.pointer (some ⟨p, 0, none⟩), .string (bs n), v] [DiskT p d, X] (fun (_ : Unit) => .int .i64 3) (fun (_ : Unit) => [DiskT p d1, X]) := by
  refine d_ins (args := [.pointer (some ⟨p, 0, none⟩), .string (bs n), v]) 48 Try.func20 rfl rfl rfl ?_; intro w rs
  refine d_reg ?_
  refine h_q hflK rfl ?_
  refine h_done (d_seq (d_reg ?_))
  refine h_q hflK rfl ?_
  refine h_act (post := fun _ => [DiskT p d1, X]) rfl (a_does (os' := fun _ => [DiskT p d1, X]) [0] 0 (ent_of Try.func26 (by kernel_rfl) rfl) (begin_no h) rfl rfl rfl (fun _ => rfl) rfl rfl rfl) ?_; rintro ⟨⟩
  refine h_q hflK rfl ?_
  refine h_done (d_then rfl (d_reg ?_))
  refine h_q hflK rfl ?_
  refine h_done (d_ret (f_then_ret ?_))
  exact f_fin1 (.tmp rfl) (fun w h => tells () rfl [0, 1] rfl h same_parts) rfl

set_option maxRecDepth 100000 in
theorem append_bad {X : Ass} {p : Nat} {d d1 : DiskD} {n y : List UInt8} {v : Value} (h : beginD d = (d1, 0)) (hn : nameB n = false) : Does Try.prog 20 #[.pointer (some ⟨p, 0, none⟩), .string (bs n), v] [DiskT p d, X] (fun (_ : Unit) => .int .i64 1) (fun (_ : Unit) => [DiskT p d1, X]) := by
  refine d_ins (args := [.pointer (some ⟨p, 0, none⟩), .string (bs n), v]) 48 Try.func20 rfl rfl rfl ?_; intro w rs
  refine d_reg ?_
  refine h_q hflK rfl ?_
  refine h_done (d_seq (d_reg ?_))
  refine h_q hflK rfl ?_
  refine h_act (post := fun _ => [DiskT p d1, X]) rfl (a_does (os' := fun _ => [DiskT p d1, X]) [0] 0 (ent_of Try.func26 (by kernel_rfl) rfl) (begin_ok h) rfl rfl rfl (fun _ => rfl) rfl rfl rfl) ?_; rintro ⟨⟩
  refine h_q hflK rfl ?_
  refine h_done (d_else rfl (d_skip (f_to (d_seq (d_reg ?_)))))
  refine h_q hflK rfl ?_
  refine h_act (post := fun _ => [DiskT p d1, X]) rfl (a_call (ent_of Try.func36 (by kernel_rfl) rfl) (fun w hH => nameMay_no w n hn) rfl rfl rfl) ?_; rintro ⟨⟩
  refine h_q hflK rfl ?_
  refine h_done (d_then rfl (d_reg ?_))
  refine h_q hflK rfl ?_
  refine h_done (d_ret (f_then_ret ?_))
  exact f_fin1 (.tmp rfl) (fun w h => tells () rfl [0, 1] rfl h same_parts) rfl

set_option maxRecDepth 100000 in
theorem append_full {X : Ass} {p : Nat} {d d1 : DiskD} {n y : List UInt8} {v : Value} (hX : Rd8 X v y) (hfit : d.fit) (h : beginD d = (d1, 0)) (hn : nameB n = true) (hy : y.length ≤ 140737488355328) (hf : fitsD d1 n y = false) : Does Try.prog 20 #[.pointer (some ⟨p, 0, none⟩), .string (bs n), v] [DiskT p d, X] (fun (_ : Unit) => .int .i64 2) (fun (_ : Unit) => [DiskT p d1, X]) := by
  have hd1 := (begin_up h).1
  have hfit1 := begin_fit h hfit
  refine d_ins (args := [.pointer (some ⟨p, 0, none⟩), .string (bs n), v]) 48 Try.func20 rfl rfl rfl ?_; intro w rs
  refine d_reg ?_
  refine h_q hflK rfl ?_
  refine h_done (d_seq (d_reg ?_))
  refine h_q hflK rfl ?_
  refine h_act (post := fun _ => [DiskT p d1, X]) rfl (a_does (os' := fun _ => [DiskT p d1, X]) [0] 0 (ent_of Try.func26 (by kernel_rfl) rfl) (begin_ok h) rfl rfl rfl (fun _ => rfl) rfl rfl rfl) ?_; rintro ⟨⟩
  refine h_q hflK rfl ?_
  refine h_done (d_else rfl (d_skip (f_to (d_seq (d_reg ?_)))))
  refine h_q hflK rfl ?_
  refine h_act (post := fun _ => [DiskT p d1, X]) rfl (a_call (ent_of Try.func36 (by kernel_rfl) rfl) (fun w hH => nameMay_ok w n hn) rfl rfl rfl) ?_; rintro ⟨⟩
  refine h_q hflK rfl ?_
  refine h_done (d_else rfl (d_skip (f_to ?_)))
  refine d_open 0 rfl (disk_upL hd1) (fun _ => rfl) ?_; rintro x
  refine WC2.fact 3 rfl filesT_nodup ?_; rintro hsn
  refine WC2.fact 4 rfl filE_nodup_map ?_; rintro hgn
  have hr := x.hr
  have hpu : usedF (fsL x.L) ≤ 1099511627776 := by rw [perm_used x.hg]; exact now_le hfit1 hsn x.hok
  rcases full_ways x.hg hgn hf with ⟨hlen, hgL⟩ | ⟨hlen, r, hgL⟩ | ⟨hlen, hgL, h64⟩
  · skip
    refine d_reg ?_
    refine h_q hflK rfl ?_
    refine h_val rfl (.pointer (some ⟨p, 0, none⟩)) (fun b w hb hH => by exact exec_nilCheck rfl rfl hb) ?_
    refine h_q hflK rfl ?_
    refine h_val rfl (x.sh) (fun b w hb hH => exec_load rfl rfl (reads_one ty_disk_files rfl) (hH.row 0 rfl) hb) ?_
    refine h_q hflK rfl ?_
    refine h_act (post := fun _ => [cell p 53 #[.int .i64 d1.room, .int .i64 (fzI d1.fuse), .bool false, x.pv, x.sm, x.sh], Vec 68 5 encO x.pv x.W, OpsE x.W, FilesT x.sm d1.syn, MapT encKey encFil x.sh x.L, FilE x.L, X]) rfl (a_does (os' := fun _ => [cell p 53 #[.int .i64 d1.room, .int .i64 (fzI d1.fuse), .bool false, x.pv, x.sm, x.sh], Vec 68 5 encO x.pv x.W, OpsE x.W, FilesT x.sm d1.syn, MapT encKey encFil x.sh x.L, FilE x.L, X]) [4] 0 (ent_of Try.func33 (by kernel_rfl) rfl) (has_t _ _ n _ hgL) rfl rfl rfl (fun _ => rfl) rfl rfl rfl) ?_; rintro ⟨⟩
    refine h_q hflK rfl ?_
    refine h_done (d_seq (d_seq ?_))
    refine d_parS 21 1 [⟨.quiet, [none], fun _ => v, []⟩, ⟨.quiet, [none], fun _ => .int .i64 (y.length : Int), [0]⟩, ⟨.quiet, [none], fun _ => .pointer (some ⟨p, 0, none⟩), []⟩, ⟨.quiet, [none], fun _ => .pointer (some ⟨p, 0, none⟩), [2]⟩, ⟨.quiet, [none], fun _ => .pointer (some ⟨p, 0, none⟩), [3]⟩, ⟨.quiet, [none], fun _ => .int .i64 d1.room, [4]⟩, ⟨.quiet, [none], fun _ => .pointer (some ⟨p, 0, none⟩), []⟩, ⟨.actv 0, [some false], fun _ => .int .i64 ((usedF (fsL x.L) : Nat) : Int), [6]⟩, ⟨.quiet, [some true], fun _ => .int .i64 (d1.room - (usedF (fsL x.L) : Int)), [5, 7]⟩, ⟨.quiet, [some true], fun _ => .bool true, [1, 8]⟩, ⟨.quiet, [some true], fun _ => .bool true, [9]⟩, ⟨.skip, [some true], fun _ => undef, [10]⟩, ⟨.skip, [some true], fun _ => undef, [11, 10]⟩, ⟨.skip, [some true], fun _ => undef, [12]⟩, ⟨.skip, [some true], fun _ => undef, [13, 12]⟩, ⟨.skip, [some true], fun _ => undef, [14, 12]⟩, ⟨.skip, [some true], fun _ => undef, [15, 12]⟩, ⟨.skip, [some true], fun _ => undef, [16, 12]⟩, ⟨.skip, [some true], fun _ => undef, [17, 12]⟩, ⟨.skip, [some true], fun _ => undef, [12, 18, 10]⟩, ⟨.quiet, [some true], fun _ => .bool true, [10, 19]⟩] [(0, .pointer (some ⟨p, 0, none⟩)), (1, .string (bs n)), (2, v), (6, .int .i64 0), (7, .bool true)] (fun ρ => match ρ with | [r0] => [cell p 53 #[.int .i64 d1.room, .int .i64 (fzI d1.fuse), .bool false, x.pv, x.sm, x.sh], Vec 68 5 encO x.pv x.W, OpsE x.W, FilesT x.sm d1.syn, MapT encKey encFil x.sh x.L, FilE x.L, X] | _ => []) (by kernel_rfl) (by kernel_rfl) ⟨rfl, rfl, rfl, rfl, rfl, trivial⟩ rfl ?_ ?_
    · skip
      refine s_cons (by intro r0_; exact ⟨rfl, fun b w hH hb => exec_q1 hflK rfl hb⟩) ?_
      refine s_cons (by intro r0_; exact ⟨rfl, fun b w hH hb => e_slen ((hH.rd8 6 rfl hX).rd) Try.underlying29 rfl rfl hb⟩) ?_
      refine s_cons (by intro r0_; exact ⟨rfl, fun b w hH hb => exec_q1 hflK rfl hb⟩) ?_
      refine s_cons (by intro r0_; exact ⟨rfl, fun b w hH hb => by exact exec_nilCheck rfl rfl hb⟩) ?_
      refine s_cons (by intro r0_; exact ⟨rfl, fun b w hH hb => exec_q1 hflK rfl hb⟩) ?_
      refine s_cons (by intro r0_; exact ⟨rfl, fun b w hH hb => exec_load rfl rfl (reads_one ty_int rfl) (hH.row 0 rfl) hb⟩) ?_
      refine s_cons (by intro r0_; exact ⟨rfl, fun b w hH hb => exec_q1 hflK rfl hb⟩) ?_
      refine s_cons (by exact ⟨rfl, Acts.su (a_does (os' := fun _ => [cell p 53 #[.int .i64 d1.room, .int .i64 (fzI d1.fuse), .bool false, x.pv, x.sm, x.sh], Vec 68 5 encO x.pv x.W, OpsE x.W, FilesT x.sm d1.syn, MapT encKey encFil x.sh x.L, FilE x.L, X]) [0, 4, 5] 0 (ent_of Try.func37 (by kernel_rfl) rfl) (used_t p _ _ _ _ _ _ x.L hpu) rfl rfl rfl (fun _ => rfl) rfl rfl rfl) rfl⟩) ?_
      refine s_cons (by intro v0_; exact ⟨rfl, fun b w hH hb => exec_ar rfl rfl rfl rfl (IntWalk.i64_in _ (by omega)) hb⟩) ?_
      refine s_cons (by intro v0_; exact ⟨rfl, fun b w hH hb => exec_cmp rfl rfl rfl (cmp_gtr_t (by omega)) hb⟩) ?_
      refine s_cons (by intro v0_; exact ⟨rfl, fun b w hH hb => exec_q1 hflK rfl hb⟩) ?_
      refine s_cons (by intro v0_; exact ⟨rfl, rfl⟩) ?_
      refine s_cons (by intro v0_; exact ⟨rfl, rfl⟩) ?_
      refine s_cons (by intro v0_; exact ⟨rfl, rfl⟩) ?_
      refine s_cons (by intro v0_; exact ⟨rfl, rfl⟩) ?_
      refine s_cons (by intro v0_; exact ⟨rfl, rfl⟩) ?_
      refine s_cons (by intro v0_; exact ⟨rfl, rfl⟩) ?_
      refine s_cons (by intro v0_; exact ⟨rfl, rfl⟩) ?_
      refine s_cons (by intro v0_; exact ⟨rfl, rfl⟩) ?_
      refine s_cons (by intro v0_; exact ⟨rfl, rfl⟩) ?_
      refine s_cons (by intro v0_; exact ⟨rfl, fun b w hH hb => exec_q1 hflK rfl hb⟩) ?_
      exact s_nil
    intro v0_
    refine WL2.keep (env' := [(0, .pointer (some ⟨p, 0, none⟩)), (1, .string (bs n)), (2, v), (6, .int .i64 0), (41, .bool true)]) ⟨rfl, rfl, rfl, rfl, rfl, trivial⟩ ?_
    refine h_nil (f_to (d_then rfl (d_reg ?_)))
    refine h_q hflK rfl ?_
    refine h_done (d_ret (f_then_ret ?_))
    exact f_fin1 (.tmp rfl) (fun w h => tells () rfl [0, 1, 2, 3, 4, 5, 6] rfl h (upL_close x hd1)) rfl
  · skip
    refine d_reg ?_
    refine h_q hflK rfl ?_
    refine h_val rfl (.pointer (some ⟨p, 0, none⟩)) (fun b w hb hH => by exact exec_nilCheck rfl rfl hb) ?_
    refine h_q hflK rfl ?_
    refine h_val rfl (x.sh) (fun b w hb hH => exec_load rfl rfl (reads_one ty_disk_files rfl) (hH.row 0 rfl) hb) ?_
    refine h_q hflK rfl ?_
    refine h_act (post := fun _ => [cell p 53 #[.int .i64 d1.room, .int .i64 (fzI d1.fuse), .bool false, x.pv, x.sm, x.sh], Vec 68 5 encO x.pv x.W, OpsE x.W, FilesT x.sm d1.syn, MapT encKey encFil x.sh x.L, FilE x.L, X]) rfl (a_does (os' := fun _ => [cell p 53 #[.int .i64 d1.room, .int .i64 (fzI d1.fuse), .bool false, x.pv, x.sm, x.sh], Vec 68 5 encO x.pv x.W, OpsE x.W, FilesT x.sm d1.syn, MapT encKey encFil x.sh x.L, FilE x.L, X]) [4] 0 (ent_of Try.func33 (by kernel_rfl) rfl) (has_t _ _ n _ hgL) rfl rfl rfl (fun _ => rfl) rfl rfl rfl) ?_; rintro ⟨⟩
    refine h_q hflK rfl ?_
    refine h_done (d_seq (d_seq ?_))
    refine d_parS 21 1 [⟨.quiet, [none], fun _ => v, []⟩, ⟨.quiet, [none], fun _ => .int .i64 (y.length : Int), [0]⟩, ⟨.quiet, [none], fun _ => .pointer (some ⟨p, 0, none⟩), []⟩, ⟨.quiet, [none], fun _ => .pointer (some ⟨p, 0, none⟩), [2]⟩, ⟨.quiet, [none], fun _ => .pointer (some ⟨p, 0, none⟩), [3]⟩, ⟨.quiet, [none], fun _ => .int .i64 d1.room, [4]⟩, ⟨.quiet, [none], fun _ => .pointer (some ⟨p, 0, none⟩), []⟩, ⟨.actv 0, [some false], fun _ => .int .i64 ((usedF (fsL x.L) : Nat) : Int), [6]⟩, ⟨.quiet, [some true], fun _ => .int .i64 (d1.room - (usedF (fsL x.L) : Int)), [5, 7]⟩, ⟨.quiet, [some true], fun _ => .bool true, [1, 8]⟩, ⟨.quiet, [some true], fun _ => .bool true, [9]⟩, ⟨.skip, [some true], fun _ => undef, [10]⟩, ⟨.skip, [some true], fun _ => undef, [11, 10]⟩, ⟨.skip, [some true], fun _ => undef, [12]⟩, ⟨.skip, [some true], fun _ => undef, [13, 12]⟩, ⟨.skip, [some true], fun _ => undef, [14, 12]⟩, ⟨.skip, [some true], fun _ => undef, [15, 12]⟩, ⟨.skip, [some true], fun _ => undef, [16, 12]⟩, ⟨.skip, [some true], fun _ => undef, [17, 12]⟩, ⟨.skip, [some true], fun _ => undef, [12, 18, 10]⟩, ⟨.quiet, [some true], fun _ => .bool true, [10, 19]⟩] [(0, .pointer (some ⟨p, 0, none⟩)), (1, .string (bs n)), (2, v), (6, .int .i64 0), (7, .bool false)] (fun ρ => match ρ with | [r0] => [cell p 53 #[.int .i64 d1.room, .int .i64 (fzI d1.fuse), .bool false, x.pv, x.sm, x.sh], Vec 68 5 encO x.pv x.W, OpsE x.W, FilesT x.sm d1.syn, MapT encKey encFil x.sh x.L, FilE x.L, X] | _ => []) (by kernel_rfl) (by kernel_rfl) ⟨rfl, rfl, rfl, rfl, rfl, trivial⟩ rfl ?_ ?_
    · skip
      refine s_cons (by intro r0_; exact ⟨rfl, fun b w hH hb => exec_q1 hflK rfl hb⟩) ?_
      refine s_cons (by intro r0_; exact ⟨rfl, fun b w hH hb => e_slen ((hH.rd8 6 rfl hX).rd) Try.underlying29 rfl rfl hb⟩) ?_
      refine s_cons (by intro r0_; exact ⟨rfl, fun b w hH hb => exec_q1 hflK rfl hb⟩) ?_
      refine s_cons (by intro r0_; exact ⟨rfl, fun b w hH hb => by exact exec_nilCheck rfl rfl hb⟩) ?_
      refine s_cons (by intro r0_; exact ⟨rfl, fun b w hH hb => exec_q1 hflK rfl hb⟩) ?_
      refine s_cons (by intro r0_; exact ⟨rfl, fun b w hH hb => exec_load rfl rfl (reads_one ty_int rfl) (hH.row 0 rfl) hb⟩) ?_
      refine s_cons (by intro r0_; exact ⟨rfl, fun b w hH hb => exec_q1 hflK rfl hb⟩) ?_
      refine s_cons (by exact ⟨rfl, Acts.su (a_does (os' := fun _ => [cell p 53 #[.int .i64 d1.room, .int .i64 (fzI d1.fuse), .bool false, x.pv, x.sm, x.sh], Vec 68 5 encO x.pv x.W, OpsE x.W, FilesT x.sm d1.syn, MapT encKey encFil x.sh x.L, FilE x.L, X]) [0, 4, 5] 0 (ent_of Try.func37 (by kernel_rfl) rfl) (used_t p _ _ _ _ _ _ x.L hpu) rfl rfl rfl (fun _ => rfl) rfl rfl rfl) rfl⟩) ?_
      refine s_cons (by intro v0_; exact ⟨rfl, fun b w hH hb => exec_ar rfl rfl rfl rfl (IntWalk.i64_in _ (by omega)) hb⟩) ?_
      refine s_cons (by intro v0_; exact ⟨rfl, fun b w hH hb => exec_cmp rfl rfl rfl (cmp_gtr_t (by omega)) hb⟩) ?_
      refine s_cons (by intro v0_; exact ⟨rfl, fun b w hH hb => exec_q1 hflK rfl hb⟩) ?_
      refine s_cons (by intro v0_; exact ⟨rfl, rfl⟩) ?_
      refine s_cons (by intro v0_; exact ⟨rfl, rfl⟩) ?_
      refine s_cons (by intro v0_; exact ⟨rfl, rfl⟩) ?_
      refine s_cons (by intro v0_; exact ⟨rfl, rfl⟩) ?_
      refine s_cons (by intro v0_; exact ⟨rfl, rfl⟩) ?_
      refine s_cons (by intro v0_; exact ⟨rfl, rfl⟩) ?_
      refine s_cons (by intro v0_; exact ⟨rfl, rfl⟩) ?_
      refine s_cons (by intro v0_; exact ⟨rfl, rfl⟩) ?_
      refine s_cons (by intro v0_; exact ⟨rfl, rfl⟩) ?_
      refine s_cons (by intro v0_; exact ⟨rfl, fun b w hH hb => exec_q1 hflK rfl hb⟩) ?_
      exact s_nil
    intro v0_
    refine WL2.keep (env' := [(0, .pointer (some ⟨p, 0, none⟩)), (1, .string (bs n)), (2, v), (6, .int .i64 0), (41, .bool true)]) ⟨rfl, rfl, rfl, rfl, rfl, trivial⟩ ?_
    refine h_nil (f_to (d_then rfl (d_reg ?_)))
    refine h_q hflK rfl ?_
    refine h_done (d_ret (f_then_ret ?_))
    exact f_fin1 (.tmp rfl) (fun w h => tells () rfl [0, 1, 2, 3, 4, 5, 6] rfl h (upL_close x hd1)) rfl
  · skip
    refine d_reg ?_
    refine h_q hflK rfl ?_
    refine h_val rfl (.pointer (some ⟨p, 0, none⟩)) (fun b w hb hH => by exact exec_nilCheck rfl rfl hb) ?_
    refine h_q hflK rfl ?_
    refine h_val rfl (x.sh) (fun b w hb hH => exec_load rfl rfl (reads_one ty_disk_files rfl) (hH.row 0 rfl) hb) ?_
    refine h_q hflK rfl ?_
    refine h_act (post := fun _ => [cell p 53 #[.int .i64 d1.room, .int .i64 (fzI d1.fuse), .bool false, x.pv, x.sm, x.sh], Vec 68 5 encO x.pv x.W, OpsE x.W, FilesT x.sm d1.syn, MapT encKey encFil x.sh x.L, FilE x.L, X]) rfl (a_does (os' := fun _ => [cell p 53 #[.int .i64 d1.room, .int .i64 (fzI d1.fuse), .bool false, x.pv, x.sm, x.sh], Vec 68 5 encO x.pv x.W, OpsE x.W, FilesT x.sm d1.syn, MapT encKey encFil x.sh x.L, FilE x.L, X]) [4] 0 (ent_of Try.func33 (by kernel_rfl) rfl) (has_t _ _ n _ hgL) rfl rfl rfl (fun _ => rfl) rfl rfl rfl) ?_; rintro ⟨⟩
    refine h_q hflK rfl ?_
    refine h_done (d_seq (d_seq ?_))
    refine d_parS 21 1 [⟨.quiet, [none], fun _ => v, []⟩, ⟨.quiet, [none], fun _ => .int .i64 (y.length : Int), [0]⟩, ⟨.quiet, [none], fun _ => .pointer (some ⟨p, 0, none⟩), []⟩, ⟨.quiet, [none], fun _ => .pointer (some ⟨p, 0, none⟩), [2]⟩, ⟨.quiet, [none], fun _ => .pointer (some ⟨p, 0, none⟩), [3]⟩, ⟨.quiet, [none], fun _ => .int .i64 d1.room, [4]⟩, ⟨.quiet, [none], fun _ => .pointer (some ⟨p, 0, none⟩), []⟩, ⟨.actv 0, [some false], fun _ => .int .i64 ((usedF (fsL x.L) : Nat) : Int), [6]⟩, ⟨.quiet, [some true], fun _ => .int .i64 (d1.room - (usedF (fsL x.L) : Int)), [5, 7]⟩, ⟨.quiet, [some true], fun _ => .bool false, [1, 8]⟩, ⟨.quiet, [some true], fun _ => .bool false, [9]⟩, ⟨.quiet, [some true], fun _ => .bool true, [10]⟩, ⟨.quiet, [some true], fun _ => .bool true, [11, 10]⟩, ⟨.quiet, [some true], fun _ => .pointer (some ⟨p, 0, none⟩), [12]⟩, ⟨.quiet, [some true], fun _ => .pointer (some ⟨p, 0, none⟩), [13, 12]⟩, ⟨.quiet, [some true], fun _ => .pointer (some ⟨p, 5, none⟩), [14, 12]⟩, ⟨.quiet, [some true], fun _ => x.sh, [15, 12]⟩, ⟨.quiet, [some true], fun _ => .int .i64 (x.L.length : Int), [16, 12]⟩, ⟨.quiet, [some true], fun _ => .bool true, [17, 12]⟩, ⟨.quiet, [some true], fun _ => .bool true, [12, 18, 10]⟩, ⟨.quiet, [some true], fun _ => .bool true, [10, 19]⟩] [(0, .pointer (some ⟨p, 0, none⟩)), (1, .string (bs n)), (2, v), (6, .int .i64 0), (7, .bool true)] (fun ρ => match ρ with | [r0] => [cell p 53 #[.int .i64 d1.room, .int .i64 (fzI d1.fuse), .bool false, x.pv, x.sm, x.sh], Vec 68 5 encO x.pv x.W, OpsE x.W, FilesT x.sm d1.syn, MapT encKey encFil x.sh x.L, FilE x.L, X] | _ => []) (by kernel_rfl) (by kernel_rfl) ⟨rfl, rfl, rfl, rfl, rfl, trivial⟩ rfl ?_ ?_
    · skip
      refine s_cons (by intro r0_; exact ⟨rfl, fun b w hH hb => exec_q1 hflK rfl hb⟩) ?_
      refine s_cons (by intro r0_; exact ⟨rfl, fun b w hH hb => e_slen ((hH.rd8 6 rfl hX).rd) Try.underlying29 rfl rfl hb⟩) ?_
      refine s_cons (by intro r0_; exact ⟨rfl, fun b w hH hb => exec_q1 hflK rfl hb⟩) ?_
      refine s_cons (by intro r0_; exact ⟨rfl, fun b w hH hb => by exact exec_nilCheck rfl rfl hb⟩) ?_
      refine s_cons (by intro r0_; exact ⟨rfl, fun b w hH hb => exec_q1 hflK rfl hb⟩) ?_
      refine s_cons (by intro r0_; exact ⟨rfl, fun b w hH hb => exec_load rfl rfl (reads_one ty_int rfl) (hH.row 0 rfl) hb⟩) ?_
      refine s_cons (by intro r0_; exact ⟨rfl, fun b w hH hb => exec_q1 hflK rfl hb⟩) ?_
      refine s_cons (by exact ⟨rfl, Acts.su (a_does (os' := fun _ => [cell p 53 #[.int .i64 d1.room, .int .i64 (fzI d1.fuse), .bool false, x.pv, x.sm, x.sh], Vec 68 5 encO x.pv x.W, OpsE x.W, FilesT x.sm d1.syn, MapT encKey encFil x.sh x.L, FilE x.L, X]) [0, 4, 5] 0 (ent_of Try.func37 (by kernel_rfl) rfl) (used_t p _ _ _ _ _ _ x.L hpu) rfl rfl rfl (fun _ => rfl) rfl rfl rfl) rfl⟩) ?_
      refine s_cons (by intro v0_; exact ⟨rfl, fun b w hH hb => exec_ar rfl rfl rfl rfl (IntWalk.i64_in _ (by omega)) hb⟩) ?_
      refine s_cons (by intro v0_; exact ⟨rfl, fun b w hH hb => exec_cmp rfl rfl rfl (cmp_gtr_f (by omega)) hb⟩) ?_
      refine s_cons (by intro v0_; exact ⟨rfl, fun b w hH hb => exec_q1 hflK rfl hb⟩) ?_
      refine s_cons (by intro v0_; exact ⟨rfl, fun b w hH hb => exec_q1 hflK rfl hb⟩) ?_
      refine s_cons (by intro v0_; exact ⟨rfl, fun b w hH hb => exec_q1 hflK rfl hb⟩) ?_
      refine s_cons (by intro v0_; exact ⟨rfl, fun b w hH hb => exec_q1 hflK rfl hb⟩) ?_
      refine s_cons (by intro v0_; exact ⟨rfl, fun b w hH hb => by exact exec_nilCheck rfl rfl hb⟩) ?_
      refine s_cons (by intro v0_; exact ⟨rfl, fun b w hH hb => exec_q1 hflK rfl hb⟩) ?_
      refine s_cons (by intro v0_; exact ⟨rfl, fun b w hH hb => exec_load rfl rfl (reads_one ty_disk_files rfl) (hH.row 0 rfl) hb⟩) ?_
      refine s_cons (by intro v0_; exact ⟨rfl, fun b w hH hb => e_mlen 4 Try.underlying50 rfl rfl rfl hH hb⟩) ?_
      refine s_cons (by intro v0_; exact ⟨rfl, fun b w hH hb => exec_cmp rfl rfl rfl (cmp_geq_t (by omega)) hb⟩) ?_
      refine s_cons (by intro v0_; exact ⟨rfl, fun b w hH hb => exec_q1 hflK rfl hb⟩) ?_
      refine s_cons (by intro v0_; exact ⟨rfl, fun b w hH hb => exec_q1 hflK rfl hb⟩) ?_
      exact s_nil
    intro v0_
    refine WL2.keep (env' := [(0, .pointer (some ⟨p, 0, none⟩)), (1, .string (bs n)), (2, v), (6, .int .i64 0), (41, .bool true)]) ⟨rfl, rfl, rfl, rfl, rfl, trivial⟩ ?_
    refine h_nil (f_to (d_then rfl (d_reg ?_)))
    refine h_q hflK rfl ?_
    refine h_done (d_ret (f_then_ret ?_))
    exact f_fin1 (.tmp rfl) (fun w h => tells () rfl [0, 1, 2, 3, 4, 5, 6] rfl h (upL_close x hd1)) rfl

set_option maxRecDepth 100000 in
theorem append_ok {X : Ass} {p : Nat} {d d1 : DiskD} {n y : List UInt8} {v : Value} (hX : Rd8 X v y) (hfit : d.fit) (h : beginD d = (d1, 0)) (hn : nameB n = true) (hy : y.length ≤ 140737488355328) (hf : fitsD d1 n y = true) : Does Try.prog 20 #[.pointer (some ⟨p, 0, none⟩), .string (bs n), v] [DiskT p d, X] (fun (_ : Unit) => .int .i64 0) (fun (_ : Unit) => [DiskT p (doesD d1 (.app n y)), X]) := by
  have hd1 := (begin_up h).1
  have hfit1 := begin_fit h hfit
  refine d_ins (args := [.pointer (some ⟨p, 0, none⟩), .string (bs n), v]) 48 Try.func20 rfl rfl rfl ?_; intro w rs
  refine d_reg ?_
  refine h_q hflK rfl ?_
  refine h_done (d_seq (d_reg ?_))
  refine h_q hflK rfl ?_
  refine h_act (post := fun _ => [DiskT p d1, X]) rfl (a_does (os' := fun _ => [DiskT p d1, X]) [0] 0 (ent_of Try.func26 (by kernel_rfl) rfl) (begin_ok h) rfl rfl rfl (fun _ => rfl) rfl rfl rfl) ?_; rintro ⟨⟩
  refine h_q hflK rfl ?_
  refine h_done (d_else rfl (d_skip (f_to (d_seq (d_reg ?_)))))
  refine h_q hflK rfl ?_
  refine h_act (post := fun _ => [DiskT p d1, X]) rfl (a_call (ent_of Try.func36 (by kernel_rfl) rfl) (fun w hH => nameMay_ok w n hn) rfl rfl rfl) ?_; rintro ⟨⟩
  refine h_q hflK rfl ?_
  refine h_done (d_else rfl (d_skip (f_to ?_)))
  refine d_open 0 rfl (disk_upL hd1) (fun _ => rfl) ?_; rintro x
  refine WC2.fact 3 rfl filesT_nodup ?_; rintro hsn
  refine WC2.fact 4 rfl filE_nodup_map ?_; rintro hgn
  have hr := x.hr
  have hpu : usedF (fsL x.L) ≤ 1099511627776 := by rw [perm_used x.hg]; exact now_le hfit1 hsn x.hok
  obtain ⟨hlen, hw⟩ := ok_ways x.hg hgn hf
  have hsz : (OpD.app n y).size ≤ 1048576 := by show y.length ≤ _; omega
  rcases hw with ⟨r, hgL⟩ | ⟨hgL, h64⟩
  · skip
    refine d_reg ?_
    refine h_q hflK rfl ?_
    refine h_val rfl (.pointer (some ⟨p, 0, none⟩)) (fun b w hb hH => by exact exec_nilCheck rfl rfl hb) ?_
    refine h_q hflK rfl ?_
    refine h_val rfl (x.sh) (fun b w hb hH => exec_load rfl rfl (reads_one ty_disk_files rfl) (hH.row 0 rfl) hb) ?_
    refine h_q hflK rfl ?_
    refine h_act (post := fun _ => [cell p 53 #[.int .i64 d1.room, .int .i64 (fzI d1.fuse), .bool false, x.pv, x.sm, x.sh], Vec 68 5 encO x.pv x.W, OpsE x.W, FilesT x.sm d1.syn, MapT encKey encFil x.sh x.L, FilE x.L, X]) rfl (a_does (os' := fun _ => [cell p 53 #[.int .i64 d1.room, .int .i64 (fzI d1.fuse), .bool false, x.pv, x.sm, x.sh], Vec 68 5 encO x.pv x.W, OpsE x.W, FilesT x.sm d1.syn, MapT encKey encFil x.sh x.L, FilE x.L, X]) [4] 0 (ent_of Try.func33 (by kernel_rfl) rfl) (has_t _ _ n _ hgL) rfl rfl rfl (fun _ => rfl) rfl rfl rfl) ?_; rintro ⟨⟩
    refine h_q hflK rfl ?_
    refine h_done (d_seq (d_seq ?_))
    refine d_parS 21 1 [⟨.quiet, [none], fun _ => v, []⟩, ⟨.quiet, [none], fun _ => .int .i64 (y.length : Int), [0]⟩, ⟨.quiet, [none], fun _ => .pointer (some ⟨p, 0, none⟩), []⟩, ⟨.quiet, [none], fun _ => .pointer (some ⟨p, 0, none⟩), [2]⟩, ⟨.quiet, [none], fun _ => .pointer (some ⟨p, 0, none⟩), [3]⟩, ⟨.quiet, [none], fun _ => .int .i64 d1.room, [4]⟩, ⟨.quiet, [none], fun _ => .pointer (some ⟨p, 0, none⟩), []⟩, ⟨.actv 0, [some false], fun _ => .int .i64 ((usedF (fsL x.L) : Nat) : Int), [6]⟩, ⟨.quiet, [some true], fun _ => .int .i64 (d1.room - (usedF (fsL x.L) : Int)), [5, 7]⟩, ⟨.quiet, [some true], fun _ => .bool false, [1, 8]⟩, ⟨.quiet, [some true], fun _ => .bool false, [9]⟩, ⟨.quiet, [some true], fun _ => .bool false, [10]⟩, ⟨.quiet, [some true], fun _ => .bool false, [11, 10]⟩, ⟨.skip, [some true], fun _ => undef, [12]⟩, ⟨.skip, [some true], fun _ => undef, [13, 12]⟩, ⟨.skip, [some true], fun _ => undef, [14, 12]⟩, ⟨.skip, [some true], fun _ => undef, [15, 12]⟩, ⟨.skip, [some true], fun _ => undef, [16, 12]⟩, ⟨.skip, [some true], fun _ => undef, [17, 12]⟩, ⟨.quiet, [some true], fun _ => .bool false, [12, 18, 10]⟩, ⟨.quiet, [some true], fun _ => .bool false, [10, 19]⟩] [(0, .pointer (some ⟨p, 0, none⟩)), (1, .string (bs n)), (2, v), (6, .int .i64 0), (7, .bool false)] (fun ρ => match ρ with | [r0] => [cell p 53 #[.int .i64 d1.room, .int .i64 (fzI d1.fuse), .bool false, x.pv, x.sm, x.sh], Vec 68 5 encO x.pv x.W, OpsE x.W, FilesT x.sm d1.syn, MapT encKey encFil x.sh x.L, FilE x.L, X] | _ => []) (by kernel_rfl) (by kernel_rfl) ⟨rfl, rfl, rfl, rfl, rfl, trivial⟩ rfl ?_ ?_
    · skip
      refine s_cons (by intro r0_; exact ⟨rfl, fun b w hH hb => exec_q1 hflK rfl hb⟩) ?_
      refine s_cons (by intro r0_; exact ⟨rfl, fun b w hH hb => e_slen ((hH.rd8 6 rfl hX).rd) Try.underlying29 rfl rfl hb⟩) ?_
      refine s_cons (by intro r0_; exact ⟨rfl, fun b w hH hb => exec_q1 hflK rfl hb⟩) ?_
      refine s_cons (by intro r0_; exact ⟨rfl, fun b w hH hb => by exact exec_nilCheck rfl rfl hb⟩) ?_
      refine s_cons (by intro r0_; exact ⟨rfl, fun b w hH hb => exec_q1 hflK rfl hb⟩) ?_
      refine s_cons (by intro r0_; exact ⟨rfl, fun b w hH hb => exec_load rfl rfl (reads_one ty_int rfl) (hH.row 0 rfl) hb⟩) ?_
      refine s_cons (by intro r0_; exact ⟨rfl, fun b w hH hb => exec_q1 hflK rfl hb⟩) ?_
      refine s_cons (by exact ⟨rfl, Acts.su (a_does (os' := fun _ => [cell p 53 #[.int .i64 d1.room, .int .i64 (fzI d1.fuse), .bool false, x.pv, x.sm, x.sh], Vec 68 5 encO x.pv x.W, OpsE x.W, FilesT x.sm d1.syn, MapT encKey encFil x.sh x.L, FilE x.L, X]) [0, 4, 5] 0 (ent_of Try.func37 (by kernel_rfl) rfl) (used_t p _ _ _ _ _ _ x.L hpu) rfl rfl rfl (fun _ => rfl) rfl rfl rfl) rfl⟩) ?_
      refine s_cons (by intro v0_; exact ⟨rfl, fun b w hH hb => exec_ar rfl rfl rfl rfl (IntWalk.i64_in _ (by omega)) hb⟩) ?_
      refine s_cons (by intro v0_; exact ⟨rfl, fun b w hH hb => exec_cmp rfl rfl rfl (cmp_gtr_f (by omega)) hb⟩) ?_
      refine s_cons (by intro v0_; exact ⟨rfl, fun b w hH hb => exec_q1 hflK rfl hb⟩) ?_
      refine s_cons (by intro v0_; exact ⟨rfl, fun b w hH hb => exec_q1 hflK rfl hb⟩) ?_
      refine s_cons (by intro v0_; exact ⟨rfl, fun b w hH hb => exec_q1 hflK rfl hb⟩) ?_
      refine s_cons (by intro v0_; exact ⟨rfl, rfl⟩) ?_
      refine s_cons (by intro v0_; exact ⟨rfl, rfl⟩) ?_
      refine s_cons (by intro v0_; exact ⟨rfl, rfl⟩) ?_
      refine s_cons (by intro v0_; exact ⟨rfl, rfl⟩) ?_
      refine s_cons (by intro v0_; exact ⟨rfl, rfl⟩) ?_
      refine s_cons (by intro v0_; exact ⟨rfl, rfl⟩) ?_
      refine s_cons (by intro v0_; exact ⟨rfl, fun b w hH hb => exec_q1 hflK rfl hb⟩) ?_
      refine s_cons (by intro v0_; exact ⟨rfl, fun b w hH hb => exec_q1 hflK rfl hb⟩) ?_
      exact s_nil
    intro v0_
    refine WL2.keep (env' := [(0, .pointer (some ⟨p, 0, none⟩)), (1, .string (bs n)), (2, v), (6, .int .i64 0), (41, .bool false)]) ⟨rfl, rfl, rfl, rfl, rfl, trivial⟩ ?_
    refine h_nil (f_to (d_else rfl (d_skip (f_to ?_))))
    refine d_close [0, 1, 2, 3, 4, 5] rfl (upL_one x hd1) rfl ?_
    refine d_reg ?_
    refine h_q hflK rfl ?_
    refine h_act (post := fun v9 => [Vec 5 1 encB v9 y, DiskT p d1, X]) rfl (a_does (os' := fun v9 => [Vec 5 1 encB v9 y, DiskT p d1, X]) [1] 0 (ent_of Try.func32 (by kernel_rfl) rfl) (clone8 hX (by omega)) rfl rfl rfl (fun _ => rfl) rfl rfl rfl) ?_; rintro v9
    refine WL2.fact 0 rfl (fun _ h => Vec.is h) ?_; rintro ⟨A9, c9, rfl⟩
    refine h_val rfl (.agg #[.int .i64 0, .string (bs n), .slice A9 y.length c9, .int .i64 0, .string { data := #[] }]) (fun b w hb hH => exec_build rfl rfl (by kernel_rfl) hb) ?_
    refine h_act (post := fun _ => [emp, DiskT p (doesD d1 (.app n y)), X]) rfl (a_does (os' := fun _ => [emp, DiskT p (doesD d1 (.app n y)), X]) [1, 0] 0 (ent_of Try.func38 (by kernel_rfl) rfl) (take_t (x := ⟨.app n y, A9, c9⟩) hd1 hfit1 hn hsz) rfl rfl rfl (fun _ => rfl) rfl rfl rfl) ?_; rintro ⟨⟩
    refine WL2.leave [0] rfl rfl ?_
    refine h_q hflK rfl ?_
    refine h_done (d_ret ?_)
    exact f_fin1 (.tmp rfl) (fun w h => tells () rfl [0, 1] rfl h same_parts) rfl
  · skip
    refine d_reg ?_
    refine h_q hflK rfl ?_
    refine h_val rfl (.pointer (some ⟨p, 0, none⟩)) (fun b w hb hH => by exact exec_nilCheck rfl rfl hb) ?_
    refine h_q hflK rfl ?_
    refine h_val rfl (x.sh) (fun b w hb hH => exec_load rfl rfl (reads_one ty_disk_files rfl) (hH.row 0 rfl) hb) ?_
    refine h_q hflK rfl ?_
    refine h_act (post := fun _ => [cell p 53 #[.int .i64 d1.room, .int .i64 (fzI d1.fuse), .bool false, x.pv, x.sm, x.sh], Vec 68 5 encO x.pv x.W, OpsE x.W, FilesT x.sm d1.syn, MapT encKey encFil x.sh x.L, FilE x.L, X]) rfl (a_does (os' := fun _ => [cell p 53 #[.int .i64 d1.room, .int .i64 (fzI d1.fuse), .bool false, x.pv, x.sm, x.sh], Vec 68 5 encO x.pv x.W, OpsE x.W, FilesT x.sm d1.syn, MapT encKey encFil x.sh x.L, FilE x.L, X]) [4] 0 (ent_of Try.func33 (by kernel_rfl) rfl) (has_t _ _ n _ hgL) rfl rfl rfl (fun _ => rfl) rfl rfl rfl) ?_; rintro ⟨⟩
    refine h_q hflK rfl ?_
    refine h_done (d_seq (d_seq ?_))
    refine d_parS 21 1 [⟨.quiet, [none], fun _ => v, []⟩, ⟨.quiet, [none], fun _ => .int .i64 (y.length : Int), [0]⟩, ⟨.quiet, [none], fun _ => .pointer (some ⟨p, 0, none⟩), []⟩, ⟨.quiet, [none], fun _ => .pointer (some ⟨p, 0, none⟩), [2]⟩, ⟨.quiet, [none], fun _ => .pointer (some ⟨p, 0, none⟩), [3]⟩, ⟨.quiet, [none], fun _ => .int .i64 d1.room, [4]⟩, ⟨.quiet, [none], fun _ => .pointer (some ⟨p, 0, none⟩), []⟩, ⟨.actv 0, [some false], fun _ => .int .i64 ((usedF (fsL x.L) : Nat) : Int), [6]⟩, ⟨.quiet, [some true], fun _ => .int .i64 (d1.room - (usedF (fsL x.L) : Int)), [5, 7]⟩, ⟨.quiet, [some true], fun _ => .bool false, [1, 8]⟩, ⟨.quiet, [some true], fun _ => .bool false, [9]⟩, ⟨.quiet, [some true], fun _ => .bool true, [10]⟩, ⟨.quiet, [some true], fun _ => .bool true, [11, 10]⟩, ⟨.quiet, [some true], fun _ => .pointer (some ⟨p, 0, none⟩), [12]⟩, ⟨.quiet, [some true], fun _ => .pointer (some ⟨p, 0, none⟩), [13, 12]⟩, ⟨.quiet, [some true], fun _ => .pointer (some ⟨p, 5, none⟩), [14, 12]⟩, ⟨.quiet, [some true], fun _ => x.sh, [15, 12]⟩, ⟨.quiet, [some true], fun _ => .int .i64 (x.L.length : Int), [16, 12]⟩, ⟨.quiet, [some true], fun _ => .bool false, [17, 12]⟩, ⟨.quiet, [some true], fun _ => .bool false, [12, 18, 10]⟩, ⟨.quiet, [some true], fun _ => .bool false, [10, 19]⟩] [(0, .pointer (some ⟨p, 0, none⟩)), (1, .string (bs n)), (2, v), (6, .int .i64 0), (7, .bool true)] (fun ρ => match ρ with | [r0] => [cell p 53 #[.int .i64 d1.room, .int .i64 (fzI d1.fuse), .bool false, x.pv, x.sm, x.sh], Vec 68 5 encO x.pv x.W, OpsE x.W, FilesT x.sm d1.syn, MapT encKey encFil x.sh x.L, FilE x.L, X] | _ => []) (by kernel_rfl) (by kernel_rfl) ⟨rfl, rfl, rfl, rfl, rfl, trivial⟩ rfl ?_ ?_
    · skip
      refine s_cons (by intro r0_; exact ⟨rfl, fun b w hH hb => exec_q1 hflK rfl hb⟩) ?_
      refine s_cons (by intro r0_; exact ⟨rfl, fun b w hH hb => e_slen ((hH.rd8 6 rfl hX).rd) Try.underlying29 rfl rfl hb⟩) ?_
      refine s_cons (by intro r0_; exact ⟨rfl, fun b w hH hb => exec_q1 hflK rfl hb⟩) ?_
      refine s_cons (by intro r0_; exact ⟨rfl, fun b w hH hb => by exact exec_nilCheck rfl rfl hb⟩) ?_
      refine s_cons (by intro r0_; exact ⟨rfl, fun b w hH hb => exec_q1 hflK rfl hb⟩) ?_
      refine s_cons (by intro r0_; exact ⟨rfl, fun b w hH hb => exec_load rfl rfl (reads_one ty_int rfl) (hH.row 0 rfl) hb⟩) ?_
      refine s_cons (by intro r0_; exact ⟨rfl, fun b w hH hb => exec_q1 hflK rfl hb⟩) ?_
      refine s_cons (by exact ⟨rfl, Acts.su (a_does (os' := fun _ => [cell p 53 #[.int .i64 d1.room, .int .i64 (fzI d1.fuse), .bool false, x.pv, x.sm, x.sh], Vec 68 5 encO x.pv x.W, OpsE x.W, FilesT x.sm d1.syn, MapT encKey encFil x.sh x.L, FilE x.L, X]) [0, 4, 5] 0 (ent_of Try.func37 (by kernel_rfl) rfl) (used_t p _ _ _ _ _ _ x.L hpu) rfl rfl rfl (fun _ => rfl) rfl rfl rfl) rfl⟩) ?_
      refine s_cons (by intro v0_; exact ⟨rfl, fun b w hH hb => exec_ar rfl rfl rfl rfl (IntWalk.i64_in _ (by omega)) hb⟩) ?_
      refine s_cons (by intro v0_; exact ⟨rfl, fun b w hH hb => exec_cmp rfl rfl rfl (cmp_gtr_f (by omega)) hb⟩) ?_
      refine s_cons (by intro v0_; exact ⟨rfl, fun b w hH hb => exec_q1 hflK rfl hb⟩) ?_
      refine s_cons (by intro v0_; exact ⟨rfl, fun b w hH hb => exec_q1 hflK rfl hb⟩) ?_
      refine s_cons (by intro v0_; exact ⟨rfl, fun b w hH hb => exec_q1 hflK rfl hb⟩) ?_
      refine s_cons (by intro v0_; exact ⟨rfl, fun b w hH hb => exec_q1 hflK rfl hb⟩) ?_
      refine s_cons (by intro v0_; exact ⟨rfl, fun b w hH hb => by exact exec_nilCheck rfl rfl hb⟩) ?_
      refine s_cons (by intro v0_; exact ⟨rfl, fun b w hH hb => exec_q1 hflK rfl hb⟩) ?_
      refine s_cons (by intro v0_; exact ⟨rfl, fun b w hH hb => exec_load rfl rfl (reads_one ty_disk_files rfl) (hH.row 0 rfl) hb⟩) ?_
      refine s_cons (by intro v0_; exact ⟨rfl, fun b w hH hb => e_mlen 4 Try.underlying50 rfl rfl rfl hH hb⟩) ?_
      refine s_cons (by intro v0_; exact ⟨rfl, fun b w hH hb => exec_cmp rfl rfl rfl (cmp_geq_f (by omega)) hb⟩) ?_
      refine s_cons (by intro v0_; exact ⟨rfl, fun b w hH hb => exec_q1 hflK rfl hb⟩) ?_
      refine s_cons (by intro v0_; exact ⟨rfl, fun b w hH hb => exec_q1 hflK rfl hb⟩) ?_
      exact s_nil
    intro v0_
    refine WL2.keep (env' := [(0, .pointer (some ⟨p, 0, none⟩)), (1, .string (bs n)), (2, v), (6, .int .i64 0), (41, .bool false)]) ⟨rfl, rfl, rfl, rfl, rfl, trivial⟩ ?_
    refine h_nil (f_to (d_else rfl (d_skip (f_to ?_))))
    refine d_close [0, 1, 2, 3, 4, 5] rfl (upL_one x hd1) rfl ?_
    refine d_reg ?_
    refine h_q hflK rfl ?_
    refine h_act (post := fun v9 => [Vec 5 1 encB v9 y, DiskT p d1, X]) rfl (a_does (os' := fun v9 => [Vec 5 1 encB v9 y, DiskT p d1, X]) [1] 0 (ent_of Try.func32 (by kernel_rfl) rfl) (clone8 hX (by omega)) rfl rfl rfl (fun _ => rfl) rfl rfl rfl) ?_; rintro v9
    refine WL2.fact 0 rfl (fun _ h => Vec.is h) ?_; rintro ⟨A9, c9, rfl⟩
    refine h_val rfl (.agg #[.int .i64 0, .string (bs n), .slice A9 y.length c9, .int .i64 0, .string { data := #[] }]) (fun b w hb hH => exec_build rfl rfl (by kernel_rfl) hb) ?_
    refine h_act (post := fun _ => [emp, DiskT p (doesD d1 (.app n y)), X]) rfl (a_does (os' := fun _ => [emp, DiskT p (doesD d1 (.app n y)), X]) [1, 0] 0 (ent_of Try.func38 (by kernel_rfl) rfl) (take_t (x := ⟨.app n y, A9, c9⟩) hd1 hfit1 hn hsz) rfl rfl rfl (fun _ => rfl) rfl rfl rfl) ?_; rintro ⟨⟩
    refine WL2.leave [0] rfl rfl ?_
    refine h_q hflK rfl ?_
    refine h_done (d_ret ?_)
    exact f_fin1 (.tmp rfl) (fun w h => tells () rfl [0, 1] rfl h same_parts) rfl

theorem disk_appendW {p : Nat} {d d' : DiskD} {n b : List UInt8} {X : Ass} {v : Value} {e : Nat} (hd : d.fit) (hb : b.length ≤ 140737488355328) (hX : Rd8 X v b) (h : appendD d n b = (d', e)) : Does Try.prog 20 #[.pointer (some ⟨p, 0, none⟩), .string (bs n), v] [DiskT p d, X] (fun _ : Unit => .int .i64 (e : Int)) (fun _ => [DiskT p d', X]) := by
  unfold appendD at h
  obtain ⟨d1, e1, h1⟩ : ∃ d1 e1, beginD d = (d1, e1) := ⟨_, _, rfl⟩
  have h01 := begin_01 d
  rw [h1] at h h01
  simp only at h h01
  rcases h01 with rfl | rfl
  · rw [if_pos (by decide)] at h
    cases h
    exact append_no (y := b) h1
  · rw [if_neg (by decide)] at h
    cases hn : nameB n
    · rw [hn, if_pos rfl] at h
      cases h
      exact append_bad (y := b) h1 hn
    · rw [hn, if_neg (by decide)] at h
      cases hf : fitsD d1 n b
      · rw [hf, if_pos rfl] at h
        cases h
        exact append_full hX hd h1 hn hb hf
      · rw [hf, if_neg (by decide)] at h
        cases h
        exact append_ok hX hd h1 hn hb hf
theorem disk_append {p : Nat} {d d' : DiskD} {n b : List UInt8} {X : Ass} {v : Value} {e : Nat} (hd : d.fit) (hb : b.length ≤ 140737488351232) (hX : Rd8 X v b) (h : appendD d n b = (d', e)) : Does Try.prog 20 #[.pointer (some ⟨p, 0, none⟩), .string (bs n), v] [DiskT p d, X] (fun _ : Unit => .int .i64 (e : Int)) (fun _ => [DiskT p d', X]) := disk_appendW hd (by omega) hX h
end Go.Proofs.Ytjcfimmcogkopaa.Sep
