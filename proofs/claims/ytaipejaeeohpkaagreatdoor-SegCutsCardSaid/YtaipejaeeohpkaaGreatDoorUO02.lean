/-
  SgH · SgCt · SgFi
-/
import Derived.Test.YtaipejaeeohpkaaGreatDoorUN01
import Derived.Test.YtaipejaeeohpkaaGreatDoorUN03
import Derived.Test.YtaipejaeeohpkaaGreatDoorUO01
set_option linter.unusedSimpArgs false
set_option linter.unusedVariables false
set_option maxRecDepth 100000
namespace Go.Proofs.YtaipejaeeohpkaaGreatDoor.Sep
open Go.RowKit
open Go.Proofs.YtaipejaeeohpkaaGreatDoor.Mem (Dist Blk Chg below0)
theorem removeTail_at {p dk lim i f : Nat} {ss : SegsM} {l : List (Int × Nat)} {d d' : DiskD} (hfl : ss[i]? = some (f, l)) (hl : ss.length ≤ 1000000) (hf : f ≤ 72057594037927935) (tb : Tb) (hd : d.fit) (hdel : delD d (nameL f) = (d', 0)) : Does Tryz.prog 50 #[.pointer (some ⟨p, 0, none⟩)] [LogT p dk lim (ss.take (i + 1)), DiskT dk d, TabZ tb] (fun (_ : Unit) => .int .i64 0) (fun (_ : Unit) => [LogT p dk lim (ss.take i), DiskT dk d', TabZ tb]) := by
 have htk : ss.take (i + 1) = ss.take i ++ [(f, l)] := by rw [List.take_add_one, hfl]; rfl
 rw [htk]
 exact removeTail_does (by rw [List.length_take]; omega) hf tb hd hdel
theorem last_doesO {p dk lim n : Nat} {sv : Value} {svs : List SegV} {x : SegV} (hn : svs.length = n + 1) (hx : svs[n]? = some x) (hl : n ≤ 1000000) (hl0 : 0 < x.l.length) (hl2 : x.l.length ≤ 1000000) (hf : x.f ≤ 72057594037927935) : Does Tryz.prog 17 #[.pointer (some ⟨p, 0, none⟩)] [cell p 87 #[.pointer (some ⟨dk, 0, none⟩), .int .i64 (lim : Int), sv], Vec 92 2 encSg sv svs, MksE svs] (fun (_ : Unit) => .int .u64 ((x.f + x.l.length - 1 : Nat) : Int)) (fun (_ : Unit) => [cell p 87 #[.pointer (some ⟨dk, 0, none⟩), .int .i64 (lim : Int), sv], Vec 92 2 encSg sv svs, MksE svs]) := by
 refine d_ins (args := [.pointer (some ⟨p, 0, none⟩)]) 14 Tryz.func17 rfl rfl rfl ?_; intro w rs
 refine d_reg ?_
 refine h_q hflT rfl ?_
 refine h_done (d_seq (d_reg ?_))
 refine h_q hflT rfl ?_
 refine h_val rfl (.pointer (some ⟨p, 0, none⟩)) (fun b w hb hH => by exact xNc rfl rfl hb) ?_
 refine h_q hflT rfl ?_
 refine h_val rfl (sv) (fun b w hb hH => xLd rfl rfl (rOn tySs rfl) (hH.row 0 rfl) hb) ?_
 refine h_val rfl (.int .i64 ((n + 1 : Nat) : Int)) (fun b w hb hH => e_vlenN 1 hn Tryz.underlying85 rfl rfl rfl hH hb) ?_
 refine h_val rfl (.bool false) (fun b w hb hH => xCm rfl rfl rfl (cEf (by omega)) hb) ?_
 refine h_done (d_else rfl (d_skip (f_to (d_reg ?_))))
 refine h_q hflT rfl ?_
 refine h_act (post := fun _ => [cell p 87 #[.pointer (some ⟨dk, 0, none⟩), .int .i64 (lim : Int), sv], Vec 92 2 encSg sv svs, MksE svs]) rfl (a_does (os' := fun _ => [cell p 87 #[.pointer (some ⟨dk, 0, none⟩), .int .i64 (lim : Int), sv], Vec 92 2 encSg sv svs, MksE svs]) [0, 1] 0 (ent_of Tryz.func49 (by kernel_rfl) rfl) (tail_does hn (by omega)) rfl rfl rfl (fun _ => rfl) rfl rfl rfl) ?_; rintro ⟨⟩
 refine h_val rfl (elp sv (n * 2)) (fun b w hb hH => e_vnil 1 rfl (j := n) (List.getElem?_eq_some_iff.1 hx).1 rfl rfl hH hb) ?_
 refine h_val rfl (.agg (encSg x).toArray) (fun b w hb hH => e_sagg okSg (by decide) (hH.vec 1 rfl okSg) (j := n) hx ty_seg_segment rfl rfl hb) ?_
 refine h_act (post := fun _ => [cell p 87 #[.pointer (some ⟨dk, 0, none⟩), .int .i64 (lim : Int), sv], Vec 92 2 encSg sv svs, MksE svs]) rfl (a_call (ent_of Tryz.func52 (by kernel_rfl) rfl) (fun w hH => last_c w hl0 hl2 hf (mks_rd 2 rfl hx hH)) rfl rfl rfl) ?_; rintro ⟨⟩
 refine h_q hflT rfl ?_
 refine h_done (d_ret ?_)
 exact f_fin1 (.tmp rfl) (fun w h => tells () rfl [0, 1, 2] rfl h sPr) rfl
theorem cut_none {p dk lim n r : Nat} {ss : SegsM} {D : Nat → DiskD} (tb : Tb) (hl : ss.length ≤ 1000000) (hn64 : n ≤ 18446744073709551615) (hdel : ∀ (i f : Nat) (l : List (Int × Nat)), 0 ≤ i → ss[i]? = some (f, l) → n ≤ f ∧ f ≤ 72057594037927935 ∧ (D (i + 1)).fit ∧ delD (D (i + 1)) (nameL f) = (D i, 0)) : Does Tryz.prog 16 #[.pointer (some ⟨p, 0, none⟩), .int .u64 (n : Int)] [LogT p dk lim ss, DiskT dk (D ss.length), TabZ tb] (fun (_ : Unit) => .int .i64 0) (fun (_ : Unit) => [LogT p dk lim ([]), DiskT dk (D 0), TabZ tb]) := by
  refine d_ins (args := [.pointer (some ⟨p, 0, none⟩), .int .u64 (n : Int)]) 78 Tryz.func16 rfl rfl rfl ?_; intro w rs
  refine d_reg ?_
  refine h_q hflT rfl ?_
  refine h_done (d_seq (d_block ?_))
  refine WC2.mid [LogT p dk lim (ss.take ss.length), DiskT dk (D ss.length), TabZ tb] (by rw [List.take_length]) ?_
  refine d_loop (α := Nat) (fun j => [(0, .pointer (some ⟨p, 0, none⟩)), (1, .int .u64 (n : Int)), (4, .int .i64 0)]) (fun j => [LogT p dk lim (ss.take j), DiskT dk (D j), TabZ tb]) (fun j => 0 ≤ j ∧ j ≤ ss.length) (fun j => j) ss.length ⟨Nat.zero_le _, Nat.le_refl _⟩ ⟨rfl, rfl, rfl, trivial⟩ rfl ?_
  rintro j hI
  refine WC2.at_ (env' := [(0, .pointer (some ⟨p, 0, none⟩)), (1, .int .u64 (n : Int)), (4, .int .i64 0)]) (rs' := [LogT p dk lim (ss.take j), DiskT dk (D j), TabZ tb]) ⟨rfl, rfl, rfl, trivial⟩ rfl ?_
  refine d_seq ?_
  rcases Nat.lt_or_ge 0 j with hjN | hjN
  · skip
    obtain ⟨i, rfl⟩ : ∃ i, j = i + 1 := ⟨j - 1, by omega⟩
    obtain ⟨⟨f, l⟩, hfl⟩ : ∃ y, ss[i]? = some y := ⟨_, List.getElem?_eq_getElem (by omega)⟩
    have htk : ss.take (i + 1) = ss.take i ++ [(f, l)] := by rw [List.take_add_one, hfl]; rfl
    have hil : (ss.take i).length = i := by rw [List.length_take]; omega
    obtain ⟨hnf, hfb1, hfd, hdd⟩ := hdel i f l (by omega) hfl
    refine d_open 0 rfl LogT.open_ (fun _ => rfl) ?_; rintro ⟨sv, svs⟩
    refine WC2.fact 3 rfl (fun _ h => h.2) ?_; rintro hm
    refine WC2.leave [3] rfl rfl ?_
    replace hm : svs.map SegV.m = ss.take (i + 1) := hm
    obtain ⟨x, hx, hxf, hxl, hn⟩ := segs_last (htk ▸ hm)
    rw [hil] at hx hn
    refine d_reg ?_
    refine h_q hflT rfl ?_
    refine h_val rfl (.pointer (some ⟨p, 0, none⟩)) (fun b w hb hH => by exact xNc rfl rfl hb) ?_
    refine h_q hflT rfl ?_
    refine h_val rfl (sv) (fun b w hb hH => xLd rfl rfl (rOn tySs rfl) (hH.row 0 rfl) hb) ?_
    refine h_val rfl (.int .i64 ((i + 1 : Nat) : Int)) (fun b w hb hH => e_vlenN 1 hn Tryz.underlying85 rfl rfl rfl hH hb) ?_
    refine h_val rfl (.bool true) (fun b w hb hH => xCm rfl rfl rfl (cmp_gtr_t (by omega)) hb) ?_
    refine h_q hflT rfl ?_
    refine h_act (post := fun _ => [cell p 87 #[.pointer (some ⟨dk, 0, none⟩), .int .i64 (lim : Int), sv], Vec 92 2 encSg sv svs, MksE svs, DiskT dk (D (i + 1)), TabZ tb]) rfl (a_does (os' := fun _ => [cell p 87 #[.pointer (some ⟨dk, 0, none⟩), .int .i64 (lim : Int), sv], Vec 92 2 encSg sv svs, MksE svs, DiskT dk (D (i + 1)), TabZ tb]) [0, 1] 0 (ent_of Tryz.func49 (by kernel_rfl) rfl) (tail_does hn (by omega)) rfl rfl rfl (fun _ => rfl) rfl rfl rfl) ?_; rintro ⟨⟩
    refine h_val rfl (elp sv (i * 2)) (fun b w hb hH => e_vnil 1 rfl (j := i) (List.getElem?_eq_some_iff.1 hx).1 rfl rfl hH hb) ?_
    refine h_val rfl (elp sv (i * 2 + 0)) (fun b w hb hH => eSf okSg (by decide) (hH.vec 1 rfl okSg) (j := i) hx fd_seg_segment_0 rfl rfl hb) ?_
    refine h_val rfl (.int .u64 (x.f : Int)) (fun b w hb hH => e_sload okSg (by decide) (hH.vec 1 rfl okSg) (j := i) hx ty_uint64 (off := 0) rfl rfl rfl hb) ?_
    refine h_q hflT rfl ?_
    refine h_val rfl (.bool true) (fun b w hb hH => xCm rfl rfl rfl (cmp_geq_t (by omega)) hb) ?_
    refine h_q hflT rfl ?_
    refine h_done (d_then rfl (d_skip (f_to (d_block ?_))))
    refine d_close [0, 1, 2] rfl (logT_mk hm) rfl ?_
    refine WC2.keep (env' := [(0, .pointer (some ⟨p, 0, none⟩)), (1, .int .u64 (n : Int)), (4, .int .i64 0), (9, .pointer (some ⟨p, 0, none⟩)), (10, .pointer (some ⟨p, 0, none⟩)), (11, .pointer (some ⟨p, 2, none⟩)), (12, sv), (13, .int .i64 ((i + 1 : Nat) : Int)), (14, .bool true), (15, .bool true), (16, .pointer (some ⟨p, 0, none⟩)), (17, elp sv (i * 2)), (18, elp sv (i * 2)), (19, elp sv (i * 2 + 0)), (20, .int .u64 (x.f : Int)), (21, .int .u64 (n : Int)), (22, .bool true), (23, .bool true)]) ⟨rfl, rfl, rfl, rfl, rfl, rfl, rfl, rfl, rfl, rfl, rfl, rfl, rfl, rfl, rfl, rfl, rfl, rfl, trivial⟩ ?_
    refine WC2.mid [LogT p dk lim (ss.take (i + 1)), DiskT dk (D (i + 1)), TabZ tb] (.refl _) ?_
    refine d_reg ?_
    refine h_q hflT rfl ?_
    refine h_act (post := fun _ => [LogT p dk lim (ss.take i), DiskT dk (D i), TabZ tb]) rfl (a_does (os' := fun _ => [LogT p dk lim (ss.take i), DiskT dk (D i), TabZ tb]) [0, 1, 2] 0 (ent_of Tryz.func50 (by kernel_rfl) rfl) (removeTail_at hfl hl hfb1 tb hfd hdd) rfl rfl rfl (fun _ => rfl) rfl rfl rfl) ?_; rintro ⟨⟩
    refine h_q hflT rfl ?_
    refine h_done (d_reg ?_)
    refine h_q hflT rfl ?_
    refine h_val rfl (.bool false) (fun b w hb hH => xCm rfl rfl rfl (cmp_neq_f (by decide)) hb) ?_
    refine h_done (d_else rfl (d_skip (f_block ?_)))
    exact f_again i 0 ⟨by omega, by omega⟩ (show i < i + 1 by omega) ⟨rfl, rfl, rfl, trivial⟩ rfl
  · skip
    obtain rfl : j = 0 := by omega
    refine WC2.keep (env' := [(0, .pointer (some ⟨p, 0, none⟩)), (1, .int .u64 (n : Int)), (4, .int .i64 0)]) ⟨rfl, rfl, rfl, trivial⟩ ?_
    refine WC2.mid [LogT p dk lim ([]), DiskT dk (D 0), TabZ tb] (.refl _) ?_
    refine d_open 0 rfl LogT.open_ (fun _ => rfl) ?_; rintro ⟨sv, svs⟩
    refine WC2.fact 3 rfl (fun _ h => h.2) ?_; rintro hm
    refine WC2.leave [3] rfl rfl ?_
    replace hm : svs.map SegV.m = [] := hm
    have hn : svs.length = 0 := by have := congrArg List.length hm; simpa using this
    refine d_reg ?_
    refine h_q hflT rfl ?_
    refine h_val rfl (.pointer (some ⟨p, 0, none⟩)) (fun b w hb hH => by exact xNc rfl rfl hb) ?_
    refine h_q hflT rfl ?_
    refine h_val rfl (sv) (fun b w hb hH => xLd rfl rfl (rOn tySs rfl) (hH.row 0 rfl) hb) ?_
    refine h_val rfl (.int .i64 ((0 : Nat) : Int)) (fun b w hb hH => e_vlenN 1 hn Tryz.underlying85 rfl rfl rfl hH hb) ?_
    refine h_val rfl (.bool false) (fun b w hb hH => xCm rfl rfl rfl (cmp_gtr_f (by omega)) hb) ?_
    refine h_q hflT rfl ?_
    refine h_done (d_else rfl (d_exit (fTe (fTe (f_block_exit (f_to (d_seq (d_reg ?_))))))))
    refine h_q hflT rfl ?_
    refine h_val rfl (.pointer (some ⟨p, 0, none⟩)) (fun b w hb hH => by exact xNc rfl rfl hb) ?_
    refine h_q hflT rfl ?_
    refine h_val rfl (sv) (fun b w hb hH => xLd rfl rfl (rOn tySs rfl) (hH.row 0 rfl) hb) ?_
    refine h_val rfl (.int .i64 ((0 : Nat) : Int)) (fun b w hb hH => e_vlenN 1 hn Tryz.underlying85 rfl rfl rfl hH hb) ?_
    refine h_val rfl (.bool true) (fun b w hb hH => xCm rfl rfl rfl (cEt (by omega)) hb) ?_
    refine h_q hflT rfl ?_
    refine h_done (d_then rfl (d_reg ?_))
    refine h_q hflT rfl ?_
    refine h_done (d_ret (fTr ?_))
    exact f_fin1 (.tmp rfl) (fun w h => tells () rfl [0, 1, 2, 3, 4] rfl h (fun z hz => parts_log hm z hz)) rfl
theorem cut_gap {p dk lim n r : Nat} {ss : SegsM} {D : Nat → DiskD} (tb : Tb) (hl : ss.length ≤ 1000000) (hn64 : n ≤ 18446744073709551615) (hdel : ∀ (i f : Nat) (l : List (Int × Nat)), r + 1 ≤ i → ss[i]? = some (f, l) → n ≤ f ∧ f ≤ 72057594037927935 ∧ (D (i + 1)).fit ∧ delD (D (i + 1)) (nameL f) = (D i, 0)) {f0 : Nat} {l0 : List (Int × Nat)} (hsr : ss[r]? = some (f0, l0)) (hf0 : f0 < n) (hfb : f0 ≤ 72057594037927935) (h0 : l0 ≠ []) (hl0 : l0.length ≤ 1000000) (hgap : f0 + l0.length ≤ n) : Does Tryz.prog 16 #[.pointer (some ⟨p, 0, none⟩), .int .u64 (n : Int)] [LogT p dk lim ss, DiskT dk (D ss.length), TabZ tb] (fun (_ : Unit) => .int .i64 0) (fun (_ : Unit) => [LogT p dk lim (ss.take (r + 1)), DiskT dk (D (r + 1)), TabZ tb]) := by
  refine d_ins (args := [.pointer (some ⟨p, 0, none⟩), .int .u64 (n : Int)]) 78 Tryz.func16 rfl rfl rfl ?_; intro w rs
  refine d_reg ?_
  refine h_q hflT rfl ?_
  refine h_done (d_seq (d_block ?_))
  refine WC2.mid [LogT p dk lim (ss.take ss.length), DiskT dk (D ss.length), TabZ tb] (by rw [List.take_length]) ?_
  refine d_loop (α := Nat) (fun j => [(0, .pointer (some ⟨p, 0, none⟩)), (1, .int .u64 (n : Int)), (4, .int .i64 0)]) (fun j => [LogT p dk lim (ss.take j), DiskT dk (D j), TabZ tb]) (fun j => r + 1 ≤ j ∧ j ≤ ss.length) (fun j => j) ss.length ⟨(List.getElem?_eq_some_iff.1 hsr).1, Nat.le_refl _⟩ ⟨rfl, rfl, rfl, trivial⟩ rfl ?_
  rintro j hI
  refine WC2.at_ (env' := [(0, .pointer (some ⟨p, 0, none⟩)), (1, .int .u64 (n : Int)), (4, .int .i64 0)]) (rs' := [LogT p dk lim (ss.take j), DiskT dk (D j), TabZ tb]) ⟨rfl, rfl, rfl, trivial⟩ rfl ?_
  refine d_seq ?_
  rcases Nat.lt_or_ge (r + 1) j with hjN | hjN
  · skip
    obtain ⟨i, rfl⟩ : ∃ i, j = i + 1 := ⟨j - 1, by omega⟩
    obtain ⟨⟨f, l⟩, hfl⟩ : ∃ y, ss[i]? = some y := ⟨_, List.getElem?_eq_getElem (by omega)⟩
    have htk : ss.take (i + 1) = ss.take i ++ [(f, l)] := by rw [List.take_add_one, hfl]; rfl
    have hil : (ss.take i).length = i := by rw [List.length_take]; omega
    obtain ⟨hnf, hfb1, hfd, hdd⟩ := hdel i f l (by omega) hfl
    refine d_open 0 rfl LogT.open_ (fun _ => rfl) ?_; rintro ⟨sv, svs⟩
    refine WC2.fact 3 rfl (fun _ h => h.2) ?_; rintro hm
    refine WC2.leave [3] rfl rfl ?_
    replace hm : svs.map SegV.m = ss.take (i + 1) := hm
    obtain ⟨x, hx, hxf, hxl, hn⟩ := segs_last (htk ▸ hm)
    rw [hil] at hx hn
    refine d_reg ?_
    refine h_q hflT rfl ?_
    refine h_val rfl (.pointer (some ⟨p, 0, none⟩)) (fun b w hb hH => by exact xNc rfl rfl hb) ?_
    refine h_q hflT rfl ?_
    refine h_val rfl (sv) (fun b w hb hH => xLd rfl rfl (rOn tySs rfl) (hH.row 0 rfl) hb) ?_
    refine h_val rfl (.int .i64 ((i + 1 : Nat) : Int)) (fun b w hb hH => e_vlenN 1 hn Tryz.underlying85 rfl rfl rfl hH hb) ?_
    refine h_val rfl (.bool true) (fun b w hb hH => xCm rfl rfl rfl (cmp_gtr_t (by omega)) hb) ?_
    refine h_q hflT rfl ?_
    refine h_act (post := fun _ => [cell p 87 #[.pointer (some ⟨dk, 0, none⟩), .int .i64 (lim : Int), sv], Vec 92 2 encSg sv svs, MksE svs, DiskT dk (D (i + 1)), TabZ tb]) rfl (a_does (os' := fun _ => [cell p 87 #[.pointer (some ⟨dk, 0, none⟩), .int .i64 (lim : Int), sv], Vec 92 2 encSg sv svs, MksE svs, DiskT dk (D (i + 1)), TabZ tb]) [0, 1] 0 (ent_of Tryz.func49 (by kernel_rfl) rfl) (tail_does hn (by omega)) rfl rfl rfl (fun _ => rfl) rfl rfl rfl) ?_; rintro ⟨⟩
    refine h_val rfl (elp sv (i * 2)) (fun b w hb hH => e_vnil 1 rfl (j := i) (List.getElem?_eq_some_iff.1 hx).1 rfl rfl hH hb) ?_
    refine h_val rfl (elp sv (i * 2 + 0)) (fun b w hb hH => eSf okSg (by decide) (hH.vec 1 rfl okSg) (j := i) hx fd_seg_segment_0 rfl rfl hb) ?_
    refine h_val rfl (.int .u64 (x.f : Int)) (fun b w hb hH => e_sload okSg (by decide) (hH.vec 1 rfl okSg) (j := i) hx ty_uint64 (off := 0) rfl rfl rfl hb) ?_
    refine h_q hflT rfl ?_
    refine h_val rfl (.bool true) (fun b w hb hH => xCm rfl rfl rfl (cmp_geq_t (by omega)) hb) ?_
    refine h_q hflT rfl ?_
    refine h_done (d_then rfl (d_skip (f_to (d_block ?_))))
    refine d_close [0, 1, 2] rfl (logT_mk hm) rfl ?_
    refine WC2.keep (env' := [(0, .pointer (some ⟨p, 0, none⟩)), (1, .int .u64 (n : Int)), (4, .int .i64 0), (9, .pointer (some ⟨p, 0, none⟩)), (10, .pointer (some ⟨p, 0, none⟩)), (11, .pointer (some ⟨p, 2, none⟩)), (12, sv), (13, .int .i64 ((i + 1 : Nat) : Int)), (14, .bool true), (15, .bool true), (16, .pointer (some ⟨p, 0, none⟩)), (17, elp sv (i * 2)), (18, elp sv (i * 2)), (19, elp sv (i * 2 + 0)), (20, .int .u64 (x.f : Int)), (21, .int .u64 (n : Int)), (22, .bool true), (23, .bool true)]) ⟨rfl, rfl, rfl, rfl, rfl, rfl, rfl, rfl, rfl, rfl, rfl, rfl, rfl, rfl, rfl, rfl, rfl, rfl, trivial⟩ ?_
    refine WC2.mid [LogT p dk lim (ss.take (i + 1)), DiskT dk (D (i + 1)), TabZ tb] (.refl _) ?_
    refine d_reg ?_
    refine h_q hflT rfl ?_
    refine h_act (post := fun _ => [LogT p dk lim (ss.take i), DiskT dk (D i), TabZ tb]) rfl (a_does (os' := fun _ => [LogT p dk lim (ss.take i), DiskT dk (D i), TabZ tb]) [0, 1, 2] 0 (ent_of Tryz.func50 (by kernel_rfl) rfl) (removeTail_at hfl hl hfb1 tb hfd hdd) rfl rfl rfl (fun _ => rfl) rfl rfl rfl) ?_; rintro ⟨⟩
    refine h_q hflT rfl ?_
    refine h_done (d_reg ?_)
    refine h_q hflT rfl ?_
    refine h_val rfl (.bool false) (fun b w hb hH => xCm rfl rfl rfl (cmp_neq_f (by decide)) hb) ?_
    refine h_done (d_else rfl (d_skip (f_block ?_)))
    exact f_again i 0 ⟨by omega, by omega⟩ (show i < i + 1 by omega) ⟨rfl, rfl, rfl, trivial⟩ rfl
  · skip
    obtain rfl : j = r + 1 := by omega
    have hrl := (List.getElem?_eq_some_iff.1 hsr).1
    have htk : ss.take (r + 1) = ss.take r ++ [(f0, l0)] := by rw [List.take_add_one, hsr]; rfl
    have hil : (ss.take r).length = r := by rw [List.length_take]; omega
    have hl0p : 0 < l0.length := List.length_pos_iff.2 h0
    refine d_open 0 rfl LogT.open_ (fun _ => rfl) ?_; rintro ⟨sv, svs⟩
    refine WC2.fact 3 rfl (fun _ h => h.2) ?_; rintro hm
    refine WC2.leave [3] rfl rfl ?_
    replace hm : svs.map SegV.m = ss.take (r + 1) := hm
    rw [htk] at hm
    obtain ⟨x, hx, rfl, rfl, hn⟩ := segs_last hm
    rw [hil] at hx hn
    have hjl : r < svs.length := (List.getElem?_eq_some_iff.1 hx).1
    refine d_reg ?_
    refine h_q hflT rfl ?_
    refine h_val rfl (.pointer (some ⟨p, 0, none⟩)) (fun b w hb hH => by exact xNc rfl rfl hb) ?_
    refine h_q hflT rfl ?_
    refine h_val rfl (sv) (fun b w hb hH => xLd rfl rfl (rOn tySs rfl) (hH.row 0 rfl) hb) ?_
    refine h_val rfl (.int .i64 ((r + 1 : Nat) : Int)) (fun b w hb hH => e_vlenN 1 hn Tryz.underlying85 rfl rfl rfl hH hb) ?_
    refine h_val rfl (.bool true) (fun b w hb hH => xCm rfl rfl rfl (cmp_gtr_t (by omega)) hb) ?_
    refine h_q hflT rfl ?_
    refine h_act (post := fun _ => [cell p 87 #[.pointer (some ⟨dk, 0, none⟩), .int .i64 (lim : Int), sv], Vec 92 2 encSg sv svs, MksE svs, DiskT dk (D (r + 1)), TabZ tb]) rfl (a_does (os' := fun _ => [cell p 87 #[.pointer (some ⟨dk, 0, none⟩), .int .i64 (lim : Int), sv], Vec 92 2 encSg sv svs, MksE svs, DiskT dk (D (r + 1)), TabZ tb]) [0, 1] 0 (ent_of Tryz.func49 (by kernel_rfl) rfl) (tail_does hn (by omega)) rfl rfl rfl (fun _ => rfl) rfl rfl rfl) ?_; rintro ⟨⟩
    refine h_val rfl (elp sv (r * 2)) (fun b w hb hH => e_vnil 1 rfl (j := r) (List.getElem?_eq_some_iff.1 hx).1 rfl rfl hH hb) ?_
    refine h_val rfl (elp sv (r * 2 + 0)) (fun b w hb hH => eSf okSg (by decide) (hH.vec 1 rfl okSg) (j := r) hx fd_seg_segment_0 rfl rfl hb) ?_
    refine h_val rfl (.int .u64 (x.f : Int)) (fun b w hb hH => e_sload okSg (by decide) (hH.vec 1 rfl okSg) (j := r) hx ty_uint64 (off := 0) rfl rfl rfl hb) ?_
    refine h_q hflT rfl ?_
    refine h_val rfl (.bool false) (fun b w hb hH => xCm rfl rfl rfl (cmp_geq_f (by omega)) hb) ?_
    refine h_q hflT rfl ?_
    refine h_done (d_else rfl (d_exit (fTe (fTe (f_block_exit (f_to (d_seq (d_reg ?_))))))))
    refine h_q hflT rfl ?_
    refine h_val rfl (.pointer (some ⟨p, 0, none⟩)) (fun b w hb hH => by exact xNc rfl rfl hb) ?_
    refine h_q hflT rfl ?_
    refine h_val rfl (sv) (fun b w hb hH => xLd rfl rfl (rOn tySs rfl) (hH.row 0 rfl) hb) ?_
    refine h_val rfl (.int .i64 ((r + 1 : Nat) : Int)) (fun b w hb hH => e_vlenN 1 hn Tryz.underlying85 rfl rfl rfl hH hb) ?_
    refine h_val rfl (.bool false) (fun b w hb hH => xCm rfl rfl rfl (cEf (by omega)) hb) ?_
    refine h_q hflT rfl ?_
    refine h_act (post := fun _ => [cell p 87 #[.pointer (some ⟨dk, 0, none⟩), .int .i64 (lim : Int), sv], Vec 92 2 encSg sv svs, MksE svs, DiskT dk (D (r + 1)), TabZ tb]) rfl (a_does (os' := fun _ => [cell p 87 #[.pointer (some ⟨dk, 0, none⟩), .int .i64 (lim : Int), sv], Vec 92 2 encSg sv svs, MksE svs, DiskT dk (D (r + 1)), TabZ tb]) [0, 1, 2] 0 (ent_of Tryz.func17 (by kernel_rfl) rfl) (last_doesO hn hx (by omega) hl0p hl0 hfb) rfl rfl rfl (fun _ => rfl) rfl rfl rfl) ?_; rintro ⟨⟩
    refine h_q hflT rfl ?_
    refine h_val rfl (.bool true) (fun b w hb hH => xCm rfl rfl rfl (cmp_lss_t (by omega)) hb) ?_
    refine h_q hflT rfl ?_
    refine h_done (d_then rfl (d_reg ?_))
    refine h_q hflT rfl ?_
    refine h_done (d_ret (fTr ?_))
    exact f_fin1 (.tmp rfl) (fun w h => tells () rfl [0, 1, 2, 3, 4] rfl h (fun z hz => parts_log (hm.trans htk.symm) z hz)) rfl
theorem cut_in {p dk lim n r : Nat} {ss : SegsM} {D : Nat → DiskD} (tb : Tb) (hl : ss.length ≤ 1000000) (hn64 : n ≤ 18446744073709551615) (hdel : ∀ (i f : Nat) (l : List (Int × Nat)), r + 1 ≤ i → ss[i]? = some (f, l) → n ≤ f ∧ f ≤ 72057594037927935 ∧ (D (i + 1)).fit ∧ delD (D (i + 1)) (nameL f) = (D i, 0)) {f0 : Nat} {l0 : List (Int × Nat)} (hsr : ss[r]? = some (f0, l0)) (hf0 : f0 < n) (hfb : f0 ≤ 72057594037927935) (h0 : l0 ≠ []) (hl0 : l0.length ≤ 1000000) (hin : n < f0 + l0.length) {d' : DiskD} {m : Int × Nat} (hm1 : l0[n - f0 - 1]? = some m) (hfit : (D (r + 1)).fit) (hcut : cutD (D (r + 1)) (nameL f0) (m.2 : Int) = (d', 0)) : Does Tryz.prog 16 #[.pointer (some ⟨p, 0, none⟩), .int .u64 (n : Int)] [LogT p dk lim ss, DiskT dk (D ss.length), TabZ tb] (fun (_ : Unit) => .int .i64 0) (fun (_ : Unit) => [LogT p dk lim (ss.take r ++ [(f0, l0.take (n - f0))]), DiskT dk d', TabZ tb]) := by
  refine d_ins (args := [.pointer (some ⟨p, 0, none⟩), .int .u64 (n : Int)]) 78 Tryz.func16 rfl rfl rfl ?_; intro w rs
  refine d_reg ?_
  refine h_q hflT rfl ?_
  refine h_done (d_seq (d_block ?_))
  refine WC2.mid [LogT p dk lim (ss.take ss.length), DiskT dk (D ss.length), TabZ tb] (by rw [List.take_length]) ?_
  refine d_loop (α := Nat) (fun j => [(0, .pointer (some ⟨p, 0, none⟩)), (1, .int .u64 (n : Int)), (4, .int .i64 0)]) (fun j => [LogT p dk lim (ss.take j), DiskT dk (D j), TabZ tb]) (fun j => r + 1 ≤ j ∧ j ≤ ss.length) (fun j => j) ss.length ⟨(List.getElem?_eq_some_iff.1 hsr).1, Nat.le_refl _⟩ ⟨rfl, rfl, rfl, trivial⟩ rfl ?_
  rintro j hI
  refine WC2.at_ (env' := [(0, .pointer (some ⟨p, 0, none⟩)), (1, .int .u64 (n : Int)), (4, .int .i64 0)]) (rs' := [LogT p dk lim (ss.take j), DiskT dk (D j), TabZ tb]) ⟨rfl, rfl, rfl, trivial⟩ rfl ?_
  refine d_seq ?_
  rcases Nat.lt_or_ge (r + 1) j with hjN | hjN
  · skip
    obtain ⟨i, rfl⟩ : ∃ i, j = i + 1 := ⟨j - 1, by omega⟩
    obtain ⟨⟨f, l⟩, hfl⟩ : ∃ y, ss[i]? = some y := ⟨_, List.getElem?_eq_getElem (by omega)⟩
    have htk : ss.take (i + 1) = ss.take i ++ [(f, l)] := by rw [List.take_add_one, hfl]; rfl
    have hil : (ss.take i).length = i := by rw [List.length_take]; omega
    obtain ⟨hnf, hfb1, hfd, hdd⟩ := hdel i f l (by omega) hfl
    refine d_open 0 rfl LogT.open_ (fun _ => rfl) ?_; rintro ⟨sv, svs⟩
    refine WC2.fact 3 rfl (fun _ h => h.2) ?_; rintro hm
    refine WC2.leave [3] rfl rfl ?_
    replace hm : svs.map SegV.m = ss.take (i + 1) := hm
    obtain ⟨x, hx, hxf, hxl, hn⟩ := segs_last (htk ▸ hm)
    rw [hil] at hx hn
    refine d_reg ?_
    refine h_q hflT rfl ?_
    refine h_val rfl (.pointer (some ⟨p, 0, none⟩)) (fun b w hb hH => by exact xNc rfl rfl hb) ?_
    refine h_q hflT rfl ?_
    refine h_val rfl (sv) (fun b w hb hH => xLd rfl rfl (rOn tySs rfl) (hH.row 0 rfl) hb) ?_
    refine h_val rfl (.int .i64 ((i + 1 : Nat) : Int)) (fun b w hb hH => e_vlenN 1 hn Tryz.underlying85 rfl rfl rfl hH hb) ?_
    refine h_val rfl (.bool true) (fun b w hb hH => xCm rfl rfl rfl (cmp_gtr_t (by omega)) hb) ?_
    refine h_q hflT rfl ?_
    refine h_act (post := fun _ => [cell p 87 #[.pointer (some ⟨dk, 0, none⟩), .int .i64 (lim : Int), sv], Vec 92 2 encSg sv svs, MksE svs, DiskT dk (D (i + 1)), TabZ tb]) rfl (a_does (os' := fun _ => [cell p 87 #[.pointer (some ⟨dk, 0, none⟩), .int .i64 (lim : Int), sv], Vec 92 2 encSg sv svs, MksE svs, DiskT dk (D (i + 1)), TabZ tb]) [0, 1] 0 (ent_of Tryz.func49 (by kernel_rfl) rfl) (tail_does hn (by omega)) rfl rfl rfl (fun _ => rfl) rfl rfl rfl) ?_; rintro ⟨⟩
    refine h_val rfl (elp sv (i * 2)) (fun b w hb hH => e_vnil 1 rfl (j := i) (List.getElem?_eq_some_iff.1 hx).1 rfl rfl hH hb) ?_
    refine h_val rfl (elp sv (i * 2 + 0)) (fun b w hb hH => eSf okSg (by decide) (hH.vec 1 rfl okSg) (j := i) hx fd_seg_segment_0 rfl rfl hb) ?_
    refine h_val rfl (.int .u64 (x.f : Int)) (fun b w hb hH => e_sload okSg (by decide) (hH.vec 1 rfl okSg) (j := i) hx ty_uint64 (off := 0) rfl rfl rfl hb) ?_
    refine h_q hflT rfl ?_
    refine h_val rfl (.bool true) (fun b w hb hH => xCm rfl rfl rfl (cmp_geq_t (by omega)) hb) ?_
    refine h_q hflT rfl ?_
    refine h_done (d_then rfl (d_skip (f_to (d_block ?_))))
    refine d_close [0, 1, 2] rfl (logT_mk hm) rfl ?_
    refine WC2.keep (env' := [(0, .pointer (some ⟨p, 0, none⟩)), (1, .int .u64 (n : Int)), (4, .int .i64 0), (9, .pointer (some ⟨p, 0, none⟩)), (10, .pointer (some ⟨p, 0, none⟩)), (11, .pointer (some ⟨p, 2, none⟩)), (12, sv), (13, .int .i64 ((i + 1 : Nat) : Int)), (14, .bool true), (15, .bool true), (16, .pointer (some ⟨p, 0, none⟩)), (17, elp sv (i * 2)), (18, elp sv (i * 2)), (19, elp sv (i * 2 + 0)), (20, .int .u64 (x.f : Int)), (21, .int .u64 (n : Int)), (22, .bool true), (23, .bool true)]) ⟨rfl, rfl, rfl, rfl, rfl, rfl, rfl, rfl, rfl, rfl, rfl, rfl, rfl, rfl, rfl, rfl, rfl, rfl, trivial⟩ ?_
    refine WC2.mid [LogT p dk lim (ss.take (i + 1)), DiskT dk (D (i + 1)), TabZ tb] (.refl _) ?_
    refine d_reg ?_
    refine h_q hflT rfl ?_
    refine h_act (post := fun _ => [LogT p dk lim (ss.take i), DiskT dk (D i), TabZ tb]) rfl (a_does (os' := fun _ => [LogT p dk lim (ss.take i), DiskT dk (D i), TabZ tb]) [0, 1, 2] 0 (ent_of Tryz.func50 (by kernel_rfl) rfl) (removeTail_at hfl hl hfb1 tb hfd hdd) rfl rfl rfl (fun _ => rfl) rfl rfl rfl) ?_; rintro ⟨⟩
    refine h_q hflT rfl ?_
    refine h_done (d_reg ?_)
    refine h_q hflT rfl ?_
    refine h_val rfl (.bool false) (fun b w hb hH => xCm rfl rfl rfl (cmp_neq_f (by decide)) hb) ?_
    refine h_done (d_else rfl (d_skip (f_block ?_)))
    exact f_again i 0 ⟨by omega, by omega⟩ (show i < i + 1 by omega) ⟨rfl, rfl, rfl, trivial⟩ rfl
  · skip
    obtain rfl : j = r + 1 := by omega
    have hrl := (List.getElem?_eq_some_iff.1 hsr).1
    have htk : ss.take (r + 1) = ss.take r ++ [(f0, l0)] := by rw [List.take_add_one, hsr]; rfl
    have hil : (ss.take r).length = r := by rw [List.length_take]; omega
    have hl0p : 0 < l0.length := List.length_pos_iff.2 h0
    refine d_open 0 rfl LogT.open_ (fun _ => rfl) ?_; rintro ⟨sv, svs⟩
    refine WC2.fact 3 rfl (fun _ h => h.2) ?_; rintro hm
    refine WC2.leave [3] rfl rfl ?_
    replace hm : svs.map SegV.m = ss.take (r + 1) := hm
    rw [htk] at hm
    obtain ⟨x, hx, rfl, rfl, hn⟩ := segs_last hm
    rw [hil] at hx hn
    have hjl : r < svs.length := (List.getElem?_eq_some_iff.1 hx).1
    refine d_reg ?_
    refine h_q hflT rfl ?_
    refine h_val rfl (.pointer (some ⟨p, 0, none⟩)) (fun b w hb hH => by exact xNc rfl rfl hb) ?_
    refine h_q hflT rfl ?_
    refine h_val rfl (sv) (fun b w hb hH => xLd rfl rfl (rOn tySs rfl) (hH.row 0 rfl) hb) ?_
    refine h_val rfl (.int .i64 ((r + 1 : Nat) : Int)) (fun b w hb hH => e_vlenN 1 hn Tryz.underlying85 rfl rfl rfl hH hb) ?_
    refine h_val rfl (.bool true) (fun b w hb hH => xCm rfl rfl rfl (cmp_gtr_t (by omega)) hb) ?_
    refine h_q hflT rfl ?_
    refine h_act (post := fun _ => [cell p 87 #[.pointer (some ⟨dk, 0, none⟩), .int .i64 (lim : Int), sv], Vec 92 2 encSg sv svs, MksE svs, DiskT dk (D (r + 1)), TabZ tb]) rfl (a_does (os' := fun _ => [cell p 87 #[.pointer (some ⟨dk, 0, none⟩), .int .i64 (lim : Int), sv], Vec 92 2 encSg sv svs, MksE svs, DiskT dk (D (r + 1)), TabZ tb]) [0, 1] 0 (ent_of Tryz.func49 (by kernel_rfl) rfl) (tail_does hn (by omega)) rfl rfl rfl (fun _ => rfl) rfl rfl rfl) ?_; rintro ⟨⟩
    refine h_val rfl (elp sv (r * 2)) (fun b w hb hH => e_vnil 1 rfl (j := r) (List.getElem?_eq_some_iff.1 hx).1 rfl rfl hH hb) ?_
    refine h_val rfl (elp sv (r * 2 + 0)) (fun b w hb hH => eSf okSg (by decide) (hH.vec 1 rfl okSg) (j := r) hx fd_seg_segment_0 rfl rfl hb) ?_
    refine h_val rfl (.int .u64 (x.f : Int)) (fun b w hb hH => e_sload okSg (by decide) (hH.vec 1 rfl okSg) (j := r) hx ty_uint64 (off := 0) rfl rfl rfl hb) ?_
    refine h_q hflT rfl ?_
    refine h_val rfl (.bool false) (fun b w hb hH => xCm rfl rfl rfl (cmp_geq_f (by omega)) hb) ?_
    refine h_q hflT rfl ?_
    refine h_done (d_else rfl (d_exit (fTe (fTe (f_block_exit (f_to (d_seq (d_reg ?_))))))))
    refine h_q hflT rfl ?_
    refine h_val rfl (.pointer (some ⟨p, 0, none⟩)) (fun b w hb hH => by exact xNc rfl rfl hb) ?_
    refine h_q hflT rfl ?_
    refine h_val rfl (sv) (fun b w hb hH => xLd rfl rfl (rOn tySs rfl) (hH.row 0 rfl) hb) ?_
    refine h_val rfl (.int .i64 ((r + 1 : Nat) : Int)) (fun b w hb hH => e_vlenN 1 hn Tryz.underlying85 rfl rfl rfl hH hb) ?_
    refine h_val rfl (.bool false) (fun b w hb hH => xCm rfl rfl rfl (cEf (by omega)) hb) ?_
    refine h_q hflT rfl ?_
    refine h_act (post := fun _ => [cell p 87 #[.pointer (some ⟨dk, 0, none⟩), .int .i64 (lim : Int), sv], Vec 92 2 encSg sv svs, MksE svs, DiskT dk (D (r + 1)), TabZ tb]) rfl (a_does (os' := fun _ => [cell p 87 #[.pointer (some ⟨dk, 0, none⟩), .int .i64 (lim : Int), sv], Vec 92 2 encSg sv svs, MksE svs, DiskT dk (D (r + 1)), TabZ tb]) [0, 1, 2] 0 (ent_of Tryz.func17 (by kernel_rfl) rfl) (last_doesO hn hx (by omega) hl0p hl0 hfb) rfl rfl rfl (fun _ => rfl) rfl rfl rfl) ?_; rintro ⟨⟩
    refine h_q hflT rfl ?_
    refine h_val rfl (.bool false) (fun b w hb hH => xCm rfl rfl rfl (cmp_lss_f (by omega)) hb) ?_
    refine h_q hflT rfl ?_
    refine h_done (d_else rfl (d_skip (f_to (d_reg ?_))))
    refine h_q hflT rfl ?_
    refine h_act (post := fun _ => [cell p 87 #[.pointer (some ⟨dk, 0, none⟩), .int .i64 (lim : Int), sv], Vec 92 2 encSg sv svs, MksE svs, DiskT dk (D (r + 1)), TabZ tb]) rfl (a_does (os' := fun _ => [cell p 87 #[.pointer (some ⟨dk, 0, none⟩), .int .i64 (lim : Int), sv], Vec 92 2 encSg sv svs, MksE svs, DiskT dk (D (r + 1)), TabZ tb]) [0, 1] 0 (ent_of Tryz.func49 (by kernel_rfl) rfl) (tail_does hn (by omega)) rfl rfl rfl (fun _ => rfl) rfl rfl rfl) ?_; rintro ⟨⟩
    refine h_q hflT rfl ?_
    refine h_done ?_
    refine d_open 2 rfl (mks_open hx) (fun _ => rfl) ?_; rintro ⟨⟩
    refine WC2.fact 1 rfl vec_capK ?_; rintro hcap
    have htl : (x.l.take (n - x.f)).length = n - x.f := by rw [List.length_take]; omega
    have hsub2 : subv 2 (.slice x.A x.l.length x.c) 0 (n - x.f) = .slice x.A (x.l.take (n - x.f)).length x.c := by rw [htl]; exact subTakeK
    have hm1c : (x.l.take (n - x.f))[n - x.f - 1]? = some m := by rw [List.getElem?_take, if_pos (by omega)]; exact hm1
    refine WC2.keep (env' := [(0, .pointer (some ⟨p, 0, none⟩)), (1, .int .u64 (n : Int)), (4, .int .i64 0), (9, .pointer (some ⟨p, 0, none⟩)), (10, .pointer (some ⟨p, 0, none⟩)), (11, .pointer (some ⟨p, 2, none⟩)), (12, sv), (13, .int .i64 ((r + 1 : Nat) : Int)), (14, .bool true), (15, .bool true), (16, .pointer (some ⟨p, 0, none⟩)), (17, elp sv (r * 2)), (18, elp sv (r * 2)), (19, elp sv (r * 2 + 0)), (20, .int .u64 (x.f : Int)), (21, .int .u64 (n : Int)), (22, .bool false), (23, .bool false), (29, .pointer (some ⟨p, 0, none⟩)), (30, .pointer (some ⟨p, 0, none⟩)), (31, .pointer (some ⟨p, 2, none⟩)), (32, sv), (33, .int .i64 ((r + 1 : Nat) : Int)), (34, .bool false), (35, .bool false), (36, .pointer (some ⟨p, 0, none⟩)), (37, .int .u64 ((x.f + x.l.length - 1 : Nat) : Int)), (38, .int .u64 (n : Int)), (39, .bool false), (40, .bool false), (41, .pointer (some ⟨p, 0, none⟩)), (42, elp sv (r * 2)), (6, elp sv (r * 2))]) ⟨rfl, rfl, rfl, rfl, rfl, rfl, rfl, rfl, rfl, rfl, rfl, rfl, rfl, rfl, rfl, rfl, rfl, rfl, rfl, rfl, rfl, rfl, rfl, rfl, rfl, rfl, rfl, rfl, rfl, rfl, rfl, rfl, rfl, trivial⟩ ?_
    refine WC2.mid [Each (fun x : SegV => Vec 104 2 encMk x.v x.l) (svs.take r), Vec 104 2 encMk (.slice x.A x.l.length x.c) x.l, Each (fun x : SegV => Vec 104 2 encMk x.v x.l) (svs.drop (r + 1)), cell p 87 #[.pointer (some ⟨dk, 0, none⟩), .int .i64 (lim : Int), sv], Vec 92 2 encSg sv svs, DiskT dk (D (r + 1)), TabZ tb] (.refl _) ?_
    refine d_seq ?_
    refine d_parS 11 0 [⟨.quiet, [], fun _ => elp sv (r * 2), []⟩, ⟨.quiet, [], fun _ => elp sv (r * 2), [0]⟩, ⟨.quiet, [], fun _ => elp sv (r * 2 + 1), [1]⟩, ⟨.quiet, [], fun _ => .slice x.A x.l.length x.c, [2]⟩, ⟨.quiet, [], fun _ => .int .u64 (n : Int), []⟩, ⟨.quiet, [], fun _ => elp sv (r * 2), []⟩, ⟨.quiet, [], fun _ => elp sv (r * 2), [5]⟩, ⟨.quiet, [], fun _ => elp sv (r * 2 + 0), [6]⟩, ⟨.quiet, [], fun _ => .int .u64 (x.f : Int), [7]⟩, ⟨.quiet, [], fun _ => .int .u64 ((n - x.f : Nat) : Int), [4, 8]⟩, ⟨.quiet, [], fun _ => .slice x.A (x.l.take (n - x.f)).length x.c, [3, 9]⟩] [(0, .pointer (some ⟨p, 0, none⟩)), (1, .int .u64 (n : Int)), (4, .int .i64 0), (6, elp sv (r * 2))] (fun _ => [Each (fun x : SegV => Vec 104 2 encMk x.v x.l) (svs.take r), Vec 104 2 encMk (.slice x.A x.l.length x.c) x.l, Each (fun x : SegV => Vec 104 2 encMk x.v x.l) (svs.drop (r + 1)), cell p 87 #[.pointer (some ⟨dk, 0, none⟩), .int .i64 (lim : Int), sv], Vec 92 2 encSg sv svs, DiskT dk (D (r + 1)), TabZ tb]) (by kernel_rfl) (by kernel_rfl) ⟨rfl, rfl, rfl, rfl, trivial⟩ rfl ?_ ?_
    · skip
      refine s_cons (by exact ⟨rfl, fun b w hH hb => exec_q1 hflT rfl hb⟩) ?_
      refine s_cons (by exact ⟨rfl, fun b w hH hb => e_vnil 4 rfl (j := r) (List.getElem?_eq_some_iff.1 hx).1 rfl rfl hH hb⟩) ?_
      refine s_cons (by exact ⟨rfl, fun b w hH hb => eSf okSg (by decide) (hH.vec 4 rfl okSg) (j := r) hx fd_seg_segment_1 rfl rfl hb⟩) ?_
      refine s_cons (by exact ⟨rfl, fun b w hH hb => e_sload okSg (by decide) (hH.vec 4 rfl okSg) (j := r) hx ty_s_seg_mark (off := 1) rfl rfl rfl hb⟩) ?_
      refine s_cons (by exact ⟨rfl, fun b w hH hb => exec_q1 hflT rfl hb⟩) ?_
      refine s_cons (by exact ⟨rfl, fun b w hH hb => exec_q1 hflT rfl hb⟩) ?_
      refine s_cons (by exact ⟨rfl, fun b w hH hb => e_vnil 4 rfl (j := r) (List.getElem?_eq_some_iff.1 hx).1 rfl rfl hH hb⟩) ?_
      refine s_cons (by exact ⟨rfl, fun b w hH hb => eSf okSg (by decide) (hH.vec 4 rfl okSg) (j := r) hx fd_seg_segment_0 rfl rfl hb⟩) ?_
      refine s_cons (by exact ⟨rfl, fun b w hH hb => e_sload okSg (by decide) (hH.vec 4 rfl okSg) (j := r) hx ty_uint64 (off := 0) rfl rfl rfl hb⟩) ?_
      refine s_cons (by exact ⟨rfl, fun b w hH hb => exec_ar rfl rfl rfl rfl (by rw [IntWalk.u64_in _ (by omega)]; omega) hb⟩) ?_
      refine s_cons (by exact ⟨rfl, fun b w hH hb => e_sub_hi (j := n - x.f) sl_seg_mark hsub2 (by omega) rfl rfl rfl hH hb⟩) ?_
      exact s_nil
    refine WL2.keep (env' := [(0, .pointer (some ⟨p, 0, none⟩)), (4, .int .i64 0), (6, elp sv (r * 2)), (53, .slice x.A (x.l.take (n - x.f)).length x.c)]) ⟨rfl, rfl, rfl, rfl, trivial⟩ ?_
    refine h_q hflT rfl ?_
    refine h_nil (f_to (d_seq ?_))
    refine d_close [1] rfl (vec_cutK okMk (j := n - x.f) (by omega)) rfl ?_
    refine WC2.keep (env' := [(0, .pointer (some ⟨p, 0, none⟩)), (4, .int .i64 0), (6, elp sv (r * 2)), (53, .slice x.A (x.l.take (n - x.f)).length x.c), (7, .slice x.A (x.l.take (n - x.f)).length x.c)]) ⟨rfl, rfl, rfl, rfl, rfl, trivial⟩ ?_
    refine WC2.mid [Vec 104 2 encMk (.slice x.A (x.l.take (n - x.f)).length x.c) (x.l.take (n - x.f)), Each (fun x : SegV => Vec 104 2 encMk x.v x.l) (svs.take r), Each (fun x : SegV => Vec 104 2 encMk x.v x.l) (svs.drop (r + 1)), cell p 87 #[.pointer (some ⟨dk, 0, none⟩), .int .i64 (lim : Int), sv], Vec 92 2 encSg sv svs, DiskT dk (D (r + 1)), TabZ tb] (.refl _) ?_
    refine d_seq ?_
    refine d_parS 17 2 [⟨.quiet, [none, none], fun _ => .pointer (some ⟨p, 0, none⟩), []⟩, ⟨.quiet, [none, none], fun _ => .pointer (some ⟨p, 0, none⟩), [0]⟩, ⟨.quiet, [none, none], fun _ => .pointer (some ⟨p, 0, none⟩), [1]⟩, ⟨.quiet, [none, none], fun _ => .pointer (some ⟨dk, 0, none⟩), [2]⟩, ⟨.quiet, [none, none], fun _ => elp sv (r * 2), []⟩, ⟨.quiet, [none, none], fun _ => elp sv (r * 2), [4]⟩, ⟨.quiet, [none, none], fun _ => elp sv (r * 2 + 0), [5]⟩, ⟨.quiet, [none, none], fun _ => .int .u64 (x.f : Int), [6]⟩, ⟨.actv 0, [some false, some false], fun _ => .string (bs (nameL x.f)), [7]⟩, ⟨.quiet, [none, none], fun _ => .slice x.A (x.l.take (n - x.f)).length x.c, []⟩, ⟨.quiet, [none, none], fun _ => .slice x.A (x.l.take (n - x.f)).length x.c, []⟩, ⟨.quiet, [none, none], fun _ => .int .i64 (((x.l.take (n - x.f)).length) : Int), [10]⟩, ⟨.quiet, [none, none], fun _ => .int .i64 ((n - x.f - 1 : Nat) : Int), [11]⟩, ⟨.quiet, [none, none], fun _ => elp (.slice x.A (x.l.take (n - x.f)).length x.c) ((n - x.f - 1) * 2), [9, 12]⟩, ⟨.quiet, [none, none], fun _ => elp (.slice x.A (x.l.take (n - x.f)).length x.c) ((n - x.f - 1) * 2 + 1), [13]⟩, ⟨.quiet, [none, none], fun _ => .int .i64 (m.2 : Int), [14]⟩, ⟨.actv 1, [some true, some false], fun _ => .int .i64 0, [3, 8, 15]⟩] [(0, .pointer (some ⟨p, 0, none⟩)), (4, .int .i64 0), (6, elp sv (r * 2)), (7, .slice x.A (x.l.take (n - x.f)).length x.c)] (fun ρ => match ρ with | [r0, r1] => [Vec 104 2 encMk (.slice x.A (x.l.take (n - x.f)).length x.c) (x.l.take (n - x.f)), Each (fun x : SegV => Vec 104 2 encMk x.v x.l) (svs.take r), Each (fun x : SegV => Vec 104 2 encMk x.v x.l) (svs.drop (r + 1)), cell p 87 #[.pointer (some ⟨dk, 0, none⟩), .int .i64 (lim : Int), sv], Vec 92 2 encSg sv svs, selS r1 (fun _ => DiskT dk d') (DiskT dk (D (r + 1))), TabZ tb] | _ => []) (by kernel_rfl) (by kernel_rfl) ⟨rfl, rfl, rfl, rfl, trivial⟩ rfl ?_ ?_
    · skip
      refine s_cons (by intro r0_ r1_; exact ⟨rfl, fun b w hH hb => exec_q1 hflT rfl hb⟩) ?_
      refine s_cons (by intro r0_ r1_; exact ⟨rfl, fun b w hH hb => by exact xNc rfl rfl hb⟩) ?_
      refine s_cons (by intro r0_ r1_; exact ⟨rfl, fun b w hH hb => exec_q1 hflT rfl hb⟩) ?_
      refine s_cons (by intro r0_ r1_; exact ⟨rfl, fun b w hH hb => xLd rfl rfl (rOn ty_p_disk_Disk rfl) (hH.row 3 rfl) hb⟩) ?_
      refine s_cons (by intro r0_ r1_; exact ⟨rfl, fun b w hH hb => exec_q1 hflT rfl hb⟩) ?_
      refine s_cons (by intro r0_ r1_; exact ⟨rfl, fun b w hH hb => e_vnil 4 rfl (j := r) (List.getElem?_eq_some_iff.1 hx).1 rfl rfl hH hb⟩) ?_
      refine s_cons (by intro r0_ r1_; exact ⟨rfl, fun b w hH hb => eSf okSg (by decide) (hH.vec 4 rfl okSg) (j := r) hx fd_seg_segment_0 rfl rfl hb⟩) ?_
      refine s_cons (by intro r0_ r1_; exact ⟨rfl, fun b w hH hb => e_sload okSg (by decide) (hH.vec 4 rfl okSg) (j := r) hx ty_uint64 (off := 0) rfl rfl rfl hb⟩) ?_
      refine s_cons (by exact ⟨rfl, Acts.su (a_does (os' := fun _ => [Vec 104 2 encMk (.slice x.A (x.l.take (n - x.f)).length x.c) (x.l.take (n - x.f)), Each (fun x : SegV => Vec 104 2 encMk x.v x.l) (svs.take r), Each (fun x : SegV => Vec 104 2 encMk x.v x.l) (svs.drop (r + 1)), cell p 87 #[.pointer (some ⟨dk, 0, none⟩), .int .i64 (lim : Int), sv], Vec 92 2 encSg sv svs, DiskT dk (D (r + 1)), TabZ tb]) [6] 0 (ent_of Tryz.func19 (by kernel_rfl) rfl) (name_does tb (n := x.f) (by omega)) rfl rfl rfl (fun _ => rfl) rfl rfl rfl) rfl⟩) ?_
      refine s_cons (by intro r0_ r1_; exact ⟨rfl, fun b w hH hb => exec_q1 hflT rfl hb⟩) ?_
      refine s_cons (by intro r0_ r1_; exact ⟨rfl, fun b w hH hb => exec_q1 hflT rfl hb⟩) ?_
      refine s_cons (by intro r0_ r1_; exact ⟨rfl, fun b w hH hb => e_len sl_seg_mark rfl rfl hH hb⟩) ?_
      refine s_cons (by intro r0_ r1_; exact ⟨rfl, fun b w hH hb => exec_ar rfl rfl rfl rfl (by rw [IntWalk.i64_in _ (by omega)]; omega) hb⟩) ?_
      refine s_cons (by intro r0_ r1_; exact ⟨rfl, fun b w hH hb => e_vidx 0 sl_seg_mark okMk rfl (n - x.f - 1) (by omega) rfl rfl rfl hH hb⟩) ?_
      refine s_cons (by intro r0_ r1_; exact ⟨rfl, fun b w hH hb => eSf okMk (by decide) (hH.vec 0 rfl okMk) (j := (n - x.f - 1)) hm1c fd_seg_mark_1 rfl rfl hb⟩) ?_
      refine s_cons (by intro r0_ r1_; exact ⟨rfl, fun b w hH hb => e_sload okMk (by decide) (hH.vec 0 rfl okMk) (j := (n - x.f - 1)) hm1c ty_int (off := 1) rfl rfl rfl hb⟩) ?_
      refine s_cons (by intro v0_; exact ⟨rfl, Acts.su (a_does (os' := fun _ => [Vec 104 2 encMk (.slice x.A (x.l.take (n - x.f)).length x.c) (x.l.take (n - x.f)), Each (fun x : SegV => Vec 104 2 encMk x.v x.l) (svs.take r), Each (fun x : SegV => Vec 104 2 encMk x.v x.l) (svs.drop (r + 1)), cell p 87 #[.pointer (some ⟨dk, 0, none⟩), .int .i64 (lim : Int), sv], Vec 92 2 encSg sv svs, DiskT dk d', TabZ tb]) [5] 0 (ent_of Tryz.func51 (by kernel_rfl) rfl) (disk_truncate hfit hcut) rfl rfl rfl (fun _ => rfl) rfl rfl rfl) rfl⟩) ?_
      exact s_nil
    intro v0_ v1_
    refine WL2.keep (env' := [(4, .int .i64 0), (6, elp sv (r * 2)), (7, .slice x.A (x.l.take (n - x.f)).length x.c), (70, .int .i64 0)]) ⟨rfl, rfl, rfl, rfl, trivial⟩ ?_
    refine h_q hflT rfl ?_
    refine h_nil (f_to (d_reg ?_))
    refine h_q hflT rfl ?_
    refine h_val rfl (.bool false) (fun b w hb hH => xCm rfl rfl rfl (cmp_neq_f (by decide)) hb) ?_
    refine h_done (d_else rfl (d_skip (f_to (d_reg ?_))))
    refine h_q hflT rfl ?_
    refine h_val rfl (elp sv (r * 2)) (fun b w hb hH => e_vnil 4 rfl (j := r) (List.getElem?_eq_some_iff.1 hx).1 rfl rfl hH hb) ?_
    refine h_val rfl (elp sv (r * 2 + 1)) (fun b w hb hH => eSf okSg (by decide) (hH.vec 4 rfl okSg) (j := r) hx fd_seg_segment_1 rfl rfl hb) ?_
    refine h_acts (post := fun _ => [Vec 104 2 encMk (.slice x.A (x.l.take (n - x.f)).length x.c) (x.l.take (n - x.f)), Each (fun x : SegV => Vec 104 2 encMk x.v x.l) (svs.take r), Each (fun x : SegV => Vec 104 2 encMk x.v x.l) (svs.drop (r + 1)), cell p 87 #[.pointer (some ⟨dk, 0, none⟩), .int .i64 (lim : Int), sv], Vec 92 2 encSg sv (svs.set r (⟨x.f, x.l.take (n - x.f), x.A, x.c⟩ : SegV)), DiskT dk d', TabZ tb]) rfl rfl (a_vstore 4 okSg rfl r (a := x) (b := (⟨x.f, x.l.take (n - x.f), x.A, x.c⟩ : SegV)) hx ty_s_seg_mark.2 rfl rfl (by decide) rfl rfl rfl rfl rfl) ?_; rintro ⟨⟩
    refine h_done ?_
    refine d_close [1, 0, 2] rfl (mks_back (y := (⟨x.f, x.l.take (n - x.f), x.A, x.c⟩ : SegV)) hjl) rfl ?_
    refine WC2.keep (env' := [(4, .int .i64 0), (6, elp sv (r * 2)), (7, .slice x.A (x.l.take (n - x.f)).length x.c), (70, .int .i64 0), (8, .int .i64 0), (71, .int .i64 0), (72, .bool false), (74, elp sv (r * 2)), (75, .slice x.A (x.l.take (n - x.f)).length x.c), (76, elp sv (r * 2)), (77, elp sv (r * 2 + 1))]) ⟨rfl, rfl, rfl, rfl, rfl, rfl, rfl, rfl, rfl, rfl, rfl, trivial⟩ ?_
    refine WC2.mid [MksE (svs.set r (⟨x.f, x.l.take (n - x.f), x.A, x.c⟩ : SegV)), cell p 87 #[.pointer (some ⟨dk, 0, none⟩), .int .i64 (lim : Int), sv], Vec 92 2 encSg sv (svs.set r (⟨x.f, x.l.take (n - x.f), x.A, x.c⟩ : SegV)), DiskT dk d', TabZ tb] (.refl _) ?_
    refine d_reg ?_
    refine h_q hflT rfl ?_
    refine h_done (d_ret ?_)
    exact f_fin1 (.tmp rfl) (fun w h => tells () rfl [1, 2, 0, 3, 4] rfl h (fun z hz => parts_log (by have h9 := log_set (y := (⟨x.f, x.l.take (n - x.f), x.A, x.c⟩ : SegV)) hm; rw [hil] at h9; exact h9) z hz)) rfl
end Go.Proofs.YtaipejaeeohpkaaGreatDoor.Sep
namespace Go.Proofs.YtaipejaeeohpkaaGreatDoor.Sep
open Go.RowKit
theorem LogG.front {A B : LogMs} (h : LogG (A ++ B)) : LogG A := ⟨fun q hq => h.ne q (List.mem_append_left _ hq), by have := h.c; rw [allE_app] at this; exact this.front, fun q hq => h.hd q (List.mem_append_left _ hq), by have := h.many; rw [allE_app, List.length_append] at this; omega⟩
theorem LogD.del {d : DiskD} {M : LogMs} {q : Nat × List EntD} {w : Nat} (h : LogD d (M ++ [q]) w) : delD d (nameL q.1) = (doesD d (.del (nameL q.1)), 0) ∧ LogD (doesD d (.del (nameL q.1))) M (w + 1) := by
  have hq : q ∈ M ++ [q] := List.mem_append_right _ (List.mem_singleton.2 rfl)
  have hl := h.wl
  have hs := h.ws
  have hn := files_nodup h.g
  rw [filesM_app] at hn
  constructor
  · unfold delD
    rw [beginD_ok h.down h.fuse]
    simp only
    rw [if_neg (by simp), h.now, files_get h.g hq]
  · exact ⟨h.down, h.fuse, h.room, by show (d.wait ++ [_]).length ≤ _; rw [List.length_append]; simp only [List.length_cons, List.length_nil]; omega, by
      show usedF d.syn + ((d.wait ++ [OpD.del (nameL q.1)]).map OpD.size).sum ≤ _
      rw [List.map_append, List.sum_append]
      simp only [List.map_cons, List.map_nil, List.sum_cons, List.sum_nil, OpD.size]
      omega, by
      rw [now_does, h.now, filesM_app]
      exact del_last hn, h.g.front⟩
def leftD (d : DiskD) (M : LogMs) (j : Nat) : DiskD := (M.drop j).foldr (fun q d => doesD d (.del (nameL q.1))) d
theorem leftD_all (d : DiskD) (M : LogMs) : leftD d M M.length = d := by unfold leftD; rw [List.drop_length]; rfl
theorem leftD_step {d : DiskD} {M : LogMs} {j : Nat} {q : Nat × List EntD} (h : M[j]? = some q) : leftD d M j = doesD (leftD d M (j + 1)) (.del (nameL q.1)) := by
 unfold leftD
 rw [drop_at h]
 rfl
theorem take_snoc {M : LogMs} {j : Nat} {q : Nat × List EntD} (h : M[j]? = some q) : M.take (j + 1) = M.take j ++ [q] := by rw [List.take_add_one, h]; rfl
theorem LogD.left {d : DiskD} {M : LogMs} {w : Nat} (h : LogD d M w) : ∀ k j, j + k = M.length → LogD (leftD d M j) (M.take j) (w + k)
  | 0, j, hj => by
    have : j = M.length := by omega
    subst this
    rw [leftD_all, List.take_length]
    exact h
  | k + 1, j, hj => by
    have h1 := h.left k (j + 1) (by omega)
    obtain ⟨q, hq⟩ : ∃ q, M[j]? = some q := ⟨_, List.getElem?_eq_getElem (by omega)⟩
    rw [take_snoc hq] at h1
    rw [leftD_step hq]
    exact h1.del.2
theorem marks_at {M : LogMs} {i f : Nat} {l : List (Int × Nat)} (h : (marksOf M)[i]? = some (f, l)) : ∃ q, M[i]? = some q ∧ q.1 = f ∧ markL q.2 = l := by
  unfold marksOf at h
  rw [List.getElem?_map] at h
  cases hq : M[i]? with
  | none => rw [hq] at h; cases h
  | some q =>
    rw [hq] at h
    simp only [Option.map_some, Option.some.injEq, Prod.mk.injEq] at h
    exact ⟨q, rfl, h.1, h.2⟩
theorem marks_at' {M : LogMs} {i : Nat} {q : Nat × List EntD} (h : M[i]? = some q) : (marksOf M)[i]? = some (q.1, markL q.2) := by unfold marksOf; rw [List.getElem?_map, h]; rfl
theorem cut_where (n : Nat) : ∀ (k : Nat) (M : LogMs), M.length = k → ∃ k, k ≤ M.length ∧ (∀ i q, k ≤ i → M[i]? = some q → n ≤ q.1) ∧ (k = 0 ∨ ∃ r q, k = r + 1 ∧ M[r]? = some q ∧ q.1 < n)
  | 0, M, h => ⟨0, Nat.zero_le _, fun i q _ hq => by rw [List.length_eq_zero_iff.1 h] at hq; simp at hq, .inl rfl⟩
  | k + 1, M, h => by
    rcases nil_snoc M with rfl | ⟨M0, q, rfl⟩
    · simp at h
    · by_cases hq : q.1 < n
      · exact ⟨(M0 ++ [q]).length, Nat.le_refl _, fun i x hi hx => by have := (List.getElem?_eq_some_iff.1 hx).1; omega, .inr ⟨M0.length, q, by simp, by simp, hq⟩⟩
      · have hl : M0.length = k := by rw [List.length_append] at h; simp only [List.length_cons, List.length_nil] at h; omega
        obtain ⟨j, h1, h2, h3⟩ := cut_where n k M0 hl
        refine ⟨j, by rw [List.length_append]; omega, fun i x hi hx => ?_, ?_⟩
        · rcases Nat.lt_or_ge i M0.length with hlt | hge
          · rw [List.getElem?_append_left hlt] at hx
            exact h2 i x hi hx
          · rw [List.getElem?_append_right hge] at hx
            have : i - M0.length = 0 := by
              have := (List.getElem?_eq_some_iff.1 hx).1
              simp only [List.length_cons, List.length_nil] at this
              omega
            rw [this] at hx
            simp only [List.getElem?_cons_zero, Option.some.injEq] at hx
            rw [← hx]; omega
        · rcases h3 with h3 | ⟨r, x, h3, h4, h5⟩
          · exact .inl h3
          · exact .inr ⟨r, x, h3, by rw [List.getElem?_append_left (List.getElem?_eq_some_iff.1 h4).1]; exact h4, h5⟩
theorem LogG.behind {M : LogMs} (h : LogG M) {n k : Nat} (hk : ∀ i q, k ≤ i → M[i]? = some q → n ≤ q.1) {e : EntD} (he : e ∈ allE (M.drop k)) : (n : Int) ≤ e.i := by
  obtain ⟨q, hq, heq⟩ := List.mem_flatMap.1 he
  have hqM := List.mem_of_mem_drop hq
  obtain ⟨i, hi⟩ := List.getElem?_of_mem hq
  rw [List.getElem?_drop] at hi
  have h1 := hk (k + i) q (by omega) hi
  obtain ⟨e0, r0, h0⟩ := List.exists_cons_of_ne_nil (h.ne q hqM)
  have h2 := h.hd q hqM e0 r0 h0
  have h3 := h.seg hqM
  rw [h0] at h3 heq
  rcases List.mem_cons.1 heq with rfl | hm
  · omega
  · have := logC_lt h3 hm
    omega
theorem LogG.at_ {M : LogMs} (h : LogG M) {r : Nat} {q : Nat × List EntD} (hr : M[r]? = some q) {k : Nat} {e : EntD} (he : (allE M)[k]? = some e) : e.i + ((allE (M.take r)).length : Int) = (q.1 : Int) + (k : Int) := by
 have hqM := List.mem_of_getElem? hr
 obtain ⟨e0, r0, h0⟩ := List.exists_cons_of_ne_nil (h.ne q hqM)
 have h2 := h.hd q hqM e0 r0 h0
 have hL : allE M = allE (M.take r) ++ (q.2 ++ allE (M.drop (r + 1))) := by
  conv => lhs; rw [← List.take_append_drop r M, drop_at hr, allE_app]
  rfl
 have h4 : (allE M)[(allE (M.take r)).length]? = some e0 := by
  rw [hL, List.getElem?_append_right (Nat.le_refl _), Nat.sub_self, h0]; rfl
 have := logC_pos h.c h4 he
 omega
def CutTo (n : Nat) (L L' : List EntD) : Prop := ∃ c, L' = L.take c ∧ ∀ (k : Nat) (e : EntD), L[k]? = some e → (k < c ↔ e.i < (n : Int))
theorem bytes_take (es : List EntD) (k : Nat) : (bytesE es).take (bytesE (es.take k)).length = bytesE (es.take k) := by
 conv => lhs; rw [← List.take_append_drop k es]
 unfold bytesE
 rw [List.flatMap_append, List.take_append_drop, List.take_left]
theorem LogD.cut {lim w n : Nat} {d : DiskD} {M : LogMs} (tb : Tb) (h : LogD d M w) (hn64 : n ≤ 18446744073709551615) (hw : w + M.length ≤ 9999) : ∃ d' M', LogD d' M' (w + M.length + 1) ∧ CutTo n (allE M) (allE M') ∧ ∀ (p dk : Nat), Does Tryz.prog 16 #[.pointer (some ⟨p, 0, none⟩), .int .u64 (n : Int)] [LogT p dk lim (marksOf M), DiskT dk d, TabZ tb] (fun (_ : Unit) => .int .i64 0) (fun (_ : Unit) => [LogT p dk lim (marksOf M'), DiskT dk d', TabZ tb]) := by
  have hfew := h.g.few
  have hmany := h.g.many
  have hml : (marksOf M).length = M.length := by unfold marksOf; rw [List.length_map]
  obtain ⟨k, hk1, hk2, hk3⟩ := cut_where n M.length M rfl
  have hmono : ∀ {a b M'}, LogD a M' b → b ≤ w + M.length + 1 → LogD a M' (w + M.length + 1) := fun {a b M'} ha hb => ⟨ha.down, ha.fuse, ha.room, by have := ha.wl; omega, by have := ha.ws; omega, ha.now, ha.g⟩
  have hdel : ∀ (i f : Nat) (l : List (Int × Nat)), k ≤ i → (marksOf M)[i]? = some (f, l) → n ≤ f ∧ f ≤ 72057594037927935 ∧ (leftD d M (i + 1)).fit ∧ delD (leftD d M (i + 1)) (nameL f) = (leftD d M i, 0) := fun i f l hi hf => by
    obtain ⟨q, hq, rfl, rfl⟩ := marks_at hf
    have hil := (List.getElem?_eq_some_iff.1 hq).1
    have h1 := h.left (M.length - (i + 1)) (i + 1) (by omega)
    refine ⟨hk2 i q hi hq, (h.g.first (List.mem_of_getElem? hq)).2, h1.fit (by omega), ?_⟩
    rw [take_snoc hq] at h1
    rw [leftD_step hq]
    exact h1.del.1
  have hD0 := leftD_all d M
  have hfin : ∀ j, j ≤ M.length → LogD (leftD d M j) (M.take j) (w + M.length + 1) := fun j hj => hmono (h.left (M.length - j) j (by omega)) (by omega)
  rcases hk3 with rfl | ⟨r, q, rfl, hr, hqn⟩
  · refine ⟨leftD d M 0, [], by have := hfin 0 (Nat.zero_le _); rwa [List.take_zero] at this, ⟨0, rfl, fun i e he => ⟨fun hi => by omega, fun hi => ?_⟩⟩, fun p dk => ?_⟩
    · have h1 := h.g.behind (k := 0) hk2 (e := e) (by rw [List.drop_zero]; exact List.mem_of_getElem? he)
      omega
    · have h1 := cut_none (p := p) (dk := dk) (lim := lim) (n := n) (r := 0) (ss := marksOf M) (D := leftD d M) tb (by omega) hn64 hdel
      rw [hml, hD0] at h1
      exact h1
  · have hqM := List.mem_of_getElem? hr
    have hrl := (List.getElem?_eq_some_iff.1 hr).1
    have hq1 := h.g.first hqM
    have hqne := h.g.ne q hqM
    have hsp : allE M = allE (M.take (r + 1)) ++ allE (M.drop (r + 1)) := by rw [← allE_app, List.take_append_drop]
    have hsn : allE (M.take (r + 1)) = allE (M.take r) ++ q.2 := by rw [take_snoc hr, allE_app]; simp [allE]
    have hqlen : q.2.length ≤ 1000 := by rw [hsp, hsn] at hmany; simp only [List.length_append] at hmany; omega
    by_cases hgap : q.1 + q.2.length ≤ n
    · refine ⟨leftD d M (r + 1), M.take (r + 1), hfin (r + 1) hrl, ⟨(allE (M.take (r + 1))).length, by rw [hsp, List.take_left], fun i e he => ?_⟩, fun p dk => ?_⟩
      · constructor
        · intro hi
          have h1 := h.g.at_ hr he
          rw [hsn, List.length_append] at hi
          omega
        · intro hi
          refine Nat.lt_of_not_le fun hge => ?_
          rw [hsp, List.getElem?_append_right hge] at he
          have h1 := h.g.behind hk2 (List.mem_of_getElem? he)
          omega
      · have h1 := cut_gap (p := p) (dk := dk) (lim := lim) (n := n) (r := r) (ss := marksOf M) (D := leftD d M) tb (by omega) hn64 hdel (marks_at' hr) hqn hq1.2 (markL_nil hqne) (by rw [markL_len]; omega) (by rw [markL_len]; exact hgap)
        rw [hml, hD0] at h1
        rw [show marksOf (M.take (r + 1)) = (marksOf M).take (r + 1) by unfold marksOf; rw [List.map_take]]
        exact h1
    · have hin : n < q.1 + q.2.length := Nat.lt_of_not_le hgap
      have hkc : 0 < n - q.1 := by omega
      obtain ⟨t, x, htx⟩ : ∃ t x, q.2.take (n - q.1) = t ++ [x] := by
        rcases nil_snoc (q.2.take (n - q.1)) with h0 | h0
        · have := congrArg List.length h0
          rw [List.length_take] at this
          simp only [List.length_nil] at this
          omega
        · exact h0
      have htl : t.length + 1 = n - q.1 := by
        have := congrArg List.length htx
        rw [List.length_take, List.length_append] at this
        simp only [List.length_cons, List.length_nil] at this
        omega
      have hmt : markL (q.2.take (n - q.1)) = (markL q.2).take (n - q.1) := by
        have key : ∀ (es : List EntD) (o k : Nat), cumE o (es.take k) = (cumE o es).take k := by
          intro es
          induction es with
          | nil => intro o k; simp [cumE]
          | cons e r ih => intro o k; cases k with
            | zero => simp [cumE]
            | succ k => simp [cumE, ih]
        unfold markL
        rw [key, List.map_take]
      have hm1 : (markL q.2)[n - q.1 - 1]? = some (x.t, (bytesE (q.2.take (n - q.1))).length) := by
        have h1 : ((markL q.2).take (n - q.1))[n - q.1 - 1]? = some (x.t, (bytesE (q.2.take (n - q.1))).length) := by
          rw [← hmt]
          have h2 := markL_last t x
          rw [← htx, List.getLast?_eq_getElem?, markL_len, List.length_take] at h2
          rw [show n - q.1 - 1 = min (n - q.1) q.2.length - 1 by omega]
          exact h2
        rwa [List.getElem?_take, if_pos (by omega)] at h1
      have hD := h.left (M.length - (r + 1)) (r + 1) (by omega)
      have hDs := hD
      rw [take_snoc hr] at hDs
      have hqs : q ∈ M.take r ++ [q] := List.mem_append_right _ (List.mem_singleton.2 rfl)
      have hget := files_get hDs.g hqs
      have hnd := files_nodup hDs.g
      rw [filesM_app] at hnd
      have hble : (bytesE (q.2.take (n - q.1))).length ≤ (bytesE q.2).length := by
        have := congrArg List.length (bytes_take q.2 (n - q.1))
        rw [List.length_take] at this
        omega
      have hcut : cutD (leftD d M (r + 1)) (nameL q.1) (((bytesE (q.2.take (n - q.1))).length : Nat) : Int) = (doesD (leftD d M (r + 1)) (.cut (nameL q.1) (bytesE (q.2.take (n - q.1))).length), 0) := by
        unfold cutD
        rw [beginD_ok hD.down hD.fuse]
        simp only
        rw [if_neg (by simp), hDs.now, hget]
        simp only
        rw [if_neg (by omega)]
        rfl
      have hgood : LogG (M.take r ++ [(q.1, q.2.take (n - q.1))]) := by
        have hg := hDs.g
        have hall : allE (M.take r ++ [q]) = allE (M.take r ++ [(q.1, q.2.take (n - q.1))]) ++ q.2.drop (n - q.1) := by
          rw [allE_app, allE_app]
          simp [allE]
        refine ⟨fun y hy => ?_, by have := hg.c; rw [hall] at this; exact this.front, fun y hy e1 r1 hy1 => ?_, by have := hg.many; rw [hall, List.length_append] at this; omega⟩
        · rcases List.mem_append.1 hy with hy | hy
          · exact hg.ne y (List.mem_append_left _ hy)
          · rw [List.mem_singleton.1 hy]
            show q.2.take (n - q.1) ≠ []
            rw [htx]; simp
        · rcases List.mem_append.1 hy with hy | hy
          · exact hg.hd y (List.mem_append_left _ hy) e1 r1 hy1
          · rw [List.mem_singleton.1 hy] at hy1 ⊢
            obtain ⟨e0, r0, h0⟩ := List.exists_cons_of_ne_nil hqne
            have h2 := h.g.hd q hqM e0 r0 h0
            simp only at hy1 ⊢
            rw [h0] at hy1
            obtain ⟨c, hc⟩ : ∃ c, n - q.1 = c + 1 := ⟨n - q.1 - 1, by omega⟩
            rw [hc, List.take_succ_cons] at hy1
            simp only [List.cons.injEq] at hy1
            rw [← hy1.1]; exact h2
      refine ⟨doesD (leftD d M (r + 1)) (.cut (nameL q.1) (bytesE (q.2.take (n - q.1))).length), M.take r ++ [(q.1, q.2.take (n - q.1))], ?_, ⟨(allE (M.take r)).length + (n - q.1), ?_, fun i e he => ?_⟩, fun p dk => ?_⟩
      · have hl := hD.wl
        have hs := hD.ws
        exact ⟨hD.down, hD.fuse, hD.room, by
          show ((leftD d M (r + 1)).wait ++ [_]).length ≤ _
          rw [List.length_append]; simp only [List.length_cons, List.length_nil]; omega, by
          show usedF (leftD d M (r + 1)).syn + (((leftD d M (r + 1)).wait ++ [OpD.cut (nameL q.1) (bytesE (q.2.take (n - q.1))).length]).map OpD.size).sum ≤ _
          rw [List.map_append, List.sum_append]
          simp only [List.map_cons, List.map_nil, List.sum_cons, List.sum_nil, OpD.size]
          omega, by
          rw [now_does, hDs.now]
          show (match getM (filesM (M.take r ++ [q])) (nameL q.1) with | some x => putM (filesM (M.take r ++ [q])) (nameL q.1) (x.take (bytesE (q.2.take (n - q.1))).length) | none => filesM (M.take r ++ [q])) = _
          rw [hget]
          simp only
          rw [bytes_take, filesM_app]
          show putM (filesM (M.take r) ++ [(nameL q.1, bytesE q.2)]) _ _ = _
          rw [put_last hnd, filesM_app]
          rfl, hgood⟩
      · have hL : allE M = allE (M.take r) ++ (q.2 ++ allE (M.drop (r + 1))) := by rw [← List.append_assoc, ← hsn, ← hsp]
        have hle : n - q.1 ≤ q.2.length := by omega
        have e2 : ∀ (A R : List EntD), (A ++ (q.2 ++ R)).take (A.length + (n - q.1)) = A ++ q.2.take (n - q.1) := fun A R => by
          rw [List.take_append, List.take_of_length_le (Nat.le_add_right _ _), Nat.add_sub_cancel_left, List.take_append_of_le_length hle]
        have e3 := e2 (allE (M.take r)) (allE (M.drop (r + 1)))
        rw [← hL] at e3
        rw [e3, allE_app]
        simp [allE]
      · have h1 := h.g.at_ hr he
        omega
      · have h1 := cut_in (p := p) (dk := dk) (lim := lim) (n := n) (r := r) (ss := marksOf M) (D := leftD d M) tb (by omega) hn64 hdel (marks_at' hr) hqn hq1.2 (markL_nil hqne) (by rw [markL_len]; omega) (by rw [markL_len]; exact hin) hm1 (hD.fit (by omega)) hcut
        rw [hml, hD0] at h1
        rw [marksOf_app, show marksOf (M.take r) = (marksOf M).take r by unfold marksOf; rw [List.map_take], show marksOf [(q.1, q.2.take (n - q.1))] = [(q.1, (markL q.2).take (n - q.1))] by unfold marksOf; simp [hmt]]
        exact h1
end Go.Proofs.YtaipejaeeohpkaaGreatDoor.Sep
namespace Go.Proofs.YtaipejaeeohpkaaGreatDoor.Sep
open Go.RowKit
open Go.Proofs.YtaipejaeeohpkaaGreatDoor.Mem (Dist Blk Chg below0)
theorem seg_at {svs : List SegV} {ss : SegsM} {i f : Nat} {l : List (Int × Nat)} (hm : svs.map SegV.m = ss) (h : ss[i]? = some (f, l)) : ∃ x, svs[i]? = some x ∧ x.f = f ∧ x.l = l := by
  subst hm
  rw [List.getElem?_map] at h
  cases hx : svs[i]? with
  | none => rw [hx] at h; cases h
  | some x =>
    rw [hx] at h
    simp only [Option.map_some, Option.some.injEq, SegV.m, Prod.mk.injEq] at h
    exact ⟨x, rfl, h.1, h.2⟩
theorem first_at {p dk lim f : Nat} {ss : SegsM} {l : List (Int × Nat)} (h0 : ss[0]? = some (f, l)) (hl : ss.length ≤ 1000000) : Does Tryz.prog 18 #[.pointer (some ⟨p, 0, none⟩)] [LogT p dk lim ss] (fun (_ : Unit) => .int .u64 (f : Int)) (fun (_ : Unit) => [LogT p dk lim ss]) := by
 refine d_ins (args := [.pointer (some ⟨p, 0, none⟩)]) 16 Tryz.func18 rfl rfl rfl ?_; intro w rs
 refine d_open 0 rfl LogT.open_ (fun _ => rfl) ?_; rintro ⟨sv, svs⟩
 refine WC2.fact 3 rfl (fun _ h => h.2) ?_; rintro hm
 refine WC2.leave [3] rfl rfl ?_
 replace hm : svs.map SegV.m = ss := hm
 obtain ⟨x, hx, rfl, rfl⟩ := seg_at hm h0
 have hn : svs.length = ss.length := by have := congrArg List.length hm; simpa using this
 have h0l := (List.getElem?_eq_some_iff.1 h0).1
 have hx0 : 0 < svs.length := by omega
 refine d_reg ?_
 refine h_q hflT rfl ?_
 refine h_done (d_seq (d_reg ?_))
 refine h_q hflT rfl ?_
 refine h_val rfl (.pointer (some ⟨p, 0, none⟩)) (fun b w hb hH => by exact xNc rfl rfl hb) ?_
 refine h_q hflT rfl ?_
 refine h_val rfl (sv) (fun b w hb hH => xLd rfl rfl (rOn tySs rfl) (hH.row 0 rfl) hb) ?_
 refine h_val rfl (.int .i64 (ss.length : Int)) (fun b w hb hH => e_vlenN 1 hn Tryz.underlying85 rfl rfl rfl hH hb) ?_
 refine h_val rfl (.bool false) (fun b w hb hH => xCm rfl rfl rfl (cEf (by omega)) hb) ?_
 refine h_done (d_else rfl (d_skip (f_to (d_reg ?_))))
 refine h_q hflT rfl ?_
 refine h_val rfl (.pointer (some ⟨p, 0, none⟩)) (fun b w hb hH => by exact xNc rfl rfl hb) ?_
 refine h_q hflT rfl ?_
 refine h_val rfl (sv) (fun b w hb hH => xLd rfl rfl (rOn tySs rfl) (hH.row 0 rfl) hb) ?_
 refine h_val rfl (elp sv (0 * 2)) (fun b w hb hH => e_vidx 1 sl_seg_segment okSg rfl 0 hx0 rfl rfl rfl hH hb) ?_
 refine h_val rfl (elp sv (0 * 2 + 0)) (fun b w hb hH => eSf okSg (by decide) (hH.vec 1 rfl okSg) (j := 0) hx fd_seg_segment_0 rfl rfl hb) ?_
 refine h_val rfl (.int .u64 (x.f : Int)) (fun b w hb hH => e_sload okSg (by decide) (hH.vec 1 rfl okSg) (j := 0) hx ty_uint64 (off := 0) rfl rfl rfl hb) ?_
 refine h_q hflT rfl ?_
 refine h_done (d_ret ?_)
 exact f_fin1 (.tmp rfl) (fun w h => tells () rfl [0, 1, 2] rfl h (fun z hz => parts_log hm z hz)) rfl
end Go.Proofs.YtaipejaeeohpkaaGreatDoor.Sep
