/-
  SgH · SgCt · SgFi
-/
import Derived.Test.YtjcfimmcogkopaaGreatDoorWX01
import Derived.Test.YtjcfimmcogkopaaGreatDoorWN01
import Derived.Test.YtjcfimmcogkopaaGreatDoorWN03
import Derived.Test.YtjcfimmcogkopaaGreatDoorWO01
set_option linter.unusedSimpArgs false
set_option linter.unusedVariables false
set_option maxHeartbeats 4000000
set_option maxRecDepth 100000
namespace Go.Proofs.YtjcfimmcogkopaaGreatDoor.Sep
variable {D : Nat → DiskD} {d' : DiskD} {dk f0 lim p : Nat} {l0 : List (Int × Nat)} {ss : SegsM}
open Go.RowKit
open Go.Proofs.YtjcfimmcogkopaaGreatDoor.Mem (AG BC Chg Ak)
theorem C9 {i f : Nat} {l : List (Int × Nat)} {d : DiskD} (hfl : ss[i]? = some (f, l)) (hl : ss.length ≤ 1000000) (hf : f ≤ 72057594037927935) (tb : Tb) (hd : d.fit) (hdel : Ik d (nameL f) = (d', 0)) : AA Tryz.prog 87 #[.pointer (some ⟨p, 0, none⟩)] [Ao p dk lim (ss.take (i + 1)), Ab dk d, Aj tb] (fun (_ : Unit) => .int .i64 0) (fun (_ : Unit) => [Ao p dk lim (ss.take i), Ab dk d', Aj tb]) := by
 have htk : ss.take (i + 1) = ss.take i ++ [(f, l)] := by rw [List.take_add_one, hfl]; rfl
 rw [htk]
 exact K6 (by rw [List.length_take]; omega) hf tb hd hdel
theorem Mz {n : Nat} {sv : Value} {svs : List SegV} {x : SegV} (hn : svs.length = n + 1) (hx : svs[n]? = some x) (hl : n ≤ 1000000) (hl0 : 0 < x.l.length) (hl2 : x.l.length ≤ 1000000) (hf : x.f ≤ 72057594037927935) : AA Tryz.prog 33 #[.pointer (some ⟨p, 0, none⟩)] [cell p 76 #[.pointer (some ⟨dk, 0, none⟩), .int .i64 (lim : Int), sv], Af 83 2 encSg sv svs, AX svs] (fun (_ : Unit) => .int .u64 ((x.f + x.l.length - 1 : Nat) : Int)) (fun (_ : Unit) => [cell p 76 #[.pointer (some ⟨dk, 0, none⟩), .int .i64 (lim : Int), sv], Af 83 2 encSg sv svs, AX svs]) := by
 refine AP (args := [.pointer (some ⟨p, 0, none⟩)]) 14 Tryz.func33 rfl rfl rfl ?_; intro w rs
 refine Ce ?_
 refine Aa rfl (.int .i64 ((n + 1 : Nat) : Int)) (fun b w hb hH => A7 1 hn Tryz.underlying74 rfl rfl rfl hH hb) (Ce ?_)
 refine Am Ac rfl (CE [0, 1] (Bm hn (by omega)) ?_)
 refine Aa rfl (AN sv (n * 2)) (fun b w hb hH => A6 1 rfl (j := n) (List.getElem?_eq_some_iff.1 hx).1 rfl rfl hH hb) ?_
 refine Aa rfl (.agg (encSg x).toArray) (fun b w hb hH => CD CI (by decide) (hH.vec 1 rfl CI) (j := n) hx Bj rfl rfl hb) (FD (fun w hH => QT w hl0 hl2 hf (B6 2 rfl hx hH)) ?_)
 refine Aq ?_
 exact An (.tmp rfl) (fun w h => As () rfl [0, 1, 2] rfl h DK) rfl
theorem Vf {p dk lim n r : Nat} (tb : Tb) (hl : ss.length ≤ 1000000) (hn64 : n ≤ 18446744073709551615) (hdel : ∀ (i f : Nat) (l : List (Int × Nat)), 0 ≤ i → ss[i]? = some (f, l) → n ≤ f ∧ f ≤ 72057594037927935 ∧ (D (i + 1)).fit ∧ Ik (D (i + 1)) (nameL f) = (D i, 0)) : AA Tryz.prog 31 #[.pointer (some ⟨p, 0, none⟩), .int .u64 (n : Int)] [Ao p dk lim ss, Ab dk (D ss.length), Aj tb] (fun (_ : Unit) => .int .i64 0) (fun (_ : Unit) => [Ao p dk lim ([]), Ab dk (D 0), Aj tb]) := by
 refine AP (args := [.pointer (some ⟨p, 0, none⟩), .int .u64 (n : Int)]) 78 Tryz.func31 rfl rfl rfl ?_; intro w rs
 refine AV ?_
 refine AH.mid [Ao p dk lim (ss.take ss.length), Ab dk (D ss.length), Aj tb] (by rw [List.take_length]) (BT (α := Nat) (fun j => [(0, .pointer (some ⟨p, 0, none⟩)), (1, .int .u64 (n : Int)), (4, .int .i64 0)]) (fun j => [Ao p dk lim (ss.take j), Ab dk (D j), Aj tb]) (fun j => 0 ≤ j ∧ j ≤ ss.length) (fun j => j) ss.length ⟨Nat.zero_le _, Nat.le_refl _⟩ ⟨rfl, rfl, rfl, trivial⟩ rfl ?_)
 rintro j hI
 refine AH.at_ (env' := [(0, .pointer (some ⟨p, 0, none⟩)), (1, .int .u64 (n : Int)), (4, .int .i64 0)]) (rs' := [Ao p dk lim (ss.take j), Ab dk (D j), Aj tb]) ⟨rfl, rfl, rfl, trivial⟩ rfl (Bu ?_)
 rcases Nat.lt_or_ge 0 j with hjN | hjN
 obtain ⟨i, rfl⟩ : ∃ i, j = i + 1 := ⟨j - 1, by omega⟩
 obtain ⟨⟨f, l⟩, hfl⟩ : ∃ y, ss[i]? = some y := ⟨_, List.getElem?_eq_getElem (by omega)⟩
 have htk : ss.take (i + 1) = ss.take i ++ [(f, l)] := by rw [List.take_add_one, hfl]; rfl
 have hil : (ss.take i).length = i := by rw [List.length_take]; omega
 obtain ⟨hnf, hfb1, hfd, hdd⟩ := hdel i f l (by omega) hfl
 refine oC 0 Ao.open_ ?_; rintro ⟨sv, svs⟩
 refine AH.fact 3 rfl (fun _ h => h.2) ?_; rintro hm
 refine lC [3] ?_
 replace hm : svs.map SegV.m = ss.take (i + 1) := hm
 obtain ⟨x, hx, hxf, hxl, hn⟩ := BQ (htk ▸ hm)
 rw [hil] at hx hn
 refine AK ?_
 refine Aa rfl (.int .i64 ((i + 1 : Nat) : Int)) (fun b w hb hH => A7 1 hn Tryz.underlying74 rfl rfl rfl hH hb) (Ai ?_)
 refine Am Ac rfl (CE [0, 1] (Bm hn (by omega)) ?_)
 refine Aa rfl (AN sv (i * 2)) (fun b w hb hH => A6 1 rfl (j := i) (List.getElem?_eq_some_iff.1 hx).1 rfl rfl hH hb) ?_
 refine Eh ?_
 refine cC [0, 1, 2] (Ch hm) ?_
 refine kC [0, 1, 4, 9, 10, 11, 12, 13, 14, 15, 16, 17, 18, 19, 20, 21, 22, 23] ?_
 refine AH.mid [Ao p dk lim (ss.take (i + 1)), Ab dk (D (i + 1)), Aj tb] (.refl _) (Al (Am Ac rfl (CE [0, 1, 2] (C9 hfl hl hfb1 tb hfd hdd) ?_)))
 refine Dc ?_
 exact Br i 0 ⟨by omega, by omega⟩ (show i < i + 1 by omega) ⟨rfl, rfl, rfl, trivial⟩ rfl
 obtain rfl : j = 0 := by omega
 refine kC [0, 1, 4] ?_
 refine AH.mid [Ao p dk lim ([]), Ab dk (D 0), Aj tb] (.refl _) (oC 0 Ao.open_ ?_); rintro ⟨sv, svs⟩
 refine AH.fact 3 rfl (fun _ h => h.2) ?_; rintro hm
 refine lC [3] ?_
 replace hm : svs.map SegV.m = [] := hm
 have hn : svs.length = 0 := by have := congrArg List.length hm; simpa using this
 refine AK ?_
 refine Aa rfl (.int .i64 ((0 : Nat) : Int)) (fun b w hb hH => A7 1 hn Tryz.underlying74 rfl rfl rfl hH hb) (AK ?_)
 refine B2 (Eh ?_)
 refine Aa rfl (.int .i64 ((0 : Nat) : Int)) (fun b w hb hH => A7 1 hn Tryz.underlying74 rfl rfl rfl hH hb) (Dc ?_)
 exact An (.tmp rfl) (fun w h => As () rfl [0, 1, 2, 3, 4] rfl h (fun z hz => Cu hm z hz)) rfl
theorem WH {n r : Nat} (tb : Tb) (hl : ss.length ≤ 1000000) (hn64 : n ≤ 18446744073709551615) (hdel : ∀ (i f : Nat) (l : List (Int × Nat)), r + 1 ≤ i → ss[i]? = some (f, l) → n ≤ f ∧ f ≤ 72057594037927935 ∧ (D (i + 1)).fit ∧ Ik (D (i + 1)) (nameL f) = (D i, 0)) (hsr : ss[r]? = some (f0, l0)) (hf0 : f0 < n) (hfb : f0 ≤ 72057594037927935) (h0 : l0 ≠ []) (hl0 : l0.length ≤ 1000000) (hgap : f0 + l0.length ≤ n) : AA Tryz.prog 31 #[.pointer (some ⟨p, 0, none⟩), .int .u64 (n : Int)] [Ao p dk lim ss, Ab dk (D ss.length), Aj tb] (fun (_ : Unit) => .int .i64 0) (fun (_ : Unit) => [Ao p dk lim (ss.take (r + 1)), Ab dk (D (r + 1)), Aj tb]) := by
 refine AP (args := [.pointer (some ⟨p, 0, none⟩), .int .u64 (n : Int)]) 78 Tryz.func31 rfl rfl rfl ?_; intro w rs
 refine AV ?_
 refine AH.mid [Ao p dk lim (ss.take ss.length), Ab dk (D ss.length), Aj tb] (by rw [List.take_length]) ?_
 refine BT (α := Nat) (fun j => [(0, .pointer (some ⟨p, 0, none⟩)), (1, .int .u64 (n : Int)), (4, .int .i64 0)]) (fun j => [Ao p dk lim (ss.take j), Ab dk (D j), Aj tb]) (fun j => r + 1 ≤ j ∧ j ≤ ss.length) (fun j => j) ss.length ⟨(List.getElem?_eq_some_iff.1 hsr).1, Nat.le_refl _⟩ ⟨rfl, rfl, rfl, trivial⟩ rfl ?_
 rintro j hI
 refine AH.at_ (env' := [(0, .pointer (some ⟨p, 0, none⟩)), (1, .int .u64 (n : Int)), (4, .int .i64 0)]) (rs' := [Ao p dk lim (ss.take j), Ab dk (D j), Aj tb]) ⟨rfl, rfl, rfl, trivial⟩ rfl (Bu ?_)
 rcases Nat.lt_or_ge (r + 1) j with hjN | hjN
 obtain ⟨i, rfl⟩ : ∃ i, j = i + 1 := ⟨j - 1, by omega⟩
 obtain ⟨⟨f, l⟩, hfl⟩ : ∃ y, ss[i]? = some y := ⟨_, List.getElem?_eq_getElem (by omega)⟩
 have htk : ss.take (i + 1) = ss.take i ++ [(f, l)] := by rw [List.take_add_one, hfl]; rfl
 have hil : (ss.take i).length = i := by rw [List.length_take]; omega
 obtain ⟨hnf, hfb1, hfd, hdd⟩ := hdel i f l (by omega) hfl
 refine oC 0 Ao.open_ ?_; rintro ⟨sv, svs⟩
 refine AH.fact 3 rfl (fun _ h => h.2) ?_; rintro hm
 refine lC [3] ?_
 replace hm : svs.map SegV.m = ss.take (i + 1) := hm
 obtain ⟨x, hx, hxf, hxl, hn⟩ := BQ (htk ▸ hm)
 rw [hil] at hx hn
 refine AK ?_
 refine Aa rfl (.int .i64 ((i + 1 : Nat) : Int)) (fun b w hb hH => A7 1 hn Tryz.underlying74 rfl rfl rfl hH hb) (Ai ?_)
 refine Am Ac rfl (CE [0, 1] (Bm hn (by omega)) ?_)
 refine Aa rfl (AN sv (i * 2)) (fun b w hb hH => A6 1 rfl (j := i) (List.getElem?_eq_some_iff.1 hx).1 rfl rfl hH hb) ?_
 refine Eh ?_
 refine cC [0, 1, 2] (Ch hm) ?_
 refine kC [0, 1, 4, 9, 10, 11, 12, 13, 14, 15, 16, 17, 18, 19, 20, 21, 22, 23] ?_
 refine AH.mid [Ao p dk lim (ss.take (i + 1)), Ab dk (D (i + 1)), Aj tb] (.refl _) (Al (Am Ac rfl (CE [0, 1, 2] (C9 hfl hl hfb1 tb hfd hdd) ?_)))
 refine Dc ?_
 exact Br i 0 ⟨by omega, by omega⟩ (show i < i + 1 by omega) ⟨rfl, rfl, rfl, trivial⟩ rfl
 obtain rfl : j = r + 1 := by omega
 have hrl := (List.getElem?_eq_some_iff.1 hsr).1
 have htk : ss.take (r + 1) = ss.take r ++ [(f0, l0)] := by rw [List.take_add_one, hsr]; rfl
 have hil : (ss.take r).length = r := by rw [List.length_take]; omega
 have hl0p : 0 < l0.length := List.length_pos_iff.2 h0
 refine oC 0 Ao.open_ ?_; rintro ⟨sv, svs⟩
 refine AH.fact 3 rfl (fun _ h => h.2) ?_; rintro hm
 refine lC [3] ?_
 replace hm : svs.map SegV.m = ss.take (r + 1) := hm
 rw [htk] at hm
 obtain ⟨x, hx, rfl, rfl, hn⟩ := BQ hm
 rw [hil] at hx hn
 have hjl : r < svs.length := (List.getElem?_eq_some_iff.1 hx).1
 refine AK ?_
 refine Aa rfl (.int .i64 ((r + 1 : Nat) : Int)) (fun b w hb hH => A7 1 hn Tryz.underlying74 rfl rfl rfl hH hb) (Ai ?_)
 refine Am Ac rfl (CE [0, 1] (Bm hn (by omega)) ?_)
 refine Aa rfl (AN sv (r * 2)) (fun b w hb hH => A6 1 rfl (j := r) (List.getElem?_eq_some_iff.1 hx).1 rfl rfl hH hb) ?_
 refine BD ?_
 refine B2 (Eh ?_)
 refine Aa rfl (.int .i64 ((r + 1 : Nat) : Int)) (fun b w hb hH => A7 1 hn Tryz.underlying74 rfl rfl rfl hH hb) (Ai ?_)
 refine Am Ac rfl (CE [0, 1, 2] (Mz hn hx (by omega) hl0p hl0 hfb) ?_)
 refine Dc ?_
 exact An (.tmp rfl) (fun w h => As () rfl [0, 1, 2, 3, 4] rfl h (fun z hz => Cu (hm.trans htk.symm) z hz)) rfl
theorem XX {n r : Nat} (tb : Tb) (hl : ss.length ≤ 1000000) (hn64 : n ≤ 18446744073709551615) (hdel : ∀ (i f : Nat) (l : List (Int × Nat)), r + 1 ≤ i → ss[i]? = some (f, l) → n ≤ f ∧ f ≤ 72057594037927935 ∧ (D (i + 1)).fit ∧ Ik (D (i + 1)) (nameL f) = (D i, 0)) (hsr : ss[r]? = some (f0, l0)) (hf0 : f0 < n) (hfb : f0 ≤ 72057594037927935) (h0 : l0 ≠ []) (hl0 : l0.length ≤ 1000000) (hin : n < f0 + l0.length) {m : Int × Nat} (hm1 : l0[n - f0 - 1]? = some m) (hfit : (D (r + 1)).fit) (hcut : OK (D (r + 1)) (nameL f0) (m.2 : Int) = (d', 0)) : AA Tryz.prog 31 #[.pointer (some ⟨p, 0, none⟩), .int .u64 (n : Int)] [Ao p dk lim ss, Ab dk (D ss.length), Aj tb] (fun (_ : Unit) => .int .i64 0) (fun (_ : Unit) => [Ao p dk lim (ss.take r ++ [(f0, l0.take (n - f0))]), Ab dk d', Aj tb]) := by
  refine AP (args := [.pointer (some ⟨p, 0, none⟩), .int .u64 (n : Int)]) 78 Tryz.func31 rfl rfl rfl ?_; intro w rs
  refine AV ?_
  refine AH.mid [Ao p dk lim (ss.take ss.length), Ab dk (D ss.length), Aj tb] (by rw [List.take_length]) ?_
  refine BT (α := Nat) (fun j => [(0, .pointer (some ⟨p, 0, none⟩)), (1, .int .u64 (n : Int)), (4, .int .i64 0)]) (fun j => [Ao p dk lim (ss.take j), Ab dk (D j), Aj tb]) (fun j => r + 1 ≤ j ∧ j ≤ ss.length) (fun j => j) ss.length ⟨(List.getElem?_eq_some_iff.1 hsr).1, Nat.le_refl _⟩ ⟨rfl, rfl, rfl, trivial⟩ rfl ?_
  rintro j hI
  refine AH.at_ (env' := [(0, .pointer (some ⟨p, 0, none⟩)), (1, .int .u64 (n : Int)), (4, .int .i64 0)]) (rs' := [Ao p dk lim (ss.take j), Ab dk (D j), Aj tb]) ⟨rfl, rfl, rfl, trivial⟩ rfl (Bu ?_)
  rcases Nat.lt_or_ge (r + 1) j with hjN | hjN
  obtain ⟨i, rfl⟩ : ∃ i, j = i + 1 := ⟨j - 1, by omega⟩
  obtain ⟨⟨f, l⟩, hfl⟩ : ∃ y, ss[i]? = some y := ⟨_, List.getElem?_eq_getElem (by omega)⟩
  have htk : ss.take (i + 1) = ss.take i ++ [(f, l)] := by rw [List.take_add_one, hfl]; rfl
  have hil : (ss.take i).length = i := by rw [List.length_take]; omega
  obtain ⟨hnf, hfb1, hfd, hdd⟩ := hdel i f l (by omega) hfl
  refine oC 0 Ao.open_ ?_; rintro ⟨sv, svs⟩
  refine AH.fact 3 rfl (fun _ h => h.2) ?_; rintro hm
  refine lC [3] ?_
  replace hm : svs.map SegV.m = ss.take (i + 1) := hm
  obtain ⟨x, hx, hxf, hxl, hn⟩ := BQ (htk ▸ hm)
  rw [hil] at hx hn
  refine AK ?_
  refine Aa rfl (.int .i64 ((i + 1 : Nat) : Int)) (fun b w hb hH => A7 1 hn Tryz.underlying74 rfl rfl rfl hH hb) (Ai ?_)
  refine Am Ac rfl (CE [0, 1] (Bm hn (by omega)) ?_)
  refine Aa rfl (AN sv (i * 2)) (fun b w hb hH => A6 1 rfl (j := i) (List.getElem?_eq_some_iff.1 hx).1 rfl rfl hH hb) ?_
  refine Eh ?_
  refine cC [0, 1, 2] (Ch hm) ?_
  refine kC [0, 1, 4, 9, 10, 11, 12, 13, 14, 15, 16, 17, 18, 19, 20, 21, 22, 23] ?_
  refine AH.mid [Ao p dk lim (ss.take (i + 1)), Ab dk (D (i + 1)), Aj tb] (.refl _) (Al (Am Ac rfl (CE [0, 1, 2] (C9 hfl hl hfb1 tb hfd hdd) ?_)))
  refine Dc ?_
  exact Br i 0 ⟨by omega, by omega⟩ (show i < i + 1 by omega) ⟨rfl, rfl, rfl, trivial⟩ rfl
  obtain rfl : j = r + 1 := by omega
  have hrl := (List.getElem?_eq_some_iff.1 hsr).1
  have htk : ss.take (r + 1) = ss.take r ++ [(f0, l0)] := by rw [List.take_add_one, hsr]; rfl
  have hil : (ss.take r).length = r := by rw [List.length_take]; omega
  have hl0p : 0 < l0.length := List.length_pos_iff.2 h0
  refine oC 0 Ao.open_ ?_; rintro ⟨sv, svs⟩
  refine AH.fact 3 rfl (fun _ h => h.2) ?_; rintro hm
  refine lC [3] ?_
  replace hm : svs.map SegV.m = ss.take (r + 1) := hm
  rw [htk] at hm
  obtain ⟨x, hx, rfl, rfl, hn⟩ := BQ hm
  rw [hil] at hx hn
  have hjl : r < svs.length := (List.getElem?_eq_some_iff.1 hx).1
  refine AK ?_
  refine Aa rfl (.int .i64 ((r + 1 : Nat) : Int)) (fun b w hb hH => A7 1 hn Tryz.underlying74 rfl rfl rfl hH hb) (Ai ?_)
  refine Am Ac rfl (CE [0, 1] (Bm hn (by omega)) ?_)
  refine Aa rfl (AN sv (r * 2)) (fun b w hb hH => A6 1 rfl (j := r) (List.getElem?_eq_some_iff.1 hx).1 rfl rfl hH hb) ?_
  refine BD ?_
  refine B2 (Eh ?_)
  refine Aa rfl (.int .i64 ((r + 1 : Nat) : Int)) (fun b w hb hH => A7 1 hn Tryz.underlying74 rfl rfl rfl hH hb) (Ai ?_)
  refine Am Ac rfl (CE [0, 1, 2] (Mz hn hx (by omega) hl0p hl0 hfb) ?_)
  refine Ce ?_
  refine Am Ac rfl (CE [0, 1] (Bm hn (by omega)) ?_)
  refine Ai ?_
  refine oC 2 (JI hx) ?_; rintro ⟨⟩
  refine AH.fact 1 rfl JJ ?_; rintro hcap
  have htl : (x.l.take (n - x.f)).length = n - x.f := by rw [List.length_take]; omega
  have hsub2 : BN 2 (.slice x.A x.l.length x.c) 0 (n - x.f) = .slice x.A (x.l.take (n - x.f)).length x.c := by rw [htl]; exact HH
  have hm1c : (x.l.take (n - x.f))[n - x.f - 1]? = some m := by rw [List.getElem?_take, if_pos (by omega)]; exact hm1
  refine kC [0, 1, 4, 9, 10, 11, 12, 13, 14, 15, 16, 17, 18, 19, 20, 21, 22, 23, 29, 30, 31, 32, 33, 34, 35, 36, 37, 38, 39, 40, 41, 42, 6] ?_
  refine AH.mid [AE (fun x : SegV => Af 137 2 encMk x.v x.l) (svs.take r), Af 137 2 encMk (.slice x.A x.l.length x.c) x.l, AE (fun x : SegV => Af 137 2 encMk x.v x.l) (svs.drop (r + 1)), cell p 76 #[.pointer (some ⟨dk, 0, none⟩), .int .i64 (lim : Int), sv], Af 83 2 encSg sv svs, Ab dk (D (r + 1)), Aj tb] (.refl _) (Bu ?_)
  refine Bk 11 0 [⟨.quiet, [], fun _ => AN sv (r * 2), []⟩, ⟨.quiet, [], fun _ => AN sv (r * 2), [0]⟩, ⟨.quiet, [], fun _ => AN sv (r * 2 + 1), [1]⟩, ⟨.quiet, [], fun _ => .slice x.A x.l.length x.c, [2]⟩, ⟨.quiet, [], fun _ => .int .u64 (n : Int), []⟩, ⟨.quiet, [], fun _ => AN sv (r * 2), []⟩, ⟨.quiet, [], fun _ => AN sv (r * 2), [5]⟩, ⟨.quiet, [], fun _ => AN sv (r * 2 + 0), [6]⟩, ⟨.quiet, [], fun _ => .int .u64 (x.f : Int), [7]⟩, ⟨.quiet, [], fun _ => .int .u64 ((n - x.f : Nat) : Int), [4, 8]⟩, ⟨.quiet, [], fun _ => .slice x.A (x.l.take (n - x.f)).length x.c, [3, 9]⟩] [(0, .pointer (some ⟨p, 0, none⟩)), (1, .int .u64 (n : Int)), (4, .int .i64 0), (6, AN sv (r * 2))] (fun _ => [AE (fun x : SegV => Af 137 2 encMk x.v x.l) (svs.take r), Af 137 2 encMk (.slice x.A x.l.length x.c) x.l, AE (fun x : SegV => Af 137 2 encMk x.v x.l) (svs.drop (r + 1)), cell p 76 #[.pointer (some ⟨dk, 0, none⟩), .int .i64 (lim : Int), sv], Af 83 2 encSg sv svs, Ab dk (D (r + 1)), Aj tb]) (by kernel_rfl) (by kernel_rfl) ⟨rfl, rfl, rfl, rfl, trivial⟩ rfl ?_ ?_
  refine Ai ?_
  refine Ad (by exact ⟨rfl, fun b w hH hb => A6 4 rfl (j := r) (List.getElem?_eq_some_iff.1 hx).1 rfl rfl hH hb⟩) ?_
  refine AV ?_
  refine Ad (by exact ⟨rfl, fun b w hH hb => A6 4 rfl (j := r) (List.getElem?_eq_some_iff.1 hx).1 rfl rfl hH hb⟩) ?_
  refine Ai ?_
  refine Ai ?_
  refine Ad (by exact ⟨rfl, fun b w hH hb => Ay rfl rfl rfl rfl (by rw [IntWalk.u64_in _ (by omega)]; omega) hb⟩) (Ad (by exact ⟨rfl, fun b w hH hb => Fq (j := n - x.f) B4 hsub2 (by omega) rfl rfl rfl hH hb⟩) ?_)
  exact Bv
  refine A5.keep (env' := [(0, .pointer (some ⟨p, 0, none⟩)), (4, .int .i64 0), (6, AN sv (r * 2)), (53, .slice x.A (x.l.take (n - x.f)).length x.c)]) ⟨rfl, rfl, rfl, rfl, trivial⟩ (Aq ?_)
  refine Gn [1] rfl (Pm GV (j := n - x.f) (by omega)) rfl (kC [0, 4, 6, 53, 7] ?_)
  refine AH.mid [Af 137 2 encMk (.slice x.A (x.l.take (n - x.f)).length x.c) (x.l.take (n - x.f)), AE (fun x : SegV => Af 137 2 encMk x.v x.l) (svs.take r), AE (fun x : SegV => Af 137 2 encMk x.v x.l) (svs.drop (r + 1)), cell p 76 #[.pointer (some ⟨dk, 0, none⟩), .int .i64 (lim : Int), sv], Af 83 2 encSg sv svs, Ab dk (D (r + 1)), Aj tb] (.refl _) (Bu ?_)
  refine Bk 17 2 [⟨.quiet, [none, none], fun _ => .pointer (some ⟨p, 0, none⟩), []⟩, ⟨.quiet, [none, none], fun _ => .pointer (some ⟨p, 0, none⟩), [0]⟩, ⟨.quiet, [none, none], fun _ => .pointer (some ⟨p, 0, none⟩), [1]⟩, ⟨.quiet, [none, none], fun _ => .pointer (some ⟨dk, 0, none⟩), [2]⟩, ⟨.quiet, [none, none], fun _ => AN sv (r * 2), []⟩, ⟨.quiet, [none, none], fun _ => AN sv (r * 2), [4]⟩, ⟨.quiet, [none, none], fun _ => AN sv (r * 2 + 0), [5]⟩, ⟨.quiet, [none, none], fun _ => .int .u64 (x.f : Int), [6]⟩, ⟨.actv 0, [some false, some false], fun _ => .string (bs (nameL x.f)), [7]⟩, ⟨.quiet, [none, none], fun _ => .slice x.A (x.l.take (n - x.f)).length x.c, []⟩, ⟨.quiet, [none, none], fun _ => .slice x.A (x.l.take (n - x.f)).length x.c, []⟩, ⟨.quiet, [none, none], fun _ => .int .i64 (((x.l.take (n - x.f)).length) : Int), [10]⟩, ⟨.quiet, [none, none], fun _ => .int .i64 ((n - x.f - 1 : Nat) : Int), [11]⟩, ⟨.quiet, [none, none], fun _ => AN (.slice x.A (x.l.take (n - x.f)).length x.c) ((n - x.f - 1) * 2), [9, 12]⟩, ⟨.quiet, [none, none], fun _ => AN (.slice x.A (x.l.take (n - x.f)).length x.c) ((n - x.f - 1) * 2 + 1), [13]⟩, ⟨.quiet, [none, none], fun _ => .int .i64 (m.2 : Int), [14]⟩, ⟨.actv 1, [some true, some false], fun _ => .int .i64 0, [3, 8, 15]⟩] [(0, .pointer (some ⟨p, 0, none⟩)), (4, .int .i64 0), (6, AN sv (r * 2)), (7, .slice x.A (x.l.take (n - x.f)).length x.c)] (fun ρ => match ρ with | [r0, r1] => [Af 137 2 encMk (.slice x.A (x.l.take (n - x.f)).length x.c) (x.l.take (n - x.f)), AE (fun x : SegV => Af 137 2 encMk x.v x.l) (svs.take r), AE (fun x : SegV => Af 137 2 encMk x.v x.l) (svs.drop (r + 1)), cell p 76 #[.pointer (some ⟨dk, 0, none⟩), .int .i64 (lim : Int), sv], Af 83 2 encSg sv svs, Dm r1 (fun _ => Ab dk d') (Ab dk (D (r + 1))), Aj tb] | _ => []) (by kernel_rfl) (by kernel_rfl) ⟨rfl, rfl, rfl, rfl, trivial⟩ rfl ?_ ?_
  refine BD ?_
  refine Ad (by intro r0_ r1_; exact ⟨rfl, fun b w hH hb => A6 4 rfl (j := r) (List.getElem?_eq_some_iff.1 hx).1 rfl rfl hH hb⟩) ?_
  refine Aq ?_
  refine Ad (by exact ⟨rfl, AR.su (AM (os' := fun _ => [Af 137 2 encMk (.slice x.A (x.l.take (n - x.f)).length x.c) (x.l.take (n - x.f)), AE (fun x : SegV => Af 137 2 encMk x.v x.l) (svs.take r), AE (fun x : SegV => Af 137 2 encMk x.v x.l) (svs.drop (r + 1)), cell p 76 #[.pointer (some ⟨dk, 0, none⟩), .int .i64 (lim : Int), sv], Af 83 2 encSg sv svs, Ab dk (D (r + 1)), Aj tb]) [6] 0 (Ah Tryz.func29 (by kernel_rfl) rfl) (Cn tb (n := x.f) (by omega)) rfl rfl rfl (fun _ => rfl) rfl rfl rfl) rfl⟩) (Ai ?_)
  refine Ai ?_
  refine Ad (by intro r0_ r1_; exact ⟨rfl, fun b w hH hb => ES B4 rfl rfl hH hb⟩) (Ad (by intro r0_ r1_; exact ⟨rfl, fun b w hH hb => Ay rfl rfl rfl rfl (by rw [IntWalk.i64_in _ (by omega)]; omega) hb⟩) (Ad (by intro r0_ r1_; exact ⟨rfl, fun b w hH hb => Ez 0 B4 GV rfl (n - x.f - 1) (by omega) rfl rfl rfl hH hb⟩) (Ai ?_)))
  refine Ai ?_
  refine Ad (by intro v0_; exact ⟨rfl, AR.su (AM (os' := fun _ => [Af 137 2 encMk (.slice x.A (x.l.take (n - x.f)).length x.c) (x.l.take (n - x.f)), AE (fun x : SegV => Af 137 2 encMk x.v x.l) (svs.take r), AE (fun x : SegV => Af 137 2 encMk x.v x.l) (svs.drop (r + 1)), cell p 76 #[.pointer (some ⟨dk, 0, none⟩), .int .i64 (lim : Int), sv], Af 83 2 encSg sv svs, Ab dk d', Aj tb]) [5] 0 (Ah Tryz.func88 (by kernel_rfl) rfl) (IB hfit hcut) rfl rfl rfl (fun _ => rfl) rfl rfl rfl) rfl⟩) ?_
  exact Bv
  intro v0_ v1_
  refine A5.keep (env' := [(4, .int .i64 0), (6, AN sv (r * 2)), (7, .slice x.A (x.l.take (n - x.f)).length x.c), (70, .int .i64 0)]) ⟨rfl, rfl, rfl, rfl, trivial⟩ (Aq ?_)
  refine Am Ac rfl (Aa rfl (.bool false) (fun b w hb hH => DS rfl rfl rfl (BF (by decide)) hb) (BD ?_))
  refine Am Ac rfl ?_
  refine Aa rfl (AN sv (r * 2)) (fun b w hb hH => A6 4 rfl (j := r) (List.getElem?_eq_some_iff.1 hx).1 rfl rfl hH hb) ?_
  refine Aa rfl (AN sv (r * 2 + 1)) (fun b w hb hH => TR CI (by decide) (hH.vec 4 rfl CI) (j := r) hx F7 rfl rfl hb) (Bt (post := fun _ => [Af 137 2 encMk (.slice x.A (x.l.take (n - x.f)).length x.c) (x.l.take (n - x.f)), AE (fun x : SegV => Af 137 2 encMk x.v x.l) (svs.take r), AE (fun x : SegV => Af 137 2 encMk x.v x.l) (svs.drop (r + 1)), cell p 76 #[.pointer (some ⟨dk, 0, none⟩), .int .i64 (lim : Int), sv], Af 83 2 encSg sv (svs.set r (⟨x.f, x.l.take (n - x.f), x.A, x.c⟩ : SegV)), Ab dk d', Aj tb]) rfl rfl (LI 4 CI rfl r (a := x) (b := (⟨x.f, x.l.take (n - x.f), x.A, x.c⟩ : SegV)) hx EK.2 rfl rfl (by decide) rfl rfl rfl rfl rfl) ?_); rintro ⟨⟩
  refine Aw (cC [1, 0, 2] (Mm (y := (⟨x.f, x.l.take (n - x.f), x.A, x.c⟩ : SegV)) hjl) ?_)
  refine kC [4, 6, 7, 70, 8, 71, 72, 74, 75, 76, 77] ?_
  refine AH.mid [AX (svs.set r (⟨x.f, x.l.take (n - x.f), x.A, x.c⟩ : SegV)), cell p 76 #[.pointer (some ⟨dk, 0, none⟩), .int .i64 (lim : Int), sv], Af 83 2 encSg sv (svs.set r (⟨x.f, x.l.take (n - x.f), x.A, x.c⟩ : SegV)), Ab dk d', Aj tb] (.refl _) (AK ?_)
  exact An (.tmp rfl) (fun w h => As () rfl [1, 2, 0, 3, 4] rfl h (fun z hz => Cu (by have h9 := RT (y := (⟨x.f, x.l.take (n - x.f), x.A, x.c⟩ : SegV)) hm; rw [hil] at h9; exact h9) z hz)) rfl
end Go.Proofs.YtjcfimmcogkopaaGreatDoor.Sep
namespace Go.Proofs.YtjcfimmcogkopaaGreatDoor.Sep
variable {M : LogMs} {e : EntD} {i j k : Nat} {q : Nat × List EntD}
open Go.RowKit
theorem LogG.front {A B : LogMs} (h : LogG (A ++ B)) : LogG A := ⟨fun q hq => h.ne q (List.mem_append_left _ hq), by have := h.c; rw [Bi] at this; exact this.front, fun q hq => h.hd q (List.mem_append_left _ hq), by have := h.many; rw [Bi, List.length_append] at this; omega⟩
theorem LogD.del {d : DiskD} {M : LogMs} {q : Nat × List EntD} {w : Nat} (h : LogD d (M ++ [q]) w) : Ik d (nameL q.1) = (B3 d (.del (nameL q.1)), 0) ∧ LogD (B3 d (.del (nameL q.1))) M (w + 1) := by
  have hq : q ∈ M ++ [q] := List.mem_append_right _ (List.mem_singleton.2 rfl)
  have hl := h.wl
  have hs := h.ws
  have hn := Du h.g
  rw [BY] at hn
  constructor
  · unfold Ik
    rw [Ff h.down h.fuse]
    simp only
    rw [if_neg (by simp), h.now, Gd h.g hq]
  · exact ⟨h.down, h.fuse, h.room, by show (d.wait ++ [_]).length ≤ _; rw [List.length_append]; simp only [List.length_cons, List.length_nil]; omega, by
      show Az d.syn + ((d.wait ++ [OpD.del (nameL q.1)]).map OpD.size).sum ≤ _
      rw [List.map_append, List.sum_append]
      simp only [List.map_cons, List.map_nil, List.sum_cons, List.sum_nil, OpD.size]
      omega, by
      rw [F4, h.now, BY]
      exact Pt hn, h.g.front⟩
def DI (d : DiskD) (M : LogMs) (j : Nat) : DiskD := (M.drop j).foldr (fun q d => B3 d (.del (nameL q.1))) d
theorem Nl (d : DiskD) (M : LogMs) : DI d M M.length = d := by unfold DI; rw [List.drop_length]; rfl
theorem MA {d : DiskD} (h : M[j]? = some q) : DI d M j = B3 (DI d M (j + 1)) (.del (nameL q.1)) := by
 unfold DI
 rw [DM h]
 rfl
theorem Ih (h : M[j]? = some q) : M.take (j + 1) = M.take j ++ [q] := by rw [List.take_add_one, h]; rfl
theorem LogD.left {d : DiskD} {M : LogMs} {w : Nat} (h : LogD d M w) : ∀ k j, j + k = M.length → LogD (DI d M j) (M.take j) (w + k)
  | 0, j, hj => by
    have : j = M.length := by omega
    subst this
    rw [Nl, List.take_length]
    exact h
  | k + 1, j, hj => by
    have h1 := h.left k (j + 1) (by omega)
    obtain ⟨q, hq⟩ : ∃ q, M[j]? = some q := ⟨_, List.getElem?_eq_getElem (by omega)⟩
    rw [Ih hq] at h1
    rw [MA hq]
    exact h1.del.2
theorem Vg {f : Nat} {l : List (Int × Nat)} (h : (Ag M)[i]? = some (f, l)) : ∃ q, M[i]? = some q ∧ q.1 = f ∧ BZ q.2 = l := by
  unfold Ag at h
  rw [List.getElem?_map] at h
  cases hq : M[i]? with
  | none => rw [hq] at h; cases h
  | some q =>
    rw [hq] at h
    simp only [Option.map_some, Option.some.injEq, Prod.mk.injEq] at h
    exact ⟨q, rfl, h.1, h.2⟩
theorem Ge (h : M[i]? = some q) : (Ag M)[i]? = some (q.1, BZ q.2) := by unfold Ag; rw [List.getElem?_map, h]; rfl
theorem Nm (n : Nat) : ∀ (k : Nat) (M : LogMs), M.length = k → ∃ k, k ≤ M.length ∧ (∀ i q, k ≤ i → M[i]? = some q → n ≤ q.1) ∧ (k = 0 ∨ ∃ r q, k = r + 1 ∧ M[r]? = some q ∧ q.1 < n)
  | 0, M, h => ⟨0, Nat.zero_le _, fun i q _ hq => by rw [List.length_eq_zero_iff.1 h] at hq; simp at hq, .inl rfl⟩
  | k + 1, M, h => by
    rcases BP M with rfl | ⟨M0, q, rfl⟩
    · simp at h
    · by_cases hq : q.1 < n
      · exact ⟨(M0 ++ [q]).length, Nat.le_refl _, fun i x hi hx => by have := (List.getElem?_eq_some_iff.1 hx).1; omega, .inr ⟨M0.length, q, by simp, by simp, hq⟩⟩
      · have hl : M0.length = k := by rw [List.length_append] at h; simp only [List.length_cons, List.length_nil] at h; omega
        obtain ⟨j, h1, h2, h3⟩ := Nm n k M0 hl
        refine ⟨j, by rw [List.length_append]; omega, fun i x hi hx => ?_, ?_⟩
        · rcases Nat.lt_or_ge i M0.length with hlt | hge
          · rw [List.getElem?_append_left hlt] at hx
            exact h2 i x hi hx
          · rw [List.getElem?_append_right hge] at hx
            have : i - M0.length = 0 := by
              have := (List.getElem?_eq_some_iff.1 hx).1
              simp only [List.length_cons, List.length_nil] at this
              omega
            rw [this] at hx
            simp only [List.getElem?_cons_zero, Option.some.injEq] at hx
            rw [← hx]; omega
        · rcases h3 with h3 | ⟨r, x, h3, h4, h5⟩
          · exact .inl h3
          · exact .inr ⟨r, x, h3, by rw [List.getElem?_append_left (List.getElem?_eq_some_iff.1 h4).1]; exact h4, h5⟩
theorem LogG.behind (h : LogG M) {n : Nat} (hk : ∀ i q, k ≤ i → M[i]? = some q → n ≤ q.1) (he : e ∈ AB (M.drop k)) : (n : Int) ≤ e.i := by
  obtain ⟨q, hq, heq⟩ := List.mem_flatMap.1 he
  have hqM := List.mem_of_mem_drop hq
  obtain ⟨i, hi⟩ := List.getElem?_of_mem hq
  rw [List.getElem?_drop] at hi
  have h1 := hk (k + i) q (by omega) hi
  obtain ⟨e0, r0, h0⟩ := List.exists_cons_of_ne_nil (h.ne q hqM)
  have h2 := h.hd q hqM e0 r0 h0
  have h3 := h.seg hqM
  rw [h0] at h3 heq
  rcases List.mem_cons.1 heq with rfl | hm
  · omega
  · have := RX h3 hm
    omega
theorem LogG.at_ (h : LogG M) {r : Nat} (hr : M[r]? = some q) (he : (AB M)[k]? = some e) : e.i + ((AB (M.take r)).length : Int) = (q.1 : Int) + (k : Int) := by
 have hqM := List.mem_of_getElem? hr
 obtain ⟨e0, r0, h0⟩ := List.exists_cons_of_ne_nil (h.ne q hqM)
 have h2 := h.hd q hqM e0 r0 h0
 have hL : AB M = AB (M.take r) ++ (q.2 ++ AB (M.drop (r + 1))) := by
  conv => lhs; rw [← List.take_append_drop r M, DM hr, Bi]
  rfl
 have h4 : (AB M)[(AB (M.take r)).length]? = some e0 := by
  rw [hL, List.getElem?_append_right (Nat.le_refl _), Nat.sub_self, h0]; rfl
 have := Pw h.c h4 he
 omega
def Xc (n : Nat) (L L' : List EntD) : Prop := ∃ c, L' = L.take c ∧ ∀ (k : Nat) (e : EntD), L[k]? = some e → (k < c ↔ e.i < (n : Int))
theorem MB (es : List EntD) (k : Nat) : (AI es).take (AI (es.take k)).length = AI (es.take k) := by
 conv => lhs; rw [← List.take_append_drop k es]
 unfold AI
 rw [List.flatMap_append, List.take_append_drop, List.take_left]
theorem LogD.cut {lim w n : Nat} {d : DiskD} {M : LogMs} (tb : Tb) (h : LogD d M w) (hn64 : n ≤ 18446744073709551615) (hw : w + M.length ≤ 9999) : ∃ d' M', LogD d' M' (w + M.length + 1) ∧ Xc n (AB M) (AB M') ∧ ∀ (p dk : Nat), AA Tryz.prog 31 #[.pointer (some ⟨p, 0, none⟩), .int .u64 (n : Int)] [Ao p dk lim (Ag M), Ab dk d, Aj tb] (fun (_ : Unit) => .int .i64 0) (fun (_ : Unit) => [Ao p dk lim (Ag M'), Ab dk d', Aj tb]) := by
  have hfew := h.g.few
  have hmany := h.g.many
  have hml : (Ag M).length = M.length := by unfold Ag; rw [List.length_map]
  obtain ⟨k, hk1, hk2, hk3⟩ := Nm n M.length M rfl
  have hmono : ∀ {a b M'}, LogD a M' b → b ≤ w + M.length + 1 → LogD a M' (w + M.length + 1) := fun {a b M'} ha hb => ⟨ha.down, ha.fuse, ha.room, by have := ha.wl; omega, by have := ha.ws; omega, ha.now, ha.g⟩
  have hdel : ∀ (i f : Nat) (l : List (Int × Nat)), k ≤ i → (Ag M)[i]? = some (f, l) → n ≤ f ∧ f ≤ 72057594037927935 ∧ (DI d M (i + 1)).fit ∧ Ik (DI d M (i + 1)) (nameL f) = (DI d M i, 0) := fun i f l hi hf => by
    obtain ⟨q, hq, rfl, rfl⟩ := Vg hf
    have hil := (List.getElem?_eq_some_iff.1 hq).1
    have h1 := h.left (M.length - (i + 1)) (i + 1) (by omega)
    refine ⟨hk2 i q hi hq, (h.g.first (List.mem_of_getElem? hq)).2, h1.fit (by omega), ?_⟩
    rw [Ih hq] at h1
    rw [MA hq]
    exact h1.del.1
  have hD0 := Nl d M
  have hfin : ∀ j, j ≤ M.length → LogD (DI d M j) (M.take j) (w + M.length + 1) := fun j hj => hmono (h.left (M.length - j) j (by omega)) (by omega)
  rcases hk3 with rfl | ⟨r, q, rfl, hr, hqn⟩
  · refine ⟨DI d M 0, [], by have := hfin 0 (Nat.zero_le _); rwa [List.take_zero] at this, ⟨0, rfl, fun i e he => ⟨fun hi => by omega, fun hi => ?_⟩⟩, fun p dk => ?_⟩
    · have h1 := h.g.behind (k := 0) hk2 (e := e) (by rw [List.drop_zero]; exact List.mem_of_getElem? he)
      omega
    · have h1 := Vf (p := p) (dk := dk) (lim := lim) (n := n) (r := 0) (ss := Ag M) (D := DI d M) tb (by omega) hn64 hdel
      rw [hml, hD0] at h1
      exact h1
  · have hqM := List.mem_of_getElem? hr
    have hrl := (List.getElem?_eq_some_iff.1 hr).1
    have hq1 := h.g.first hqM
    have hqne := h.g.ne q hqM
    have hsp : AB M = AB (M.take (r + 1)) ++ AB (M.drop (r + 1)) := by rw [← Bi, List.take_append_drop]
    have hsn : AB (M.take (r + 1)) = AB (M.take r) ++ q.2 := by rw [Ih hr, Bi]; simp [AB]
    have hqlen : q.2.length ≤ 1000 := by rw [hsp, hsn] at hmany; simp only [List.length_append] at hmany; omega
    by_cases hgap : q.1 + q.2.length ≤ n
    · refine ⟨DI d M (r + 1), M.take (r + 1), hfin (r + 1) hrl, ⟨(AB (M.take (r + 1))).length, by rw [hsp, List.take_left], fun i e he => ?_⟩, fun p dk => ?_⟩
      · constructor
        · intro hi
          have h1 := h.g.at_ hr he
          rw [hsn, List.length_append] at hi
          omega
        · intro hi
          refine Nat.lt_of_not_le fun hge => ?_
          rw [hsp, List.getElem?_append_right hge] at he
          have h1 := h.g.behind hk2 (List.mem_of_getElem? he)
          omega
      · have h1 := WH (p := p) (dk := dk) (lim := lim) (n := n) (r := r) (ss := Ag M) (D := DI d M) tb (by omega) hn64 hdel (Ge hr) hqn hq1.2 (EH hqne) (by rw [Cv]; omega) (by rw [Cv]; exact hgap)
        rw [hml, hD0] at h1
        rw [show Ag (M.take (r + 1)) = (Ag M).take (r + 1) by unfold Ag; rw [List.map_take]]
        exact h1
    · have hin : n < q.1 + q.2.length := Nat.lt_of_not_le hgap
      have hkc : 0 < n - q.1 := by omega
      obtain ⟨t, x, htx⟩ : ∃ t x, q.2.take (n - q.1) = t ++ [x] := by
        rcases BP (q.2.take (n - q.1)) with h0 | h0
        · have := congrArg List.length h0
          rw [List.length_take] at this
          simp only [List.length_nil] at this
          omega
        · exact h0
      have htl : t.length + 1 = n - q.1 := by
        have := congrArg List.length htx
        rw [List.length_take, List.length_append] at this
        simp only [List.length_cons, List.length_nil] at this
        omega
      have hmt : BZ (q.2.take (n - q.1)) = (BZ q.2).take (n - q.1) := by
        have key : ∀ (es : List EntD) (o k : Nat), E1 o (es.take k) = (E1 o es).take k := by
          intro es
          induction es with
          | nil => intro o k; simp [E1]
          | cons e r ih => intro o k; cases k with
            | zero => simp [E1]
            | succ k => simp [E1, ih]
        unfold BZ
        rw [key, List.map_take]
      have hm1 : (BZ q.2)[n - q.1 - 1]? = some (x.t, (AI (q.2.take (n - q.1))).length) := by
        have h1 : ((BZ q.2).take (n - q.1))[n - q.1 - 1]? = some (x.t, (AI (q.2.take (n - q.1))).length) := by
          rw [← hmt]
          have h2 := DR t x
          rw [← htx, List.getLast?_eq_getElem?, Cv, List.length_take] at h2
          rw [show n - q.1 - 1 = min (n - q.1) q.2.length - 1 by omega]
          exact h2
        rwa [List.getElem?_take, if_pos (by omega)] at h1
      have hD := h.left (M.length - (r + 1)) (r + 1) (by omega)
      have hDs := hD
      rw [Ih hr] at hDs
      have hqs : q ∈ M.take r ++ [q] := List.mem_append_right _ (List.mem_singleton.2 rfl)
      have hget := Gd hDs.g hqs
      have hnd := Du hDs.g
      rw [BY] at hnd
      have hble : (AI (q.2.take (n - q.1))).length ≤ (AI q.2).length := by
        have := congrArg List.length (MB q.2 (n - q.1))
        rw [List.length_take] at this
        omega
      have hcut : OK (DI d M (r + 1)) (nameL q.1) (((AI (q.2.take (n - q.1))).length : Nat) : Int) = (B3 (DI d M (r + 1)) (.cut (nameL q.1) (AI (q.2.take (n - q.1))).length), 0) := by
        unfold OK
        rw [Ff hD.down hD.fuse]
        simp only
        rw [if_neg (by simp), hDs.now, hget]
        simp only
        rw [if_neg (by omega)]
        rfl
      have hgood : LogG (M.take r ++ [(q.1, q.2.take (n - q.1))]) := by
        have hg := hDs.g
        have hall : AB (M.take r ++ [q]) = AB (M.take r ++ [(q.1, q.2.take (n - q.1))]) ++ q.2.drop (n - q.1) := by
          rw [Bi, Bi]
          simp [AB]
        refine ⟨fun y hy => ?_, by have := hg.c; rw [hall] at this; exact this.front, fun y hy e1 r1 hy1 => ?_, by have := hg.many; rw [hall, List.length_append] at this; omega⟩
        · rcases List.mem_append.1 hy with hy | hy
          · exact hg.ne y (List.mem_append_left _ hy)
          · rw [List.mem_singleton.1 hy]
            show q.2.take (n - q.1) ≠ []
            rw [htx]; simp
        · rcases List.mem_append.1 hy with hy | hy
          · exact hg.hd y (List.mem_append_left _ hy) e1 r1 hy1
          · rw [List.mem_singleton.1 hy] at hy1 ⊢
            obtain ⟨e0, r0, h0⟩ := List.exists_cons_of_ne_nil hqne
            have h2 := h.g.hd q hqM e0 r0 h0
            simp only at hy1 ⊢
            rw [h0] at hy1
            obtain ⟨c, hc⟩ : ∃ c, n - q.1 = c + 1 := ⟨n - q.1 - 1, by omega⟩
            rw [hc, List.take_succ_cons] at hy1
            simp only [List.cons.injEq] at hy1
            rw [← hy1.1]; exact h2
      refine ⟨B3 (DI d M (r + 1)) (.cut (nameL q.1) (AI (q.2.take (n - q.1))).length), M.take r ++ [(q.1, q.2.take (n - q.1))], ?_, ⟨(AB (M.take r)).length + (n - q.1), ?_, fun i e he => ?_⟩, fun p dk => ?_⟩
      · have hl := hD.wl
        have hs := hD.ws
        exact ⟨hD.down, hD.fuse, hD.room, by
          show ((DI d M (r + 1)).wait ++ [_]).length ≤ _
          rw [List.length_append]; simp only [List.length_cons, List.length_nil]; omega, by
          show Az (DI d M (r + 1)).syn + (((DI d M (r + 1)).wait ++ [OpD.cut (nameL q.1) (AI (q.2.take (n - q.1))).length]).map OpD.size).sum ≤ _
          rw [List.map_append, List.sum_append]
          simp only [List.map_cons, List.map_nil, List.sum_cons, List.sum_nil, OpD.size]
          omega, by
          rw [F4, hDs.now]
          show (match AW (Bl (M.take r ++ [q])) (nameL q.1) with | some x => Bd (Bl (M.take r ++ [q])) (nameL q.1) (x.take (AI (q.2.take (n - q.1))).length) | none => Bl (M.take r ++ [q])) = _
          rw [hget]
          simp only
          rw [MB, BY]
          show Bd (Bl (M.take r) ++ [(nameL q.1, AI q.2)]) _ _ = _
          rw [JM hnd, BY]
          rfl, hgood⟩
      · have hL : AB M = AB (M.take r) ++ (q.2 ++ AB (M.drop (r + 1))) := by rw [← List.append_assoc, ← hsn, ← hsp]
        have hle : n - q.1 ≤ q.2.length := by omega
        have e2 : ∀ (A R : List EntD), (A ++ (q.2 ++ R)).take (A.length + (n - q.1)) = A ++ q.2.take (n - q.1) := fun A R => by
          rw [List.take_append, List.take_of_length_le (Nat.le_add_right _ _), Nat.add_sub_cancel_left, List.take_append_of_le_length hle]
        have e3 := e2 (AB (M.take r)) (AB (M.drop (r + 1)))
        rw [← hL] at e3
        rw [e3, Bi]
        simp [AB]
      · have h1 := h.g.at_ hr he
        omega
      · have h1 := XX (p := p) (dk := dk) (lim := lim) (n := n) (r := r) (ss := Ag M) (D := DI d M) tb (by omega) hn64 hdel (Ge hr) hqn hq1.2 (EH hqne) (by rw [Cv]; omega) (by rw [Cv]; exact hin) hm1 (hD.fit (by omega)) hcut
        rw [hml, hD0] at h1
        rw [Cl, show Ag (M.take r) = (Ag M).take r by unfold Ag; rw [List.map_take], show Ag [(q.1, q.2.take (n - q.1))] = [(q.1, (BZ q.2).take (n - q.1))] by unfold Ag; simp [hmt]]
        exact h1
end Go.Proofs.YtjcfimmcogkopaaGreatDoor.Sep
namespace Go.Proofs.YtjcfimmcogkopaaGreatDoor.Sep
variable {l : List (Int × Nat)} {ss : SegsM}
open Go.RowKit
open Go.Proofs.YtjcfimmcogkopaaGreatDoor.Mem (AG BC Chg Ak)
theorem XY {svs : List SegV} {i f : Nat} (hm : svs.map SegV.m = ss) (h : ss[i]? = some (f, l)) : ∃ x, svs[i]? = some x ∧ x.f = f ∧ x.l = l := by
  subst hm
  rw [List.getElem?_map] at h
  cases hx : svs[i]? with
  | none => rw [hx] at h; cases h
  | some x =>
    rw [hx] at h
    simp only [Option.map_some, Option.some.injEq, SegV.m, Prod.mk.injEq] at h
    exact ⟨x, rfl, h.1, h.2⟩
theorem Vh {p dk lim f : Nat} (h0 : ss[0]? = some (f, l)) (hl : ss.length ≤ 1000000) : AA Tryz.prog 32 #[.pointer (some ⟨p, 0, none⟩)] [Ao p dk lim ss] (fun (_ : Unit) => .int .u64 (f : Int)) (fun (_ : Unit) => [Ao p dk lim ss]) := by
 refine AP (args := [.pointer (some ⟨p, 0, none⟩)]) 16 Tryz.func32 rfl rfl rfl ?_; intro w rs
 refine oC 0 Ao.open_ ?_; rintro ⟨sv, svs⟩
 refine AH.fact 3 rfl (fun _ h => h.2) ?_; rintro hm
 refine lC [3] ?_
 replace hm : svs.map SegV.m = ss := hm
 obtain ⟨x, hx, rfl, rfl⟩ := XY hm h0
 have hn : svs.length = ss.length := by have := congrArg List.length hm; simpa using this
 have h0l := (List.getElem?_eq_some_iff.1 h0).1
 have hx0 : 0 < svs.length := by omega
 refine Ce ?_
 refine Aa rfl (.int .i64 (ss.length : Int)) (fun b w hb hH => A7 1 hn Tryz.underlying74 rfl rfl rfl hH hb) (Eh ?_)
 refine Aa rfl (AN sv (0 * 2)) (fun b w hb hH => Ez 1 Bg CI rfl 0 hx0 rfl rfl rfl hH hb) (AV ?_)
 exact An (.tmp rfl) (fun w h => As () rfl [0, 1, 2] rfl h (fun z hz => Cu hm z hz)) rfl
end Go.Proofs.YtjcfimmcogkopaaGreatDoor.Sep
