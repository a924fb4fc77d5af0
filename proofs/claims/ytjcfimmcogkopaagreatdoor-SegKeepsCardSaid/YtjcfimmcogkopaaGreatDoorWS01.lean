/-
  SgYc · SgIc
-/
import Derived.Test.YtjcfimmcogkopaaGreatDoorWX01
import Derived.Test.YtjcfimmcogkopaaGreatDoorWN01
import Derived.Test.YtjcfimmcogkopaaGreatDoorWO02
set_option linter.unusedSimpArgs false
set_option linter.unusedVariables false
set_option maxHeartbeats 4000000
set_option maxRecDepth 100000
namespace Go.Proofs.YtjcfimmcogkopaaGreatDoor.Sep
variable {D : Nat → DiskD} {b : List UInt8} {f0 : Nat} {l0 : List (Int × Nat)} {ss : SegsM}
open Go.RowKit
open Go.Proofs.YtjcfimmcogkopaaGreatDoor.Mem (AG BC Chg Ak)
theorem PD {p dk lim r : Nat} (tb : Tb) (hl : ss.length ≤ 1000000) (hdel : ∀ (i f : Nat) (l : List (Int × Nat)), 0 ≤ i → ss[i]? = some (f, l) → l = [] ∧ f ≤ 72057594037927935 ∧ (D (i + 1)).fit ∧ Ik (D (i + 1)) (nameL f) = (D i, 0)) : AA Tryz.prog 37 #[.pointer (some ⟨p, 0, none⟩)] [Ao p dk lim ss, Ab dk (D ss.length), Aj tb] (fun (_ : Unit) => .int .i64 0) (fun (_ : Unit) => [Ao p dk lim ([]), Ab dk (D 0), Aj tb]) := by
 refine AP (args := [.pointer (some ⟨p, 0, none⟩)]) 69 Tryz.func37 rfl rfl rfl ?_; intro w rs
 refine AV ?_
 refine AH.mid [Ao p dk lim (ss.take ss.length), Ab dk (D ss.length), Aj tb] (by rw [List.take_length]) (BT (α := Nat) (fun j => [(0, .pointer (some ⟨p, 0, none⟩)), (2, .int .i64 0)]) (fun j => [Ao p dk lim (ss.take j), Ab dk (D j), Aj tb]) (fun j => 0 ≤ j ∧ j ≤ ss.length) (fun j => j) ss.length ⟨Nat.zero_le _, Nat.le_refl _⟩ ⟨rfl, rfl, trivial⟩ rfl ?_)
 rintro j hI
 refine AH.at_ (env' := [(0, .pointer (some ⟨p, 0, none⟩)), (2, .int .i64 0)]) (rs' := [Ao p dk lim (ss.take j), Ab dk (D j), Aj tb]) ⟨rfl, rfl, trivial⟩ rfl (Bu ?_)
 rcases Nat.lt_or_ge 0 j with hjN | hjN
 obtain ⟨i, rfl⟩ : ∃ i, j = i + 1 := ⟨j - 1, by omega⟩
 obtain ⟨⟨f, l⟩, hfl⟩ : ∃ y, ss[i]? = some y := ⟨_, List.getElem?_eq_getElem (by omega)⟩
 have htk : ss.take (i + 1) = ss.take i ++ [(f, l)] := by rw [List.take_add_one, hfl]; rfl
 have hil : (ss.take i).length = i := by rw [List.length_take]; omega
 obtain ⟨hle, hfb1, hfd, hdd⟩ := hdel i f l (by omega) hfl
 refine oC 0 Ao.open_ ?_; rintro ⟨sv, svs⟩
 refine AH.fact 3 rfl (fun _ h => h.2) ?_; rintro hm
 refine lC [3] ?_
 replace hm : svs.map SegV.m = ss.take (i + 1) := hm
 obtain ⟨x, hx, hxf, hxl, hn⟩ := BQ (htk ▸ hm)
 rw [hil] at hx hn
 have hx00 : x.l.length = 0 := by rw [hxl, hle]; rfl
 refine AK ?_
 refine Aa rfl (.int .i64 ((i + 1 : Nat) : Int)) (fun b w hb hH => A7 1 hn Tryz.underlying74 rfl rfl rfl hH hb) (Ai ?_)
 refine Am Ac rfl (CE [0, 1] (Bm hn (by omega)) ?_)
 refine Aa rfl (AN sv (i * 2)) (fun b w hb hH => A6 1 rfl (j := i) (List.getElem?_eq_some_iff.1 hx).1 rfl rfl hH hb) ?_
 refine Aq ?_
 refine Aa rfl (.int .i64 (x.l.length : Int)) (fun b w hb hH => AJ ((B6 2 rfl hx hH)) Tryz.underlying81 rfl rfl hb) (Ce ?_)
 refine cC [0, 1, 2] (Ch hm) ?_
 refine kC [0, 2, 7, 8, 9, 10, 11, 12, 13, 14, 15, 16, 17, 18, 19, 20, 21] ?_
 refine AH.mid [Ao p dk lim (ss.take (i + 1)), Ab dk (D (i + 1)), Aj tb] (.refl _) (Al (Am Ac rfl (CE [0, 1, 2] (C9 hfl hl hfb1 tb hfd hdd) ?_)))
 refine Dc ?_
 exact Br i 0 ⟨by omega, by omega⟩ (show i < i + 1 by omega) ⟨rfl, rfl, trivial⟩ rfl
 obtain rfl : j = 0 := by omega
 refine kC [0, 2] ?_
 refine AH.mid [Ao p dk lim ([]), Ab dk (D 0), Aj tb] (.refl _) (oC 0 Ao.open_ ?_); rintro ⟨sv, svs⟩
 refine AH.fact 3 rfl (fun _ h => h.2) ?_; rintro hm
 refine lC [3] ?_
 replace hm : svs.map SegV.m = [] := hm
 have hn : svs.length = 0 := by have := congrArg List.length hm; simpa using this
 refine AK ?_
 refine Aa rfl (.int .i64 ((0 : Nat) : Int)) (fun b w hb hH => A7 1 hn Tryz.underlying74 rfl rfl rfl hH hb) (AK ?_)
 refine B2 (Eh ?_)
 refine Aa rfl (.int .i64 ((0 : Nat) : Int)) (fun b w hb hH => A7 1 hn Tryz.underlying74 rfl rfl rfl hH hb) (Dc ?_)
 exact An (.tmp rfl) (fun w h => As () rfl [0, 1, 2, 3, 4] rfl h (fun z hz => Cu hm z hz)) rfl
theorem PE {p dk lim r : Nat} (tb : Tb) (hl : ss.length ≤ 1000000) (hdel : ∀ (i f : Nat) (l : List (Int × Nat)), r + 1 ≤ i → ss[i]? = some (f, l) → l = [] ∧ f ≤ 72057594037927935 ∧ (D (i + 1)).fit ∧ Ik (D (i + 1)) (nameL f) = (D i, 0)) (hsr : ss[r]? = some (f0, l0)) (hfb : f0 ≤ 72057594037927935) (h0 : l0 ≠ []) (hl0 : l0.length ≤ 1000000) {m : Int × Nat} (hm1 : l0[l0.length - 1]? = some m) {ok : Bool} (hfit : (D (r + 1)).fit) (hok : (BH (D (r + 1)) (nameL f0)).isSome = ok) (hb_ : (BH (D (r + 1)) (nameL f0)).getD [] = b) (hbl : b.length ≤ 137438953472) (hmb : m.2 = b.length) : AA Tryz.prog 37 #[.pointer (some ⟨p, 0, none⟩)] [Ao p dk lim ss, Ab dk (D ss.length), Aj tb] (fun (_ : Unit) => .int .i64 0) (fun (_ : Unit) => [Ao p dk lim (ss.take (r + 1)), Ab dk (D (r + 1)), Aj tb]) := by
  refine AP (args := [.pointer (some ⟨p, 0, none⟩)]) 69 Tryz.func37 rfl rfl rfl ?_; intro w rs
  refine AV ?_
  refine AH.mid [Ao p dk lim (ss.take ss.length), Ab dk (D ss.length), Aj tb] (by rw [List.take_length]) ?_
  refine BT (α := Nat) (fun j => [(0, .pointer (some ⟨p, 0, none⟩)), (2, .int .i64 0)]) (fun j => [Ao p dk lim (ss.take j), Ab dk (D j), Aj tb]) (fun j => r + 1 ≤ j ∧ j ≤ ss.length) (fun j => j) ss.length ⟨(List.getElem?_eq_some_iff.1 hsr).1, Nat.le_refl _⟩ ⟨rfl, rfl, trivial⟩ rfl ?_
  rintro j hI
  refine AH.at_ (env' := [(0, .pointer (some ⟨p, 0, none⟩)), (2, .int .i64 0)]) (rs' := [Ao p dk lim (ss.take j), Ab dk (D j), Aj tb]) ⟨rfl, rfl, trivial⟩ rfl (Bu ?_)
  rcases Nat.lt_or_ge (r + 1) j with hjN | hjN
  obtain ⟨i, rfl⟩ : ∃ i, j = i + 1 := ⟨j - 1, by omega⟩
  obtain ⟨⟨f, l⟩, hfl⟩ : ∃ y, ss[i]? = some y := ⟨_, List.getElem?_eq_getElem (by omega)⟩
  have htk : ss.take (i + 1) = ss.take i ++ [(f, l)] := by rw [List.take_add_one, hfl]; rfl
  have hil : (ss.take i).length = i := by rw [List.length_take]; omega
  obtain ⟨hle, hfb1, hfd, hdd⟩ := hdel i f l (by omega) hfl
  refine oC 0 Ao.open_ ?_; rintro ⟨sv, svs⟩
  refine AH.fact 3 rfl (fun _ h => h.2) ?_; rintro hm
  refine lC [3] ?_
  replace hm : svs.map SegV.m = ss.take (i + 1) := hm
  obtain ⟨x, hx, hxf, hxl, hn⟩ := BQ (htk ▸ hm)
  rw [hil] at hx hn
  have hx00 : x.l.length = 0 := by rw [hxl, hle]; rfl
  refine AK ?_
  refine Aa rfl (.int .i64 ((i + 1 : Nat) : Int)) (fun b w hb hH => A7 1 hn Tryz.underlying74 rfl rfl rfl hH hb) (Ai ?_)
  refine Am Ac rfl (CE [0, 1] (Bm hn (by omega)) ?_)
  refine Aa rfl (AN sv (i * 2)) (fun b w hb hH => A6 1 rfl (j := i) (List.getElem?_eq_some_iff.1 hx).1 rfl rfl hH hb) ?_
  refine Aq ?_
  refine Aa rfl (.int .i64 (x.l.length : Int)) (fun b w hb hH => AJ ((B6 2 rfl hx hH)) Tryz.underlying81 rfl rfl hb) (Ce ?_)
  refine cC [0, 1, 2] (Ch hm) ?_
  refine kC [0, 2, 7, 8, 9, 10, 11, 12, 13, 14, 15, 16, 17, 18, 19, 20, 21] ?_
  refine AH.mid [Ao p dk lim (ss.take (i + 1)), Ab dk (D (i + 1)), Aj tb] (.refl _) (Al (Am Ac rfl (CE [0, 1, 2] (C9 hfl hl hfb1 tb hfd hdd) ?_)))
  refine Dc ?_
  exact Br i 0 ⟨by omega, by omega⟩ (show i < i + 1 by omega) ⟨rfl, rfl, trivial⟩ rfl
  obtain rfl : j = r + 1 := by omega
  have hrl := (List.getElem?_eq_some_iff.1 hsr).1
  have htk : ss.take (r + 1) = ss.take r ++ [(f0, l0)] := by rw [List.take_add_one, hsr]; rfl
  have hil : (ss.take r).length = r := by rw [List.length_take]; omega
  have hl0p : 0 < l0.length := List.length_pos_iff.2 h0
  refine oC 0 Ao.open_ ?_; rintro ⟨sv, svs⟩
  refine AH.fact 3 rfl (fun _ h => h.2) ?_; rintro hm
  refine lC [3] ?_
  replace hm : svs.map SegV.m = ss.take (r + 1) := hm
  rw [htk] at hm
  obtain ⟨x, hx, rfl, rfl, hn⟩ := BQ hm
  rw [hil] at hx hn
  refine AK ?_
  refine Aa rfl (.int .i64 ((r + 1 : Nat) : Int)) (fun b w hb hH => A7 1 hn Tryz.underlying74 rfl rfl rfl hH hb) (Ai ?_)
  refine Am Ac rfl (CE [0, 1] (Bm hn (by omega)) ?_)
  refine Aa rfl (AN sv (r * 2)) (fun b w hb hH => A6 1 rfl (j := r) (List.getElem?_eq_some_iff.1 hx).1 rfl rfl hH hb) ?_
  refine Aq ?_
  refine Aa rfl (.int .i64 (x.l.length : Int)) (fun b w hb hH => AJ ((B6 2 rfl hx hH)) Tryz.underlying81 rfl rfl hb) (AK ?_)
  refine B2 (Eh ?_)
  refine Aa rfl (.int .i64 ((r + 1 : Nat) : Int)) (fun b w hb hH => A7 1 hn Tryz.underlying74 rfl rfl rfl hH hb) (Ce ?_)
  refine Am Ac rfl (CE [0, 1] (Bm hn (by omega)) ?_)
  refine AK ?_
  refine Ey 1 rfl ?_
  refine Bk 14 2 [⟨.quiet, [none, none], fun _ => .pointer (some ⟨p, 0, none⟩), []⟩, ⟨.quiet, [none, none], fun _ => .pointer (some ⟨p, 0, none⟩), [0]⟩, ⟨.quiet, [none, none], fun _ => .pointer (some ⟨p, 0, none⟩), [1]⟩, ⟨.quiet, [none, none], fun _ => .pointer (some ⟨dk, 0, none⟩), [2]⟩, ⟨.quiet, [none, none], fun _ => AN sv (r * 2), []⟩, ⟨.quiet, [none, none], fun _ => AN sv (r * 2), [4]⟩, ⟨.quiet, [none, none], fun _ => AN sv (r * 2 + 0), [5]⟩, ⟨.quiet, [none, none], fun _ => .int .u64 (x.f : Int), [6]⟩, ⟨.actv 0, [some false, some false], fun _ => .string (bs (nameL x.f)), [7]⟩, ⟨.act 1, [some true, some false], fun _ => undef, [3, 8]⟩, ⟨.quiet, [some true, some true], fun ρ => match ρ with | [_, some rv] => rv | _ => undef, [9]⟩, ⟨.quiet, [some true, some true], fun ρ => match ρ with | [_, some rv] => (Cd rv 0) | _ => undef, [10]⟩, ⟨.quiet, [some true, some true], fun ρ => match ρ with | [_, some rv] => (Cd rv 1) | _ => undef, [10]⟩, ⟨.quiet, [some true, some true], fun ρ => match ρ with | [_, some rv] => (Cd rv 0) | _ => undef, [11]⟩] [(0, .pointer (some ⟨p, 0, none⟩)), (2, .int .i64 0), (4, AN sv (r * 2))] (fun ρ => match ρ with | [r0, r1] => [Dm r1 (fun rv => FJ rv b ok) (emp), cell p 76 #[.pointer (some ⟨dk, 0, none⟩), .int .i64 (lim : Int), sv], Af 83 2 encSg sv svs, AX svs, Ab dk (D (r + 1)), Aj tb] | _ => []) (by kernel_rfl) (by kernel_rfl) ⟨rfl, rfl, rfl, trivial⟩ rfl ?_ ?_
  refine BD ?_
  refine Ad (by intro r0_ r1_; exact ⟨rfl, fun b w hH hb => A6 2 rfl (j := r) (List.getElem?_eq_some_iff.1 hx).1 rfl rfl hH hb⟩) ?_
  refine Aq ?_
  refine Ad (by exact ⟨rfl, AR.su (AM (os' := fun _ => [emp, cell p 76 #[.pointer (some ⟨dk, 0, none⟩), .int .i64 (lim : Int), sv], Af 83 2 encSg sv svs, AX svs, Ab dk (D (r + 1)), Aj tb]) [5] 0 (Ah Tryz.func29 (by kernel_rfl) rfl) (Cn tb (n := x.f) (by omega)) rfl rfl rfl (fun _ => rfl) rfl rfl rfl) rfl⟩) (Ad (by intro v0_; exact ⟨rfl, AR.s (AM (os' := fun rv => [FJ rv b ok, cell p 76 #[.pointer (some ⟨dk, 0, none⟩), .int .i64 (lim : Int), sv], Af 83 2 encSg sv svs, AX svs, Ab dk (D (r + 1)), Aj tb]) [4, 0] 1 (Ah Tryz.func95 (by kernel_rfl) rfl) (EG hfit hok hb_) rfl rfl rfl (fun _ => rfl) rfl rfl rfl) (fun _ => rfl)⟩) (Ai ?_))
  refine Ad (by intro v0_ rv; exact ⟨rfl, fun b w hH hb => GL 0 (by decide) rfl rfl rfl hH hb⟩) (Ad (by intro v0_ rv; exact ⟨rfl, fun b w hH hb => GL 0 (by decide) rfl rfl rfl hH hb⟩) (Ai ?_))
  exact Bv
  intro v0_ rv
  refine A5.keep (env' := [(0, .pointer (some ⟨p, 0, none⟩)), (2, .int .i64 0), (4, AN sv (r * 2)), (47, (Cd rv 1)), (5, (Cd rv 0))]) ⟨rfl, rfl, rfl, rfl, rfl, trivial⟩ (Fo 0 rfl FJ.open_ (fun _ => rfl) ?_); rintro ⟨bv, rfl⟩
  refine kL [0, 2, 4, 47, 5] ?_
  refine A5.mid [Af 5 1 encB bv b, cell p 76 #[.pointer (some ⟨dk, 0, none⟩), .int .i64 (lim : Int), sv], Af 83 2 encSg sv svs, AX svs, Ab dk (D (r + 1)), Aj tb] (.refl _) (AK ?_)
  refine Am Ac rfl ?_
  refine Aa rfl (AN sv (r * 2)) (fun b w hb hH => A6 2 rfl (j := r) (List.getElem?_eq_some_iff.1 hx).1 rfl rfl hH hb) ?_
  refine Aa rfl (.agg (encSg x).toArray) (fun b w hb hH => CD CI (by decide) (hH.vec 2 rfl CI) (j := r) hx Bj rfl rfl hb) (FD (fun w hH => GD w (B6 3 rfl hx hH) hm1 hl0p hl0) ?_)
  refine Eh ?_
  exact An (.tmp rfl) (fun w h => As () rfl [1, 2, 3, 4, 5] rfl h (fun z hz => Cu (hm.trans htk.symm) z hz)) rfl
theorem Q0 {p dk lim r : Nat} (tb : Tb) (hl : ss.length ≤ 1000000) (hdel : ∀ (i f : Nat) (l : List (Int × Nat)), r + 1 ≤ i → ss[i]? = some (f, l) → l = [] ∧ f ≤ 72057594037927935 ∧ (D (i + 1)).fit ∧ Ik (D (i + 1)) (nameL f) = (D i, 0)) (hsr : ss[r]? = some (f0, l0)) (hfb : f0 ≤ 72057594037927935) (h0 : l0 ≠ []) (hl0 : l0.length ≤ 1000000) {m : Int × Nat} (hm1 : l0[l0.length - 1]? = some m) {ok : Bool} (hfit : (D (r + 1)).fit) (hok : (BH (D (r + 1)) (nameL f0)).isSome = ok) (hb_ : (BH (D (r + 1)) (nameL f0)).getD [] = b) (hbl : b.length ≤ 137438953472) (hmb : m.2 < b.length) {d' : DiskD} (hcut : OK (D (r + 1)) (nameL f0) (m.2 : Int) = (d', 0)) : AA Tryz.prog 37 #[.pointer (some ⟨p, 0, none⟩)] [Ao p dk lim ss, Ab dk (D ss.length), Aj tb] (fun (_ : Unit) => .int .i64 0) (fun (_ : Unit) => [Ao p dk lim (ss.take (r + 1)), Ab dk d', Aj tb]) := by
  refine AP (args := [.pointer (some ⟨p, 0, none⟩)]) 69 Tryz.func37 rfl rfl rfl ?_; intro w rs
  refine AV ?_
  refine AH.mid [Ao p dk lim (ss.take ss.length), Ab dk (D ss.length), Aj tb] (by rw [List.take_length]) ?_
  refine BT (α := Nat) (fun j => [(0, .pointer (some ⟨p, 0, none⟩)), (2, .int .i64 0)]) (fun j => [Ao p dk lim (ss.take j), Ab dk (D j), Aj tb]) (fun j => r + 1 ≤ j ∧ j ≤ ss.length) (fun j => j) ss.length ⟨(List.getElem?_eq_some_iff.1 hsr).1, Nat.le_refl _⟩ ⟨rfl, rfl, trivial⟩ rfl ?_
  rintro j hI
  refine AH.at_ (env' := [(0, .pointer (some ⟨p, 0, none⟩)), (2, .int .i64 0)]) (rs' := [Ao p dk lim (ss.take j), Ab dk (D j), Aj tb]) ⟨rfl, rfl, trivial⟩ rfl (Bu ?_)
  rcases Nat.lt_or_ge (r + 1) j with hjN | hjN
  obtain ⟨i, rfl⟩ : ∃ i, j = i + 1 := ⟨j - 1, by omega⟩
  obtain ⟨⟨f, l⟩, hfl⟩ : ∃ y, ss[i]? = some y := ⟨_, List.getElem?_eq_getElem (by omega)⟩
  have htk : ss.take (i + 1) = ss.take i ++ [(f, l)] := by rw [List.take_add_one, hfl]; rfl
  have hil : (ss.take i).length = i := by rw [List.length_take]; omega
  obtain ⟨hle, hfb1, hfd, hdd⟩ := hdel i f l (by omega) hfl
  refine oC 0 Ao.open_ ?_; rintro ⟨sv, svs⟩
  refine AH.fact 3 rfl (fun _ h => h.2) ?_; rintro hm
  refine lC [3] ?_
  replace hm : svs.map SegV.m = ss.take (i + 1) := hm
  obtain ⟨x, hx, hxf, hxl, hn⟩ := BQ (htk ▸ hm)
  rw [hil] at hx hn
  have hx00 : x.l.length = 0 := by rw [hxl, hle]; rfl
  refine AK ?_
  refine Aa rfl (.int .i64 ((i + 1 : Nat) : Int)) (fun b w hb hH => A7 1 hn Tryz.underlying74 rfl rfl rfl hH hb) (Ai ?_)
  refine Am Ac rfl (CE [0, 1] (Bm hn (by omega)) ?_)
  refine Aa rfl (AN sv (i * 2)) (fun b w hb hH => A6 1 rfl (j := i) (List.getElem?_eq_some_iff.1 hx).1 rfl rfl hH hb) ?_
  refine Aq ?_
  refine Aa rfl (.int .i64 (x.l.length : Int)) (fun b w hb hH => AJ ((B6 2 rfl hx hH)) Tryz.underlying81 rfl rfl hb) (Ce ?_)
  refine cC [0, 1, 2] (Ch hm) ?_
  refine kC [0, 2, 7, 8, 9, 10, 11, 12, 13, 14, 15, 16, 17, 18, 19, 20, 21] ?_
  refine AH.mid [Ao p dk lim (ss.take (i + 1)), Ab dk (D (i + 1)), Aj tb] (.refl _) (Al (Am Ac rfl (CE [0, 1, 2] (C9 hfl hl hfb1 tb hfd hdd) ?_)))
  refine Dc ?_
  exact Br i 0 ⟨by omega, by omega⟩ (show i < i + 1 by omega) ⟨rfl, rfl, trivial⟩ rfl
  obtain rfl : j = r + 1 := by omega
  have hrl := (List.getElem?_eq_some_iff.1 hsr).1
  have htk : ss.take (r + 1) = ss.take r ++ [(f0, l0)] := by rw [List.take_add_one, hsr]; rfl
  have hil : (ss.take r).length = r := by rw [List.length_take]; omega
  have hl0p : 0 < l0.length := List.length_pos_iff.2 h0
  refine oC 0 Ao.open_ ?_; rintro ⟨sv, svs⟩
  refine AH.fact 3 rfl (fun _ h => h.2) ?_; rintro hm
  refine lC [3] ?_
  replace hm : svs.map SegV.m = ss.take (r + 1) := hm
  rw [htk] at hm
  obtain ⟨x, hx, rfl, rfl, hn⟩ := BQ hm
  rw [hil] at hx hn
  refine AK ?_
  refine Aa rfl (.int .i64 ((r + 1 : Nat) : Int)) (fun b w hb hH => A7 1 hn Tryz.underlying74 rfl rfl rfl hH hb) (Ai ?_)
  refine Am Ac rfl (CE [0, 1] (Bm hn (by omega)) ?_)
  refine Aa rfl (AN sv (r * 2)) (fun b w hb hH => A6 1 rfl (j := r) (List.getElem?_eq_some_iff.1 hx).1 rfl rfl hH hb) ?_
  refine Aq ?_
  refine Aa rfl (.int .i64 (x.l.length : Int)) (fun b w hb hH => AJ ((B6 2 rfl hx hH)) Tryz.underlying81 rfl rfl hb) (AK ?_)
  refine B2 (Eh ?_)
  refine Aa rfl (.int .i64 ((r + 1 : Nat) : Int)) (fun b w hb hH => A7 1 hn Tryz.underlying74 rfl rfl rfl hH hb) (Ce ?_)
  refine Am Ac rfl (CE [0, 1] (Bm hn (by omega)) ?_)
  refine AK ?_
  refine Ey 1 rfl ?_
  refine Bk 14 2 [⟨.quiet, [none, none], fun _ => .pointer (some ⟨p, 0, none⟩), []⟩, ⟨.quiet, [none, none], fun _ => .pointer (some ⟨p, 0, none⟩), [0]⟩, ⟨.quiet, [none, none], fun _ => .pointer (some ⟨p, 0, none⟩), [1]⟩, ⟨.quiet, [none, none], fun _ => .pointer (some ⟨dk, 0, none⟩), [2]⟩, ⟨.quiet, [none, none], fun _ => AN sv (r * 2), []⟩, ⟨.quiet, [none, none], fun _ => AN sv (r * 2), [4]⟩, ⟨.quiet, [none, none], fun _ => AN sv (r * 2 + 0), [5]⟩, ⟨.quiet, [none, none], fun _ => .int .u64 (x.f : Int), [6]⟩, ⟨.actv 0, [some false, some false], fun _ => .string (bs (nameL x.f)), [7]⟩, ⟨.act 1, [some true, some false], fun _ => undef, [3, 8]⟩, ⟨.quiet, [some true, some true], fun ρ => match ρ with | [_, some rv] => rv | _ => undef, [9]⟩, ⟨.quiet, [some true, some true], fun ρ => match ρ with | [_, some rv] => (Cd rv 0) | _ => undef, [10]⟩, ⟨.quiet, [some true, some true], fun ρ => match ρ with | [_, some rv] => (Cd rv 1) | _ => undef, [10]⟩, ⟨.quiet, [some true, some true], fun ρ => match ρ with | [_, some rv] => (Cd rv 0) | _ => undef, [11]⟩] [(0, .pointer (some ⟨p, 0, none⟩)), (2, .int .i64 0), (4, AN sv (r * 2))] (fun ρ => match ρ with | [r0, r1] => [Dm r1 (fun rv => FJ rv b ok) (emp), cell p 76 #[.pointer (some ⟨dk, 0, none⟩), .int .i64 (lim : Int), sv], Af 83 2 encSg sv svs, AX svs, Ab dk (D (r + 1)), Aj tb] | _ => []) (by kernel_rfl) (by kernel_rfl) ⟨rfl, rfl, rfl, trivial⟩ rfl ?_ ?_
  refine BD ?_
  refine Ad (by intro r0_ r1_; exact ⟨rfl, fun b w hH hb => A6 2 rfl (j := r) (List.getElem?_eq_some_iff.1 hx).1 rfl rfl hH hb⟩) ?_
  refine Aq ?_
  refine Ad (by exact ⟨rfl, AR.su (AM (os' := fun _ => [emp, cell p 76 #[.pointer (some ⟨dk, 0, none⟩), .int .i64 (lim : Int), sv], Af 83 2 encSg sv svs, AX svs, Ab dk (D (r + 1)), Aj tb]) [5] 0 (Ah Tryz.func29 (by kernel_rfl) rfl) (Cn tb (n := x.f) (by omega)) rfl rfl rfl (fun _ => rfl) rfl rfl rfl) rfl⟩) (Ad (by intro v0_; exact ⟨rfl, AR.s (AM (os' := fun rv => [FJ rv b ok, cell p 76 #[.pointer (some ⟨dk, 0, none⟩), .int .i64 (lim : Int), sv], Af 83 2 encSg sv svs, AX svs, Ab dk (D (r + 1)), Aj tb]) [4, 0] 1 (Ah Tryz.func95 (by kernel_rfl) rfl) (EG hfit hok hb_) rfl rfl rfl (fun _ => rfl) rfl rfl rfl) (fun _ => rfl)⟩) (Ai ?_))
  refine Ad (by intro v0_ rv; exact ⟨rfl, fun b w hH hb => GL 0 (by decide) rfl rfl rfl hH hb⟩) (Ad (by intro v0_ rv; exact ⟨rfl, fun b w hH hb => GL 0 (by decide) rfl rfl rfl hH hb⟩) (Ai ?_))
  exact Bv
  intro v0_ rv
  refine A5.keep (env' := [(0, .pointer (some ⟨p, 0, none⟩)), (2, .int .i64 0), (4, AN sv (r * 2)), (47, (Cd rv 1)), (5, (Cd rv 0))]) ⟨rfl, rfl, rfl, rfl, rfl, trivial⟩ (Fo 0 rfl FJ.open_ (fun _ => rfl) ?_); rintro ⟨bv, rfl⟩
  refine kL [0, 2, 4, 47, 5] ?_
  refine A5.mid [Af 5 1 encB bv b, cell p 76 #[.pointer (some ⟨dk, 0, none⟩), .int .i64 (lim : Int), sv], Af 83 2 encSg sv svs, AX svs, Ab dk (D (r + 1)), Aj tb] (.refl _) (AK ?_)
  refine Am Ac rfl ?_
  refine Aa rfl (AN sv (r * 2)) (fun b w hb hH => A6 2 rfl (j := r) (List.getElem?_eq_some_iff.1 hx).1 rfl rfl hH hb) ?_
  refine Aa rfl (.agg (encSg x).toArray) (fun b w hb hH => CD CI (by decide) (hH.vec 2 rfl CI) (j := r) hx Bj rfl rfl hb) (FD (fun w hH => GD w (B6 3 rfl hx hH) hm1 hl0p hl0) ?_)
  refine AV ?_
  refine Bk 14 3 [⟨.quiet, [none, none, none], fun _ => .pointer (some ⟨p, 0, none⟩), []⟩, ⟨.quiet, [none, none, none], fun _ => .pointer (some ⟨p, 0, none⟩), [0]⟩, ⟨.quiet, [none, none, none], fun _ => .pointer (some ⟨p, 0, none⟩), [1]⟩, ⟨.quiet, [none, none, none], fun _ => .pointer (some ⟨dk, 0, none⟩), [2]⟩, ⟨.quiet, [none, none, none], fun _ => AN sv (r * 2), []⟩, ⟨.quiet, [none, none, none], fun _ => AN sv (r * 2), [4]⟩, ⟨.quiet, [none, none, none], fun _ => AN sv (r * 2 + 0), [5]⟩, ⟨.quiet, [none, none, none], fun _ => .int .u64 (x.f : Int), [6]⟩, ⟨.actv 0, [some false, some false, some false], fun _ => .string (bs (nameL x.f)), [7]⟩, ⟨.quiet, [none, none, none], fun _ => AN sv (r * 2), []⟩, ⟨.quiet, [none, none, none], fun _ => AN sv (r * 2), [9]⟩, ⟨.quiet, [none, none, none], fun _ => .agg (encSg x).toArray, [10]⟩, ⟨.actv 1, [some true, some false, some false], fun _ => .int .i64 (m.2 : Int), [11]⟩, ⟨.actv 2, [some true, some true, some false], fun _ => .int .i64 0, [3, 8, 12]⟩] [(0, .pointer (some ⟨p, 0, none⟩)), (2, .int .i64 0), (4, AN sv (r * 2))] (fun ρ => match ρ with | [r0, r1, r2] => [Af 5 1 encB bv b, cell p 76 #[.pointer (some ⟨dk, 0, none⟩), .int .i64 (lim : Int), sv], Af 83 2 encSg sv svs, AX svs, Dm r2 (fun _ => Ab dk d') (Ab dk (D (r + 1))), Aj tb] | _ => []) (by kernel_rfl) (by kernel_rfl) ⟨rfl, rfl, rfl, trivial⟩ rfl ?_ ?_
  refine BD ?_
  refine Ad (by intro r0_ r1_ r2_; exact ⟨rfl, fun b w hH hb => A6 2 rfl (j := r) (List.getElem?_eq_some_iff.1 hx).1 rfl rfl hH hb⟩) ?_
  refine Aq ?_
  refine Ad (by exact ⟨rfl, AR.su (AM (os' := fun _ => [Af 5 1 encB bv b, cell p 76 #[.pointer (some ⟨dk, 0, none⟩), .int .i64 (lim : Int), sv], Af 83 2 encSg sv svs, AX svs, Ab dk (D (r + 1)), Aj tb]) [5] 0 (Ah Tryz.func29 (by kernel_rfl) rfl) (Cn tb (n := x.f) (by omega)) rfl rfl rfl (fun _ => rfl) rfl rfl rfl) rfl⟩) (Ai ?_)
  refine Ad (by intro r0_ r1_ r2_; exact ⟨rfl, fun b w hH hb => A6 2 rfl (j := r) (List.getElem?_eq_some_iff.1 hx).1 rfl rfl hH hb⟩) ?_
  refine Ad (by intro r0_ r1_ r2_; exact ⟨rfl, fun b w hH hb => CD CI (by decide) (hH.vec 2 rfl CI) (j := r) hx Bj rfl rfl hb⟩) (Ad (by intro v0_; exact ⟨rfl, AR.su (Da (Ah Tryz.func94 (by kernel_rfl) rfl) (fun w hH => GD w (B6 3 rfl hx hH) hm1 hl0p hl0) rfl rfl rfl) rfl⟩) (Ad (by intro v0_ v1_; exact ⟨rfl, AR.su (AM (os' := fun _ => [Af 5 1 encB bv b, cell p 76 #[.pointer (some ⟨dk, 0, none⟩), .int .i64 (lim : Int), sv], Af 83 2 encSg sv svs, AX svs, Ab dk d', Aj tb]) [4] 0 (Ah Tryz.func88 (by kernel_rfl) rfl) (IB hfit hcut) rfl rfl rfl (fun _ => rfl) rfl rfl rfl) rfl⟩) ?_))
  exact Bv
  intro v0_ v1_ v2_
  refine A5.keep (env' := [(2, .int .i64 0), (68, .int .i64 0)]) ⟨rfl, rfl, trivial⟩ (AK ?_)
  exact An (.tmp rfl) (fun w h => As () rfl [1, 2, 3, 4, 5] rfl h (fun z hz => Cu (hm.trans htk.symm) z hz)) rfl
end Go.Proofs.YtjcfimmcogkopaaGreatDoor.Sep
namespace Go.Proofs.YtjcfimmcogkopaaGreatDoor.Sep
open Go.RowKit
open Go.Proofs.YtjcfimmcogkopaaGreatDoor.Mem (AG BC Chg Ak)
theorem PF {dk lim : Nat} {d d' : DiskD} {fs : List Nat} {ss1 ss2 : SegsM} (hl1 : 64 ≤ lim) (hl2 : lim ≤ 16384) (hdn : d.down = false) (hds : d.now.length ≤ 1000000) (hnm : FU d.now = fs.map nameL) (tb : Tb) (hfs : ∀ f, f ∈ fs → f ≤ 72057594037927935) (hfl : fs.length ≤ 1000000) (hload : ∀ p, AA Tryz.prog 36 #[.pointer (some ⟨p, 0, none⟩)] [Ao p dk lim (fs.map fun f => (f, [])), Ab dk d, Aj tb] (fun _ : Unit => .tuple #[]) (fun _ => [Ao p dk lim ss1, Ab dk d, Aj tb])) (hrep : ∀ p, AA Tryz.prog 37 #[.pointer (some ⟨p, 0, none⟩)] [Ao p dk lim ss1, Ab dk d, Aj tb] (fun _ : Unit => .int .i64 0) (fun _ => [Ao p dk lim ss2, Ab dk d', Aj tb])) : AA Tryz.prog 9 #[.pointer (some ⟨dk, 0, none⟩), .int .i64 (lim : Int)] [Ab dk d, Aj tb] (fun (p : Nat) => .tuple #[.pointer (some ⟨p, 0, none⟩), .int .i64 0]) (fun (p : Nat) => [Ao p dk lim ss2, Ab dk d', Aj tb]) := by
 refine AP (args := [.pointer (some ⟨dk, 0, none⟩), .int .i64 (lim : Int)]) 59 Tryz.func9 rfl rfl rfl ?_; intro w rs
 refine Ci ?_
 refine Am Ac rfl (Aa rfl (.agg #[.pointer (some ⟨dk, 0, none⟩), .int .i64 (lim : Int), .slice none 0 0]) (fun b w hb hH => AY rfl rfl (by kernel_rfl) hb) (I5 ?_)); rintro p
 refine AK ?_
 refine Am Ac rfl (GI [1] (KJ hdn hds hnm) ?_); rintro nv
 refine Aa rfl (.int .i64 (fs.length : Int)) (fun b w hb hH => A7 0 (List.length_map ..) Tryz.underlying77 rfl rfl rfl hH hb) (Aq ?_)
 refine Bb 83 2 encSg (Hx (t := AX []) (C0) (cC [3, 1, 0] (Ch (svs := []) rfl) ?_))
 refine kC [0, 1, 4, 5, 12, 13, 14, 15, 16, 17, 18, 19, 20, 21, 22, 23, 24, 25, 6, 26, 27, 28, 29] ?_
 refine AH.mid [Ao p dk lim ((fs.take 0).map fun f => (f, [])), Af 9 1 encKs nv (fs.map nameL), Ab dk d, Aj tb] (.refl _) (BT (α := Nat) (fun j => [(4, .pointer none), (5, .int .i64 0), (6, .pointer (some ⟨p, 0, none⟩)), (27, nv), (28, .int .i64 (fs.length : Int)), (29, .int .i64 (j : Int))]) (fun j => [Ao p dk lim ((fs.take j).map fun f => (f, [])), Af 9 1 encKs nv (fs.map nameL), Ab dk d, Aj tb]) (fun j => j ≤ fs.length) (fun j => fs.length - j) 0 (Nat.zero_le _) ⟨rfl, rfl, rfl, rfl, rfl, rfl, trivial⟩ rfl ?_)
 rintro j hI
 refine AH.at_ (env' := [(4, .pointer none), (5, .int .i64 0), (6, .pointer (some ⟨p, 0, none⟩)), (27, nv), (28, .int .i64 (fs.length : Int)), (29, .int .i64 (j : Int))]) (rs' := [Ao p dk lim ((fs.take j).map fun f => (f, [])), Af 9 1 encKs nv (fs.map nameL), Ab dk d, Aj tb]) ⟨rfl, rfl, rfl, rfl, rfl, rfl, trivial⟩ rfl ?_
 rcases Nat.lt_or_ge j fs.length with hjN | hjN
 obtain ⟨f, hfj⟩ : ∃ f, fs[j]? = some f := ⟨_, List.getElem?_eq_getElem hjN⟩
 have hfb := hfs f (List.mem_of_getElem? hfj)
 have hnj : (fs.map nameL)[j]? = some (nameL f) := by rw [List.getElem?_map, hfj]; rfl
 have hnjl : j < (fs.map nameL).length := by rw [List.length_map]; exact hjN
 refine GK ?_
 refine Am Ac rfl (Aa rfl (AN nv (j * 1)) (fun b w hb hH => Ez 1 Kd RU rfl j hnjl rfl rfl rfl hH hb) (Aa rfl (.string (bs (nameL f))) (fun b w hb hH => Ot 1 J9 RU rfl j (a := (nameL f)) hnj rfl rfl rfl hH hb) (Aq ?_)))
 refine Am Ac rfl (CE [3] (KS tb (n := f) hfb) ?_)
 refine AV ?_
 refine oC 0 Ao.open_ ?_; rintro ⟨sv, svs⟩
 refine AH.fact 3 rfl (fun _ h => h.2) ?_; rintro hm
 refine lC [3] ?_
 replace hm : svs.map SegV.m = ((fs.take j).map fun f => (f, [])) := hm
 have hsl : svs.length ≤ 1000000 := by have := congrArg List.length hm; simp only [List.length_map, List.length_take] at this; omega
 refine AK ?_
 refine Am Ac rfl (Aa rfl (.agg #[.int .u64 (f : Int), .slice none 0 0]) (fun b w hb hH => AY rfl rfl (by kernel_rfl) hb) ?_)
 refine AQ (X := Value) (val := fun v : Value => v) (post := fun su => [Af 83 2 encSg su ([(⟨f, [], none, 0⟩ : SegV)]), cell p 76 #[.pointer (some ⟨dk, 0, none⟩), .int .i64 (lim : Int), sv], Af 83 2 encSg sv svs, AX svs, Af 9 1 encKs nv (fs.map nameL), Ab dk d, Aj tb]) rfl (by refine CA (e := 83) (t := 74) (k := 2) (enc := encSg) (x := .tmp 45) (c := .agg #[.int .u64 (f : Int), .slice none 0 0]) ?_ ?_ ?_ (⟨f, [], none, 0⟩ : SegV) ?_ ?_ ?_; exact Bg; exact (by decide); exact CI; exact rfl; exact rfl; exact rfl) ?_; rintro su
 refine AQ (post := fun nv2 => [Af 83 2 encSg su ([(⟨f, [], none, 0⟩ : SegV)]), cell p 76 #[.pointer (some ⟨dk, 0, none⟩), .int .i64 (lim : Int), sv], Af 83 2 encSg nv2 (svs ++ [(⟨f, [], none, 0⟩ : SegV)]), AX svs, Af 9 1 encKs nv (fs.map nameL), Ab dk d, Aj tb]) rfl (Ct (nb := 32) 2 Bg CI (by kernel_rfl) (by decide) rfl ([(⟨f, [], none, 0⟩ : SegV)]) (fun w hH => hH.vec 0 rfl CI) (by simp only [List.length_cons, List.length_nil]; omega) rfl rfl rfl rfl) ?_; rintro nv2
 refine Ai ?_
 refine Am Ac rfl (Bt (post := fun _ => [Af 83 2 encSg su ([(⟨f, [], none, 0⟩ : SegV)]), cell p 76 #[.pointer (some ⟨dk, 0, none⟩), .int .i64 (lim : Int), nv2], Af 83 2 encSg nv2 (svs ++ [(⟨f, [], none, 0⟩ : SegV)]), AX svs, Af 9 1 encKs nv (fs.map nameL), Ab dk d, Aj tb]) rfl rfl (D8 1 2 (v := nv2) #[.pointer (some ⟨dk, 0, none⟩), .int .i64 (lim : Int), nv2] Sw.2 rfl (fun _ h => Af.c1 h) rfl rfl rfl rfl rfl rfl rfl) ?_); rintro ⟨⟩
 refine AK ?_
 refine Bb 137 2 encMk (cC [4, 0] (Mp (y := (⟨f, [], none, 0⟩ : SegV))) ?_)
 refine cC [2, 3, 0] (Ch (Pp hfj hm)) ?_
 refine lC [1] ?_
 refine kC [4, 5, 6, 27, 28, 29, 30, 31, 32, 8, 34, 35, 33, 36, 37, 9, 10, 38, 39, 40, 41, 42, 43, 44, 45, 46, 47, 48, 49] ?_
 refine AH.mid [Ao p dk lim ((fs.take (j + 1)).map fun f => (f, [])), Af 9 1 encKs nv (fs.map nameL), Ab dk d, Aj tb] (.refl _) (Dl (Am Ac rfl (Aa rfl (.int .i64 ((j + 1 : Nat) : Int)) (fun b w hb hH => Ay rfl rfl rfl rfl (by rw [IntWalk.i64_in _ (by omega)]; omega) hb) (Ai ?_))))
 exact Br (j + 1) 0 (by omega) (show fs.length - (j + 1) < fs.length - j by omega) ⟨rfl, rfl, rfl, rfl, rfl, rfl, trivial⟩ rfl
 have hje : j = fs.length := by omega
 refine BD ?_
 refine B2 (AV ?_)
 rw [show fs.take j = fs by rw [hje, List.take_length]]
 refine kC [4, 5, 6, 27, 28, 29, 30] ?_
 refine AH.mid [Ao p dk lim (fs.map fun f => (f, [])), Af 9 1 encKs nv (fs.map nameL), Ab dk d, Aj tb] (.refl _) (Al (Am Ac rfl (CE [0, 2, 3] (hload p) ?_)))
 refine AK ?_
 refine Am Ac rfl (CE [0, 2, 3] (hrep p) ?_)
 refine GK ?_
 exact BJ (.tmp rfl) (.tmp rfl) (fun w h => As p rfl [0, 2, 3] rfl h DK) rfl
end Go.Proofs.YtjcfimmcogkopaaGreatDoor.Sep
