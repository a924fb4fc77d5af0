/-
  SgH · SgCt · SgFi
-/
import Derived.Test.YtjcfimmcogkopaaGreatDoorWN01
import Derived.Test.YtjcfimmcogkopaaGreatDoorWN03
import Derived.Test.YtjcfimmcogkopaaGreatDoorWO01
set_option linter.unusedSimpArgs false
set_option linter.unusedVariables false
set_option maxRecDepth 100000
namespace Go.Proofs.YtjcfimmcogkopaaGreatDoor.Sep
open Go.RowKit
open Go.Proofs.YtjcfimmcogkopaaGreatDoor.Mem (Bb Ci Chg Aw)
theorem DK {p dk lim i f : Nat} {ss : SegsM} {l : List (Int × Nat)} {d d' : DiskD} (hfl : ss[i]? = some (f, l)) (hl : ss.length ≤ 1000000) (hf : f ≤ 72057594037927935) (tb : Tb) (hd : d.fit) (hdel : Iy d (nameL f) = (d', 0)) : AV Tryz.prog 87 #[.pointer (some ⟨p, 0, none⟩)] [Ay p dk lim (ss.take (i + 1)), Ag dk d, Ao tb] (fun (_ : Unit) => .int .i64 0) (fun (_ : Unit) => [Ay p dk lim (ss.take i), Ag dk d', Ao tb]) := by
 have htk : ss.take (i + 1) = ss.take i ++ [(f, l)] := by rw [List.take_add_one, hfl]; rfl
 rw [htk]
 exact K3 (by rw [List.length_take]; omega) hf tb hd hdel
theorem Mw {p dk lim n : Nat} {sv : Value} {svs : List SegV} {x : SegV} (hn : svs.length = n + 1) (hx : svs[n]? = some x) (hl : n ≤ 1000000) (hl0 : 0 < x.l.length) (hl2 : x.l.length ≤ 1000000) (hf : x.f ≤ 72057594037927935) : AV Tryz.prog 33 #[.pointer (some ⟨p, 0, none⟩)] [cell p 76 #[.pointer (some ⟨dk, 0, none⟩), .int .i64 (lim : Int), sv], Aj 83 2 encSg sv svs, Bc svs] (fun (_ : Unit) => .int .u64 ((x.f + x.l.length - 1 : Nat) : Int)) (fun (_ : Unit) => [cell p 76 #[.pointer (some ⟨dk, 0, none⟩), .int .i64 (lim : Int), sv], Aj 83 2 encSg sv svs, Bc svs]) := by
 refine Bo (args := [.pointer (some ⟨p, 0, none⟩)]) 14 Tryz.func33 rfl rfl rfl ?_; intro w rs
 refine Ad (Af Ae rfl (Ab (Ar (Ad (Af Ae rfl (Aa rfl (.pointer (some ⟨p, 0, none⟩)) (fun b w hb hH => by exact B4 rfl rfl hb) (Af Ae rfl (Aa rfl (sv) (fun b w hb hH => Ba rfl rfl (Bl C6 rfl) (hH.row 0 rfl) hb) (Aa rfl (.int .i64 ((n + 1 : Nat) : Int)) (fun b w hb hH => BG 1 hn Tryz.underlying74 rfl rfl rfl hH hb) (Aa rfl (.bool false) (fun b w hb hH => A5 rfl rfl rfl (EM (by omega)) hb) (Ab (Au rfl (Av (AC (Ad ?_)))))))))))))))
 refine Af Ae rfl (Al rfl (As (os' := fun _ => [cell p 76 #[.pointer (some ⟨dk, 0, none⟩), .int .i64 (lim : Int), sv], Aj 83 2 encSg sv svs, Bc svs]) [0, 1] 0 (Ai Tryz.func86 (by kernel_rfl) rfl) (BZ hn (by omega)) rfl rfl rfl (fun _ => rfl) rfl rfl rfl) ?_); rintro ⟨⟩
 refine Aa rfl (AN sv (n * 2)) (fun b w hb hH => BE 1 rfl (j := n) (List.getElem?_eq_some_iff.1 hx).1 rfl rfl hH hb) ?_
 refine Aa rfl (.agg (encSg x).toArray) (fun b w hb hH => Dp AM (by decide) (hH.vec 1 rfl AM) (j := n) hx B1 rfl rfl hb) (Al (post := fun _ => [cell p 76 #[.pointer (some ⟨dk, 0, none⟩), .int .i64 (lim : Int), sv], Aj 83 2 encSg sv svs, Bc svs]) rfl (Bk (Ai Tryz.func89 (by kernel_rfl) rfl) (fun w hH => QO w hl0 hl2 hf (CL 2 rfl hx hH)) rfl rfl rfl) ?_); rintro ⟨⟩
 refine Af Ae rfl (Ab (AB ?_))
 exact AA (.tmp rfl) (fun w h => AH () rfl [0, 1, 2] rfl h El) rfl
theorem U1 {p dk lim n r : Nat} {ss : SegsM} {D : Nat → DiskD} (tb : Tb) (hl : ss.length ≤ 1000000) (hn64 : n ≤ 18446744073709551615) (hdel : ∀ (i f : Nat) (l : List (Int × Nat)), 0 ≤ i → ss[i]? = some (f, l) → n ≤ f ∧ f ≤ 72057594037927935 ∧ (D (i + 1)).fit ∧ Iy (D (i + 1)) (nameL f) = (D i, 0)) : AV Tryz.prog 31 #[.pointer (some ⟨p, 0, none⟩), .int .u64 (n : Int)] [Ay p dk lim ss, Ag dk (D ss.length), Ao tb] (fun (_ : Unit) => .int .i64 0) (fun (_ : Unit) => [Ay p dk lim ([]), Ag dk (D 0), Ao tb]) := by
 refine Bo (args := [.pointer (some ⟨p, 0, none⟩), .int .u64 (n : Int)]) 78 Tryz.func31 rfl rfl rfl ?_; intro w rs
 refine Ad (Af Ae rfl (Ab (Ar (AK (AL.mid [Ay p dk lim (ss.take ss.length), Ag dk (D ss.length), Ao tb] (by rw [List.take_length]) (CC (α := Nat) (fun j => [(0, .pointer (some ⟨p, 0, none⟩)), (1, .int .u64 (n : Int)), (4, .int .i64 0)]) (fun j => [Ay p dk lim (ss.take j), Ag dk (D j), Ao tb]) (fun j => 0 ≤ j ∧ j ≤ ss.length) (fun j => j) ss.length ⟨Nat.zero_le _, Nat.le_refl _⟩ ⟨rfl, rfl, rfl, trivial⟩ rfl ?_))))))
 rintro j hI
 refine AL.at_ (env' := [(0, .pointer (some ⟨p, 0, none⟩)), (1, .int .u64 (n : Int)), (4, .int .i64 0)]) (rs' := [Ay p dk lim (ss.take j), Ag dk (D j), Ao tb]) ⟨rfl, rfl, rfl, trivial⟩ rfl (Ar ?_)
 rcases Nat.lt_or_ge 0 j with hjN | hjN
 obtain ⟨i, rfl⟩ : ∃ i, j = i + 1 := ⟨j - 1, by omega⟩
 obtain ⟨⟨f, l⟩, hfl⟩ : ∃ y, ss[i]? = some y := ⟨_, List.getElem?_eq_getElem (by omega)⟩
 have htk : ss.take (i + 1) = ss.take i ++ [(f, l)] := by rw [List.take_add_one, hfl]; rfl
 have hil : (ss.take i).length = i := by rw [List.length_take]; omega
 obtain ⟨hnf, hfb1, hfd, hdd⟩ := hdel i f l (by omega) hfl
 refine AX 0 rfl Ay.open_ (fun _ => rfl) ?_; rintro ⟨sv, svs⟩
 refine AL.fact 3 rfl (fun _ h => h.2) ?_; rintro hm
 refine AL.leave [3] rfl rfl ?_
 replace hm : svs.map SegV.m = ss.take (i + 1) := hm
 obtain ⟨x, hx, hxf, hxl, hn⟩ := CB (htk ▸ hm)
 rw [hil] at hx hn
 refine Ad (Af Ae rfl (Aa rfl (.pointer (some ⟨p, 0, none⟩)) (fun b w hb hH => by exact B4 rfl rfl hb) (Af Ae rfl (Aa rfl (sv) (fun b w hb hH => Ba rfl rfl (Bl C6 rfl) (hH.row 0 rfl) hb) (Aa rfl (.int .i64 ((i + 1 : Nat) : Int)) (fun b w hb hH => BG 1 hn Tryz.underlying74 rfl rfl rfl hH hb) (Aa rfl (.bool true) (fun b w hb hH => A5 rfl rfl rfl (BD (by omega)) hb) (Af Ae rfl (Al rfl (As (os' := fun _ => [cell p 76 #[.pointer (some ⟨dk, 0, none⟩), .int .i64 (lim : Int), sv], Aj 83 2 encSg sv svs, Bc svs, Ag dk (D (i + 1)), Ao tb]) [0, 1] 0 (Ai Tryz.func86 (by kernel_rfl) rfl) (BZ hn (by omega)) rfl rfl rfl (fun _ => rfl) rfl rfl rfl) ?_)))))))); rintro ⟨⟩
 refine Aa rfl (AN sv (i * 2)) (fun b w hb hH => BE 1 rfl (j := i) (List.getElem?_eq_some_iff.1 hx).1 rfl rfl hH hb) ?_
 refine Aa rfl (AN sv (i * 2 + 0)) (fun b w hb hH => FR AM (by decide) (hH.vec 1 rfl AM) (j := i) hx Bf rfl rfl hb) (Aa rfl (.int .u64 (x.f : Int)) (fun b w hb hH => Bq AM (by decide) (hH.vec 1 rfl AM) (j := i) hx AQ (off := 0) rfl rfl rfl hb) (Af Ae rfl (Aa rfl (.bool true) (fun b w hb hH => A5 rfl rfl rfl (Cb (by omega)) hb) (Af Ae rfl (Ab (AE rfl (Av (AC (AK (Bj [0, 1, 2] rfl (CV hm) rfl (AL.keep (env' := [(0, .pointer (some ⟨p, 0, none⟩)), (1, .int .u64 (n : Int)), (4, .int .i64 0), (9, .pointer (some ⟨p, 0, none⟩)), (10, .pointer (some ⟨p, 0, none⟩)), (11, .pointer (some ⟨p, 2, none⟩)), (12, sv), (13, .int .i64 ((i + 1 : Nat) : Int)), (14, .bool true), (15, .bool true), (16, .pointer (some ⟨p, 0, none⟩)), (17, AN sv (i * 2)), (18, AN sv (i * 2)), (19, AN sv (i * 2 + 0)), (20, .int .u64 (x.f : Int)), (21, .int .u64 (n : Int)), (22, .bool true), (23, .bool true)]) ⟨rfl, rfl, rfl, rfl, rfl, rfl, rfl, rfl, rfl, rfl, rfl, rfl, rfl, rfl, rfl, rfl, rfl, rfl, trivial⟩ (AL.mid [Ay p dk lim (ss.take (i + 1)), Ag dk (D (i + 1)), Ao tb] (.refl _) (Ad ?_)))))))))))))
 refine Af Ae rfl (Al rfl (As (os' := fun _ => [Ay p dk lim (ss.take i), Ag dk (D i), Ao tb]) [0, 1, 2] 0 (Ai Tryz.func87 (by kernel_rfl) rfl) (DK hfl hl hfb1 tb hfd hdd) rfl rfl rfl (fun _ => rfl) rfl rfl rfl) ?_); rintro ⟨⟩
 refine Af Ae rfl (Ab (Ad (Af Ae rfl (Aa rfl (.bool false) (fun b w hb hH => A5 rfl rfl rfl (Bn (by decide)) hb) (Ab (Au rfl (Av (A6 ?_))))))))
 exact B6 i 0 ⟨by omega, by omega⟩ (show i < i + 1 by omega) ⟨rfl, rfl, rfl, trivial⟩ rfl
 obtain rfl : j = 0 := by omega
 refine AL.keep (env' := [(0, .pointer (some ⟨p, 0, none⟩)), (1, .int .u64 (n : Int)), (4, .int .i64 0)]) ⟨rfl, rfl, rfl, trivial⟩ (AL.mid [Ay p dk lim ([]), Ag dk (D 0), Ao tb] (.refl _) (AX 0 rfl Ay.open_ (fun _ => rfl) ?_)); rintro ⟨sv, svs⟩
 refine AL.fact 3 rfl (fun _ h => h.2) ?_; rintro hm
 refine AL.leave [3] rfl rfl ?_
 replace hm : svs.map SegV.m = [] := hm
 have hn : svs.length = 0 := by have := congrArg List.length hm; simpa using this
 refine Ad (Af Ae rfl (Aa rfl (.pointer (some ⟨p, 0, none⟩)) (fun b w hb hH => by exact B4 rfl rfl hb) (Af Ae rfl (Aa rfl (sv) (fun b w hb hH => Ba rfl rfl (Bl C6 rfl) (hH.row 0 rfl) hb) (Aa rfl (.int .i64 ((0 : Nat) : Int)) (fun b w hb hH => BG 1 hn Tryz.underlying74 rfl rfl rfl hH hb) (Aa rfl (.bool false) (fun b w hb hH => A5 rfl rfl rfl (By (by omega)) hb) (Af Ae rfl (Ab (Au rfl (CJ (Fq (Fq (Bg (AC (Ar (Ad (Af Ae rfl ?_)))))))))))))))))
 refine Aa rfl (.pointer (some ⟨p, 0, none⟩)) (fun b w hb hH => by exact B4 rfl rfl hb) (Af Ae rfl (Aa rfl (sv) (fun b w hb hH => Ba rfl rfl (Bl C6 rfl) (hH.row 0 rfl) hb) (Aa rfl (.int .i64 ((0 : Nat) : Int)) (fun b w hb hH => BG 1 hn Tryz.underlying74 rfl rfl rfl hH hb) (Aa rfl (.bool true) (fun b w hb hH => A5 rfl rfl rfl (Fw (by omega)) hb) (Af Ae rfl (Ab (AE rfl (Ad (Af Ae rfl (Ab (AB (Ek ?_))))))))))))
 exact AA (.tmp rfl) (fun w h => AH () rfl [0, 1, 2, 3, 4] rfl h (fun z hz => Dg hm z hz)) rfl
theorem Wk {p dk lim n r : Nat} {ss : SegsM} {D : Nat → DiskD} (tb : Tb) (hl : ss.length ≤ 1000000) (hn64 : n ≤ 18446744073709551615) (hdel : ∀ (i f : Nat) (l : List (Int × Nat)), r + 1 ≤ i → ss[i]? = some (f, l) → n ≤ f ∧ f ≤ 72057594037927935 ∧ (D (i + 1)).fit ∧ Iy (D (i + 1)) (nameL f) = (D i, 0)) {f0 : Nat} {l0 : List (Int × Nat)} (hsr : ss[r]? = some (f0, l0)) (hf0 : f0 < n) (hfb : f0 ≤ 72057594037927935) (h0 : l0 ≠ []) (hl0 : l0.length ≤ 1000000) (hgap : f0 + l0.length ≤ n) : AV Tryz.prog 31 #[.pointer (some ⟨p, 0, none⟩), .int .u64 (n : Int)] [Ay p dk lim ss, Ag dk (D ss.length), Ao tb] (fun (_ : Unit) => .int .i64 0) (fun (_ : Unit) => [Ay p dk lim (ss.take (r + 1)), Ag dk (D (r + 1)), Ao tb]) := by
 refine Bo (args := [.pointer (some ⟨p, 0, none⟩), .int .u64 (n : Int)]) 78 Tryz.func31 rfl rfl rfl ?_; intro w rs
 refine Ad (Af Ae rfl (Ab (Ar (AK (AL.mid [Ay p dk lim (ss.take ss.length), Ag dk (D ss.length), Ao tb] (by rw [List.take_length]) ?_)))))
 refine CC (α := Nat) (fun j => [(0, .pointer (some ⟨p, 0, none⟩)), (1, .int .u64 (n : Int)), (4, .int .i64 0)]) (fun j => [Ay p dk lim (ss.take j), Ag dk (D j), Ao tb]) (fun j => r + 1 ≤ j ∧ j ≤ ss.length) (fun j => j) ss.length ⟨(List.getElem?_eq_some_iff.1 hsr).1, Nat.le_refl _⟩ ⟨rfl, rfl, rfl, trivial⟩ rfl ?_
 rintro j hI
 refine AL.at_ (env' := [(0, .pointer (some ⟨p, 0, none⟩)), (1, .int .u64 (n : Int)), (4, .int .i64 0)]) (rs' := [Ay p dk lim (ss.take j), Ag dk (D j), Ao tb]) ⟨rfl, rfl, rfl, trivial⟩ rfl (Ar ?_)
 rcases Nat.lt_or_ge (r + 1) j with hjN | hjN
 obtain ⟨i, rfl⟩ : ∃ i, j = i + 1 := ⟨j - 1, by omega⟩
 obtain ⟨⟨f, l⟩, hfl⟩ : ∃ y, ss[i]? = some y := ⟨_, List.getElem?_eq_getElem (by omega)⟩
 have htk : ss.take (i + 1) = ss.take i ++ [(f, l)] := by rw [List.take_add_one, hfl]; rfl
 have hil : (ss.take i).length = i := by rw [List.length_take]; omega
 obtain ⟨hnf, hfb1, hfd, hdd⟩ := hdel i f l (by omega) hfl
 refine AX 0 rfl Ay.open_ (fun _ => rfl) ?_; rintro ⟨sv, svs⟩
 refine AL.fact 3 rfl (fun _ h => h.2) ?_; rintro hm
 refine AL.leave [3] rfl rfl ?_
 replace hm : svs.map SegV.m = ss.take (i + 1) := hm
 obtain ⟨x, hx, hxf, hxl, hn⟩ := CB (htk ▸ hm)
 rw [hil] at hx hn
 refine Ad (Af Ae rfl (Aa rfl (.pointer (some ⟨p, 0, none⟩)) (fun b w hb hH => by exact B4 rfl rfl hb) (Af Ae rfl (Aa rfl (sv) (fun b w hb hH => Ba rfl rfl (Bl C6 rfl) (hH.row 0 rfl) hb) (Aa rfl (.int .i64 ((i + 1 : Nat) : Int)) (fun b w hb hH => BG 1 hn Tryz.underlying74 rfl rfl rfl hH hb) (Aa rfl (.bool true) (fun b w hb hH => A5 rfl rfl rfl (BD (by omega)) hb) (Af Ae rfl (Al rfl (As (os' := fun _ => [cell p 76 #[.pointer (some ⟨dk, 0, none⟩), .int .i64 (lim : Int), sv], Aj 83 2 encSg sv svs, Bc svs, Ag dk (D (i + 1)), Ao tb]) [0, 1] 0 (Ai Tryz.func86 (by kernel_rfl) rfl) (BZ hn (by omega)) rfl rfl rfl (fun _ => rfl) rfl rfl rfl) ?_)))))))); rintro ⟨⟩
 refine Aa rfl (AN sv (i * 2)) (fun b w hb hH => BE 1 rfl (j := i) (List.getElem?_eq_some_iff.1 hx).1 rfl rfl hH hb) ?_
 refine Aa rfl (AN sv (i * 2 + 0)) (fun b w hb hH => FR AM (by decide) (hH.vec 1 rfl AM) (j := i) hx Bf rfl rfl hb) (Aa rfl (.int .u64 (x.f : Int)) (fun b w hb hH => Bq AM (by decide) (hH.vec 1 rfl AM) (j := i) hx AQ (off := 0) rfl rfl rfl hb) (Af Ae rfl (Aa rfl (.bool true) (fun b w hb hH => A5 rfl rfl rfl (Cb (by omega)) hb) (Af Ae rfl (Ab (AE rfl (Av (AC (AK (Bj [0, 1, 2] rfl (CV hm) rfl (AL.keep (env' := [(0, .pointer (some ⟨p, 0, none⟩)), (1, .int .u64 (n : Int)), (4, .int .i64 0), (9, .pointer (some ⟨p, 0, none⟩)), (10, .pointer (some ⟨p, 0, none⟩)), (11, .pointer (some ⟨p, 2, none⟩)), (12, sv), (13, .int .i64 ((i + 1 : Nat) : Int)), (14, .bool true), (15, .bool true), (16, .pointer (some ⟨p, 0, none⟩)), (17, AN sv (i * 2)), (18, AN sv (i * 2)), (19, AN sv (i * 2 + 0)), (20, .int .u64 (x.f : Int)), (21, .int .u64 (n : Int)), (22, .bool true), (23, .bool true)]) ⟨rfl, rfl, rfl, rfl, rfl, rfl, rfl, rfl, rfl, rfl, rfl, rfl, rfl, rfl, rfl, rfl, rfl, rfl, trivial⟩ (AL.mid [Ay p dk lim (ss.take (i + 1)), Ag dk (D (i + 1)), Ao tb] (.refl _) (Ad ?_)))))))))))))
 refine Af Ae rfl (Al rfl (As (os' := fun _ => [Ay p dk lim (ss.take i), Ag dk (D i), Ao tb]) [0, 1, 2] 0 (Ai Tryz.func87 (by kernel_rfl) rfl) (DK hfl hl hfb1 tb hfd hdd) rfl rfl rfl (fun _ => rfl) rfl rfl rfl) ?_); rintro ⟨⟩
 refine Af Ae rfl (Ab (Ad (Af Ae rfl (Aa rfl (.bool false) (fun b w hb hH => A5 rfl rfl rfl (Bn (by decide)) hb) (Ab (Au rfl (Av (A6 ?_))))))))
 exact B6 i 0 ⟨by omega, by omega⟩ (show i < i + 1 by omega) ⟨rfl, rfl, rfl, trivial⟩ rfl
 obtain rfl : j = r + 1 := by omega
 have hrl := (List.getElem?_eq_some_iff.1 hsr).1
 have htk : ss.take (r + 1) = ss.take r ++ [(f0, l0)] := by rw [List.take_add_one, hsr]; rfl
 have hil : (ss.take r).length = r := by rw [List.length_take]; omega
 have hl0p : 0 < l0.length := List.length_pos_iff.2 h0
 refine AX 0 rfl Ay.open_ (fun _ => rfl) ?_; rintro ⟨sv, svs⟩
 refine AL.fact 3 rfl (fun _ h => h.2) ?_; rintro hm
 refine AL.leave [3] rfl rfl ?_
 replace hm : svs.map SegV.m = ss.take (r + 1) := hm
 rw [htk] at hm
 obtain ⟨x, hx, rfl, rfl, hn⟩ := CB hm
 rw [hil] at hx hn
 have hjl : r < svs.length := (List.getElem?_eq_some_iff.1 hx).1
 refine Ad (Af Ae rfl (Aa rfl (.pointer (some ⟨p, 0, none⟩)) (fun b w hb hH => by exact B4 rfl rfl hb) (Af Ae rfl (Aa rfl (sv) (fun b w hb hH => Ba rfl rfl (Bl C6 rfl) (hH.row 0 rfl) hb) (Aa rfl (.int .i64 ((r + 1 : Nat) : Int)) (fun b w hb hH => BG 1 hn Tryz.underlying74 rfl rfl rfl hH hb) (Aa rfl (.bool true) (fun b w hb hH => A5 rfl rfl rfl (BD (by omega)) hb) (Af Ae rfl (Al rfl (As (os' := fun _ => [cell p 76 #[.pointer (some ⟨dk, 0, none⟩), .int .i64 (lim : Int), sv], Aj 83 2 encSg sv svs, Bc svs, Ag dk (D (r + 1)), Ao tb]) [0, 1] 0 (Ai Tryz.func86 (by kernel_rfl) rfl) (BZ hn (by omega)) rfl rfl rfl (fun _ => rfl) rfl rfl rfl) ?_)))))))); rintro ⟨⟩
 refine Aa rfl (AN sv (r * 2)) (fun b w hb hH => BE 1 rfl (j := r) (List.getElem?_eq_some_iff.1 hx).1 rfl rfl hH hb) ?_
 refine Aa rfl (AN sv (r * 2 + 0)) (fun b w hb hH => FR AM (by decide) (hH.vec 1 rfl AM) (j := r) hx Bf rfl rfl hb) (Aa rfl (.int .u64 (x.f : Int)) (fun b w hb hH => Bq AM (by decide) (hH.vec 1 rfl AM) (j := r) hx AQ (off := 0) rfl rfl rfl hb) (Af Ae rfl (Aa rfl (.bool false) (fun b w hb hH => A5 rfl rfl rfl (De (by omega)) hb) (Af Ae rfl (Ab (Au rfl (CJ (Fq (Fq (Bg (AC (Ar (Ad (Af Ae rfl (Aa rfl (.pointer (some ⟨p, 0, none⟩)) (fun b w hb hH => by exact B4 rfl rfl hb) (Af Ae rfl (Aa rfl (sv) (fun b w hb hH => Ba rfl rfl (Bl C6 rfl) (hH.row 0 rfl) hb) ?_)))))))))))))))))
 refine Aa rfl (.int .i64 ((r + 1 : Nat) : Int)) (fun b w hb hH => BG 1 hn Tryz.underlying74 rfl rfl rfl hH hb) (Aa rfl (.bool false) (fun b w hb hH => A5 rfl rfl rfl (EM (by omega)) hb) (Af Ae rfl (Al rfl (As (os' := fun _ => [cell p 76 #[.pointer (some ⟨dk, 0, none⟩), .int .i64 (lim : Int), sv], Aj 83 2 encSg sv svs, Bc svs, Ag dk (D (r + 1)), Ao tb]) [0, 1, 2] 0 (Ai Tryz.func33 (by kernel_rfl) rfl) (Mw hn hx (by omega) hl0p hl0 hfb) rfl rfl rfl (fun _ => rfl) rfl rfl rfl) ?_))); rintro ⟨⟩
 refine Af Ae rfl (Aa rfl (.bool true) (fun b w hb hH => A5 rfl rfl rfl (BY (by omega)) hb) (Af Ae rfl (Ab (AE rfl (Ad (Af Ae rfl (Ab (AB (Ek ?_)))))))))
 exact AA (.tmp rfl) (fun w h => AH () rfl [0, 1, 2, 3, 4] rfl h (fun z hz => Dg (hm.trans htk.symm) z hz)) rfl
theorem Xv {p dk lim n r : Nat} {ss : SegsM} {D : Nat → DiskD} (tb : Tb) (hl : ss.length ≤ 1000000) (hn64 : n ≤ 18446744073709551615) (hdel : ∀ (i f : Nat) (l : List (Int × Nat)), r + 1 ≤ i → ss[i]? = some (f, l) → n ≤ f ∧ f ≤ 72057594037927935 ∧ (D (i + 1)).fit ∧ Iy (D (i + 1)) (nameL f) = (D i, 0)) {f0 : Nat} {l0 : List (Int × Nat)} (hsr : ss[r]? = some (f0, l0)) (hf0 : f0 < n) (hfb : f0 ≤ 72057594037927935) (h0 : l0 ≠ []) (hl0 : l0.length ≤ 1000000) (hin : n < f0 + l0.length) {d' : DiskD} {m : Int × Nat} (hm1 : l0[n - f0 - 1]? = some m) (hfit : (D (r + 1)).fit) (hcut : OG (D (r + 1)) (nameL f0) (m.2 : Int) = (d', 0)) : AV Tryz.prog 31 #[.pointer (some ⟨p, 0, none⟩), .int .u64 (n : Int)] [Ay p dk lim ss, Ag dk (D ss.length), Ao tb] (fun (_ : Unit) => .int .i64 0) (fun (_ : Unit) => [Ay p dk lim (ss.take r ++ [(f0, l0.take (n - f0))]), Ag dk d', Ao tb]) := by
  refine Bo (args := [.pointer (some ⟨p, 0, none⟩), .int .u64 (n : Int)]) 78 Tryz.func31 rfl rfl rfl ?_; intro w rs
  refine Ad (Af Ae rfl (Ab (Ar (AK (AL.mid [Ay p dk lim (ss.take ss.length), Ag dk (D ss.length), Ao tb] (by rw [List.take_length]) ?_)))))
  refine CC (α := Nat) (fun j => [(0, .pointer (some ⟨p, 0, none⟩)), (1, .int .u64 (n : Int)), (4, .int .i64 0)]) (fun j => [Ay p dk lim (ss.take j), Ag dk (D j), Ao tb]) (fun j => r + 1 ≤ j ∧ j ≤ ss.length) (fun j => j) ss.length ⟨(List.getElem?_eq_some_iff.1 hsr).1, Nat.le_refl _⟩ ⟨rfl, rfl, rfl, trivial⟩ rfl ?_
  rintro j hI
  refine AL.at_ (env' := [(0, .pointer (some ⟨p, 0, none⟩)), (1, .int .u64 (n : Int)), (4, .int .i64 0)]) (rs' := [Ay p dk lim (ss.take j), Ag dk (D j), Ao tb]) ⟨rfl, rfl, rfl, trivial⟩ rfl (Ar ?_)
  rcases Nat.lt_or_ge (r + 1) j with hjN | hjN
  obtain ⟨i, rfl⟩ : ∃ i, j = i + 1 := ⟨j - 1, by omega⟩
  obtain ⟨⟨f, l⟩, hfl⟩ : ∃ y, ss[i]? = some y := ⟨_, List.getElem?_eq_getElem (by omega)⟩
  have htk : ss.take (i + 1) = ss.take i ++ [(f, l)] := by rw [List.take_add_one, hfl]; rfl
  have hil : (ss.take i).length = i := by rw [List.length_take]; omega
  obtain ⟨hnf, hfb1, hfd, hdd⟩ := hdel i f l (by omega) hfl
  refine AX 0 rfl Ay.open_ (fun _ => rfl) ?_; rintro ⟨sv, svs⟩
  refine AL.fact 3 rfl (fun _ h => h.2) ?_; rintro hm
  refine AL.leave [3] rfl rfl ?_
  replace hm : svs.map SegV.m = ss.take (i + 1) := hm
  obtain ⟨x, hx, hxf, hxl, hn⟩ := CB (htk ▸ hm)
  rw [hil] at hx hn
  refine Ad (Af Ae rfl (Aa rfl (.pointer (some ⟨p, 0, none⟩)) (fun b w hb hH => by exact B4 rfl rfl hb) (Af Ae rfl (Aa rfl (sv) (fun b w hb hH => Ba rfl rfl (Bl C6 rfl) (hH.row 0 rfl) hb) (Aa rfl (.int .i64 ((i + 1 : Nat) : Int)) (fun b w hb hH => BG 1 hn Tryz.underlying74 rfl rfl rfl hH hb) (Aa rfl (.bool true) (fun b w hb hH => A5 rfl rfl rfl (BD (by omega)) hb) (Af Ae rfl (Al rfl (As (os' := fun _ => [cell p 76 #[.pointer (some ⟨dk, 0, none⟩), .int .i64 (lim : Int), sv], Aj 83 2 encSg sv svs, Bc svs, Ag dk (D (i + 1)), Ao tb]) [0, 1] 0 (Ai Tryz.func86 (by kernel_rfl) rfl) (BZ hn (by omega)) rfl rfl rfl (fun _ => rfl) rfl rfl rfl) ?_)))))))); rintro ⟨⟩
  refine Aa rfl (AN sv (i * 2)) (fun b w hb hH => BE 1 rfl (j := i) (List.getElem?_eq_some_iff.1 hx).1 rfl rfl hH hb) ?_
  refine Aa rfl (AN sv (i * 2 + 0)) (fun b w hb hH => FR AM (by decide) (hH.vec 1 rfl AM) (j := i) hx Bf rfl rfl hb) (Aa rfl (.int .u64 (x.f : Int)) (fun b w hb hH => Bq AM (by decide) (hH.vec 1 rfl AM) (j := i) hx AQ (off := 0) rfl rfl rfl hb) (Af Ae rfl (Aa rfl (.bool true) (fun b w hb hH => A5 rfl rfl rfl (Cb (by omega)) hb) (Af Ae rfl (Ab (AE rfl (Av (AC (AK (Bj [0, 1, 2] rfl (CV hm) rfl (AL.keep (env' := [(0, .pointer (some ⟨p, 0, none⟩)), (1, .int .u64 (n : Int)), (4, .int .i64 0), (9, .pointer (some ⟨p, 0, none⟩)), (10, .pointer (some ⟨p, 0, none⟩)), (11, .pointer (some ⟨p, 2, none⟩)), (12, sv), (13, .int .i64 ((i + 1 : Nat) : Int)), (14, .bool true), (15, .bool true), (16, .pointer (some ⟨p, 0, none⟩)), (17, AN sv (i * 2)), (18, AN sv (i * 2)), (19, AN sv (i * 2 + 0)), (20, .int .u64 (x.f : Int)), (21, .int .u64 (n : Int)), (22, .bool true), (23, .bool true)]) ⟨rfl, rfl, rfl, rfl, rfl, rfl, rfl, rfl, rfl, rfl, rfl, rfl, rfl, rfl, rfl, rfl, rfl, rfl, trivial⟩ (AL.mid [Ay p dk lim (ss.take (i + 1)), Ag dk (D (i + 1)), Ao tb] (.refl _) (Ad ?_)))))))))))))
  refine Af Ae rfl (Al rfl (As (os' := fun _ => [Ay p dk lim (ss.take i), Ag dk (D i), Ao tb]) [0, 1, 2] 0 (Ai Tryz.func87 (by kernel_rfl) rfl) (DK hfl hl hfb1 tb hfd hdd) rfl rfl rfl (fun _ => rfl) rfl rfl rfl) ?_); rintro ⟨⟩
  refine Af Ae rfl (Ab (Ad (Af Ae rfl (Aa rfl (.bool false) (fun b w hb hH => A5 rfl rfl rfl (Bn (by decide)) hb) (Ab (Au rfl (Av (A6 ?_))))))))
  exact B6 i 0 ⟨by omega, by omega⟩ (show i < i + 1 by omega) ⟨rfl, rfl, rfl, trivial⟩ rfl
  obtain rfl : j = r + 1 := by omega
  have hrl := (List.getElem?_eq_some_iff.1 hsr).1
  have htk : ss.take (r + 1) = ss.take r ++ [(f0, l0)] := by rw [List.take_add_one, hsr]; rfl
  have hil : (ss.take r).length = r := by rw [List.length_take]; omega
  have hl0p : 0 < l0.length := List.length_pos_iff.2 h0
  refine AX 0 rfl Ay.open_ (fun _ => rfl) ?_; rintro ⟨sv, svs⟩
  refine AL.fact 3 rfl (fun _ h => h.2) ?_; rintro hm
  refine AL.leave [3] rfl rfl ?_
  replace hm : svs.map SegV.m = ss.take (r + 1) := hm
  rw [htk] at hm
  obtain ⟨x, hx, rfl, rfl, hn⟩ := CB hm
  rw [hil] at hx hn
  have hjl : r < svs.length := (List.getElem?_eq_some_iff.1 hx).1
  refine Ad (Af Ae rfl (Aa rfl (.pointer (some ⟨p, 0, none⟩)) (fun b w hb hH => by exact B4 rfl rfl hb) (Af Ae rfl (Aa rfl (sv) (fun b w hb hH => Ba rfl rfl (Bl C6 rfl) (hH.row 0 rfl) hb) (Aa rfl (.int .i64 ((r + 1 : Nat) : Int)) (fun b w hb hH => BG 1 hn Tryz.underlying74 rfl rfl rfl hH hb) (Aa rfl (.bool true) (fun b w hb hH => A5 rfl rfl rfl (BD (by omega)) hb) (Af Ae rfl (Al rfl (As (os' := fun _ => [cell p 76 #[.pointer (some ⟨dk, 0, none⟩), .int .i64 (lim : Int), sv], Aj 83 2 encSg sv svs, Bc svs, Ag dk (D (r + 1)), Ao tb]) [0, 1] 0 (Ai Tryz.func86 (by kernel_rfl) rfl) (BZ hn (by omega)) rfl rfl rfl (fun _ => rfl) rfl rfl rfl) ?_)))))))); rintro ⟨⟩
  refine Aa rfl (AN sv (r * 2)) (fun b w hb hH => BE 1 rfl (j := r) (List.getElem?_eq_some_iff.1 hx).1 rfl rfl hH hb) ?_
  refine Aa rfl (AN sv (r * 2 + 0)) (fun b w hb hH => FR AM (by decide) (hH.vec 1 rfl AM) (j := r) hx Bf rfl rfl hb) (Aa rfl (.int .u64 (x.f : Int)) (fun b w hb hH => Bq AM (by decide) (hH.vec 1 rfl AM) (j := r) hx AQ (off := 0) rfl rfl rfl hb) (Af Ae rfl (Aa rfl (.bool false) (fun b w hb hH => A5 rfl rfl rfl (De (by omega)) hb) (Af Ae rfl (Ab (Au rfl (CJ (Fq (Fq (Bg (AC (Ar (Ad (Af Ae rfl (Aa rfl (.pointer (some ⟨p, 0, none⟩)) (fun b w hb hH => by exact B4 rfl rfl hb) (Af Ae rfl (Aa rfl (sv) (fun b w hb hH => Ba rfl rfl (Bl C6 rfl) (hH.row 0 rfl) hb) ?_)))))))))))))))))
  refine Aa rfl (.int .i64 ((r + 1 : Nat) : Int)) (fun b w hb hH => BG 1 hn Tryz.underlying74 rfl rfl rfl hH hb) (Aa rfl (.bool false) (fun b w hb hH => A5 rfl rfl rfl (EM (by omega)) hb) (Af Ae rfl (Al rfl (As (os' := fun _ => [cell p 76 #[.pointer (some ⟨dk, 0, none⟩), .int .i64 (lim : Int), sv], Aj 83 2 encSg sv svs, Bc svs, Ag dk (D (r + 1)), Ao tb]) [0, 1, 2] 0 (Ai Tryz.func33 (by kernel_rfl) rfl) (Mw hn hx (by omega) hl0p hl0 hfb) rfl rfl rfl (fun _ => rfl) rfl rfl rfl) ?_))); rintro ⟨⟩
  refine Af Ae rfl (Aa rfl (.bool false) (fun b w hb hH => A5 rfl rfl rfl (BI (by omega)) hb) (Af Ae rfl (Ab (Au rfl (Av (AC (Ad (Af Ae rfl (Al rfl (As (os' := fun _ => [cell p 76 #[.pointer (some ⟨dk, 0, none⟩), .int .i64 (lim : Int), sv], Aj 83 2 encSg sv svs, Bc svs, Ag dk (D (r + 1)), Ao tb]) [0, 1] 0 (Ai Tryz.func86 (by kernel_rfl) rfl) (BZ hn (by omega)) rfl rfl rfl (fun _ => rfl) rfl rfl rfl) ?_))))))))); rintro ⟨⟩
  refine Af Ae rfl (Ab (AX 2 rfl (JR hx) (fun _ => rfl) ?_)); rintro ⟨⟩
  refine AL.fact 1 rfl JS ?_; rintro hcap
  have htl : (x.l.take (n - x.f)).length = n - x.f := by rw [List.length_take]; omega
  have hsub2 : Cu 2 (.slice x.A x.l.length x.c) 0 (n - x.f) = .slice x.A (x.l.take (n - x.f)).length x.c := by rw [htl]; exact H7
  have hm1c : (x.l.take (n - x.f))[n - x.f - 1]? = some m := by rw [List.getElem?_take, if_pos (by omega)]; exact hm1
  refine AL.keep (env' := [(0, .pointer (some ⟨p, 0, none⟩)), (1, .int .u64 (n : Int)), (4, .int .i64 0), (9, .pointer (some ⟨p, 0, none⟩)), (10, .pointer (some ⟨p, 0, none⟩)), (11, .pointer (some ⟨p, 2, none⟩)), (12, sv), (13, .int .i64 ((r + 1 : Nat) : Int)), (14, .bool true), (15, .bool true), (16, .pointer (some ⟨p, 0, none⟩)), (17, AN sv (r * 2)), (18, AN sv (r * 2)), (19, AN sv (r * 2 + 0)), (20, .int .u64 (x.f : Int)), (21, .int .u64 (n : Int)), (22, .bool false), (23, .bool false), (29, .pointer (some ⟨p, 0, none⟩)), (30, .pointer (some ⟨p, 0, none⟩)), (31, .pointer (some ⟨p, 2, none⟩)), (32, sv), (33, .int .i64 ((r + 1 : Nat) : Int)), (34, .bool false), (35, .bool false), (36, .pointer (some ⟨p, 0, none⟩)), (37, .int .u64 ((x.f + x.l.length - 1 : Nat) : Int)), (38, .int .u64 (n : Int)), (39, .bool false), (40, .bool false), (41, .pointer (some ⟨p, 0, none⟩)), (42, AN sv (r * 2)), (6, AN sv (r * 2))]) ⟨rfl, rfl, rfl, rfl, rfl, rfl, rfl, rfl, rfl, rfl, rfl, rfl, rfl, rfl, rfl, rfl, rfl, rfl, rfl, rfl, rfl, rfl, rfl, rfl, rfl, rfl, rfl, rfl, rfl, rfl, rfl, rfl, rfl, trivial⟩ (AL.mid [AY (fun x : SegV => Aj 137 2 encMk x.v x.l) (svs.take r), Aj 137 2 encMk (.slice x.A x.l.length x.c) x.l, AY (fun x : SegV => Aj 137 2 encMk x.v x.l) (svs.drop (r + 1)), cell p 76 #[.pointer (some ⟨dk, 0, none⟩), .int .i64 (lim : Int), sv], Aj 83 2 encSg sv svs, Ag dk (D (r + 1)), Ao tb] (.refl _) (Ar ?_))
  refine BV 11 0 [⟨.quiet, [], fun _ => AN sv (r * 2), []⟩, ⟨.quiet, [], fun _ => AN sv (r * 2), [0]⟩, ⟨.quiet, [], fun _ => AN sv (r * 2 + 1), [1]⟩, ⟨.quiet, [], fun _ => .slice x.A x.l.length x.c, [2]⟩, ⟨.quiet, [], fun _ => .int .u64 (n : Int), []⟩, ⟨.quiet, [], fun _ => AN sv (r * 2), []⟩, ⟨.quiet, [], fun _ => AN sv (r * 2), [5]⟩, ⟨.quiet, [], fun _ => AN sv (r * 2 + 0), [6]⟩, ⟨.quiet, [], fun _ => .int .u64 (x.f : Int), [7]⟩, ⟨.quiet, [], fun _ => .int .u64 ((n - x.f : Nat) : Int), [4, 8]⟩, ⟨.quiet, [], fun _ => .slice x.A (x.l.take (n - x.f)).length x.c, [3, 9]⟩] [(0, .pointer (some ⟨p, 0, none⟩)), (1, .int .u64 (n : Int)), (4, .int .i64 0), (6, AN sv (r * 2))] (fun _ => [AY (fun x : SegV => Aj 137 2 encMk x.v x.l) (svs.take r), Aj 137 2 encMk (.slice x.A x.l.length x.c) x.l, AY (fun x : SegV => Aj 137 2 encMk x.v x.l) (svs.drop (r + 1)), cell p 76 #[.pointer (some ⟨dk, 0, none⟩), .int .i64 (lim : Int), sv], Aj 83 2 encSg sv svs, Ag dk (D (r + 1)), Ao tb]) (by kernel_rfl) (by kernel_rfl) ⟨rfl, rfl, rfl, rfl, trivial⟩ rfl ?_ ?_
  refine Ac (by exact ⟨rfl, fun b w hH hb => Ah Ae rfl hb⟩) ?_
  refine Ac (by exact ⟨rfl, fun b w hH hb => BE 4 rfl (j := r) (List.getElem?_eq_some_iff.1 hx).1 rfl rfl hH hb⟩) ?_
  refine Ac (by exact ⟨rfl, fun b w hH hb => FR AM (by decide) (hH.vec 4 rfl AM) (j := r) hx A7 rfl rfl hb⟩) (Ac (by exact ⟨rfl, fun b w hH hb => Bq AM (by decide) (hH.vec 4 rfl AM) (j := r) hx Bm (off := 1) rfl rfl rfl hb⟩) (Ac (by exact ⟨rfl, fun b w hH hb => Ah Ae rfl hb⟩) (Ac (by exact ⟨rfl, fun b w hH hb => Ah Ae rfl hb⟩) ?_)))
  refine Ac (by exact ⟨rfl, fun b w hH hb => BE 4 rfl (j := r) (List.getElem?_eq_some_iff.1 hx).1 rfl rfl hH hb⟩) ?_
  refine Ac (by exact ⟨rfl, fun b w hH hb => FR AM (by decide) (hH.vec 4 rfl AM) (j := r) hx Bf rfl rfl hb⟩) (Ac (by exact ⟨rfl, fun b w hH hb => Bq AM (by decide) (hH.vec 4 rfl AM) (j := r) hx AQ (off := 0) rfl rfl rfl hb⟩) (Ac (by exact ⟨rfl, fun b w hH hb => AJ rfl rfl rfl rfl (by rw [IntWalk.u64_in _ (by omega)]; omega) hb⟩) (Ac (by exact ⟨rfl, fun b w hH hb => FQ (j := n - x.f) CY hsub2 (by omega) rfl rfl rfl hH hb⟩) ?_)))
  exact B9
  refine BU.keep (env' := [(0, .pointer (some ⟨p, 0, none⟩)), (4, .int .i64 0), (6, AN sv (r * 2)), (53, .slice x.A (x.l.take (n - x.f)).length x.c)]) ⟨rfl, rfl, rfl, rfl, trivial⟩ (Af Ae rfl (AG (AC (Ar (Bj [1] rfl (Pi Gm (j := n - x.f) (by omega)) rfl (AL.keep (env' := [(0, .pointer (some ⟨p, 0, none⟩)), (4, .int .i64 0), (6, AN sv (r * 2)), (53, .slice x.A (x.l.take (n - x.f)).length x.c), (7, .slice x.A (x.l.take (n - x.f)).length x.c)]) ⟨rfl, rfl, rfl, rfl, rfl, trivial⟩ (AL.mid [Aj 137 2 encMk (.slice x.A (x.l.take (n - x.f)).length x.c) (x.l.take (n - x.f)), AY (fun x : SegV => Aj 137 2 encMk x.v x.l) (svs.take r), AY (fun x : SegV => Aj 137 2 encMk x.v x.l) (svs.drop (r + 1)), cell p 76 #[.pointer (some ⟨dk, 0, none⟩), .int .i64 (lim : Int), sv], Aj 83 2 encSg sv svs, Ag dk (D (r + 1)), Ao tb] (.refl _) (Ar ?_))))))))
  refine BV 17 2 [⟨.quiet, [none, none], fun _ => .pointer (some ⟨p, 0, none⟩), []⟩, ⟨.quiet, [none, none], fun _ => .pointer (some ⟨p, 0, none⟩), [0]⟩, ⟨.quiet, [none, none], fun _ => .pointer (some ⟨p, 0, none⟩), [1]⟩, ⟨.quiet, [none, none], fun _ => .pointer (some ⟨dk, 0, none⟩), [2]⟩, ⟨.quiet, [none, none], fun _ => AN sv (r * 2), []⟩, ⟨.quiet, [none, none], fun _ => AN sv (r * 2), [4]⟩, ⟨.quiet, [none, none], fun _ => AN sv (r * 2 + 0), [5]⟩, ⟨.quiet, [none, none], fun _ => .int .u64 (x.f : Int), [6]⟩, ⟨.actv 0, [some false, some false], fun _ => .string (bs (nameL x.f)), [7]⟩, ⟨.quiet, [none, none], fun _ => .slice x.A (x.l.take (n - x.f)).length x.c, []⟩, ⟨.quiet, [none, none], fun _ => .slice x.A (x.l.take (n - x.f)).length x.c, []⟩, ⟨.quiet, [none, none], fun _ => .int .i64 (((x.l.take (n - x.f)).length) : Int), [10]⟩, ⟨.quiet, [none, none], fun _ => .int .i64 ((n - x.f - 1 : Nat) : Int), [11]⟩, ⟨.quiet, [none, none], fun _ => AN (.slice x.A (x.l.take (n - x.f)).length x.c) ((n - x.f - 1) * 2), [9, 12]⟩, ⟨.quiet, [none, none], fun _ => AN (.slice x.A (x.l.take (n - x.f)).length x.c) ((n - x.f - 1) * 2 + 1), [13]⟩, ⟨.quiet, [none, none], fun _ => .int .i64 (m.2 : Int), [14]⟩, ⟨.actv 1, [some true, some false], fun _ => .int .i64 0, [3, 8, 15]⟩] [(0, .pointer (some ⟨p, 0, none⟩)), (4, .int .i64 0), (6, AN sv (r * 2)), (7, .slice x.A (x.l.take (n - x.f)).length x.c)] (fun ρ => match ρ with | [r0, r1] => [Aj 137 2 encMk (.slice x.A (x.l.take (n - x.f)).length x.c) (x.l.take (n - x.f)), AY (fun x : SegV => Aj 137 2 encMk x.v x.l) (svs.take r), AY (fun x : SegV => Aj 137 2 encMk x.v x.l) (svs.drop (r + 1)), cell p 76 #[.pointer (some ⟨dk, 0, none⟩), .int .i64 (lim : Int), sv], Aj 83 2 encSg sv svs, DT r1 (fun _ => Ag dk d') (Ag dk (D (r + 1))), Ao tb] | _ => []) (by kernel_rfl) (by kernel_rfl) ⟨rfl, rfl, rfl, rfl, trivial⟩ rfl ?_ ?_
  refine Ac (by intro r0_ r1_; exact ⟨rfl, fun b w hH hb => Ah Ae rfl hb⟩) (Ac (by intro r0_ r1_; exact ⟨rfl, fun b w hH hb => by exact B4 rfl rfl hb⟩) (Ac (by intro r0_ r1_; exact ⟨rfl, fun b w hH hb => Ah Ae rfl hb⟩) (Ac (by intro r0_ r1_; exact ⟨rfl, fun b w hH hb => Ba rfl rfl (Bl B8 rfl) (hH.row 3 rfl) hb⟩) (Ac (by intro r0_ r1_; exact ⟨rfl, fun b w hH hb => Ah Ae rfl hb⟩) ?_))))
  refine Ac (by intro r0_ r1_; exact ⟨rfl, fun b w hH hb => BE 4 rfl (j := r) (List.getElem?_eq_some_iff.1 hx).1 rfl rfl hH hb⟩) ?_
  refine Ac (by intro r0_ r1_; exact ⟨rfl, fun b w hH hb => FR AM (by decide) (hH.vec 4 rfl AM) (j := r) hx Bf rfl rfl hb⟩) (Ac (by intro r0_ r1_; exact ⟨rfl, fun b w hH hb => Bq AM (by decide) (hH.vec 4 rfl AM) (j := r) hx AQ (off := 0) rfl rfl rfl hb⟩) (Ac (by exact ⟨rfl, Bt.su (As (os' := fun _ => [Aj 137 2 encMk (.slice x.A (x.l.take (n - x.f)).length x.c) (x.l.take (n - x.f)), AY (fun x : SegV => Aj 137 2 encMk x.v x.l) (svs.take r), AY (fun x : SegV => Aj 137 2 encMk x.v x.l) (svs.drop (r + 1)), cell p 76 #[.pointer (some ⟨dk, 0, none⟩), .int .i64 (lim : Int), sv], Aj 83 2 encSg sv svs, Ag dk (D (r + 1)), Ao tb]) [6] 0 (Ai Tryz.func29 (by kernel_rfl) rfl) (C7 tb (n := x.f) (by omega)) rfl rfl rfl (fun _ => rfl) rfl rfl rfl) rfl⟩) (Ac (by intro r0_ r1_; exact ⟨rfl, fun b w hH hb => Ah Ae rfl hb⟩) (Ac (by intro r0_ r1_; exact ⟨rfl, fun b w hH hb => Ah Ae rfl hb⟩) (Ac (by intro r0_ r1_; exact ⟨rfl, fun b w hH hb => Fd CY rfl rfl hH hb⟩) (Ac (by intro r0_ r1_; exact ⟨rfl, fun b w hH hb => AJ rfl rfl rfl rfl (by rw [IntWalk.i64_in _ (by omega)]; omega) hb⟩) (Ac (by intro r0_ r1_; exact ⟨rfl, fun b w hH hb => EZ 0 CY Gm rfl (n - x.f - 1) (by omega) rfl rfl rfl hH hb⟩) (Ac (by intro r0_ r1_; exact ⟨rfl, fun b w hH hb => FR Gm (by decide) (hH.vec 0 rfl Gm) (j := (n - x.f - 1)) hm1c Gk rfl rfl hb⟩) (Ac (by intro r0_ r1_; exact ⟨rfl, fun b w hH hb => Bq Gm (by decide) (hH.vec 0 rfl Gm) (j := (n - x.f - 1)) hm1c Br (off := 1) rfl rfl rfl hb⟩) ?_)))))))))
  refine Ac (by intro v0_; exact ⟨rfl, Bt.su (As (os' := fun _ => [Aj 137 2 encMk (.slice x.A (x.l.take (n - x.f)).length x.c) (x.l.take (n - x.f)), AY (fun x : SegV => Aj 137 2 encMk x.v x.l) (svs.take r), AY (fun x : SegV => Aj 137 2 encMk x.v x.l) (svs.drop (r + 1)), cell p 76 #[.pointer (some ⟨dk, 0, none⟩), .int .i64 (lim : Int), sv], Aj 83 2 encSg sv svs, Ag dk d', Ao tb]) [5] 0 (Ai Tryz.func88 (by kernel_rfl) rfl) (IN hfit hcut) rfl rfl rfl (fun _ => rfl) rfl rfl rfl) rfl⟩) ?_
  exact B9
  intro v0_ v1_
  refine BU.keep (env' := [(4, .int .i64 0), (6, AN sv (r * 2)), (7, .slice x.A (x.l.take (n - x.f)).length x.c), (70, .int .i64 0)]) ⟨rfl, rfl, rfl, rfl, trivial⟩ (Af Ae rfl (AG (AC (Ad (Af Ae rfl (Aa rfl (.bool false) (fun b w hb hH => A5 rfl rfl rfl (Bn (by decide)) hb) (Ab (Au rfl (Av (AC (Ad (Af Ae rfl ?_))))))))))))
  refine Aa rfl (AN sv (r * 2)) (fun b w hb hH => BE 4 rfl (j := r) (List.getElem?_eq_some_iff.1 hx).1 rfl rfl hH hb) ?_
  refine Aa rfl (AN sv (r * 2 + 1)) (fun b w hb hH => FR AM (by decide) (hH.vec 4 rfl AM) (j := r) hx A7 rfl rfl hb) (AR (post := fun _ => [Aj 137 2 encMk (.slice x.A (x.l.take (n - x.f)).length x.c) (x.l.take (n - x.f)), AY (fun x : SegV => Aj 137 2 encMk x.v x.l) (svs.take r), AY (fun x : SegV => Aj 137 2 encMk x.v x.l) (svs.drop (r + 1)), cell p 76 #[.pointer (some ⟨dk, 0, none⟩), .int .i64 (lim : Int), sv], Aj 83 2 encSg sv (svs.set r (⟨x.f, x.l.take (n - x.f), x.A, x.c⟩ : SegV)), Ag dk d', Ao tb]) rfl rfl (LG 4 AM rfl r (a := x) (b := (⟨x.f, x.l.take (n - x.f), x.A, x.c⟩ : SegV)) hx Bm.2 rfl rfl (by decide) rfl rfl rfl rfl rfl) ?_); rintro ⟨⟩
  refine Ab (Bj [1, 0, 2] rfl (Mj (y := (⟨x.f, x.l.take (n - x.f), x.A, x.c⟩ : SegV)) hjl) rfl (AL.keep (env' := [(4, .int .i64 0), (6, AN sv (r * 2)), (7, .slice x.A (x.l.take (n - x.f)).length x.c), (70, .int .i64 0), (8, .int .i64 0), (71, .int .i64 0), (72, .bool false), (74, AN sv (r * 2)), (75, .slice x.A (x.l.take (n - x.f)).length x.c), (76, AN sv (r * 2)), (77, AN sv (r * 2 + 1))]) ⟨rfl, rfl, rfl, rfl, rfl, rfl, rfl, rfl, rfl, rfl, rfl, trivial⟩ (AL.mid [Bc (svs.set r (⟨x.f, x.l.take (n - x.f), x.A, x.c⟩ : SegV)), cell p 76 #[.pointer (some ⟨dk, 0, none⟩), .int .i64 (lim : Int), sv], Aj 83 2 encSg sv (svs.set r (⟨x.f, x.l.take (n - x.f), x.A, x.c⟩ : SegV)), Ag dk d', Ao tb] (.refl _) (Ad (Af Ae rfl (Ab (AB ?_)))))))
  exact AA (.tmp rfl) (fun w h => AH () rfl [1, 2, 0, 3, 4] rfl h (fun z hz => Dg (by have h9 := RR (y := (⟨x.f, x.l.take (n - x.f), x.A, x.c⟩ : SegV)) hm; rw [hil] at h9; exact h9) z hz)) rfl
end Go.Proofs.YtjcfimmcogkopaaGreatDoor.Sep
namespace Go.Proofs.YtjcfimmcogkopaaGreatDoor.Sep
open Go.RowKit
theorem LogG.front {A B : LogMs} (h : LogG (A ++ B)) : LogG A := ⟨fun q hq => h.ne q (List.mem_append_left _ hq), by have := h.c; rw [BP] at this; exact this.front, fun q hq => h.hd q (List.mem_append_left _ hq), by have := h.many; rw [BP, List.length_append] at this; omega⟩
theorem LogD.del {d : DiskD} {M : LogMs} {q : Nat × List EntD} {w : Nat} (h : LogD d (M ++ [q]) w) : Iy d (nameL q.1) = (Cw d (.del (nameL q.1)), 0) ∧ LogD (Cw d (.del (nameL q.1))) M (w + 1) := by
  have hq : q ∈ M ++ [q] := List.mem_append_right _ (List.mem_singleton.2 rfl)
  have hl := h.wl
  have hs := h.ws
  have hn := D4 h.g
  rw [CF] at hn
  constructor
  · unfold Iy
    rw [FG h.down h.fuse]
    simp only
    rw [if_neg (by simp), h.now, GB h.g hq]
  · exact ⟨h.down, h.fuse, h.room, by show (d.wait ++ [_]).length ≤ _; rw [List.length_append]; simp only [List.length_cons, List.length_nil]; omega, by
      show AT d.syn + ((d.wait ++ [OpD.del (nameL q.1)]).map OpD.size).sum ≤ _
      rw [List.map_append, List.sum_append]
      simp only [List.map_cons, List.map_nil, List.sum_cons, List.sum_nil, OpD.size]
      omega, by
      rw [Gv, h.now, CF]
      exact Pp hn, h.g.front⟩
def Ei (d : DiskD) (M : LogMs) (j : Nat) : DiskD := (M.drop j).foldr (fun q d => Cw d (.del (nameL q.1))) d
theorem Nj (d : DiskD) (M : LogMs) : Ei d M M.length = d := by unfold Ei; rw [List.drop_length]; rfl
theorem Mx {d : DiskD} {M : LogMs} {j : Nat} {q : Nat × List EntD} (h : M[j]? = some q) : Ei d M j = Cw (Ei d M (j + 1)) (.del (nameL q.1)) := by
 unfold Ei
 rw [En h]
 rfl
theorem Iw {M : LogMs} {j : Nat} {q : Nat × List EntD} (h : M[j]? = some q) : M.take (j + 1) = M.take j ++ [q] := by rw [List.take_add_one, h]; rfl
theorem LogD.left {d : DiskD} {M : LogMs} {w : Nat} (h : LogD d M w) : ∀ k j, j + k = M.length → LogD (Ei d M j) (M.take j) (w + k)
  | 0, j, hj => by
    have : j = M.length := by omega
    subst this
    rw [Nj, List.take_length]
    exact h
  | k + 1, j, hj => by
    have h1 := h.left k (j + 1) (by omega)
    obtain ⟨q, hq⟩ : ∃ q, M[j]? = some q := ⟨_, List.getElem?_eq_getElem (by omega)⟩
    rw [Iw hq] at h1
    rw [Mx hq]
    exact h1.del.2
theorem U2 {M : LogMs} {i f : Nat} {l : List (Int × Nat)} (h : (An M)[i]? = some (f, l)) : ∃ q, M[i]? = some q ∧ q.1 = f ∧ CG q.2 = l := by
  unfold An at h
  rw [List.getElem?_map] at h
  cases hq : M[i]? with
  | none => rw [hq] at h; cases h
  | some q =>
    rw [hq] at h
    simp only [Option.map_some, Option.some.injEq, Prod.mk.injEq] at h
    exact ⟨q, rfl, h.1, h.2⟩
theorem GC {M : LogMs} {i : Nat} {q : Nat × List EntD} (h : M[i]? = some q) : (An M)[i]? = some (q.1, CG q.2) := by unfold An; rw [List.getElem?_map, h]; rfl
theorem Nk (n : Nat) : ∀ (k : Nat) (M : LogMs), M.length = k → ∃ k, k ≤ M.length ∧ (∀ i q, k ≤ i → M[i]? = some q → n ≤ q.1) ∧ (k = 0 ∨ ∃ r q, k = r + 1 ∧ M[r]? = some q ∧ q.1 < n)
  | 0, M, h => ⟨0, Nat.zero_le _, fun i q _ hq => by rw [List.length_eq_zero_iff.1 h] at hq; simp at hq, .inl rfl⟩
  | k + 1, M, h => by
    rcases Cz M with rfl | ⟨M0, q, rfl⟩
    · simp at h
    · by_cases hq : q.1 < n
      · exact ⟨(M0 ++ [q]).length, Nat.le_refl _, fun i x hi hx => by have := (List.getElem?_eq_some_iff.1 hx).1; omega, .inr ⟨M0.length, q, by simp, by simp, hq⟩⟩
      · have hl : M0.length = k := by rw [List.length_append] at h; simp only [List.length_cons, List.length_nil] at h; omega
        obtain ⟨j, h1, h2, h3⟩ := Nk n k M0 hl
        refine ⟨j, by rw [List.length_append]; omega, fun i x hi hx => ?_, ?_⟩
        · rcases Nat.lt_or_ge i M0.length with hlt | hge
          · rw [List.getElem?_append_left hlt] at hx
            exact h2 i x hi hx
          · rw [List.getElem?_append_right hge] at hx
            have : i - M0.length = 0 := by
              have := (List.getElem?_eq_some_iff.1 hx).1
              simp only [List.length_cons, List.length_nil] at this
              omega
            rw [this] at hx
            simp only [List.getElem?_cons_zero, Option.some.injEq] at hx
            rw [← hx]; omega
        · rcases h3 with h3 | ⟨r, x, h3, h4, h5⟩
          · exact .inl h3
          · exact .inr ⟨r, x, h3, by rw [List.getElem?_append_left (List.getElem?_eq_some_iff.1 h4).1]; exact h4, h5⟩
theorem LogG.behind {M : LogMs} (h : LogG M) {n k : Nat} (hk : ∀ i q, k ≤ i → M[i]? = some q → n ≤ q.1) {e : EntD} (he : e ∈ AU (M.drop k)) : (n : Int) ≤ e.i := by
  obtain ⟨q, hq, heq⟩ := List.mem_flatMap.1 he
  have hqM := List.mem_of_mem_drop hq
  obtain ⟨i, hi⟩ := List.getElem?_of_mem hq
  rw [List.getElem?_drop] at hi
  have h1 := hk (k + i) q (by omega) hi
  obtain ⟨e0, r0, h0⟩ := List.exists_cons_of_ne_nil (h.ne q hqM)
  have h2 := h.hd q hqM e0 r0 h0
  have h3 := h.seg hqM
  rw [h0] at h3 heq
  rcases List.mem_cons.1 heq with rfl | hm
  · omega
  · have := RV h3 hm
    omega
theorem LogG.at_ {M : LogMs} (h : LogG M) {r : Nat} {q : Nat × List EntD} (hr : M[r]? = some q) {k : Nat} {e : EntD} (he : (AU M)[k]? = some e) : e.i + ((AU (M.take r)).length : Int) = (q.1 : Int) + (k : Int) := by
 have hqM := List.mem_of_getElem? hr
 obtain ⟨e0, r0, h0⟩ := List.exists_cons_of_ne_nil (h.ne q hqM)
 have h2 := h.hd q hqM e0 r0 h0
 have hL : AU M = AU (M.take r) ++ (q.2 ++ AU (M.drop (r + 1))) := by
  conv => lhs; rw [← List.take_append_drop r M, En hr, BP]
  rfl
 have h4 : (AU M)[(AU (M.take r)).length]? = some e0 := by
  rw [hL, List.getElem?_append_right (Nat.le_refl _), Nat.sub_self, h0]; rfl
 have := Ps h.c h4 he
 omega
def WJ (n : Nat) (L L' : List EntD) : Prop := ∃ c, L' = L.take c ∧ ∀ (k : Nat) (e : EntD), L[k]? = some e → (k < c ↔ e.i < (n : Int))
theorem My (es : List EntD) (k : Nat) : (Bd es).take (Bd (es.take k)).length = Bd (es.take k) := by
 conv => lhs; rw [← List.take_append_drop k es]
 unfold Bd
 rw [List.flatMap_append, List.take_append_drop, List.take_left]
theorem LogD.cut {lim w n : Nat} {d : DiskD} {M : LogMs} (tb : Tb) (h : LogD d M w) (hn64 : n ≤ 18446744073709551615) (hw : w + M.length ≤ 9999) : ∃ d' M', LogD d' M' (w + M.length + 1) ∧ WJ n (AU M) (AU M') ∧ ∀ (p dk : Nat), AV Tryz.prog 31 #[.pointer (some ⟨p, 0, none⟩), .int .u64 (n : Int)] [Ay p dk lim (An M), Ag dk d, Ao tb] (fun (_ : Unit) => .int .i64 0) (fun (_ : Unit) => [Ay p dk lim (An M'), Ag dk d', Ao tb]) := by
  have hfew := h.g.few
  have hmany := h.g.many
  have hml : (An M).length = M.length := by unfold An; rw [List.length_map]
  obtain ⟨k, hk1, hk2, hk3⟩ := Nk n M.length M rfl
  have hmono : ∀ {a b M'}, LogD a M' b → b ≤ w + M.length + 1 → LogD a M' (w + M.length + 1) := fun {a b M'} ha hb => ⟨ha.down, ha.fuse, ha.room, by have := ha.wl; omega, by have := ha.ws; omega, ha.now, ha.g⟩
  have hdel : ∀ (i f : Nat) (l : List (Int × Nat)), k ≤ i → (An M)[i]? = some (f, l) → n ≤ f ∧ f ≤ 72057594037927935 ∧ (Ei d M (i + 1)).fit ∧ Iy (Ei d M (i + 1)) (nameL f) = (Ei d M i, 0) := fun i f l hi hf => by
    obtain ⟨q, hq, rfl, rfl⟩ := U2 hf
    have hil := (List.getElem?_eq_some_iff.1 hq).1
    have h1 := h.left (M.length - (i + 1)) (i + 1) (by omega)
    refine ⟨hk2 i q hi hq, (h.g.first (List.mem_of_getElem? hq)).2, h1.fit (by omega), ?_⟩
    rw [Iw hq] at h1
    rw [Mx hq]
    exact h1.del.1
  have hD0 := Nj d M
  have hfin : ∀ j, j ≤ M.length → LogD (Ei d M j) (M.take j) (w + M.length + 1) := fun j hj => hmono (h.left (M.length - j) j (by omega)) (by omega)
  rcases hk3 with rfl | ⟨r, q, rfl, hr, hqn⟩
  · refine ⟨Ei d M 0, [], by have := hfin 0 (Nat.zero_le _); rwa [List.take_zero] at this, ⟨0, rfl, fun i e he => ⟨fun hi => by omega, fun hi => ?_⟩⟩, fun p dk => ?_⟩
    · have h1 := h.g.behind (k := 0) hk2 (e := e) (by rw [List.drop_zero]; exact List.mem_of_getElem? he)
      omega
    · have h1 := U1 (p := p) (dk := dk) (lim := lim) (n := n) (r := 0) (ss := An M) (D := Ei d M) tb (by omega) hn64 hdel
      rw [hml, hD0] at h1
      exact h1
  · have hqM := List.mem_of_getElem? hr
    have hrl := (List.getElem?_eq_some_iff.1 hr).1
    have hq1 := h.g.first hqM
    have hqne := h.g.ne q hqM
    have hsp : AU M = AU (M.take (r + 1)) ++ AU (M.drop (r + 1)) := by rw [← BP, List.take_append_drop]
    have hsn : AU (M.take (r + 1)) = AU (M.take r) ++ q.2 := by rw [Iw hr, BP]; simp [AU]
    have hqlen : q.2.length ≤ 1000 := by rw [hsp, hsn] at hmany; simp only [List.length_append] at hmany; omega
    by_cases hgap : q.1 + q.2.length ≤ n
    · refine ⟨Ei d M (r + 1), M.take (r + 1), hfin (r + 1) hrl, ⟨(AU (M.take (r + 1))).length, by rw [hsp, List.take_left], fun i e he => ?_⟩, fun p dk => ?_⟩
      · constructor
        · intro hi
          have h1 := h.g.at_ hr he
          rw [hsn, List.length_append] at hi
          omega
        · intro hi
          refine Nat.lt_of_not_le fun hge => ?_
          rw [hsp, List.getElem?_append_right hge] at he
          have h1 := h.g.behind hk2 (List.mem_of_getElem? he)
          omega
      · have h1 := Wk (p := p) (dk := dk) (lim := lim) (n := n) (r := r) (ss := An M) (D := Ei d M) tb (by omega) hn64 hdel (GC hr) hqn hq1.2 (E5 hqne) (by rw [Dh]; omega) (by rw [Dh]; exact hgap)
        rw [hml, hD0] at h1
        rw [show An (M.take (r + 1)) = (An M).take (r + 1) by unfold An; rw [List.map_take]]
        exact h1
    · have hin : n < q.1 + q.2.length := Nat.lt_of_not_le hgap
      have hkc : 0 < n - q.1 := by omega
      obtain ⟨t, x, htx⟩ : ∃ t x, q.2.take (n - q.1) = t ++ [x] := by
        rcases Cz (q.2.take (n - q.1)) with h0 | h0
        · have := congrArg List.length h0
          rw [List.length_take] at this
          simp only [List.length_nil] at this
          omega
        · exact h0
      have htl : t.length + 1 = n - q.1 := by
        have := congrArg List.length htx
        rw [List.length_take, List.length_append] at this
        simp only [List.length_cons, List.length_nil] at this
        omega
      have hmt : CG (q.2.take (n - q.1)) = (CG q.2).take (n - q.1) := by
        have key : ∀ (es : List EntD) (o k : Nat), Fo o (es.take k) = (Fo o es).take k := by
          intro es
          induction es with
          | nil => intro o k; simp [Fo]
          | cons e r ih => intro o k; cases k with
            | zero => simp [Fo]
            | succ k => simp [Fo, ih]
        unfold CG
        rw [key, List.map_take]
      have hm1 : (CG q.2)[n - q.1 - 1]? = some (x.t, (Bd (q.2.take (n - q.1))).length) := by
        have h1 : ((CG q.2).take (n - q.1))[n - q.1 - 1]? = some (x.t, (Bd (q.2.take (n - q.1))).length) := by
          rw [← hmt]
          have h2 := Es t x
          rw [← htx, List.getLast?_eq_getElem?, Dh, List.length_take] at h2
          rw [show n - q.1 - 1 = min (n - q.1) q.2.length - 1 by omega]
          exact h2
        rwa [List.getElem?_take, if_pos (by omega)] at h1
      have hD := h.left (M.length - (r + 1)) (r + 1) (by omega)
      have hDs := hD
      rw [Iw hr] at hDs
      have hqs : q ∈ M.take r ++ [q] := List.mem_append_right _ (List.mem_singleton.2 rfl)
      have hget := GB hDs.g hqs
      have hnd := D4 hDs.g
      rw [CF] at hnd
      have hble : (Bd (q.2.take (n - q.1))).length ≤ (Bd q.2).length := by
        have := congrArg List.length (My q.2 (n - q.1))
        rw [List.length_take] at this
        omega
      have hcut : OG (Ei d M (r + 1)) (nameL q.1) (((Bd (q.2.take (n - q.1))).length : Nat) : Int) = (Cw (Ei d M (r + 1)) (.cut (nameL q.1) (Bd (q.2.take (n - q.1))).length), 0) := by
        unfold OG
        rw [FG hD.down hD.fuse]
        simp only
        rw [if_neg (by simp), hDs.now, hget]
        simp only
        rw [if_neg (by omega)]
        rfl
      have hgood : LogG (M.take r ++ [(q.1, q.2.take (n - q.1))]) := by
        have hg := hDs.g
        have hall : AU (M.take r ++ [q]) = AU (M.take r ++ [(q.1, q.2.take (n - q.1))]) ++ q.2.drop (n - q.1) := by
          rw [BP, BP]
          simp [AU]
        refine ⟨fun y hy => ?_, by have := hg.c; rw [hall] at this; exact this.front, fun y hy e1 r1 hy1 => ?_, by have := hg.many; rw [hall, List.length_append] at this; omega⟩
        · rcases List.mem_append.1 hy with hy | hy
          · exact hg.ne y (List.mem_append_left _ hy)
          · rw [List.mem_singleton.1 hy]
            show q.2.take (n - q.1) ≠ []
            rw [htx]; simp
        · rcases List.mem_append.1 hy with hy | hy
          · exact hg.hd y (List.mem_append_left _ hy) e1 r1 hy1
          · rw [List.mem_singleton.1 hy] at hy1 ⊢
            obtain ⟨e0, r0, h0⟩ := List.exists_cons_of_ne_nil hqne
            have h2 := h.g.hd q hqM e0 r0 h0
            simp only at hy1 ⊢
            rw [h0] at hy1
            obtain ⟨c, hc⟩ : ∃ c, n - q.1 = c + 1 := ⟨n - q.1 - 1, by omega⟩
            rw [hc, List.take_succ_cons] at hy1
            simp only [List.cons.injEq] at hy1
            rw [← hy1.1]; exact h2
      refine ⟨Cw (Ei d M (r + 1)) (.cut (nameL q.1) (Bd (q.2.take (n - q.1))).length), M.take r ++ [(q.1, q.2.take (n - q.1))], ?_, ⟨(AU (M.take r)).length + (n - q.1), ?_, fun i e he => ?_⟩, fun p dk => ?_⟩
      · have hl := hD.wl
        have hs := hD.ws
        exact ⟨hD.down, hD.fuse, hD.room, by
          show ((Ei d M (r + 1)).wait ++ [_]).length ≤ _
          rw [List.length_append]; simp only [List.length_cons, List.length_nil]; omega, by
          show AT (Ei d M (r + 1)).syn + (((Ei d M (r + 1)).wait ++ [OpD.cut (nameL q.1) (Bd (q.2.take (n - q.1))).length]).map OpD.size).sum ≤ _
          rw [List.map_append, List.sum_append]
          simp only [List.map_cons, List.map_nil, List.sum_cons, List.sum_nil, OpD.size]
          omega, by
          rw [Gv, hDs.now]
          show (match Bw (BX (M.take r ++ [q])) (nameL q.1) with | some x => BM (BX (M.take r ++ [q])) (nameL q.1) (x.take (Bd (q.2.take (n - q.1))).length) | none => BX (M.take r ++ [q])) = _
          rw [hget]
          simp only
          rw [My, CF]
          show BM (BX (M.take r) ++ [(nameL q.1, Bd q.2)]) _ _ = _
          rw [JV hnd, CF]
          rfl, hgood⟩
      · have hL : AU M = AU (M.take r) ++ (q.2 ++ AU (M.drop (r + 1))) := by rw [← List.append_assoc, ← hsn, ← hsp]
        have hle : n - q.1 ≤ q.2.length := by omega
        have e2 : ∀ (A R : List EntD), (A ++ (q.2 ++ R)).take (A.length + (n - q.1)) = A ++ q.2.take (n - q.1) := fun A R => by
          rw [List.take_append, List.take_of_length_le (Nat.le_add_right _ _), Nat.add_sub_cancel_left, List.take_append_of_le_length hle]
        have e3 := e2 (AU (M.take r)) (AU (M.drop (r + 1)))
        rw [← hL] at e3
        rw [e3, BP]
        simp [AU]
      · have h1 := h.g.at_ hr he
        omega
      · have h1 := Xv (p := p) (dk := dk) (lim := lim) (n := n) (r := r) (ss := An M) (D := Ei d M) tb (by omega) hn64 hdel (GC hr) hqn hq1.2 (E5 hqne) (by rw [Dh]; omega) (by rw [Dh]; exact hin) hm1 (hD.fit (by omega)) hcut
        rw [hml, hD0] at h1
        rw [C4, show An (M.take r) = (An M).take r by unfold An; rw [List.map_take], show An [(q.1, q.2.take (n - q.1))] = [(q.1, (CG q.2).take (n - q.1))] by unfold An; simp [hmt]]
        exact h1
end Go.Proofs.YtjcfimmcogkopaaGreatDoor.Sep
namespace Go.Proofs.YtjcfimmcogkopaaGreatDoor.Sep
open Go.RowKit
open Go.Proofs.YtjcfimmcogkopaaGreatDoor.Mem (Bb Ci Chg Aw)
theorem Xw {svs : List SegV} {ss : SegsM} {i f : Nat} {l : List (Int × Nat)} (hm : svs.map SegV.m = ss) (h : ss[i]? = some (f, l)) : ∃ x, svs[i]? = some x ∧ x.f = f ∧ x.l = l := by
  subst hm
  rw [List.getElem?_map] at h
  cases hx : svs[i]? with
  | none => rw [hx] at h; cases h
  | some x =>
    rw [hx] at h
    simp only [Option.map_some, Option.some.injEq, SegV.m, Prod.mk.injEq] at h
    exact ⟨x, rfl, h.1, h.2⟩
theorem U3 {p dk lim f : Nat} {ss : SegsM} {l : List (Int × Nat)} (h0 : ss[0]? = some (f, l)) (hl : ss.length ≤ 1000000) : AV Tryz.prog 32 #[.pointer (some ⟨p, 0, none⟩)] [Ay p dk lim ss] (fun (_ : Unit) => .int .u64 (f : Int)) (fun (_ : Unit) => [Ay p dk lim ss]) := by
 refine Bo (args := [.pointer (some ⟨p, 0, none⟩)]) 16 Tryz.func32 rfl rfl rfl ?_; intro w rs
 refine AX 0 rfl Ay.open_ (fun _ => rfl) ?_; rintro ⟨sv, svs⟩
 refine AL.fact 3 rfl (fun _ h => h.2) ?_; rintro hm
 refine AL.leave [3] rfl rfl ?_
 replace hm : svs.map SegV.m = ss := hm
 obtain ⟨x, hx, rfl, rfl⟩ := Xw hm h0
 have hn : svs.length = ss.length := by have := congrArg List.length hm; simpa using this
 have h0l := (List.getElem?_eq_some_iff.1 h0).1
 have hx0 : 0 < svs.length := by omega
 refine Ad (Af Ae rfl (Ab (Ar (Ad (Af Ae rfl (Aa rfl (.pointer (some ⟨p, 0, none⟩)) (fun b w hb hH => by exact B4 rfl rfl hb) (Af Ae rfl (Aa rfl (sv) (fun b w hb hH => Ba rfl rfl (Bl C6 rfl) (hH.row 0 rfl) hb) (Aa rfl (.int .i64 (ss.length : Int)) (fun b w hb hH => BG 1 hn Tryz.underlying74 rfl rfl rfl hH hb) (Aa rfl (.bool false) (fun b w hb hH => A5 rfl rfl rfl (EM (by omega)) hb) (Ab (Au rfl (Av (AC (Ad ?_)))))))))))))))
 refine Af Ae rfl (Aa rfl (.pointer (some ⟨p, 0, none⟩)) (fun b w hb hH => by exact B4 rfl rfl hb) (Af Ae rfl (Aa rfl (sv) (fun b w hb hH => Ba rfl rfl (Bl C6 rfl) (hH.row 0 rfl) hb) (Aa rfl (AN sv (0 * 2)) (fun b w hb hH => EZ 1 BT AM rfl 0 hx0 rfl rfl rfl hH hb) (Aa rfl (AN sv (0 * 2 + 0)) (fun b w hb hH => FR AM (by decide) (hH.vec 1 rfl AM) (j := 0) hx Bf rfl rfl hb) (Aa rfl (.int .u64 (x.f : Int)) (fun b w hb hH => Bq AM (by decide) (hH.vec 1 rfl AM) (j := 0) hx AQ (off := 0) rfl rfl rfl hb) (Af Ae rfl (Ab (AB ?_)))))))))
 exact AA (.tmp rfl) (fun w h => AH () rfl [0, 1, 2] rfl h (fun z hz => Dg hm z hz)) rfl
end Go.Proofs.YtjcfimmcogkopaaGreatDoor.Sep
