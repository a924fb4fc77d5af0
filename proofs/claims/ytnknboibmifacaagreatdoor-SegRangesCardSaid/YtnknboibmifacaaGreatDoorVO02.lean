/-
  SgH · SgCt · SgFi
-/
import Derived.Test.YtnknboibmifacaaGreatDoorVN01
import Derived.Test.YtnknboibmifacaaGreatDoorVN03
import Derived.Test.YtnknboibmifacaaGreatDoorVO01
set_option linter.unusedSimpArgs false
set_option linter.unusedVariables false
set_option maxRecDepth 100000
namespace Go.Proofs.YtnknboibmifacaaGreatDoor.Sep
open Go.RowKit
open Go.Proofs.YtnknboibmifacaaGreatDoor.Mem (AR B3 Chg Av)
theorem FU {p dk lim i f : Nat} {ss : SegsM} {l : List (Int × Nat)} {d d' : DiskD} (hfl : ss[i]? = some (f, l)) (hl : ss.length ≤ 1000000) (hf : f ≤ 72057594037927935) (tb : Tb) (hd : d.fit) (hdel : Jp d (nameL f) = (d', 0)) : AP Tryz.prog 50 #[.pointer (some ⟨p, 0, none⟩)] [AA p dk lim (ss.take (i + 1)), Ag dk d, Ao tb] (fun (_ : Unit) => .int .i64 0) (fun (_ : Unit) => [AA p dk lim (ss.take i), Ag dk d', Ao tb]) := by
 have htk : ss.take (i + 1) = ss.take i ++ [(f, l)] := by rw [List.take_add_one, hfl]; rfl
 rw [htk]
 exact Kb (by rw [List.length_take]; omega) hf tb hd hdel
theorem Lx {p dk lim n : Nat} {sv : Value} {svs : List SegV} {x : SegV} (hn : svs.length = n + 1) (hx : svs[n]? = some x) (hl : n ≤ 1000000) (hl0 : 0 < x.l.length) (hl2 : x.l.length ≤ 1000000) (hf : x.f ≤ 72057594037927935) : AP Tryz.prog 17 #[.pointer (some ⟨p, 0, none⟩)] [cell p 87 #[.pointer (some ⟨dk, 0, none⟩), .int .i64 (lim : Int), sv], Ak 92 2 encSg sv svs, Bd svs] (fun (_ : Unit) => .int .u64 ((x.f + x.l.length - 1 : Nat) : Int)) (fun (_ : Unit) => [cell p 87 #[.pointer (some ⟨dk, 0, none⟩), .int .i64 (lim : Int), sv], Ak 92 2 encSg sv svs, Bd svs]) := by
 refine Bj (args := [.pointer (some ⟨p, 0, none⟩)]) 14 Tryz.func17 rfl rfl rfl ?_; intro w rs
 refine Ad ?_
 refine Af Ae rfl ?_
 refine Ab (An (Ad ?_))
 refine Af Ae rfl ?_
 refine Aa rfl (.pointer (some ⟨p, 0, none⟩)) (fun b w hb hH => by exact B8 rfl rfl hb) ?_
 refine Af Ae rfl ?_
 refine Aa rfl (sv) (fun b w hb hH => AY rfl rfl (Bi C4 rfl) (hH.row 0 rfl) hb) ?_
 refine Aa rfl (.int .i64 ((n + 1 : Nat) : Int)) (fun b w hb hH => BS 1 hn Tryz.underlying85 rfl rfl rfl hH hb) ?_
 refine Aa rfl (.bool false) (fun b w hb hH => AZ rfl rfl rfl (EK (by omega)) hb) ?_
 refine Ab (As rfl (Aw (AB (Ad ?_))))
 refine Af Ae rfl ?_
 refine Am rfl (Au (os' := fun _ => [cell p 87 #[.pointer (some ⟨dk, 0, none⟩), .int .i64 (lim : Int), sv], Ak 92 2 encSg sv svs, Bd svs]) [0, 1] 0 (Aj Tryz.func49 (by kernel_rfl) rfl) (Co hn (by omega)) rfl rfl rfl (fun _ => rfl) rfl rfl rfl) ?_; rintro ⟨⟩
 refine Aa rfl (AV sv (n * 2)) (fun b w hb hH => B0 1 rfl (j := n) (List.getElem?_eq_some_iff.1 hx).1 rfl rfl hH hb) ?_
 refine Aa rfl (.agg (encSg x).toArray) (fun b w hb hH => Dz AT (by decide) (hH.vec 1 rfl AT) (j := n) hx B5 rfl rfl hb) ?_
 refine Am (post := fun _ => [cell p 87 #[.pointer (some ⟨dk, 0, none⟩), .int .i64 (lim : Int), sv], Ak 92 2 encSg sv svs, Bd svs]) rfl (Bc (Aj Tryz.func52 (by kernel_rfl) rfl) (fun w hH => Lk w hl0 hl2 hf (DF 2 rfl hx hH)) rfl rfl rfl) ?_; rintro ⟨⟩
 refine Af Ae rfl ?_
 refine Ab (Az ?_)
 exact Ay (.tmp rfl) (fun w h => AC () rfl [0, 1, 2] rfl h Ed) rfl
theorem T5 {p dk lim n r : Nat} {ss : SegsM} {D : Nat → DiskD} (tb : Tb) (hl : ss.length ≤ 1000000) (hn64 : n ≤ 18446744073709551615) (hdel : ∀ (i f : Nat) (l : List (Int × Nat)), 0 ≤ i → ss[i]? = some (f, l) → n ≤ f ∧ f ≤ 72057594037927935 ∧ (D (i + 1)).fit ∧ Jp (D (i + 1)) (nameL f) = (D i, 0)) : AP Tryz.prog 16 #[.pointer (some ⟨p, 0, none⟩), .int .u64 (n : Int)] [AA p dk lim ss, Ag dk (D ss.length), Ao tb] (fun (_ : Unit) => .int .i64 0) (fun (_ : Unit) => [AA p dk lim ([]), Ag dk (D 0), Ao tb]) := by
  refine Bj (args := [.pointer (some ⟨p, 0, none⟩), .int .u64 (n : Int)]) 78 Tryz.func16 rfl rfl rfl ?_; intro w rs
  refine Ad ?_
  refine Af Ae rfl ?_
  refine Ab (An (AQ ?_))
  refine AN.mid [AA p dk lim (ss.take ss.length), Ag dk (D ss.length), Ao tb] (by rw [List.take_length]) ?_
  refine CY (α := Nat) (fun j => [(0, .pointer (some ⟨p, 0, none⟩)), (1, .int .u64 (n : Int)), (4, .int .i64 0)]) (fun j => [AA p dk lim (ss.take j), Ag dk (D j), Ao tb]) (fun j => 0 ≤ j ∧ j ≤ ss.length) (fun j => j) ss.length ⟨Nat.zero_le _, Nat.le_refl _⟩ ⟨rfl, rfl, rfl, trivial⟩ rfl ?_
  rintro j hI
  refine AN.at_ (env' := [(0, .pointer (some ⟨p, 0, none⟩)), (1, .int .u64 (n : Int)), (4, .int .i64 0)]) (rs' := [AA p dk lim (ss.take j), Ag dk (D j), Ao tb]) ⟨rfl, rfl, rfl, trivial⟩ rfl ?_
  refine An ?_
  rcases Nat.lt_or_ge 0 j with hjN | hjN
  · skip
    obtain ⟨i, rfl⟩ : ∃ i, j = i + 1 := ⟨j - 1, by omega⟩
    obtain ⟨⟨f, l⟩, hfl⟩ : ∃ y, ss[i]? = some y := ⟨_, List.getElem?_eq_getElem (by omega)⟩
    have htk : ss.take (i + 1) = ss.take i ++ [(f, l)] := by rw [List.take_add_one, hfl]; rfl
    have hil : (ss.take i).length = i := by rw [List.length_take]; omega
    obtain ⟨hnf, hfb1, hfd, hdd⟩ := hdel i f l (by omega) hfl
    refine A7 0 rfl AA.open_ (fun _ => rfl) ?_; rintro ⟨sv, svs⟩
    refine AN.fact 3 rfl (fun _ h => h.2) ?_; rintro hm
    refine AN.leave [3] rfl rfl ?_
    replace hm : svs.map SegV.m = ss.take (i + 1) := hm
    obtain ⟨x, hx, hxf, hxl, hn⟩ := Da (htk ▸ hm)
    rw [hil] at hx hn
    refine Ad ?_
    refine Af Ae rfl ?_
    refine Aa rfl (.pointer (some ⟨p, 0, none⟩)) (fun b w hb hH => by exact B8 rfl rfl hb) ?_
    refine Af Ae rfl ?_
    refine Aa rfl (sv) (fun b w hb hH => AY rfl rfl (Bi C4 rfl) (hH.row 0 rfl) hb) ?_
    refine Aa rfl (.int .i64 ((i + 1 : Nat) : Int)) (fun b w hb hH => BS 1 hn Tryz.underlying85 rfl rfl rfl hH hb) ?_
    refine Aa rfl (.bool true) (fun b w hb hH => AZ rfl rfl rfl (BO (by omega)) hb) ?_
    refine Af Ae rfl ?_
    refine Am rfl (Au (os' := fun _ => [cell p 87 #[.pointer (some ⟨dk, 0, none⟩), .int .i64 (lim : Int), sv], Ak 92 2 encSg sv svs, Bd svs, Ag dk (D (i + 1)), Ao tb]) [0, 1] 0 (Aj Tryz.func49 (by kernel_rfl) rfl) (Co hn (by omega)) rfl rfl rfl (fun _ => rfl) rfl rfl rfl) ?_; rintro ⟨⟩
    refine Aa rfl (AV sv (i * 2)) (fun b w hb hH => B0 1 rfl (j := i) (List.getElem?_eq_some_iff.1 hx).1 rfl rfl hH hb) ?_
    refine Aa rfl (AV sv (i * 2 + 0)) (fun b w hb hH => GJ AT (by decide) (hH.vec 1 rfl AT) (j := i) hx Bn rfl rfl hb) ?_
    refine Aa rfl (.int .u64 (x.f : Int)) (fun b w hb hH => BD AT (by decide) (hH.vec 1 rfl AT) (j := i) hx AO (off := 0) rfl rfl rfl hb) ?_
    refine Af Ae rfl ?_
    refine Aa rfl (.bool true) (fun b w hb hH => AZ rfl rfl rfl (BX (by omega)) hb) ?_
    refine Af Ae rfl ?_
    refine Ab (AI rfl (Aw (AB (AQ ?_))))
    refine Bg [0, 1, 2] rfl (Dv hm) rfl ?_
    refine AN.keep (env' := [(0, .pointer (some ⟨p, 0, none⟩)), (1, .int .u64 (n : Int)), (4, .int .i64 0), (9, .pointer (some ⟨p, 0, none⟩)), (10, .pointer (some ⟨p, 0, none⟩)), (11, .pointer (some ⟨p, 2, none⟩)), (12, sv), (13, .int .i64 ((i + 1 : Nat) : Int)), (14, .bool true), (15, .bool true), (16, .pointer (some ⟨p, 0, none⟩)), (17, AV sv (i * 2)), (18, AV sv (i * 2)), (19, AV sv (i * 2 + 0)), (20, .int .u64 (x.f : Int)), (21, .int .u64 (n : Int)), (22, .bool true), (23, .bool true)]) ⟨rfl, rfl, rfl, rfl, rfl, rfl, rfl, rfl, rfl, rfl, rfl, rfl, rfl, rfl, rfl, rfl, rfl, rfl, trivial⟩ ?_
    refine AN.mid [AA p dk lim (ss.take (i + 1)), Ag dk (D (i + 1)), Ao tb] (.refl _) ?_
    refine Ad ?_
    refine Af Ae rfl ?_
    refine Am rfl (Au (os' := fun _ => [AA p dk lim (ss.take i), Ag dk (D i), Ao tb]) [0, 1, 2] 0 (Aj Tryz.func50 (by kernel_rfl) rfl) (FU hfl hl hfb1 tb hfd hdd) rfl rfl rfl (fun _ => rfl) rfl rfl rfl) ?_; rintro ⟨⟩
    refine Af Ae rfl ?_
    refine Ab (Ad ?_)
    refine Af Ae rfl ?_
    refine Aa rfl (.bool false) (fun b w hb hH => AZ rfl rfl rfl (Bu (by decide)) hb) ?_
    refine Ab (As rfl (Aw (AW ?_)))
    exact Cm i 0 ⟨by omega, by omega⟩ (show i < i + 1 by omega) ⟨rfl, rfl, rfl, trivial⟩ rfl
  · skip
    obtain rfl : j = 0 := by omega
    refine AN.keep (env' := [(0, .pointer (some ⟨p, 0, none⟩)), (1, .int .u64 (n : Int)), (4, .int .i64 0)]) ⟨rfl, rfl, rfl, trivial⟩ ?_
    refine AN.mid [AA p dk lim ([]), Ag dk (D 0), Ao tb] (.refl _) ?_
    refine A7 0 rfl AA.open_ (fun _ => rfl) ?_; rintro ⟨sv, svs⟩
    refine AN.fact 3 rfl (fun _ h => h.2) ?_; rintro hm
    refine AN.leave [3] rfl rfl ?_
    replace hm : svs.map SegV.m = [] := hm
    have hn : svs.length = 0 := by have := congrArg List.length hm; simpa using this
    refine Ad ?_
    refine Af Ae rfl ?_
    refine Aa rfl (.pointer (some ⟨p, 0, none⟩)) (fun b w hb hH => by exact B8 rfl rfl hb) ?_
    refine Af Ae rfl ?_
    refine Aa rfl (sv) (fun b w hb hH => AY rfl rfl (Bi C4 rfl) (hH.row 0 rfl) hb) ?_
    refine Aa rfl (.int .i64 ((0 : Nat) : Int)) (fun b w hb hH => BS 1 hn Tryz.underlying85 rfl rfl rfl hH hb) ?_
    refine Aa rfl (.bool false) (fun b w hb hH => AZ rfl rfl rfl (BE (by omega)) hb) ?_
    refine Af Ae rfl ?_
    refine Ab (As rfl (C8 (Gx (Gx (Br (AB (An (Ad ?_))))))))
    refine Af Ae rfl ?_
    refine Aa rfl (.pointer (some ⟨p, 0, none⟩)) (fun b w hb hH => by exact B8 rfl rfl hb) ?_
    refine Af Ae rfl ?_
    refine Aa rfl (sv) (fun b w hb hH => AY rfl rfl (Bi C4 rfl) (hH.row 0 rfl) hb) ?_
    refine Aa rfl (.int .i64 ((0 : Nat) : Int)) (fun b w hb hH => BS 1 hn Tryz.underlying85 rfl rfl rfl hH hb) ?_
    refine Aa rfl (.bool true) (fun b w hb hH => AZ rfl rfl rfl (FI (by omega)) hb) ?_
    refine Af Ae rfl ?_
    refine Ab (AI rfl (Ad ?_))
    refine Af Ae rfl ?_
    refine Ab (Az (D8 ?_))
    exact Ay (.tmp rfl) (fun w h => AC () rfl [0, 1, 2, 3, 4] rfl h (fun z hz => Db hm z hz)) rfl
theorem Vr {p dk lim n r : Nat} {ss : SegsM} {D : Nat → DiskD} (tb : Tb) (hl : ss.length ≤ 1000000) (hn64 : n ≤ 18446744073709551615) (hdel : ∀ (i f : Nat) (l : List (Int × Nat)), r + 1 ≤ i → ss[i]? = some (f, l) → n ≤ f ∧ f ≤ 72057594037927935 ∧ (D (i + 1)).fit ∧ Jp (D (i + 1)) (nameL f) = (D i, 0)) {f0 : Nat} {l0 : List (Int × Nat)} (hsr : ss[r]? = some (f0, l0)) (hf0 : f0 < n) (hfb : f0 ≤ 72057594037927935) (h0 : l0 ≠ []) (hl0 : l0.length ≤ 1000000) (hgap : f0 + l0.length ≤ n) : AP Tryz.prog 16 #[.pointer (some ⟨p, 0, none⟩), .int .u64 (n : Int)] [AA p dk lim ss, Ag dk (D ss.length), Ao tb] (fun (_ : Unit) => .int .i64 0) (fun (_ : Unit) => [AA p dk lim (ss.take (r + 1)), Ag dk (D (r + 1)), Ao tb]) := by
  refine Bj (args := [.pointer (some ⟨p, 0, none⟩), .int .u64 (n : Int)]) 78 Tryz.func16 rfl rfl rfl ?_; intro w rs
  refine Ad ?_
  refine Af Ae rfl ?_
  refine Ab (An (AQ ?_))
  refine AN.mid [AA p dk lim (ss.take ss.length), Ag dk (D ss.length), Ao tb] (by rw [List.take_length]) ?_
  refine CY (α := Nat) (fun j => [(0, .pointer (some ⟨p, 0, none⟩)), (1, .int .u64 (n : Int)), (4, .int .i64 0)]) (fun j => [AA p dk lim (ss.take j), Ag dk (D j), Ao tb]) (fun j => r + 1 ≤ j ∧ j ≤ ss.length) (fun j => j) ss.length ⟨(List.getElem?_eq_some_iff.1 hsr).1, Nat.le_refl _⟩ ⟨rfl, rfl, rfl, trivial⟩ rfl ?_
  rintro j hI
  refine AN.at_ (env' := [(0, .pointer (some ⟨p, 0, none⟩)), (1, .int .u64 (n : Int)), (4, .int .i64 0)]) (rs' := [AA p dk lim (ss.take j), Ag dk (D j), Ao tb]) ⟨rfl, rfl, rfl, trivial⟩ rfl ?_
  refine An ?_
  rcases Nat.lt_or_ge (r + 1) j with hjN | hjN
  · skip
    obtain ⟨i, rfl⟩ : ∃ i, j = i + 1 := ⟨j - 1, by omega⟩
    obtain ⟨⟨f, l⟩, hfl⟩ : ∃ y, ss[i]? = some y := ⟨_, List.getElem?_eq_getElem (by omega)⟩
    have htk : ss.take (i + 1) = ss.take i ++ [(f, l)] := by rw [List.take_add_one, hfl]; rfl
    have hil : (ss.take i).length = i := by rw [List.length_take]; omega
    obtain ⟨hnf, hfb1, hfd, hdd⟩ := hdel i f l (by omega) hfl
    refine A7 0 rfl AA.open_ (fun _ => rfl) ?_; rintro ⟨sv, svs⟩
    refine AN.fact 3 rfl (fun _ h => h.2) ?_; rintro hm
    refine AN.leave [3] rfl rfl ?_
    replace hm : svs.map SegV.m = ss.take (i + 1) := hm
    obtain ⟨x, hx, hxf, hxl, hn⟩ := Da (htk ▸ hm)
    rw [hil] at hx hn
    refine Ad ?_
    refine Af Ae rfl ?_
    refine Aa rfl (.pointer (some ⟨p, 0, none⟩)) (fun b w hb hH => by exact B8 rfl rfl hb) ?_
    refine Af Ae rfl ?_
    refine Aa rfl (sv) (fun b w hb hH => AY rfl rfl (Bi C4 rfl) (hH.row 0 rfl) hb) ?_
    refine Aa rfl (.int .i64 ((i + 1 : Nat) : Int)) (fun b w hb hH => BS 1 hn Tryz.underlying85 rfl rfl rfl hH hb) ?_
    refine Aa rfl (.bool true) (fun b w hb hH => AZ rfl rfl rfl (BO (by omega)) hb) ?_
    refine Af Ae rfl ?_
    refine Am rfl (Au (os' := fun _ => [cell p 87 #[.pointer (some ⟨dk, 0, none⟩), .int .i64 (lim : Int), sv], Ak 92 2 encSg sv svs, Bd svs, Ag dk (D (i + 1)), Ao tb]) [0, 1] 0 (Aj Tryz.func49 (by kernel_rfl) rfl) (Co hn (by omega)) rfl rfl rfl (fun _ => rfl) rfl rfl rfl) ?_; rintro ⟨⟩
    refine Aa rfl (AV sv (i * 2)) (fun b w hb hH => B0 1 rfl (j := i) (List.getElem?_eq_some_iff.1 hx).1 rfl rfl hH hb) ?_
    refine Aa rfl (AV sv (i * 2 + 0)) (fun b w hb hH => GJ AT (by decide) (hH.vec 1 rfl AT) (j := i) hx Bn rfl rfl hb) ?_
    refine Aa rfl (.int .u64 (x.f : Int)) (fun b w hb hH => BD AT (by decide) (hH.vec 1 rfl AT) (j := i) hx AO (off := 0) rfl rfl rfl hb) ?_
    refine Af Ae rfl ?_
    refine Aa rfl (.bool true) (fun b w hb hH => AZ rfl rfl rfl (BX (by omega)) hb) ?_
    refine Af Ae rfl ?_
    refine Ab (AI rfl (Aw (AB (AQ ?_))))
    refine Bg [0, 1, 2] rfl (Dv hm) rfl ?_
    refine AN.keep (env' := [(0, .pointer (some ⟨p, 0, none⟩)), (1, .int .u64 (n : Int)), (4, .int .i64 0), (9, .pointer (some ⟨p, 0, none⟩)), (10, .pointer (some ⟨p, 0, none⟩)), (11, .pointer (some ⟨p, 2, none⟩)), (12, sv), (13, .int .i64 ((i + 1 : Nat) : Int)), (14, .bool true), (15, .bool true), (16, .pointer (some ⟨p, 0, none⟩)), (17, AV sv (i * 2)), (18, AV sv (i * 2)), (19, AV sv (i * 2 + 0)), (20, .int .u64 (x.f : Int)), (21, .int .u64 (n : Int)), (22, .bool true), (23, .bool true)]) ⟨rfl, rfl, rfl, rfl, rfl, rfl, rfl, rfl, rfl, rfl, rfl, rfl, rfl, rfl, rfl, rfl, rfl, rfl, trivial⟩ ?_
    refine AN.mid [AA p dk lim (ss.take (i + 1)), Ag dk (D (i + 1)), Ao tb] (.refl _) ?_
    refine Ad ?_
    refine Af Ae rfl ?_
    refine Am rfl (Au (os' := fun _ => [AA p dk lim (ss.take i), Ag dk (D i), Ao tb]) [0, 1, 2] 0 (Aj Tryz.func50 (by kernel_rfl) rfl) (FU hfl hl hfb1 tb hfd hdd) rfl rfl rfl (fun _ => rfl) rfl rfl rfl) ?_; rintro ⟨⟩
    refine Af Ae rfl ?_
    refine Ab (Ad ?_)
    refine Af Ae rfl ?_
    refine Aa rfl (.bool false) (fun b w hb hH => AZ rfl rfl rfl (Bu (by decide)) hb) ?_
    refine Ab (As rfl (Aw (AW ?_)))
    exact Cm i 0 ⟨by omega, by omega⟩ (show i < i + 1 by omega) ⟨rfl, rfl, rfl, trivial⟩ rfl
  · skip
    obtain rfl : j = r + 1 := by omega
    have hrl := (List.getElem?_eq_some_iff.1 hsr).1
    have htk : ss.take (r + 1) = ss.take r ++ [(f0, l0)] := by rw [List.take_add_one, hsr]; rfl
    have hil : (ss.take r).length = r := by rw [List.length_take]; omega
    have hl0p : 0 < l0.length := List.length_pos_iff.2 h0
    refine A7 0 rfl AA.open_ (fun _ => rfl) ?_; rintro ⟨sv, svs⟩
    refine AN.fact 3 rfl (fun _ h => h.2) ?_; rintro hm
    refine AN.leave [3] rfl rfl ?_
    replace hm : svs.map SegV.m = ss.take (r + 1) := hm
    rw [htk] at hm
    obtain ⟨x, hx, rfl, rfl, hn⟩ := Da hm
    rw [hil] at hx hn
    have hjl : r < svs.length := (List.getElem?_eq_some_iff.1 hx).1
    refine Ad ?_
    refine Af Ae rfl ?_
    refine Aa rfl (.pointer (some ⟨p, 0, none⟩)) (fun b w hb hH => by exact B8 rfl rfl hb) ?_
    refine Af Ae rfl ?_
    refine Aa rfl (sv) (fun b w hb hH => AY rfl rfl (Bi C4 rfl) (hH.row 0 rfl) hb) ?_
    refine Aa rfl (.int .i64 ((r + 1 : Nat) : Int)) (fun b w hb hH => BS 1 hn Tryz.underlying85 rfl rfl rfl hH hb) ?_
    refine Aa rfl (.bool true) (fun b w hb hH => AZ rfl rfl rfl (BO (by omega)) hb) ?_
    refine Af Ae rfl ?_
    refine Am rfl (Au (os' := fun _ => [cell p 87 #[.pointer (some ⟨dk, 0, none⟩), .int .i64 (lim : Int), sv], Ak 92 2 encSg sv svs, Bd svs, Ag dk (D (r + 1)), Ao tb]) [0, 1] 0 (Aj Tryz.func49 (by kernel_rfl) rfl) (Co hn (by omega)) rfl rfl rfl (fun _ => rfl) rfl rfl rfl) ?_; rintro ⟨⟩
    refine Aa rfl (AV sv (r * 2)) (fun b w hb hH => B0 1 rfl (j := r) (List.getElem?_eq_some_iff.1 hx).1 rfl rfl hH hb) ?_
    refine Aa rfl (AV sv (r * 2 + 0)) (fun b w hb hH => GJ AT (by decide) (hH.vec 1 rfl AT) (j := r) hx Bn rfl rfl hb) ?_
    refine Aa rfl (.int .u64 (x.f : Int)) (fun b w hb hH => BD AT (by decide) (hH.vec 1 rfl AT) (j := r) hx AO (off := 0) rfl rfl rfl hb) ?_
    refine Af Ae rfl ?_
    refine Aa rfl (.bool false) (fun b w hb hH => AZ rfl rfl rfl (CT (by omega)) hb) ?_
    refine Af Ae rfl ?_
    refine Ab (As rfl (C8 (Gx (Gx (Br (AB (An (Ad ?_))))))))
    refine Af Ae rfl ?_
    refine Aa rfl (.pointer (some ⟨p, 0, none⟩)) (fun b w hb hH => by exact B8 rfl rfl hb) ?_
    refine Af Ae rfl ?_
    refine Aa rfl (sv) (fun b w hb hH => AY rfl rfl (Bi C4 rfl) (hH.row 0 rfl) hb) ?_
    refine Aa rfl (.int .i64 ((r + 1 : Nat) : Int)) (fun b w hb hH => BS 1 hn Tryz.underlying85 rfl rfl rfl hH hb) ?_
    refine Aa rfl (.bool false) (fun b w hb hH => AZ rfl rfl rfl (EK (by omega)) hb) ?_
    refine Af Ae rfl ?_
    refine Am rfl (Au (os' := fun _ => [cell p 87 #[.pointer (some ⟨dk, 0, none⟩), .int .i64 (lim : Int), sv], Ak 92 2 encSg sv svs, Bd svs, Ag dk (D (r + 1)), Ao tb]) [0, 1, 2] 0 (Aj Tryz.func17 (by kernel_rfl) rfl) (Lx hn hx (by omega) hl0p hl0 hfb) rfl rfl rfl (fun _ => rfl) rfl rfl rfl) ?_; rintro ⟨⟩
    refine Af Ae rfl ?_
    refine Aa rfl (.bool true) (fun b w hb hH => AZ rfl rfl rfl (Ck (by omega)) hb) ?_
    refine Af Ae rfl ?_
    refine Ab (AI rfl (Ad ?_))
    refine Af Ae rfl ?_
    refine Ab (Az (D8 ?_))
    exact Ay (.tmp rfl) (fun w h => AC () rfl [0, 1, 2, 3, 4] rfl h (fun z hz => Db (hm.trans htk.symm) z hz)) rfl
theorem WJ {p dk lim n r : Nat} {ss : SegsM} {D : Nat → DiskD} (tb : Tb) (hl : ss.length ≤ 1000000) (hn64 : n ≤ 18446744073709551615) (hdel : ∀ (i f : Nat) (l : List (Int × Nat)), r + 1 ≤ i → ss[i]? = some (f, l) → n ≤ f ∧ f ≤ 72057594037927935 ∧ (D (i + 1)).fit ∧ Jp (D (i + 1)) (nameL f) = (D i, 0)) {f0 : Nat} {l0 : List (Int × Nat)} (hsr : ss[r]? = some (f0, l0)) (hf0 : f0 < n) (hfb : f0 ≤ 72057594037927935) (h0 : l0 ≠ []) (hl0 : l0.length ≤ 1000000) (hin : n < f0 + l0.length) {d' : DiskD} {m : Int × Nat} (hm1 : l0[n - f0 - 1]? = some m) (hfit : (D (r + 1)).fit) (hcut : S1 (D (r + 1)) (nameL f0) (m.2 : Int) = (d', 0)) : AP Tryz.prog 16 #[.pointer (some ⟨p, 0, none⟩), .int .u64 (n : Int)] [AA p dk lim ss, Ag dk (D ss.length), Ao tb] (fun (_ : Unit) => .int .i64 0) (fun (_ : Unit) => [AA p dk lim (ss.take r ++ [(f0, l0.take (n - f0))]), Ag dk d', Ao tb]) := by
  refine Bj (args := [.pointer (some ⟨p, 0, none⟩), .int .u64 (n : Int)]) 78 Tryz.func16 rfl rfl rfl ?_; intro w rs
  refine Ad ?_
  refine Af Ae rfl ?_
  refine Ab (An (AQ ?_))
  refine AN.mid [AA p dk lim (ss.take ss.length), Ag dk (D ss.length), Ao tb] (by rw [List.take_length]) ?_
  refine CY (α := Nat) (fun j => [(0, .pointer (some ⟨p, 0, none⟩)), (1, .int .u64 (n : Int)), (4, .int .i64 0)]) (fun j => [AA p dk lim (ss.take j), Ag dk (D j), Ao tb]) (fun j => r + 1 ≤ j ∧ j ≤ ss.length) (fun j => j) ss.length ⟨(List.getElem?_eq_some_iff.1 hsr).1, Nat.le_refl _⟩ ⟨rfl, rfl, rfl, trivial⟩ rfl ?_
  rintro j hI
  refine AN.at_ (env' := [(0, .pointer (some ⟨p, 0, none⟩)), (1, .int .u64 (n : Int)), (4, .int .i64 0)]) (rs' := [AA p dk lim (ss.take j), Ag dk (D j), Ao tb]) ⟨rfl, rfl, rfl, trivial⟩ rfl ?_
  refine An ?_
  rcases Nat.lt_or_ge (r + 1) j with hjN | hjN
  · skip
    obtain ⟨i, rfl⟩ : ∃ i, j = i + 1 := ⟨j - 1, by omega⟩
    obtain ⟨⟨f, l⟩, hfl⟩ : ∃ y, ss[i]? = some y := ⟨_, List.getElem?_eq_getElem (by omega)⟩
    have htk : ss.take (i + 1) = ss.take i ++ [(f, l)] := by rw [List.take_add_one, hfl]; rfl
    have hil : (ss.take i).length = i := by rw [List.length_take]; omega
    obtain ⟨hnf, hfb1, hfd, hdd⟩ := hdel i f l (by omega) hfl
    refine A7 0 rfl AA.open_ (fun _ => rfl) ?_; rintro ⟨sv, svs⟩
    refine AN.fact 3 rfl (fun _ h => h.2) ?_; rintro hm
    refine AN.leave [3] rfl rfl ?_
    replace hm : svs.map SegV.m = ss.take (i + 1) := hm
    obtain ⟨x, hx, hxf, hxl, hn⟩ := Da (htk ▸ hm)
    rw [hil] at hx hn
    refine Ad ?_
    refine Af Ae rfl ?_
    refine Aa rfl (.pointer (some ⟨p, 0, none⟩)) (fun b w hb hH => by exact B8 rfl rfl hb) ?_
    refine Af Ae rfl ?_
    refine Aa rfl (sv) (fun b w hb hH => AY rfl rfl (Bi C4 rfl) (hH.row 0 rfl) hb) ?_
    refine Aa rfl (.int .i64 ((i + 1 : Nat) : Int)) (fun b w hb hH => BS 1 hn Tryz.underlying85 rfl rfl rfl hH hb) ?_
    refine Aa rfl (.bool true) (fun b w hb hH => AZ rfl rfl rfl (BO (by omega)) hb) ?_
    refine Af Ae rfl ?_
    refine Am rfl (Au (os' := fun _ => [cell p 87 #[.pointer (some ⟨dk, 0, none⟩), .int .i64 (lim : Int), sv], Ak 92 2 encSg sv svs, Bd svs, Ag dk (D (i + 1)), Ao tb]) [0, 1] 0 (Aj Tryz.func49 (by kernel_rfl) rfl) (Co hn (by omega)) rfl rfl rfl (fun _ => rfl) rfl rfl rfl) ?_; rintro ⟨⟩
    refine Aa rfl (AV sv (i * 2)) (fun b w hb hH => B0 1 rfl (j := i) (List.getElem?_eq_some_iff.1 hx).1 rfl rfl hH hb) ?_
    refine Aa rfl (AV sv (i * 2 + 0)) (fun b w hb hH => GJ AT (by decide) (hH.vec 1 rfl AT) (j := i) hx Bn rfl rfl hb) ?_
    refine Aa rfl (.int .u64 (x.f : Int)) (fun b w hb hH => BD AT (by decide) (hH.vec 1 rfl AT) (j := i) hx AO (off := 0) rfl rfl rfl hb) ?_
    refine Af Ae rfl ?_
    refine Aa rfl (.bool true) (fun b w hb hH => AZ rfl rfl rfl (BX (by omega)) hb) ?_
    refine Af Ae rfl ?_
    refine Ab (AI rfl (Aw (AB (AQ ?_))))
    refine Bg [0, 1, 2] rfl (Dv hm) rfl ?_
    refine AN.keep (env' := [(0, .pointer (some ⟨p, 0, none⟩)), (1, .int .u64 (n : Int)), (4, .int .i64 0), (9, .pointer (some ⟨p, 0, none⟩)), (10, .pointer (some ⟨p, 0, none⟩)), (11, .pointer (some ⟨p, 2, none⟩)), (12, sv), (13, .int .i64 ((i + 1 : Nat) : Int)), (14, .bool true), (15, .bool true), (16, .pointer (some ⟨p, 0, none⟩)), (17, AV sv (i * 2)), (18, AV sv (i * 2)), (19, AV sv (i * 2 + 0)), (20, .int .u64 (x.f : Int)), (21, .int .u64 (n : Int)), (22, .bool true), (23, .bool true)]) ⟨rfl, rfl, rfl, rfl, rfl, rfl, rfl, rfl, rfl, rfl, rfl, rfl, rfl, rfl, rfl, rfl, rfl, rfl, trivial⟩ ?_
    refine AN.mid [AA p dk lim (ss.take (i + 1)), Ag dk (D (i + 1)), Ao tb] (.refl _) ?_
    refine Ad ?_
    refine Af Ae rfl ?_
    refine Am rfl (Au (os' := fun _ => [AA p dk lim (ss.take i), Ag dk (D i), Ao tb]) [0, 1, 2] 0 (Aj Tryz.func50 (by kernel_rfl) rfl) (FU hfl hl hfb1 tb hfd hdd) rfl rfl rfl (fun _ => rfl) rfl rfl rfl) ?_; rintro ⟨⟩
    refine Af Ae rfl ?_
    refine Ab (Ad ?_)
    refine Af Ae rfl ?_
    refine Aa rfl (.bool false) (fun b w hb hH => AZ rfl rfl rfl (Bu (by decide)) hb) ?_
    refine Ab (As rfl (Aw (AW ?_)))
    exact Cm i 0 ⟨by omega, by omega⟩ (show i < i + 1 by omega) ⟨rfl, rfl, rfl, trivial⟩ rfl
  · skip
    obtain rfl : j = r + 1 := by omega
    have hrl := (List.getElem?_eq_some_iff.1 hsr).1
    have htk : ss.take (r + 1) = ss.take r ++ [(f0, l0)] := by rw [List.take_add_one, hsr]; rfl
    have hil : (ss.take r).length = r := by rw [List.length_take]; omega
    have hl0p : 0 < l0.length := List.length_pos_iff.2 h0
    refine A7 0 rfl AA.open_ (fun _ => rfl) ?_; rintro ⟨sv, svs⟩
    refine AN.fact 3 rfl (fun _ h => h.2) ?_; rintro hm
    refine AN.leave [3] rfl rfl ?_
    replace hm : svs.map SegV.m = ss.take (r + 1) := hm
    rw [htk] at hm
    obtain ⟨x, hx, rfl, rfl, hn⟩ := Da hm
    rw [hil] at hx hn
    have hjl : r < svs.length := (List.getElem?_eq_some_iff.1 hx).1
    refine Ad ?_
    refine Af Ae rfl ?_
    refine Aa rfl (.pointer (some ⟨p, 0, none⟩)) (fun b w hb hH => by exact B8 rfl rfl hb) ?_
    refine Af Ae rfl ?_
    refine Aa rfl (sv) (fun b w hb hH => AY rfl rfl (Bi C4 rfl) (hH.row 0 rfl) hb) ?_
    refine Aa rfl (.int .i64 ((r + 1 : Nat) : Int)) (fun b w hb hH => BS 1 hn Tryz.underlying85 rfl rfl rfl hH hb) ?_
    refine Aa rfl (.bool true) (fun b w hb hH => AZ rfl rfl rfl (BO (by omega)) hb) ?_
    refine Af Ae rfl ?_
    refine Am rfl (Au (os' := fun _ => [cell p 87 #[.pointer (some ⟨dk, 0, none⟩), .int .i64 (lim : Int), sv], Ak 92 2 encSg sv svs, Bd svs, Ag dk (D (r + 1)), Ao tb]) [0, 1] 0 (Aj Tryz.func49 (by kernel_rfl) rfl) (Co hn (by omega)) rfl rfl rfl (fun _ => rfl) rfl rfl rfl) ?_; rintro ⟨⟩
    refine Aa rfl (AV sv (r * 2)) (fun b w hb hH => B0 1 rfl (j := r) (List.getElem?_eq_some_iff.1 hx).1 rfl rfl hH hb) ?_
    refine Aa rfl (AV sv (r * 2 + 0)) (fun b w hb hH => GJ AT (by decide) (hH.vec 1 rfl AT) (j := r) hx Bn rfl rfl hb) ?_
    refine Aa rfl (.int .u64 (x.f : Int)) (fun b w hb hH => BD AT (by decide) (hH.vec 1 rfl AT) (j := r) hx AO (off := 0) rfl rfl rfl hb) ?_
    refine Af Ae rfl ?_
    refine Aa rfl (.bool false) (fun b w hb hH => AZ rfl rfl rfl (CT (by omega)) hb) ?_
    refine Af Ae rfl ?_
    refine Ab (As rfl (C8 (Gx (Gx (Br (AB (An (Ad ?_))))))))
    refine Af Ae rfl ?_
    refine Aa rfl (.pointer (some ⟨p, 0, none⟩)) (fun b w hb hH => by exact B8 rfl rfl hb) ?_
    refine Af Ae rfl ?_
    refine Aa rfl (sv) (fun b w hb hH => AY rfl rfl (Bi C4 rfl) (hH.row 0 rfl) hb) ?_
    refine Aa rfl (.int .i64 ((r + 1 : Nat) : Int)) (fun b w hb hH => BS 1 hn Tryz.underlying85 rfl rfl rfl hH hb) ?_
    refine Aa rfl (.bool false) (fun b w hb hH => AZ rfl rfl rfl (EK (by omega)) hb) ?_
    refine Af Ae rfl ?_
    refine Am rfl (Au (os' := fun _ => [cell p 87 #[.pointer (some ⟨dk, 0, none⟩), .int .i64 (lim : Int), sv], Ak 92 2 encSg sv svs, Bd svs, Ag dk (D (r + 1)), Ao tb]) [0, 1, 2] 0 (Aj Tryz.func17 (by kernel_rfl) rfl) (Lx hn hx (by omega) hl0p hl0 hfb) rfl rfl rfl (fun _ => rfl) rfl rfl rfl) ?_; rintro ⟨⟩
    refine Af Ae rfl ?_
    refine Aa rfl (.bool false) (fun b w hb hH => AZ rfl rfl rfl (BU (by omega)) hb) ?_
    refine Af Ae rfl ?_
    refine Ab (As rfl (Aw (AB (Ad ?_))))
    refine Af Ae rfl ?_
    refine Am rfl (Au (os' := fun _ => [cell p 87 #[.pointer (some ⟨dk, 0, none⟩), .int .i64 (lim : Int), sv], Ak 92 2 encSg sv svs, Bd svs, Ag dk (D (r + 1)), Ao tb]) [0, 1] 0 (Aj Tryz.func49 (by kernel_rfl) rfl) (Co hn (by omega)) rfl rfl rfl (fun _ => rfl) rfl rfl rfl) ?_; rintro ⟨⟩
    refine Af Ae rfl ?_
    refine Ab ?_
    refine A7 2 rfl (F7 hx) (fun _ => rfl) ?_; rintro ⟨⟩
    refine AN.fact 1 rfl Ll ?_; rintro hcap
    have htl : (x.l.take (n - x.f)).length = n - x.f := by rw [List.length_take]; omega
    have hsub2 : Ca 2 (.slice x.A x.l.length x.c) 0 (n - x.f) = .slice x.A (x.l.take (n - x.f)).length x.c := by rw [htl]; exact I8
    have hm1c : (x.l.take (n - x.f))[n - x.f - 1]? = some m := by rw [List.getElem?_take, if_pos (by omega)]; exact hm1
    refine AN.keep (env' := [(0, .pointer (some ⟨p, 0, none⟩)), (1, .int .u64 (n : Int)), (4, .int .i64 0), (9, .pointer (some ⟨p, 0, none⟩)), (10, .pointer (some ⟨p, 0, none⟩)), (11, .pointer (some ⟨p, 2, none⟩)), (12, sv), (13, .int .i64 ((r + 1 : Nat) : Int)), (14, .bool true), (15, .bool true), (16, .pointer (some ⟨p, 0, none⟩)), (17, AV sv (r * 2)), (18, AV sv (r * 2)), (19, AV sv (r * 2 + 0)), (20, .int .u64 (x.f : Int)), (21, .int .u64 (n : Int)), (22, .bool false), (23, .bool false), (29, .pointer (some ⟨p, 0, none⟩)), (30, .pointer (some ⟨p, 0, none⟩)), (31, .pointer (some ⟨p, 2, none⟩)), (32, sv), (33, .int .i64 ((r + 1 : Nat) : Int)), (34, .bool false), (35, .bool false), (36, .pointer (some ⟨p, 0, none⟩)), (37, .int .u64 ((x.f + x.l.length - 1 : Nat) : Int)), (38, .int .u64 (n : Int)), (39, .bool false), (40, .bool false), (41, .pointer (some ⟨p, 0, none⟩)), (42, AV sv (r * 2)), (6, AV sv (r * 2))]) ⟨rfl, rfl, rfl, rfl, rfl, rfl, rfl, rfl, rfl, rfl, rfl, rfl, rfl, rfl, rfl, rfl, rfl, rfl, rfl, rfl, rfl, rfl, rfl, rfl, rfl, rfl, rfl, rfl, rfl, rfl, rfl, rfl, rfl, trivial⟩ ?_
    refine AN.mid [Bb (fun x : SegV => Ak 104 2 encMk x.v x.l) (svs.take r), Ak 104 2 encMk (.slice x.A x.l.length x.c) x.l, Bb (fun x : SegV => Ak 104 2 encMk x.v x.l) (svs.drop (r + 1)), cell p 87 #[.pointer (some ⟨dk, 0, none⟩), .int .i64 (lim : Int), sv], Ak 92 2 encSg sv svs, Ag dk (D (r + 1)), Ao tb] (.refl _) ?_
    refine An ?_
    refine BV 11 0 [⟨.quiet, [], fun _ => AV sv (r * 2), []⟩, ⟨.quiet, [], fun _ => AV sv (r * 2), [0]⟩, ⟨.quiet, [], fun _ => AV sv (r * 2 + 1), [1]⟩, ⟨.quiet, [], fun _ => .slice x.A x.l.length x.c, [2]⟩, ⟨.quiet, [], fun _ => .int .u64 (n : Int), []⟩, ⟨.quiet, [], fun _ => AV sv (r * 2), []⟩, ⟨.quiet, [], fun _ => AV sv (r * 2), [5]⟩, ⟨.quiet, [], fun _ => AV sv (r * 2 + 0), [6]⟩, ⟨.quiet, [], fun _ => .int .u64 (x.f : Int), [7]⟩, ⟨.quiet, [], fun _ => .int .u64 ((n - x.f : Nat) : Int), [4, 8]⟩, ⟨.quiet, [], fun _ => .slice x.A (x.l.take (n - x.f)).length x.c, [3, 9]⟩] [(0, .pointer (some ⟨p, 0, none⟩)), (1, .int .u64 (n : Int)), (4, .int .i64 0), (6, AV sv (r * 2))] (fun _ => [Bb (fun x : SegV => Ak 104 2 encMk x.v x.l) (svs.take r), Ak 104 2 encMk (.slice x.A x.l.length x.c) x.l, Bb (fun x : SegV => Ak 104 2 encMk x.v x.l) (svs.drop (r + 1)), cell p 87 #[.pointer (some ⟨dk, 0, none⟩), .int .i64 (lim : Int), sv], Ak 92 2 encSg sv svs, Ag dk (D (r + 1)), Ao tb]) (by kernel_rfl) (by kernel_rfl) ⟨rfl, rfl, rfl, rfl, trivial⟩ rfl ?_ ?_
    · skip
      refine Ac (by exact ⟨rfl, fun b w hH hb => Ah Ae rfl hb⟩) ?_
      refine Ac (by exact ⟨rfl, fun b w hH hb => B0 4 rfl (j := r) (List.getElem?_eq_some_iff.1 hx).1 rfl rfl hH hb⟩) ?_
      refine Ac (by exact ⟨rfl, fun b w hH hb => GJ AT (by decide) (hH.vec 4 rfl AT) (j := r) hx Bo rfl rfl hb⟩) ?_
      refine Ac (by exact ⟨rfl, fun b w hH hb => BD AT (by decide) (hH.vec 4 rfl AT) (j := r) hx Bw (off := 1) rfl rfl rfl hb⟩) ?_
      refine Ac (by exact ⟨rfl, fun b w hH hb => Ah Ae rfl hb⟩) ?_
      refine Ac (by exact ⟨rfl, fun b w hH hb => Ah Ae rfl hb⟩) ?_
      refine Ac (by exact ⟨rfl, fun b w hH hb => B0 4 rfl (j := r) (List.getElem?_eq_some_iff.1 hx).1 rfl rfl hH hb⟩) ?_
      refine Ac (by exact ⟨rfl, fun b w hH hb => GJ AT (by decide) (hH.vec 4 rfl AT) (j := r) hx Bn rfl rfl hb⟩) ?_
      refine Ac (by exact ⟨rfl, fun b w hH hb => BD AT (by decide) (hH.vec 4 rfl AT) (j := r) hx AO (off := 0) rfl rfl rfl hb⟩) ?_
      refine Ac (by exact ⟨rfl, fun b w hH hb => AH rfl rfl rfl rfl (by rw [IntWalk.u64_in _ (by omega)]; omega) hb⟩) ?_
      refine Ac (by exact ⟨rfl, fun b w hH hb => F0 (j := n - x.f) Cl hsub2 (by omega) rfl rfl rfl hH hb⟩) ?_
      exact B7
    refine BT.keep (env' := [(0, .pointer (some ⟨p, 0, none⟩)), (4, .int .i64 0), (6, AV sv (r * 2)), (53, .slice x.A (x.l.take (n - x.f)).length x.c)]) ⟨rfl, rfl, rfl, rfl, trivial⟩ ?_
    refine Af Ae rfl ?_
    refine AD (AB (An ?_))
    refine Bg [1] rfl (Ot Fd (j := n - x.f) (by omega)) rfl ?_
    refine AN.keep (env' := [(0, .pointer (some ⟨p, 0, none⟩)), (4, .int .i64 0), (6, AV sv (r * 2)), (53, .slice x.A (x.l.take (n - x.f)).length x.c), (7, .slice x.A (x.l.take (n - x.f)).length x.c)]) ⟨rfl, rfl, rfl, rfl, rfl, trivial⟩ ?_
    refine AN.mid [Ak 104 2 encMk (.slice x.A (x.l.take (n - x.f)).length x.c) (x.l.take (n - x.f)), Bb (fun x : SegV => Ak 104 2 encMk x.v x.l) (svs.take r), Bb (fun x : SegV => Ak 104 2 encMk x.v x.l) (svs.drop (r + 1)), cell p 87 #[.pointer (some ⟨dk, 0, none⟩), .int .i64 (lim : Int), sv], Ak 92 2 encSg sv svs, Ag dk (D (r + 1)), Ao tb] (.refl _) ?_
    refine An ?_
    refine BV 17 2 [⟨.quiet, [none, none], fun _ => .pointer (some ⟨p, 0, none⟩), []⟩, ⟨.quiet, [none, none], fun _ => .pointer (some ⟨p, 0, none⟩), [0]⟩, ⟨.quiet, [none, none], fun _ => .pointer (some ⟨p, 0, none⟩), [1]⟩, ⟨.quiet, [none, none], fun _ => .pointer (some ⟨dk, 0, none⟩), [2]⟩, ⟨.quiet, [none, none], fun _ => AV sv (r * 2), []⟩, ⟨.quiet, [none, none], fun _ => AV sv (r * 2), [4]⟩, ⟨.quiet, [none, none], fun _ => AV sv (r * 2 + 0), [5]⟩, ⟨.quiet, [none, none], fun _ => .int .u64 (x.f : Int), [6]⟩, ⟨.actv 0, [some false, some false], fun _ => .string (bs (nameL x.f)), [7]⟩, ⟨.quiet, [none, none], fun _ => .slice x.A (x.l.take (n - x.f)).length x.c, []⟩, ⟨.quiet, [none, none], fun _ => .slice x.A (x.l.take (n - x.f)).length x.c, []⟩, ⟨.quiet, [none, none], fun _ => .int .i64 (((x.l.take (n - x.f)).length) : Int), [10]⟩, ⟨.quiet, [none, none], fun _ => .int .i64 ((n - x.f - 1 : Nat) : Int), [11]⟩, ⟨.quiet, [none, none], fun _ => AV (.slice x.A (x.l.take (n - x.f)).length x.c) ((n - x.f - 1) * 2), [9, 12]⟩, ⟨.quiet, [none, none], fun _ => AV (.slice x.A (x.l.take (n - x.f)).length x.c) ((n - x.f - 1) * 2 + 1), [13]⟩, ⟨.quiet, [none, none], fun _ => .int .i64 (m.2 : Int), [14]⟩, ⟨.actv 1, [some true, some false], fun _ => .int .i64 0, [3, 8, 15]⟩] [(0, .pointer (some ⟨p, 0, none⟩)), (4, .int .i64 0), (6, AV sv (r * 2)), (7, .slice x.A (x.l.take (n - x.f)).length x.c)] (fun ρ => match ρ with | [r0, r1] => [Ak 104 2 encMk (.slice x.A (x.l.take (n - x.f)).length x.c) (x.l.take (n - x.f)), Bb (fun x : SegV => Ak 104 2 encMk x.v x.l) (svs.take r), Bb (fun x : SegV => Ak 104 2 encMk x.v x.l) (svs.drop (r + 1)), cell p 87 #[.pointer (some ⟨dk, 0, none⟩), .int .i64 (lim : Int), sv], Ak 92 2 encSg sv svs, DR r1 (fun _ => Ag dk d') (Ag dk (D (r + 1))), Ao tb] | _ => []) (by kernel_rfl) (by kernel_rfl) ⟨rfl, rfl, rfl, rfl, trivial⟩ rfl ?_ ?_
    · skip
      refine Ac (by intro r0_ r1_; exact ⟨rfl, fun b w hH hb => Ah Ae rfl hb⟩) ?_
      refine Ac (by intro r0_ r1_; exact ⟨rfl, fun b w hH hb => by exact B8 rfl rfl hb⟩) ?_
      refine Ac (by intro r0_ r1_; exact ⟨rfl, fun b w hH hb => Ah Ae rfl hb⟩) ?_
      refine Ac (by intro r0_ r1_; exact ⟨rfl, fun b w hH hb => AY rfl rfl (Bi CL rfl) (hH.row 3 rfl) hb⟩) ?_
      refine Ac (by intro r0_ r1_; exact ⟨rfl, fun b w hH hb => Ah Ae rfl hb⟩) ?_
      refine Ac (by intro r0_ r1_; exact ⟨rfl, fun b w hH hb => B0 4 rfl (j := r) (List.getElem?_eq_some_iff.1 hx).1 rfl rfl hH hb⟩) ?_
      refine Ac (by intro r0_ r1_; exact ⟨rfl, fun b w hH hb => GJ AT (by decide) (hH.vec 4 rfl AT) (j := r) hx Bn rfl rfl hb⟩) ?_
      refine Ac (by intro r0_ r1_; exact ⟨rfl, fun b w hH hb => BD AT (by decide) (hH.vec 4 rfl AT) (j := r) hx AO (off := 0) rfl rfl rfl hb⟩) ?_
      refine Ac (by exact ⟨rfl, Bm.su (Au (os' := fun _ => [Ak 104 2 encMk (.slice x.A (x.l.take (n - x.f)).length x.c) (x.l.take (n - x.f)), Bb (fun x : SegV => Ak 104 2 encMk x.v x.l) (svs.take r), Bb (fun x : SegV => Ak 104 2 encMk x.v x.l) (svs.drop (r + 1)), cell p 87 #[.pointer (some ⟨dk, 0, none⟩), .int .i64 (lim : Int), sv], Ak 92 2 encSg sv svs, Ag dk (D (r + 1)), Ao tb]) [6] 0 (Aj Tryz.func19 (by kernel_rfl) rfl) (DK tb (n := x.f) (by omega)) rfl rfl rfl (fun _ => rfl) rfl rfl rfl) rfl⟩) ?_
      refine Ac (by intro r0_ r1_; exact ⟨rfl, fun b w hH hb => Ah Ae rfl hb⟩) ?_
      refine Ac (by intro r0_ r1_; exact ⟨rfl, fun b w hH hb => Ah Ae rfl hb⟩) ?_
      refine Ac (by intro r0_ r1_; exact ⟨rfl, fun b w hH hb => DL Cl rfl rfl hH hb⟩) ?_
      refine Ac (by intro r0_ r1_; exact ⟨rfl, fun b w hH hb => AH rfl rfl rfl rfl (by rw [IntWalk.i64_in _ (by omega)]; omega) hb⟩) ?_
      refine Ac (by intro r0_ r1_; exact ⟨rfl, fun b w hH hb => EB 0 Cl Fd rfl (n - x.f - 1) (by omega) rfl rfl rfl hH hb⟩) ?_
      refine Ac (by intro r0_ r1_; exact ⟨rfl, fun b w hH hb => GJ Fd (by decide) (hH.vec 0 rfl Fd) (j := (n - x.f - 1)) hm1c FT rfl rfl hb⟩) ?_
      refine Ac (by intro r0_ r1_; exact ⟨rfl, fun b w hH hb => BD Fd (by decide) (hH.vec 0 rfl Fd) (j := (n - x.f - 1)) hm1c Bh (off := 1) rfl rfl rfl hb⟩) ?_
      refine Ac (by intro v0_; exact ⟨rfl, Bm.su (Au (os' := fun _ => [Ak 104 2 encMk (.slice x.A (x.l.take (n - x.f)).length x.c) (x.l.take (n - x.f)), Bb (fun x : SegV => Ak 104 2 encMk x.v x.l) (svs.take r), Bb (fun x : SegV => Ak 104 2 encMk x.v x.l) (svs.drop (r + 1)), cell p 87 #[.pointer (some ⟨dk, 0, none⟩), .int .i64 (lim : Int), sv], Ak 92 2 encSg sv svs, Ag dk d', Ao tb]) [5] 0 (Aj Tryz.func51 (by kernel_rfl) rfl) (LR hfit hcut) rfl rfl rfl (fun _ => rfl) rfl rfl rfl) rfl⟩) ?_
      exact B7
    intro v0_ v1_
    refine BT.keep (env' := [(4, .int .i64 0), (6, AV sv (r * 2)), (7, .slice x.A (x.l.take (n - x.f)).length x.c), (70, .int .i64 0)]) ⟨rfl, rfl, rfl, rfl, trivial⟩ ?_
    refine Af Ae rfl ?_
    refine AD (AB (Ad ?_))
    refine Af Ae rfl ?_
    refine Aa rfl (.bool false) (fun b w hb hH => AZ rfl rfl rfl (Bu (by decide)) hb) ?_
    refine Ab (As rfl (Aw (AB (Ad ?_))))
    refine Af Ae rfl ?_
    refine Aa rfl (AV sv (r * 2)) (fun b w hb hH => B0 4 rfl (j := r) (List.getElem?_eq_some_iff.1 hx).1 rfl rfl hH hb) ?_
    refine Aa rfl (AV sv (r * 2 + 1)) (fun b w hb hH => GJ AT (by decide) (hH.vec 4 rfl AT) (j := r) hx Bo rfl rfl hb) ?_
    refine AL (post := fun _ => [Ak 104 2 encMk (.slice x.A (x.l.take (n - x.f)).length x.c) (x.l.take (n - x.f)), Bb (fun x : SegV => Ak 104 2 encMk x.v x.l) (svs.take r), Bb (fun x : SegV => Ak 104 2 encMk x.v x.l) (svs.drop (r + 1)), cell p 87 #[.pointer (some ⟨dk, 0, none⟩), .int .i64 (lim : Int), sv], Ak 92 2 encSg sv (svs.set r (⟨x.f, x.l.take (n - x.f), x.A, x.c⟩ : SegV)), Ag dk d', Ao tb]) rfl rfl (IV 4 AT rfl r (a := x) (b := (⟨x.f, x.l.take (n - x.f), x.A, x.c⟩ : SegV)) hx Bw.2 rfl rfl (by decide) rfl rfl rfl rfl rfl) ?_; rintro ⟨⟩
    refine Ab ?_
    refine Bg [1, 0, 2] rfl (I7 (y := (⟨x.f, x.l.take (n - x.f), x.A, x.c⟩ : SegV)) hjl) rfl ?_
    refine AN.keep (env' := [(4, .int .i64 0), (6, AV sv (r * 2)), (7, .slice x.A (x.l.take (n - x.f)).length x.c), (70, .int .i64 0), (8, .int .i64 0), (71, .int .i64 0), (72, .bool false), (74, AV sv (r * 2)), (75, .slice x.A (x.l.take (n - x.f)).length x.c), (76, AV sv (r * 2)), (77, AV sv (r * 2 + 1))]) ⟨rfl, rfl, rfl, rfl, rfl, rfl, rfl, rfl, rfl, rfl, rfl, trivial⟩ ?_
    refine AN.mid [Bd (svs.set r (⟨x.f, x.l.take (n - x.f), x.A, x.c⟩ : SegV)), cell p 87 #[.pointer (some ⟨dk, 0, none⟩), .int .i64 (lim : Int), sv], Ak 92 2 encSg sv (svs.set r (⟨x.f, x.l.take (n - x.f), x.A, x.c⟩ : SegV)), Ag dk d', Ao tb] (.refl _) ?_
    refine Ad ?_
    refine Af Ae rfl ?_
    refine Ab (Az ?_)
    exact Ay (.tmp rfl) (fun w h => AC () rfl [1, 2, 0, 3, 4] rfl h (fun z hz => Db (by have h9 := QU (y := (⟨x.f, x.l.take (n - x.f), x.A, x.c⟩ : SegV)) hm; rw [hil] at h9; exact h9) z hz)) rfl
end Go.Proofs.YtnknboibmifacaaGreatDoor.Sep
namespace Go.Proofs.YtnknboibmifacaaGreatDoor.Sep
open Go.RowKit
theorem LogG.front {A B : LogMs} (h : LogG (A ++ B)) : LogG A := ⟨fun q hq => h.ne q (List.mem_append_left _ hq), by have := h.c; rw [BL] at this; exact this.front, fun q hq => h.hd q (List.mem_append_left _ hq), by have := h.many; rw [BL, List.length_append] at this; omega⟩
theorem LogD.del {d : DiskD} {M : LogMs} {q : Nat × List EntD} {w : Nat} (h : LogD d (M ++ [q]) w) : Jp d (nameL q.1) = (Dk d (.del (nameL q.1)), 0) ∧ LogD (Dk d (.del (nameL q.1))) M (w + 1) := by
  have hq : q ∈ M ++ [q] := List.mem_append_right _ (List.mem_singleton.2 rfl)
  have hl := h.wl
  have hs := h.ws
  have hn := D7 h.g
  rw [Dh] at hn
  constructor
  · unfold Jp
    rw [HG h.down h.fuse]
    simp only
    rw [if_neg (by simp), h.now, F9 h.g hq]
  · exact ⟨h.down, h.fuse, h.room, by show (d.wait ++ [_]).length ≤ _; rw [List.length_append]; simp only [List.length_cons, List.length_nil]; omega, by
      show Be d.syn + ((d.wait ++ [OpD.del (nameL q.1)]).map OpD.size).sum ≤ _
      rw [List.map_append, List.sum_append]
      simp only [List.map_cons, List.map_nil, List.sum_cons, List.sum_nil, OpD.size]
      omega, by
      rw [GZ, h.now, Dh]
      exact TZ hn, h.g.front⟩
def DX (d : DiskD) (M : LogMs) (j : Nat) : DiskD := (M.drop j).foldr (fun q d => Dk d (.del (nameL q.1))) d
theorem Ms (d : DiskD) (M : LogMs) : DX d M M.length = d := by unfold DX; rw [List.drop_length]; rfl
theorem Ly {d : DiskD} {M : LogMs} {j : Nat} {q : Nat × List EntD} (h : M[j]? = some q) : DX d M j = Dk (DX d M (j + 1)) (.del (nameL q.1)) := by
 unfold DX
 rw [Dt h]
 rfl
theorem Fk {M : LogMs} {j : Nat} {q : Nat × List EntD} (h : M[j]? = some q) : M.take (j + 1) = M.take j ++ [q] := by rw [List.take_add_one, h]; rfl
theorem LogD.left {d : DiskD} {M : LogMs} {w : Nat} (h : LogD d M w) : ∀ k j, j + k = M.length → LogD (DX d M j) (M.take j) (w + k)
  | 0, j, hj => by
    have : j = M.length := by omega
    subst this
    rw [Ms, List.take_length]
    exact h
  | k + 1, j, hj => by
    have h1 := h.left k (j + 1) (by omega)
    obtain ⟨q, hq⟩ : ∃ q, M[j]? = some q := ⟨_, List.getElem?_eq_getElem (by omega)⟩
    rw [Fk hq] at h1
    rw [Ly hq]
    exact h1.del.2
theorem OH {M : LogMs} {i f : Nat} {l : List (Int × Nat)} (h : (Aq M)[i]? = some (f, l)) : ∃ q, M[i]? = some q ∧ q.1 = f ∧ Cy q.2 = l := by
  unfold Aq at h
  rw [List.getElem?_map] at h
  cases hq : M[i]? with
  | none => rw [hq] at h; cases h
  | some q =>
    rw [hq] at h
    simp only [Option.map_some, Option.some.injEq, Prod.mk.injEq] at h
    exact ⟨q, rfl, h.1, h.2⟩
theorem HH {M : LogMs} {i : Nat} {q : Nat × List EntD} (h : M[i]? = some q) : (Aq M)[i]? = some (q.1, Cy q.2) := by unfold Aq; rw [List.getElem?_map, h]; rfl
theorem Mt (n : Nat) : ∀ (k : Nat) (M : LogMs), M.length = k → ∃ k, k ≤ M.length ∧ (∀ i q, k ≤ i → M[i]? = some q → n ≤ q.1) ∧ (k = 0 ∨ ∃ r q, k = r + 1 ∧ M[r]? = some q ∧ q.1 < n)
  | 0, M, h => ⟨0, Nat.zero_le _, fun i q _ hq => by rw [List.length_eq_zero_iff.1 h] at hq; simp at hq, .inl rfl⟩
  | k + 1, M, h => by
    rcases Dc M with rfl | ⟨M0, q, rfl⟩
    · simp at h
    · by_cases hq : q.1 < n
      · exact ⟨(M0 ++ [q]).length, Nat.le_refl _, fun i x hi hx => by have := (List.getElem?_eq_some_iff.1 hx).1; omega, .inr ⟨M0.length, q, by simp, by simp, hq⟩⟩
      · have hl : M0.length = k := by rw [List.length_append] at h; simp only [List.length_cons, List.length_nil] at h; omega
        obtain ⟨j, h1, h2, h3⟩ := Mt n k M0 hl
        refine ⟨j, by rw [List.length_append]; omega, fun i x hi hx => ?_, ?_⟩
        · rcases Nat.lt_or_ge i M0.length with hlt | hge
          · rw [List.getElem?_append_left hlt] at hx
            exact h2 i x hi hx
          · rw [List.getElem?_append_right hge] at hx
            have : i - M0.length = 0 := by
              have := (List.getElem?_eq_some_iff.1 hx).1
              simp only [List.length_cons, List.length_nil] at this
              omega
            rw [this] at hx
            simp only [List.getElem?_cons_zero, Option.some.injEq] at hx
            rw [← hx]; omega
        · rcases h3 with h3 | ⟨r, x, h3, h4, h5⟩
          · exact .inl h3
          · exact .inr ⟨r, x, h3, by rw [List.getElem?_append_left (List.getElem?_eq_some_iff.1 h4).1]; exact h4, h5⟩
theorem LogG.behind {M : LogMs} (h : LogG M) {n k : Nat} (hk : ∀ i q, k ≤ i → M[i]? = some q → n ≤ q.1) {e : EntD} (he : e ∈ AE (M.drop k)) : (n : Int) ≤ e.i := by
  obtain ⟨q, hq, heq⟩ := List.mem_flatMap.1 he
  have hqM := List.mem_of_mem_drop hq
  obtain ⟨i, hi⟩ := List.getElem?_of_mem hq
  rw [List.getElem?_drop] at hi
  have h1 := hk (k + i) q (by omega) hi
  obtain ⟨e0, r0, h0⟩ := List.exists_cons_of_ne_nil (h.ne q hqM)
  have h2 := h.hd q hqM e0 r0 h0
  have h3 := h.seg hqM
  rw [h0] at h3 heq
  rcases List.mem_cons.1 heq with rfl | hm
  · omega
  · have := QX h3 hm
    omega
theorem LogG.at_ {M : LogMs} (h : LogG M) {r : Nat} {q : Nat × List EntD} (hr : M[r]? = some q) {k : Nat} {e : EntD} (he : (AE M)[k]? = some e) : e.i + ((AE (M.take r)).length : Int) = (q.1 : Int) + (k : Int) := by
 have hqM := List.mem_of_getElem? hr
 obtain ⟨e0, r0, h0⟩ := List.exists_cons_of_ne_nil (h.ne q hqM)
 have h2 := h.hd q hqM e0 r0 h0
 have hL : AE M = AE (M.take r) ++ (q.2 ++ AE (M.drop (r + 1))) := by
  conv => lhs; rw [← List.take_append_drop r M, Dt hr, BL]
  rfl
 have h4 : (AE M)[(AE (M.take r)).length]? = some e0 := by
  rw [hL, List.getElem?_append_right (Nat.le_refl _), Nat.sub_self, h0]; rfl
 have := OF h.c h4 he
 omega
def VV (n : Nat) (L L' : List EntD) : Prop := ∃ c, L' = L.take c ∧ ∀ (k : Nat) (e : EntD), L[k]? = some e → (k < c ↔ e.i < (n : Int))
theorem Lz (es : List EntD) (k : Nat) : (BF es).take (BF (es.take k)).length = BF (es.take k) := by
 conv => lhs; rw [← List.take_append_drop k es]
 unfold BF
 rw [List.flatMap_append, List.take_append_drop, List.take_left]
theorem LogD.cut {lim w n : Nat} {d : DiskD} {M : LogMs} (tb : Tb) (h : LogD d M w) (hn64 : n ≤ 18446744073709551615) (hw : w + M.length ≤ 9999) : ∃ d' M', LogD d' M' (w + M.length + 1) ∧ VV n (AE M) (AE M') ∧ ∀ (p dk : Nat), AP Tryz.prog 16 #[.pointer (some ⟨p, 0, none⟩), .int .u64 (n : Int)] [AA p dk lim (Aq M), Ag dk d, Ao tb] (fun (_ : Unit) => .int .i64 0) (fun (_ : Unit) => [AA p dk lim (Aq M'), Ag dk d', Ao tb]) := by
  have hfew := h.g.few
  have hmany := h.g.many
  have hml : (Aq M).length = M.length := by unfold Aq; rw [List.length_map]
  obtain ⟨k, hk1, hk2, hk3⟩ := Mt n M.length M rfl
  have hmono : ∀ {a b M'}, LogD a M' b → b ≤ w + M.length + 1 → LogD a M' (w + M.length + 1) := fun {a b M'} ha hb => ⟨ha.down, ha.fuse, ha.room, by have := ha.wl; omega, by have := ha.ws; omega, ha.now, ha.g⟩
  have hdel : ∀ (i f : Nat) (l : List (Int × Nat)), k ≤ i → (Aq M)[i]? = some (f, l) → n ≤ f ∧ f ≤ 72057594037927935 ∧ (DX d M (i + 1)).fit ∧ Jp (DX d M (i + 1)) (nameL f) = (DX d M i, 0) := fun i f l hi hf => by
    obtain ⟨q, hq, rfl, rfl⟩ := OH hf
    have hil := (List.getElem?_eq_some_iff.1 hq).1
    have h1 := h.left (M.length - (i + 1)) (i + 1) (by omega)
    refine ⟨hk2 i q hi hq, (h.g.first (List.mem_of_getElem? hq)).2, h1.fit (by omega), ?_⟩
    rw [Fk hq] at h1
    rw [Ly hq]
    exact h1.del.1
  have hD0 := Ms d M
  have hfin : ∀ j, j ≤ M.length → LogD (DX d M j) (M.take j) (w + M.length + 1) := fun j hj => hmono (h.left (M.length - j) j (by omega)) (by omega)
  rcases hk3 with rfl | ⟨r, q, rfl, hr, hqn⟩
  · refine ⟨DX d M 0, [], by have := hfin 0 (Nat.zero_le _); rwa [List.take_zero] at this, ⟨0, rfl, fun i e he => ⟨fun hi => by omega, fun hi => ?_⟩⟩, fun p dk => ?_⟩
    · have h1 := h.g.behind (k := 0) hk2 (e := e) (by rw [List.drop_zero]; exact List.mem_of_getElem? he)
      omega
    · have h1 := T5 (p := p) (dk := dk) (lim := lim) (n := n) (r := 0) (ss := Aq M) (D := DX d M) tb (by omega) hn64 hdel
      rw [hml, hD0] at h1
      exact h1
  · have hqM := List.mem_of_getElem? hr
    have hrl := (List.getElem?_eq_some_iff.1 hr).1
    have hq1 := h.g.first hqM
    have hqne := h.g.ne q hqM
    have hsp : AE M = AE (M.take (r + 1)) ++ AE (M.drop (r + 1)) := by rw [← BL, List.take_append_drop]
    have hsn : AE (M.take (r + 1)) = AE (M.take r) ++ q.2 := by rw [Fk hr, BL]; simp [AE]
    have hqlen : q.2.length ≤ 1000 := by rw [hsp, hsn] at hmany; simp only [List.length_append] at hmany; omega
    by_cases hgap : q.1 + q.2.length ≤ n
    · refine ⟨DX d M (r + 1), M.take (r + 1), hfin (r + 1) hrl, ⟨(AE (M.take (r + 1))).length, by rw [hsp, List.take_left], fun i e he => ?_⟩, fun p dk => ?_⟩
      · constructor
        · intro hi
          have h1 := h.g.at_ hr he
          rw [hsn, List.length_append] at hi
          omega
        · intro hi
          refine Nat.lt_of_not_le fun hge => ?_
          rw [hsp, List.getElem?_append_right hge] at he
          have h1 := h.g.behind hk2 (List.mem_of_getElem? he)
          omega
      · have h1 := Vr (p := p) (dk := dk) (lim := lim) (n := n) (r := r) (ss := Aq M) (D := DX d M) tb (by omega) hn64 hdel (HH hr) hqn hq1.2 (F8 hqne) (by rw [Cz]; omega) (by rw [Cz]; exact hgap)
        rw [hml, hD0] at h1
        rw [show Aq (M.take (r + 1)) = (Aq M).take (r + 1) by unfold Aq; rw [List.map_take]]
        exact h1
    · have hin : n < q.1 + q.2.length := Nat.lt_of_not_le hgap
      have hkc : 0 < n - q.1 := by omega
      obtain ⟨t, x, htx⟩ : ∃ t x, q.2.take (n - q.1) = t ++ [x] := by
        rcases Dc (q.2.take (n - q.1)) with h0 | h0
        · have := congrArg List.length h0
          rw [List.length_take] at this
          simp only [List.length_nil] at this
          omega
        · exact h0
      have htl : t.length + 1 = n - q.1 := by
        have := congrArg List.length htx
        rw [List.length_take, List.length_append] at this
        simp only [List.length_cons, List.length_nil] at this
        omega
      have hmt : Cy (q.2.take (n - q.1)) = (Cy q.2).take (n - q.1) := by
        have key : ∀ (es : List EntD) (o k : Nat), Gv o (es.take k) = (Gv o es).take k := by
          intro es
          induction es with
          | nil => intro o k; simp [Gv]
          | cons e r ih => intro o k; cases k with
            | zero => simp [Gv]
            | succ k => simp [Gv, ih]
        unfold Cy
        rw [key, List.map_take]
      have hm1 : (Cy q.2)[n - q.1 - 1]? = some (x.t, (BF (q.2.take (n - q.1))).length) := by
        have h1 : ((Cy q.2).take (n - q.1))[n - q.1 - 1]? = some (x.t, (BF (q.2.take (n - q.1))).length) := by
          rw [← hmt]
          have h2 := Gw t x
          rw [← htx, List.getLast?_eq_getElem?, Cz, List.length_take] at h2
          rw [show n - q.1 - 1 = min (n - q.1) q.2.length - 1 by omega]
          exact h2
        rwa [List.getElem?_take, if_pos (by omega)] at h1
      have hD := h.left (M.length - (r + 1)) (r + 1) (by omega)
      have hDs := hD
      rw [Fk hr] at hDs
      have hqs : q ∈ M.take r ++ [q] := List.mem_append_right _ (List.mem_singleton.2 rfl)
      have hget := F9 hDs.g hqs
      have hnd := D7 hDs.g
      rw [Dh] at hnd
      have hble : (BF (q.2.take (n - q.1))).length ≤ (BF q.2).length := by
        have := congrArg List.length (Lz q.2 (n - q.1))
        rw [List.length_take] at this
        omega
      have hcut : S1 (DX d M (r + 1)) (nameL q.1) (((BF (q.2.take (n - q.1))).length : Nat) : Int) = (Dk (DX d M (r + 1)) (.cut (nameL q.1) (BF (q.2.take (n - q.1))).length), 0) := by
        unfold S1
        rw [HG hD.down hD.fuse]
        simp only
        rw [if_neg (by simp), hDs.now, hget]
        simp only
        rw [if_neg (by omega)]
        rfl
      have hgood : LogG (M.take r ++ [(q.1, q.2.take (n - q.1))]) := by
        have hg := hDs.g
        have hall : AE (M.take r ++ [q]) = AE (M.take r ++ [(q.1, q.2.take (n - q.1))]) ++ q.2.drop (n - q.1) := by
          rw [BL, BL]
          simp [AE]
        refine ⟨fun y hy => ?_, by have := hg.c; rw [hall] at this; exact this.front, fun y hy e1 r1 hy1 => ?_, by have := hg.many; rw [hall, List.length_append] at this; omega⟩
        · rcases List.mem_append.1 hy with hy | hy
          · exact hg.ne y (List.mem_append_left _ hy)
          · rw [List.mem_singleton.1 hy]
            show q.2.take (n - q.1) ≠ []
            rw [htx]; simp
        · rcases List.mem_append.1 hy with hy | hy
          · exact hg.hd y (List.mem_append_left _ hy) e1 r1 hy1
          · rw [List.mem_singleton.1 hy] at hy1 ⊢
            obtain ⟨e0, r0, h0⟩ := List.exists_cons_of_ne_nil hqne
            have h2 := h.g.hd q hqM e0 r0 h0
            simp only at hy1 ⊢
            rw [h0] at hy1
            obtain ⟨c, hc⟩ : ∃ c, n - q.1 = c + 1 := ⟨n - q.1 - 1, by omega⟩
            rw [hc, List.take_succ_cons] at hy1
            simp only [List.cons.injEq] at hy1
            rw [← hy1.1]; exact h2
      refine ⟨Dk (DX d M (r + 1)) (.cut (nameL q.1) (BF (q.2.take (n - q.1))).length), M.take r ++ [(q.1, q.2.take (n - q.1))], ?_, ⟨(AE (M.take r)).length + (n - q.1), ?_, fun i e he => ?_⟩, fun p dk => ?_⟩
      · have hl := hD.wl
        have hs := hD.ws
        exact ⟨hD.down, hD.fuse, hD.room, by
          show ((DX d M (r + 1)).wait ++ [_]).length ≤ _
          rw [List.length_append]; simp only [List.length_cons, List.length_nil]; omega, by
          show Be (DX d M (r + 1)).syn + (((DX d M (r + 1)).wait ++ [OpD.cut (nameL q.1) (BF (q.2.take (n - q.1))).length]).map OpD.size).sum ≤ _
          rw [List.map_append, List.sum_append]
          simp only [List.map_cons, List.map_nil, List.sum_cons, List.sum_nil, OpD.size]
          omega, by
          rw [GZ, hDs.now]
          show (match Bq (Cu (M.take r ++ [q])) (nameL q.1) with | some x => BM (Cu (M.take r ++ [q])) (nameL q.1) (x.take (BF (q.2.take (n - q.1))).length) | none => Cu (M.take r ++ [q])) = _
          rw [hget]
          simp only
          rw [Lz, Dh]
          show BM (Cu (M.take r) ++ [(nameL q.1, BF q.2)]) _ _ = _
          rw [OE hnd, Dh]
          rfl, hgood⟩
      · have hL : AE M = AE (M.take r) ++ (q.2 ++ AE (M.drop (r + 1))) := by rw [← List.append_assoc, ← hsn, ← hsp]
        have hle : n - q.1 ≤ q.2.length := by omega
        have e2 : ∀ (A R : List EntD), (A ++ (q.2 ++ R)).take (A.length + (n - q.1)) = A ++ q.2.take (n - q.1) := fun A R => by
          rw [List.take_append, List.take_of_length_le (Nat.le_add_right _ _), Nat.add_sub_cancel_left, List.take_append_of_le_length hle]
        have e3 := e2 (AE (M.take r)) (AE (M.drop (r + 1)))
        rw [← hL] at e3
        rw [e3, BL]
        simp [AE]
      · have h1 := h.g.at_ hr he
        omega
      · have h1 := WJ (p := p) (dk := dk) (lim := lim) (n := n) (r := r) (ss := Aq M) (D := DX d M) tb (by omega) hn64 hdel (HH hr) hqn hq1.2 (F8 hqne) (by rw [Cz]; omega) (by rw [Cz]; exact hin) hm1 (hD.fit (by omega)) hcut
        rw [hml, hD0] at h1
        rw [De, show Aq (M.take r) = (Aq M).take r by unfold Aq; rw [List.map_take], show Aq [(q.1, q.2.take (n - q.1))] = [(q.1, (Cy q.2).take (n - q.1))] by unfold Aq; simp [hmt]]
        exact h1
end Go.Proofs.YtnknboibmifacaaGreatDoor.Sep
namespace Go.Proofs.YtnknboibmifacaaGreatDoor.Sep
open Go.RowKit
open Go.Proofs.YtnknboibmifacaaGreatDoor.Mem (AR B3 Chg Av)
theorem WK {svs : List SegV} {ss : SegsM} {i f : Nat} {l : List (Int × Nat)} (hm : svs.map SegV.m = ss) (h : ss[i]? = some (f, l)) : ∃ x, svs[i]? = some x ∧ x.f = f ∧ x.l = l := by
  subst hm
  rw [List.getElem?_map] at h
  cases hx : svs[i]? with
  | none => rw [hx] at h; cases h
  | some x =>
    rw [hx] at h
    simp only [Option.map_some, Option.some.injEq, SegV.m, Prod.mk.injEq] at h
    exact ⟨x, rfl, h.1, h.2⟩
theorem T6 {p dk lim f : Nat} {ss : SegsM} {l : List (Int × Nat)} (h0 : ss[0]? = some (f, l)) (hl : ss.length ≤ 1000000) : AP Tryz.prog 18 #[.pointer (some ⟨p, 0, none⟩)] [AA p dk lim ss] (fun (_ : Unit) => .int .u64 (f : Int)) (fun (_ : Unit) => [AA p dk lim ss]) := by
 refine Bj (args := [.pointer (some ⟨p, 0, none⟩)]) 16 Tryz.func18 rfl rfl rfl ?_; intro w rs
 refine A7 0 rfl AA.open_ (fun _ => rfl) ?_; rintro ⟨sv, svs⟩
 refine AN.fact 3 rfl (fun _ h => h.2) ?_; rintro hm
 refine AN.leave [3] rfl rfl ?_
 replace hm : svs.map SegV.m = ss := hm
 obtain ⟨x, hx, rfl, rfl⟩ := WK hm h0
 have hn : svs.length = ss.length := by have := congrArg List.length hm; simpa using this
 have h0l := (List.getElem?_eq_some_iff.1 h0).1
 have hx0 : 0 < svs.length := by omega
 refine Ad ?_
 refine Af Ae rfl ?_
 refine Ab (An (Ad ?_))
 refine Af Ae rfl ?_
 refine Aa rfl (.pointer (some ⟨p, 0, none⟩)) (fun b w hb hH => by exact B8 rfl rfl hb) ?_
 refine Af Ae rfl ?_
 refine Aa rfl (sv) (fun b w hb hH => AY rfl rfl (Bi C4 rfl) (hH.row 0 rfl) hb) ?_
 refine Aa rfl (.int .i64 (ss.length : Int)) (fun b w hb hH => BS 1 hn Tryz.underlying85 rfl rfl rfl hH hb) ?_
 refine Aa rfl (.bool false) (fun b w hb hH => AZ rfl rfl rfl (EK (by omega)) hb) ?_
 refine Ab (As rfl (Aw (AB (Ad ?_))))
 refine Af Ae rfl ?_
 refine Aa rfl (.pointer (some ⟨p, 0, none⟩)) (fun b w hb hH => by exact B8 rfl rfl hb) ?_
 refine Af Ae rfl ?_
 refine Aa rfl (sv) (fun b w hb hH => AY rfl rfl (Bi C4 rfl) (hH.row 0 rfl) hb) ?_
 refine Aa rfl (AV sv (0 * 2)) (fun b w hb hH => EB 1 Ba AT rfl 0 hx0 rfl rfl rfl hH hb) ?_
 refine Aa rfl (AV sv (0 * 2 + 0)) (fun b w hb hH => GJ AT (by decide) (hH.vec 1 rfl AT) (j := 0) hx Bn rfl rfl hb) ?_
 refine Aa rfl (.int .u64 (x.f : Int)) (fun b w hb hH => BD AT (by decide) (hH.vec 1 rfl AT) (j := 0) hx AO (off := 0) rfl rfl rfl hb) ?_
 refine Af Ae rfl ?_
 refine Ab (Az ?_)
 exact Ay (.tmp rfl) (fun w h => AC () rfl [0, 1, 2] rfl h (fun z hz => Db hm z hz)) rfl
end Go.Proofs.YtnknboibmifacaaGreatDoor.Sep
