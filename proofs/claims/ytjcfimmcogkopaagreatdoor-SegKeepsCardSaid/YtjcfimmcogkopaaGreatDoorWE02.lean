/-
  DskJ
-/
import Derived.Test.YtjcfimmcogkopaaGreatDoorWX01
import Derived.Test.YtjcfimmcogkopaaGreatDoorWD01
set_option linter.unusedSimpArgs false
set_option linter.unusedVariables false
set_option maxHeartbeats 4000000
set_option maxRecDepth 100000
namespace Go.Proofs.YtjcfimmcogkopaaGreatDoor.Sep
variable {d d' d1 : DiskD} {e k p : Nat} {n : List UInt8} {torn : Int}
open Go.RowKit
open Go.Proofs.YtjcfimmcogkopaaGreatDoor.Mem (AG BC Chg Ak)
theorem V5 {f : FS} {o : OpD} (hn : (AC f).Nodup) : Az (Ga f o torn) ≤ Az f + o.size := by
  cases o with
  | app n b =>
    unfold Ga
    simp only
    split
    · exact Nat.le_add_right _ _
    · rw [KF hn, List.length_take]; show _ ≤ Az f + b.length; omega
  | cut n s => exact Nat.le_add_right _ _
  | ren a b => exact Nat.le_add_right _ _
  | del n => exact Nat.le_add_right _ _
theorem SQ (h : Bz d = (d1, 3)) : AA Tryz.prog 103 #[.pointer (some ⟨p, 0, none⟩), .string (bs n)] [Ab p d] (fun (_ : Unit) => .int .i64 3) (fun (_ : Unit) => [Ab p d1]) := by
 refine AP (args := [.pointer (some ⟨p, 0, none⟩), .string (bs n)]) 19 Tryz.func103 rfl rfl rfl ?_; intro w rs
 refine AV ?_
 refine Am Ac rfl (CE [0] (JB h) ?_)
 refine Ce ?_
 exact An (.tmp rfl) (fun w h => As () rfl [0] rfl h DK) rfl
theorem O2 (hfit : d.fit) (h : Bz d = (d1, 0)) (hg : AW d1.now n = none) : AA Tryz.prog 103 #[.pointer (some ⟨p, 0, none⟩), .string (bs n)] [Ab p d] (fun (_ : Unit) => .int .i64 4) (fun (_ : Unit) => [Ab p d1]) := by
 have hd1 := (Ej h).1
 have hfit1 := D0 h hfit
 refine AP (args := [.pointer (some ⟨p, 0, none⟩), .string (bs n)]) 19 Tryz.func103 rfl rfl rfl ?_; intro w rs
 refine AV ?_
 refine Am Ac rfl (CE [0] (Ei h) ?_)
 refine BD ?_
 refine oC 0 (DH hd1) ?_; rintro x
 refine AH.fact 3 rfl Bh ?_; rintro hsn
 refine AH.fact 4 rfl BG ?_; rintro hgn
 have hgL : AW x.L n = none := by rw [IT x.hg hgn] at hg; simpa using hg
 refine AK ?_
 refine Am Ac rfl (CE [4] (GJ _ _ n _ hgL) ?_)
 refine Ce ?_
 exact An (.tmp rfl) (fun w h => As () rfl [0, 1, 2, 3, 4, 5] rfl h (C7 (os := []) x hd1)) rfl
theorem O3 {y : List UInt8} (hfit : d.fit) (h : Bz d = (d1, 0)) (hg : AW d1.now n = some y) : AA Tryz.prog 103 #[.pointer (some ⟨p, 0, none⟩), .string (bs n)] [Ab p d] (fun (_ : Unit) => .int .i64 0) (fun (_ : Unit) => [Ab p (B3 d1 (.del n))]) := by
 have hd1 := (Ej h).1
 have hfit1 := D0 h hfit
 refine AP (args := [.pointer (some ⟨p, 0, none⟩), .string (bs n)]) 19 Tryz.func103 rfl rfl rfl ?_; intro w rs
 refine AV ?_
 refine Am Ac rfl (CE [0] (Ei h) ?_)
 refine BD ?_
 refine oC 0 (DH hd1) ?_; rintro x
 refine AH.fact 3 rfl Bh ?_; rintro hsn
 refine AH.fact 4 rfl BG ?_; rintro hgn
 obtain ⟨r, hgL, _⟩ : ∃ r, AW x.L n = some r ∧ r.2 = y := by rw [IT x.hg hgn] at hg; exact Option.map_eq_some_iff.1 hg
 refine AK ?_
 refine Am Ac rfl (CE [4] (GJ _ _ n _ hgL) ?_)
 refine AV ?_
 refine cC [0, 1, 2, 3, 4, 5] (Jz x hd1) ?_
 refine Bb 5 1 encB (Al (Am Ac rfl (Aa rfl (.agg #[.int .i64 3, .string (bs n), .slice none 0 0, .int .i64 0, .string { data := #[] }]) (fun b w hb hH => AY rfl rfl (by kernel_rfl) hb) (CE [1, 0] (NQ (x := ⟨.del n, none, 0⟩) hd1 hfit1 trivial (Nat.zero_le _)) ?_))))
 refine lL [0] ?_
 refine Aq ?_
 exact An (.tmp rfl) (fun w h => As () rfl [0] rfl h DK) rfl
theorem O4 (hd : d.fit) (h : Ik d n = (d', e)) : AA Tryz.prog 103 #[.pointer (some ⟨p, 0, none⟩), .string (bs n)] [Ab p d] (fun _ : Unit => .int .i64 (e : Int)) (fun _ => [Ab p d']) := by
  unfold Ik at h
  obtain ⟨d1, e1, h1⟩ : ∃ d1 e1, Bz d = (d1, e1) := ⟨_, _, rfl⟩
  have h01 := JC d
  rw [h1] at h h01
  simp only at h h01
  rcases h01 with rfl | rfl
  · rw [if_pos (by decide)] at h
    cases h
    exact SQ h1
  · rw [if_neg (by decide)] at h
    cases hg : AW d1.now n with
    | none => rw [hg] at h; cases h; exact O2 hd h1 hg
    | some y => rw [hg] at h; cases h; exact O3 hd h1 hg
theorem V6 (h : Bz d = (d1, 3)) : AA Tryz.prog 22 #[.pointer (some ⟨p, 0, none⟩)] [Ab p d] (fun (_ : Unit) => .int .i64 3) (fun (_ : Unit) => [Ab p d1]) := by
 refine AP (args := [.pointer (some ⟨p, 0, none⟩)]) 13 Tryz.func22 rfl rfl rfl ?_; intro w rs
 refine AV ?_
 refine Am Ac rfl (CE [0] (JB h) ?_)
 refine Ce ?_
 exact An (.tmp rfl) (fun w h => As () rfl [0] rfl h DK) rfl
theorem V7 (hfit : d.fit) (h : Bz d = (d1, 0)) : AA Tryz.prog 22 #[.pointer (some ⟨p, 0, none⟩)] [Ab p d] (fun (_ : Unit) => .int .i64 0) (fun (_ : Unit) => [Ab p ({ d1 with syn := d1.now, wait := [] })]) := by
 have hd1 := (Ej h).1
 have hfit1 := D0 h hfit
 refine AP (args := [.pointer (some ⟨p, 0, none⟩)]) 13 Tryz.func22 rfl rfl rfl ?_; intro w rs
 refine AV ?_
 refine Am Ac rfl (CE [0] (Ei h) ?_)
 refine AV ?_
 refine oC 0 (Ie hd1) ?_; rintro x
 refine AH.fact 3 rfl Bh ?_; rintro hsn
 have hWl := NO x
 have hw := hfit1.2
 have hok : GR d1.syn (ED x.W) := by rw [x.hW]; exact x.hok
 have hsz : Az d1.syn + ((ED x.W).map OpD.size).sum ≤ 1099511627776 := by rw [x.hW]; exact hfit1.1
 refine AV ?_
 refine CE [0, 1, 2, 3] (OY (k := x.W.length) (K := x.W) (Nat.le_refl _) (by omega) (List.take_of_length_le (Nat.le_refl _)) hok hsz (show (ED x.W).foldl Bf d1.syn = d1.now by rw [x.hW]; rfl)) ?_
 refine Aw (lC [1, 2] ?_)
 refine Bb 106 5 encO (Hx (t := B1 ([])) (C0) (AK ?_))
 exact An (.tmp rfl) (fun w h => As () rfl [2, 1, 0, 3, 4] rfl h (F9 (os := []) (d := { d1 with syn := d1.now, wait := [] }) ⟨.slice none 0 0, x.sm, x.sh, [], x.g, rfl, (fun _ => x.hg hd1), Jy, x.hf, x.hr, M9 hsn x.hk x.hok⟩ hd1)) rfl
theorem SR (hd : d.fit) (h : Rr d = (d', e)) : AA Tryz.prog 22 #[.pointer (some ⟨p, 0, none⟩)] [Ab p d] (fun _ : Unit => .int .i64 (e : Int)) (fun _ => [Ab p d']) := by
  unfold Rr at h
  obtain ⟨d1, e1, h1⟩ : ∃ d1 e1, Bz d = (d1, e1) := ⟨_, _, rfl⟩
  have h01 := JC d
  rw [h1] at h h01
  simp only at h h01
  rcases h01 with rfl | rfl
  · rw [if_pos (by decide)] at h
    cases h
    exact V6 h1
  · rw [if_neg (by decide)] at h
    cases h
    exact V7 hd h1
theorem V8 {keep : Int} (hd : d.fit) (hk : CG d keep = k) : AA Tryz.prog 13 #[.pointer (some ⟨p, 0, none⟩), .int .i64 keep, .int .i64 torn] [Ab p d] (fun (_ : Unit) => .int .i64 (k : Int)) (fun (_ : Unit) => [Ab p (Fy d keep torn)]) := by
  refine AP (args := [.pointer (some ⟨p, 0, none⟩), .int .i64 keep, .int .i64 torn]) 53 Tryz.func13 rfl rfl rfl ?_; intro w rs
  refine oC 0 SF ?_; rintro x
  refine AH.fact 3 rfl Bh ?_; rintro hsn
  have hWl := NO x
  have hw := hd.2
  have hkW : k ≤ x.W.length := by rw [hWl, ← hk]; exact OL d keep
  have hmod : keep % ((x.W.length : Int) + 1) = (k : Int) := by rw [← hk, hWl]; unfold CG; have := Int.emod_nonneg keep (show ((d.wait.length : Int) + 1) ≠ 0 by omega); omega
  have hoT : ED (x.W.take k) = d.wait.take k := by rw [← x.hW]; unfold ED; rw [List.map_take]
  have hok : GR d.syn (ED (x.W.take k)) := by rw [hoT]; exact F8 k x.hok
  have hsz0 := Ki d.wait k
  have hfs := hd.1
  have hsz : Az d.syn + ((ED (x.W.take k)).map OpD.size).sum ≤ 1099511627776 := by rw [hoT]; omega
  have hu1 : Az ((d.wait.take k).foldl Bf d.syn) ≤ 1099511627776 := Nat.le_trans (FO _ hsn (F8 k x.hok)) (by omega)
  refine Dc ?_
  refine FD (fun w hH => L9 w keep ((x.W.length : Int) + 1) (k : Int) (by omega) (by omega) hmod) ?_
  refine AV ?_
  refine Am Ac rfl (Aa rfl (BN 5 x.pv k x.W.length) (fun b w hb hH => Sb 1 (a := k) BO rfl hkW rfl rfl rfl hH hb) (Aq ?_))
  refine Am Ac rfl (CE [0, 1, 2, 3] (OY (k := k) (K := x.W.take k) hkW (by omega) rfl hok hsz (congrArg (List.foldl Bf d.syn) hoT)) ?_)
  refine Aq ?_
  rcases Nat.lt_or_ge k x.W.length with hc | hc
  obtain ⟨a, ha⟩ : ∃ a, x.W[k]? = some a := ⟨_, List.getElem?_eq_getElem hc⟩
  have ha0 : (x.W.drop k)[0]? = some a := by rw [List.getElem?_drop, Nat.add_zero]; exact ha
  have haW : a ∈ x.W := List.mem_of_getElem? ha
  have hao : d.wait[k]? = some a.o := by rw [← x.hW]; unfold ED; rw [List.getElem?_map, ha]; rfl
  have hsa : Az ((d.wait.take k).foldl Bf d.syn) + a.o.size ≤ 1099511627776 := JA hsn x.hok hao hfs
  have hlf : Ga ((d.wait.take k).foldl Bf d.syn) a.o torn = DZ d keep torn := by rw [Gz, hk, hao]
  have hul : Az (DZ d keep torn) ≤ 1099511627776 := by rw [← hlf]; exact Nat.le_trans (V5 (Ib _ hsn)) hsa
  refine Al (Am Ac rfl (Aa rfl (.int .i64 ((x.W.drop k).length : Int)) (fun b w hb hH => AJ (hH.vecq 1 rfl Qj hkW (Nat.le_refl _) (m := x.W.drop k) (by simp)) Tryz.underlying97 rfl rfl hb) (Aa rfl (.bool true) (fun b w hb hH => DS rfl rfl rfl (DW (by rw [List.length_drop]; omega)) hb) (Aq ?_))))
  refine Bk 9 1 [⟨.quiet, [none], fun _ => .pointer (some ⟨p, 0, none⟩), []⟩, ⟨.quiet, [none], fun _ => .pointer (some ⟨p, 0, none⟩), [0]⟩, ⟨.quiet, [none], fun _ => .pointer (some ⟨p, 4, none⟩), [1]⟩, ⟨.quiet, [none], fun _ => x.sm, [2]⟩, ⟨.quiet, [none], fun _ => BN 5 x.pv k x.W.length, []⟩, ⟨.quiet, [none], fun _ => AN (BN 5 x.pv k x.W.length) (0 * 5), [4]⟩, ⟨.quiet, [none], fun _ => .agg (encO a).toArray, [5]⟩, ⟨.quiet, [none], fun _ => .int .i64 torn, []⟩, ⟨.actv 0, [some false], fun _ => .tuple #[], [3, 6, 7]⟩] [(0, .pointer (some ⟨p, 0, none⟩)), (2, .int .i64 torn), (6, .int .i64 0), (7, .int .i64 (k : Int)), (8, BN 5 x.pv k x.W.length)] (fun ρ => match ρ with | [r0] => [cell p 101 #[.int .i64 d.room, .int .i64 (FW d.fuse), .bool d.down, .slice none 0 0, x.sm, x.sh], Af 106 5 encO x.pv x.W, B1 x.W, Dm r0 (fun _ => Au x.sm (DZ d keep torn)) (Au x.sm ((d.wait.take k).foldl Bf d.syn)), Yn d.down x.sh x.g] | _ => []) (by kernel_rfl) (by kernel_rfl) ⟨rfl, rfl, rfl, rfl, rfl, trivial⟩ rfl ?_ ?_
  refine Ai ?_
  refine Ai ?_
  refine Ai ?_
  refine Ai ?_
  refine Ai ?_
  refine Ad (by intro r0_; exact ⟨rfl, fun b w hH hb => Dp Qj (hH.vecq 1 rfl Qj hkW (Nat.le_refl _) (m := x.W.drop k) (by simp)) BO (j := 0) ha0 rfl rfl rfl hb⟩) (Ad (by intro r0_; exact ⟨rfl, fun b w hH hb => CD Qj (by decide) (hH.vecq 1 rfl Qj hkW (Nat.le_refl _) (m := x.W.drop k) (by simp)) (j := 0) ha0 Cc rfl rfl hb⟩) (Ai ?_))
  refine Ad (by exact ⟨rfl, AR.su (AM (os' := fun _ => [cell p 101 #[.int .i64 d.room, .int .i64 (FW d.fuse), .bool d.down, .slice none 0 0, x.sm, x.sh], Af 106 5 encO x.pv x.W, B1 x.W, Au x.sm (DZ d keep torn), Yn d.down x.sh x.g]) [3, 2] 0 (Ah Tryz.func56 (by kernel_rfl) rfl) (Ux (Rz haW) hsa hlf) rfl rfl rfl (fun _ => rfl) rfl rfl rfl) rfl⟩) ?_
  exact Bv
  intro v0_
  refine A5.keep (env' := [(0, .pointer (some ⟨p, 0, none⟩)), (6, .int .i64 0), (7, .int .i64 (k : Int))]) ⟨rfl, rfl, rfl, trivial⟩ (Aq ?_)
  refine Am Ac rfl (Aa rfl (.pointer (some ⟨p, 0, none⟩)) (fun b w hb hH => by exact Ir rfl rfl hb) (Am Ac rfl (Aa rfl (x.sm) (fun b w hb hH => GN rfl rfl (JO EL rfl) (hH.row 0 rfl) hb) (AQ rfl (AM (os' := fun (y : { q : Nat × FS // q.2.Perm (DZ d keep torn) }) => [Au (.map (some y.1.1)) y.1.2, cell p 101 #[.int .i64 d.room, .int .i64 (FW d.fuse), .bool d.down, .slice none 0 0, x.sm, x.sh], Af 106 5 encO x.pv x.W, B1 x.W, Au x.sm (DZ d keep torn), Yn d.down x.sh x.g]) [3] 0 (Ah Tryz.func57 (by kernel_rfl) rfl) (OZ hul) rfl rfl rfl (fun _ => rfl) rfl rfl rfl) ?_)))); rintro y
  refine Kf ?_
  refine lC [2, 3, 5] ?_
  refine Bb 106 5 encO (Hx (t := B1 ([])) (C0) (AK ?_))
  exact An (.tmp rfl) (fun w h => As () rfl [3, 1, 0, 4, 2] rfl h (F9 (os := []) (d := Fy d keep torn) ⟨.slice none 0 0, x.sm, .map (some y.1.1), [], y.1.2, rfl, (fun _ => y.2), Jy, (fun n h => by cases h), x.hr, L7 hsn x.hk x.hok⟩ rfl)) rfl
  have hlf : (d.wait.take k).foldl Bf d.syn = DZ d keep torn := by rw [Gz, hk, List.getElem?_eq_none (by omega)]
  rw [hlf]
  have hul : Az (DZ d keep torn) ≤ 1099511627776 := by rw [← hlf]; exact hu1
  refine Al (Am Ac rfl (Aa rfl (.int .i64 ((x.W.drop k).length : Int)) (fun b w hb hH => AJ (hH.vecq 1 rfl Qj hkW (Nat.le_refl _) (m := x.W.drop k) (by simp)) Tryz.underlying97 rfl rfl hb) (Aa rfl (.bool false) (fun b w hb hH => DS rfl rfl rfl (DX (by rw [List.length_drop]; omega)) hb) (Dc ?_))))
  refine GI [3] (OZ hul) ?_; rintro y
  refine Kf ?_
  refine lC [2, 3, 5] ?_
  refine Bb 106 5 encO (Hx (t := B1 ([])) (C0) (AK ?_))
  exact An (.tmp rfl) (fun w h => As () rfl [3, 1, 0, 4, 2] rfl h (F9 (os := []) (d := Fy d keep torn) ⟨.slice none 0 0, x.sm, .map (some y.1.1), [], y.1.2, rfl, (fun _ => y.2), Jy, (fun n h => by cases h), x.hr, L7 hsn x.hk x.hok⟩ rfl)) rfl
theorem Mb {keep : Int} (hd : d.fit) (h1 : -9223372036854775808 ≤ keep ∧ keep ≤ 9223372036854775807) (h2 : -9223372036854775808 ≤ torn ∧ torn ≤ 9223372036854775807) (hk : CG d keep = k) (h : Fy d keep torn = d') : AA Tryz.prog 13 #[.pointer (some ⟨p, 0, none⟩), .int .i64 keep, .int .i64 torn] [Ab p d] (fun _ : Unit => .int .i64 (k : Int)) (fun _ => [Ab p d']) := by
 subst h
 exact V8 hd hk
end Go.Proofs.YtjcfimmcogkopaaGreatDoor.Sep
