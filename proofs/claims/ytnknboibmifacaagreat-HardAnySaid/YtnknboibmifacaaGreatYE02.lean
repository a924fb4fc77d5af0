/-
  DskJ
-/
import Derived.Test.YtnknboibmifacaaGreatYD01
set_option linter.unusedSimpArgs false
set_option linter.unusedVariables false
set_option maxRecDepth 100000
namespace Go.Proofs.YtnknboibmifacaaGreat.Sep
open Go.RowKit
open Go.Proofs.YtnknboibmifacaaGreat.Mem (Bd Cj Chg AF)
theorem Ug {f : FS} {o : OpD} {torn : Int} (hn : (AI f).Nodup) : AE (Gf f o torn) ≤ AE f + o.size := by
  cases o with
  | app n b =>
    unfold Gf
    simp only
    split
    · exact Nat.le_add_right _ _
    · rw [Gz hn, List.length_take]; show _ ≤ AE f + b.length; omega
  | cut n s => exact Nat.le_add_right _ _
  | ren a b => exact Nat.le_add_right _ _
  | del n => exact Nat.le_add_right _ _
theorem Ri {p : Nat} {d d1 : DiskD} {n : List UInt8} (h : Ba d = (d1, 3)) : AS Tryz.prog 69 #[.pointer (some ⟨p, 0, none⟩), .string (bs n)] [Ap p d] (fun (_ : Unit) => .int .i64 3) (fun (_ : Unit) => [Ap p d1]) := by
 refine A6 (args := [.pointer (some ⟨p, 0, none⟩), .string (bs n)]) 19 Tryz.func69 rfl rfl rfl ?_; intro w rs
 refine Ad ?_
 refine Af Aj rfl ?_
 refine Ab (Aq (Ad ?_))
 refine Af Aj rfl ?_
 refine Ai rfl (Am (os' := fun _ => [Ap p d1]) [0] 0 (Ah Tryz.func28 (by kernel_rfl) rfl) (GC h) rfl rfl rfl (fun _ => rfl) rfl rfl rfl) ?_; rintro ⟨⟩
 refine Af Aj rfl ?_
 refine Ab (AD rfl (Ad ?_))
 refine Af Aj rfl ?_
 refine Ab (Az (CO ?_))
 exact Ay (.tmp rfl) (fun w h => AB () rfl [0] rfl h Cz) rfl
theorem NB {p : Nat} {d d1 : DiskD} {n : List UInt8} (hfit : d.fit) (h : Ba d = (d1, 0)) (hg : AL d1.now n = none) : AS Tryz.prog 69 #[.pointer (some ⟨p, 0, none⟩), .string (bs n)] [Ap p d] (fun (_ : Unit) => .int .i64 4) (fun (_ : Unit) => [Ap p d1]) := by
 have hd1 := (Dp h).1
 have hfit1 := Da h hfit
 refine A6 (args := [.pointer (some ⟨p, 0, none⟩), .string (bs n)]) 19 Tryz.func69 rfl rfl rfl ?_; intro w rs
 refine Ad ?_
 refine Af Aj rfl ?_
 refine Ab (Aq (Ad ?_))
 refine Af Aj rfl ?_
 refine Ai rfl (Am (os' := fun _ => [Ap p d1]) [0] 0 (Ah Tryz.func28 (by kernel_rfl) rfl) (C7 h) rfl rfl rfl (fun _ => rfl) rfl rfl rfl) ?_; rintro ⟨⟩
 refine Af Aj rfl ?_
 refine Ab (Au rfl (Ax (AG (Aq ?_))))
 refine AY 0 rfl (CW hd1) (fun _ => rfl) ?_; rintro x
 refine Bo.fact 3 rfl Bx ?_; rintro hsn
 refine Bo.fact 4 rfl BK ?_; rintro hgn
 have hgL : AL x.L n = none := by rw [F2 x.hg hgn] at hg; simpa using hg
 refine Ad ?_
 refine Af Aj rfl ?_
 refine Ac rfl (.pointer (some ⟨p, 0, none⟩)) (fun b w hb hH => by exact BO rfl rfl hb) ?_
 refine Af Aj rfl ?_
 refine Ac rfl (x.sh) (fun b w hb hH => Bg rfl rfl (Bt AJ rfl) (hH.row 0 rfl) hb) ?_
 refine Af Aj rfl ?_
 refine Ai rfl (Am (os' := fun _ => [cell p 67 #[.int .i64 d1.room, .int .i64 (CV d1.fuse), .bool false, x.pv, x.sm, x.sh], Ao 99 5 encO x.pv x.W, BF x.W, Av x.sm d1.syn, By encKey AH x.sh x.L, Bn x.L]) [4] 0 (Ah Tryz.func57 (by kernel_rfl) rfl) (Fp _ _ n _ hgL) rfl rfl rfl (fun _ => rfl) rfl rfl rfl) ?_; rintro ⟨⟩
 refine Af Aj rfl ?_
 refine Ab (AD rfl (Ad ?_))
 refine Af Aj rfl ?_
 refine Ab (Az (CO ?_))
 exact Ay (.tmp rfl) (fun w h => AB () rfl [0, 1, 2, 3, 4, 5] rfl h (CG (os := []) x hd1)) rfl
theorem NC {p : Nat} {d d1 : DiskD} {n : List UInt8} {y : List UInt8} (hfit : d.fit) (h : Ba d = (d1, 0)) (hg : AL d1.now n = some y) : AS Tryz.prog 69 #[.pointer (some ⟨p, 0, none⟩), .string (bs n)] [Ap p d] (fun (_ : Unit) => .int .i64 0) (fun (_ : Unit) => [Ap p (Cn d1 (.del n))]) := by
 have hd1 := (Dp h).1
 have hfit1 := Da h hfit
 refine A6 (args := [.pointer (some ⟨p, 0, none⟩), .string (bs n)]) 19 Tryz.func69 rfl rfl rfl ?_; intro w rs
 refine Ad ?_
 refine Af Aj rfl ?_
 refine Ab (Aq (Ad ?_))
 refine Af Aj rfl ?_
 refine Ai rfl (Am (os' := fun _ => [Ap p d1]) [0] 0 (Ah Tryz.func28 (by kernel_rfl) rfl) (C7 h) rfl rfl rfl (fun _ => rfl) rfl rfl rfl) ?_; rintro ⟨⟩
 refine Af Aj rfl ?_
 refine Ab (Au rfl (Ax (AG (Aq ?_))))
 refine AY 0 rfl (CW hd1) (fun _ => rfl) ?_; rintro x
 refine Bo.fact 3 rfl Bx ?_; rintro hsn
 refine Bo.fact 4 rfl BK ?_; rintro hgn
 obtain ⟨r, hgL, _⟩ : ∃ r, AL x.L n = some r ∧ r.2 = y := by rw [F2 x.hg hgn] at hg; exact Option.map_eq_some_iff.1 hg
 refine Ad ?_
 refine Af Aj rfl ?_
 refine Ac rfl (.pointer (some ⟨p, 0, none⟩)) (fun b w hb hH => by exact BO rfl rfl hb) ?_
 refine Af Aj rfl ?_
 refine Ac rfl (x.sh) (fun b w hb hH => Bg rfl rfl (Bt AJ rfl) (hH.row 0 rfl) hb) ?_
 refine Af Aj rfl ?_
 refine Ai rfl (Am (os' := fun _ => [cell p 67 #[.int .i64 d1.room, .int .i64 (CV d1.fuse), .bool false, x.pv, x.sm, x.sh], Ao 99 5 encO x.pv x.W, BF x.W, Av x.sm d1.syn, By encKey AH x.sh x.L, Bn x.L]) [4] 0 (Ah Tryz.func57 (by kernel_rfl) rfl) (Fp _ _ n _ hgL) rfl rfl rfl (fun _ => rfl) rfl rfl rfl) ?_; rintro ⟨⟩
 refine Af Aj rfl ?_
 refine Ab (Au rfl (Ax (AG ?_)))
 refine Bf [0, 1, 2, 3, 4, 5] rfl (Hc x hd1) rfl ?_
 refine BZ 5 1 encB ?_
 refine Ad ?_
 refine Af Aj rfl ?_
 refine Ac rfl (.agg #[.int .i64 3, .string (bs n), .slice none 0 0, .int .i64 0, .string { data := #[] }]) (fun b w hb hH => AV rfl rfl (by kernel_rfl) hb) ?_
 refine Ai rfl (Am (os' := fun _ => [E0, Ap p (Cn d1 (.del n))]) [1, 0] 0 (Ah Tryz.func58 (by kernel_rfl) rfl) (KT (x := ⟨.del n, none, 0⟩) hd1 hfit1 trivial (Nat.zero_le _)) rfl rfl rfl (fun _ => rfl) rfl rfl rfl) ?_; rintro ⟨⟩
 refine Ch.leave [0] rfl rfl ?_
 refine Af Aj rfl ?_
 refine Ab (Az ?_)
 exact Ay (.tmp rfl) (fun w h => AB () rfl [0] rfl h Cz) rfl
theorem ND {p : Nat} {d d' : DiskD} {n : List UInt8} {e : Nat} (hd : d.fit) (h : Hq d n = (d', e)) : AS Tryz.prog 69 #[.pointer (some ⟨p, 0, none⟩), .string (bs n)] [Ap p d] (fun _ : Unit => .int .i64 (e : Int)) (fun _ => [Ap p d']) := by
  unfold Hq at h
  obtain ⟨d1, e1, h1⟩ : ∃ d1 e1, Ba d = (d1, e1) := ⟨_, _, rfl⟩
  have h01 := GD d
  rw [h1] at h h01
  simp only at h h01
  rcases h01 with rfl | rfl
  · rw [if_pos (by decide)] at h
    cases h
    exact Ri h1
  · rw [if_neg (by decide)] at h
    cases hg : AL d1.now n with
    | none => rw [hg] at h; cases h; exact NB hd h1 hg
    | some y => rw [hg] at h; cases h; exact NC hd h1 hg
theorem Uh {p : Nat} {d d1 : DiskD} (h : Ba d = (d1, 3)) : AS Tryz.prog 9 #[.pointer (some ⟨p, 0, none⟩)] [Ap p d] (fun (_ : Unit) => .int .i64 3) (fun (_ : Unit) => [Ap p d1]) := by
 refine A6 (args := [.pointer (some ⟨p, 0, none⟩)]) 13 Tryz.func9 rfl rfl rfl ?_; intro w rs
 refine Ad ?_
 refine Af Aj rfl ?_
 refine Ab (Aq (Ad ?_))
 refine Af Aj rfl ?_
 refine Ai rfl (Am (os' := fun _ => [Ap p d1]) [0] 0 (Ah Tryz.func28 (by kernel_rfl) rfl) (GC h) rfl rfl rfl (fun _ => rfl) rfl rfl rfl) ?_; rintro ⟨⟩
 refine Af Aj rfl ?_
 refine Ab (AD rfl (Ad ?_))
 refine Af Aj rfl ?_
 refine Ab (Az (CO ?_))
 exact Ay (.tmp rfl) (fun w h => AB () rfl [0] rfl h Cz) rfl
theorem Ui {p : Nat} {d d1 : DiskD} (hfit : d.fit) (h : Ba d = (d1, 0)) : AS Tryz.prog 9 #[.pointer (some ⟨p, 0, none⟩)] [Ap p d] (fun (_ : Unit) => .int .i64 0) (fun (_ : Unit) => [Ap p ({ d1 with syn := d1.now, wait := [] })]) := by
 have hd1 := (Dp h).1
 have hfit1 := Da h hfit
 refine A6 (args := [.pointer (some ⟨p, 0, none⟩)]) 13 Tryz.func9 rfl rfl rfl ?_; intro w rs
 refine Ad ?_
 refine Af Aj rfl ?_
 refine Ab (Aq (Ad ?_))
 refine Af Aj rfl ?_
 refine Ai rfl (Am (os' := fun _ => [Ap p d1]) [0] 0 (Ah Tryz.func28 (by kernel_rfl) rfl) (C7 h) rfl rfl rfl (fun _ => rfl) rfl rfl rfl) ?_; rintro ⟨⟩
 refine Af Aj rfl ?_
 refine Ab (Au rfl (Ax (AG ?_)))
 refine AY 0 rfl (Hb hd1) (fun _ => rfl) ?_; rintro x
 refine Bo.fact 3 rfl Bx ?_; rintro hsn
 have hWl := J4 x
 have hw := hfit1.2
 have hok : Fe d1.syn (DF x.W) := by rw [x.hW]; exact x.hok
 have hsz : AE d1.syn + ((DF x.W).map OpD.size).sum ≤ 1099511627776 := by rw [x.hW]; exact hfit1.1
 refine Ad ?_
 refine Af Aj rfl ?_
 refine Ac rfl (.pointer (some ⟨p, 0, none⟩)) (fun b w hb hH => by exact BO rfl rfl hb) ?_
 refine Af Aj rfl ?_
 refine Ac rfl (x.pv) (fun b w hb hH => Bg rfl rfl (Bt BP rfl) (hH.row 0 rfl) hb) ?_
 refine Ac rfl (.int .i64 (x.W.length : Int)) (fun b w hb hH => C2 1 Tryz.underlying63 rfl rfl rfl hH hb) ?_
 refine Ai rfl (Am (os' := fun _ => [cell p 67 #[.int .i64 d1.room, .int .i64 (CV d1.fuse), .bool false, .slice none 0 0, x.sm, x.sh], Ao 99 5 encO x.pv x.W, BF x.W, Av x.sm d1.now, Av x.sh x.g]) [0, 1, 2, 3] 0 (Ah Tryz.func29 (by kernel_rfl) rfl) (Nx (k := x.W.length) (K := x.W) (Nat.le_refl _) (by omega) (List.take_of_length_le (Nat.le_refl _)) hok hsz (show (DF x.W).foldl AW d1.syn = d1.now by rw [x.hW]; rfl)) rfl rfl rfl (fun _ => rfl) rfl rfl rfl) ?_; rintro ⟨⟩
 refine Ab ?_
 refine Bo.leave [1, 2] rfl rfl ?_
 refine BZ 99 5 encO ?_
 refine HF (t := BF ([])) (EB) ?_
 refine Ad ?_
 refine Af Aj rfl ?_
 refine Ab (Az ?_)
 exact Ay (.tmp rfl) (fun w h => AB () rfl [2, 1, 0, 3, 4] rfl h (FI (os := []) (d := { d1 with syn := d1.now, wait := [] }) ⟨.slice none 0 0, x.sm, x.sh, [], x.g, rfl, (fun _ => x.hg hd1), IJ, x.hf, x.hr, LF hsn x.hk x.hok⟩ hd1)) rfl
theorem Jp {p : Nat} {d d' : DiskD} {e : Nat} (hd : d.fit) (h : Ge d = (d', e)) : AS Tryz.prog 9 #[.pointer (some ⟨p, 0, none⟩)] [Ap p d] (fun _ : Unit => .int .i64 (e : Int)) (fun _ => [Ap p d']) := by
  unfold Ge at h
  obtain ⟨d1, e1, h1⟩ : ∃ d1 e1, Ba d = (d1, e1) := ⟨_, _, rfl⟩
  have h01 := GD d
  rw [h1] at h h01
  simp only at h h01
  rcases h01 with rfl | rfl
  · rw [if_pos (by decide)] at h
    cases h
    exact Uh h1
  · rw [if_neg (by decide)] at h
    cases h
    exact Ui hd h1
theorem Uj {p : Nat} {d : DiskD} {keep torn : Int} {k : Nat} (hd : d.fit) (hk : DD d keep = k) : AS Tryz.prog 23 #[.pointer (some ⟨p, 0, none⟩), .int .i64 keep, .int .i64 torn] [Ap p d] (fun (_ : Unit) => .int .i64 (k : Int)) (fun (_ : Unit) => [Ap p (DU d keep torn)]) := by
  refine A6 (args := [.pointer (some ⟨p, 0, none⟩), .int .i64 keep, .int .i64 torn]) 53 Tryz.func23 rfl rfl rfl ?_; intro w rs
  refine AY 0 rfl Jo (fun _ => rfl) ?_; rintro x
  refine Bo.fact 3 rfl Bx ?_; rintro hsn
  have hWl := J4 x
  have hw := hd.2
  have hkW : k ≤ x.W.length := by rw [hWl, ← hk]; exact KD d keep
  have hmod : keep % ((x.W.length : Int) + 1) = (k : Int) := by rw [← hk, hWl]; unfold DD; have := Int.emod_nonneg keep (show ((d.wait.length : Int) + 1) ≠ 0 by omega); omega
  have hoT : DF (x.W.take k) = d.wait.take k := by rw [← x.hW]; unfold DF; rw [List.map_take]
  have hok : Fe d.syn (DF (x.W.take k)) := by rw [hoT]; exact FH k x.hok
  have hsz0 := Jm d.wait k
  have hfs := hd.1
  have hsz : AE d.syn + ((DF (x.W.take k)).map OpD.size).sum ≤ 1099511627776 := by rw [hoT]; omega
  have hu1 : AE ((d.wait.take k).foldl AW d.syn) ≤ 1099511627776 := Nat.le_trans (ED _ hsn (FH k x.hok)) (by omega)
  refine Ad ?_
  refine Af Aj rfl ?_
  refine Ab (Ad ?_)
  refine Af Aj rfl ?_
  refine Ac rfl (.pointer (some ⟨p, 0, none⟩)) (fun b w hb hH => by exact BO rfl rfl hb) ?_
  refine Af Aj rfl ?_
  refine Ac rfl (x.pv) (fun b w hb hH => Bg rfl rfl (Bt BP rfl) (hH.row 0 rfl) hb) ?_
  refine Ac rfl (.int .i64 (x.W.length : Int)) (fun b w hb hH => C2 1 Tryz.underlying63 rfl rfl rfl hH hb) ?_
  refine Ac rfl (.int .i64 ((x.W.length : Int) + 1)) (fun b w hb hH => AK rfl rfl rfl rfl (IntWalk.i64_in _ (by omega)) hb) ?_
  refine Ai (post := fun _ => [cell p 67 #[.int .i64 d.room, .int .i64 (CV d.fuse), .bool d.down, x.pv, x.sm, x.sh], Ao 99 5 encO x.pv x.W, BF x.W, Av x.sm d.syn, OU d.down x.sh x.g]) rfl (BQ (Ah Tryz.func63 (by kernel_rfl) rfl) (fun w hH => KR w keep ((x.W.length : Int) + 1) (k : Int) (by omega) (by omega) hmod) rfl rfl rfl) ?_; rintro ⟨⟩
  refine Af Aj rfl ?_
  refine Ab (Ad ?_)
  refine Af Aj rfl ?_
  refine Ac rfl (.pointer (some ⟨p, 0, none⟩)) (fun b w hb hH => by exact BO rfl rfl hb) ?_
  refine Af Aj rfl ?_
  refine Ac rfl (x.pv) (fun b w hb hH => Bg rfl rfl (Bt BP rfl) (hH.row 0 rfl) hb) ?_
  refine Af Aj rfl ?_
  refine Ac rfl (Ci 5 x.pv k x.W.length) (fun b w hb hH => I8 1 (a := k) Ct rfl hkW rfl rfl rfl hH hb) ?_
  refine Af Aj rfl ?_
  refine Ab (Ad ?_)
  refine Af Aj rfl ?_
  refine Ai rfl (Am (os' := fun _ => [cell p 67 #[.int .i64 d.room, .int .i64 (CV d.fuse), .bool d.down, .slice none 0 0, x.sm, x.sh], Ao 99 5 encO x.pv x.W, BF x.W, Av x.sm ((d.wait.take k).foldl AW d.syn), OU d.down x.sh x.g]) [0, 1, 2, 3] 0 (Ah Tryz.func29 (by kernel_rfl) rfl) (Nx (k := k) (K := x.W.take k) hkW (by omega) rfl hok hsz (congrArg (List.foldl AW d.syn) hoT)) rfl rfl rfl (fun _ => rfl) rfl rfl rfl) ?_; rintro ⟨⟩
  refine Ab (Aq ?_)
  rcases Nat.lt_or_ge k x.W.length with hc | hc
  · skip
    obtain ⟨a, ha⟩ : ∃ a, x.W[k]? = some a := ⟨_, List.getElem?_eq_getElem hc⟩
    have ha0 : (x.W.drop k)[0]? = some a := by rw [List.getElem?_drop, Nat.add_zero]; exact ha
    have haW : a ∈ x.W := List.mem_of_getElem? ha
    have hao : d.wait[k]? = some a.o := by rw [← x.hW]; unfold DF; rw [List.getElem?_map, ha]; rfl
    have hsa : AE ((d.wait.take k).foldl AW d.syn) + a.o.size ≤ 1099511627776 := IM hsn x.hok hao hfs
    have hlf : Gf ((d.wait.take k).foldl AW d.syn) a.o torn = Do d keep torn := by rw [H6, hk, hao]
    have hul : AE (Do d keep torn) ≤ 1099511627776 := by rw [← hlf]; exact Nat.le_trans (Ug (FE _ hsn)) hsa
    refine Ad ?_
    refine Af Aj rfl ?_
    refine Ac rfl (.int .i64 ((x.W.drop k).length : Int)) (fun b w hb hH => AQ (hH.vecq 1 rfl P4 hkW (Nat.le_refl _) (m := x.W.drop k) (by simp)) Tryz.underlying63 rfl rfl hb) ?_
    refine Ac rfl (.bool true) (fun b w hb hH => Bh rfl rfl rfl (B2 (by rw [List.length_drop]; omega)) hb) ?_
    refine Ab (AD rfl ?_)
    refine BM 9 1 [⟨.quiet, [none], fun _ => .pointer (some ⟨p, 0, none⟩), []⟩, ⟨.quiet, [none], fun _ => .pointer (some ⟨p, 0, none⟩), [0]⟩, ⟨.quiet, [none], fun _ => .pointer (some ⟨p, 4, none⟩), [1]⟩, ⟨.quiet, [none], fun _ => x.sm, [2]⟩, ⟨.quiet, [none], fun _ => Ci 5 x.pv k x.W.length, []⟩, ⟨.quiet, [none], fun _ => Cc (Ci 5 x.pv k x.W.length) (0 * 5), [4]⟩, ⟨.quiet, [none], fun _ => .agg (encO a).toArray, [5]⟩, ⟨.quiet, [none], fun _ => .int .i64 torn, []⟩, ⟨.actv 0, [some false], fun _ => .tuple #[], [3, 6, 7]⟩] [(0, .pointer (some ⟨p, 0, none⟩)), (2, .int .i64 torn), (6, .int .i64 0), (7, .int .i64 (k : Int)), (8, Ci 5 x.pv k x.W.length)] (fun ρ => match ρ with | [r0] => [cell p 67 #[.int .i64 d.room, .int .i64 (CV d.fuse), .bool d.down, .slice none 0 0, x.sm, x.sh], Ao 99 5 encO x.pv x.W, BF x.W, CP r0 (fun _ => Av x.sm (Do d keep torn)) (Av x.sm ((d.wait.take k).foldl AW d.syn)), OU d.down x.sh x.g] | _ => []) (by kernel_rfl) (by kernel_rfl) ⟨rfl, rfl, rfl, rfl, rfl, trivial⟩ rfl ?_ ?_
    · skip
      refine Aa (by intro r0_; exact ⟨rfl, fun b w hH hb => Ae Aj rfl hb⟩) ?_
      refine Aa (by intro r0_; exact ⟨rfl, fun b w hH hb => by exact BO rfl rfl hb⟩) ?_
      refine Aa (by intro r0_; exact ⟨rfl, fun b w hH hb => Ae Aj rfl hb⟩) ?_
      refine Aa (by intro r0_; exact ⟨rfl, fun b w hH hb => Bg rfl rfl (Bt AJ rfl) (hH.row 0 rfl) hb⟩) ?_
      refine Aa (by intro r0_; exact ⟨rfl, fun b w hH hb => Ae Aj rfl hb⟩) ?_
      refine Aa (by intro r0_; exact ⟨rfl, fun b w hH hb => BA P4 (hH.vecq 1 rfl P4 hkW (Nat.le_refl _) (m := x.W.drop k) (by simp)) Ct (j := 0) ha0 rfl rfl rfl hb⟩) ?_
      refine Aa (by intro r0_; exact ⟨rfl, fun b w hH hb => Oj P4 (by decide) (hH.vecq 1 rfl P4 hkW (Nat.le_refl _) (m := x.W.drop k) (by simp)) (j := 0) ha0 Cd rfl rfl hb⟩) ?_
      refine Aa (by intro r0_; exact ⟨rfl, fun b w hH hb => Ae Aj rfl hb⟩) ?_
      refine Aa (by exact ⟨rfl, Br.su (Am (os' := fun _ => [cell p 67 #[.int .i64 d.room, .int .i64 (CV d.fuse), .bool d.down, .slice none 0 0, x.sm, x.sh], Ao 99 5 encO x.pv x.W, BF x.W, Av x.sm (Do d keep torn), OU d.down x.sh x.g]) [3, 2] 0 (Ah Tryz.func64 (by kernel_rfl) rfl) (SK (P5 haW) hsa hlf) rfl rfl rfl (fun _ => rfl) rfl rfl rfl) rfl⟩) ?_
      exact B7
    intro v0_
    refine Ch.keep (env' := [(0, .pointer (some ⟨p, 0, none⟩)), (6, .int .i64 0), (7, .int .i64 (k : Int))]) ⟨rfl, rfl, rfl, trivial⟩ ?_
    refine AP (AG (Ad ?_))
    refine Af Aj rfl ?_
    refine Ac rfl (.pointer (some ⟨p, 0, none⟩)) (fun b w hb hH => by exact BO rfl rfl hb) ?_
    refine Af Aj rfl ?_
    refine Ac rfl (x.sm) (fun b w hb hH => Bg rfl rfl (Bt AJ rfl) (hH.row 0 rfl) hb) ?_
    refine Ai rfl (Am (os' := fun (y : { q : Nat × FS // q.2.Perm (Do d keep torn) }) => [Av (.map (some y.1.1)) y.1.2, cell p 67 #[.int .i64 d.room, .int .i64 (CV d.fuse), .bool d.down, .slice none 0 0, x.sm, x.sh], Ao 99 5 encO x.pv x.W, BF x.W, Av x.sm (Do d keep torn), OU d.down x.sh x.g]) [3] 0 (Ah Tryz.func65 (by kernel_rfl) rfl) (Ny hul) rfl rfl rfl (fun _ => rfl) rfl rfl rfl) ?_; rintro y
    refine Ac rfl (.pointer (some ⟨p, 0, none⟩)) (fun b w hb hH => by exact BO rfl rfl hb) ?_
    refine Af Aj rfl ?_
    refine AT (post := fun _ => [Av (.map (some y.1.1)) y.1.2, cell p 67 #[.int .i64 d.room, .int .i64 (CV d.fuse), .bool d.down, .slice none 0 0, x.sm, .map (some y.1.1)], Ao 99 5 encO x.pv x.W, BF x.W, Av x.sm (Do d keep torn), OU d.down x.sh x.g]) rfl rfl (AM 1 (v := .map (some y.1.1)) #[.int .i64 d.room, .int .i64 (CV d.fuse), .bool d.down, .slice none 0 0, x.sm, .map (some y.1.1)] AJ.2 rfl rfl rfl rfl rfl rfl rfl rfl rfl) ?_; rintro ⟨⟩
    refine Ab (Ad ?_)
    refine Af Aj rfl ?_
    refine Ac rfl (.pointer (some ⟨p, 0, none⟩)) (fun b w hb hH => by exact BO rfl rfl hb) ?_
    refine Af Aj rfl ?_
    refine AT (post := fun _ => [Av (.map (some y.1.1)) y.1.2, cell p 67 #[.int .i64 d.room, .int .i64 (-1), .bool d.down, .slice none 0 0, x.sm, .map (some y.1.1)], Ao 99 5 encO x.pv x.W, BF x.W, Av x.sm (Do d keep torn), OU d.down x.sh x.g]) rfl rfl (AM 1 (v := .int .i64 (-1)) #[.int .i64 d.room, .int .i64 (-1), .bool d.down, .slice none 0 0, x.sm, .map (some y.1.1)] Bj.2 rfl rfl rfl rfl rfl rfl rfl rfl rfl) ?_; rintro ⟨⟩
    refine Ac rfl (.pointer (some ⟨p, 0, none⟩)) (fun b w hb hH => by exact BO rfl rfl hb) ?_
    refine Af Aj rfl ?_
    refine AT (post := fun _ => [Av (.map (some y.1.1)) y.1.2, cell p 67 #[.int .i64 d.room, .int .i64 (-1), .bool false, .slice none 0 0, x.sm, .map (some y.1.1)], Ao 99 5 encO x.pv x.W, BF x.W, Av x.sm (Do d keep torn), OU d.down x.sh x.g]) rfl rfl (AM 1 (v := .bool false) #[.int .i64 d.room, .int .i64 (-1), .bool false, .slice none 0 0, x.sm, .map (some y.1.1)] BN.2 rfl rfl rfl rfl rfl rfl rfl rfl rfl) ?_; rintro ⟨⟩
    refine Ab ?_
    refine Bo.leave [2, 3, 5] rfl rfl ?_
    refine BZ 99 5 encO ?_
    refine HF (t := BF ([])) (EB) ?_
    refine Ad ?_
    refine Af Aj rfl ?_
    refine Ab (Az ?_)
    exact Ay (.tmp rfl) (fun w h => AB () rfl [3, 1, 0, 4, 2] rfl h (FI (os := []) (d := DU d keep torn) ⟨.slice none 0 0, x.sm, .map (some y.1.1), [], y.1.2, rfl, (fun _ => y.2), IJ, (fun n h => by cases h), x.hr, KP hsn x.hk x.hok⟩ rfl)) rfl
  · skip
    have hlf : (d.wait.take k).foldl AW d.syn = Do d keep torn := by rw [H6, hk, List.getElem?_eq_none (by omega)]
    rw [hlf]
    have hul : AE (Do d keep torn) ≤ 1099511627776 := by rw [← hlf]; exact hu1
    refine Ad ?_
    refine Af Aj rfl ?_
    refine Ac rfl (.int .i64 ((x.W.drop k).length : Int)) (fun b w hb hH => AQ (hH.vecq 1 rfl P4 hkW (Nat.le_refl _) (m := x.W.drop k) (by simp)) Tryz.underlying63 rfl rfl hb) ?_
    refine Ac rfl (.bool false) (fun b w hb hH => Bh rfl rfl rfl (BC (by rw [List.length_drop]; omega)) hb) ?_
    refine Ab (Au rfl (Ax (AG (Ad ?_))))
    refine Af Aj rfl ?_
    refine Ac rfl (.pointer (some ⟨p, 0, none⟩)) (fun b w hb hH => by exact BO rfl rfl hb) ?_
    refine Af Aj rfl ?_
    refine Ac rfl (x.sm) (fun b w hb hH => Bg rfl rfl (Bt AJ rfl) (hH.row 0 rfl) hb) ?_
    refine Ai rfl (Am (os' := fun (y : { q : Nat × FS // q.2.Perm (Do d keep torn) }) => [Av (.map (some y.1.1)) y.1.2, cell p 67 #[.int .i64 d.room, .int .i64 (CV d.fuse), .bool d.down, .slice none 0 0, x.sm, x.sh], Ao 99 5 encO x.pv x.W, BF x.W, Av x.sm (Do d keep torn), OU d.down x.sh x.g]) [3] 0 (Ah Tryz.func65 (by kernel_rfl) rfl) (Ny hul) rfl rfl rfl (fun _ => rfl) rfl rfl rfl) ?_; rintro y
    refine Ac rfl (.pointer (some ⟨p, 0, none⟩)) (fun b w hb hH => by exact BO rfl rfl hb) ?_
    refine Af Aj rfl ?_
    refine AT (post := fun _ => [Av (.map (some y.1.1)) y.1.2, cell p 67 #[.int .i64 d.room, .int .i64 (CV d.fuse), .bool d.down, .slice none 0 0, x.sm, .map (some y.1.1)], Ao 99 5 encO x.pv x.W, BF x.W, Av x.sm (Do d keep torn), OU d.down x.sh x.g]) rfl rfl (AM 1 (v := .map (some y.1.1)) #[.int .i64 d.room, .int .i64 (CV d.fuse), .bool d.down, .slice none 0 0, x.sm, .map (some y.1.1)] AJ.2 rfl rfl rfl rfl rfl rfl rfl rfl rfl) ?_; rintro ⟨⟩
    refine Ab (Ad ?_)
    refine Af Aj rfl ?_
    refine Ac rfl (.pointer (some ⟨p, 0, none⟩)) (fun b w hb hH => by exact BO rfl rfl hb) ?_
    refine Af Aj rfl ?_
    refine AT (post := fun _ => [Av (.map (some y.1.1)) y.1.2, cell p 67 #[.int .i64 d.room, .int .i64 (-1), .bool d.down, .slice none 0 0, x.sm, .map (some y.1.1)], Ao 99 5 encO x.pv x.W, BF x.W, Av x.sm (Do d keep torn), OU d.down x.sh x.g]) rfl rfl (AM 1 (v := .int .i64 (-1)) #[.int .i64 d.room, .int .i64 (-1), .bool d.down, .slice none 0 0, x.sm, .map (some y.1.1)] Bj.2 rfl rfl rfl rfl rfl rfl rfl rfl rfl) ?_; rintro ⟨⟩
    refine Ac rfl (.pointer (some ⟨p, 0, none⟩)) (fun b w hb hH => by exact BO rfl rfl hb) ?_
    refine Af Aj rfl ?_
    refine AT (post := fun _ => [Av (.map (some y.1.1)) y.1.2, cell p 67 #[.int .i64 d.room, .int .i64 (-1), .bool false, .slice none 0 0, x.sm, .map (some y.1.1)], Ao 99 5 encO x.pv x.W, BF x.W, Av x.sm (Do d keep torn), OU d.down x.sh x.g]) rfl rfl (AM 1 (v := .bool false) #[.int .i64 d.room, .int .i64 (-1), .bool false, .slice none 0 0, x.sm, .map (some y.1.1)] BN.2 rfl rfl rfl rfl rfl rfl rfl rfl rfl) ?_; rintro ⟨⟩
    refine Ab ?_
    refine Bo.leave [2, 3, 5] rfl rfl ?_
    refine BZ 99 5 encO ?_
    refine HF (t := BF ([])) (EB) ?_
    refine Ad ?_
    refine Af Aj rfl ?_
    refine Ab (Az ?_)
    exact Ay (.tmp rfl) (fun w h => AB () rfl [3, 1, 0, 4, 2] rfl h (FI (os := []) (d := DU d keep torn) ⟨.slice none 0 0, x.sm, .map (some y.1.1), [], y.1.2, rfl, (fun _ => y.2), IJ, (fun n h => by cases h), x.hr, KP hsn x.hk x.hok⟩ rfl)) rfl
theorem O0 {p : Nat} {d d' : DiskD} {keep torn : Int} {k : Nat} (hd : d.fit) (h1 : -9223372036854775808 ≤ keep ∧ keep ≤ 9223372036854775807) (h2 : -9223372036854775808 ≤ torn ∧ torn ≤ 9223372036854775807) (hk : DD d keep = k) (h : DU d keep torn = d') : AS Tryz.prog 23 #[.pointer (some ⟨p, 0, none⟩), .int .i64 keep, .int .i64 torn] [Ap p d] (fun _ : Unit => .int .i64 (k : Int)) (fun _ => [Ap p d']) := by
 subst h
 exact Uj hd hk
end Go.Proofs.YtnknboibmifacaaGreat.Sep
