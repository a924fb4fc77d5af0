/-
  DskJ
-/
import Derived.Test.YtnknboibmifacaaGreatPD01
set_option linter.unusedSimpArgs false
set_option linter.unusedVariables false
set_option maxRecDepth 100000
namespace Go.Proofs.YtnknboibmifacaaGreat.Sep
open Go.RowKit
open Go.Proofs.YtnknboibmifacaaGreat.Mem (Bl Co Chg AG)
theorem UD {f : FS} {o : OpD} {torn : Int} (hn : (AL f).Nodup) : AK (F5 f o torn) ≤ AK f + o.size := by
  cases o with
  | app n b =>
    unfold F5
    simp only
    split
    · exact Nat.le_add_right _ _
    · rw [FF hn, List.length_take]; show _ ≤ AK f + b.length; omega
  | cut n s => exact Nat.le_add_right _ _
  | ren a b => exact Nat.le_add_right _ _
  | del n => exact Nat.le_add_right _ _
theorem Rz {p : Nat} {d d1 : DiskD} {n : List UInt8} (h : Bi d = (d1, 3)) : AU Tryz.prog 69 #[.pointer (some ⟨p, 0, none⟩), .string (bs n)] [Ao p d] (fun (_ : Unit) => .int .i64 3) (fun (_ : Unit) => [Ao p d1]) := by
 refine Bd (args := [.pointer (some ⟨p, 0, none⟩), .string (bs n)]) 19 Tryz.func69 rfl rfl rfl ?_; intro w rs
 refine Ad ?_
 refine Ae Ak rfl ?_
 refine Aa (Aq (Ad ?_))
 refine Ae Ak rfl ?_
 refine Aj rfl (Al (os' := fun _ => [Ao p d1]) [0] 0 (Ah Tryz.func28 (by kernel_rfl) rfl) (G0 h) rfl rfl rfl (fun _ => rfl) rfl rfl rfl) ?_; rintro ⟨⟩
 refine Ae Ak rfl ?_
 refine Aa (AC rfl (Ad ?_))
 refine Ae Ak rfl ?_
 refine Aa (Ay (CM ?_))
 exact Av (.tmp rfl) (fun w h => AB () rfl [0] rfl h Cl) rfl
theorem NS {p : Nat} {d d1 : DiskD} {n : List UInt8} (hfit : d.fit) (h : Bi d = (d1, 0)) (hg : AQ d1.now n = none) : AU Tryz.prog 69 #[.pointer (some ⟨p, 0, none⟩), .string (bs n)] [Ao p d] (fun (_ : Unit) => .int .i64 4) (fun (_ : Unit) => [Ao p d1]) := by
 have hd1 := (DE h).1
 have hfit1 := Dq h hfit
 refine Bd (args := [.pointer (some ⟨p, 0, none⟩), .string (bs n)]) 19 Tryz.func69 rfl rfl rfl ?_; intro w rs
 refine Ad ?_
 refine Ae Ak rfl ?_
 refine Aa (Aq (Ad ?_))
 refine Ae Ak rfl ?_
 refine Aj rfl (Al (os' := fun _ => [Ao p d1]) [0] 0 (Ah Tryz.func28 (by kernel_rfl) rfl) (Dp h) rfl rfl rfl (fun _ => rfl) rfl rfl rfl) ?_; rintro ⟨⟩
 refine Ae Ak rfl ?_
 refine Aa (Ar rfl (Ax (AE (Aq ?_))))
 refine AZ 0 rfl (Di hd1) (fun _ => rfl) ?_; rintro x
 refine Bv.fact 3 rfl BD ?_; rintro hsn
 refine Bv.fact 4 rfl BR ?_; rintro hgn
 have hgL : AQ x.L n = none := by rw [Gu x.hg hgn] at hg; simpa using hg
 refine Ad ?_
 refine Ae Ak rfl ?_
 refine Ab rfl (.pointer (some ⟨p, 0, none⟩)) (fun b w hb hH => by exact BA rfl rfl hb) ?_
 refine Ae Ak rfl ?_
 refine Ab rfl (x.sh) (fun b w hb hH => A6 rfl rfl (Bk AO rfl) (hH.row 0 rfl) hb) ?_
 refine Ae Ak rfl ?_
 refine Aj rfl (Al (os' := fun _ => [cell p 67 #[.int .i64 d1.room, .int .i64 (C9 d1.fuse), .bool false, x.pv, x.sm, x.sh], As 99 5 encO x.pv x.W, BL x.W, AA x.sm d1.syn, BH encKey AM x.sh x.L, Bx x.L]) [4] 0 (Ah Tryz.func57 (by kernel_rfl) rfl) (FH _ _ n _ hgL) rfl rfl rfl (fun _ => rfl) rfl rfl rfl) ?_; rintro ⟨⟩
 refine Ae Ak rfl ?_
 refine Aa (AC rfl (Ad ?_))
 refine Ae Ak rfl ?_
 refine Aa (Ay (CM ?_))
 exact Av (.tmp rfl) (fun w h => AB () rfl [0, 1, 2, 3, 4, 5] rfl h (C0 (os := []) x hd1)) rfl
theorem NT {p : Nat} {d d1 : DiskD} {n : List UInt8} {y : List UInt8} (hfit : d.fit) (h : Bi d = (d1, 0)) (hg : AQ d1.now n = some y) : AU Tryz.prog 69 #[.pointer (some ⟨p, 0, none⟩), .string (bs n)] [Ao p d] (fun (_ : Unit) => .int .i64 0) (fun (_ : Unit) => [Ao p (Cr d1 (.del n))]) := by
 have hd1 := (DE h).1
 have hfit1 := Dq h hfit
 refine Bd (args := [.pointer (some ⟨p, 0, none⟩), .string (bs n)]) 19 Tryz.func69 rfl rfl rfl ?_; intro w rs
 refine Ad ?_
 refine Ae Ak rfl ?_
 refine Aa (Aq (Ad ?_))
 refine Ae Ak rfl ?_
 refine Aj rfl (Al (os' := fun _ => [Ao p d1]) [0] 0 (Ah Tryz.func28 (by kernel_rfl) rfl) (Dp h) rfl rfl rfl (fun _ => rfl) rfl rfl rfl) ?_; rintro ⟨⟩
 refine Ae Ak rfl ?_
 refine Aa (Ar rfl (Ax (AE (Aq ?_))))
 refine AZ 0 rfl (Di hd1) (fun _ => rfl) ?_; rintro x
 refine Bv.fact 3 rfl BD ?_; rintro hsn
 refine Bv.fact 4 rfl BR ?_; rintro hgn
 obtain ⟨r, hgL, _⟩ : ∃ r, AQ x.L n = some r ∧ r.2 = y := by rw [Gu x.hg hgn] at hg; exact Option.map_eq_some_iff.1 hg
 refine Ad ?_
 refine Ae Ak rfl ?_
 refine Ab rfl (.pointer (some ⟨p, 0, none⟩)) (fun b w hb hH => by exact BA rfl rfl hb) ?_
 refine Ae Ak rfl ?_
 refine Ab rfl (x.sh) (fun b w hb hH => A6 rfl rfl (Bk AO rfl) (hH.row 0 rfl) hb) ?_
 refine Ae Ak rfl ?_
 refine Aj rfl (Al (os' := fun _ => [cell p 67 #[.int .i64 d1.room, .int .i64 (C9 d1.fuse), .bool false, x.pv, x.sm, x.sh], As 99 5 encO x.pv x.W, BL x.W, AA x.sm d1.syn, BH encKey AM x.sh x.L, Bx x.L]) [4] 0 (Ah Tryz.func57 (by kernel_rfl) rfl) (FH _ _ n _ hgL) rfl rfl rfl (fun _ => rfl) rfl rfl rfl) ?_; rintro ⟨⟩
 refine Ae Ak rfl ?_
 refine Aa (Ar rfl (Ax (AE ?_)))
 refine AX [0, 1, 2, 3, 4, 5] rfl (Hz x hd1) rfl ?_
 refine B4 5 1 encB ?_
 refine Ad ?_
 refine Ae Ak rfl ?_
 refine Ab rfl (.agg #[.int .i64 3, .string (bs n), .slice none 0 0, .int .i64 0, .string { data := #[] }]) (fun b w hb hH => Bg rfl rfl (by kernel_rfl) hb) ?_
 refine Aj rfl (Al (os' := fun _ => [D1, Ao p (Cr d1 (.del n))]) [1, 0] 0 (Ah Tryz.func58 (by kernel_rfl) rfl) (Lc (x := ⟨.del n, none, 0⟩) hd1 hfit1 trivial (Nat.zero_le _)) rfl rfl rfl (fun _ => rfl) rfl rfl rfl) ?_; rintro ⟨⟩
 refine Cg.leave [0] rfl rfl ?_
 refine Ae Ak rfl ?_
 refine Aa (Ay ?_)
 exact Av (.tmp rfl) (fun w h => AB () rfl [0] rfl h Cl) rfl
theorem NU {p : Nat} {d d' : DiskD} {n : List UInt8} {e : Nat} (hd : d.fit) (h : GH d n = (d', e)) : AU Tryz.prog 69 #[.pointer (some ⟨p, 0, none⟩), .string (bs n)] [Ao p d] (fun _ : Unit => .int .i64 (e : Int)) (fun _ => [Ao p d']) := by
  unfold GH at h
  obtain ⟨d1, e1, h1⟩ : ∃ d1 e1, Bi d = (d1, e1) := ⟨_, _, rfl⟩
  have h01 := G1 d
  rw [h1] at h h01
  simp only at h h01
  rcases h01 with rfl | rfl
  · rw [if_pos (by decide)] at h
    cases h
    exact Rz h1
  · rw [if_neg (by decide)] at h
    cases hg : AQ d1.now n with
    | none => rw [hg] at h; cases h; exact NS hd h1 hg
    | some y => rw [hg] at h; cases h; exact NT hd h1 hg
theorem UE {p : Nat} {d d1 : DiskD} (h : Bi d = (d1, 3)) : AU Tryz.prog 9 #[.pointer (some ⟨p, 0, none⟩)] [Ao p d] (fun (_ : Unit) => .int .i64 3) (fun (_ : Unit) => [Ao p d1]) := by
 refine Bd (args := [.pointer (some ⟨p, 0, none⟩)]) 13 Tryz.func9 rfl rfl rfl ?_; intro w rs
 refine Ad ?_
 refine Ae Ak rfl ?_
 refine Aa (Aq (Ad ?_))
 refine Ae Ak rfl ?_
 refine Aj rfl (Al (os' := fun _ => [Ao p d1]) [0] 0 (Ah Tryz.func28 (by kernel_rfl) rfl) (G0 h) rfl rfl rfl (fun _ => rfl) rfl rfl rfl) ?_; rintro ⟨⟩
 refine Ae Ak rfl ?_
 refine Aa (AC rfl (Ad ?_))
 refine Ae Ak rfl ?_
 refine Aa (Ay (CM ?_))
 exact Av (.tmp rfl) (fun w h => AB () rfl [0] rfl h Cl) rfl
theorem UF {p : Nat} {d d1 : DiskD} (hfit : d.fit) (h : Bi d = (d1, 0)) : AU Tryz.prog 9 #[.pointer (some ⟨p, 0, none⟩)] [Ao p d] (fun (_ : Unit) => .int .i64 0) (fun (_ : Unit) => [Ao p ({ d1 with syn := d1.now, wait := [] })]) := by
 have hd1 := (DE h).1
 have hfit1 := Dq h hfit
 refine Bd (args := [.pointer (some ⟨p, 0, none⟩)]) 13 Tryz.func9 rfl rfl rfl ?_; intro w rs
 refine Ad ?_
 refine Ae Ak rfl ?_
 refine Aa (Aq (Ad ?_))
 refine Ae Ak rfl ?_
 refine Aj rfl (Al (os' := fun _ => [Ao p d1]) [0] 0 (Ah Tryz.func28 (by kernel_rfl) rfl) (Dp h) rfl rfl rfl (fun _ => rfl) rfl rfl rfl) ?_; rintro ⟨⟩
 refine Ae Ak rfl ?_
 refine Aa (Ar rfl (Ax (AE ?_)))
 refine AZ 0 rfl (Hx hd1) (fun _ => rfl) ?_; rintro x
 refine Bv.fact 3 rfl BD ?_; rintro hsn
 have hWl := Kn x
 have hw := hfit1.2
 have hok : E4 d1.syn (DN x.W) := by rw [x.hW]; exact x.hok
 have hsz : AK d1.syn + ((DN x.W).map OpD.size).sum ≤ 1099511627776 := by rw [x.hW]; exact hfit1.1
 refine Ad ?_
 refine Ae Ak rfl ?_
 refine Ab rfl (.pointer (some ⟨p, 0, none⟩)) (fun b w hb hH => by exact BA rfl rfl hb) ?_
 refine Ae Ak rfl ?_
 refine Ab rfl (x.pv) (fun b w hb hH => A6 rfl rfl (Bk BV rfl) (hH.row 0 rfl) hb) ?_
 refine Ab rfl (.int .i64 (x.W.length : Int)) (fun b w hb hH => Cv 1 Tryz.underlying63 rfl rfl rfl hH hb) ?_
 refine Aj rfl (Al (os' := fun _ => [cell p 67 #[.int .i64 d1.room, .int .i64 (C9 d1.fuse), .bool false, .slice none 0 0, x.sm, x.sh], As 99 5 encO x.pv x.W, BL x.W, AA x.sm d1.now, AA x.sh x.g]) [0, 1, 2, 3] 0 (Ah Tryz.func29 (by kernel_rfl) rfl) (NO (k := x.W.length) (K := x.W) (Nat.le_refl _) (by omega) (List.take_of_length_le (Nat.le_refl _)) hok hsz (show (DN x.W).foldl AI d1.syn = d1.now by rw [x.hW]; rfl)) rfl rfl rfl (fun _ => rfl) rfl rfl rfl) ?_; rintro ⟨⟩
 refine Aa ?_
 refine Bv.leave [1, 2] rfl rfl ?_
 refine B4 99 5 encO ?_
 refine F2 (t := BL ([])) (EV) ?_
 refine Ad ?_
 refine Ae Ak rfl ?_
 refine Aa (Ay ?_)
 exact Av (.tmp rfl) (fun w h => AB () rfl [2, 1, 0, 3, 4] rfl h (F4 (os := []) (d := { d1 with syn := d1.now, wait := [] }) ⟨.slice none 0 0, x.sm, x.sh, [], x.g, rfl, (fun _ => x.hg hd1), I8, x.hf, x.hr, LZ hsn x.hk x.hok⟩ hd1)) rfl
theorem HC {p : Nat} {d d' : DiskD} {e : Nat} (hd : d.fit) (h : F1 d = (d', e)) : AU Tryz.prog 9 #[.pointer (some ⟨p, 0, none⟩)] [Ao p d] (fun _ : Unit => .int .i64 (e : Int)) (fun _ => [Ao p d']) := by
  unfold F1 at h
  obtain ⟨d1, e1, h1⟩ : ∃ d1 e1, Bi d = (d1, e1) := ⟨_, _, rfl⟩
  have h01 := G1 d
  rw [h1] at h h01
  simp only at h h01
  rcases h01 with rfl | rfl
  · rw [if_pos (by decide)] at h
    cases h
    exact UE h1
  · rw [if_neg (by decide)] at h
    cases h
    exact UF hd h1
theorem UG {p : Nat} {d : DiskD} {keep torn : Int} {k : Nat} (hd : d.fit) (hk : Cs d keep = k) : AU Tryz.prog 23 #[.pointer (some ⟨p, 0, none⟩), .int .i64 keep, .int .i64 torn] [Ao p d] (fun (_ : Unit) => .int .i64 (k : Int)) (fun (_ : Unit) => [Ao p (Cn d keep torn)]) := by
  refine Bd (args := [.pointer (some ⟨p, 0, none⟩), .int .i64 keep, .int .i64 torn]) 53 Tryz.func23 rfl rfl rfl ?_; intro w rs
  refine AZ 0 rfl F3 (fun _ => rfl) ?_; rintro x
  refine Bv.fact 3 rfl BD ?_; rintro hsn
  have hWl := Kn x
  have hw := hd.2
  have hkW : k ≤ x.W.length := by rw [hWl, ← hk]; exact I5 d keep
  have hmod : keep % ((x.W.length : Int) + 1) = (k : Int) := by rw [← hk, hWl]; unfold Cs; have := Int.emod_nonneg keep (show ((d.wait.length : Int) + 1) ≠ 0 by omega); omega
  have hoT : DN (x.W.take k) = d.wait.take k := by rw [← x.hW]; unfold DN; rw [List.map_take]
  have hok : E4 d.syn (DN (x.W.take k)) := by rw [hoT]; exact Fi k x.hok
  have hsz0 := Hw d.wait k
  have hfs := hd.1
  have hsz : AK d.syn + ((DN (x.W.take k)).map OpD.size).sum ≤ 1099511627776 := by rw [hoT]; omega
  have hu1 : AK ((d.wait.take k).foldl AI d.syn) ≤ 1099511627776 := Nat.le_trans (Ed _ hsn (Fi k x.hok)) (by omega)
  refine Ad ?_
  refine Ae Ak rfl ?_
  refine Aa (Ad ?_)
  refine Ae Ak rfl ?_
  refine Ab rfl (.pointer (some ⟨p, 0, none⟩)) (fun b w hb hH => by exact BA rfl rfl hb) ?_
  refine Ae Ak rfl ?_
  refine Ab rfl (x.pv) (fun b w hb hH => A6 rfl rfl (Bk BV rfl) (hH.row 0 rfl) hb) ?_
  refine Ab rfl (.int .i64 (x.W.length : Int)) (fun b w hb hH => Cv 1 Tryz.underlying63 rfl rfl rfl hH hb) ?_
  refine Ab rfl (.int .i64 ((x.W.length : Int) + 1)) (fun b w hb hH => AN rfl rfl rfl rfl (IntWalk.i64_in _ (by omega)) hb) ?_
  refine Aj (post := fun _ => [cell p 67 #[.int .i64 d.room, .int .i64 (C9 d.fuse), .bool d.down, x.pv, x.sm, x.sh], As 99 5 encO x.pv x.W, BL x.W, AA x.sm d.syn, NK d.down x.sh x.g]) rfl (By (Ah Tryz.func63 (by kernel_rfl) rfl) (fun w hH => La w keep ((x.W.length : Int) + 1) (k : Int) (by omega) (by omega) hmod) rfl rfl rfl) ?_; rintro ⟨⟩
  refine Ae Ak rfl ?_
  refine Aa (Ad ?_)
  refine Ae Ak rfl ?_
  refine Ab rfl (.pointer (some ⟨p, 0, none⟩)) (fun b w hb hH => by exact BA rfl rfl hb) ?_
  refine Ae Ak rfl ?_
  refine Ab rfl (x.pv) (fun b w hb hH => A6 rfl rfl (Bk BV rfl) (hH.row 0 rfl) hb) ?_
  refine Ae Ak rfl ?_
  refine Ab rfl (Cm 5 x.pv k x.W.length) (fun b w hb hH => Js 1 (a := k) CA rfl hkW rfl rfl rfl hH hb) ?_
  refine Ae Ak rfl ?_
  refine Aa (Ad ?_)
  refine Ae Ak rfl ?_
  refine Aj rfl (Al (os' := fun _ => [cell p 67 #[.int .i64 d.room, .int .i64 (C9 d.fuse), .bool d.down, .slice none 0 0, x.sm, x.sh], As 99 5 encO x.pv x.W, BL x.W, AA x.sm ((d.wait.take k).foldl AI d.syn), NK d.down x.sh x.g]) [0, 1, 2, 3] 0 (Ah Tryz.func29 (by kernel_rfl) rfl) (NO (k := k) (K := x.W.take k) hkW (by omega) rfl hok hsz (congrArg (List.foldl AI d.syn) hoT)) rfl rfl rfl (fun _ => rfl) rfl rfl rfl) ?_; rintro ⟨⟩
  refine Aa (Aq ?_)
  rcases Nat.lt_or_ge k x.W.length with hc | hc
  · skip
    obtain ⟨a, ha⟩ : ∃ a, x.W[k]? = some a := ⟨_, List.getElem?_eq_getElem hc⟩
    have ha0 : (x.W.drop k)[0]? = some a := by rw [List.getElem?_drop, Nat.add_zero]; exact ha
    have haW : a ∈ x.W := List.mem_of_getElem? ha
    have hao : d.wait[k]? = some a.o := by rw [← x.hW]; unfold DN; rw [List.getElem?_map, ha]; rfl
    have hsa : AK ((d.wait.take k).foldl AI d.syn) + a.o.size ≤ 1099511627776 := Ep hsn x.hok hao hfs
    have hlf : F5 ((d.wait.take k).foldl AI d.syn) a.o torn = CS d keep torn := by rw [Gv, hk, hao]
    have hul : AK (CS d keep torn) ≤ 1099511627776 := by rw [← hlf]; exact Nat.le_trans (UD (EJ _ hsn)) hsa
    refine Ad ?_
    refine Ae Ak rfl ?_
    refine Ab rfl (.int .i64 ((x.W.drop k).length : Int)) (fun b w hb hH => AT (hH.vecq 1 rfl Qk hkW (Nat.le_refl _) (m := x.W.drop k) (by simp)) Tryz.underlying63 rfl rfl hb) ?_
    refine Ab rfl (.bool true) (fun b w hb hH => AV rfl rfl rfl (BY (by rw [List.length_drop]; omega)) hb) ?_
    refine Aa (AC rfl ?_)
    refine BO 9 1 [⟨.quiet, [none], fun _ => .pointer (some ⟨p, 0, none⟩), []⟩, ⟨.quiet, [none], fun _ => .pointer (some ⟨p, 0, none⟩), [0]⟩, ⟨.quiet, [none], fun _ => .pointer (some ⟨p, 4, none⟩), [1]⟩, ⟨.quiet, [none], fun _ => x.sm, [2]⟩, ⟨.quiet, [none], fun _ => Cm 5 x.pv k x.W.length, []⟩, ⟨.quiet, [none], fun _ => BP (Cm 5 x.pv k x.W.length) (0 * 5), [4]⟩, ⟨.quiet, [none], fun _ => .agg (encO a).toArray, [5]⟩, ⟨.quiet, [none], fun _ => .int .i64 torn, []⟩, ⟨.actv 0, [some false], fun _ => .tuple #[], [3, 6, 7]⟩] [(0, .pointer (some ⟨p, 0, none⟩)), (2, .int .i64 torn), (6, .int .i64 0), (7, .int .i64 (k : Int)), (8, Cm 5 x.pv k x.W.length)] (fun ρ => match ρ with | [r0] => [cell p 67 #[.int .i64 d.room, .int .i64 (C9 d.fuse), .bool d.down, .slice none 0 0, x.sm, x.sh], As 99 5 encO x.pv x.W, BL x.W, CD r0 (fun _ => AA x.sm (CS d keep torn)) (AA x.sm ((d.wait.take k).foldl AI d.syn)), NK d.down x.sh x.g] | _ => []) (by kernel_rfl) (by kernel_rfl) ⟨rfl, rfl, rfl, rfl, rfl, trivial⟩ rfl ?_ ?_
    · skip
      refine Ac (by intro r0_; exact ⟨rfl, fun b w hH hb => Af Ak rfl hb⟩) ?_
      refine Ac (by intro r0_; exact ⟨rfl, fun b w hH hb => by exact BA rfl rfl hb⟩) ?_
      refine Ac (by intro r0_; exact ⟨rfl, fun b w hH hb => Af Ak rfl hb⟩) ?_
      refine Ac (by intro r0_; exact ⟨rfl, fun b w hH hb => A6 rfl rfl (Bk AO rfl) (hH.row 0 rfl) hb⟩) ?_
      refine Ac (by intro r0_; exact ⟨rfl, fun b w hH hb => Af Ak rfl hb⟩) ?_
      refine Ac (by intro r0_; exact ⟨rfl, fun b w hH hb => BF Qk (hH.vecq 1 rfl Qk hkW (Nat.le_refl _) (m := x.W.drop k) (by simp)) CA (j := 0) ha0 rfl rfl rfl hb⟩) ?_
      refine Ac (by intro r0_; exact ⟨rfl, fun b w hH hb => Ih Qk (by decide) (hH.vecq 1 rfl Qk hkW (Nat.le_refl _) (m := x.W.drop k) (by simp)) (j := 0) ha0 Cj rfl rfl hb⟩) ?_
      refine Ac (by intro r0_; exact ⟨rfl, fun b w hH hb => Af Ak rfl hb⟩) ?_
      refine Ac (by exact ⟨rfl, Bp.su (Al (os' := fun _ => [cell p 67 #[.int .i64 d.room, .int .i64 (C9 d.fuse), .bool d.down, .slice none 0 0, x.sm, x.sh], As 99 5 encO x.pv x.W, BL x.W, AA x.sm (CS d keep torn), NK d.down x.sh x.g]) [3, 2] 0 (Ah Tryz.func64 (by kernel_rfl) rfl) (SZ (Ql haW) hsa hlf) rfl rfl rfl (fun _ => rfl) rfl rfl rfl) rfl⟩) ?_
      exact B2
    intro v0_
    refine Cg.keep (env' := [(0, .pointer (some ⟨p, 0, none⟩)), (6, .int .i64 0), (7, .int .i64 (k : Int))]) ⟨rfl, rfl, rfl, trivial⟩ ?_
    refine AP (AE (Ad ?_))
    refine Ae Ak rfl ?_
    refine Ab rfl (.pointer (some ⟨p, 0, none⟩)) (fun b w hb hH => by exact BA rfl rfl hb) ?_
    refine Ae Ak rfl ?_
    refine Ab rfl (x.sm) (fun b w hb hH => A6 rfl rfl (Bk AO rfl) (hH.row 0 rfl) hb) ?_
    refine Aj rfl (Al (os' := fun (y : { q : Nat × FS // q.2.Perm (CS d keep torn) }) => [AA (.map (some y.1.1)) y.1.2, cell p 67 #[.int .i64 d.room, .int .i64 (C9 d.fuse), .bool d.down, .slice none 0 0, x.sm, x.sh], As 99 5 encO x.pv x.W, BL x.W, AA x.sm (CS d keep torn), NK d.down x.sh x.g]) [3] 0 (Ah Tryz.func65 (by kernel_rfl) rfl) (NP hul) rfl rfl rfl (fun _ => rfl) rfl rfl rfl) ?_; rintro y
    refine Ab rfl (.pointer (some ⟨p, 0, none⟩)) (fun b w hb hH => by exact BA rfl rfl hb) ?_
    refine Ae Ak rfl ?_
    refine AH (post := fun _ => [AA (.map (some y.1.1)) y.1.2, cell p 67 #[.int .i64 d.room, .int .i64 (C9 d.fuse), .bool d.down, .slice none 0 0, x.sm, .map (some y.1.1)], As 99 5 encO x.pv x.W, BL x.W, AA x.sm (CS d keep torn), NK d.down x.sh x.g]) rfl rfl (AD 1 (v := .map (some y.1.1)) #[.int .i64 d.room, .int .i64 (C9 d.fuse), .bool d.down, .slice none 0 0, x.sm, .map (some y.1.1)] AO.2 rfl rfl rfl rfl rfl rfl rfl rfl rfl) ?_; rintro ⟨⟩
    refine Aa (Ad ?_)
    refine Ae Ak rfl ?_
    refine Ab rfl (.pointer (some ⟨p, 0, none⟩)) (fun b w hb hH => by exact BA rfl rfl hb) ?_
    refine Ae Ak rfl ?_
    refine AH (post := fun _ => [AA (.map (some y.1.1)) y.1.2, cell p 67 #[.int .i64 d.room, .int .i64 (-1), .bool d.down, .slice none 0 0, x.sm, .map (some y.1.1)], As 99 5 encO x.pv x.W, BL x.W, AA x.sm (CS d keep torn), NK d.down x.sh x.g]) rfl rfl (AD 1 (v := .int .i64 (-1)) #[.int .i64 d.room, .int .i64 (-1), .bool d.down, .slice none 0 0, x.sm, .map (some y.1.1)] AR.2 rfl rfl rfl rfl rfl rfl rfl rfl rfl) ?_; rintro ⟨⟩
    refine Ab rfl (.pointer (some ⟨p, 0, none⟩)) (fun b w hb hH => by exact BA rfl rfl hb) ?_
    refine Ae Ak rfl ?_
    refine AH (post := fun _ => [AA (.map (some y.1.1)) y.1.2, cell p 67 #[.int .i64 d.room, .int .i64 (-1), .bool false, .slice none 0 0, x.sm, .map (some y.1.1)], As 99 5 encO x.pv x.W, BL x.W, AA x.sm (CS d keep torn), NK d.down x.sh x.g]) rfl rfl (AD 1 (v := .bool false) #[.int .i64 d.room, .int .i64 (-1), .bool false, .slice none 0 0, x.sm, .map (some y.1.1)] Bo.2 rfl rfl rfl rfl rfl rfl rfl rfl rfl) ?_; rintro ⟨⟩
    refine Aa ?_
    refine Bv.leave [2, 3, 5] rfl rfl ?_
    refine B4 99 5 encO ?_
    refine F2 (t := BL ([])) (EV) ?_
    refine Ad ?_
    refine Ae Ak rfl ?_
    refine Aa (Ay ?_)
    exact Av (.tmp rfl) (fun w h => AB () rfl [3, 1, 0, 4, 2] rfl h (F4 (os := []) (d := Cn d keep torn) ⟨.slice none 0 0, x.sm, .map (some y.1.1), [], y.1.2, rfl, (fun _ => y.2), I8, (fun n h => by cases h), x.hr, K7 hsn x.hk x.hok⟩ rfl)) rfl
  · skip
    have hlf : (d.wait.take k).foldl AI d.syn = CS d keep torn := by rw [Gv, hk, List.getElem?_eq_none (by omega)]
    rw [hlf]
    have hul : AK (CS d keep torn) ≤ 1099511627776 := by rw [← hlf]; exact hu1
    refine Ad ?_
    refine Ae Ak rfl ?_
    refine Ab rfl (.int .i64 ((x.W.drop k).length : Int)) (fun b w hb hH => AT (hH.vecq 1 rfl Qk hkW (Nat.le_refl _) (m := x.W.drop k) (by simp)) Tryz.underlying63 rfl rfl hb) ?_
    refine Ab rfl (.bool false) (fun b w hb hH => AV rfl rfl rfl (BE (by rw [List.length_drop]; omega)) hb) ?_
    refine Aa (Ar rfl (Ax (AE (Ad ?_))))
    refine Ae Ak rfl ?_
    refine Ab rfl (.pointer (some ⟨p, 0, none⟩)) (fun b w hb hH => by exact BA rfl rfl hb) ?_
    refine Ae Ak rfl ?_
    refine Ab rfl (x.sm) (fun b w hb hH => A6 rfl rfl (Bk AO rfl) (hH.row 0 rfl) hb) ?_
    refine Aj rfl (Al (os' := fun (y : { q : Nat × FS // q.2.Perm (CS d keep torn) }) => [AA (.map (some y.1.1)) y.1.2, cell p 67 #[.int .i64 d.room, .int .i64 (C9 d.fuse), .bool d.down, .slice none 0 0, x.sm, x.sh], As 99 5 encO x.pv x.W, BL x.W, AA x.sm (CS d keep torn), NK d.down x.sh x.g]) [3] 0 (Ah Tryz.func65 (by kernel_rfl) rfl) (NP hul) rfl rfl rfl (fun _ => rfl) rfl rfl rfl) ?_; rintro y
    refine Ab rfl (.pointer (some ⟨p, 0, none⟩)) (fun b w hb hH => by exact BA rfl rfl hb) ?_
    refine Ae Ak rfl ?_
    refine AH (post := fun _ => [AA (.map (some y.1.1)) y.1.2, cell p 67 #[.int .i64 d.room, .int .i64 (C9 d.fuse), .bool d.down, .slice none 0 0, x.sm, .map (some y.1.1)], As 99 5 encO x.pv x.W, BL x.W, AA x.sm (CS d keep torn), NK d.down x.sh x.g]) rfl rfl (AD 1 (v := .map (some y.1.1)) #[.int .i64 d.room, .int .i64 (C9 d.fuse), .bool d.down, .slice none 0 0, x.sm, .map (some y.1.1)] AO.2 rfl rfl rfl rfl rfl rfl rfl rfl rfl) ?_; rintro ⟨⟩
    refine Aa (Ad ?_)
    refine Ae Ak rfl ?_
    refine Ab rfl (.pointer (some ⟨p, 0, none⟩)) (fun b w hb hH => by exact BA rfl rfl hb) ?_
    refine Ae Ak rfl ?_
    refine AH (post := fun _ => [AA (.map (some y.1.1)) y.1.2, cell p 67 #[.int .i64 d.room, .int .i64 (-1), .bool d.down, .slice none 0 0, x.sm, .map (some y.1.1)], As 99 5 encO x.pv x.W, BL x.W, AA x.sm (CS d keep torn), NK d.down x.sh x.g]) rfl rfl (AD 1 (v := .int .i64 (-1)) #[.int .i64 d.room, .int .i64 (-1), .bool d.down, .slice none 0 0, x.sm, .map (some y.1.1)] AR.2 rfl rfl rfl rfl rfl rfl rfl rfl rfl) ?_; rintro ⟨⟩
    refine Ab rfl (.pointer (some ⟨p, 0, none⟩)) (fun b w hb hH => by exact BA rfl rfl hb) ?_
    refine Ae Ak rfl ?_
    refine AH (post := fun _ => [AA (.map (some y.1.1)) y.1.2, cell p 67 #[.int .i64 d.room, .int .i64 (-1), .bool false, .slice none 0 0, x.sm, .map (some y.1.1)], As 99 5 encO x.pv x.W, BL x.W, AA x.sm (CS d keep torn), NK d.down x.sh x.g]) rfl rfl (AD 1 (v := .bool false) #[.int .i64 d.room, .int .i64 (-1), .bool false, .slice none 0 0, x.sm, .map (some y.1.1)] Bo.2 rfl rfl rfl rfl rfl rfl rfl rfl rfl) ?_; rintro ⟨⟩
    refine Aa ?_
    refine Bv.leave [2, 3, 5] rfl rfl ?_
    refine B4 99 5 encO ?_
    refine F2 (t := BL ([])) (EV) ?_
    refine Ad ?_
    refine Ae Ak rfl ?_
    refine Aa (Ay ?_)
    exact Av (.tmp rfl) (fun w h => AB () rfl [3, 1, 0, 4, 2] rfl h (F4 (os := []) (d := Cn d keep torn) ⟨.slice none 0 0, x.sm, .map (some y.1.1), [], y.1.2, rfl, (fun _ => y.2), I8, (fun n h => by cases h), x.hr, K7 hsn x.hk x.hok⟩ rfl)) rfl
theorem Ld {p : Nat} {d d' : DiskD} {keep torn : Int} {k : Nat} (hd : d.fit) (h1 : -9223372036854775808 ≤ keep ∧ keep ≤ 9223372036854775807) (h2 : -9223372036854775808 ≤ torn ∧ torn ≤ 9223372036854775807) (hk : Cs d keep = k) (h : Cn d keep torn = d') : AU Tryz.prog 23 #[.pointer (some ⟨p, 0, none⟩), .int .i64 keep, .int .i64 torn] [Ao p d] (fun _ : Unit => .int .i64 (k : Int)) (fun _ => [Ao p d']) := by
 subst h
 exact UG hd hk
end Go.Proofs.YtnknboibmifacaaGreat.Sep
