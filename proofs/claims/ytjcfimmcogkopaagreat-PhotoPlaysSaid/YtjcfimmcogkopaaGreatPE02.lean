/-
  DskJ
-/
import Derived.Test.YtjcfimmcogkopaaGreatPD01
set_option linter.unusedSimpArgs false
set_option linter.unusedVariables false
set_option maxRecDepth 100000
namespace Go.Proofs.YtjcfimmcogkopaaGreat.Sep
open Go.RowKit
open Go.Proofs.YtjcfimmcogkopaaGreat.Mem (Bh Cs Chg AA)
theorem VN {f : FS} {o : OpD} {torn : Int} (hn : (AO f).Nodup) : AN (Gk f o torn) ≤ AN f + o.size := by
  cases o with
  | app n b =>
    unfold Gk
    simp only
    split
    · exact Nat.le_add_right _ _
    · rw [FX hn, List.length_take]; show _ ≤ AN f + b.length; omega
  | cut n s => exact Nat.le_add_right _ _
  | ren a b => exact Nat.le_add_right _ _
  | del n => exact Nat.le_add_right _ _
theorem Ss {p : Nat} {d d1 : DiskD} {n : List UInt8} (h : Bv d = (d1, 3)) : AX Tryz.prog 74 #[.pointer (some ⟨p, 0, none⟩), .string (bs n)] [Ao p d] (fun (_ : Unit) => .int .i64 3) (fun (_ : Unit) => [Ao p d1]) := by
 refine Bg (args := [.pointer (some ⟨p, 0, none⟩), .string (bs n)]) 19 Tryz.func74 rfl rfl rfl ?_; intro w rs
 refine Ad (Ae Am rfl (Ab (Av (Ad (Ae Am rfl (Aj rfl (Ak (os' := fun _ => [Ao p d1]) [0] 0 (Ai Tryz.func30 (by kernel_rfl) rfl) (Jo h) rfl rfl rfl (fun _ => rfl) rfl rfl rfl) ?_)))))); rintro ⟨⟩
 refine Ae Am rfl (Ab (AI rfl (Ad (Ae Am rfl (Ab (Ax (C4 ?_)))))))
 exact Aw (.tmp rfl) (fun w h => AH () rfl [0] rfl h CK) rfl
theorem Oy {p : Nat} {d d1 : DiskD} {n : List UInt8} (hfit : d.fit) (h : Bv d = (d1, 0)) (hg : AS d1.now n = none) : AX Tryz.prog 74 #[.pointer (some ⟨p, 0, none⟩), .string (bs n)] [Ao p d] (fun (_ : Unit) => .int .i64 4) (fun (_ : Unit) => [Ao p d1]) := by
 have hd1 := (E7 h).1
 have hfit1 := ER h hfit
 refine Bg (args := [.pointer (some ⟨p, 0, none⟩), .string (bs n)]) 19 Tryz.func74 rfl rfl rfl ?_; intro w rs
 refine Ad (Ae Am rfl (Ab (Av (Ad (Ae Am rfl (Aj rfl (Ak (os' := fun _ => [Ao p d1]) [0] 0 (Ai Tryz.func30 (by kernel_rfl) rfl) (Et h) rfl rfl rfl (fun _ => rfl) rfl rfl rfl) ?_)))))); rintro ⟨⟩
 refine Ae Am rfl (Ab (As rfl (AB (AL (Av (Be 0 rfl (D2 hd1) (fun _ => rfl) ?_)))))); rintro x
 refine BB.fact 3 rfl BR ?_; rintro hsn
 refine BB.fact 4 rfl Cl ?_; rintro hgn
 have hgL : AS x.L n = none := by rw [JW x.hg hgn] at hg; simpa using hg
 refine Ad (Ae Am rfl (Aa rfl (.pointer (some ⟨p, 0, none⟩)) (fun b w hb hH => by exact BD rfl rfl hb) (Ae Am rfl (Aa rfl (x.sh) (fun b w hb hH => Ba rfl rfl (Bm AY rfl) (hH.row 0 rfl) hb) (Ae Am rfl (Aj rfl (Ak (os' := fun _ => [cell p 70 #[.int .i64 d1.room, .int .i64 (Dn d1.fuse), .bool false, x.pv, x.sm, x.sh], Ar 103 5 encO x.pv x.W, BQ x.W, AC x.sm d1.syn, BK encKey AR x.sh x.L, BA x.L]) [4] 0 (Ai Tryz.func62 (by kernel_rfl) rfl) (Hs _ _ n _ hgL) rfl rfl rfl (fun _ => rfl) rfl rfl rfl) ?_)))))); rintro ⟨⟩
 refine Ae Am rfl (Ab (AI rfl (Ad (Ae Am rfl (Ab (Ax (C4 ?_)))))))
 exact Aw (.tmp rfl) (fun w h => AH () rfl [0, 1, 2, 3, 4, 5] rfl h (DT (os := []) x hd1)) rfl
theorem Oz {p : Nat} {d d1 : DiskD} {n : List UInt8} {y : List UInt8} (hfit : d.fit) (h : Bv d = (d1, 0)) (hg : AS d1.now n = some y) : AX Tryz.prog 74 #[.pointer (some ⟨p, 0, none⟩), .string (bs n)] [Ao p d] (fun (_ : Unit) => .int .i64 0) (fun (_ : Unit) => [Ao p (Cp d1 (.del n))]) := by
 have hd1 := (E7 h).1
 have hfit1 := ER h hfit
 refine Bg (args := [.pointer (some ⟨p, 0, none⟩), .string (bs n)]) 19 Tryz.func74 rfl rfl rfl ?_; intro w rs
 refine Ad (Ae Am rfl (Ab (Av (Ad (Ae Am rfl (Aj rfl (Ak (os' := fun _ => [Ao p d1]) [0] 0 (Ai Tryz.func30 (by kernel_rfl) rfl) (Et h) rfl rfl rfl (fun _ => rfl) rfl rfl rfl) ?_)))))); rintro ⟨⟩
 refine Ae Am rfl (Ab (As rfl (AB (AL (Av (Be 0 rfl (D2 hd1) (fun _ => rfl) ?_)))))); rintro x
 refine BB.fact 3 rfl BR ?_; rintro hsn
 refine BB.fact 4 rfl Cl ?_; rintro hgn
 obtain ⟨r, hgL, _⟩ : ∃ r, AS x.L n = some r ∧ r.2 = y := by rw [JW x.hg hgn] at hg; exact Option.map_eq_some_iff.1 hg
 refine Ad (Ae Am rfl (Aa rfl (.pointer (some ⟨p, 0, none⟩)) (fun b w hb hH => by exact BD rfl rfl hb) (Ae Am rfl (Aa rfl (x.sh) (fun b w hb hH => Ba rfl rfl (Bm AY rfl) (hH.row 0 rfl) hb) (Ae Am rfl (Aj rfl (Ak (os' := fun _ => [cell p 70 #[.int .i64 d1.room, .int .i64 (Dn d1.fuse), .bool false, x.pv, x.sm, x.sh], Ar 103 5 encO x.pv x.W, BQ x.W, AC x.sm d1.syn, BK encKey AR x.sh x.L, BA x.L]) [4] 0 (Ai Tryz.func62 (by kernel_rfl) rfl) (Hs _ _ n _ hgL) rfl rfl rfl (fun _ => rfl) rfl rfl rfl) ?_)))))); rintro ⟨⟩
 refine Ae Am rfl (Ab (As rfl (AB (AL (Bi [0, 1, 2, 3, 4, 5] rfl (Jn x hd1) rfl (B6 5 1 encB (Ad (Ae Am rfl (Aa rfl (.agg #[.int .i64 3, .string (bs n), .slice none 0 0, .int .i64 0, .string { data := #[] }]) (fun b w hb hH => Bn rfl rfl (by kernel_rfl) hb) (Aj rfl (Ak (os' := fun _ => [DN, Ao p (Cp d1 (.del n))]) [1, 0] 0 (Ai Tryz.func63 (by kernel_rfl) rfl) (Nk (x := ⟨.del n, none, 0⟩) hd1 hfit1 trivial (Nat.zero_le _)) rfl rfl rfl (fun _ => rfl) rfl rfl rfl) ?_)))))))))); rintro ⟨⟩
 refine Cf.leave [0] rfl rfl (Ae Am rfl (Ab (Ax ?_)))
 exact Aw (.tmp rfl) (fun w h => AH () rfl [0] rfl h CK) rfl
theorem OA {p : Nat} {d d' : DiskD} {n : List UInt8} {e : Nat} (hd : d.fit) (h : Fp d n = (d', e)) : AX Tryz.prog 74 #[.pointer (some ⟨p, 0, none⟩), .string (bs n)] [Ao p d] (fun _ : Unit => .int .i64 (e : Int)) (fun _ => [Ao p d']) := by
  unfold Fp at h
  obtain ⟨d1, e1, h1⟩ : ∃ d1 e1, Bv d = (d1, e1) := ⟨_, _, rfl⟩
  have h01 := Jp d
  rw [h1] at h h01
  simp only at h h01
  rcases h01 with rfl | rfl
  · rw [if_pos (by decide)] at h
    cases h
    exact Ss h1
  · rw [if_neg (by decide)] at h
    cases hg : AS d1.now n with
    | none => rw [hg] at h; cases h; exact Oy hd h1 hg
    | some y => rw [hg] at h; cases h; exact Oz hd h1 hg
theorem VO {p : Nat} {d d1 : DiskD} (h : Bv d = (d1, 3)) : AX Tryz.prog 9 #[.pointer (some ⟨p, 0, none⟩)] [Ao p d] (fun (_ : Unit) => .int .i64 3) (fun (_ : Unit) => [Ao p d1]) := by
 refine Bg (args := [.pointer (some ⟨p, 0, none⟩)]) 13 Tryz.func9 rfl rfl rfl ?_; intro w rs
 refine Ad (Ae Am rfl (Ab (Av (Ad (Ae Am rfl (Aj rfl (Ak (os' := fun _ => [Ao p d1]) [0] 0 (Ai Tryz.func30 (by kernel_rfl) rfl) (Jo h) rfl rfl rfl (fun _ => rfl) rfl rfl rfl) ?_)))))); rintro ⟨⟩
 refine Ae Am rfl (Ab (AI rfl (Ad (Ae Am rfl (Ab (Ax (C4 ?_)))))))
 exact Aw (.tmp rfl) (fun w h => AH () rfl [0] rfl h CK) rfl
theorem VP {p : Nat} {d d1 : DiskD} (hfit : d.fit) (h : Bv d = (d1, 0)) : AX Tryz.prog 9 #[.pointer (some ⟨p, 0, none⟩)] [Ao p d] (fun (_ : Unit) => .int .i64 0) (fun (_ : Unit) => [Ao p ({ d1 with syn := d1.now, wait := [] })]) := by
 have hd1 := (E7 h).1
 have hfit1 := ER h hfit
 refine Bg (args := [.pointer (some ⟨p, 0, none⟩)]) 13 Tryz.func9 rfl rfl rfl ?_; intro w rs
 refine Ad (Ae Am rfl (Ab (Av (Ad (Ae Am rfl (Aj rfl (Ak (os' := fun _ => [Ao p d1]) [0] 0 (Ai Tryz.func30 (by kernel_rfl) rfl) (Et h) rfl rfl rfl (fun _ => rfl) rfl rfl rfl) ?_)))))); rintro ⟨⟩
 refine Ae Am rfl (Ab (As rfl (AB (AL (Be 0 rfl (H6 hd1) (fun _ => rfl) ?_))))); rintro x
 refine BB.fact 3 rfl BR ?_; rintro hsn
 have hWl := KB x
 have hw := hfit1.2
 have hok : Fe d1.syn (DS x.W) := by rw [x.hW]; exact x.hok
 have hsz : AN d1.syn + ((DS x.W).map OpD.size).sum ≤ 1099511627776 := by rw [x.hW]; exact hfit1.1
 refine Ad (Ae Am rfl (Aa rfl (.pointer (some ⟨p, 0, none⟩)) (fun b w hb hH => by exact BD rfl rfl hb) (Ae Am rfl (Aa rfl (x.pv) (fun b w hb hH => Ba rfl rfl (Bm B2 rfl) (hH.row 0 rfl) hb) (Aa rfl (.int .i64 (x.W.length : Int)) (fun b w hb hH => Ds 1 Tryz.underlying66 rfl rfl rfl hH hb) (Aj rfl (Ak (os' := fun _ => [cell p 70 #[.int .i64 d1.room, .int .i64 (Dn d1.fuse), .bool false, .slice none 0 0, x.sm, x.sh], Ar 103 5 encO x.pv x.W, BQ x.W, AC x.sm d1.now, AC x.sh x.g]) [0, 1, 2, 3] 0 (Ai Tryz.func31 (by kernel_rfl) rfl) (Ot (k := x.W.length) (K := x.W) (Nat.le_refl _) (by omega) (List.take_of_length_le (Nat.le_refl _)) hok hsz (show (DS x.W).foldl AG d1.syn = d1.now by rw [x.hW]; rfl)) rfl rfl rfl (fun _ => rfl) rfl rfl rfl) ?_)))))); rintro ⟨⟩
 refine Ab (BB.leave [1, 2] rfl rfl (B6 103 5 encO (Gh (t := BQ ([])) (E4) (Ad (Ae Am rfl (Ab (Ax ?_)))))))
 exact Aw (.tmp rfl) (fun w h => AH () rfl [2, 1, 0, 3, 4] rfl h (Gj (os := []) (d := { d1 with syn := d1.now, wait := [] }) ⟨.slice none 0 0, x.sm, x.sh, [], x.g, rfl, (fun _ => x.hg hd1), Jk, x.hf, x.hr, Mp hsn x.hk x.hok⟩ hd1)) rfl
theorem Gm {p : Nat} {d d' : DiskD} {e : Nat} (hd : d.fit) (h : E5 d = (d', e)) : AX Tryz.prog 9 #[.pointer (some ⟨p, 0, none⟩)] [Ao p d] (fun _ : Unit => .int .i64 (e : Int)) (fun _ => [Ao p d']) := by
  unfold E5 at h
  obtain ⟨d1, e1, h1⟩ : ∃ d1 e1, Bv d = (d1, e1) := ⟨_, _, rfl⟩
  have h01 := Jp d
  rw [h1] at h h01
  simp only at h h01
  rcases h01 with rfl | rfl
  · rw [if_pos (by decide)] at h
    cases h
    exact VO h1
  · rw [if_neg (by decide)] at h
    cases h
    exact VP hd h1
theorem VQ {p : Nat} {d : DiskD} {keep torn : Int} {k : Nat} (hd : d.fit) (hk : Cw d keep = k) : AX Tryz.prog 25 #[.pointer (some ⟨p, 0, none⟩), .int .i64 keep, .int .i64 torn] [Ao p d] (fun (_ : Unit) => .int .i64 (k : Int)) (fun (_ : Unit) => [Ao p (Cg d keep torn)]) := by
  refine Bg (args := [.pointer (some ⟨p, 0, none⟩), .int .i64 keep, .int .i64 torn]) 53 Tryz.func25 rfl rfl rfl ?_; intro w rs
  refine Be 0 rfl Gi (fun _ => rfl) ?_; rintro x
  refine BB.fact 3 rfl BR ?_; rintro hsn
  have hWl := KB x
  have hw := hd.2
  have hkW : k ≤ x.W.length := by rw [hWl, ← hk]; exact Hd d keep
  have hmod : keep % ((x.W.length : Int) + 1) = (k : Int) := by rw [← hk, hWl]; unfold Cw; have := Int.emod_nonneg keep (show ((d.wait.length : Int) + 1) ≠ 0 by omega); omega
  have hoT : DS (x.W.take k) = d.wait.take k := by rw [← x.hW]; unfold DS; rw [List.map_take]
  have hok : Fe d.syn (DS (x.W.take k)) := by rw [hoT]; exact Fx k x.hok
  have hsz0 := H5 d.wait k
  have hfs := hd.1
  have hsz : AN d.syn + ((DS (x.W.take k)).map OpD.size).sum ≤ 1099511627776 := by rw [hoT]; omega
  have hu1 : AN ((d.wait.take k).foldl AG d.syn) ≤ 1099511627776 := Nat.le_trans (Ef _ hsn (Fx k x.hok)) (by omega)
  refine Ad (Ae Am rfl (Ab (Ad (Ae Am rfl (Aa rfl (.pointer (some ⟨p, 0, none⟩)) (fun b w hb hH => by exact BD rfl rfl hb) (Ae Am rfl (Aa rfl (x.pv) (fun b w hb hH => Ba rfl rfl (Bm B2 rfl) (hH.row 0 rfl) hb) (Aa rfl (.int .i64 (x.W.length : Int)) (fun b w hb hH => Ds 1 Tryz.underlying66 rfl rfl rfl hH hb) (Aa rfl (.int .i64 ((x.W.length : Int) + 1)) (fun b w hb hH => AQ rfl rfl rfl rfl (IntWalk.i64_in _ (by omega)) hb) (Aj (post := fun _ => [cell p 70 #[.int .i64 d.room, .int .i64 (Dn d.fuse), .bool d.down, x.pv, x.sm, x.sh], Ar 103 5 encO x.pv x.W, BQ x.W, AC x.sm d.syn, On d.down x.sh x.g]) rfl (AU (Ai Tryz.func68 (by kernel_rfl) rfl) (fun w hH => Lw w keep ((x.W.length : Int) + 1) (k : Int) (by omega) (by omega) hmod) rfl rfl rfl) ?_)))))))))); rintro ⟨⟩
  refine Ae Am rfl (Ab (Ad (Ae Am rfl (Aa rfl (.pointer (some ⟨p, 0, none⟩)) (fun b w hb hH => by exact BD rfl rfl hb) (Ae Am rfl (Aa rfl (x.pv) (fun b w hb hH => Ba rfl rfl (Bm B2 rfl) (hH.row 0 rfl) hb) (Ae Am rfl (Aa rfl (CB 5 x.pv k x.W.length) (fun b w hb hH => JF 1 (a := k) CN rfl hkW rfl rfl rfl hH hb) (Ae Am rfl (Ab (Ad ?_)))))))))))
  refine Ae Am rfl (Aj rfl (Ak (os' := fun _ => [cell p 70 #[.int .i64 d.room, .int .i64 (Dn d.fuse), .bool d.down, .slice none 0 0, x.sm, x.sh], Ar 103 5 encO x.pv x.W, BQ x.W, AC x.sm ((d.wait.take k).foldl AG d.syn), On d.down x.sh x.g]) [0, 1, 2, 3] 0 (Ai Tryz.func31 (by kernel_rfl) rfl) (Ot (k := k) (K := x.W.take k) hkW (by omega) rfl hok hsz (congrArg (List.foldl AG d.syn) hoT)) rfl rfl rfl (fun _ => rfl) rfl rfl rfl) ?_); rintro ⟨⟩
  refine Ab (Av ?_)
  rcases Nat.lt_or_ge k x.W.length with hc | hc
  obtain ⟨a, ha⟩ : ∃ a, x.W[k]? = some a := ⟨_, List.getElem?_eq_getElem hc⟩
  have ha0 : (x.W.drop k)[0]? = some a := by rw [List.getElem?_drop, Nat.add_zero]; exact ha
  have haW : a ∈ x.W := List.mem_of_getElem? ha
  have hao : d.wait[k]? = some a.o := by rw [← x.hW]; unfold DS; rw [List.getElem?_map, ha]; rfl
  have hsa : AN ((d.wait.take k).foldl AG d.syn) + a.o.size ≤ 1099511627776 := Es hsn x.hok hao hfs
  have hlf : Gk ((d.wait.take k).foldl AG d.syn) a.o torn = CJ d keep torn := by rw [GK, hk, hao]
  have hul : AN (CJ d keep torn) ≤ 1099511627776 := by rw [← hlf]; exact Nat.le_trans (VN (Ed _ hsn)) hsa
  refine Ad (Ae Am rfl (Aa rfl (.int .i64 ((x.W.drop k).length : Int)) (fun b w hb hH => Bf (hH.vecq 1 rfl Rb hkW (Nat.le_refl _) (m := x.W.drop k) (by simp)) Tryz.underlying66 rfl rfl hb) (Aa rfl (.bool true) (fun b w hb hH => AZ rfl rfl rfl (B0 (by rw [List.length_drop]; omega)) hb) (Ab (AI rfl ?_)))))
  refine BL 9 1 [⟨.quiet, [none], fun _ => .pointer (some ⟨p, 0, none⟩), []⟩, ⟨.quiet, [none], fun _ => .pointer (some ⟨p, 0, none⟩), [0]⟩, ⟨.quiet, [none], fun _ => .pointer (some ⟨p, 4, none⟩), [1]⟩, ⟨.quiet, [none], fun _ => x.sm, [2]⟩, ⟨.quiet, [none], fun _ => CB 5 x.pv k x.W.length, []⟩, ⟨.quiet, [none], fun _ => BN (CB 5 x.pv k x.W.length) (0 * 5), [4]⟩, ⟨.quiet, [none], fun _ => .agg (encO a).toArray, [5]⟩, ⟨.quiet, [none], fun _ => .int .i64 torn, []⟩, ⟨.actv 0, [some false], fun _ => .tuple #[], [3, 6, 7]⟩] [(0, .pointer (some ⟨p, 0, none⟩)), (2, .int .i64 torn), (6, .int .i64 0), (7, .int .i64 (k : Int)), (8, CB 5 x.pv k x.W.length)] (fun ρ => match ρ with | [r0] => [cell p 70 #[.int .i64 d.room, .int .i64 (Dn d.fuse), .bool d.down, .slice none 0 0, x.sm, x.sh], Ar 103 5 encO x.pv x.W, BQ x.W, Co r0 (fun _ => AC x.sm (CJ d keep torn)) (AC x.sm ((d.wait.take k).foldl AG d.syn)), On d.down x.sh x.g] | _ => []) (by kernel_rfl) (by kernel_rfl) ⟨rfl, rfl, rfl, rfl, rfl, trivial⟩ rfl ?_ ?_
  refine Ac (by intro r0_; exact ⟨rfl, fun b w hH hb => Af Am rfl hb⟩) (Ac (by intro r0_; exact ⟨rfl, fun b w hH hb => by exact BD rfl rfl hb⟩) (Ac (by intro r0_; exact ⟨rfl, fun b w hH hb => Af Am rfl hb⟩) (Ac (by intro r0_; exact ⟨rfl, fun b w hH hb => Ba rfl rfl (Bm AY rfl) (hH.row 0 rfl) hb⟩) (Ac (by intro r0_; exact ⟨rfl, fun b w hH hb => Af Am rfl hb⟩) (Ac (by intro r0_; exact ⟨rfl, fun b w hH hb => BH Rb (hH.vecq 1 rfl Rb hkW (Nat.le_refl _) (m := x.W.drop k) (by simp)) CN (j := 0) ha0 rfl rfl rfl hb⟩) (Ac (by intro r0_; exact ⟨rfl, fun b w hH hb => GC Rb (by decide) (hH.vecq 1 rfl Rb hkW (Nat.le_refl _) (m := x.W.drop k) (by simp)) (j := 0) ha0 Cy rfl rfl hb⟩) (Ac (by intro r0_; exact ⟨rfl, fun b w hH hb => Af Am rfl hb⟩) (Ac (by exact ⟨rfl, Bk.su (Ak (os' := fun _ => [cell p 70 #[.int .i64 d.room, .int .i64 (Dn d.fuse), .bool d.down, .slice none 0 0, x.sm, x.sh], Ar 103 5 encO x.pv x.W, BQ x.W, AC x.sm (CJ d keep torn), On d.down x.sh x.g]) [3, 2] 0 (Ai Tryz.func69 (by kernel_rfl) rfl) (T4 (Rc haW) hsa hlf) rfl rfl rfl (fun _ => rfl) rfl rfl rfl) rfl⟩) ?_))))))))
  exact B7
  intro v0_
  refine Cf.keep (env' := [(0, .pointer (some ⟨p, 0, none⟩)), (6, .int .i64 0), (7, .int .i64 (k : Int))]) ⟨rfl, rfl, rfl, trivial⟩ (AV (AL (Ad (Ae Am rfl (Aa rfl (.pointer (some ⟨p, 0, none⟩)) (fun b w hb hH => by exact BD rfl rfl hb) (Ae Am rfl (Aa rfl (x.sm) (fun b w hb hH => Ba rfl rfl (Bm AY rfl) (hH.row 0 rfl) hb) (Aj rfl (Ak (os' := fun (y : { q : Nat × FS // q.2.Perm (CJ d keep torn) }) => [AC (.map (some y.1.1)) y.1.2, cell p 70 #[.int .i64 d.room, .int .i64 (Dn d.fuse), .bool d.down, .slice none 0 0, x.sm, x.sh], Ar 103 5 encO x.pv x.W, BQ x.W, AC x.sm (CJ d keep torn), On d.down x.sh x.g]) [3] 0 (Ai Tryz.func70 (by kernel_rfl) rfl) (Ou hul) rfl rfl rfl (fun _ => rfl) rfl rfl rfl) ?_)))))))); rintro y
  refine Aa rfl (.pointer (some ⟨p, 0, none⟩)) (fun b w hb hH => by exact BD rfl rfl hb) (Ae Am rfl (AF (post := fun _ => [AC (.map (some y.1.1)) y.1.2, cell p 70 #[.int .i64 d.room, .int .i64 (Dn d.fuse), .bool d.down, .slice none 0 0, x.sm, .map (some y.1.1)], Ar 103 5 encO x.pv x.W, BQ x.W, AC x.sm (CJ d keep torn), On d.down x.sh x.g]) rfl rfl (AE 1 (v := .map (some y.1.1)) #[.int .i64 d.room, .int .i64 (Dn d.fuse), .bool d.down, .slice none 0 0, x.sm, .map (some y.1.1)] AY.2 rfl rfl rfl rfl rfl rfl rfl rfl rfl) ?_)); rintro ⟨⟩
  refine Ab (Ad (Ae Am rfl (Aa rfl (.pointer (some ⟨p, 0, none⟩)) (fun b w hb hH => by exact BD rfl rfl hb) (Ae Am rfl (AF (post := fun _ => [AC (.map (some y.1.1)) y.1.2, cell p 70 #[.int .i64 d.room, .int .i64 (-1), .bool d.down, .slice none 0 0, x.sm, .map (some y.1.1)], Ar 103 5 encO x.pv x.W, BQ x.W, AC x.sm (CJ d keep torn), On d.down x.sh x.g]) rfl rfl (AE 1 (v := .int .i64 (-1)) #[.int .i64 d.room, .int .i64 (-1), .bool d.down, .slice none 0 0, x.sm, .map (some y.1.1)] Bc.2 rfl rfl rfl rfl rfl rfl rfl rfl rfl) ?_))))); rintro ⟨⟩
  refine Aa rfl (.pointer (some ⟨p, 0, none⟩)) (fun b w hb hH => by exact BD rfl rfl hb) (Ae Am rfl (AF (post := fun _ => [AC (.map (some y.1.1)) y.1.2, cell p 70 #[.int .i64 d.room, .int .i64 (-1), .bool false, .slice none 0 0, x.sm, .map (some y.1.1)], Ar 103 5 encO x.pv x.W, BQ x.W, AC x.sm (CJ d keep torn), On d.down x.sh x.g]) rfl rfl (AE 1 (v := .bool false) #[.int .i64 d.room, .int .i64 (-1), .bool false, .slice none 0 0, x.sm, .map (some y.1.1)] Bt.2 rfl rfl rfl rfl rfl rfl rfl rfl rfl) ?_)); rintro ⟨⟩
  refine Ab (BB.leave [2, 3, 5] rfl rfl (B6 103 5 encO (Gh (t := BQ ([])) (E4) (Ad (Ae Am rfl (Ab (Ax ?_)))))))
  exact Aw (.tmp rfl) (fun w h => AH () rfl [3, 1, 0, 4, 2] rfl h (Gj (os := []) (d := Cg d keep torn) ⟨.slice none 0 0, x.sm, .map (some y.1.1), [], y.1.2, rfl, (fun _ => y.2), Jk, (fun n h => by cases h), x.hr, Lt hsn x.hk x.hok⟩ rfl)) rfl
  have hlf : (d.wait.take k).foldl AG d.syn = CJ d keep torn := by rw [GK, hk, List.getElem?_eq_none (by omega)]
  rw [hlf]
  have hul : AN (CJ d keep torn) ≤ 1099511627776 := by rw [← hlf]; exact hu1
  refine Ad (Ae Am rfl (Aa rfl (.int .i64 ((x.W.drop k).length : Int)) (fun b w hb hH => Bf (hH.vecq 1 rfl Rb hkW (Nat.le_refl _) (m := x.W.drop k) (by simp)) Tryz.underlying66 rfl rfl hb) (Aa rfl (.bool false) (fun b w hb hH => AZ rfl rfl rfl (BI (by rw [List.length_drop]; omega)) hb) (Ab (As rfl (AB (AL (Ad (Ae Am rfl (Aa rfl (.pointer (some ⟨p, 0, none⟩)) (fun b w hb hH => by exact BD rfl rfl hb) (Ae Am rfl (Aa rfl (x.sm) (fun b w hb hH => Ba rfl rfl (Bm AY rfl) (hH.row 0 rfl) hb) (Aj rfl (Ak (os' := fun (y : { q : Nat × FS // q.2.Perm (CJ d keep torn) }) => [AC (.map (some y.1.1)) y.1.2, cell p 70 #[.int .i64 d.room, .int .i64 (Dn d.fuse), .bool d.down, .slice none 0 0, x.sm, x.sh], Ar 103 5 encO x.pv x.W, BQ x.W, AC x.sm (CJ d keep torn), On d.down x.sh x.g]) [3] 0 (Ai Tryz.func70 (by kernel_rfl) rfl) (Ou hul) rfl rfl rfl (fun _ => rfl) rfl rfl rfl) ?_))))))))))))); rintro y
  refine Aa rfl (.pointer (some ⟨p, 0, none⟩)) (fun b w hb hH => by exact BD rfl rfl hb) (Ae Am rfl (AF (post := fun _ => [AC (.map (some y.1.1)) y.1.2, cell p 70 #[.int .i64 d.room, .int .i64 (Dn d.fuse), .bool d.down, .slice none 0 0, x.sm, .map (some y.1.1)], Ar 103 5 encO x.pv x.W, BQ x.W, AC x.sm (CJ d keep torn), On d.down x.sh x.g]) rfl rfl (AE 1 (v := .map (some y.1.1)) #[.int .i64 d.room, .int .i64 (Dn d.fuse), .bool d.down, .slice none 0 0, x.sm, .map (some y.1.1)] AY.2 rfl rfl rfl rfl rfl rfl rfl rfl rfl) ?_)); rintro ⟨⟩
  refine Ab (Ad (Ae Am rfl (Aa rfl (.pointer (some ⟨p, 0, none⟩)) (fun b w hb hH => by exact BD rfl rfl hb) (Ae Am rfl (AF (post := fun _ => [AC (.map (some y.1.1)) y.1.2, cell p 70 #[.int .i64 d.room, .int .i64 (-1), .bool d.down, .slice none 0 0, x.sm, .map (some y.1.1)], Ar 103 5 encO x.pv x.W, BQ x.W, AC x.sm (CJ d keep torn), On d.down x.sh x.g]) rfl rfl (AE 1 (v := .int .i64 (-1)) #[.int .i64 d.room, .int .i64 (-1), .bool d.down, .slice none 0 0, x.sm, .map (some y.1.1)] Bc.2 rfl rfl rfl rfl rfl rfl rfl rfl rfl) ?_))))); rintro ⟨⟩
  refine Aa rfl (.pointer (some ⟨p, 0, none⟩)) (fun b w hb hH => by exact BD rfl rfl hb) (Ae Am rfl (AF (post := fun _ => [AC (.map (some y.1.1)) y.1.2, cell p 70 #[.int .i64 d.room, .int .i64 (-1), .bool false, .slice none 0 0, x.sm, .map (some y.1.1)], Ar 103 5 encO x.pv x.W, BQ x.W, AC x.sm (CJ d keep torn), On d.down x.sh x.g]) rfl rfl (AE 1 (v := .bool false) #[.int .i64 d.room, .int .i64 (-1), .bool false, .slice none 0 0, x.sm, .map (some y.1.1)] Bt.2 rfl rfl rfl rfl rfl rfl rfl rfl rfl) ?_)); rintro ⟨⟩
  refine Ab (BB.leave [2, 3, 5] rfl rfl (B6 103 5 encO (Gh (t := BQ ([])) (E4) (Ad (Ae Am rfl (Ab (Ax ?_)))))))
  exact Aw (.tmp rfl) (fun w h => AH () rfl [3, 1, 0, 4, 2] rfl h (Gj (os := []) (d := Cg d keep torn) ⟨.slice none 0 0, x.sm, .map (some y.1.1), [], y.1.2, rfl, (fun _ => y.2), Jk, (fun n h => by cases h), x.hr, Lt hsn x.hk x.hok⟩ rfl)) rfl
theorem Ly {p : Nat} {d d' : DiskD} {keep torn : Int} {k : Nat} (hd : d.fit) (h1 : -9223372036854775808 ≤ keep ∧ keep ≤ 9223372036854775807) (h2 : -9223372036854775808 ≤ torn ∧ torn ≤ 9223372036854775807) (hk : Cw d keep = k) (h : Cg d keep torn = d') : AX Tryz.prog 25 #[.pointer (some ⟨p, 0, none⟩), .int .i64 keep, .int .i64 torn] [Ao p d] (fun _ : Unit => .int .i64 (k : Int)) (fun _ => [Ao p d']) := by
 subst h
 exact VQ hd hk
end Go.Proofs.YtjcfimmcogkopaaGreat.Sep
