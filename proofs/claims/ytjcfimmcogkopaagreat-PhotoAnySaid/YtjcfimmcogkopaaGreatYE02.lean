/-
  DskJ
-/
import Derived.Test.YtjcfimmcogkopaaGreatYD01
set_option linter.unusedSimpArgs false
set_option linter.unusedVariables false
set_option maxRecDepth 100000
namespace Go.Proofs.YtjcfimmcogkopaaGreat.Sep
open Go.RowKit
open Go.Proofs.YtjcfimmcogkopaaGreat.Mem (AZ Ci Chg Au)
theorem UT {f : FS} {o : OpD} {torn : Int} (hn : (AH f).Nodup) : AF (Gd f o torn) ≤ AF f + o.size := by
  cases o with
  | app n b =>
    unfold Gd
    simp only
    split
    · exact Nat.le_add_right _ _
    · rw [GA hn, List.length_take]; show _ ≤ AF f + b.length; omega
  | cut n s => exact Nat.le_add_right _ _
  | ren a b => exact Nat.le_add_right _ _
  | del n => exact Nat.le_add_right _ _
theorem RT {p : Nat} {d d1 : DiskD} {n : List UInt8} (h : Bj d = (d1, 3)) : AW Tryz.prog 74 #[.pointer (some ⟨p, 0, none⟩), .string (bs n)] [Ao p d] (fun (_ : Unit) => .int .i64 3) (fun (_ : Unit) => [Ao p d1]) := by
 refine Be (args := [.pointer (some ⟨p, 0, none⟩), .string (bs n)]) 19 Tryz.func74 rfl rfl rfl ?_; intro w rs
 refine Ad (Af Al rfl (Ab (Aq (Ad (Af Al rfl (Aj rfl (Am (os' := fun _ => [Ao p d1]) [0] 0 (Ag Tryz.func30 (by kernel_rfl) rfl) (IP h) rfl rfl rfl (fun _ => rfl) rfl rfl rfl) ?_)))))); rintro ⟨⟩
 refine Af Al rfl (Ab (AI rfl (Ad (Af Al rfl (Ab (Av (C0 ?_)))))))
 exact As (.tmp rfl) (fun w h => AG () rfl [0] rfl h CV) rfl
theorem N7 {p : Nat} {d d1 : DiskD} {n : List UInt8} (hfit : d.fit) (h : Bj d = (d1, 0)) (hg : AL d1.now n = none) : AW Tryz.prog 74 #[.pointer (some ⟨p, 0, none⟩), .string (bs n)] [Ao p d] (fun (_ : Unit) => .int .i64 4) (fun (_ : Unit) => [Ao p d1]) := by
 have hd1 := (EC h).1
 have hfit1 := Er h hfit
 refine Be (args := [.pointer (some ⟨p, 0, none⟩), .string (bs n)]) 19 Tryz.func74 rfl rfl rfl ?_; intro w rs
 refine Ad (Af Al rfl (Ab (Aq (Ad (Af Al rfl (Aj rfl (Am (os' := fun _ => [Ao p d1]) [0] 0 (Ag Tryz.func30 (by kernel_rfl) rfl) (Eb h) rfl rfl rfl (fun _ => rfl) rfl rfl rfl) ?_)))))); rintro ⟨⟩
 refine Af Al rfl (Ab (Aw rfl (AC (AO (Aq (Bd 0 rfl (DJ hd1) (fun _ => rfl) ?_)))))); rintro x
 refine Bv.fact 3 rfl BG ?_; rintro hsn
 refine Bv.fact 4 rfl Cb ?_; rintro hgn
 have hgL : AL x.L n = none := by rw [Jo x.hg hgn] at hg; simpa using hg
 refine Ad (Af Al rfl (Ac rfl (.pointer (some ⟨p, 0, none⟩)) (fun b w hb hH => by exact BQ rfl rfl hb) (Af Al rfl (Ac rfl (x.sh) (fun b w hb hH => Bb rfl rfl (Bn AT rfl) (hH.row 0 rfl) hb) (Af Al rfl (Aj rfl (Am (os' := fun _ => [cell p 70 #[.int .i64 d1.room, .int .i64 (C7 d1.fuse), .bool false, x.pv, x.sm, x.sh], Ap 103 5 encO x.pv x.W, BI x.W, Ax x.sm d1.syn, BB encKey AJ x.sh x.L, Bp x.L]) [4] 0 (Ag Tryz.func62 (by kernel_rfl) rfl) (GO _ _ n _ hgL) rfl rfl rfl (fun _ => rfl) rfl rfl rfl) ?_)))))); rintro ⟨⟩
 refine Af Al rfl (Ab (AI rfl (Ad (Af Al rfl (Ab (Av (C0 ?_)))))))
 exact As (.tmp rfl) (fun w h => AG () rfl [0, 1, 2, 3, 4, 5] rfl h (DB (os := []) x hd1)) rfl
theorem N8 {p : Nat} {d d1 : DiskD} {n : List UInt8} {y : List UInt8} (hfit : d.fit) (h : Bj d = (d1, 0)) (hg : AL d1.now n = some y) : AW Tryz.prog 74 #[.pointer (some ⟨p, 0, none⟩), .string (bs n)] [Ao p d] (fun (_ : Unit) => .int .i64 0) (fun (_ : Unit) => [Ao p (Cj d1 (.del n))]) := by
 have hd1 := (EC h).1
 have hfit1 := Er h hfit
 refine Be (args := [.pointer (some ⟨p, 0, none⟩), .string (bs n)]) 19 Tryz.func74 rfl rfl rfl ?_; intro w rs
 refine Ad (Af Al rfl (Ab (Aq (Ad (Af Al rfl (Aj rfl (Am (os' := fun _ => [Ao p d1]) [0] 0 (Ag Tryz.func30 (by kernel_rfl) rfl) (Eb h) rfl rfl rfl (fun _ => rfl) rfl rfl rfl) ?_)))))); rintro ⟨⟩
 refine Af Al rfl (Ab (Aw rfl (AC (AO (Aq (Bd 0 rfl (DJ hd1) (fun _ => rfl) ?_)))))); rintro x
 refine Bv.fact 3 rfl BG ?_; rintro hsn
 refine Bv.fact 4 rfl Cb ?_; rintro hgn
 obtain ⟨r, hgL, _⟩ : ∃ r, AL x.L n = some r ∧ r.2 = y := by rw [Jo x.hg hgn] at hg; exact Option.map_eq_some_iff.1 hg
 refine Ad (Af Al rfl (Ac rfl (.pointer (some ⟨p, 0, none⟩)) (fun b w hb hH => by exact BQ rfl rfl hb) (Af Al rfl (Ac rfl (x.sh) (fun b w hb hH => Bb rfl rfl (Bn AT rfl) (hH.row 0 rfl) hb) (Af Al rfl (Aj rfl (Am (os' := fun _ => [cell p 70 #[.int .i64 d1.room, .int .i64 (C7 d1.fuse), .bool false, x.pv, x.sm, x.sh], Ap 103 5 encO x.pv x.W, BI x.W, Ax x.sm d1.syn, BB encKey AJ x.sh x.L, Bp x.L]) [4] 0 (Ag Tryz.func62 (by kernel_rfl) rfl) (GO _ _ n _ hgL) rfl rfl rfl (fun _ => rfl) rfl rfl rfl) ?_)))))); rintro ⟨⟩
 refine Af Al rfl (Ab (Aw rfl (AC (AO (Bk [0, 1, 2, 3, 4, 5] rfl (IM x hd1) rfl (BY 5 1 encB (Ad (Af Al rfl (Ac rfl (.agg #[.int .i64 3, .string (bs n), .slice none 0 0, .int .i64 0, .string { data := #[] }]) (fun b w hb hH => Bh rfl rfl (by kernel_rfl) hb) (Aj rfl (Am (os' := fun _ => [EF, Ao p (Cj d1 (.del n))]) [1, 0] 0 (Ag Tryz.func63 (by kernel_rfl) rfl) (MQ (x := ⟨.del n, none, 0⟩) hd1 hfit1 trivial (Nat.zero_le _)) rfl rfl rfl (fun _ => rfl) rfl rfl rfl) ?_)))))))))); rintro ⟨⟩
 refine Ce.leave [0] rfl rfl (Af Al rfl (Ab (Av ?_)))
 exact As (.tmp rfl) (fun w h => AG () rfl [0] rfl h CV) rfl
theorem N9 {p : Nat} {d d' : DiskD} {n : List UInt8} {e : Nat} (hd : d.fit) (h : Fw d n = (d', e)) : AW Tryz.prog 74 #[.pointer (some ⟨p, 0, none⟩), .string (bs n)] [Ao p d] (fun _ : Unit => .int .i64 (e : Int)) (fun _ => [Ao p d']) := by
  unfold Fw at h
  obtain ⟨d1, e1, h1⟩ : ∃ d1 e1, Bj d = (d1, e1) := ⟨_, _, rfl⟩
  have h01 := IQ d
  rw [h1] at h h01
  simp only at h h01
  rcases h01 with rfl | rfl
  · rw [if_pos (by decide)] at h
    cases h
    exact RT h1
  · rw [if_neg (by decide)] at h
    cases hg : AL d1.now n with
    | none => rw [hg] at h; cases h; exact N7 hd h1 hg
    | some y => rw [hg] at h; cases h; exact N8 hd h1 hg
theorem UU {p : Nat} {d d1 : DiskD} (h : Bj d = (d1, 3)) : AW Tryz.prog 9 #[.pointer (some ⟨p, 0, none⟩)] [Ao p d] (fun (_ : Unit) => .int .i64 3) (fun (_ : Unit) => [Ao p d1]) := by
 refine Be (args := [.pointer (some ⟨p, 0, none⟩)]) 13 Tryz.func9 rfl rfl rfl ?_; intro w rs
 refine Ad (Af Al rfl (Ab (Aq (Ad (Af Al rfl (Aj rfl (Am (os' := fun _ => [Ao p d1]) [0] 0 (Ag Tryz.func30 (by kernel_rfl) rfl) (IP h) rfl rfl rfl (fun _ => rfl) rfl rfl rfl) ?_)))))); rintro ⟨⟩
 refine Af Al rfl (Ab (AI rfl (Ad (Af Al rfl (Ab (Av (C0 ?_)))))))
 exact As (.tmp rfl) (fun w h => AG () rfl [0] rfl h CV) rfl
theorem UV {p : Nat} {d d1 : DiskD} (hfit : d.fit) (h : Bj d = (d1, 0)) : AW Tryz.prog 9 #[.pointer (some ⟨p, 0, none⟩)] [Ao p d] (fun (_ : Unit) => .int .i64 0) (fun (_ : Unit) => [Ao p ({ d1 with syn := d1.now, wait := [] })]) := by
 have hd1 := (EC h).1
 have hfit1 := Er h hfit
 refine Be (args := [.pointer (some ⟨p, 0, none⟩)]) 13 Tryz.func9 rfl rfl rfl ?_; intro w rs
 refine Ad (Af Al rfl (Ab (Aq (Ad (Af Al rfl (Aj rfl (Am (os' := fun _ => [Ao p d1]) [0] 0 (Ag Tryz.func30 (by kernel_rfl) rfl) (Eb h) rfl rfl rfl (fun _ => rfl) rfl rfl rfl) ?_)))))); rintro ⟨⟩
 refine Af Al rfl (Ab (Aw rfl (AC (AO (Bd 0 rfl (Hc hd1) (fun _ => rfl) ?_))))); rintro x
 refine Bv.fact 3 rfl BG ?_; rintro hsn
 have hWl := J6 x
 have hw := hfit1.2
 have hok : Fe d1.syn (DE x.W) := by rw [x.hW]; exact x.hok
 have hsz : AF d1.syn + ((DE x.W).map OpD.size).sum ≤ 1099511627776 := by rw [x.hW]; exact hfit1.1
 refine Ad (Af Al rfl (Ac rfl (.pointer (some ⟨p, 0, none⟩)) (fun b w hb hH => by exact BQ rfl rfl hb) (Af Al rfl (Ac rfl (x.pv) (fun b w hb hH => Bb rfl rfl (Bn BU rfl) (hH.row 0 rfl) hb) (Ac rfl (.int .i64 (x.W.length : Int)) (fun b w hb hH => EI 1 Tryz.underlying66 rfl rfl rfl hH hb) (Aj rfl (Am (os' := fun _ => [cell p 70 #[.int .i64 d1.room, .int .i64 (C7 d1.fuse), .bool false, .slice none 0 0, x.sm, x.sh], Ap 103 5 encO x.pv x.W, BI x.W, Ax x.sm d1.now, Ax x.sh x.g]) [0, 1, 2, 3] 0 (Ag Tryz.func31 (by kernel_rfl) rfl) (N2 (k := x.W.length) (K := x.W) (Nat.le_refl _) (by omega) (List.take_of_length_le (Nat.le_refl _)) hok hsz (show (DE x.W).foldl AP d1.syn = d1.now by rw [x.hW]; rfl)) rfl rfl rfl (fun _ => rfl) rfl rfl rfl) ?_)))))); rintro ⟨⟩
 refine Ab (Bv.leave [1, 2] rfl rfl (BY 103 5 encO (Hy (t := BI ([])) (Ey) (Ad (Af Al rfl (Ab (Av ?_)))))))
 exact As (.tmp rfl) (fun w h => AG () rfl [2, 1, 0, 3, 4] rfl h (FI (os := []) (d := { d1 with syn := d1.now, wait := [] }) ⟨.slice none 0 0, x.sm, x.sh, [], x.g, rfl, (fun _ => x.hg hd1), IJ, x.hf, x.hr, LM hsn x.hk x.hok⟩ hd1)) rfl
theorem Jp {p : Nat} {d d' : DiskD} {e : Nat} (hd : d.fit) (h : Fa d = (d', e)) : AW Tryz.prog 9 #[.pointer (some ⟨p, 0, none⟩)] [Ao p d] (fun _ : Unit => .int .i64 (e : Int)) (fun _ => [Ao p d']) := by
  unfold Fa at h
  obtain ⟨d1, e1, h1⟩ : ∃ d1 e1, Bj d = (d1, e1) := ⟨_, _, rfl⟩
  have h01 := IQ d
  rw [h1] at h h01
  simp only at h h01
  rcases h01 with rfl | rfl
  · rw [if_pos (by decide)] at h
    cases h
    exact UU h1
  · rw [if_neg (by decide)] at h
    cases h
    exact UV hd h1
theorem UW {p : Nat} {d : DiskD} {keep torn : Int} {k : Nat} (hd : d.fit) (hk : Df d keep = k) : AW Tryz.prog 25 #[.pointer (some ⟨p, 0, none⟩), .int .i64 keep, .int .i64 torn] [Ao p d] (fun (_ : Unit) => .int .i64 (k : Int)) (fun (_ : Unit) => [Ao p (C4 d keep torn)]) := by
  refine Be (args := [.pointer (some ⟨p, 0, none⟩), .int .i64 keep, .int .i64 torn]) 53 Tryz.func25 rfl rfl rfl ?_; intro w rs
  refine Bd 0 rfl Jn (fun _ => rfl) ?_; rintro x
  refine Bv.fact 3 rfl BG ?_; rintro hsn
  have hWl := J6 x
  have hw := hd.2
  have hkW : k ≤ x.W.length := by rw [hWl, ← hk]; exact IF d keep
  have hmod : keep % ((x.W.length : Int) + 1) = (k : Int) := by rw [← hk, hWl]; unfold Df; have := Int.emod_nonneg keep (show ((d.wait.length : Int) + 1) ≠ 0 by omega); omega
  have hoT : DE (x.W.take k) = d.wait.take k := by rw [← x.hW]; unfold DE; rw [List.map_take]
  have hok : Fe d.syn (DE (x.W.take k)) := by rw [hoT]; exact FH k x.hok
  have hsz0 := Jl d.wait k
  have hfs := hd.1
  have hsz : AF d.syn + ((DE (x.W.take k)).map OpD.size).sum ≤ 1099511627776 := by rw [hoT]; omega
  have hu1 : AF ((d.wait.take k).foldl AP d.syn) ≤ 1099511627776 := Nat.le_trans (EB _ hsn (FH k x.hok)) (by omega)
  refine Ad (Af Al rfl (Ab (Ad (Af Al rfl (Ac rfl (.pointer (some ⟨p, 0, none⟩)) (fun b w hb hH => by exact BQ rfl rfl hb) (Af Al rfl (Ac rfl (x.pv) (fun b w hb hH => Bb rfl rfl (Bn BU rfl) (hH.row 0 rfl) hb) (Ac rfl (.int .i64 (x.W.length : Int)) (fun b w hb hH => EI 1 Tryz.underlying66 rfl rfl rfl hH hb) (Ac rfl (.int .i64 ((x.W.length : Int) + 1)) (fun b w hb hH => AS rfl rfl rfl rfl (IntWalk.i64_in _ (by omega)) hb) (Aj (post := fun _ => [cell p 70 #[.int .i64 d.room, .int .i64 (C7 d.fuse), .bool d.down, x.pv, x.sm, x.sh], Ap 103 5 encO x.pv x.W, BI x.W, Ax x.sm d.syn, Po d.down x.sh x.g]) rfl (Bg (Ag Tryz.func68 (by kernel_rfl) rfl) (fun w hH => KT w keep ((x.W.length : Int) + 1) (k : Int) (by omega) (by omega) hmod) rfl rfl rfl) ?_)))))))))); rintro ⟨⟩
  refine Af Al rfl (Ab (Ad (Af Al rfl (Ac rfl (.pointer (some ⟨p, 0, none⟩)) (fun b w hb hH => by exact BQ rfl rfl hb) (Af Al rfl (Ac rfl (x.pv) (fun b w hb hH => Bb rfl rfl (Bn BU rfl) (hH.row 0 rfl) hb) (Af Al rfl (Ac rfl (Cp 5 x.pv k x.W.length) (fun b w hb hH => I7 1 (a := k) Cx rfl hkW rfl rfl rfl hH hb) (Af Al rfl (Ab (Ad ?_)))))))))))
  refine Af Al rfl (Aj rfl (Am (os' := fun _ => [cell p 70 #[.int .i64 d.room, .int .i64 (C7 d.fuse), .bool d.down, .slice none 0 0, x.sm, x.sh], Ap 103 5 encO x.pv x.W, BI x.W, Ax x.sm ((d.wait.take k).foldl AP d.syn), Po d.down x.sh x.g]) [0, 1, 2, 3] 0 (Ag Tryz.func31 (by kernel_rfl) rfl) (N2 (k := k) (K := x.W.take k) hkW (by omega) rfl hok hsz (congrArg (List.foldl AP d.syn) hoT)) rfl rfl rfl (fun _ => rfl) rfl rfl rfl) ?_); rintro ⟨⟩
  refine Ab (Aq ?_)
  rcases Nat.lt_or_ge k x.W.length with hc | hc
  obtain ⟨a, ha⟩ : ∃ a, x.W[k]? = some a := ⟨_, List.getElem?_eq_getElem hc⟩
  have ha0 : (x.W.drop k)[0]? = some a := by rw [List.getElem?_drop, Nat.add_zero]; exact ha
  have haW : a ∈ x.W := List.mem_of_getElem? ha
  have hao : d.wait[k]? = some a.o := by rw [← x.hW]; unfold DE; rw [List.getElem?_map, ha]; rfl
  have hsa : AF ((d.wait.take k).foldl AP d.syn) + a.o.size ≤ 1099511627776 := IN hsn x.hok hao hfs
  have hlf : Gd ((d.wait.take k).foldl AP d.syn) a.o torn = C3 d keep torn := by rw [H4, hk, hao]
  have hul : AF (C3 d keep torn) ≤ 1099511627776 := by rw [← hlf]; exact Nat.le_trans (UT (E0 _ hsn)) hsa
  refine Ad (Af Al rfl (Ac rfl (.int .i64 ((x.W.drop k).length : Int)) (fun b w hb hH => AY (hH.vecq 1 rfl QM hkW (Nat.le_refl _) (m := x.W.drop k) (by simp)) Tryz.underlying66 rfl rfl hb) (Ac rfl (.bool true) (fun b w hb hH => Bc rfl rfl rfl (B4 (by rw [List.length_drop]; omega)) hb) (Ab (AI rfl ?_)))))
  refine BK 9 1 [⟨.quiet, [none], fun _ => .pointer (some ⟨p, 0, none⟩), []⟩, ⟨.quiet, [none], fun _ => .pointer (some ⟨p, 0, none⟩), [0]⟩, ⟨.quiet, [none], fun _ => .pointer (some ⟨p, 4, none⟩), [1]⟩, ⟨.quiet, [none], fun _ => x.sm, [2]⟩, ⟨.quiet, [none], fun _ => Cp 5 x.pv k x.W.length, []⟩, ⟨.quiet, [none], fun _ => Cs (Cp 5 x.pv k x.W.length) (0 * 5), [4]⟩, ⟨.quiet, [none], fun _ => .agg (encO a).toArray, [5]⟩, ⟨.quiet, [none], fun _ => .int .i64 torn, []⟩, ⟨.actv 0, [some false], fun _ => .tuple #[], [3, 6, 7]⟩] [(0, .pointer (some ⟨p, 0, none⟩)), (2, .int .i64 torn), (6, .int .i64 0), (7, .int .i64 (k : Int)), (8, Cp 5 x.pv k x.W.length)] (fun ρ => match ρ with | [r0] => [cell p 70 #[.int .i64 d.room, .int .i64 (C7 d.fuse), .bool d.down, .slice none 0 0, x.sm, x.sh], Ap 103 5 encO x.pv x.W, BI x.W, CJ r0 (fun _ => Ax x.sm (C3 d keep torn)) (Ax x.sm ((d.wait.take k).foldl AP d.syn)), Po d.down x.sh x.g] | _ => []) (by kernel_rfl) (by kernel_rfl) ⟨rfl, rfl, rfl, rfl, rfl, trivial⟩ rfl ?_ ?_
  refine Aa (by intro r0_; exact ⟨rfl, fun b w hH hb => Ae Al rfl hb⟩) (Aa (by intro r0_; exact ⟨rfl, fun b w hH hb => by exact BQ rfl rfl hb⟩) (Aa (by intro r0_; exact ⟨rfl, fun b w hH hb => Ae Al rfl hb⟩) (Aa (by intro r0_; exact ⟨rfl, fun b w hH hb => Bb rfl rfl (Bn AT rfl) (hH.row 0 rfl) hb⟩) (Aa (by intro r0_; exact ⟨rfl, fun b w hH hb => Ae Al rfl hb⟩) (Aa (by intro r0_; exact ⟨rfl, fun b w hH hb => BH QM (hH.vecq 1 rfl QM hkW (Nat.le_refl _) (m := x.W.drop k) (by simp)) Cx (j := 0) ha0 rfl rfl rfl hb⟩) (Aa (by intro r0_; exact ⟨rfl, fun b w hH hb => OR QM (by decide) (hH.vecq 1 rfl QM hkW (Nat.le_refl _) (m := x.W.drop k) (by simp)) (j := 0) ha0 Cm rfl rfl hb⟩) (Aa (by intro r0_; exact ⟨rfl, fun b w hH hb => Ae Al rfl hb⟩) (Aa (by exact ⟨rfl, Bq.su (Am (os' := fun _ => [cell p 70 #[.int .i64 d.room, .int .i64 (C7 d.fuse), .bool d.down, .slice none 0 0, x.sm, x.sh], Ap 103 5 encO x.pv x.W, BI x.W, Ax x.sm (C3 d keep torn), Po d.down x.sh x.g]) [3, 2] 0 (Ag Tryz.func69 (by kernel_rfl) rfl) (Tn (QN haW) hsa hlf) rfl rfl rfl (fun _ => rfl) rfl rfl rfl) rfl⟩) ?_))))))))
  exact Cf
  intro v0_
  refine Ce.keep (env' := [(0, .pointer (some ⟨p, 0, none⟩)), (6, .int .i64 0), (7, .int .i64 (k : Int))]) ⟨rfl, rfl, rfl, trivial⟩ (Bi (AO (Ad (Af Al rfl (Ac rfl (.pointer (some ⟨p, 0, none⟩)) (fun b w hb hH => by exact BQ rfl rfl hb) (Af Al rfl (Ac rfl (x.sm) (fun b w hb hH => Bb rfl rfl (Bn AT rfl) (hH.row 0 rfl) hb) (Aj rfl (Am (os' := fun (y : { q : Nat × FS // q.2.Perm (C3 d keep torn) }) => [Ax (.map (some y.1.1)) y.1.2, cell p 70 #[.int .i64 d.room, .int .i64 (C7 d.fuse), .bool d.down, .slice none 0 0, x.sm, x.sh], Ap 103 5 encO x.pv x.W, BI x.W, Ax x.sm (C3 d keep torn), Po d.down x.sh x.g]) [3] 0 (Ag Tryz.func70 (by kernel_rfl) rfl) (N3 hul) rfl rfl rfl (fun _ => rfl) rfl rfl rfl) ?_)))))))); rintro y
  refine Ac rfl (.pointer (some ⟨p, 0, none⟩)) (fun b w hb hH => by exact BQ rfl rfl hb) (Af Al rfl (AU (post := fun _ => [Ax (.map (some y.1.1)) y.1.2, cell p 70 #[.int .i64 d.room, .int .i64 (C7 d.fuse), .bool d.down, .slice none 0 0, x.sm, .map (some y.1.1)], Ap 103 5 encO x.pv x.W, BI x.W, Ax x.sm (C3 d keep torn), Po d.down x.sh x.g]) rfl rfl (AQ 1 (v := .map (some y.1.1)) #[.int .i64 d.room, .int .i64 (C7 d.fuse), .bool d.down, .slice none 0 0, x.sm, .map (some y.1.1)] AT.2 rfl rfl rfl rfl rfl rfl rfl rfl rfl) ?_)); rintro ⟨⟩
  refine Ab (Ad (Af Al rfl (Ac rfl (.pointer (some ⟨p, 0, none⟩)) (fun b w hb hH => by exact BQ rfl rfl hb) (Af Al rfl (AU (post := fun _ => [Ax (.map (some y.1.1)) y.1.2, cell p 70 #[.int .i64 d.room, .int .i64 (-1), .bool d.down, .slice none 0 0, x.sm, .map (some y.1.1)], Ap 103 5 encO x.pv x.W, BI x.W, Ax x.sm (C3 d keep torn), Po d.down x.sh x.g]) rfl rfl (AQ 1 (v := .int .i64 (-1)) #[.int .i64 d.room, .int .i64 (-1), .bool d.down, .slice none 0 0, x.sm, .map (some y.1.1)] Bt.2 rfl rfl rfl rfl rfl rfl rfl rfl rfl) ?_))))); rintro ⟨⟩
  refine Ac rfl (.pointer (some ⟨p, 0, none⟩)) (fun b w hb hH => by exact BQ rfl rfl hb) (Af Al rfl (AU (post := fun _ => [Ax (.map (some y.1.1)) y.1.2, cell p 70 #[.int .i64 d.room, .int .i64 (-1), .bool false, .slice none 0 0, x.sm, .map (some y.1.1)], Ap 103 5 encO x.pv x.W, BI x.W, Ax x.sm (C3 d keep torn), Po d.down x.sh x.g]) rfl rfl (AQ 1 (v := .bool false) #[.int .i64 d.room, .int .i64 (-1), .bool false, .slice none 0 0, x.sm, .map (some y.1.1)] BP.2 rfl rfl rfl rfl rfl rfl rfl rfl rfl) ?_)); rintro ⟨⟩
  refine Ab (Bv.leave [2, 3, 5] rfl rfl (BY 103 5 encO (Hy (t := BI ([])) (Ey) (Ad (Af Al rfl (Ab (Av ?_)))))))
  exact As (.tmp rfl) (fun w h => AG () rfl [3, 1, 0, 4, 2] rfl h (FI (os := []) (d := C4 d keep torn) ⟨.slice none 0 0, x.sm, .map (some y.1.1), [], y.1.2, rfl, (fun _ => y.2), IJ, (fun n h => by cases h), x.hr, KR hsn x.hk x.hok⟩ rfl)) rfl
  have hlf : (d.wait.take k).foldl AP d.syn = C3 d keep torn := by rw [H4, hk, List.getElem?_eq_none (by omega)]
  rw [hlf]
  have hul : AF (C3 d keep torn) ≤ 1099511627776 := by rw [← hlf]; exact hu1
  refine Ad (Af Al rfl (Ac rfl (.int .i64 ((x.W.drop k).length : Int)) (fun b w hb hH => AY (hH.vecq 1 rfl QM hkW (Nat.le_refl _) (m := x.W.drop k) (by simp)) Tryz.underlying66 rfl rfl hb) (Ac rfl (.bool false) (fun b w hb hH => Bc rfl rfl rfl (BE (by rw [List.length_drop]; omega)) hb) (Ab (Aw rfl (AC (AO (Ad (Af Al rfl (Ac rfl (.pointer (some ⟨p, 0, none⟩)) (fun b w hb hH => by exact BQ rfl rfl hb) (Af Al rfl (Ac rfl (x.sm) (fun b w hb hH => Bb rfl rfl (Bn AT rfl) (hH.row 0 rfl) hb) (Aj rfl (Am (os' := fun (y : { q : Nat × FS // q.2.Perm (C3 d keep torn) }) => [Ax (.map (some y.1.1)) y.1.2, cell p 70 #[.int .i64 d.room, .int .i64 (C7 d.fuse), .bool d.down, .slice none 0 0, x.sm, x.sh], Ap 103 5 encO x.pv x.W, BI x.W, Ax x.sm (C3 d keep torn), Po d.down x.sh x.g]) [3] 0 (Ag Tryz.func70 (by kernel_rfl) rfl) (N3 hul) rfl rfl rfl (fun _ => rfl) rfl rfl rfl) ?_))))))))))))); rintro y
  refine Ac rfl (.pointer (some ⟨p, 0, none⟩)) (fun b w hb hH => by exact BQ rfl rfl hb) (Af Al rfl (AU (post := fun _ => [Ax (.map (some y.1.1)) y.1.2, cell p 70 #[.int .i64 d.room, .int .i64 (C7 d.fuse), .bool d.down, .slice none 0 0, x.sm, .map (some y.1.1)], Ap 103 5 encO x.pv x.W, BI x.W, Ax x.sm (C3 d keep torn), Po d.down x.sh x.g]) rfl rfl (AQ 1 (v := .map (some y.1.1)) #[.int .i64 d.room, .int .i64 (C7 d.fuse), .bool d.down, .slice none 0 0, x.sm, .map (some y.1.1)] AT.2 rfl rfl rfl rfl rfl rfl rfl rfl rfl) ?_)); rintro ⟨⟩
  refine Ab (Ad (Af Al rfl (Ac rfl (.pointer (some ⟨p, 0, none⟩)) (fun b w hb hH => by exact BQ rfl rfl hb) (Af Al rfl (AU (post := fun _ => [Ax (.map (some y.1.1)) y.1.2, cell p 70 #[.int .i64 d.room, .int .i64 (-1), .bool d.down, .slice none 0 0, x.sm, .map (some y.1.1)], Ap 103 5 encO x.pv x.W, BI x.W, Ax x.sm (C3 d keep torn), Po d.down x.sh x.g]) rfl rfl (AQ 1 (v := .int .i64 (-1)) #[.int .i64 d.room, .int .i64 (-1), .bool d.down, .slice none 0 0, x.sm, .map (some y.1.1)] Bt.2 rfl rfl rfl rfl rfl rfl rfl rfl rfl) ?_))))); rintro ⟨⟩
  refine Ac rfl (.pointer (some ⟨p, 0, none⟩)) (fun b w hb hH => by exact BQ rfl rfl hb) (Af Al rfl (AU (post := fun _ => [Ax (.map (some y.1.1)) y.1.2, cell p 70 #[.int .i64 d.room, .int .i64 (-1), .bool false, .slice none 0 0, x.sm, .map (some y.1.1)], Ap 103 5 encO x.pv x.W, BI x.W, Ax x.sm (C3 d keep torn), Po d.down x.sh x.g]) rfl rfl (AQ 1 (v := .bool false) #[.int .i64 d.room, .int .i64 (-1), .bool false, .slice none 0 0, x.sm, .map (some y.1.1)] BP.2 rfl rfl rfl rfl rfl rfl rfl rfl rfl) ?_)); rintro ⟨⟩
  refine Ab (Bv.leave [2, 3, 5] rfl rfl (BY 103 5 encO (Hy (t := BI ([])) (Ey) (Ad (Af Al rfl (Ab (Av ?_)))))))
  exact As (.tmp rfl) (fun w h => AG () rfl [3, 1, 0, 4, 2] rfl h (FI (os := []) (d := C4 d keep torn) ⟨.slice none 0 0, x.sm, .map (some y.1.1), [], y.1.2, rfl, (fun _ => y.2), IJ, (fun n h => by cases h), x.hr, KR hsn x.hk x.hok⟩ rfl)) rfl
theorem Pu {p : Nat} {d d' : DiskD} {keep torn : Int} {k : Nat} (hd : d.fit) (h1 : -9223372036854775808 ≤ keep ∧ keep ≤ 9223372036854775807) (h2 : -9223372036854775808 ≤ torn ∧ torn ≤ 9223372036854775807) (hk : Df d keep = k) (h : C4 d keep torn = d') : AW Tryz.prog 25 #[.pointer (some ⟨p, 0, none⟩), .int .i64 keep, .int .i64 torn] [Ao p d] (fun _ : Unit => .int .i64 (k : Int)) (fun _ => [Ao p d']) := by
 subst h
 exact UW hd hk
end Go.Proofs.YtjcfimmcogkopaaGreat.Sep
