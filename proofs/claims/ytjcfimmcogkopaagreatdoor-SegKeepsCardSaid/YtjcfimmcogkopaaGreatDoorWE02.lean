/-
  DskJ
-/
import Derived.Test.YtjcfimmcogkopaaGreatDoorWD01
set_option linter.unusedSimpArgs false
set_option linter.unusedVariables false
set_option maxRecDepth 100000
namespace Go.Proofs.YtjcfimmcogkopaaGreatDoor.Sep
open Go.RowKit
open Go.Proofs.YtjcfimmcogkopaaGreatDoor.Mem (Bb Ci Chg Aw)
theorem VM {f : FS} {o : OpD} {torn : Int} (hn : (AW f).Nodup) : AT (Gy f o torn) ≤ AT f + o.size := by
  cases o with
  | app n b =>
    unfold Gy
    simp only
    split
    · exact Nat.le_add_right _ _
    · rw [KG hn, List.length_take]; show _ ≤ AT f + b.length; omega
  | cut n s => exact Nat.le_add_right _ _
  | ren a b => exact Nat.le_add_right _ _
  | del n => exact Nat.le_add_right _ _
theorem SJ {p : Nat} {d d1 : DiskD} {n : List UInt8} (h : Ce d = (d1, 3)) : AV Tryz.prog 103 #[.pointer (some ⟨p, 0, none⟩), .string (bs n)] [Ag p d] (fun (_ : Unit) => .int .i64 3) (fun (_ : Unit) => [Ag p d1]) := by
 refine Bo (args := [.pointer (some ⟨p, 0, none⟩), .string (bs n)]) 19 Tryz.func103 rfl rfl rfl ?_; intro w rs
 refine Ad (Af Aq rfl (Ab (Ar (Ad (Af Aq rfl (Al rfl (As (os' := fun _ => [Ag p d1]) [0] 0 (Ai Tryz.func70 (by kernel_rfl) rfl) (JK h) rfl rfl rfl (fun _ => rfl) rfl rfl rfl) ?_)))))); rintro ⟨⟩
 refine Af Aq rfl (Ab (AE rfl (Ad (Af Aq rfl (Ab (AB (Ek ?_)))))))
 exact AA (.tmp rfl) (fun w h => AH () rfl [0] rfl h El) rfl
theorem OY {p : Nat} {d d1 : DiskD} {n : List UInt8} (hfit : d.fit) (h : Ce d = (d1, 0)) (hg : Bw d1.now n = none) : AV Tryz.prog 103 #[.pointer (some ⟨p, 0, none⟩), .string (bs n)] [Ag p d] (fun (_ : Unit) => .int .i64 4) (fun (_ : Unit) => [Ag p d1]) := by
 have hd1 := (EL h).1
 have hfit1 := Ev h hfit
 refine Bo (args := [.pointer (some ⟨p, 0, none⟩), .string (bs n)]) 19 Tryz.func103 rfl rfl rfl ?_; intro w rs
 refine Ad (Af Aq rfl (Ab (Ar (Ad (Af Aq rfl (Al rfl (As (os' := fun _ => [Ag p d1]) [0] 0 (Ai Tryz.func70 (by kernel_rfl) rfl) (EK h) rfl rfl rfl (fun _ => rfl) rfl rfl rfl) ?_)))))); rintro ⟨⟩
 refine Af Aq rfl (Ab (Au rfl (Av (AC (Ar (AX 0 rfl (Eh hd1) (fun _ => rfl) ?_)))))); rintro x
 refine AL.fact 3 rfl BO ?_; rintro hsn
 refine AL.fact 4 rfl Ck ?_; rintro hgn
 have hgL : Bw x.L n = none := by rw [I4 x.hg hgn] at hg; simpa using hg
 refine Ad (Af Aq rfl (Aa rfl (.pointer (some ⟨p, 0, none⟩)) (fun b w hb hH => by exact B4 rfl rfl hb) (Af Aq rfl (Aa rfl (x.sh) (fun b w hb hH => Ba rfl rfl (Bl AO rfl) (hH.row 0 rfl) hb) (Af Aq rfl (Al rfl (As (os' := fun _ => [cell p 101 #[.int .i64 d1.room, .int .i64 (D2 d1.fuse), .bool false, x.pv, x.sm, x.sh], Aj 106 5 encO x.pv x.W, BW x.W, Az x.sm d1.syn, BF encKey AI x.sh x.L, Bx x.L]) [4] 0 (Ai Tryz.func75 (by kernel_rfl) rfl) (G4 _ _ n _ hgL) rfl rfl rfl (fun _ => rfl) rfl rfl rfl) ?_)))))); rintro ⟨⟩
 refine Af Aq rfl (Ab (AE rfl (Ad (Af Aq rfl (Ab (AB (Ek ?_)))))))
 exact AA (.tmp rfl) (fun w h => AH () rfl [0, 1, 2, 3, 4, 5] rfl h (DI (os := []) x hd1)) rfl
theorem OZ {p : Nat} {d d1 : DiskD} {n : List UInt8} {y : List UInt8} (hfit : d.fit) (h : Ce d = (d1, 0)) (hg : Bw d1.now n = some y) : AV Tryz.prog 103 #[.pointer (some ⟨p, 0, none⟩), .string (bs n)] [Ag p d] (fun (_ : Unit) => .int .i64 0) (fun (_ : Unit) => [Ag p (Cw d1 (.del n))]) := by
 have hd1 := (EL h).1
 have hfit1 := Ev h hfit
 refine Bo (args := [.pointer (some ⟨p, 0, none⟩), .string (bs n)]) 19 Tryz.func103 rfl rfl rfl ?_; intro w rs
 refine Ad (Af Aq rfl (Ab (Ar (Ad (Af Aq rfl (Al rfl (As (os' := fun _ => [Ag p d1]) [0] 0 (Ai Tryz.func70 (by kernel_rfl) rfl) (EK h) rfl rfl rfl (fun _ => rfl) rfl rfl rfl) ?_)))))); rintro ⟨⟩
 refine Af Aq rfl (Ab (Au rfl (Av (AC (Ar (AX 0 rfl (Eh hd1) (fun _ => rfl) ?_)))))); rintro x
 refine AL.fact 3 rfl BO ?_; rintro hsn
 refine AL.fact 4 rfl Ck ?_; rintro hgn
 obtain ⟨r, hgL, _⟩ : ∃ r, Bw x.L n = some r ∧ r.2 = y := by rw [I4 x.hg hgn] at hg; exact Option.map_eq_some_iff.1 hg
 refine Ad (Af Aq rfl (Aa rfl (.pointer (some ⟨p, 0, none⟩)) (fun b w hb hH => by exact B4 rfl rfl hb) (Af Aq rfl (Aa rfl (x.sh) (fun b w hb hH => Ba rfl rfl (Bl AO rfl) (hH.row 0 rfl) hb) (Af Aq rfl (Al rfl (As (os' := fun _ => [cell p 101 #[.int .i64 d1.room, .int .i64 (D2 d1.fuse), .bool false, x.pv, x.sm, x.sh], Aj 106 5 encO x.pv x.W, BW x.W, Az x.sm d1.syn, BF encKey AI x.sh x.L, Bx x.L]) [4] 0 (Ai Tryz.func75 (by kernel_rfl) rfl) (G4 _ _ n _ hgL) rfl rfl rfl (fun _ => rfl) rfl rfl rfl) ?_)))))); rintro ⟨⟩
 refine Af Aq rfl (Ab (Au rfl (Av (AC (Bj [0, 1, 2, 3, 4, 5] rfl (JI x hd1) rfl (BK 5 1 encB (Ad (Af Aq rfl (Aa rfl (.agg #[.int .i64 3, .string (bs n), .slice none 0 0, .int .i64 0, .string { data := #[] }]) (fun b w hb hH => BA rfl rfl (by kernel_rfl) hb) (Al rfl (As (os' := fun _ => [Gj, Ag p (Cw d1 (.del n))]) [1, 0] 0 (Ai Tryz.func77 (by kernel_rfl) rfl) (NN (x := ⟨.del n, none, 0⟩) hd1 hfit1 trivial (Nat.zero_le _)) rfl rfl rfl (fun _ => rfl) rfl rfl rfl) ?_)))))))))); rintro ⟨⟩
 refine BU.leave [0] rfl rfl (Af Aq rfl (Ab (AB ?_)))
 exact AA (.tmp rfl) (fun w h => AH () rfl [0] rfl h El) rfl
theorem O0 {p : Nat} {d d' : DiskD} {n : List UInt8} {e : Nat} (hd : d.fit) (h : Iy d n = (d', e)) : AV Tryz.prog 103 #[.pointer (some ⟨p, 0, none⟩), .string (bs n)] [Ag p d] (fun _ : Unit => .int .i64 (e : Int)) (fun _ => [Ag p d']) := by
  unfold Iy at h
  obtain ⟨d1, e1, h1⟩ : ∃ d1 e1, Ce d = (d1, e1) := ⟨_, _, rfl⟩
  have h01 := JL d
  rw [h1] at h h01
  simp only at h h01
  rcases h01 with rfl | rfl
  · rw [if_pos (by decide)] at h
    cases h
    exact SJ h1
  · rw [if_neg (by decide)] at h
    cases hg : Bw d1.now n with
    | none => rw [hg] at h; cases h; exact OY hd h1 hg
    | some y => rw [hg] at h; cases h; exact OZ hd h1 hg
theorem VN {p : Nat} {d d1 : DiskD} (h : Ce d = (d1, 3)) : AV Tryz.prog 22 #[.pointer (some ⟨p, 0, none⟩)] [Ag p d] (fun (_ : Unit) => .int .i64 3) (fun (_ : Unit) => [Ag p d1]) := by
 refine Bo (args := [.pointer (some ⟨p, 0, none⟩)]) 13 Tryz.func22 rfl rfl rfl ?_; intro w rs
 refine Ad (Af Aq rfl (Ab (Ar (Ad (Af Aq rfl (Al rfl (As (os' := fun _ => [Ag p d1]) [0] 0 (Ai Tryz.func70 (by kernel_rfl) rfl) (JK h) rfl rfl rfl (fun _ => rfl) rfl rfl rfl) ?_)))))); rintro ⟨⟩
 refine Af Aq rfl (Ab (AE rfl (Ad (Af Aq rfl (Ab (AB (Ek ?_)))))))
 exact AA (.tmp rfl) (fun w h => AH () rfl [0] rfl h El) rfl
theorem VO {p : Nat} {d d1 : DiskD} (hfit : d.fit) (h : Ce d = (d1, 0)) : AV Tryz.prog 22 #[.pointer (some ⟨p, 0, none⟩)] [Ag p d] (fun (_ : Unit) => .int .i64 0) (fun (_ : Unit) => [Ag p ({ d1 with syn := d1.now, wait := [] })]) := by
 have hd1 := (EL h).1
 have hfit1 := Ev h hfit
 refine Bo (args := [.pointer (some ⟨p, 0, none⟩)]) 13 Tryz.func22 rfl rfl rfl ?_; intro w rs
 refine Ad (Af Aq rfl (Ab (Ar (Ad (Af Aq rfl (Al rfl (As (os' := fun _ => [Ag p d1]) [0] 0 (Ai Tryz.func70 (by kernel_rfl) rfl) (EK h) rfl rfl rfl (fun _ => rfl) rfl rfl rfl) ?_)))))); rintro ⟨⟩
 refine Af Aq rfl (Ab (Au rfl (Av (AC (AX 0 rfl (It hd1) (fun _ => rfl) ?_))))); rintro x
 refine AL.fact 3 rfl BO ?_; rintro hsn
 have hWl := NL x
 have hw := hfit1.2
 have hok : Ha d1.syn (EJ x.W) := by rw [x.hW]; exact x.hok
 have hsz : AT d1.syn + ((EJ x.W).map OpD.size).sum ≤ 1099511627776 := by rw [x.hW]; exact hfit1.1
 refine Ad (Af Aq rfl (Aa rfl (.pointer (some ⟨p, 0, none⟩)) (fun b w hb hH => by exact B4 rfl rfl hb) (Af Aq rfl (Aa rfl (x.pv) (fun b w hb hH => Ba rfl rfl (Bl Cf rfl) (hH.row 0 rfl) hb) (Aa rfl (.int .i64 (x.W.length : Int)) (fun b w hb hH => Cv 1 Tryz.underlying97 rfl rfl rfl hH hb) (Al rfl (As (os' := fun _ => [cell p 101 #[.int .i64 d1.room, .int .i64 (D2 d1.fuse), .bool false, .slice none 0 0, x.sm, x.sh], Aj 106 5 encO x.pv x.W, BW x.W, Az x.sm d1.now, Az x.sh x.g]) [0, 1, 2, 3] 0 (Ai Tryz.func55 (by kernel_rfl) rfl) (OU (k := x.W.length) (K := x.W) (Nat.le_refl _) (by omega) (List.take_of_length_le (Nat.le_refl _)) hok hsz (show (EJ x.W).foldl BJ d1.syn = d1.now by rw [x.hW]; rfl)) rfl rfl rfl (fun _ => rfl) rfl rfl rfl) ?_)))))); rintro ⟨⟩
 refine Ab (AL.leave [1, 2] rfl rfl (BK 106 5 encO (H2 (t := BW ([])) (DE) (Ad (Af Aq rfl (Ab (AB ?_)))))))
 exact AA (.tmp rfl) (fun w h => AH () rfl [2, 1, 0, 3, 4] rfl h (Gx (os := []) (d := { d1 with syn := d1.now, wait := [] }) ⟨.slice none 0 0, x.sm, x.sh, [], x.g, rfl, (fun _ => x.hg hd1), JH, x.hf, x.hr, M7 hsn x.hk x.hok⟩ hd1)) rfl
theorem SK {p : Nat} {d d' : DiskD} {e : Nat} (hd : d.fit) (h : Rn d = (d', e)) : AV Tryz.prog 22 #[.pointer (some ⟨p, 0, none⟩)] [Ag p d] (fun _ : Unit => .int .i64 (e : Int)) (fun _ => [Ag p d']) := by
  unfold Rn at h
  obtain ⟨d1, e1, h1⟩ : ∃ d1 e1, Ce d = (d1, e1) := ⟨_, _, rfl⟩
  have h01 := JL d
  rw [h1] at h h01
  simp only at h h01
  rcases h01 with rfl | rfl
  · rw [if_pos (by decide)] at h
    cases h
    exact VN h1
  · rw [if_neg (by decide)] at h
    cases h
    exact VO hd h1
theorem VP {p : Nat} {d : DiskD} {keep torn : Int} {k : Nat} (hd : d.fit) (hk : Dr d keep = k) : AV Tryz.prog 13 #[.pointer (some ⟨p, 0, none⟩), .int .i64 keep, .int .i64 torn] [Ag p d] (fun (_ : Unit) => .int .i64 (k : Int)) (fun (_ : Unit) => [Ag p (FZ d keep torn)]) := by
  refine Bo (args := [.pointer (some ⟨p, 0, none⟩), .int .i64 keep, .int .i64 torn]) 53 Tryz.func13 rfl rfl rfl ?_; intro w rs
  refine AX 0 rfl Sy (fun _ => rfl) ?_; rintro x
  refine AL.fact 3 rfl BO ?_; rintro hsn
  have hWl := NL x
  have hw := hd.2
  have hkW : k ≤ x.W.length := by rw [hWl, ← hk]; exact OH d keep
  have hmod : keep % ((x.W.length : Int) + 1) = (k : Int) := by rw [← hk, hWl]; unfold Dr; have := Int.emod_nonneg keep (show ((d.wait.length : Int) + 1) ≠ 0 by omega); omega
  have hoT : EJ (x.W.take k) = d.wait.take k := by rw [← x.hW]; unfold EJ; rw [List.map_take]
  have hok : Ha d.syn (EJ (x.W.take k)) := by rw [hoT]; exact Gw k x.hok
  have hsz0 := Kj d.wait k
  have hfs := hd.1
  have hsz : AT d.syn + ((EJ (x.W.take k)).map OpD.size).sum ≤ 1099511627776 := by rw [hoT]; omega
  have hu1 : AT ((d.wait.take k).foldl BJ d.syn) ≤ 1099511627776 := Nat.le_trans (Gf _ hsn (Gw k x.hok)) (by omega)
  refine Ad (Af Aq rfl (Ab (Ad (Af Aq rfl (Aa rfl (.pointer (some ⟨p, 0, none⟩)) (fun b w hb hH => by exact B4 rfl rfl hb) (Af Aq rfl (Aa rfl (x.pv) (fun b w hb hH => Ba rfl rfl (Bl Cf rfl) (hH.row 0 rfl) hb) (Aa rfl (.int .i64 (x.W.length : Int)) (fun b w hb hH => Cv 1 Tryz.underlying97 rfl rfl rfl hH hb) (Aa rfl (.int .i64 ((x.W.length : Int) + 1)) (fun b w hb hH => AJ rfl rfl rfl rfl (IntWalk.i64_in _ (by omega)) hb) (Al (post := fun _ => [cell p 101 #[.int .i64 d.room, .int .i64 (D2 d.fuse), .bool d.down, x.pv, x.sm, x.sh], Aj 106 5 encO x.pv x.W, BW x.W, Az x.sm d.syn, RA d.down x.sh x.g]) rfl (Bk (Ai Tryz.func54 (by kernel_rfl) rfl) (fun w hH => L6 w keep ((x.W.length : Int) + 1) (k : Int) (by omega) (by omega) hmod) rfl rfl rfl) ?_)))))))))); rintro ⟨⟩
  refine Af Aq rfl (Ab (Ad (Af Aq rfl (Aa rfl (.pointer (some ⟨p, 0, none⟩)) (fun b w hb hH => by exact B4 rfl rfl hb) (Af Aq rfl (Aa rfl (x.pv) (fun b w hb hH => Ba rfl rfl (Bl Cf rfl) (hH.row 0 rfl) hb) (Af Aq rfl (Aa rfl (Cu 5 x.pv k x.W.length) (fun b w hb hH => R7 1 (a := k) CS rfl hkW rfl rfl rfl hH hb) (Af Aq rfl (Ab (Ad ?_)))))))))))
  refine Af Aq rfl (Al rfl (As (os' := fun _ => [cell p 101 #[.int .i64 d.room, .int .i64 (D2 d.fuse), .bool d.down, .slice none 0 0, x.sm, x.sh], Aj 106 5 encO x.pv x.W, BW x.W, Az x.sm ((d.wait.take k).foldl BJ d.syn), RA d.down x.sh x.g]) [0, 1, 2, 3] 0 (Ai Tryz.func55 (by kernel_rfl) rfl) (OU (k := k) (K := x.W.take k) hkW (by omega) rfl hok hsz (congrArg (List.foldl BJ d.syn) hoT)) rfl rfl rfl (fun _ => rfl) rfl rfl rfl) ?_); rintro ⟨⟩
  refine Ab (Ar ?_)
  rcases Nat.lt_or_ge k x.W.length with hc | hc
  obtain ⟨a, ha⟩ : ∃ a, x.W[k]? = some a := ⟨_, List.getElem?_eq_getElem hc⟩
  have ha0 : (x.W.drop k)[0]? = some a := by rw [List.getElem?_drop, Nat.add_zero]; exact ha
  have haW : a ∈ x.W := List.mem_of_getElem? ha
  have hao : d.wait[k]? = some a.o := by rw [← x.hW]; unfold EJ; rw [List.getElem?_map, ha]; rfl
  have hsa : AT ((d.wait.take k).foldl BJ d.syn) + a.o.size ≤ 1099511627776 := JJ hsn x.hok hao hfs
  have hlf : Gy ((d.wait.take k).foldl BJ d.syn) a.o torn = Ds d keep torn := by rw [GW, hk, hao]
  have hul : AT (Ds d keep torn) ≤ 1099511627776 := by rw [← hlf]; exact Nat.le_trans (VM (Iq _ hsn)) hsa
  refine Ad (Af Aq rfl (Aa rfl (.int .i64 ((x.W.drop k).length : Int)) (fun b w hb hH => Be (hH.vecq 1 rfl Rv hkW (Nat.le_refl _) (m := x.W.drop k) (by simp)) Tryz.underlying97 rfl rfl hb) (Aa rfl (.bool true) (fun b w hb hH => A5 rfl rfl rfl (BD (by rw [List.length_drop]; omega)) hb) (Ab (AE rfl ?_)))))
  refine BV 9 1 [⟨.quiet, [none], fun _ => .pointer (some ⟨p, 0, none⟩), []⟩, ⟨.quiet, [none], fun _ => .pointer (some ⟨p, 0, none⟩), [0]⟩, ⟨.quiet, [none], fun _ => .pointer (some ⟨p, 4, none⟩), [1]⟩, ⟨.quiet, [none], fun _ => x.sm, [2]⟩, ⟨.quiet, [none], fun _ => Cu 5 x.pv k x.W.length, []⟩, ⟨.quiet, [none], fun _ => AN (Cu 5 x.pv k x.W.length) (0 * 5), [4]⟩, ⟨.quiet, [none], fun _ => .agg (encO a).toArray, [5]⟩, ⟨.quiet, [none], fun _ => .int .i64 torn, []⟩, ⟨.actv 0, [some false], fun _ => .tuple #[], [3, 6, 7]⟩] [(0, .pointer (some ⟨p, 0, none⟩)), (2, .int .i64 torn), (6, .int .i64 0), (7, .int .i64 (k : Int)), (8, Cu 5 x.pv k x.W.length)] (fun ρ => match ρ with | [r0] => [cell p 101 #[.int .i64 d.room, .int .i64 (D2 d.fuse), .bool d.down, .slice none 0 0, x.sm, x.sh], Aj 106 5 encO x.pv x.W, BW x.W, DT r0 (fun _ => Az x.sm (Ds d keep torn)) (Az x.sm ((d.wait.take k).foldl BJ d.syn)), RA d.down x.sh x.g] | _ => []) (by kernel_rfl) (by kernel_rfl) ⟨rfl, rfl, rfl, rfl, rfl, trivial⟩ rfl ?_ ?_
  refine Ac (by intro r0_; exact ⟨rfl, fun b w hH hb => Ah Aq rfl hb⟩) (Ac (by intro r0_; exact ⟨rfl, fun b w hH hb => by exact B4 rfl rfl hb⟩) (Ac (by intro r0_; exact ⟨rfl, fun b w hH hb => Ah Aq rfl hb⟩) (Ac (by intro r0_; exact ⟨rfl, fun b w hH hb => Ba rfl rfl (Bl AO rfl) (hH.row 0 rfl) hb⟩) (Ac (by intro r0_; exact ⟨rfl, fun b w hH hb => Ah Aq rfl hb⟩) (Ac (by intro r0_; exact ⟨rfl, fun b w hH hb => DW Rv (hH.vecq 1 rfl Rv hkW (Nat.le_refl _) (m := x.W.drop k) (by simp)) CS (j := 0) ha0 rfl rfl rfl hb⟩) (Ac (by intro r0_; exact ⟨rfl, fun b w hH hb => Dp Rv (by decide) (hH.vecq 1 rfl Rv hkW (Nat.le_refl _) (m := x.W.drop k) (by simp)) (j := 0) ha0 Cx rfl rfl hb⟩) (Ac (by intro r0_; exact ⟨rfl, fun b w hH hb => Ah Aq rfl hb⟩) (Ac (by exact ⟨rfl, Bt.su (As (os' := fun _ => [cell p 101 #[.int .i64 d.room, .int .i64 (D2 d.fuse), .bool d.down, .slice none 0 0, x.sm, x.sh], Aj 106 5 encO x.pv x.W, BW x.W, Az x.sm (Ds d keep torn), RA d.down x.sh x.g]) [3, 2] 0 (Ai Tryz.func56 (by kernel_rfl) rfl) (Uj (Rw haW) hsa hlf) rfl rfl rfl (fun _ => rfl) rfl rfl rfl) rfl⟩) ?_))))))))
  exact B9
  intro v0_
  refine BU.keep (env' := [(0, .pointer (some ⟨p, 0, none⟩)), (6, .int .i64 0), (7, .int .i64 (k : Int))]) ⟨rfl, rfl, rfl, trivial⟩ (AG (AC (Ad (Af Aq rfl (Aa rfl (.pointer (some ⟨p, 0, none⟩)) (fun b w hb hH => by exact B4 rfl rfl hb) (Af Aq rfl (Aa rfl (x.sm) (fun b w hb hH => Ba rfl rfl (Bl AO rfl) (hH.row 0 rfl) hb) (Al rfl (As (os' := fun (y : { q : Nat × FS // q.2.Perm (Ds d keep torn) }) => [Az (.map (some y.1.1)) y.1.2, cell p 101 #[.int .i64 d.room, .int .i64 (D2 d.fuse), .bool d.down, .slice none 0 0, x.sm, x.sh], Aj 106 5 encO x.pv x.W, BW x.W, Az x.sm (Ds d keep torn), RA d.down x.sh x.g]) [3] 0 (Ai Tryz.func57 (by kernel_rfl) rfl) (OV hul) rfl rfl rfl (fun _ => rfl) rfl rfl rfl) ?_)))))))); rintro y
  refine Aa rfl (.pointer (some ⟨p, 0, none⟩)) (fun b w hb hH => by exact B4 rfl rfl hb) (Af Aq rfl (AR (post := fun _ => [Az (.map (some y.1.1)) y.1.2, cell p 101 #[.int .i64 d.room, .int .i64 (D2 d.fuse), .bool d.down, .slice none 0 0, x.sm, .map (some y.1.1)], Aj 106 5 encO x.pv x.W, BW x.W, Az x.sm (Ds d keep torn), RA d.down x.sh x.g]) rfl rfl (AZ 1 (v := .map (some y.1.1)) #[.int .i64 d.room, .int .i64 (D2 d.fuse), .bool d.down, .slice none 0 0, x.sm, .map (some y.1.1)] AO.2 rfl rfl rfl rfl rfl rfl rfl rfl rfl) ?_)); rintro ⟨⟩
  refine Ab (Ad (Af Aq rfl (Aa rfl (.pointer (some ⟨p, 0, none⟩)) (fun b w hb hH => by exact B4 rfl rfl hb) (Af Aq rfl (AR (post := fun _ => [Az (.map (some y.1.1)) y.1.2, cell p 101 #[.int .i64 d.room, .int .i64 (-1), .bool d.down, .slice none 0 0, x.sm, .map (some y.1.1)], Aj 106 5 encO x.pv x.W, BW x.W, Az x.sm (Ds d keep torn), RA d.down x.sh x.g]) rfl rfl (AZ 1 (v := .int .i64 (-1)) #[.int .i64 d.room, .int .i64 (-1), .bool d.down, .slice none 0 0, x.sm, .map (some y.1.1)] Br.2 rfl rfl rfl rfl rfl rfl rfl rfl rfl) ?_))))); rintro ⟨⟩
  refine Aa rfl (.pointer (some ⟨p, 0, none⟩)) (fun b w hb hH => by exact B4 rfl rfl hb) (Af Aq rfl (AR (post := fun _ => [Az (.map (some y.1.1)) y.1.2, cell p 101 #[.int .i64 d.room, .int .i64 (-1), .bool false, .slice none 0 0, x.sm, .map (some y.1.1)], Aj 106 5 encO x.pv x.W, BW x.W, Az x.sm (Ds d keep torn), RA d.down x.sh x.g]) rfl rfl (AZ 1 (v := .bool false) #[.int .i64 d.room, .int .i64 (-1), .bool false, .slice none 0 0, x.sm, .map (some y.1.1)] GS.2 rfl rfl rfl rfl rfl rfl rfl rfl rfl) ?_)); rintro ⟨⟩
  refine Ab (AL.leave [2, 3, 5] rfl rfl (BK 106 5 encO (H2 (t := BW ([])) (DE) (Ad (Af Aq rfl (Ab (AB ?_)))))))
  exact AA (.tmp rfl) (fun w h => AH () rfl [3, 1, 0, 4, 2] rfl h (Gx (os := []) (d := FZ d keep torn) ⟨.slice none 0 0, x.sm, .map (some y.1.1), [], y.1.2, rfl, (fun _ => y.2), JH, (fun n h => by cases h), x.hr, L4 hsn x.hk x.hok⟩ rfl)) rfl
  have hlf : (d.wait.take k).foldl BJ d.syn = Ds d keep torn := by rw [GW, hk, List.getElem?_eq_none (by omega)]
  rw [hlf]
  have hul : AT (Ds d keep torn) ≤ 1099511627776 := by rw [← hlf]; exact hu1
  refine Ad (Af Aq rfl (Aa rfl (.int .i64 ((x.W.drop k).length : Int)) (fun b w hb hH => Be (hH.vecq 1 rfl Rv hkW (Nat.le_refl _) (m := x.W.drop k) (by simp)) Tryz.underlying97 rfl rfl hb) (Aa rfl (.bool false) (fun b w hb hH => A5 rfl rfl rfl (By (by rw [List.length_drop]; omega)) hb) (Ab (Au rfl (Av (AC (Ad (Af Aq rfl (Aa rfl (.pointer (some ⟨p, 0, none⟩)) (fun b w hb hH => by exact B4 rfl rfl hb) (Af Aq rfl (Aa rfl (x.sm) (fun b w hb hH => Ba rfl rfl (Bl AO rfl) (hH.row 0 rfl) hb) (Al rfl (As (os' := fun (y : { q : Nat × FS // q.2.Perm (Ds d keep torn) }) => [Az (.map (some y.1.1)) y.1.2, cell p 101 #[.int .i64 d.room, .int .i64 (D2 d.fuse), .bool d.down, .slice none 0 0, x.sm, x.sh], Aj 106 5 encO x.pv x.W, BW x.W, Az x.sm (Ds d keep torn), RA d.down x.sh x.g]) [3] 0 (Ai Tryz.func57 (by kernel_rfl) rfl) (OV hul) rfl rfl rfl (fun _ => rfl) rfl rfl rfl) ?_))))))))))))); rintro y
  refine Aa rfl (.pointer (some ⟨p, 0, none⟩)) (fun b w hb hH => by exact B4 rfl rfl hb) (Af Aq rfl (AR (post := fun _ => [Az (.map (some y.1.1)) y.1.2, cell p 101 #[.int .i64 d.room, .int .i64 (D2 d.fuse), .bool d.down, .slice none 0 0, x.sm, .map (some y.1.1)], Aj 106 5 encO x.pv x.W, BW x.W, Az x.sm (Ds d keep torn), RA d.down x.sh x.g]) rfl rfl (AZ 1 (v := .map (some y.1.1)) #[.int .i64 d.room, .int .i64 (D2 d.fuse), .bool d.down, .slice none 0 0, x.sm, .map (some y.1.1)] AO.2 rfl rfl rfl rfl rfl rfl rfl rfl rfl) ?_)); rintro ⟨⟩
  refine Ab (Ad (Af Aq rfl (Aa rfl (.pointer (some ⟨p, 0, none⟩)) (fun b w hb hH => by exact B4 rfl rfl hb) (Af Aq rfl (AR (post := fun _ => [Az (.map (some y.1.1)) y.1.2, cell p 101 #[.int .i64 d.room, .int .i64 (-1), .bool d.down, .slice none 0 0, x.sm, .map (some y.1.1)], Aj 106 5 encO x.pv x.W, BW x.W, Az x.sm (Ds d keep torn), RA d.down x.sh x.g]) rfl rfl (AZ 1 (v := .int .i64 (-1)) #[.int .i64 d.room, .int .i64 (-1), .bool d.down, .slice none 0 0, x.sm, .map (some y.1.1)] Br.2 rfl rfl rfl rfl rfl rfl rfl rfl rfl) ?_))))); rintro ⟨⟩
  refine Aa rfl (.pointer (some ⟨p, 0, none⟩)) (fun b w hb hH => by exact B4 rfl rfl hb) (Af Aq rfl (AR (post := fun _ => [Az (.map (some y.1.1)) y.1.2, cell p 101 #[.int .i64 d.room, .int .i64 (-1), .bool false, .slice none 0 0, x.sm, .map (some y.1.1)], Aj 106 5 encO x.pv x.W, BW x.W, Az x.sm (Ds d keep torn), RA d.down x.sh x.g]) rfl rfl (AZ 1 (v := .bool false) #[.int .i64 d.room, .int .i64 (-1), .bool false, .slice none 0 0, x.sm, .map (some y.1.1)] GS.2 rfl rfl rfl rfl rfl rfl rfl rfl rfl) ?_)); rintro ⟨⟩
  refine Ab (AL.leave [2, 3, 5] rfl rfl (BK 106 5 encO (H2 (t := BW ([])) (DE) (Ad (Af Aq rfl (Ab (AB ?_)))))))
  exact AA (.tmp rfl) (fun w h => AH () rfl [3, 1, 0, 4, 2] rfl h (Gx (os := []) (d := FZ d keep torn) ⟨.slice none 0 0, x.sm, .map (some y.1.1), [], y.1.2, rfl, (fun _ => y.2), JH, (fun n h => by cases h), x.hr, L4 hsn x.hk x.hok⟩ rfl)) rfl
theorem L8 {p : Nat} {d d' : DiskD} {keep torn : Int} {k : Nat} (hd : d.fit) (h1 : -9223372036854775808 ≤ keep ∧ keep ≤ 9223372036854775807) (h2 : -9223372036854775808 ≤ torn ∧ torn ≤ 9223372036854775807) (hk : Dr d keep = k) (h : FZ d keep torn = d') : AV Tryz.prog 13 #[.pointer (some ⟨p, 0, none⟩), .int .i64 keep, .int .i64 torn] [Ag p d] (fun _ : Unit => .int .i64 (k : Int)) (fun _ => [Ag p d']) := by
 subst h
 exact VP hd hk
end Go.Proofs.YtjcfimmcogkopaaGreatDoor.Sep
