/-
  DskQ · DskC · DskK · DskN2
-/
import Derived.Test.YtjcfimmcogkopaaGreatDoorWD01
import Derived.Test.YtjcfimmcogkopaaGreatDoorWE01
import Derived.Test.YtjcfimmcogkopaaGreatDoorWE02
import Derived.Shelf.SlIter.Nil
import Derived.Shelf.SortM.Plain
import Derived.Shelf.SortM.SortNone
import Derived.Ground.GgzProg
import Derived.Ground.SlgmProg
import Derived.StringKeys
set_option linter.unusedSimpArgs false
set_option linter.unusedVariables false
set_option maxRecDepth 100000
namespace Go.Proofs.YtjcfimmcogkopaaGreatDoor.Sep
open Go.RowKit
open Go.Proofs.YtjcfimmcogkopaaGreatDoor.Mem (Bb Ci Chg Aw)
theorem Um {p : Nat} {d d1 : DiskD} {n : List UInt8} {s : Int} (h : Ce d = (d1, 3)) : AV Tryz.prog 88 #[.pointer (some ⟨p, 0, none⟩), .string (bs n), .int .i64 s] [Ag p d] (fun (_ : Unit) => .int .i64 3) (fun (_ : Unit) => [Ag p d1]) := by
 refine Bo (args := [.pointer (some ⟨p, 0, none⟩), .string (bs n), .int .i64 s]) 35 Tryz.func88 rfl rfl rfl ?_; intro w rs
 refine Ad (Af Aq rfl (Ab (Ar (Ad (Af Aq rfl (Al rfl (As (os' := fun _ => [Ag p d1]) [0] 0 (Ai Tryz.func70 (by kernel_rfl) rfl) (JK h) rfl rfl rfl (fun _ => rfl) rfl rfl rfl) ?_)))))); rintro ⟨⟩
 refine Af Aq rfl (Ab (AE rfl (Ad (Af Aq rfl (Ab (AB (Ek ?_)))))))
 exact AA (.tmp rfl) (fun w h => AH () rfl [0] rfl h El) rfl
theorem Qp {p : Nat} {d d1 : DiskD} {n : List UInt8} {s : Int} (hfit : d.fit) (h : Ce d = (d1, 0)) (hg : Bw d1.now n = none) : AV Tryz.prog 88 #[.pointer (some ⟨p, 0, none⟩), .string (bs n), .int .i64 s] [Ag p d] (fun (_ : Unit) => .int .i64 4) (fun (_ : Unit) => [Ag p d1]) := by
 have hd1 := (EL h).1
 have hfit1 := Ev h hfit
 refine Bo (args := [.pointer (some ⟨p, 0, none⟩), .string (bs n), .int .i64 s]) 35 Tryz.func88 rfl rfl rfl ?_; intro w rs
 refine Ad (Af Aq rfl (Ab (Ar (Ad (Af Aq rfl (Al rfl (As (os' := fun _ => [Ag p d1]) [0] 0 (Ai Tryz.func70 (by kernel_rfl) rfl) (EK h) rfl rfl rfl (fun _ => rfl) rfl rfl rfl) ?_)))))); rintro ⟨⟩
 refine Af Aq rfl (Ab (Au rfl (Av (AC (Ar (AX 0 rfl (Eh hd1) (fun _ => rfl) ?_)))))); rintro x
 refine AL.fact 3 rfl BO ?_; rintro hsn
 refine AL.fact 4 rfl Ck ?_; rintro hgn
 have hgL : Bw x.L n = none := by rw [I4 x.hg hgn] at hg; simpa using hg
 refine Ad (Af Aq rfl (Aa rfl (.pointer (some ⟨p, 0, none⟩)) (fun b w hb hH => by exact B4 rfl rfl hb) (Af Aq rfl (Aa rfl (x.sh) (fun b w hb hH => Ba rfl rfl (Bl AO rfl) (hH.row 0 rfl) hb) (Af Aq rfl (Al rfl (As (os' := fun _ => [cell p 101 #[.int .i64 d1.room, .int .i64 (D2 d1.fuse), .bool false, x.pv, x.sm, x.sh], Aj 106 5 encO x.pv x.W, BW x.W, Az x.sm d1.syn, BF encKey AI x.sh x.L, Bx x.L]) [4] 0 (Ai Tryz.func75 (by kernel_rfl) rfl) (G4 _ _ n _ hgL) rfl rfl rfl (fun _ => rfl) rfl rfl rfl) ?_)))))); rintro ⟨⟩
 refine Af Aq rfl (Ab (AE rfl (Ad (Af Aq rfl (Ab (AB (Ek ?_)))))))
 exact AA (.tmp rfl) (fun w h => AH () rfl [0, 1, 2, 3, 4, 5] rfl h (DI (os := []) x hd1)) rfl
theorem SL {p : Nat} {d d1 : DiskD} {n : List UInt8} {s : Int} {y : List UInt8} (hfit : d.fit) (h : Ce d = (d1, 0)) (hg : Bw d1.now n = some y) (hs : s < 0 ∨ (y.length : Int) < s) : AV Tryz.prog 88 #[.pointer (some ⟨p, 0, none⟩), .string (bs n), .int .i64 s] [Ag p d] (fun (_ : Unit) => .int .i64 1) (fun (_ : Unit) => [Ag p d1]) := by
 have hd1 := (EL h).1
 have hfit1 := Ev h hfit
 refine Bo (args := [.pointer (some ⟨p, 0, none⟩), .string (bs n), .int .i64 s]) 35 Tryz.func88 rfl rfl rfl ?_; intro w rs
 refine Ad (Af Aq rfl (Ab (Ar (Ad (Af Aq rfl (Al rfl (As (os' := fun _ => [Ag p d1]) [0] 0 (Ai Tryz.func70 (by kernel_rfl) rfl) (EK h) rfl rfl rfl (fun _ => rfl) rfl rfl rfl) ?_)))))); rintro ⟨⟩
 refine Af Aq rfl (Ab (Au rfl (Av (AC (Ar (AX 0 rfl (Eh hd1) (fun _ => rfl) ?_)))))); rintro x
 refine AL.fact 3 rfl BO ?_; rintro hsn
 refine AL.fact 4 rfl Ck ?_; rintro hgn
 obtain ⟨r, hgL, hry⟩ : ∃ r, Bw x.L n = some r ∧ r.2 = y := by rw [I4 x.hg hgn] at hg; exact Option.map_eq_some_iff.1 hg
 subst hry
 have hm : (n, r) ∈ x.L := (Cc (by rw [EH] at hgn; exact hgn)).1 hgL
 refine Ad (Af Aq rfl (Aa rfl (.pointer (some ⟨p, 0, none⟩)) (fun b w hb hH => by exact B4 rfl rfl hb) (Af Aq rfl (Aa rfl (x.sh) (fun b w hb hH => Ba rfl rfl (Bl AO rfl) (hH.row 0 rfl) hb) (Af Aq rfl (Al rfl (As (os' := fun _ => [cell p 101 #[.int .i64 d1.room, .int .i64 (D2 d1.fuse), .bool false, x.pv, x.sm, x.sh], Aj 106 5 encO x.pv x.W, BW x.W, Az x.sm d1.syn, BF encKey AI x.sh x.L, Bx x.L]) [4] 0 (Ai Tryz.func75 (by kernel_rfl) rfl) (G4 _ _ n _ hgL) rfl rfl rfl (fun _ => rfl) rfl rfl rfl) ?_)))))); rintro ⟨⟩
 refine Af Aq rfl (Ab (Au rfl (Av (AC (Ar ?_)))))
 rcases Int.lt_or_le s 0 with h0 | h0
 refine Ad (Af Aq rfl (Aa rfl (.bool true) (fun b w hb hH => A5 rfl rfl rfl (BY (by omega)) hb) (Af Aq rfl (Ab (AE rfl (Ad (Af Aq rfl (Ab (AB (Ek ?_))))))))))
 exact AA (.tmp rfl) (fun w h => AH () rfl [0, 1, 2, 3, 4, 5] rfl h (DI (os := []) x hd1)) rfl
 refine Ad (Af Aq rfl (Aa rfl (.bool false) (fun b w hb hH => A5 rfl rfl rfl (BI (by omega)) hb) (Af Aq rfl (Aa rfl (.pointer (some ⟨p, 0, none⟩)) (fun b w hb hH => by exact B4 rfl rfl hb) (Af Aq rfl (Aa rfl (x.sh) (fun b w hb hH => Ba rfl rfl (Bl AO rfl) (hH.row 0 rfl) hb) (Af Aq rfl (Aa rfl (r.1) (fun b w hb hH => Hr 4 Dx rfl (k := n) (r := some r) hgL rfl rfl rfl hH hb) (Aa rfl (.int .i64 (r.2.length : Int)) (fun b w hb hH => Be ((hH.rd8 5 rfl (JE hm)).rd) Tryz.underlying49 rfl rfl hb) ?_)))))))))
 refine Aa rfl (.bool true) (fun b w hb hH => A5 rfl rfl rfl (BD (by omega)) hb) (Af Aq rfl (Ab (AE rfl (Ad (Af Aq rfl (Ab (AB (Ek ?_))))))))
 exact AA (.tmp rfl) (fun w h => AH () rfl [0, 1, 2, 3, 4, 5] rfl h (DI (os := []) x hd1)) rfl
theorem Un {p : Nat} {d d1 : DiskD} {n : List UInt8} {s : Nat} {y : List UInt8} (hfit : d.fit) (h : Ce d = (d1, 0)) (hg : Bw d1.now n = some y) (hs : s ≤ y.length) : AV Tryz.prog 88 #[.pointer (some ⟨p, 0, none⟩), .string (bs n), .int .i64 (s : Int)] [Ag p d] (fun (_ : Unit) => .int .i64 0) (fun (_ : Unit) => [Ag p (Cw d1 (.cut n s))]) := by
 have hd1 := (EL h).1
 have hfit1 := Ev h hfit
 have hg_ := hg
 refine Bo (args := [.pointer (some ⟨p, 0, none⟩), .string (bs n), .int .i64 (s : Int)]) 35 Tryz.func88 rfl rfl rfl ?_; intro w rs
 refine Ad (Af Aq rfl (Ab (Ar (Ad (Af Aq rfl (Al rfl (As (os' := fun _ => [Ag p d1]) [0] 0 (Ai Tryz.func70 (by kernel_rfl) rfl) (EK h) rfl rfl rfl (fun _ => rfl) rfl rfl rfl) ?_)))))); rintro ⟨⟩
 refine Af Aq rfl (Ab (Au rfl (Av (AC (Ar (AX 0 rfl (Eh hd1) (fun _ => rfl) ?_)))))); rintro x
 refine AL.fact 3 rfl BO ?_; rintro hsn
 refine AL.fact 4 rfl Ck ?_; rintro hgn
 obtain ⟨r, hgL, hry⟩ : ∃ r, Bw x.L n = some r ∧ r.2 = y := by rw [I4 x.hg hgn] at hg; exact Option.map_eq_some_iff.1 hg
 subst hry
 have hm : (n, r) ∈ x.L := (Cc (by rw [EH] at hgn; exact hgn)).1 hgL
 refine Ad (Af Aq rfl (Aa rfl (.pointer (some ⟨p, 0, none⟩)) (fun b w hb hH => by exact B4 rfl rfl hb) (Af Aq rfl (Aa rfl (x.sh) (fun b w hb hH => Ba rfl rfl (Bl AO rfl) (hH.row 0 rfl) hb) (Af Aq rfl (Al rfl (As (os' := fun _ => [cell p 101 #[.int .i64 d1.room, .int .i64 (D2 d1.fuse), .bool false, x.pv, x.sm, x.sh], Aj 106 5 encO x.pv x.W, BW x.W, Az x.sm d1.syn, BF encKey AI x.sh x.L, Bx x.L]) [4] 0 (Ai Tryz.func75 (by kernel_rfl) rfl) (G4 _ _ n _ hgL) rfl rfl rfl (fun _ => rfl) rfl rfl rfl) ?_)))))); rintro ⟨⟩
 refine Af Aq rfl (Ab (Au rfl (Av (AC (Ar (Ad (Af Aq rfl (Aa rfl (.bool false) (fun b w hb hH => A5 rfl rfl rfl (BI (by omega)) hb) (Af Aq rfl (Aa rfl (.pointer (some ⟨p, 0, none⟩)) (fun b w hb hH => by exact B4 rfl rfl hb) (Af Aq rfl (Aa rfl (x.sh) (fun b w hb hH => Ba rfl rfl (Bl AO rfl) (hH.row 0 rfl) hb) (Af Aq rfl (Aa rfl (r.1) (fun b w hb hH => Hr 4 Dx rfl (k := n) (r := some r) hgL rfl rfl rfl hH hb) ?_))))))))))))))
 refine Aa rfl (.int .i64 (r.2.length : Int)) (fun b w hb hH => Be ((hH.rd8 5 rfl (JE hm)).rd) Tryz.underlying49 rfl rfl hb) (Aa rfl (.bool false) (fun b w hb hH => A5 rfl rfl rfl (By (by omega)) hb) (Af Aq rfl (Ab (Au rfl (Av (AC (Bj [0, 1, 2, 3, 4, 5] rfl (JI x hd1) rfl (BK 5 1 encB (Ad (Af Aq rfl (Aa rfl (.agg #[.int .i64 1, .string (bs n), .slice none 0 0, .int .i64 (s : Int), .string { data := #[] }]) (fun b w hb hH => BA rfl rfl (by kernel_rfl) hb) (Al rfl (As (os' := fun _ => [Gj, Ag p (Cw d1 (⟨.cut n s, none, 0⟩ : OpV).o)]) [1, 0] 0 (Ai Tryz.func77 (by kernel_rfl) rfl) (NN (x := ⟨.cut n s, none, 0⟩) hd1 hfit1 ⟨_, hg_, hs⟩ (Nat.zero_le _)) rfl rfl rfl (fun _ => rfl) rfl rfl rfl) ?_)))))))))))); rintro ⟨⟩
 refine BU.leave [0] rfl rfl (Af Aq rfl (Ab (AB ?_)))
 exact AA (.tmp rfl) (fun w h => AH () rfl [0] rfl h El) rfl
theorem IN {p : Nat} {d d' : DiskD} {n : List UInt8} {s : Int} {e : Nat} (hd : d.fit) (h : OG d n s = (d', e)) : AV Tryz.prog 88 #[.pointer (some ⟨p, 0, none⟩), .string (bs n), .int .i64 s] [Ag p d] (fun _ : Unit => .int .i64 (e : Int)) (fun _ => [Ag p d']) := by
  unfold OG at h
  obtain ⟨d1, e1, h1⟩ : ∃ d1 e1, Ce d = (d1, e1) := ⟨_, _, rfl⟩
  have h01 := JL d
  rw [h1] at h h01
  simp only at h h01
  rcases h01 with rfl | rfl
  · rw [if_pos (by decide)] at h
    cases h
    exact Um h1
  · rw [if_neg (by decide)] at h
    cases hg : Bw d1.now n with
    | none => rw [hg] at h; cases h; exact Qp hd h1 hg
    | some y =>
      rw [hg] at h
      simp only at h
      by_cases hs : s < 0 ∨ (y.length : Int) < s
      · rw [if_pos hs] at h; cases h; exact SL hd h1 hg hs
      · rw [if_neg hs] at h
        cases h
        obtain ⟨k, rfl⟩ : ∃ k : Nat, s = (k : Int) := ⟨s.toNat, by omega⟩
        exact Un hd h1 hg (by omega)
end Go.Proofs.YtjcfimmcogkopaaGreatDoor.Sep
namespace Go.Proofs.YtjcfimmcogkopaaGreatDoor.Sep
open Go.RowKit Go.Maps Go.Sort Go.Shelf
open Go.Proofs.YtjcfimmcogkopaaGreatDoor.Mem (Bb Ci Chg Aw)
def keysL_ren : Go.Shelf.Ren := ⟨fun | 7 => 91 | 10 => 130 | n => n, fun | 23 => 99 | 26 => 9 | 3 => 49 | 28 => 140 | 0 => 0 | 27 => 139 | 33 => 128 | 4 => 4 | n => n, fun | n => n⟩
theorem Wv : Go.Proofs.SlLaysZ.n7 Tryz.prog keysL_ren := {
 mixed := by kernel_rfl
 f7 := ⟨Tryz.f91.name, by decide, Tryz.func91.trans (congrArg some (by kernel_rfl))⟩
 f10 := ⟨Tryz.f130.name, by decide, Tryz.func130.trans (congrArg some (by kernel_rfl))⟩
 t0 := Tryz.underlying0
 a0 := Tryz.isAgg0
 z0 := Tryz.sizeOf0
 v0 := Tryz.zeroValue0
 t4 := Tryz.underlying4
 a4 := Tryz.isAgg4
 z4 := Tryz.sizeOf4
 v4 := Tryz.zeroValue4
 t23 := Tryz.underlying99
 a23 := Tryz.isAgg99
 z23 := Tryz.sizeOf99
 v23 := Tryz.zeroValue99
 t26 := Tryz.underlying9
 a26 := Tryz.isAgg9
 z26 := Tryz.sizeOf9
 v26 := Tryz.zeroValue9
 t27 := Tryz.underlying139
 a27 := Tryz.isAgg139
 z27 := Tryz.sizeOf139
 v27 := Tryz.zeroValue139
 t28 := Tryz.underlying140
 a28 := Tryz.isAgg140
 z28 := Tryz.sizeOf140
 v28 := Tryz.zeroValue140
 t33 := Tryz.underlying128
 a33 := Tryz.isAgg128
 z33 := Tryz.sizeOf128
 v33 := Tryz.zeroValue128 }
def sortedL_ren : Go.Shelf.Ren := ⟨fun | 6 => 90 | 8 => 128 | 9 => 129 | 11 => 161 | 13 => 163 | 12 => 162 | 23 => 190 | 24 => 175 | 14 => 181 | 15 => 182 | 16 => 183 | 17 => 184 | 18 => 185 | 19 => 186 | 20 => 187 | 21 => 188 | 22 => 189 | 25 => 197 | 26 => 198 | 27 => 199 | 28 => 200 | 29 => 201 | 30 => 202 | 31 => 204 | n => n, fun | 26 => 9 | 28 => 140 | 24 => 77 | 0 => 0 | 3 => 3 | 37 => 116 | 48 => 114 | 50 => 38 | 4 => 4 | 40 => 232 | 39 => 231 | 45 => 236 | 5 => 5 | 9 => 9 | 51 => 243 | 55 => 246 | 57 => 253 | 58 => 254 | 33 => 128 | n => n, fun | n => n⟩
theorem VQ : Go.Proofs.SlLaysZ.n6 Tryz.prog sortedL_ren := {
 mixed := by kernel_rfl
 f6 := ⟨Tryz.f90.name, by decide, Tryz.func90.trans (congrArg some (by kernel_rfl))⟩
 f8 := ⟨Tryz.f128.name, by decide, Tryz.func128.trans (congrArg some (by kernel_rfl))⟩
 f11 := ⟨Tryz.f161.name, by decide, Tryz.func161.trans (congrArg some (by kernel_rfl))⟩
 t0 := Tryz.underlying0
 a0 := Tryz.isAgg0
 z0 := Tryz.sizeOf0
 v0 := Tryz.zeroValue0
 t24 := Tryz.underlying77
 a24 := Tryz.isAgg77
 z24 := Tryz.sizeOf77
 v24 := Tryz.zeroValue77
 t26 := Tryz.underlying9
 a26 := Tryz.isAgg9
 z26 := Tryz.sizeOf9
 v26 := Tryz.zeroValue9
 t28 := Tryz.underlying140
 a28 := Tryz.isAgg140
 z28 := Tryz.sizeOf140
 v28 := Tryz.zeroValue140
 i26 := by kernel_rfl }
def sortL_ren : Go.Shelf.Ren := ⟨fun | 6 => 129 | 8 => 163 | 9 => 162 | 19 => 190 | 20 => 175 | 21 => 181 | 22 => 182 | 23 => 183 | 24 => 184 | 25 => 185 | 26 => 186 | 27 => 187 | 28 => 188 | 29 => 189 | 36 => 197 | 31 => 198 | 32 => 199 | 37 => 200 | 38 => 201 | 39 => 202 | 41 => 204 | n => n, fun | 27 => 77 | 29 => 9 | 3 => 3 | 32 => 116 | 26 => 77 | 0 => 0 | 44 => 114 | 46 => 38 | 4 => 4 | 36 => 232 | 35 => 231 | 41 => 236 | 5 => 5 | 9 => 9 | 53 => 243 | 57 => 246 | 63 => 253 | 64 => 254 | n => n, fun | n => n⟩
theorem Ww : Go.Proofs.SlLaysM.n6 Tryz.prog sortL_ren := {
 mixed := by kernel_rfl
 f6 := ⟨Tryz.f129.name, by decide, Tryz.func129.trans (congrArg some (by kernel_rfl))⟩
 f8 := Tryz.func163.trans (congrArg some (by kernel_rfl))
 f9 := ⟨Tryz.f162.name, by decide, Tryz.func162.trans (congrArg some (by kernel_rfl))⟩
 f19 := Tryz.func190.trans (congrArg some (by kernel_rfl))
 f20 := Tryz.func175.trans (congrArg some (by kernel_rfl))
 f21 := ⟨Tryz.f181.name, by decide, Tryz.func181.trans (congrArg some (by kernel_rfl))⟩
 f22 := ⟨Tryz.f182.name, by decide, Tryz.func182.trans (congrArg some (by kernel_rfl))⟩
 f23 := ⟨Tryz.f183.name, by decide, Tryz.func183.trans (congrArg some (by kernel_rfl))⟩
 f24 := ⟨Tryz.f184.name, by decide, Tryz.func184.trans (congrArg some (by kernel_rfl))⟩
 f25 := ⟨Tryz.f185.name, by decide, Tryz.func185.trans (congrArg some (by kernel_rfl))⟩
 f26 := ⟨Tryz.f186.name, by decide, Tryz.func186.trans (congrArg some (by kernel_rfl))⟩
 f27 := ⟨Tryz.f187.name, by decide, Tryz.func187.trans (congrArg some (by kernel_rfl))⟩
 f28 := ⟨Tryz.f188.name, by decide, Tryz.func188.trans (congrArg some (by kernel_rfl))⟩
 f29 := ⟨Tryz.f189.name, by decide, Tryz.func189.trans (congrArg some (by kernel_rfl))⟩
 f31 := Tryz.func198.trans (congrArg some (by kernel_rfl))
 f32 := Tryz.func199.trans (congrArg some (by kernel_rfl))
 f36 := ⟨Tryz.f197.name, by decide, Tryz.func197.trans (congrArg some (by kernel_rfl))⟩
 f37 := ⟨Tryz.f200.name, by decide, Tryz.func200.trans (congrArg some (by kernel_rfl))⟩
 f38 := ⟨Tryz.f201.name, by decide, Tryz.func201.trans (congrArg some (by kernel_rfl))⟩
 f39 := ⟨Tryz.f202.name, by decide, Tryz.func202.trans (congrArg some (by kernel_rfl))⟩
 f41 := ⟨Tryz.f204.name, by decide, Tryz.func204.trans (congrArg some (by kernel_rfl))⟩
 t0 := Tryz.underlying0
 a0 := Tryz.isAgg0
 z0 := Tryz.sizeOf0
 v0 := Tryz.zeroValue0
 t3 := Tryz.underlying3
 a3 := Tryz.isAgg3
 z3 := Tryz.sizeOf3
 v3 := Tryz.zeroValue3
 t4 := Tryz.underlying4
 a4 := Tryz.isAgg4
 z4 := Tryz.sizeOf4
 v4 := Tryz.zeroValue4
 t5 := Tryz.underlying5
 a5 := Tryz.isAgg5
 z5 := Tryz.sizeOf5
 v5 := Tryz.zeroValue5
 t9 := Tryz.underlying9
 a9 := Tryz.isAgg9
 z9 := Tryz.sizeOf9
 v9 := Tryz.zeroValue9
 t26 := Tryz.underlying77
 a26 := Tryz.isAgg77
 z26 := Tryz.sizeOf77
 v26 := Tryz.zeroValue77
 t27 := Tryz.underlying77
 a27 := Tryz.isAgg77
 z27 := Tryz.sizeOf77
 v27 := Tryz.zeroValue77
 t29 := Tryz.underlying9
 a29 := Tryz.isAgg9
 z29 := Tryz.sizeOf9
 v29 := Tryz.zeroValue9
 t32 := Tryz.underlying116
 a32 := Tryz.isAgg116
 z32 := Tryz.sizeOf116
 v32 := Tryz.zeroValue116
 t35 := Tryz.underlying231
 a35 := Tryz.isAgg231
 z35 := Tryz.sizeOf231
 v35 := Tryz.zeroValue231
 t36 := Tryz.underlying232
 a36 := Tryz.isAgg232
 z36 := Tryz.sizeOf232
 v36 := Tryz.zeroValue232
 t41 := Tryz.underlying236
 a41 := Tryz.isAgg236
 z41 := Tryz.sizeOf236
 v41 := Tryz.zeroValue236
 t44 := Tryz.underlying114
 a44 := Tryz.isAgg114
 z44 := Tryz.sizeOf114
 v44 := Tryz.zeroValue114
 t46 := Tryz.underlying38
 a46 := Tryz.isAgg38
 z46 := Tryz.sizeOf38
 v46 := Tryz.zeroValue38
 t53 := Tryz.underlying243
 a53 := Tryz.isAgg243
 z53 := Tryz.sizeOf243
 v53 := Tryz.zeroValue243
 t57 := Tryz.underlying246
 a57 := Tryz.isAgg246
 z57 := Tryz.sizeOf246
 v57 := Tryz.zeroValue246
 t63 := Tryz.underlying253
 a63 := Tryz.isAgg253
 z63 := Tryz.sizeOf253
 v63 := Tryz.zeroValue253
 t64 := Tryz.underlying254
 a64 := Tryz.isAgg254
 z64 := Tryz.sizeOf254
 v64 := Tryz.zeroValue254 }
theorem Xf (m : Nat) : AnyZ.SortsIn Tryz.prog sortedL_ren Fence.wide m :=
  ⟨fun blk off cap ss W hH hblk hsz => callsIn_wide.2 (AnyM.slices_Sort_string Ww blk off cap ss W hH hblk hsz),
   fun p cap W => callsIn_wide.2 (AnyM.slices_Sort_string_none Ww p cap W)⟩
end Go.Proofs.YtjcfimmcogkopaaGreatDoor.Sep
namespace Go.Proofs.YtjcfimmcogkopaaGreatDoor.Sep
open Go.RowKit Go.Maps Go.Sort Go.Shelf
open Go.Proofs.YtjcfimmcogkopaaGreatDoor.Mem (Bb Ci Chg Aw)
theorem SM (b0 : Nat) : AV Tryz.prog 91 #[.map (some b0)] [] (fun g : Nat => .func (.func 130) #[] #[.pointer (some ⟨g, 0, none⟩)]) (fun g => [cell g 99 #[.map (some b0)]]) := fun w rs h1 h2 h3 => by
 obtain rfl : rs = [] := h1
 refine (callsIn_wide.1 (AnyZ.keys_in Wv Fence.wide 5 trivial rfl (some b0) w)).mono ?_
 rintro e w' ⟨rfl, rfl⟩
 refine ⟨w.heap.size, rfl, [(w.heap.size, Fa 99, #[.map (some b0)])], ⟨_, [], rfl, rfl, rfl⟩, ?_⟩
 exact K8 (rs := []) trivial trivial ((Below.refl _ w).alloc (Nat.le_refl _) _) ⟨heap_alloc_new w _, trivial⟩ ⟨(fun _ h => by cases h), trivial⟩ fun x hx => by rw [List.mem_singleton.1 hx]; exact Nat.le_refl _
def Gl (f : FS) : List (List UInt8) := (AW f).mergeSort fun x y => decide (x ≤ y)
theorem O1 {f g : FS} (h : f.Perm g) : Gl f = Gl g := mergeSort_of_perm (Ep h)
def Qq (_ : Value) : Option (DataW Unit × List MemPlace) := some (.nil, [])
theorem O2 (n : List UInt8) (h : n.length ≤ 16) : keyOf Tryz.prog 9 (.string (bs n)) = some (.string n) := by
 rw [Go.WideMaps.keyOf_string_mk Tryz.underlying9 (by show n.toArray.size ≤ maxLen; simp; unfold maxLen; omega)]
 rfl
theorem Uo (x : MapEntry) (n : List UInt8) (h : n.length ≤ 16) (hx : x.key = .string (bs n)) : Go.WideElems.rg Tryz.prog 9 Qq x = (.string n, .nil) := by
 unfold Go.WideElems.rg Go.WideElems.rd
 rw [hx, O2 n h]; rfl
theorem Qr {w : World} {b0 c : Nat} {es : Array MapEntry} {L : FilL} (hb : w.heap[b0]? = some (.map es c)) (hL : MapL encKey AI es c L) (hn : ∀ k, k ∈ AW L → k.length ≤ 16) (hs : L.length ≤ 1000000) : ∃ D : DataW Unit, w.ownsMap Tryz.prog 9 Qq b0 L.length D ∧ (strKeys D).Perm (AW L) ∧ Maps.size D = L.length := by
  have hkey : ∀ x, x ∈ es.toList → ∃ p, p ∈ L ∧ x.key = .string (bs p.1) := fun x hx => by
    have h1 : (x.key, x.val) ∈ L.map fun p => (encKey p.1, AI p.2) := by rw [← hL.at_]; exact List.mem_map_of_mem (f := fun x : MapEntry => (x.key, x.val)) hx
    obtain ⟨p, hp, he⟩ := List.mem_map.1 h1
    exact ⟨p, hp, (congrArg Prod.fst he).symm⟩
  have hrg : es.toList.map (Go.WideElems.rg Tryz.prog 9 Qq) = L.map fun p => ((Lit.string p.1, DataW.nil) : Lit × DataW Unit) := by
    have h1 : es.toList.map (Go.WideElems.rg Tryz.prog 9 Qq) = (es.toList.map (fun x => (x.key, x.val))).map fun y => Go.WideElems.rg Tryz.prog 9 Qq { key := y.1, val := y.2, born := 0 } := by
      rw [List.map_map]
      exact List.map_congr_left fun x hx => by
        obtain ⟨p, hp, e⟩ := hkey x hx
        have h2 := hn p.1 (List.mem_map_of_mem hp)
        rw [Uo x p.1 h2 e]
        exact (Uo _ p.1 h2 e).symm
    rw [h1, hL.at_, List.map_map]
    exact List.map_congr_left fun p hp => Uo _ p.1 (hn p.1 (List.mem_map_of_mem hp)) rfl
  have hfit : Go.WideElems.Fit Tryz.prog 9 Qq es c := by
    refine ⟨by rw [hL.len]; unfold maxLen; omega, ⟨hL.old, hL.born, ?_⟩, fun x hx => ?_⟩
    · have h1 : es.toList.map (·.key) = L.map fun p => encKey p.1 := by
        have := congrArg (List.map Prod.fst) hL.at_
        rw [List.map_map, List.map_map] at this
        exact this
      rw [h1]
      have h2 : (L.map fun p => encKey p.1) = (AW L).map encKey := by unfold AW; rw [List.map_map]; rfl
      rw [h2]
      refine List.Pairwise.map encKey ?_ hL.keys
      intro a b hab e
      exact hab (Tp (by simpa [encKey] using e))
    · obtain ⟨p, hp, e⟩ := hkey x hx
      refine ⟨(.string p.1, .nil), ?_⟩
      unfold Go.WideElems.rd
      rw [e, O2 p.1 (hn p.1 (List.mem_map_of_mem hp))]; rfl
  refine ⟨_, ⟨es, c, hb, hfit, by rw [hL.len]; exact Nat.le_refl _, rfl⟩, ?_, ?_⟩
  · have h1 := ((Go.WideShapes.sorted_perm (es.toList.map (Go.WideElems.rg Tryz.prog 9 Qq))).map fun p => strOf p.1)
    rw [hrg] at h1
    have h2 : (L.map fun p => ((Lit.string p.1, DataW.nil) : Lit × DataW Unit)).map (fun p => strOf p.1) = AW L := by rw [List.map_map]; rfl
    rw [h2] at h1
    show (List.map (fun p : Lit × DataW Unit => strOf p.1) _).Perm _
    rw [hrg]; exact h1
  · show (List.foldr DataW.insert [] _).length = _
    rw [length_sorted, hrg, List.length_map]
theorem O3 (w : World) {g b0 c : Nat} {es : Array MapEntry} {L : FilL} (hg : w.heap[g]? = some (.cells #[.map (some b0)] 99 (0, 0))) (hb : w.heap[b0]? = some (.map es c)) (hL : MapL encKey AI es c L) (hn : ∀ k, k ∈ AW L → k.length ≤ 16) (hs : L.length ≤ 1000000) : Calls Tryz.prog 90 #[.func (.func 130) #[] #[.pointer (some ⟨g, 0, none⟩)]] w fun e w' => ∃ v, e = .returned v ∧ w'.ownsRow w.heap.size 9 1 v (AW L).length ((((AW L).mergeSort fun x y => decide (x ≤ y))).map encStr) ∧ Below w.heap.size w w' := by
 have hlt := (Array.getElem?_eq_some_iff.1 hg).1
 have hc : w.cell? ⟨g, 0, none⟩ = some (.map (some b0)) := by simp [World.cell?, hg]
 obtain ⟨D, hown, hperm, hsz⟩ := Qr hb hL hn hs
 have hseq : SeqGives Fence.wide 2 Tryz.prog 130 #[.pointer (some ⟨g, 0, none⟩)] encStr (fun ss : List (List UInt8) => ss.Perm (strKeys D)) (Maps.size D) w :=
  AnyZ.keys_gives (ρ := keysL_ren) { Wv with } Fence.wide _ trivial rfl (by omega) g b0 L.length D w hlt hc hown
 refine (callsIn_wide.1 (AnyZ.sorted_in VQ Fence.wide 5 trivial trivial trivial trivial rfl (by omega) (Xf _) (enters_of Tryz.func129 (by kernel_rfl) rfl) 130 #[.pointer (some ⟨g, 0, none⟩)] trivial (enters_of Tryz.func130 (by kernel_rfl) rfl) _ (Maps.size D) (by rw [hsz]; unfold maxLen; omega) (by rw [hsz]; omega) _ hseq)).mono ?_
 rintro e w' ⟨v, ss, rfl, hS, hrow, hnil, hb'⟩
 have hp : ss.Perm (AW L) := hS.trans hperm
 refine ⟨v, rfl, ?_, hb'⟩
 rw [← hp.length_eq, ← mergeSort_of_perm hp]
 exact hrow
theorem VR {w' : World} {base : Nat} {v : Value} {l : List (List UInt8)} (h : w'.ownsRow base 9 1 v l.length (l.map encStr)) : ∃ rs, Aj 9 1 encKs v l rs ∧ RowsOf w' rs ∧ Bb rs ∧ ∀ x ∈ rs, base ≤ x.1 := by
  have hf : l.map encStr = flat encKs l := by
    induction l with
    | nil => rfl
    | cons x r ih =>
      rw [List.map_cons, D6, ← (by
        clear ih h
        induction r with
        | nil => rfl
        | cons y q ih => rw [List.map_cons, D6, ih]; rfl : r.map encStr = flat encKs r)]
      rfl
  rcases h.2 with ⟨h1, h2⟩ | ⟨g, cap, cur, h1, h2, h3, h4, h5, h6, h7⟩
  · have : l = [] := List.eq_nil_of_length_eq_zero h2
    subst this
    exact ⟨[], .inl ⟨h1, rfl, rfl⟩, trivial, trivial, fun x hx => by cases hx⟩
  · refine ⟨[(g, Fa 9, cur)], .inr ⟨g, cap, cur, h1, h4, h5, h6, by rw [h7, hf], rfl⟩, ⟨h3, trivial⟩, ⟨(fun _ h => by cases h), trivial⟩, fun x hx => by rw [List.mem_singleton.1 hx]; exact h2⟩
theorem O4 {g b0 : Nat} {L : FilL} (hn : ∀ k, k ∈ AW L → k.length ≤ 16) (hs : L.length ≤ 1000000) : AV Tryz.prog 90 #[.func (.func 130) #[] #[.pointer (some ⟨g, 0, none⟩)]] [cell g 99 #[.map (some b0)], BF encKey AI (.map (some b0)) L] (fun v : Value => v) (fun v => [cell g 99 #[.map (some b0)], BF encKey AI (.map (some b0)) L, Aj 9 1 encKs v ((AW L).mergeSort fun x y => decide (x ≤ y))]) := fun w rs h1 h2 h3 => by
 obtain ⟨a, r, rfl, rfl, b, r2, rfl, ⟨g2, es, c, e1, rfl, hL⟩, rfl⟩ := h1
 cases e1
 have hr := BC.1 h2
 have hg := hr _ (List.mem_append.2 (.inl (List.mem_singleton.2 rfl)))
 have hb : w.heap[b0]? = some (.map es c) := DS.1 (hr (b0, none, Fu es c) (by simp))
 refine (O3 w hg hb hL hn hs).mono ?_
 rintro e w' ⟨v, he, hrow, hbl⟩
 have hlen : (AW L).length = ((AW L).mergeSort fun x y => decide (x ≤ y)).length := (List.length_mergeSort _).symm
 rw [hlen] at hrow
 obtain ⟨rs', hv, hr', hd', hx'⟩ := VR hrow
 exact ⟨v, he, _, ⟨_, _, List.append_assoc .., rfl, _, _, rfl, ⟨b0, es, c, rfl, rfl, hL⟩, Am.one hv⟩, by simpa using K8 h2 h3 hbl hr' hd' hx'⟩
theorem KK {p : Nat} {d : DiskD} {ss : List (List UInt8)} (hd : d.down = false) (hs : d.now.length ≤ 1000000) (hss : Gl d.now = ss) : AV Tryz.prog 34 #[.pointer (some ⟨p, 0, none⟩)] [Ag p d] (fun (v : Value) => v) (fun (v : Value) => [Ag p d, Aj 9 1 encKs v ss]) := by
 refine Bo (args := [.pointer (some ⟨p, 0, none⟩)]) 9 Tryz.func34 rfl rfl rfl ?_; intro w rs
 refine AX 0 rfl (Eh hd) (fun _ => rfl) ?_; rintro x
 refine AL.fact 3 rfl BO ?_; rintro hsn
 refine AL.fact 4 rfl Ck ?_; rintro hgn
 refine AL.fact 4 rfl (fun _ h => BF.is _ h) ?_; rintro ⟨mb, hmb⟩
 have hLn : x.L.length ≤ 1000000 := by have := x.hg.length_eq; simp only [Cs, List.length_map] at this; omega
 have hk16 : ∀ k, k ∈ AW x.L → k.length ≤ 16 := fun k hk => ((Il k).1 (M7 hsn x.hk x.hok k ((Ep x.hg).mem_iff.1 (by rw [EH]; exact hk)))).2
 have hsk : (AW x.L).mergeSort (fun x y => decide (x ≤ y)) = ss := by rw [← hss, ← O1 x.hg]; unfold Gl; rw [EH]
 rw [hmb]
 refine Ad (Af Aq rfl (Ab (Ad (Af Aq rfl (Aa rfl (.pointer (some ⟨p, 0, none⟩)) (fun b w hb hH => by exact B4 rfl rfl hb) (Af Aq rfl (Aa rfl (.map (some mb)) (fun b w hb hH => Ba rfl rfl (Bl AO rfl) (hH.row 0 rfl) hb) (Al rfl (As (os' := fun g => [cell g 99 #[.map (some mb)], cell p 101 #[.int .i64 d.room, .int .i64 (D2 d.fuse), .bool false, x.pv, x.sm, .map (some mb)], Aj 106 5 encO x.pv x.W, BW x.W, Az x.sm d.syn, BF encKey AI (.map (some mb)) x.L, Bx x.L]) [] 0 (Ai Tryz.func91 (by kernel_rfl) rfl) (SM mb) rfl rfl rfl (fun _ => rfl) rfl rfl rfl) ?_)))))))); rintro g
 refine Al rfl (As (os' := fun v9 => [Aj 9 1 encKs v9 ((AW x.L).mergeSort (fun x y => decide (x ≤ y))), cell g 99 #[.map (some mb)], cell p 101 #[.int .i64 d.room, .int .i64 (D2 d.fuse), .bool false, x.pv, x.sm, .map (some mb)], Aj 106 5 encO x.pv x.W, BW x.W, Az x.sm d.syn, BF encKey AI (.map (some mb)) x.L, Bx x.L]) [0, 5] 0 (Ai Tryz.func90 (by kernel_rfl) rfl) (O4 hk16 hLn) rfl rfl rfl (fun _ => rfl) rfl rfl rfl) ?_; rintro v9
 refine Af Aq rfl (Ab (AB ?_))
 exact AA (.tmp rfl) (fun w h => AH v9 rfl [2, 3, 4, 5, 6, 7, 0] rfl h (by rw [← hmb, ← hsk]; exact DI x hd)) rfl
end Go.Proofs.YtjcfimmcogkopaaGreatDoor.Sep
