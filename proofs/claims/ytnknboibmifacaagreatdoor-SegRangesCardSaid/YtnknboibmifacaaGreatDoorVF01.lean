/-
  DskQ · DskC · DskK · DskN2
-/
import Derived.Test.YtnknboibmifacaaGreatDoorVD01
import Derived.Test.YtnknboibmifacaaGreatDoorVE01
import Derived.Shelf.SlIter.Nil
import Derived.Shelf.SortM.Plain
import Derived.Shelf.SortM.SortNone
import Derived.Ground.GgzProg
import Derived.Ground.SlgmProg
import Derived.StringKeys
set_option linter.unusedSimpArgs false
set_option linter.unusedVariables false
set_option maxRecDepth 100000
namespace Go.Proofs.YtnknboibmifacaaGreatDoor.Sep
open Go.RowKit
open Go.Proofs.YtnknboibmifacaaGreatDoor.Mem (AR B3 Chg Av)
theorem Tm {p : Nat} {d d1 : DiskD} {n : List UInt8} {s : Int} (h : Cj d = (d1, 3)) : AP Tryz.prog 51 #[.pointer (some ⟨p, 0, none⟩), .string (bs n), .int .i64 s] [Ag p d] (fun (_ : Unit) => .int .i64 3) (fun (_ : Unit) => [Ag p d1]) := by
 refine Bj (args := [.pointer (some ⟨p, 0, none⟩), .string (bs n), .int .i64 s]) 35 Tryz.func51 rfl rfl rfl ?_; intro w rs
 refine Ad ?_
 refine Af Ar rfl ?_
 refine Ab (An (Ad ?_))
 refine Af Ar rfl ?_
 refine Am rfl (Au (os' := fun _ => [Ag p d1]) [0] 0 (Aj Tryz.func84 (by kernel_rfl) rfl) (K1 h) rfl rfl rfl (fun _ => rfl) rfl rfl rfl) ?_; rintro ⟨⟩
 refine Af Ar rfl ?_
 refine Ab (AI rfl (Ad ?_))
 refine Af Ar rfl ?_
 refine Ab (Az (D8 ?_))
 exact Ay (.tmp rfl) (fun w h => AC () rfl [0] rfl h Ed) rfl
theorem PC {p : Nat} {d d1 : DiskD} {n : List UInt8} {s : Int} (hfit : d.fit) (h : Cj d = (d1, 0)) (hg : Bq d1.now n = none) : AP Tryz.prog 51 #[.pointer (some ⟨p, 0, none⟩), .string (bs n), .int .i64 s] [Ag p d] (fun (_ : Unit) => .int .i64 4) (fun (_ : Unit) => [Ag p d1]) := by
 have hd1 := (EV h).1
 have hfit1 := EG h hfit
 refine Bj (args := [.pointer (some ⟨p, 0, none⟩), .string (bs n), .int .i64 s]) 35 Tryz.func51 rfl rfl rfl ?_; intro w rs
 refine Ad ?_
 refine Af Ar rfl ?_
 refine Ab (An (Ad ?_))
 refine Af Ar rfl ?_
 refine Am rfl (Au (os' := fun _ => [Ag p d1]) [0] 0 (Aj Tryz.func84 (by kernel_rfl) rfl) (EU h) rfl rfl rfl (fun _ => rfl) rfl rfl rfl) ?_; rintro ⟨⟩
 refine Af Ar rfl ?_
 refine Ab (As rfl (Aw (AB (An ?_))))
 refine A7 0 rfl (DW hd1) (fun _ => rfl) ?_; rintro x
 refine AN.fact 3 rfl BY ?_; rintro hsn
 refine AN.fact 4 rfl B4 ?_; rintro hgn
 have hgL : Bq x.L n = none := by rw [Ij x.hg hgn] at hg; simpa using hg
 refine Ad ?_
 refine Af Ar rfl ?_
 refine Aa rfl (.pointer (some ⟨p, 0, none⟩)) (fun b w hb hH => by exact B8 rfl rfl hb) ?_
 refine Af Ar rfl ?_
 refine Aa rfl (x.sh) (fun b w hb hH => AY rfl rfl (Bi AX rfl) (hH.row 0 rfl) hb) ?_
 refine Af Ar rfl ?_
 refine Am rfl (Au (os' := fun _ => [cell p 84 #[.int .i64 d1.room, .int .i64 (Ek d1.fuse), .bool false, x.pv, x.sm, x.sh], Ak 127 5 encO x.pv x.W, Cq x.W, AJ x.sm d1.syn, BG encKey AM x.sh x.L, BA x.L]) [4] 0 (Aj Tryz.func103 (by kernel_rfl) rfl) (Gz _ _ n _ hgL) rfl rfl rfl (fun _ => rfl) rfl rfl rfl) ?_; rintro ⟨⟩
 refine Af Ar rfl ?_
 refine Ab (AI rfl (Ad ?_))
 refine Af Ar rfl ?_
 refine Ab (Az (D8 ?_))
 exact Ay (.tmp rfl) (fun w h => AC () rfl [0, 1, 2, 3, 4, 5] rfl h (Dp (os := []) x hd1)) rfl
theorem RO {p : Nat} {d d1 : DiskD} {n : List UInt8} {s : Int} {y : List UInt8} (hfit : d.fit) (h : Cj d = (d1, 0)) (hg : Bq d1.now n = some y) (hs : s < 0 ∨ (y.length : Int) < s) : AP Tryz.prog 51 #[.pointer (some ⟨p, 0, none⟩), .string (bs n), .int .i64 s] [Ag p d] (fun (_ : Unit) => .int .i64 1) (fun (_ : Unit) => [Ag p d1]) := by
  have hd1 := (EV h).1
  have hfit1 := EG h hfit
  refine Bj (args := [.pointer (some ⟨p, 0, none⟩), .string (bs n), .int .i64 s]) 35 Tryz.func51 rfl rfl rfl ?_; intro w rs
  refine Ad ?_
  refine Af Ar rfl ?_
  refine Ab (An (Ad ?_))
  refine Af Ar rfl ?_
  refine Am rfl (Au (os' := fun _ => [Ag p d1]) [0] 0 (Aj Tryz.func84 (by kernel_rfl) rfl) (EU h) rfl rfl rfl (fun _ => rfl) rfl rfl rfl) ?_; rintro ⟨⟩
  refine Af Ar rfl ?_
  refine Ab (As rfl (Aw (AB (An ?_))))
  refine A7 0 rfl (DW hd1) (fun _ => rfl) ?_; rintro x
  refine AN.fact 3 rfl BY ?_; rintro hsn
  refine AN.fact 4 rfl B4 ?_; rintro hgn
  obtain ⟨r, hgL, hry⟩ : ∃ r, Bq x.L n = some r ∧ r.2 = y := by rw [Ij x.hg hgn] at hg; exact Option.map_eq_some_iff.1 hg
  subst hry
  have hm : (n, r) ∈ x.L := (Cx (by rw [FC] at hgn; exact hgn)).1 hgL
  refine Ad ?_
  refine Af Ar rfl ?_
  refine Aa rfl (.pointer (some ⟨p, 0, none⟩)) (fun b w hb hH => by exact B8 rfl rfl hb) ?_
  refine Af Ar rfl ?_
  refine Aa rfl (x.sh) (fun b w hb hH => AY rfl rfl (Bi AX rfl) (hH.row 0 rfl) hb) ?_
  refine Af Ar rfl ?_
  refine Am rfl (Au (os' := fun _ => [cell p 84 #[.int .i64 d1.room, .int .i64 (Ek d1.fuse), .bool false, x.pv, x.sm, x.sh], Ak 127 5 encO x.pv x.W, Cq x.W, AJ x.sm d1.syn, BG encKey AM x.sh x.L, BA x.L]) [4] 0 (Aj Tryz.func103 (by kernel_rfl) rfl) (Gz _ _ n _ hgL) rfl rfl rfl (fun _ => rfl) rfl rfl rfl) ?_; rintro ⟨⟩
  refine Af Ar rfl ?_
  refine Ab (As rfl (Aw (AB (An ?_))))
  rcases Int.lt_or_le s 0 with h0 | h0
  · skip
    refine Ad ?_
    refine Af Ar rfl ?_
    refine Aa rfl (.bool true) (fun b w hb hH => AZ rfl rfl rfl (Ck (by omega)) hb) ?_
    refine Af Ar rfl ?_
    refine Ab (AI rfl (Ad ?_))
    refine Af Ar rfl ?_
    refine Ab (Az (D8 ?_))
    exact Ay (.tmp rfl) (fun w h => AC () rfl [0, 1, 2, 3, 4, 5] rfl h (Dp (os := []) x hd1)) rfl
  · skip
    refine Ad ?_
    refine Af Ar rfl ?_
    refine Aa rfl (.bool false) (fun b w hb hH => AZ rfl rfl rfl (BU (by omega)) hb) ?_
    refine Af Ar rfl ?_
    refine Aa rfl (.pointer (some ⟨p, 0, none⟩)) (fun b w hb hH => by exact B8 rfl rfl hb) ?_
    refine Af Ar rfl ?_
    refine Aa rfl (x.sh) (fun b w hb hH => AY rfl rfl (Bi AX rfl) (hH.row 0 rfl) hb) ?_
    refine Af Ar rfl ?_
    refine Aa rfl (r.1) (fun b w hb hH => GW 4 Dg rfl (k := n) (r := some r) hgL rfl rfl rfl hH hb) ?_
    refine Aa rfl (.int .i64 (r.2.length : Int)) (fun b w hb hH => Bp ((hH.rd8 5 rfl (Kh hm)).rd) Tryz.underlying30 rfl rfl hb) ?_
    refine Aa rfl (.bool true) (fun b w hb hH => AZ rfl rfl rfl (BO (by omega)) hb) ?_
    refine Af Ar rfl ?_
    refine Ab (AI rfl (Ad ?_))
    refine Af Ar rfl ?_
    refine Ab (Az (D8 ?_))
    exact Ay (.tmp rfl) (fun w h => AC () rfl [0, 1, 2, 3, 4, 5] rfl h (Dp (os := []) x hd1)) rfl
theorem To {p : Nat} {d d1 : DiskD} {n : List UInt8} {s : Nat} {y : List UInt8} (hfit : d.fit) (h : Cj d = (d1, 0)) (hg : Bq d1.now n = some y) (hs : s ≤ y.length) : AP Tryz.prog 51 #[.pointer (some ⟨p, 0, none⟩), .string (bs n), .int .i64 (s : Int)] [Ag p d] (fun (_ : Unit) => .int .i64 0) (fun (_ : Unit) => [Ag p (Dk d1 (.cut n s))]) := by
 have hd1 := (EV h).1
 have hfit1 := EG h hfit
 have hg_ := hg
 refine Bj (args := [.pointer (some ⟨p, 0, none⟩), .string (bs n), .int .i64 (s : Int)]) 35 Tryz.func51 rfl rfl rfl ?_; intro w rs
 refine Ad ?_
 refine Af Ar rfl ?_
 refine Ab (An (Ad ?_))
 refine Af Ar rfl ?_
 refine Am rfl (Au (os' := fun _ => [Ag p d1]) [0] 0 (Aj Tryz.func84 (by kernel_rfl) rfl) (EU h) rfl rfl rfl (fun _ => rfl) rfl rfl rfl) ?_; rintro ⟨⟩
 refine Af Ar rfl ?_
 refine Ab (As rfl (Aw (AB (An ?_))))
 refine A7 0 rfl (DW hd1) (fun _ => rfl) ?_; rintro x
 refine AN.fact 3 rfl BY ?_; rintro hsn
 refine AN.fact 4 rfl B4 ?_; rintro hgn
 obtain ⟨r, hgL, hry⟩ : ∃ r, Bq x.L n = some r ∧ r.2 = y := by rw [Ij x.hg hgn] at hg; exact Option.map_eq_some_iff.1 hg
 subst hry
 have hm : (n, r) ∈ x.L := (Cx (by rw [FC] at hgn; exact hgn)).1 hgL
 refine Ad ?_
 refine Af Ar rfl ?_
 refine Aa rfl (.pointer (some ⟨p, 0, none⟩)) (fun b w hb hH => by exact B8 rfl rfl hb) ?_
 refine Af Ar rfl ?_
 refine Aa rfl (x.sh) (fun b w hb hH => AY rfl rfl (Bi AX rfl) (hH.row 0 rfl) hb) ?_
 refine Af Ar rfl ?_
 refine Am rfl (Au (os' := fun _ => [cell p 84 #[.int .i64 d1.room, .int .i64 (Ek d1.fuse), .bool false, x.pv, x.sm, x.sh], Ak 127 5 encO x.pv x.W, Cq x.W, AJ x.sm d1.syn, BG encKey AM x.sh x.L, BA x.L]) [4] 0 (Aj Tryz.func103 (by kernel_rfl) rfl) (Gz _ _ n _ hgL) rfl rfl rfl (fun _ => rfl) rfl rfl rfl) ?_; rintro ⟨⟩
 refine Af Ar rfl ?_
 refine Ab (As rfl (Aw (AB (An (Ad ?_)))))
 refine Af Ar rfl ?_
 refine Aa rfl (.bool false) (fun b w hb hH => AZ rfl rfl rfl (BU (by omega)) hb) ?_
 refine Af Ar rfl ?_
 refine Aa rfl (.pointer (some ⟨p, 0, none⟩)) (fun b w hb hH => by exact B8 rfl rfl hb) ?_
 refine Af Ar rfl ?_
 refine Aa rfl (x.sh) (fun b w hb hH => AY rfl rfl (Bi AX rfl) (hH.row 0 rfl) hb) ?_
 refine Af Ar rfl ?_
 refine Aa rfl (r.1) (fun b w hb hH => GW 4 Dg rfl (k := n) (r := some r) hgL rfl rfl rfl hH hb) ?_
 refine Aa rfl (.int .i64 (r.2.length : Int)) (fun b w hb hH => Bp ((hH.rd8 5 rfl (Kh hm)).rd) Tryz.underlying30 rfl rfl hb) ?_
 refine Aa rfl (.bool false) (fun b w hb hH => AZ rfl rfl rfl (BE (by omega)) hb) ?_
 refine Af Ar rfl ?_
 refine Ab (As rfl (Aw (AB ?_)))
 refine Bg [0, 1, 2, 3, 4, 5] rfl (I1 x hd1) rfl ?_
 refine BN 5 1 encB ?_
 refine Ad ?_
 refine Af Ar rfl ?_
 refine Aa rfl (.agg #[.int .i64 1, .string (bs n), .slice none 0 0, .int .i64 (s : Int), .string { data := #[] }]) (fun b w hb hH => Bv rfl rfl (by kernel_rfl) hb) ?_
 refine Am rfl (Au (os' := fun _ => [GE, Ag p (Dk d1 (⟨.cut n s, none, 0⟩ : OpV).o)]) [1, 0] 0 (Aj Tryz.func104 (by kernel_rfl) rfl) (MT (x := ⟨.cut n s, none, 0⟩) hd1 hfit1 ⟨_, hg_, hs⟩ (Nat.zero_le _)) rfl rfl rfl (fun _ => rfl) rfl rfl rfl) ?_; rintro ⟨⟩
 refine BT.leave [0] rfl rfl ?_
 refine Af Ar rfl ?_
 refine Ab (Az ?_)
 exact Ay (.tmp rfl) (fun w h => AC () rfl [0] rfl h Ed) rfl
theorem LR {p : Nat} {d d' : DiskD} {n : List UInt8} {s : Int} {e : Nat} (hd : d.fit) (h : S1 d n s = (d', e)) : AP Tryz.prog 51 #[.pointer (some ⟨p, 0, none⟩), .string (bs n), .int .i64 s] [Ag p d] (fun _ : Unit => .int .i64 (e : Int)) (fun _ => [Ag p d']) := by
  unfold S1 at h
  obtain ⟨d1, e1, h1⟩ : ∃ d1 e1, Cj d = (d1, e1) := ⟨_, _, rfl⟩
  have h01 := K2 d
  rw [h1] at h h01
  simp only at h h01
  rcases h01 with rfl | rfl
  · rw [if_pos (by decide)] at h
    cases h
    exact Tm h1
  · rw [if_neg (by decide)] at h
    cases hg : Bq d1.now n with
    | none => rw [hg] at h; cases h; exact PC hd h1 hg
    | some y =>
      rw [hg] at h
      simp only at h
      by_cases hs : s < 0 ∨ (y.length : Int) < s
      · rw [if_pos hs] at h; cases h; exact RO hd h1 hg hs
      · rw [if_neg hs] at h
        cases h
        obtain ⟨k, rfl⟩ : ∃ k : Nat, s = (k : Int) := ⟨s.toNat, by omega⟩
        exact To hd h1 hg (by omega)
end Go.Proofs.YtnknboibmifacaaGreatDoor.Sep
namespace Go.Proofs.YtnknboibmifacaaGreatDoor.Sep
open Go.RowKit Go.Maps Go.Sort Go.Shelf
open Go.Proofs.YtnknboibmifacaaGreatDoor.Mem (AR B3 Chg Av)
def keysL_ren : Go.Shelf.Ren := ⟨fun | 7 => 48 | 10 => 102 | n => n, fun | 23 => 81 | 26 => 9 | 3 => 30 | 28 => 98 | 0 => 0 | 27 => 97 | 33 => 154 | 4 => 4 | n => n, fun | n => n⟩
theorem VI : Go.Proofs.SlLaysZ.n7 Tryz.prog keysL_ren := {
 mixed := by kernel_rfl
 f7 := ⟨Tryz.f48.name, by decide, Tryz.func48.trans (congrArg some (by kernel_rfl))⟩
 f10 := ⟨Tryz.f102.name, by decide, Tryz.func102.trans (congrArg some (by kernel_rfl))⟩
 t0 := Tryz.underlying0
 a0 := Tryz.isAgg0
 z0 := Tryz.sizeOf0
 v0 := Tryz.zeroValue0
 t4 := Tryz.underlying4
 a4 := Tryz.isAgg4
 z4 := Tryz.sizeOf4
 v4 := Tryz.zeroValue4
 t23 := Tryz.underlying81
 a23 := Tryz.isAgg81
 z23 := Tryz.sizeOf81
 v23 := Tryz.zeroValue81
 t26 := Tryz.underlying9
 a26 := Tryz.isAgg9
 z26 := Tryz.sizeOf9
 v26 := Tryz.zeroValue9
 t27 := Tryz.underlying97
 a27 := Tryz.isAgg97
 z27 := Tryz.sizeOf97
 v27 := Tryz.zeroValue97
 t28 := Tryz.underlying98
 a28 := Tryz.isAgg98
 z28 := Tryz.sizeOf98
 v28 := Tryz.zeroValue98
 t33 := Tryz.underlying154
 a33 := Tryz.isAgg154
 z33 := Tryz.sizeOf154
 v33 := Tryz.zeroValue154 }
def sortedL_ren : Go.Shelf.Ren := ⟨fun | 6 => 47 | 8 => 100 | 9 => 101 | 11 => 148 | 13 => 150 | 12 => 149 | 23 => 186 | 24 => 187 | 14 => 177 | 15 => 178 | 16 => 179 | 17 => 180 | 18 => 181 | 19 => 182 | 20 => 183 | 21 => 184 | 22 => 185 | 25 => 201 | 26 => 202 | 27 => 203 | 28 => 204 | 29 => 205 | 30 => 206 | 31 => 211 | n => n, fun | 26 => 9 | 28 => 98 | 24 => 35 | 0 => 0 | 3 => 3 | 37 => 136 | 48 => 134 | 50 => 31 | 4 => 4 | 40 => 225 | 39 => 224 | 45 => 229 | 5 => 5 | 9 => 9 | 51 => 248 | 55 => 251 | 57 => 256 | 58 => 257 | 33 => 154 | n => n, fun | n => n⟩
theorem UW : Go.Proofs.SlLaysZ.n6 Tryz.prog sortedL_ren := {
 mixed := by kernel_rfl
 f6 := ⟨Tryz.f47.name, by decide, Tryz.func47.trans (congrArg some (by kernel_rfl))⟩
 f8 := ⟨Tryz.f100.name, by decide, Tryz.func100.trans (congrArg some (by kernel_rfl))⟩
 f11 := ⟨Tryz.f148.name, by decide, Tryz.func148.trans (congrArg some (by kernel_rfl))⟩
 t0 := Tryz.underlying0
 a0 := Tryz.isAgg0
 z0 := Tryz.sizeOf0
 v0 := Tryz.zeroValue0
 t24 := Tryz.underlying35
 a24 := Tryz.isAgg35
 z24 := Tryz.sizeOf35
 v24 := Tryz.zeroValue35
 t26 := Tryz.underlying9
 a26 := Tryz.isAgg9
 z26 := Tryz.sizeOf9
 v26 := Tryz.zeroValue9
 t28 := Tryz.underlying98
 a28 := Tryz.isAgg98
 z28 := Tryz.sizeOf98
 v28 := Tryz.zeroValue98
 i26 := by kernel_rfl }
def sortL_ren : Go.Shelf.Ren := ⟨fun | 6 => 101 | 8 => 150 | 9 => 149 | 19 => 186 | 20 => 187 | 21 => 177 | 22 => 178 | 23 => 179 | 24 => 180 | 25 => 181 | 26 => 182 | 27 => 183 | 28 => 184 | 29 => 185 | 36 => 201 | 31 => 202 | 32 => 203 | 37 => 204 | 38 => 205 | 39 => 206 | 41 => 211 | n => n, fun | 27 => 35 | 29 => 9 | 3 => 3 | 32 => 136 | 26 => 35 | 0 => 0 | 44 => 134 | 46 => 31 | 4 => 4 | 36 => 225 | 35 => 224 | 41 => 229 | 5 => 5 | 9 => 9 | 53 => 248 | 57 => 251 | 63 => 256 | 64 => 257 | n => n, fun | n => n⟩
theorem VJ : Go.Proofs.SlLaysM.n6 Tryz.prog sortL_ren := {
 mixed := by kernel_rfl
 f6 := ⟨Tryz.f101.name, by decide, Tryz.func101.trans (congrArg some (by kernel_rfl))⟩
 f8 := Tryz.func150.trans (congrArg some (by kernel_rfl))
 f9 := ⟨Tryz.f149.name, by decide, Tryz.func149.trans (congrArg some (by kernel_rfl))⟩
 f19 := Tryz.func186.trans (congrArg some (by kernel_rfl))
 f20 := Tryz.func187.trans (congrArg some (by kernel_rfl))
 f21 := ⟨Tryz.f177.name, by decide, Tryz.func177.trans (congrArg some (by kernel_rfl))⟩
 f22 := ⟨Tryz.f178.name, by decide, Tryz.func178.trans (congrArg some (by kernel_rfl))⟩
 f23 := ⟨Tryz.f179.name, by decide, Tryz.func179.trans (congrArg some (by kernel_rfl))⟩
 f24 := ⟨Tryz.f180.name, by decide, Tryz.func180.trans (congrArg some (by kernel_rfl))⟩
 f25 := ⟨Tryz.f181.name, by decide, Tryz.func181.trans (congrArg some (by kernel_rfl))⟩
 f26 := ⟨Tryz.f182.name, by decide, Tryz.func182.trans (congrArg some (by kernel_rfl))⟩
 f27 := ⟨Tryz.f183.name, by decide, Tryz.func183.trans (congrArg some (by kernel_rfl))⟩
 f28 := ⟨Tryz.f184.name, by decide, Tryz.func184.trans (congrArg some (by kernel_rfl))⟩
 f29 := ⟨Tryz.f185.name, by decide, Tryz.func185.trans (congrArg some (by kernel_rfl))⟩
 f31 := Tryz.func202.trans (congrArg some (by kernel_rfl))
 f32 := Tryz.func203.trans (congrArg some (by kernel_rfl))
 f36 := ⟨Tryz.f201.name, by decide, Tryz.func201.trans (congrArg some (by kernel_rfl))⟩
 f37 := ⟨Tryz.f204.name, by decide, Tryz.func204.trans (congrArg some (by kernel_rfl))⟩
 f38 := ⟨Tryz.f205.name, by decide, Tryz.func205.trans (congrArg some (by kernel_rfl))⟩
 f39 := ⟨Tryz.f206.name, by decide, Tryz.func206.trans (congrArg some (by kernel_rfl))⟩
 f41 := ⟨Tryz.f211.name, by decide, Tryz.func211.trans (congrArg some (by kernel_rfl))⟩
 t0 := Tryz.underlying0
 a0 := Tryz.isAgg0
 z0 := Tryz.sizeOf0
 v0 := Tryz.zeroValue0
 t3 := Tryz.underlying3
 a3 := Tryz.isAgg3
 z3 := Tryz.sizeOf3
 v3 := Tryz.zeroValue3
 t4 := Tryz.underlying4
 a4 := Tryz.isAgg4
 z4 := Tryz.sizeOf4
 v4 := Tryz.zeroValue4
 t5 := Tryz.underlying5
 a5 := Tryz.isAgg5
 z5 := Tryz.sizeOf5
 v5 := Tryz.zeroValue5
 t9 := Tryz.underlying9
 a9 := Tryz.isAgg9
 z9 := Tryz.sizeOf9
 v9 := Tryz.zeroValue9
 t26 := Tryz.underlying35
 a26 := Tryz.isAgg35
 z26 := Tryz.sizeOf35
 v26 := Tryz.zeroValue35
 t27 := Tryz.underlying35
 a27 := Tryz.isAgg35
 z27 := Tryz.sizeOf35
 v27 := Tryz.zeroValue35
 t29 := Tryz.underlying9
 a29 := Tryz.isAgg9
 z29 := Tryz.sizeOf9
 v29 := Tryz.zeroValue9
 t32 := Tryz.underlying136
 a32 := Tryz.isAgg136
 z32 := Tryz.sizeOf136
 v32 := Tryz.zeroValue136
 t35 := Tryz.underlying224
 a35 := Tryz.isAgg224
 z35 := Tryz.sizeOf224
 v35 := Tryz.zeroValue224
 t36 := Tryz.underlying225
 a36 := Tryz.isAgg225
 z36 := Tryz.sizeOf225
 v36 := Tryz.zeroValue225
 t41 := Tryz.underlying229
 a41 := Tryz.isAgg229
 z41 := Tryz.sizeOf229
 v41 := Tryz.zeroValue229
 t44 := Tryz.underlying134
 a44 := Tryz.isAgg134
 z44 := Tryz.sizeOf134
 v44 := Tryz.zeroValue134
 t46 := Tryz.underlying31
 a46 := Tryz.isAgg31
 z46 := Tryz.sizeOf31
 v46 := Tryz.zeroValue31
 t53 := Tryz.underlying248
 a53 := Tryz.isAgg248
 z53 := Tryz.sizeOf248
 v53 := Tryz.zeroValue248
 t57 := Tryz.underlying251
 a57 := Tryz.isAgg251
 z57 := Tryz.sizeOf251
 v57 := Tryz.zeroValue251
 t63 := Tryz.underlying256
 a63 := Tryz.isAgg256
 z63 := Tryz.sizeOf256
 v63 := Tryz.zeroValue256
 t64 := Tryz.underlying257
 a64 := Tryz.isAgg257
 z64 := Tryz.sizeOf257
 v64 := Tryz.zeroValue257 }
theorem Wq (m : Nat) : AnyZ.SortsIn Tryz.prog sortedL_ren Fence.wide m :=
  ⟨fun blk off cap ss W hH hblk hsz => callsIn_wide.2 (AnyM.slices_Sort_string VJ blk off cap ss W hH hblk hsz),
   fun p cap W => callsIn_wide.2 (AnyM.slices_Sort_string_none VJ p cap W)⟩
end Go.Proofs.YtnknboibmifacaaGreatDoor.Sep
namespace Go.Proofs.YtnknboibmifacaaGreatDoor.Sep
open Go.RowKit Go.Maps Go.Sort Go.Shelf
open Go.Proofs.YtnknboibmifacaaGreatDoor.Mem (AR B3 Chg Av)
theorem RP (b0 : Nat) : AP Tryz.prog 48 #[.map (some b0)] [] (fun g : Nat => .func (.func 102) #[] #[.pointer (some ⟨g, 0, none⟩)]) (fun g => [cell g 81 #[.map (some b0)]]) := fun w rs h1 h2 h3 => by
 obtain rfl : rs = [] := h1
 refine (callsIn_wide.1 (AnyZ.keys_in VI Fence.wide 5 trivial rfl (some b0) w)).mono ?_
 rintro e w' ⟨rfl, rfl⟩
 refine ⟨w.heap.size, rfl, [(w.heap.size, EO 81, #[.map (some b0)])], ⟨_, [], rfl, rfl, rfl⟩, ?_⟩
 exact Kf (rs := []) trivial trivial ((Below.refl _ w).alloc (Nat.le_refl _) _) ⟨heap_alloc_new w _, trivial⟩ ⟨(fun _ h => by cases h), trivial⟩ fun x hx => by rw [List.mem_singleton.1 hx]; exact Nat.le_refl _
def Ik (f : FS) : List (List UInt8) := (A6 f).mergeSort fun x y => decide (x ≤ y)
theorem N7 {f g : FS} (h : f.Perm g) : Ik f = Ik g := mergeSort_of_perm (EE h)
def PD (_ : Value) : Option (DataW Unit × List MemPlace) := some (.nil, [])
theorem N8 (n : List UInt8) (h : n.length ≤ 16) : keyOf Tryz.prog 9 (.string (bs n)) = some (.string n) := by
 rw [Go.WideMaps.keyOf_string_mk Tryz.underlying9 (by show n.toArray.size ≤ maxLen; simp; unfold maxLen; omega)]
 rfl
theorem Tp (x : MapEntry) (n : List UInt8) (h : n.length ≤ 16) (hx : x.key = .string (bs n)) : Go.WideElems.rg Tryz.prog 9 PD x = (.string n, .nil) := by
 unfold Go.WideElems.rg Go.WideElems.rd
 rw [hx, N8 n h]; rfl
theorem PE {w : World} {b0 c : Nat} {es : Array MapEntry} {L : FilL} (hb : w.heap[b0]? = some (.map es c)) (hL : MapL encKey AM es c L) (hn : ∀ k, k ∈ A6 L → k.length ≤ 16) (hs : L.length ≤ 1000000) : ∃ D : DataW Unit, w.ownsMap Tryz.prog 9 PD b0 L.length D ∧ (strKeys D).Perm (A6 L) ∧ Maps.size D = L.length := by
  have hkey : ∀ x, x ∈ es.toList → ∃ p, p ∈ L ∧ x.key = .string (bs p.1) := fun x hx => by
    have h1 : (x.key, x.val) ∈ L.map fun p => (encKey p.1, AM p.2) := by rw [← hL.at_]; exact List.mem_map_of_mem (f := fun x : MapEntry => (x.key, x.val)) hx
    obtain ⟨p, hp, he⟩ := List.mem_map.1 h1
    exact ⟨p, hp, (congrArg Prod.fst he).symm⟩
  have hrg : es.toList.map (Go.WideElems.rg Tryz.prog 9 PD) = L.map fun p => ((Lit.string p.1, DataW.nil) : Lit × DataW Unit) := by
    have h1 : es.toList.map (Go.WideElems.rg Tryz.prog 9 PD) = (es.toList.map (fun x => (x.key, x.val))).map fun y => Go.WideElems.rg Tryz.prog 9 PD { key := y.1, val := y.2, born := 0 } := by
      rw [List.map_map]
      exact List.map_congr_left fun x hx => by
        obtain ⟨p, hp, e⟩ := hkey x hx
        have h2 := hn p.1 (List.mem_map_of_mem hp)
        rw [Tp x p.1 h2 e]
        exact (Tp _ p.1 h2 e).symm
    rw [h1, hL.at_, List.map_map]
    exact List.map_congr_left fun p hp => Tp _ p.1 (hn p.1 (List.mem_map_of_mem hp)) rfl
  have hfit : Go.WideElems.Fit Tryz.prog 9 PD es c := by
    refine ⟨by rw [hL.len]; unfold maxLen; omega, ⟨hL.old, hL.born, ?_⟩, fun x hx => ?_⟩
    · have h1 : es.toList.map (·.key) = L.map fun p => encKey p.1 := by
        have := congrArg (List.map Prod.fst) hL.at_
        rw [List.map_map, List.map_map] at this
        exact this
      rw [h1]
      have h2 : (L.map fun p => encKey p.1) = (A6 L).map encKey := by unfold A6; rw [List.map_map]; rfl
      rw [h2]
      refine List.Pairwise.map encKey ?_ hL.keys
      intro a b hab e
      exact hab (Sw (by simpa [encKey] using e))
    · obtain ⟨p, hp, e⟩ := hkey x hx
      refine ⟨(.string p.1, .nil), ?_⟩
      unfold Go.WideElems.rd
      rw [e, N8 p.1 (hn p.1 (List.mem_map_of_mem hp))]; rfl
  refine ⟨_, ⟨es, c, hb, hfit, by rw [hL.len]; exact Nat.le_refl _, rfl⟩, ?_, ?_⟩
  · have h1 := ((Go.WideShapes.sorted_perm (es.toList.map (Go.WideElems.rg Tryz.prog 9 PD))).map fun p => strOf p.1)
    rw [hrg] at h1
    have h2 : (L.map fun p => ((Lit.string p.1, DataW.nil) : Lit × DataW Unit)).map (fun p => strOf p.1) = A6 L := by rw [List.map_map]; rfl
    rw [h2] at h1
    show (List.map (fun p : Lit × DataW Unit => strOf p.1) _).Perm _
    rw [hrg]; exact h1
  · show (List.foldr DataW.insert [] _).length = _
    rw [length_sorted, hrg, List.length_map]
theorem N9 (w : World) {g b0 c : Nat} {es : Array MapEntry} {L : FilL} (hg : w.heap[g]? = some (.cells #[.map (some b0)] 81 (0, 0))) (hb : w.heap[b0]? = some (.map es c)) (hL : MapL encKey AM es c L) (hn : ∀ k, k ∈ A6 L → k.length ≤ 16) (hs : L.length ≤ 1000000) : Calls Tryz.prog 47 #[.func (.func 102) #[] #[.pointer (some ⟨g, 0, none⟩)]] w fun e w' => ∃ v, e = .returned v ∧ w'.ownsRow w.heap.size 9 1 v (A6 L).length ((((A6 L).mergeSort fun x y => decide (x ≤ y))).map encStr) ∧ Below w.heap.size w w' := by
 have hlt := (Array.getElem?_eq_some_iff.1 hg).1
 have hc : w.cell? ⟨g, 0, none⟩ = some (.map (some b0)) := by simp [World.cell?, hg]
 obtain ⟨D, hown, hperm, hsz⟩ := PE hb hL hn hs
 have hseq : SeqGives Fence.wide 2 Tryz.prog 102 #[.pointer (some ⟨g, 0, none⟩)] encStr (fun ss : List (List UInt8) => ss.Perm (strKeys D)) (Maps.size D) w :=
  AnyZ.keys_gives (ρ := keysL_ren) { VI with } Fence.wide _ trivial rfl (by omega) g b0 L.length D w hlt hc hown
 refine (callsIn_wide.1 (AnyZ.sorted_in UW Fence.wide 5 trivial trivial trivial trivial rfl (by omega) (Wq _) (enters_of Tryz.func101 (by kernel_rfl) rfl) 102 #[.pointer (some ⟨g, 0, none⟩)] trivial (enters_of Tryz.func102 (by kernel_rfl) rfl) _ (Maps.size D) (by rw [hsz]; unfold maxLen; omega) (by rw [hsz]; omega) _ hseq)).mono ?_
 rintro e w' ⟨v, ss, rfl, hS, hrow, hnil, hb'⟩
 have hp : ss.Perm (A6 L) := hS.trans hperm
 refine ⟨v, rfl, ?_, hb'⟩
 rw [← hp.length_eq, ← mergeSort_of_perm hp]
 exact hrow
theorem UX {w' : World} {base : Nat} {v : Value} {l : List (List UInt8)} (h : w'.ownsRow base 9 1 v l.length (l.map encStr)) : ∃ rs, Ak 9 1 encKs v l rs ∧ RowsOf w' rs ∧ AR rs ∧ ∀ x ∈ rs, base ≤ x.1 := by
  have hf : l.map encStr = flat encKs l := by
    induction l with
    | nil => rfl
    | cons x r ih =>
      rw [List.map_cons, DH, ← (by
        clear ih h
        induction r with
        | nil => rfl
        | cons y q ih => rw [List.map_cons, DH, ih]; rfl : r.map encStr = flat encKs r)]
      rfl
  rcases h.2 with ⟨h1, h2⟩ | ⟨g, cap, cur, h1, h2, h3, h4, h5, h6, h7⟩
  · have : l = [] := List.eq_nil_of_length_eq_zero h2
    subst this
    exact ⟨[], .inl ⟨h1, rfl, rfl⟩, trivial, trivial, fun x hx => by cases hx⟩
  · refine ⟨[(g, EO 9, cur)], .inr ⟨g, cap, cur, h1, h4, h5, h6, by rw [h7, hf], rfl⟩, ⟨h3, trivial⟩, ⟨(fun _ h => by cases h), trivial⟩, fun x hx => by rw [List.mem_singleton.1 hx]; exact h2⟩
theorem Oa {g b0 : Nat} {L : FilL} (hn : ∀ k, k ∈ A6 L → k.length ≤ 16) (hs : L.length ≤ 1000000) : AP Tryz.prog 47 #[.func (.func 102) #[] #[.pointer (some ⟨g, 0, none⟩)]] [cell g 81 #[.map (some b0)], BG encKey AM (.map (some b0)) L] (fun v : Value => v) (fun v => [cell g 81 #[.map (some b0)], BG encKey AM (.map (some b0)) L, Ak 9 1 encKs v ((A6 L).mergeSort fun x y => decide (x ≤ y))]) := fun w rs h1 h2 h3 => by
 obtain ⟨a, r, rfl, rfl, b, r2, rfl, ⟨g2, es, c, e1, rfl, hL⟩, rfl⟩ := h1
 cases e1
 have hr := Bt.1 h2
 have hg := hr _ (List.mem_append.2 (.inl (List.mem_singleton.2 rfl)))
 have hb : w.heap[b0]? = some (.map es c) := DQ.1 (hr (b0, none, Fp es c) (by simp))
 refine (N9 w hg hb hL hn hs).mono ?_
 rintro e w' ⟨v, he, hrow, hbl⟩
 have hlen : (A6 L).length = ((A6 L).mergeSort fun x y => decide (x ≤ y)).length := (List.length_mergeSort _).symm
 rw [hlen] at hrow
 obtain ⟨rs', hv, hr', hd', hx'⟩ := UX hrow
 exact ⟨v, he, _, ⟨_, _, List.append_assoc .., rfl, _, _, rfl, ⟨b0, es, c, rfl, rfl, hL⟩, Al.one hv⟩, by simpa using Kf h2 h3 hbl hr' hd' hx'⟩
theorem Oc {p : Nat} {d : DiskD} {ss : List (List UInt8)} (hd : d.down = false) (hs : d.now.length ≤ 1000000) (hss : Ik d.now = ss) : AP Tryz.prog 14 #[.pointer (some ⟨p, 0, none⟩)] [Ag p d] (fun (v : Value) => v) (fun (v : Value) => [Ag p d, Ak 9 1 encKs v ss]) := by
 refine Bj (args := [.pointer (some ⟨p, 0, none⟩)]) 9 Tryz.func14 rfl rfl rfl ?_; intro w rs
 refine A7 0 rfl (DW hd) (fun _ => rfl) ?_; rintro x
 refine AN.fact 3 rfl BY ?_; rintro hsn
 refine AN.fact 4 rfl B4 ?_; rintro hgn
 refine AN.fact 4 rfl (fun _ h => BG.is _ h) ?_; rintro ⟨mb, hmb⟩
 have hLn : x.L.length ≤ 1000000 := by have := x.hg.length_eq; simp only [CW, List.length_map] at this; omega
 have hk16 : ∀ k, k ∈ A6 x.L → k.length ≤ 16 := fun k hk => ((Ht k).1 (RH hsn x.hk x.hok k ((EE x.hg).mem_iff.1 (by rw [FC]; exact hk)))).2
 have hsk : (A6 x.L).mergeSort (fun x y => decide (x ≤ y)) = ss := by rw [← hss, ← N7 x.hg]; unfold Ik; rw [FC]
 rw [hmb]
 refine Ad ?_
 refine Af Ar rfl ?_
 refine Ab (Ad ?_)
 refine Af Ar rfl ?_
 refine Aa rfl (.pointer (some ⟨p, 0, none⟩)) (fun b w hb hH => by exact B8 rfl rfl hb) ?_
 refine Af Ar rfl ?_
 refine Aa rfl (.map (some mb)) (fun b w hb hH => AY rfl rfl (Bi AX rfl) (hH.row 0 rfl) hb) ?_
 refine Am rfl (Au (os' := fun g => [cell g 81 #[.map (some mb)], cell p 84 #[.int .i64 d.room, .int .i64 (Ek d.fuse), .bool false, x.pv, x.sm, .map (some mb)], Ak 127 5 encO x.pv x.W, Cq x.W, AJ x.sm d.syn, BG encKey AM (.map (some mb)) x.L, BA x.L]) [] 0 (Aj Tryz.func48 (by kernel_rfl) rfl) (RP mb) rfl rfl rfl (fun _ => rfl) rfl rfl rfl) ?_; rintro g
 refine Am rfl (Au (os' := fun v9 => [Ak 9 1 encKs v9 ((A6 x.L).mergeSort (fun x y => decide (x ≤ y))), cell g 81 #[.map (some mb)], cell p 84 #[.int .i64 d.room, .int .i64 (Ek d.fuse), .bool false, x.pv, x.sm, .map (some mb)], Ak 127 5 encO x.pv x.W, Cq x.W, AJ x.sm d.syn, BG encKey AM (.map (some mb)) x.L, BA x.L]) [0, 5] 0 (Aj Tryz.func47 (by kernel_rfl) rfl) (Oa hk16 hLn) rfl rfl rfl (fun _ => rfl) rfl rfl rfl) ?_; rintro v9
 refine Af Ar rfl ?_
 refine Ab (Az ?_)
 exact Ay (.tmp rfl) (fun w h => AC v9 rfl [2, 3, 4, 5, 6, 7, 0] rfl h (by rw [← hmb, ← hsk]; exact Dp x hd)) rfl
end Go.Proofs.YtnknboibmifacaaGreatDoor.Sep
