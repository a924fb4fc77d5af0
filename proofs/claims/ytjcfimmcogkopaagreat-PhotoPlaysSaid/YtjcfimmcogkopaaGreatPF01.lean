/-
  DskQ · DskC · DskK · DskN2
-/
import Derived.Test.YtjcfimmcogkopaaGreatPD01
import Derived.Test.YtjcfimmcogkopaaGreatPE01
import Derived.Test.YtjcfimmcogkopaaGreatPE02
import Derived.Shelf.SlIter.Nil
import Derived.Shelf.SortM.Plain
import Derived.Shelf.SortM.SortNone
import Derived.Ground.GgzProg
import Derived.Ground.SlgmProg
import Derived.StringKeys
set_option linter.unusedSimpArgs false
set_option linter.unusedVariables false
set_option maxRecDepth 100000
namespace Go.Proofs.YtjcfimmcogkopaaGreat.Sep
open Go.RowKit
open Go.Proofs.YtjcfimmcogkopaaGreat.Mem (Bh Cs Chg AA)
theorem W3 {p : Nat} {d d1 : DiskD} {n : List UInt8} {b2 : List UInt8} (h : Bv d = (d1, 3)) : AX Tryz.prog 49 #[.pointer (some ⟨p, 0, none⟩), .string (bs n), .string (bs b2)] [Ao p d] (fun (_ : Unit) => .int .i64 3) (fun (_ : Unit) => [Ao p d1]) := by
 refine Bg (args := [.pointer (some ⟨p, 0, none⟩), .string (bs n), .string (bs b2)]) 25 Tryz.func49 rfl rfl rfl ?_; intro w rs
 refine Ad (Ae Am rfl (Ab (Av (Ad (Ae Am rfl (Aj rfl (Ak (os' := fun _ => [Ao p d1]) [0] 0 (Ai Tryz.func30 (by kernel_rfl) rfl) (Jo h) rfl rfl rfl (fun _ => rfl) rfl rfl rfl) ?_)))))); rintro ⟨⟩
 refine Ae Am rfl (Ab (AI rfl (Ad (Ae Am rfl (Ab (Ax (C4 ?_)))))))
 exact Aw (.tmp rfl) (fun w h => AH () rfl [0] rfl h CK) rfl
theorem VR {p : Nat} {d d1 : DiskD} {n : List UInt8} {b2 : List UInt8} (h : Bv d = (d1, 0)) (hn : CI b2 = false) : AX Tryz.prog 49 #[.pointer (some ⟨p, 0, none⟩), .string (bs n), .string (bs b2)] [Ao p d] (fun (_ : Unit) => .int .i64 1) (fun (_ : Unit) => [Ao p d1]) := by
 refine Bg (args := [.pointer (some ⟨p, 0, none⟩), .string (bs n), .string (bs b2)]) 25 Tryz.func49 rfl rfl rfl ?_; intro w rs
 refine Ad (Ae Am rfl (Ab (Av (Ad (Ae Am rfl (Aj rfl (Ak (os' := fun _ => [Ao p d1]) [0] 0 (Ai Tryz.func30 (by kernel_rfl) rfl) (Et h) rfl rfl rfl (fun _ => rfl) rfl rfl rfl) ?_)))))); rintro ⟨⟩
 refine Ae Am rfl (Ab (As rfl (AB (AL (Av (Ad (Ae Am rfl (Aj (post := fun _ => [Ao p d1]) rfl (AU (Ai Tryz.func61 (by kernel_rfl) rfl) (fun w hH => Lv w b2 hn) rfl rfl rfl) ?_)))))))); rintro ⟨⟩
 refine Ae Am rfl (Ab (AI rfl (Ad (Ae Am rfl (Ab (Ax (C4 ?_)))))))
 exact Aw (.tmp rfl) (fun w h => AH () rfl [0] rfl h CK) rfl
theorem T7 {p : Nat} {d d1 : DiskD} {n : List UInt8} {b2 : List UInt8} (hfit : d.fit) (h : Bv d = (d1, 0)) (hn : CI b2 = true) (hg : AS d1.now n = none) : AX Tryz.prog 49 #[.pointer (some ⟨p, 0, none⟩), .string (bs n), .string (bs b2)] [Ao p d] (fun (_ : Unit) => .int .i64 4) (fun (_ : Unit) => [Ao p d1]) := by
 have hd1 := (E7 h).1
 have hfit1 := ER h hfit
 refine Bg (args := [.pointer (some ⟨p, 0, none⟩), .string (bs n), .string (bs b2)]) 25 Tryz.func49 rfl rfl rfl ?_; intro w rs
 refine Ad (Ae Am rfl (Ab (Av (Ad (Ae Am rfl (Aj rfl (Ak (os' := fun _ => [Ao p d1]) [0] 0 (Ai Tryz.func30 (by kernel_rfl) rfl) (Et h) rfl rfl rfl (fun _ => rfl) rfl rfl rfl) ?_)))))); rintro ⟨⟩
 refine Ae Am rfl (Ab (As rfl (AB (AL (Av (Ad (Ae Am rfl (Aj (post := fun _ => [Ao p d1]) rfl (AU (Ai Tryz.func61 (by kernel_rfl) rfl) (fun w hH => GL w b2 hn) rfl rfl rfl) ?_)))))))); rintro ⟨⟩
 refine Ae Am rfl (Ab (As rfl (AB (AL (Av (Be 0 rfl (D2 hd1) (fun _ => rfl) ?_)))))); rintro x
 refine BB.fact 3 rfl BR ?_; rintro hsn
 refine BB.fact 4 rfl Cl ?_; rintro hgn
 have hgL : AS x.L n = none := by rw [JW x.hg hgn] at hg; simpa using hg
 refine Ad (Ae Am rfl (Aa rfl (.pointer (some ⟨p, 0, none⟩)) (fun b w hb hH => by exact BD rfl rfl hb) (Ae Am rfl (Aa rfl (x.sh) (fun b w hb hH => Ba rfl rfl (Bm AY rfl) (hH.row 0 rfl) hb) (Ae Am rfl (Aj rfl (Ak (os' := fun _ => [cell p 70 #[.int .i64 d1.room, .int .i64 (Dn d1.fuse), .bool false, x.pv, x.sm, x.sh], Ar 103 5 encO x.pv x.W, BQ x.W, AC x.sm d1.syn, BK encKey AR x.sh x.L, BA x.L]) [4] 0 (Ai Tryz.func62 (by kernel_rfl) rfl) (Hs _ _ n _ hgL) rfl rfl rfl (fun _ => rfl) rfl rfl rfl) ?_)))))); rintro ⟨⟩
 refine Ae Am rfl (Ab (AI rfl (Ad (Ae Am rfl (Ab (Ax (C4 ?_)))))))
 exact Aw (.tmp rfl) (fun w h => AH () rfl [0, 1, 2, 3, 4, 5] rfl h (DT (os := []) x hd1)) rfl
theorem W4 {p : Nat} {d d1 : DiskD} {n : List UInt8} {b2 : List UInt8} {y : List UInt8} (hfit : d.fit) (h : Bv d = (d1, 0)) (hn : CI b2 = true) (hg : AS d1.now n = some y) : AX Tryz.prog 49 #[.pointer (some ⟨p, 0, none⟩), .string (bs n), .string (bs b2)] [Ao p d] (fun (_ : Unit) => .int .i64 0) (fun (_ : Unit) => [Ao p (Cp d1 (.ren n b2))]) := by
 have hd1 := (E7 h).1
 have hfit1 := ER h hfit
 have hg_ := hg
 refine Bg (args := [.pointer (some ⟨p, 0, none⟩), .string (bs n), .string (bs b2)]) 25 Tryz.func49 rfl rfl rfl ?_; intro w rs
 refine Ad (Ae Am rfl (Ab (Av (Ad (Ae Am rfl (Aj rfl (Ak (os' := fun _ => [Ao p d1]) [0] 0 (Ai Tryz.func30 (by kernel_rfl) rfl) (Et h) rfl rfl rfl (fun _ => rfl) rfl rfl rfl) ?_)))))); rintro ⟨⟩
 refine Ae Am rfl (Ab (As rfl (AB (AL (Av (Ad (Ae Am rfl (Aj (post := fun _ => [Ao p d1]) rfl (AU (Ai Tryz.func61 (by kernel_rfl) rfl) (fun w hH => GL w b2 hn) rfl rfl rfl) ?_)))))))); rintro ⟨⟩
 refine Ae Am rfl (Ab (As rfl (AB (AL (Av (Be 0 rfl (D2 hd1) (fun _ => rfl) ?_)))))); rintro x
 refine BB.fact 3 rfl BR ?_; rintro hsn
 refine BB.fact 4 rfl Cl ?_; rintro hgn
 obtain ⟨r, hgL, hry⟩ : ∃ r, AS x.L n = some r ∧ r.2 = y := by rw [JW x.hg hgn] at hg; exact Option.map_eq_some_iff.1 hg
 subst hry
 have hm : (n, r) ∈ x.L := (Cz (by rw [E6] at hgn; exact hgn)).1 hgL
 refine Ad (Ae Am rfl (Aa rfl (.pointer (some ⟨p, 0, none⟩)) (fun b w hb hH => by exact BD rfl rfl hb) (Ae Am rfl (Aa rfl (x.sh) (fun b w hb hH => Ba rfl rfl (Bm AY rfl) (hH.row 0 rfl) hb) (Ae Am rfl (Aj rfl (Ak (os' := fun _ => [cell p 70 #[.int .i64 d1.room, .int .i64 (Dn d1.fuse), .bool false, x.pv, x.sm, x.sh], Ar 103 5 encO x.pv x.W, BQ x.W, AC x.sm d1.syn, BK encKey AR x.sh x.L, BA x.L]) [4] 0 (Ai Tryz.func62 (by kernel_rfl) rfl) (Hs _ _ n _ hgL) rfl rfl rfl (fun _ => rfl) rfl rfl rfl) ?_)))))); rintro ⟨⟩
 refine Ae Am rfl (Ab (As rfl (AB (AL (Bi [0, 1, 2, 3, 4, 5] rfl (Jn x hd1) rfl (B6 5 1 encB (Ad (Ae Am rfl (Aa rfl (.agg #[.int .i64 2, .string (bs n), .slice none 0 0, .int .i64 0, .string (bs b2)]) (fun b w hb hH => Bn rfl rfl (by kernel_rfl) hb) (Aj rfl (Ak (os' := fun _ => [DN, Ao p (Cp d1 (⟨.ren n b2, none, 0⟩ : OpV).o)]) [1, 0] 0 (Ai Tryz.func63 (by kernel_rfl) rfl) (Nk (x := ⟨.ren n b2, none, 0⟩) hd1 hfit1 ⟨⟨_, hg_⟩, hn⟩ (Nat.zero_le _)) rfl rfl rfl (fun _ => rfl) rfl rfl rfl) ?_)))))))))); rintro ⟨⟩
 refine Cf.leave [0] rfl rfl (Ae Am rfl (Ab (Ax ?_)))
 exact Aw (.tmp rfl) (fun w h => AH () rfl [0] rfl h CK) rfl
theorem OC {p : Nat} {d d' : DiskD} {n b : List UInt8} {e : Nat} (hd : d.fit) (h : Ie d n b = (d', e)) : AX Tryz.prog 49 #[.pointer (some ⟨p, 0, none⟩), .string (bs n), .string (bs b)] [Ao p d] (fun _ : Unit => .int .i64 (e : Int)) (fun _ => [Ao p d']) := by
  unfold Ie at h
  obtain ⟨d1, e1, h1⟩ : ∃ d1 e1, Bv d = (d1, e1) := ⟨_, _, rfl⟩
  have h01 := Jp d
  rw [h1] at h h01
  simp only at h h01
  rcases h01 with rfl | rfl
  · rw [if_pos (by decide)] at h
    cases h
    exact W3 h1
  · rw [if_neg (by decide)] at h
    cases hn : CI b
    · rw [hn, if_pos rfl] at h
      cases h
      exact VR h1 hn
    · rw [hn, if_neg (by decide)] at h
      cases hg : AS d1.now n with
      | none => rw [hg] at h; cases h; exact T7 hd h1 hn hg
      | some y => rw [hg] at h; cases h; exact W4 hd h1 hn hg
def Rh (d : DiskD) (r : Int) : DiskD × Nat := if 0 ≤ r ∧ r ≤ 1048576 then ({ d with room := r }, 0) else (d, 1)
theorem VS {p : Nat} {d : DiskD} {r : Int} (hr : 0 ≤ r ∧ r ≤ 1048576) : AX Tryz.prog 29 #[.pointer (some ⟨p, 0, none⟩), .int .i64 r] [Ao p d] (fun (_ : Unit) => .int .i64 0) (fun (_ : Unit) => [Ao p ({ d with room := r })]) := by
 refine Bg (args := [.pointer (some ⟨p, 0, none⟩), .int .i64 r]) 12 Tryz.func29 rfl rfl rfl ?_; intro w rs
 refine Ad (Ae Am rfl (Ab (Av (Ad (Ae Am rfl (Aj (post := fun _ => [Ao p d]) rfl (AU (Ai Tryz.func60 (by kernel_rfl) rfl) (fun w hH => Lu w r hr) rfl rfl rfl) ?_)))))); rintro ⟨⟩
 refine Ae Am rfl (Ab (As rfl (AB (AL (Be 0 rfl Gi (fun _ => rfl) ?_))))); rintro x
 refine Ad (Ae Am rfl (Aa rfl (.pointer (some ⟨p, 0, none⟩)) (fun b w hb hH => by exact BD rfl rfl hb) (Ae Am rfl (AF (post := fun _ => [cell p 70 #[.int .i64 r, .int .i64 (Dn d.fuse), .bool d.down, x.pv, x.sm, x.sh], Ar 103 5 encO x.pv x.W, BQ x.W, AC x.sm d.syn, On d.down x.sh x.g]) rfl rfl (AE 0 (v := .int .i64 r) #[.int .i64 r, .int .i64 (Dn d.fuse), .bool d.down, x.pv, x.sm, x.sh] Bc.2 rfl rfl rfl rfl rfl rfl rfl rfl rfl) ?_)))); rintro ⟨⟩
 refine Ab (Ad (Ae Am rfl (Ab (Ax ?_))))
 exact Aw (.tmp rfl) (fun w h => AH () rfl [0, 1, 2, 3, 4] rfl h (H7 (os := []) (d := { d with room := r }) ⟨x.pv, x.sm, x.sh, x.W, x.g, x.hW, x.hg, x.hok, x.hf, hr, x.hk⟩)) rfl
theorem VT {p : Nat} {d : DiskD} {r : Int} (hr : ¬ (0 ≤ r ∧ r ≤ 1048576)) : AX Tryz.prog 29 #[.pointer (some ⟨p, 0, none⟩), .int .i64 r] [Ao p d] (fun (_ : Unit) => .int .i64 1) (fun (_ : Unit) => [Ao p d]) := by
 refine Bg (args := [.pointer (some ⟨p, 0, none⟩), .int .i64 r]) 12 Tryz.func29 rfl rfl rfl ?_; intro w rs
 refine Ad (Ae Am rfl (Ab (Av (Ad (Ae Am rfl (Aj (post := fun _ => [Ao p d]) rfl (AU (Ai Tryz.func60 (by kernel_rfl) rfl) (fun w hH => PU w r hr) rfl rfl rfl) ?_)))))); rintro ⟨⟩
 refine Ae Am rfl (Ab (AI rfl (Ad (Ae Am rfl (Ab (Ax (C4 ?_)))))))
 exact Aw (.tmp rfl) (fun w h => AH () rfl [0] rfl h CK) rfl
theorem St {p : Nat} {d d' : DiskD} {r : Int} {e : Nat} (h : Rh d r = (d', e)) : AX Tryz.prog 29 #[.pointer (some ⟨p, 0, none⟩), .int .i64 r] [Ao p d] (fun _ : Unit => .int .i64 (e : Int)) (fun _ => [Ao p d']) := by
  unfold Rh at h
  by_cases hr : 0 ≤ r ∧ r ≤ 1048576
  · rw [if_pos hr] at h; cases h; exact VS hr
  · rw [if_neg hr] at h; cases h; exact VT hr
end Go.Proofs.YtjcfimmcogkopaaGreat.Sep
namespace Go.Proofs.YtjcfimmcogkopaaGreat.Sep
open Go.RowKit Go.Maps Go.Sort Go.Shelf
open Go.Proofs.YtjcfimmcogkopaaGreat.Mem (Bh Cs Chg AA)
def keysL_ren : Go.Shelf.Ren := ⟨fun | 7 => 88 | 10 => 99 | n => n, fun | 23 => 68 | 26 => 9 | 3 => 32 | 28 => 123 | 0 => 0 | 27 => 122 | 33 => 99 | 4 => 4 | n => n, fun | n => n⟩
theorem Ri : Go.Proofs.SlLaysZ.n7 Tryz.prog keysL_ren := {
 mixed := by kernel_rfl
 f7 := ⟨Tryz.f88.name, by decide, Tryz.func88.trans (congrArg some (by kernel_rfl))⟩
 f10 := ⟨Tryz.f99.name, by decide, Tryz.func99.trans (congrArg some (by kernel_rfl))⟩
 t0 := Tryz.underlying0
 a0 := Tryz.isAgg0
 z0 := Tryz.sizeOf0
 v0 := Tryz.zeroValue0
 t4 := Tryz.underlying4
 a4 := Tryz.isAgg4
 z4 := Tryz.sizeOf4
 v4 := Tryz.zeroValue4
 t23 := Tryz.underlying68
 a23 := Tryz.isAgg68
 z23 := Tryz.sizeOf68
 v23 := Tryz.zeroValue68
 t26 := Tryz.underlying9
 a26 := Tryz.isAgg9
 z26 := Tryz.sizeOf9
 v26 := Tryz.zeroValue9
 t27 := Tryz.underlying122
 a27 := Tryz.isAgg122
 z27 := Tryz.sizeOf122
 v27 := Tryz.zeroValue122
 t28 := Tryz.underlying123
 a28 := Tryz.isAgg123
 z28 := Tryz.sizeOf123
 v28 := Tryz.zeroValue123
 t33 := Tryz.underlying99
 a33 := Tryz.isAgg99
 z33 := Tryz.sizeOf99
 v33 := Tryz.zeroValue99 }
def sortedL_ren : Go.Shelf.Ren := ⟨fun | 6 => 87 | 8 => 97 | 9 => 98 | 11 => 103 | 13 => 105 | 12 => 104 | 23 => 116 | 24 => 117 | 14 => 107 | 15 => 108 | 16 => 109 | 17 => 110 | 18 => 111 | 19 => 112 | 20 => 113 | 21 => 114 | 22 => 115 | 25 => 118 | 26 => 119 | 27 => 120 | 28 => 121 | 29 => 122 | 30 => 123 | 31 => 124 | n => n, fun | 26 => 9 | 28 => 123 | 24 => 93 | 0 => 0 | 3 => 3 | 37 => 98 | 48 => 96 | 50 => 29 | 4 => 4 | 40 => 146 | 39 => 145 | 45 => 151 | 5 => 5 | 9 => 9 | 51 => 155 | 55 => 159 | 57 => 161 | 58 => 162 | 33 => 99 | n => n, fun | n => n⟩
theorem Rj : Go.Proofs.SlLaysZ.n6 Tryz.prog sortedL_ren := {
 mixed := by kernel_rfl
 f6 := ⟨Tryz.f87.name, by decide, Tryz.func87.trans (congrArg some (by kernel_rfl))⟩
 f8 := ⟨Tryz.f97.name, by decide, Tryz.func97.trans (congrArg some (by kernel_rfl))⟩
 f11 := ⟨Tryz.f103.name, by decide, Tryz.func103.trans (congrArg some (by kernel_rfl))⟩
 t0 := Tryz.underlying0
 a0 := Tryz.isAgg0
 z0 := Tryz.sizeOf0
 v0 := Tryz.zeroValue0
 t24 := Tryz.underlying93
 a24 := Tryz.isAgg93
 z24 := Tryz.sizeOf93
 v24 := Tryz.zeroValue93
 t26 := Tryz.underlying9
 a26 := Tryz.isAgg9
 z26 := Tryz.sizeOf9
 v26 := Tryz.zeroValue9
 t28 := Tryz.underlying123
 a28 := Tryz.isAgg123
 z28 := Tryz.sizeOf123
 v28 := Tryz.zeroValue123
 i26 := by kernel_rfl }
def sortL_ren : Go.Shelf.Ren := ⟨fun | 6 => 98 | 8 => 105 | 9 => 104 | 19 => 116 | 20 => 117 | 21 => 107 | 22 => 108 | 23 => 109 | 24 => 110 | 25 => 111 | 26 => 112 | 27 => 113 | 28 => 114 | 29 => 115 | 36 => 118 | 31 => 119 | 32 => 120 | 37 => 121 | 38 => 122 | 39 => 123 | 41 => 124 | n => n, fun | 27 => 93 | 29 => 9 | 3 => 3 | 32 => 98 | 26 => 93 | 0 => 0 | 44 => 96 | 46 => 29 | 4 => 4 | 36 => 146 | 35 => 145 | 41 => 151 | 5 => 5 | 9 => 9 | 53 => 155 | 57 => 159 | 63 => 161 | 64 => 162 | n => n, fun | n => n⟩
theorem Wo : Go.Proofs.SlLaysM.n6 Tryz.prog sortL_ren := {
 mixed := by kernel_rfl
 f6 := ⟨Tryz.f98.name, by decide, Tryz.func98.trans (congrArg some (by kernel_rfl))⟩
 f8 := Tryz.func105.trans (congrArg some (by kernel_rfl))
 f9 := ⟨Tryz.f104.name, by decide, Tryz.func104.trans (congrArg some (by kernel_rfl))⟩
 f19 := Tryz.func116.trans (congrArg some (by kernel_rfl))
 f20 := Tryz.func117.trans (congrArg some (by kernel_rfl))
 f21 := ⟨Tryz.f107.name, by decide, Tryz.func107.trans (congrArg some (by kernel_rfl))⟩
 f22 := ⟨Tryz.f108.name, by decide, Tryz.func108.trans (congrArg some (by kernel_rfl))⟩
 f23 := ⟨Tryz.f109.name, by decide, Tryz.func109.trans (congrArg some (by kernel_rfl))⟩
 f24 := ⟨Tryz.f110.name, by decide, Tryz.func110.trans (congrArg some (by kernel_rfl))⟩
 f25 := ⟨Tryz.f111.name, by decide, Tryz.func111.trans (congrArg some (by kernel_rfl))⟩
 f26 := ⟨Tryz.f112.name, by decide, Tryz.func112.trans (congrArg some (by kernel_rfl))⟩
 f27 := ⟨Tryz.f113.name, by decide, Tryz.func113.trans (congrArg some (by kernel_rfl))⟩
 f28 := ⟨Tryz.f114.name, by decide, Tryz.func114.trans (congrArg some (by kernel_rfl))⟩
 f29 := ⟨Tryz.f115.name, by decide, Tryz.func115.trans (congrArg some (by kernel_rfl))⟩
 f31 := Tryz.func119.trans (congrArg some (by kernel_rfl))
 f32 := Tryz.func120.trans (congrArg some (by kernel_rfl))
 f36 := ⟨Tryz.f118.name, by decide, Tryz.func118.trans (congrArg some (by kernel_rfl))⟩
 f37 := ⟨Tryz.f121.name, by decide, Tryz.func121.trans (congrArg some (by kernel_rfl))⟩
 f38 := ⟨Tryz.f122.name, by decide, Tryz.func122.trans (congrArg some (by kernel_rfl))⟩
 f39 := ⟨Tryz.f123.name, by decide, Tryz.func123.trans (congrArg some (by kernel_rfl))⟩
 f41 := ⟨Tryz.f124.name, by decide, Tryz.func124.trans (congrArg some (by kernel_rfl))⟩
 t0 := Tryz.underlying0
 a0 := Tryz.isAgg0
 z0 := Tryz.sizeOf0
 v0 := Tryz.zeroValue0
 t3 := Tryz.underlying3
 a3 := Tryz.isAgg3
 z3 := Tryz.sizeOf3
 v3 := Tryz.zeroValue3
 t4 := Tryz.underlying4
 a4 := Tryz.isAgg4
 z4 := Tryz.sizeOf4
 v4 := Tryz.zeroValue4
 t5 := Tryz.underlying5
 a5 := Tryz.isAgg5
 z5 := Tryz.sizeOf5
 v5 := Tryz.zeroValue5
 t9 := Tryz.underlying9
 a9 := Tryz.isAgg9
 z9 := Tryz.sizeOf9
 v9 := Tryz.zeroValue9
 t26 := Tryz.underlying93
 a26 := Tryz.isAgg93
 z26 := Tryz.sizeOf93
 v26 := Tryz.zeroValue93
 t27 := Tryz.underlying93
 a27 := Tryz.isAgg93
 z27 := Tryz.sizeOf93
 v27 := Tryz.zeroValue93
 t29 := Tryz.underlying9
 a29 := Tryz.isAgg9
 z29 := Tryz.sizeOf9
 v29 := Tryz.zeroValue9
 t32 := Tryz.underlying98
 a32 := Tryz.isAgg98
 z32 := Tryz.sizeOf98
 v32 := Tryz.zeroValue98
 t35 := Tryz.underlying145
 a35 := Tryz.isAgg145
 z35 := Tryz.sizeOf145
 v35 := Tryz.zeroValue145
 t36 := Tryz.underlying146
 a36 := Tryz.isAgg146
 z36 := Tryz.sizeOf146
 v36 := Tryz.zeroValue146
 t41 := Tryz.underlying151
 a41 := Tryz.isAgg151
 z41 := Tryz.sizeOf151
 v41 := Tryz.zeroValue151
 t44 := Tryz.underlying96
 a44 := Tryz.isAgg96
 z44 := Tryz.sizeOf96
 v44 := Tryz.zeroValue96
 t46 := Tryz.underlying29
 a46 := Tryz.isAgg29
 z46 := Tryz.sizeOf29
 v46 := Tryz.zeroValue29
 t53 := Tryz.underlying155
 a53 := Tryz.isAgg155
 z53 := Tryz.sizeOf155
 v53 := Tryz.zeroValue155
 t57 := Tryz.underlying159
 a57 := Tryz.isAgg159
 z57 := Tryz.sizeOf159
 v57 := Tryz.zeroValue159
 t63 := Tryz.underlying161
 a63 := Tryz.isAgg161
 z63 := Tryz.sizeOf161
 v63 := Tryz.zeroValue161
 t64 := Tryz.underlying162
 a64 := Tryz.isAgg162
 z64 := Tryz.sizeOf162
 v64 := Tryz.zeroValue162 }
theorem T8 (m : Nat) : AnyZ.SortsIn Tryz.prog sortedL_ren Fence.wide m :=
  ⟨fun blk off cap ss W hH hblk hsz => callsIn_wide.2 (AnyM.slices_Sort_string Wo blk off cap ss W hH hblk hsz),
   fun p cap W => callsIn_wide.2 (AnyM.slices_Sort_string_none Wo p cap W)⟩
theorem T9 : AX Tryz.prog 88 #[.map none] [] (fun g : Nat => .func (.func 99) #[] #[.pointer (some ⟨g, 0, none⟩)]) (fun g => [cell g 68 #[.map none]]) := fun w rs h1 h2 h3 => by
 obtain rfl : rs = [] := h1
 refine (callsIn_wide.1 (AnyZ.keys_in Ri Fence.wide 5 trivial rfl none w)).mono ?_
 rintro e w' ⟨rfl, rfl⟩
 refine ⟨w.heap.size, rfl, [(w.heap.size, Ez 68, #[.map none])], ⟨_, [], rfl, rfl, rfl⟩, ?_⟩
 exact FW (rs := []) trivial trivial ((Below.refl _ w).alloc (Nat.le_refl _) _) ⟨heap_alloc_new w _, trivial⟩ ⟨(fun _ h => by cases h), trivial⟩ fun x hx => by rw [List.mem_singleton.1 hx]; exact Nat.le_refl _
theorem PX (w : World) (g : Nat) (hg : w.heap[g]? = some (.cells #[.map none] 68 (0, 0))) : Calls Tryz.prog 87 #[.func (.func 99) #[] #[.pointer (some ⟨g, 0, none⟩)]] w fun e w' => e = .returned (.slice none 0 0) ∧ Below w.heap.size w w' := by
 have hlt := (Array.getElem?_eq_some_iff.1 hg).1
 have hc : w.cell? ⟨g, 0, none⟩ = some (.map none) := by simp [World.cell?, hg]
 have hseq : SeqGives Fence.wide 2 Tryz.prog 99 #[.pointer (some ⟨g, 0, none⟩)] encStr (fun ss : List (List UInt8) => ss = []) 0 w :=
  AnyZ.keys_gives_nil (ρ := keysL_ren) { Ri with } Fence.wide _ trivial rfl g w hlt hc
 refine (callsIn_wide.1 (AnyZ.sorted_in Rj Fence.wide 5 trivial trivial trivial trivial rfl (by omega) (T8 _) (enters_of Tryz.func98 (by kernel_rfl) rfl) 99 #[.pointer (some ⟨g, 0, none⟩)] trivial (enters_of Tryz.func99 (by kernel_rfl) rfl) _ 0 (Nat.zero_le _) (by omega) _ hseq)).mono ?_
 rintro e w' ⟨v, ss, rfl, hS, _, hnil, hb⟩
 rw [hnil.2 hS]
 exact ⟨rfl, hb⟩
theorem PY {p : Nat} {d : DiskD} (h : d.down = true) : AX Tryz.prog 53 #[.pointer (some ⟨p, 0, none⟩)] [Ao p d] (fun (v : Value) => v) (fun (v : Value) => [Ao p d, Ar 9 1 encKs v ([])]) := by
 have hd := h
 refine Bg (args := [.pointer (some ⟨p, 0, none⟩)]) 9 Tryz.func53 rfl rfl rfl ?_; intro w rs
 refine Be 0 rfl (KA hd) (fun _ => rfl) ?_; rintro x
 refine B6 9 1 encKs (Ad (Ae Am rfl (Ab (Ad (Ae Am rfl (Aa rfl (.pointer (some ⟨p, 0, none⟩)) (fun b w hb hH => by exact BD rfl rfl hb) (Ae Am rfl (Aa rfl (.map none) (fun b w hb hH => Ba rfl rfl (Bm AY rfl) (hH.row 1 rfl) hb) (Aj rfl (Ak (os' := fun g => [cell g 68 #[.map none], Ar 9 1 encKs (.slice none 0 0) ([]), cell p 70 #[.int .i64 d.room, .int .i64 (Dn d.fuse), .bool true, x.pv, x.sm, .map none], Ar 103 5 encO x.pv x.W, BQ x.W, AC x.sm d.syn]) [] 0 (Ai Tryz.func88 (by kernel_rfl) rfl) (T9) rfl rfl rfl (fun _ => rfl) rfl rfl rfl) ?_))))))))); rintro g
 refine Aj (post := fun _ => [cell g 68 #[.map none], Ar 9 1 encKs (.slice none 0 0) ([]), cell p 70 #[.int .i64 d.room, .int .i64 (Dn d.fuse), .bool true, x.pv, x.sm, .map none], Ar 103 5 encO x.pv x.W, BQ x.W, AC x.sm d.syn]) rfl (AU (Ai Tryz.func87 (by kernel_rfl) rfl) (fun w hH => PX w g (hH.row 0 rfl)) rfl rfl rfl) ?_; rintro ⟨⟩
 refine Ae Am rfl (Ab (Ax ?_))
 exact Aw (.tmp rfl) (fun w h => AH (.slice none 0 0) rfl [2, 3, 4, 5, 1] rfl h (Jm ⟨x.pv, x.sm, .map none, x.W, [], x.hW, (fun h => by rw [hd] at h; cases h), x.hok, x.hf, x.hr, x.hk⟩ hd rfl)) rfl
end Go.Proofs.YtjcfimmcogkopaaGreat.Sep
namespace Go.Proofs.YtjcfimmcogkopaaGreat.Sep
open Go.RowKit Go.Maps Go.Sort Go.Shelf
open Go.Proofs.YtjcfimmcogkopaaGreat.Mem (Bh Cs Chg AA)
theorem Su (b0 : Nat) : AX Tryz.prog 88 #[.map (some b0)] [] (fun g : Nat => .func (.func 99) #[] #[.pointer (some ⟨g, 0, none⟩)]) (fun g => [cell g 68 #[.map (some b0)]]) := fun w rs h1 h2 h3 => by
 obtain rfl : rs = [] := h1
 refine (callsIn_wide.1 (AnyZ.keys_in Ri Fence.wide 5 trivial rfl (some b0) w)).mono ?_
 rintro e w' ⟨rfl, rfl⟩
 refine ⟨w.heap.size, rfl, [(w.heap.size, Ez 68, #[.map (some b0)])], ⟨_, [], rfl, rfl, rfl⟩, ?_⟩
 exact FW (rs := []) trivial trivial ((Below.refl _ w).alloc (Nat.le_refl _) _) ⟨heap_alloc_new w _, trivial⟩ ⟨(fun _ h => by cases h), trivial⟩ fun x hx => by rw [List.mem_singleton.1 hx]; exact Nat.le_refl _
def ES (f : FS) : List (List UInt8) := (AO f).mergeSort fun x y => decide (x ≤ y)
theorem Kj {f g : FS} (h : f.Perm g) : ES f = ES g := mergeSort_of_perm (CY h)
def PZ (_ : Value) : Option (DataW Unit × List MemPlace) := some (.nil, [])
theorem OD (n : List UInt8) (h : n.length ≤ 16) : keyOf Tryz.prog 9 (.string (bs n)) = some (.string n) := by
 rw [Go.WideMaps.keyOf_string_mk Tryz.underlying9 (by show n.toArray.size ≤ maxLen; simp; unfold maxLen; omega)]
 rfl
theorem Ua (x : MapEntry) (n : List UInt8) (h : n.length ≤ 16) (hx : x.key = .string (bs n)) : Go.WideElems.rg Tryz.prog 9 PZ x = (.string n, .nil) := by
 unfold Go.WideElems.rg Go.WideElems.rd
 rw [hx, OD n h]; rfl
theorem P0 {w : World} {b0 c : Nat} {es : Array MapEntry} {L : FilL} (hb : w.heap[b0]? = some (.map es c)) (hL : MapL encKey AR es c L) (hn : ∀ k, k ∈ AO L → k.length ≤ 16) (hs : L.length ≤ 1000000) : ∃ D : DataW Unit, w.ownsMap Tryz.prog 9 PZ b0 L.length D ∧ (strKeys D).Perm (AO L) ∧ Maps.size D = L.length := by
  have hkey : ∀ x, x ∈ es.toList → ∃ p, p ∈ L ∧ x.key = .string (bs p.1) := fun x hx => by
    have h1 : (x.key, x.val) ∈ L.map fun p => (encKey p.1, AR p.2) := by rw [← hL.at_]; exact List.mem_map_of_mem (f := fun x : MapEntry => (x.key, x.val)) hx
    obtain ⟨p, hp, he⟩ := List.mem_map.1 h1
    exact ⟨p, hp, (congrArg Prod.fst he).symm⟩
  have hrg : es.toList.map (Go.WideElems.rg Tryz.prog 9 PZ) = L.map fun p => ((Lit.string p.1, DataW.nil) : Lit × DataW Unit) := by
    have h1 : es.toList.map (Go.WideElems.rg Tryz.prog 9 PZ) = (es.toList.map (fun x => (x.key, x.val))).map fun y => Go.WideElems.rg Tryz.prog 9 PZ { key := y.1, val := y.2, born := 0 } := by
      rw [List.map_map]
      exact List.map_congr_left fun x hx => by
        obtain ⟨p, hp, e⟩ := hkey x hx
        have h2 := hn p.1 (List.mem_map_of_mem hp)
        rw [Ua x p.1 h2 e]
        exact (Ua _ p.1 h2 e).symm
    rw [h1, hL.at_, List.map_map]
    exact List.map_congr_left fun p hp => Ua _ p.1 (hn p.1 (List.mem_map_of_mem hp)) rfl
  have hfit : Go.WideElems.Fit Tryz.prog 9 PZ es c := by
    refine ⟨by rw [hL.len]; unfold maxLen; omega, ⟨hL.old, hL.born, ?_⟩, fun x hx => ?_⟩
    · have h1 : es.toList.map (·.key) = L.map fun p => encKey p.1 := by
        have := congrArg (List.map Prod.fst) hL.at_
        rw [List.map_map, List.map_map] at this
        exact this
      rw [h1]
      have h2 : (L.map fun p => encKey p.1) = (AO L).map encKey := by unfold AO; rw [List.map_map]; rfl
      rw [h2]
      refine List.Pairwise.map encKey ?_ hL.keys
      intro a b hab e
      exact hab (Tj (by simpa [encKey] using e))
    · obtain ⟨p, hp, e⟩ := hkey x hx
      refine ⟨(.string p.1, .nil), ?_⟩
      unfold Go.WideElems.rd
      rw [e, OD p.1 (hn p.1 (List.mem_map_of_mem hp))]; rfl
  refine ⟨_, ⟨es, c, hb, hfit, by rw [hL.len]; exact Nat.le_refl _, rfl⟩, ?_, ?_⟩
  · have h1 := ((Go.WideShapes.sorted_perm (es.toList.map (Go.WideElems.rg Tryz.prog 9 PZ))).map fun p => strOf p.1)
    rw [hrg] at h1
    have h2 : (L.map fun p => ((Lit.string p.1, DataW.nil) : Lit × DataW Unit)).map (fun p => strOf p.1) = AO L := by rw [List.map_map]; rfl
    rw [h2] at h1
    show (List.map (fun p : Lit × DataW Unit => strOf p.1) _).Perm _
    rw [hrg]; exact h1
  · show (List.foldr DataW.insert [] _).length = _
    rw [length_sorted, hrg, List.length_map]
theorem OE (w : World) {g b0 c : Nat} {es : Array MapEntry} {L : FilL} (hg : w.heap[g]? = some (.cells #[.map (some b0)] 68 (0, 0))) (hb : w.heap[b0]? = some (.map es c)) (hL : MapL encKey AR es c L) (hn : ∀ k, k ∈ AO L → k.length ≤ 16) (hs : L.length ≤ 1000000) : Calls Tryz.prog 87 #[.func (.func 99) #[] #[.pointer (some ⟨g, 0, none⟩)]] w fun e w' => ∃ v, e = .returned v ∧ w'.ownsRow w.heap.size 9 1 v (AO L).length ((((AO L).mergeSort fun x y => decide (x ≤ y))).map encStr) ∧ Below w.heap.size w w' := by
 have hlt := (Array.getElem?_eq_some_iff.1 hg).1
 have hc : w.cell? ⟨g, 0, none⟩ = some (.map (some b0)) := by simp [World.cell?, hg]
 obtain ⟨D, hown, hperm, hsz⟩ := P0 hb hL hn hs
 have hseq : SeqGives Fence.wide 2 Tryz.prog 99 #[.pointer (some ⟨g, 0, none⟩)] encStr (fun ss : List (List UInt8) => ss.Perm (strKeys D)) (Maps.size D) w :=
  AnyZ.keys_gives (ρ := keysL_ren) { Ri with } Fence.wide _ trivial rfl (by omega) g b0 L.length D w hlt hc hown
 refine (callsIn_wide.1 (AnyZ.sorted_in Rj Fence.wide 5 trivial trivial trivial trivial rfl (by omega) (T8 _) (enters_of Tryz.func98 (by kernel_rfl) rfl) 99 #[.pointer (some ⟨g, 0, none⟩)] trivial (enters_of Tryz.func99 (by kernel_rfl) rfl) _ (Maps.size D) (by rw [hsz]; unfold maxLen; omega) (by rw [hsz]; omega) _ hseq)).mono ?_
 rintro e w' ⟨v, ss, rfl, hS, hrow, hnil, hb'⟩
 have hp : ss.Perm (AO L) := hS.trans hperm
 refine ⟨v, rfl, ?_, hb'⟩
 rw [← hp.length_eq, ← mergeSort_of_perm hp]
 exact hrow
theorem VU {w' : World} {base : Nat} {v : Value} {l : List (List UInt8)} (h : w'.ownsRow base 9 1 v l.length (l.map encStr)) : ∃ rs, Ar 9 1 encKs v l rs ∧ RowsOf w' rs ∧ Bh rs ∧ ∀ x ∈ rs, base ≤ x.1 := by
  have hf : l.map encStr = flat encKs l := by
    induction l with
    | nil => rfl
    | cons x r ih =>
      rw [List.map_cons, Ec, ← (by
        clear ih h
        induction r with
        | nil => rfl
        | cons y q ih => rw [List.map_cons, Ec, ih]; rfl : r.map encStr = flat encKs r)]
      rfl
  rcases h.2 with ⟨h1, h2⟩ | ⟨g, cap, cur, h1, h2, h3, h4, h5, h6, h7⟩
  · have : l = [] := List.eq_nil_of_length_eq_zero h2
    subst this
    exact ⟨[], .inl ⟨h1, rfl, rfl⟩, trivial, trivial, fun x hx => by cases hx⟩
  · refine ⟨[(g, Ez 9, cur)], .inr ⟨g, cap, cur, h1, h4, h5, h6, by rw [h7, hf], rfl⟩, ⟨h3, trivial⟩, ⟨(fun _ h => by cases h), trivial⟩, fun x hx => by rw [List.mem_singleton.1 hx]; exact h2⟩
theorem OF {g b0 : Nat} {L : FilL} (hn : ∀ k, k ∈ AO L → k.length ≤ 16) (hs : L.length ≤ 1000000) : AX Tryz.prog 87 #[.func (.func 99) #[] #[.pointer (some ⟨g, 0, none⟩)]] [cell g 68 #[.map (some b0)], BK encKey AR (.map (some b0)) L] (fun v : Value => v) (fun v => [cell g 68 #[.map (some b0)], BK encKey AR (.map (some b0)) L, Ar 9 1 encKs v ((AO L).mergeSort fun x y => decide (x ≤ y))]) := fun w rs h1 h2 h3 => by
 obtain ⟨a, r, rfl, rfl, b, r2, rfl, ⟨g2, es, c, e1, rfl, hL⟩, rfl⟩ := h1
 cases e1
 have hr := AT.1 h2
 have hg := hr _ (List.mem_append.2 (.inl (List.mem_singleton.2 rfl)))
 have hb : w.heap[b0]? = some (.map es c) := DE.1 (hr (b0, none, Fc es c) (by simp))
 refine (OE w hg hb hL hn hs).mono ?_
 rintro e w' ⟨v, he, hrow, hbl⟩
 have hlen : (AO L).length = ((AO L).mergeSort fun x y => decide (x ≤ y)).length := (List.length_mergeSort _).symm
 rw [hlen] at hrow
 obtain ⟨rs', hv, hr', hd', hx'⟩ := VU hrow
 exact ⟨v, he, _, ⟨_, _, List.append_assoc .., rfl, _, _, rfl, ⟨b0, es, c, rfl, rfl, hL⟩, Al.one hv⟩, by simpa using FW h2 h3 hbl hr' hd' hx'⟩
theorem OG {p : Nat} {d : DiskD} {ss : List (List UInt8)} (hd : d.down = false) (hs : d.now.length ≤ 1000000) (hss : ES d.now = ss) : AX Tryz.prog 53 #[.pointer (some ⟨p, 0, none⟩)] [Ao p d] (fun (v : Value) => v) (fun (v : Value) => [Ao p d, Ar 9 1 encKs v ss]) := by
 refine Bg (args := [.pointer (some ⟨p, 0, none⟩)]) 9 Tryz.func53 rfl rfl rfl ?_; intro w rs
 refine Be 0 rfl (D2 hd) (fun _ => rfl) ?_; rintro x
 refine BB.fact 3 rfl BR ?_; rintro hsn
 refine BB.fact 4 rfl Cl ?_; rintro hgn
 refine BB.fact 4 rfl (fun _ h => BK.is _ h) ?_; rintro ⟨mb, hmb⟩
 have hLn : x.L.length ≤ 1000000 := by have := x.hg.length_eq; simp only [Cm, List.length_map] at this; omega
 have hk16 : ∀ k, k ∈ AO x.L → k.length ≤ 16 := fun k hk => ((H0 k).1 (Mp hsn x.hk x.hok k ((CY x.hg).mem_iff.1 (by rw [E6]; exact hk)))).2
 have hsk : (AO x.L).mergeSort (fun x y => decide (x ≤ y)) = ss := by rw [← hss, ← Kj x.hg]; unfold ES; rw [E6]
 rw [hmb]
 refine Ad (Ae Am rfl (Ab (Ad (Ae Am rfl (Aa rfl (.pointer (some ⟨p, 0, none⟩)) (fun b w hb hH => by exact BD rfl rfl hb) (Ae Am rfl (Aa rfl (.map (some mb)) (fun b w hb hH => Ba rfl rfl (Bm AY rfl) (hH.row 0 rfl) hb) (Aj rfl (Ak (os' := fun g => [cell g 68 #[.map (some mb)], cell p 70 #[.int .i64 d.room, .int .i64 (Dn d.fuse), .bool false, x.pv, x.sm, .map (some mb)], Ar 103 5 encO x.pv x.W, BQ x.W, AC x.sm d.syn, BK encKey AR (.map (some mb)) x.L, BA x.L]) [] 0 (Ai Tryz.func88 (by kernel_rfl) rfl) (Su mb) rfl rfl rfl (fun _ => rfl) rfl rfl rfl) ?_)))))))); rintro g
 refine Aj rfl (Ak (os' := fun v9 => [Ar 9 1 encKs v9 ((AO x.L).mergeSort (fun x y => decide (x ≤ y))), cell g 68 #[.map (some mb)], cell p 70 #[.int .i64 d.room, .int .i64 (Dn d.fuse), .bool false, x.pv, x.sm, .map (some mb)], Ar 103 5 encO x.pv x.W, BQ x.W, AC x.sm d.syn, BK encKey AR (.map (some mb)) x.L, BA x.L]) [0, 5] 0 (Ai Tryz.func87 (by kernel_rfl) rfl) (OF hk16 hLn) rfl rfl rfl (fun _ => rfl) rfl rfl rfl) ?_; rintro v9
 refine Ae Am rfl (Ab (Ax ?_))
 exact Aw (.tmp rfl) (fun w h => AH v9 rfl [2, 3, 4, 5, 6, 7, 0] rfl h (by rw [← hmb, ← hsk]; exact DT x hd)) rfl
end Go.Proofs.YtjcfimmcogkopaaGreat.Sep
