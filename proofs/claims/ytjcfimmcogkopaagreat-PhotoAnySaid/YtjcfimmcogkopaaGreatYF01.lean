/-
  DskQ · DskC · DskK · DskN2
-/
import Derived.Test.YtjcfimmcogkopaaGreatYD01
import Derived.Test.YtjcfimmcogkopaaGreatYE01
import Derived.Test.YtjcfimmcogkopaaGreatYE02
import Derived.Shelf.SlIter.Nil
import Derived.Shelf.SortM.Plain
import Derived.Shelf.SortM.SortNone
import Derived.Ground.GgzProg
import Derived.Ground.SlgmProg
import Derived.StringKeys
set_option linter.unusedSimpArgs false
set_option linter.unusedVariables false
set_option maxRecDepth 100000
namespace Go.Proofs.YtjcfimmcogkopaaGreat.Sep
open Go.RowKit
open Go.Proofs.YtjcfimmcogkopaaGreat.Mem (AZ Ci Chg Au)
theorem V4 {p : Nat} {d d1 : DiskD} {n : List UInt8} {b2 : List UInt8} (h : Bj d = (d1, 3)) : AW Tryz.prog 49 #[.pointer (some ⟨p, 0, none⟩), .string (bs n), .string (bs b2)] [Ao p d] (fun (_ : Unit) => .int .i64 3) (fun (_ : Unit) => [Ao p d1]) := by
 refine Be (args := [.pointer (some ⟨p, 0, none⟩), .string (bs n), .string (bs b2)]) 25 Tryz.func49 rfl rfl rfl ?_; intro w rs
 refine Ad (Af Al rfl (Ab (Aq (Ad (Af Al rfl (Aj rfl (Am (os' := fun _ => [Ao p d1]) [0] 0 (Ag Tryz.func30 (by kernel_rfl) rfl) (IP h) rfl rfl rfl (fun _ => rfl) rfl rfl rfl) ?_)))))); rintro ⟨⟩
 refine Af Al rfl (Ab (AI rfl (Ad (Af Al rfl (Ab (Av (C0 ?_)))))))
 exact As (.tmp rfl) (fun w h => AG () rfl [0] rfl h CV) rfl
theorem UX {p : Nat} {d d1 : DiskD} {n : List UInt8} {b2 : List UInt8} (h : Bj d = (d1, 0)) (hn : Cv b2 = false) : AW Tryz.prog 49 #[.pointer (some ⟨p, 0, none⟩), .string (bs n), .string (bs b2)] [Ao p d] (fun (_ : Unit) => .int .i64 1) (fun (_ : Unit) => [Ao p d1]) := by
 refine Be (args := [.pointer (some ⟨p, 0, none⟩), .string (bs n), .string (bs b2)]) 25 Tryz.func49 rfl rfl rfl ?_; intro w rs
 refine Ad (Af Al rfl (Ab (Aq (Ad (Af Al rfl (Aj rfl (Am (os' := fun _ => [Ao p d1]) [0] 0 (Ag Tryz.func30 (by kernel_rfl) rfl) (Eb h) rfl rfl rfl (fun _ => rfl) rfl rfl rfl) ?_)))))); rintro ⟨⟩
 refine Af Al rfl (Ab (Aw rfl (AC (AO (Aq (Ad (Af Al rfl (Aj (post := fun _ => [Ao p d1]) rfl (Bg (Ag Tryz.func61 (by kernel_rfl) rfl) (fun w hH => KS w b2 hn) rfl rfl rfl) ?_)))))))); rintro ⟨⟩
 refine Af Al rfl (Ab (AI rfl (Ad (Af Al rfl (Ab (Av (C0 ?_)))))))
 exact As (.tmp rfl) (fun w h => AG () rfl [0] rfl h CV) rfl
theorem Tq {p : Nat} {d d1 : DiskD} {n : List UInt8} {b2 : List UInt8} (hfit : d.fit) (h : Bj d = (d1, 0)) (hn : Cv b2 = true) (hg : AL d1.now n = none) : AW Tryz.prog 49 #[.pointer (some ⟨p, 0, none⟩), .string (bs n), .string (bs b2)] [Ao p d] (fun (_ : Unit) => .int .i64 4) (fun (_ : Unit) => [Ao p d1]) := by
 have hd1 := (EC h).1
 have hfit1 := Er h hfit
 refine Be (args := [.pointer (some ⟨p, 0, none⟩), .string (bs n), .string (bs b2)]) 25 Tryz.func49 rfl rfl rfl ?_; intro w rs
 refine Ad (Af Al rfl (Ab (Aq (Ad (Af Al rfl (Aj rfl (Am (os' := fun _ => [Ao p d1]) [0] 0 (Ag Tryz.func30 (by kernel_rfl) rfl) (Eb h) rfl rfl rfl (fun _ => rfl) rfl rfl rfl) ?_)))))); rintro ⟨⟩
 refine Af Al rfl (Ab (Aw rfl (AC (AO (Aq (Ad (Af Al rfl (Aj (post := fun _ => [Ao p d1]) rfl (Bg (Ag Tryz.func61 (by kernel_rfl) rfl) (fun w hH => F6 w b2 hn) rfl rfl rfl) ?_)))))))); rintro ⟨⟩
 refine Af Al rfl (Ab (Aw rfl (AC (AO (Aq (Bd 0 rfl (DJ hd1) (fun _ => rfl) ?_)))))); rintro x
 refine Bv.fact 3 rfl BG ?_; rintro hsn
 refine Bv.fact 4 rfl Cb ?_; rintro hgn
 have hgL : AL x.L n = none := by rw [Jo x.hg hgn] at hg; simpa using hg
 refine Ad (Af Al rfl (Ac rfl (.pointer (some ⟨p, 0, none⟩)) (fun b w hb hH => by exact BQ rfl rfl hb) (Af Al rfl (Ac rfl (x.sh) (fun b w hb hH => Bb rfl rfl (Bn AT rfl) (hH.row 0 rfl) hb) (Af Al rfl (Aj rfl (Am (os' := fun _ => [cell p 70 #[.int .i64 d1.room, .int .i64 (C7 d1.fuse), .bool false, x.pv, x.sm, x.sh], Ap 103 5 encO x.pv x.W, BI x.W, Ax x.sm d1.syn, BB encKey AJ x.sh x.L, Bp x.L]) [4] 0 (Ag Tryz.func62 (by kernel_rfl) rfl) (GO _ _ n _ hgL) rfl rfl rfl (fun _ => rfl) rfl rfl rfl) ?_)))))); rintro ⟨⟩
 refine Af Al rfl (Ab (AI rfl (Ad (Af Al rfl (Ab (Av (C0 ?_)))))))
 exact As (.tmp rfl) (fun w h => AG () rfl [0, 1, 2, 3, 4, 5] rfl h (DB (os := []) x hd1)) rfl
theorem V5 {p : Nat} {d d1 : DiskD} {n : List UInt8} {b2 : List UInt8} {y : List UInt8} (hfit : d.fit) (h : Bj d = (d1, 0)) (hn : Cv b2 = true) (hg : AL d1.now n = some y) : AW Tryz.prog 49 #[.pointer (some ⟨p, 0, none⟩), .string (bs n), .string (bs b2)] [Ao p d] (fun (_ : Unit) => .int .i64 0) (fun (_ : Unit) => [Ao p (Cj d1 (.ren n b2))]) := by
 have hd1 := (EC h).1
 have hfit1 := Er h hfit
 have hg_ := hg
 refine Be (args := [.pointer (some ⟨p, 0, none⟩), .string (bs n), .string (bs b2)]) 25 Tryz.func49 rfl rfl rfl ?_; intro w rs
 refine Ad (Af Al rfl (Ab (Aq (Ad (Af Al rfl (Aj rfl (Am (os' := fun _ => [Ao p d1]) [0] 0 (Ag Tryz.func30 (by kernel_rfl) rfl) (Eb h) rfl rfl rfl (fun _ => rfl) rfl rfl rfl) ?_)))))); rintro ⟨⟩
 refine Af Al rfl (Ab (Aw rfl (AC (AO (Aq (Ad (Af Al rfl (Aj (post := fun _ => [Ao p d1]) rfl (Bg (Ag Tryz.func61 (by kernel_rfl) rfl) (fun w hH => F6 w b2 hn) rfl rfl rfl) ?_)))))))); rintro ⟨⟩
 refine Af Al rfl (Ab (Aw rfl (AC (AO (Aq (Bd 0 rfl (DJ hd1) (fun _ => rfl) ?_)))))); rintro x
 refine Bv.fact 3 rfl BG ?_; rintro hsn
 refine Bv.fact 4 rfl Cb ?_; rintro hgn
 obtain ⟨r, hgL, hry⟩ : ∃ r, AL x.L n = some r ∧ r.2 = y := by rw [Jo x.hg hgn] at hg; exact Option.map_eq_some_iff.1 hg
 subst hry
 have hm : (n, r) ∈ x.L := (Cn (by rw [Ez] at hgn; exact hgn)).1 hgL
 refine Ad (Af Al rfl (Ac rfl (.pointer (some ⟨p, 0, none⟩)) (fun b w hb hH => by exact BQ rfl rfl hb) (Af Al rfl (Ac rfl (x.sh) (fun b w hb hH => Bb rfl rfl (Bn AT rfl) (hH.row 0 rfl) hb) (Af Al rfl (Aj rfl (Am (os' := fun _ => [cell p 70 #[.int .i64 d1.room, .int .i64 (C7 d1.fuse), .bool false, x.pv, x.sm, x.sh], Ap 103 5 encO x.pv x.W, BI x.W, Ax x.sm d1.syn, BB encKey AJ x.sh x.L, Bp x.L]) [4] 0 (Ag Tryz.func62 (by kernel_rfl) rfl) (GO _ _ n _ hgL) rfl rfl rfl (fun _ => rfl) rfl rfl rfl) ?_)))))); rintro ⟨⟩
 refine Af Al rfl (Ab (Aw rfl (AC (AO (Bk [0, 1, 2, 3, 4, 5] rfl (IM x hd1) rfl (BY 5 1 encB (Ad (Af Al rfl (Ac rfl (.agg #[.int .i64 2, .string (bs n), .slice none 0 0, .int .i64 0, .string (bs b2)]) (fun b w hb hH => Bh rfl rfl (by kernel_rfl) hb) (Aj rfl (Am (os' := fun _ => [EF, Ao p (Cj d1 (⟨.ren n b2, none, 0⟩ : OpV).o)]) [1, 0] 0 (Ag Tryz.func63 (by kernel_rfl) rfl) (MQ (x := ⟨.ren n b2, none, 0⟩) hd1 hfit1 ⟨⟨_, hg_⟩, hn⟩ (Nat.zero_le _)) rfl rfl rfl (fun _ => rfl) rfl rfl rfl) ?_)))))))))); rintro ⟨⟩
 refine Ce.leave [0] rfl rfl (Af Al rfl (Ab (Av ?_)))
 exact As (.tmp rfl) (fun w h => AG () rfl [0] rfl h CV) rfl
theorem Oa {p : Nat} {d d' : DiskD} {n b : List UInt8} {e : Nat} (hd : d.fit) (h : Jf d n b = (d', e)) : AW Tryz.prog 49 #[.pointer (some ⟨p, 0, none⟩), .string (bs n), .string (bs b)] [Ao p d] (fun _ : Unit => .int .i64 (e : Int)) (fun _ => [Ao p d']) := by
  unfold Jf at h
  obtain ⟨d1, e1, h1⟩ : ∃ d1 e1, Bj d = (d1, e1) := ⟨_, _, rfl⟩
  have h01 := IQ d
  rw [h1] at h h01
  simp only at h h01
  rcases h01 with rfl | rfl
  · rw [if_pos (by decide)] at h
    cases h
    exact V4 h1
  · rw [if_neg (by decide)] at h
    cases hn : Cv b
    · rw [hn, if_pos rfl] at h
      cases h
      exact UX h1 hn
    · rw [hn, if_neg (by decide)] at h
      cases hg : AL d1.now n with
      | none => rw [hg] at h; cases h; exact Tq hd h1 hn hg
      | some y => rw [hg] at h; cases h; exact V5 hd h1 hn hg
end Go.Proofs.YtjcfimmcogkopaaGreat.Sep
namespace Go.Proofs.YtjcfimmcogkopaaGreat.Sep
open Go.RowKit Go.Maps Go.Sort Go.Shelf
open Go.Proofs.YtjcfimmcogkopaaGreat.Mem (AZ Ci Chg Au)
def keysL_ren : Go.Shelf.Ren := ⟨fun | 7 => 88 | 10 => 99 | n => n, fun | 23 => 68 | 26 => 9 | 3 => 32 | 28 => 123 | 0 => 0 | 27 => 122 | 33 => 99 | 4 => 4 | n => n, fun | n => n⟩
theorem QR : Go.Proofs.SlLaysZ.n7 Tryz.prog keysL_ren := {
 mixed := by kernel_rfl
 f7 := ⟨Tryz.f88.name, by decide, Tryz.func88.trans (congrArg some (by kernel_rfl))⟩
 f10 := ⟨Tryz.f99.name, by decide, Tryz.func99.trans (congrArg some (by kernel_rfl))⟩
 t0 := Tryz.underlying0
 a0 := Tryz.isAgg0
 z0 := Tryz.sizeOf0
 v0 := Tryz.zeroValue0
 t4 := Tryz.underlying4
 a4 := Tryz.isAgg4
 z4 := Tryz.sizeOf4
 v4 := Tryz.zeroValue4
 t23 := Tryz.underlying68
 a23 := Tryz.isAgg68
 z23 := Tryz.sizeOf68
 v23 := Tryz.zeroValue68
 t26 := Tryz.underlying9
 a26 := Tryz.isAgg9
 z26 := Tryz.sizeOf9
 v26 := Tryz.zeroValue9
 t27 := Tryz.underlying122
 a27 := Tryz.isAgg122
 z27 := Tryz.sizeOf122
 v27 := Tryz.zeroValue122
 t28 := Tryz.underlying123
 a28 := Tryz.isAgg123
 z28 := Tryz.sizeOf123
 v28 := Tryz.zeroValue123
 t33 := Tryz.underlying99
 a33 := Tryz.isAgg99
 z33 := Tryz.sizeOf99
 v33 := Tryz.zeroValue99 }
def sortedL_ren : Go.Shelf.Ren := ⟨fun | 6 => 87 | 8 => 97 | 9 => 98 | 11 => 103 | 13 => 105 | 12 => 104 | 23 => 116 | 24 => 117 | 14 => 107 | 15 => 108 | 16 => 109 | 17 => 110 | 18 => 111 | 19 => 112 | 20 => 113 | 21 => 114 | 22 => 115 | 25 => 118 | 26 => 119 | 27 => 120 | 28 => 121 | 29 => 122 | 30 => 123 | 31 => 124 | n => n, fun | 26 => 9 | 28 => 123 | 24 => 93 | 0 => 0 | 3 => 3 | 37 => 98 | 48 => 96 | 50 => 29 | 4 => 4 | 40 => 146 | 39 => 145 | 45 => 151 | 5 => 5 | 9 => 9 | 51 => 155 | 55 => 159 | 57 => 161 | 58 => 162 | 33 => 99 | n => n, fun | n => n⟩
theorem QS : Go.Proofs.SlLaysZ.n6 Tryz.prog sortedL_ren := {
 mixed := by kernel_rfl
 f6 := ⟨Tryz.f87.name, by decide, Tryz.func87.trans (congrArg some (by kernel_rfl))⟩
 f8 := ⟨Tryz.f97.name, by decide, Tryz.func97.trans (congrArg some (by kernel_rfl))⟩
 f11 := ⟨Tryz.f103.name, by decide, Tryz.func103.trans (congrArg some (by kernel_rfl))⟩
 t0 := Tryz.underlying0
 a0 := Tryz.isAgg0
 z0 := Tryz.sizeOf0
 v0 := Tryz.zeroValue0
 t24 := Tryz.underlying93
 a24 := Tryz.isAgg93
 z24 := Tryz.sizeOf93
 v24 := Tryz.zeroValue93
 t26 := Tryz.underlying9
 a26 := Tryz.isAgg9
 z26 := Tryz.sizeOf9
 v26 := Tryz.zeroValue9
 t28 := Tryz.underlying123
 a28 := Tryz.isAgg123
 z28 := Tryz.sizeOf123
 v28 := Tryz.zeroValue123
 i26 := by kernel_rfl }
def sortL_ren : Go.Shelf.Ren := ⟨fun | 6 => 98 | 8 => 105 | 9 => 104 | 19 => 116 | 20 => 117 | 21 => 107 | 22 => 108 | 23 => 109 | 24 => 110 | 25 => 111 | 26 => 112 | 27 => 113 | 28 => 114 | 29 => 115 | 36 => 118 | 31 => 119 | 32 => 120 | 37 => 121 | 38 => 122 | 39 => 123 | 41 => 124 | n => n, fun | 27 => 93 | 29 => 9 | 3 => 3 | 32 => 98 | 26 => 93 | 0 => 0 | 44 => 96 | 46 => 29 | 4 => 4 | 36 => 146 | 35 => 145 | 41 => 151 | 5 => 5 | 9 => 9 | 53 => 155 | 57 => 159 | 63 => 161 | 64 => 162 | n => n, fun | n => n⟩
theorem Vu : Go.Proofs.SlLaysM.n6 Tryz.prog sortL_ren := {
 mixed := by kernel_rfl
 f6 := ⟨Tryz.f98.name, by decide, Tryz.func98.trans (congrArg some (by kernel_rfl))⟩
 f8 := Tryz.func105.trans (congrArg some (by kernel_rfl))
 f9 := ⟨Tryz.f104.name, by decide, Tryz.func104.trans (congrArg some (by kernel_rfl))⟩
 f19 := Tryz.func116.trans (congrArg some (by kernel_rfl))
 f20 := Tryz.func117.trans (congrArg some (by kernel_rfl))
 f21 := ⟨Tryz.f107.name, by decide, Tryz.func107.trans (congrArg some (by kernel_rfl))⟩
 f22 := ⟨Tryz.f108.name, by decide, Tryz.func108.trans (congrArg some (by kernel_rfl))⟩
 f23 := ⟨Tryz.f109.name, by decide, Tryz.func109.trans (congrArg some (by kernel_rfl))⟩
 f24 := ⟨Tryz.f110.name, by decide, Tryz.func110.trans (congrArg some (by kernel_rfl))⟩
 f25 := ⟨Tryz.f111.name, by decide, Tryz.func111.trans (congrArg some (by kernel_rfl))⟩
 f26 := ⟨Tryz.f112.name, by decide, Tryz.func112.trans (congrArg some (by kernel_rfl))⟩
 f27 := ⟨Tryz.f113.name, by decide, Tryz.func113.trans (congrArg some (by kernel_rfl))⟩
 f28 := ⟨Tryz.f114.name, by decide, Tryz.func114.trans (congrArg some (by kernel_rfl))⟩
 f29 := ⟨Tryz.f115.name, by decide, Tryz.func115.trans (congrArg some (by kernel_rfl))⟩
 f31 := Tryz.func119.trans (congrArg some (by kernel_rfl))
 f32 := Tryz.func120.trans (congrArg some (by kernel_rfl))
 f36 := ⟨Tryz.f118.name, by decide, Tryz.func118.trans (congrArg some (by kernel_rfl))⟩
 f37 := ⟨Tryz.f121.name, by decide, Tryz.func121.trans (congrArg some (by kernel_rfl))⟩
 f38 := ⟨Tryz.f122.name, by decide, Tryz.func122.trans (congrArg some (by kernel_rfl))⟩
 f39 := ⟨Tryz.f123.name, by decide, Tryz.func123.trans (congrArg some (by kernel_rfl))⟩
 f41 := ⟨Tryz.f124.name, by decide, Tryz.func124.trans (congrArg some (by kernel_rfl))⟩
 t0 := Tryz.underlying0
 a0 := Tryz.isAgg0
 z0 := Tryz.sizeOf0
 v0 := Tryz.zeroValue0
 t3 := Tryz.underlying3
 a3 := Tryz.isAgg3
 z3 := Tryz.sizeOf3
 v3 := Tryz.zeroValue3
 t4 := Tryz.underlying4
 a4 := Tryz.isAgg4
 z4 := Tryz.sizeOf4
 v4 := Tryz.zeroValue4
 t5 := Tryz.underlying5
 a5 := Tryz.isAgg5
 z5 := Tryz.sizeOf5
 v5 := Tryz.zeroValue5
 t9 := Tryz.underlying9
 a9 := Tryz.isAgg9
 z9 := Tryz.sizeOf9
 v9 := Tryz.zeroValue9
 t26 := Tryz.underlying93
 a26 := Tryz.isAgg93
 z26 := Tryz.sizeOf93
 v26 := Tryz.zeroValue93
 t27 := Tryz.underlying93
 a27 := Tryz.isAgg93
 z27 := Tryz.sizeOf93
 v27 := Tryz.zeroValue93
 t29 := Tryz.underlying9
 a29 := Tryz.isAgg9
 z29 := Tryz.sizeOf9
 v29 := Tryz.zeroValue9
 t32 := Tryz.underlying98
 a32 := Tryz.isAgg98
 z32 := Tryz.sizeOf98
 v32 := Tryz.zeroValue98
 t35 := Tryz.underlying145
 a35 := Tryz.isAgg145
 z35 := Tryz.sizeOf145
 v35 := Tryz.zeroValue145
 t36 := Tryz.underlying146
 a36 := Tryz.isAgg146
 z36 := Tryz.sizeOf146
 v36 := Tryz.zeroValue146
 t41 := Tryz.underlying151
 a41 := Tryz.isAgg151
 z41 := Tryz.sizeOf151
 v41 := Tryz.zeroValue151
 t44 := Tryz.underlying96
 a44 := Tryz.isAgg96
 z44 := Tryz.sizeOf96
 v44 := Tryz.zeroValue96
 t46 := Tryz.underlying29
 a46 := Tryz.isAgg29
 z46 := Tryz.sizeOf29
 v46 := Tryz.zeroValue29
 t53 := Tryz.underlying155
 a53 := Tryz.isAgg155
 z53 := Tryz.sizeOf155
 v53 := Tryz.zeroValue155
 t57 := Tryz.underlying159
 a57 := Tryz.isAgg159
 z57 := Tryz.sizeOf159
 v57 := Tryz.zeroValue159
 t63 := Tryz.underlying161
 a63 := Tryz.isAgg161
 z63 := Tryz.sizeOf161
 v63 := Tryz.zeroValue161
 t64 := Tryz.underlying162
 a64 := Tryz.isAgg162
 z64 := Tryz.sizeOf162
 v64 := Tryz.zeroValue162 }
theorem Tr (m : Nat) : AnyZ.SortsIn Tryz.prog sortedL_ren Fence.wide m :=
  ⟨fun blk off cap ss W hH hblk hsz => callsIn_wide.2 (AnyM.slices_Sort_string Vu blk off cap ss W hH hblk hsz),
   fun p cap W => callsIn_wide.2 (AnyM.slices_Sort_string_none Vu p cap W)⟩
theorem Ts : AW Tryz.prog 88 #[.map none] [] (fun g : Nat => .func (.func 99) #[] #[.pointer (some ⟨g, 0, none⟩)]) (fun g => [cell g 68 #[.map none]]) := fun w rs h1 h2 h3 => by
 obtain rfl : rs = [] := h1
 refine (callsIn_wide.1 (AnyZ.keys_in QR Fence.wide 5 trivial rfl none w)).mono ?_
 rintro e w' ⟨rfl, rfl⟩
 refine ⟨w.heap.size, rfl, [(w.heap.size, Ed 68, #[.map none])], ⟨_, [], rfl, rfl, rfl⟩, ?_⟩
 exact G8 (rs := []) trivial trivial ((Below.refl _ w).alloc (Nat.le_refl _) _) ⟨heap_alloc_new w _, trivial⟩ ⟨(fun _ h => by cases h), trivial⟩ fun x hx => by rw [List.mem_singleton.1 hx]; exact Nat.le_refl _
theorem Pv (w : World) (g : Nat) (hg : w.heap[g]? = some (.cells #[.map none] 68 (0, 0))) : Calls Tryz.prog 87 #[.func (.func 99) #[] #[.pointer (some ⟨g, 0, none⟩)]] w fun e w' => e = .returned (.slice none 0 0) ∧ Below w.heap.size w w' := by
 have hlt := (Array.getElem?_eq_some_iff.1 hg).1
 have hc : w.cell? ⟨g, 0, none⟩ = some (.map none) := by simp [World.cell?, hg]
 have hseq : SeqGives Fence.wide 2 Tryz.prog 99 #[.pointer (some ⟨g, 0, none⟩)] encStr (fun ss : List (List UInt8) => ss = []) 0 w :=
  AnyZ.keys_gives_nil (ρ := keysL_ren) { QR with } Fence.wide _ trivial rfl g w hlt hc
 refine (callsIn_wide.1 (AnyZ.sorted_in QS Fence.wide 5 trivial trivial trivial trivial rfl (by omega) (Tr _) (enters_of Tryz.func98 (by kernel_rfl) rfl) 99 #[.pointer (some ⟨g, 0, none⟩)] trivial (enters_of Tryz.func99 (by kernel_rfl) rfl) _ 0 (Nat.zero_le _) (by omega) _ hseq)).mono ?_
 rintro e w' ⟨v, ss, rfl, hS, _, hnil, hb⟩
 rw [hnil.2 hS]
 exact ⟨rfl, hb⟩
theorem Pw {p : Nat} {d : DiskD} (h : d.down = true) : AW Tryz.prog 53 #[.pointer (some ⟨p, 0, none⟩)] [Ao p d] (fun (v : Value) => v) (fun (v : Value) => [Ao p d, Ap 9 1 encKs v ([])]) := by
 have hd := h
 refine Be (args := [.pointer (some ⟨p, 0, none⟩)]) 9 Tryz.func53 rfl rfl rfl ?_; intro w rs
 refine Bd 0 rfl (J5 hd) (fun _ => rfl) ?_; rintro x
 refine BY 9 1 encKs (Ad (Af Al rfl (Ab (Ad (Af Al rfl (Ac rfl (.pointer (some ⟨p, 0, none⟩)) (fun b w hb hH => by exact BQ rfl rfl hb) (Af Al rfl (Ac rfl (.map none) (fun b w hb hH => Bb rfl rfl (Bn AT rfl) (hH.row 1 rfl) hb) (Aj rfl (Am (os' := fun g => [cell g 68 #[.map none], Ap 9 1 encKs (.slice none 0 0) ([]), cell p 70 #[.int .i64 d.room, .int .i64 (C7 d.fuse), .bool true, x.pv, x.sm, .map none], Ap 103 5 encO x.pv x.W, BI x.W, Ax x.sm d.syn]) [] 0 (Ag Tryz.func88 (by kernel_rfl) rfl) (Ts) rfl rfl rfl (fun _ => rfl) rfl rfl rfl) ?_))))))))); rintro g
 refine Aj (post := fun _ => [cell g 68 #[.map none], Ap 9 1 encKs (.slice none 0 0) ([]), cell p 70 #[.int .i64 d.room, .int .i64 (C7 d.fuse), .bool true, x.pv, x.sm, .map none], Ap 103 5 encO x.pv x.W, BI x.W, Ax x.sm d.syn]) rfl (Bg (Ag Tryz.func87 (by kernel_rfl) rfl) (fun w hH => Pv w g (hH.row 0 rfl)) rfl rfl rfl) ?_; rintro ⟨⟩
 refine Af Al rfl (Ab (Av ?_))
 exact As (.tmp rfl) (fun w h => AG (.slice none 0 0) rfl [2, 3, 4, 5, 1] rfl h (IL ⟨x.pv, x.sm, .map none, x.W, [], x.hW, (fun h => by rw [hd] at h; cases h), x.hok, x.hf, x.hr, x.hk⟩ hd rfl)) rfl
end Go.Proofs.YtjcfimmcogkopaaGreat.Sep
namespace Go.Proofs.YtjcfimmcogkopaaGreat.Sep
open Go.RowKit Go.Maps Go.Sort Go.Shelf
open Go.Proofs.YtjcfimmcogkopaaGreat.Mem (AZ Ci Chg Au)
theorem RU (b0 : Nat) : AW Tryz.prog 88 #[.map (some b0)] [] (fun g : Nat => .func (.func 99) #[] #[.pointer (some ⟨g, 0, none⟩)]) (fun g => [cell g 68 #[.map (some b0)]]) := fun w rs h1 h2 h3 => by
 obtain rfl : rs = [] := h1
 refine (callsIn_wide.1 (AnyZ.keys_in QR Fence.wide 5 trivial rfl (some b0) w)).mono ?_
 rintro e w' ⟨rfl, rfl⟩
 refine ⟨w.heap.size, rfl, [(w.heap.size, Ed 68, #[.map (some b0)])], ⟨_, [], rfl, rfl, rfl⟩, ?_⟩
 exact G8 (rs := []) trivial trivial ((Below.refl _ w).alloc (Nat.le_refl _) _) ⟨heap_alloc_new w _, trivial⟩ ⟨(fun _ h => by cases h), trivial⟩ fun x hx => by rw [List.mem_singleton.1 hx]; exact Nat.le_refl _
def Es (f : FS) : List (List UInt8) := (AH f).mergeSort fun x y => decide (x ≤ y)
theorem JK {f g : FS} (h : f.Perm g) : Es f = Es g := mergeSort_of_perm (CD h)
def Px (_ : Value) : Option (DataW Unit × List MemPlace) := some (.nil, [])
theorem Oc (n : List UInt8) (h : n.length ≤ 16) : keyOf Tryz.prog 9 (.string (bs n)) = some (.string n) := by
 rw [Go.WideMaps.keyOf_string_mk Tryz.underlying9 (by show n.toArray.size ≤ maxLen; simp; unfold maxLen; omega)]
 rfl
theorem Tt (x : MapEntry) (n : List UInt8) (h : n.length ≤ 16) (hx : x.key = .string (bs n)) : Go.WideElems.rg Tryz.prog 9 Px x = (.string n, .nil) := by
 unfold Go.WideElems.rg Go.WideElems.rd
 rw [hx, Oc n h]; rfl
theorem Py {w : World} {b0 c : Nat} {es : Array MapEntry} {L : FilL} (hb : w.heap[b0]? = some (.map es c)) (hL : MapL encKey AJ es c L) (hn : ∀ k, k ∈ AH L → k.length ≤ 16) (hs : L.length ≤ 1000000) : ∃ D : DataW Unit, w.ownsMap Tryz.prog 9 Px b0 L.length D ∧ (strKeys D).Perm (AH L) ∧ Maps.size D = L.length := by
  have hkey : ∀ x, x ∈ es.toList → ∃ p, p ∈ L ∧ x.key = .string (bs p.1) := fun x hx => by
    have h1 : (x.key, x.val) ∈ L.map fun p => (encKey p.1, AJ p.2) := by rw [← hL.at_]; exact List.mem_map_of_mem (f := fun x : MapEntry => (x.key, x.val)) hx
    obtain ⟨p, hp, he⟩ := List.mem_map.1 h1
    exact ⟨p, hp, (congrArg Prod.fst he).symm⟩
  have hrg : es.toList.map (Go.WideElems.rg Tryz.prog 9 Px) = L.map fun p => ((Lit.string p.1, DataW.nil) : Lit × DataW Unit) := by
    have h1 : es.toList.map (Go.WideElems.rg Tryz.prog 9 Px) = (es.toList.map (fun x => (x.key, x.val))).map fun y => Go.WideElems.rg Tryz.prog 9 Px { key := y.1, val := y.2, born := 0 } := by
      rw [List.map_map]
      exact List.map_congr_left fun x hx => by
        obtain ⟨p, hp, e⟩ := hkey x hx
        have h2 := hn p.1 (List.mem_map_of_mem hp)
        rw [Tt x p.1 h2 e]
        exact (Tt _ p.1 h2 e).symm
    rw [h1, hL.at_, List.map_map]
    exact List.map_congr_left fun p hp => Tt _ p.1 (hn p.1 (List.mem_map_of_mem hp)) rfl
  have hfit : Go.WideElems.Fit Tryz.prog 9 Px es c := by
    refine ⟨by rw [hL.len]; unfold maxLen; omega, ⟨hL.old, hL.born, ?_⟩, fun x hx => ?_⟩
    · have h1 : es.toList.map (·.key) = L.map fun p => encKey p.1 := by
        have := congrArg (List.map Prod.fst) hL.at_
        rw [List.map_map, List.map_map] at this
        exact this
      rw [h1]
      have h2 : (L.map fun p => encKey p.1) = (AH L).map encKey := by unfold AH; rw [List.map_map]; rfl
      rw [h2]
      refine List.Pairwise.map encKey ?_ hL.keys
      intro a b hab e
      exact hab (SG (by simpa [encKey] using e))
    · obtain ⟨p, hp, e⟩ := hkey x hx
      refine ⟨(.string p.1, .nil), ?_⟩
      unfold Go.WideElems.rd
      rw [e, Oc p.1 (hn p.1 (List.mem_map_of_mem hp))]; rfl
  refine ⟨_, ⟨es, c, hb, hfit, by rw [hL.len]; exact Nat.le_refl _, rfl⟩, ?_, ?_⟩
  · have h1 := ((Go.WideShapes.sorted_perm (es.toList.map (Go.WideElems.rg Tryz.prog 9 Px))).map fun p => strOf p.1)
    rw [hrg] at h1
    have h2 : (L.map fun p => ((Lit.string p.1, DataW.nil) : Lit × DataW Unit)).map (fun p => strOf p.1) = AH L := by rw [List.map_map]; rfl
    rw [h2] at h1
    show (List.map (fun p : Lit × DataW Unit => strOf p.1) _).Perm _
    rw [hrg]; exact h1
  · show (List.foldr DataW.insert [] _).length = _
    rw [length_sorted, hrg, List.length_map]
theorem Od (w : World) {g b0 c : Nat} {es : Array MapEntry} {L : FilL} (hg : w.heap[g]? = some (.cells #[.map (some b0)] 68 (0, 0))) (hb : w.heap[b0]? = some (.map es c)) (hL : MapL encKey AJ es c L) (hn : ∀ k, k ∈ AH L → k.length ≤ 16) (hs : L.length ≤ 1000000) : Calls Tryz.prog 87 #[.func (.func 99) #[] #[.pointer (some ⟨g, 0, none⟩)]] w fun e w' => ∃ v, e = .returned v ∧ w'.ownsRow w.heap.size 9 1 v (AH L).length ((((AH L).mergeSort fun x y => decide (x ≤ y))).map encStr) ∧ Below w.heap.size w w' := by
 have hlt := (Array.getElem?_eq_some_iff.1 hg).1
 have hc : w.cell? ⟨g, 0, none⟩ = some (.map (some b0)) := by simp [World.cell?, hg]
 obtain ⟨D, hown, hperm, hsz⟩ := Py hb hL hn hs
 have hseq : SeqGives Fence.wide 2 Tryz.prog 99 #[.pointer (some ⟨g, 0, none⟩)] encStr (fun ss : List (List UInt8) => ss.Perm (strKeys D)) (Maps.size D) w :=
  AnyZ.keys_gives (ρ := keysL_ren) { QR with } Fence.wide _ trivial rfl (by omega) g b0 L.length D w hlt hc hown
 refine (callsIn_wide.1 (AnyZ.sorted_in QS Fence.wide 5 trivial trivial trivial trivial rfl (by omega) (Tr _) (enters_of Tryz.func98 (by kernel_rfl) rfl) 99 #[.pointer (some ⟨g, 0, none⟩)] trivial (enters_of Tryz.func99 (by kernel_rfl) rfl) _ (Maps.size D) (by rw [hsz]; unfold maxLen; omega) (by rw [hsz]; omega) _ hseq)).mono ?_
 rintro e w' ⟨v, ss, rfl, hS, hrow, hnil, hb'⟩
 have hp : ss.Perm (AH L) := hS.trans hperm
 refine ⟨v, rfl, ?_, hb'⟩
 rw [← hp.length_eq, ← mergeSort_of_perm hp]
 exact hrow
theorem UY {w' : World} {base : Nat} {v : Value} {l : List (List UInt8)} (h : w'.ownsRow base 9 1 v l.length (l.map encStr)) : ∃ rs, Ap 9 1 encKs v l rs ∧ RowsOf w' rs ∧ AZ rs ∧ ∀ x ∈ rs, base ≤ x.1 := by
  have hf : l.map encStr = flat encKs l := by
    induction l with
    | nil => rfl
    | cons x r ih =>
      rw [List.map_cons, DR, ← (by
        clear ih h
        induction r with
        | nil => rfl
        | cons y q ih => rw [List.map_cons, DR, ih]; rfl : r.map encStr = flat encKs r)]
      rfl
  rcases h.2 with ⟨h1, h2⟩ | ⟨g, cap, cur, h1, h2, h3, h4, h5, h6, h7⟩
  · have : l = [] := List.eq_nil_of_length_eq_zero h2
    subst this
    exact ⟨[], .inl ⟨h1, rfl, rfl⟩, trivial, trivial, fun x hx => by cases hx⟩
  · refine ⟨[(g, Ed 9, cur)], .inr ⟨g, cap, cur, h1, h4, h5, h6, by rw [h7, hf], rfl⟩, ⟨h3, trivial⟩, ⟨(fun _ h => by cases h), trivial⟩, fun x hx => by rw [List.mem_singleton.1 hx]; exact h2⟩
theorem Oe {g b0 : Nat} {L : FilL} (hn : ∀ k, k ∈ AH L → k.length ≤ 16) (hs : L.length ≤ 1000000) : AW Tryz.prog 87 #[.func (.func 99) #[] #[.pointer (some ⟨g, 0, none⟩)]] [cell g 68 #[.map (some b0)], BB encKey AJ (.map (some b0)) L] (fun v : Value => v) (fun v => [cell g 68 #[.map (some b0)], BB encKey AJ (.map (some b0)) L, Ap 9 1 encKs v ((AH L).mergeSort fun x y => decide (x ≤ y))]) := fun w rs h1 h2 h3 => by
 obtain ⟨a, r, rfl, rfl, b, r2, rfl, ⟨g2, es, c, e1, rfl, hL⟩, rfl⟩ := h1
 cases e1
 have hr := AN.1 h2
 have hg := hr _ (List.mem_append.2 (.inl (List.mem_singleton.2 rfl)))
 have hb : w.heap[b0]? = some (.map es c) := Dq.1 (hr (b0, none, EH es c) (by simp))
 refine (Od w hg hb hL hn hs).mono ?_
 rintro e w' ⟨v, he, hrow, hbl⟩
 have hlen : (AH L).length = ((AH L).mergeSort fun x y => decide (x ≤ y)).length := (List.length_mergeSort _).symm
 rw [hlen] at hrow
 obtain ⟨rs', hv, hr', hd', hx'⟩ := UY hrow
 exact ⟨v, he, _, ⟨_, _, List.append_assoc .., rfl, _, _, rfl, ⟨b0, es, c, rfl, rfl, hL⟩, Ak.one hv⟩, by simpa using G8 h2 h3 hbl hr' hd' hx'⟩
theorem Of {p : Nat} {d : DiskD} {ss : List (List UInt8)} (hd : d.down = false) (hs : d.now.length ≤ 1000000) (hss : Es d.now = ss) : AW Tryz.prog 53 #[.pointer (some ⟨p, 0, none⟩)] [Ao p d] (fun (v : Value) => v) (fun (v : Value) => [Ao p d, Ap 9 1 encKs v ss]) := by
 refine Be (args := [.pointer (some ⟨p, 0, none⟩)]) 9 Tryz.func53 rfl rfl rfl ?_; intro w rs
 refine Bd 0 rfl (DJ hd) (fun _ => rfl) ?_; rintro x
 refine Bv.fact 3 rfl BG ?_; rintro hsn
 refine Bv.fact 4 rfl Cb ?_; rintro hgn
 refine Bv.fact 4 rfl (fun _ h => BB.is _ h) ?_; rintro ⟨mb, hmb⟩
 have hLn : x.L.length ≤ 1000000 := by have := x.hg.length_eq; simp only [Cd, List.length_map] at this; omega
 have hk16 : ∀ k, k ∈ AH x.L → k.length ≤ 16 := fun k hk => ((G5 k).1 (LM hsn x.hk x.hok k ((CD x.hg).mem_iff.1 (by rw [Ez]; exact hk)))).2
 have hsk : (AH x.L).mergeSort (fun x y => decide (x ≤ y)) = ss := by rw [← hss, ← JK x.hg]; unfold Es; rw [Ez]
 rw [hmb]
 refine Ad (Af Al rfl (Ab (Ad (Af Al rfl (Ac rfl (.pointer (some ⟨p, 0, none⟩)) (fun b w hb hH => by exact BQ rfl rfl hb) (Af Al rfl (Ac rfl (.map (some mb)) (fun b w hb hH => Bb rfl rfl (Bn AT rfl) (hH.row 0 rfl) hb) (Aj rfl (Am (os' := fun g => [cell g 68 #[.map (some mb)], cell p 70 #[.int .i64 d.room, .int .i64 (C7 d.fuse), .bool false, x.pv, x.sm, .map (some mb)], Ap 103 5 encO x.pv x.W, BI x.W, Ax x.sm d.syn, BB encKey AJ (.map (some mb)) x.L, Bp x.L]) [] 0 (Ag Tryz.func88 (by kernel_rfl) rfl) (RU mb) rfl rfl rfl (fun _ => rfl) rfl rfl rfl) ?_)))))))); rintro g
 refine Aj rfl (Am (os' := fun v9 => [Ap 9 1 encKs v9 ((AH x.L).mergeSort (fun x y => decide (x ≤ y))), cell g 68 #[.map (some mb)], cell p 70 #[.int .i64 d.room, .int .i64 (C7 d.fuse), .bool false, x.pv, x.sm, .map (some mb)], Ap 103 5 encO x.pv x.W, BI x.W, Ax x.sm d.syn, BB encKey AJ (.map (some mb)) x.L, Bp x.L]) [0, 5] 0 (Ag Tryz.func87 (by kernel_rfl) rfl) (Oe hk16 hLn) rfl rfl rfl (fun _ => rfl) rfl rfl rfl) ?_; rintro v9
 refine Af Al rfl (Ab (Av ?_))
 exact As (.tmp rfl) (fun w h => AG v9 rfl [2, 3, 4, 5, 6, 7, 0] rfl h (by rw [← hmb, ← hsk]; exact DB x hd)) rfl
end Go.Proofs.YtjcfimmcogkopaaGreat.Sep
