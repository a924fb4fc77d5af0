/-
  RdkN · RdkH
-/
import Derived.Test.YtnknboibmifacaaGreatYF01
import Derived.Test.YtnknboibmifacaaGreatYN03
set_option linter.unusedSimpArgs false
set_option linter.unusedVariables false
set_option maxRecDepth 100000
namespace Go.Proofs.YtnknboibmifacaaGreat.Sep
open Go.RowKit
open Go.Proofs.YtnknboibmifacaaGreat.Mem (Bd Cj Chg AF)
theorem GW : EncOf 1 encKs := ⟨fun _ => rfl, fun x v h => by unfold encKs at h; simp at h; subst h; rfl⟩
theorem Tx : ∀ {a b : List UInt8}, Ie a b = true → a ≤ b
  | [], _, _ => List.nil_le _
  | x :: a, [], h => by cases h
  | x :: a, y :: b, h => by
    have h1 : (decide (x < y) || (x == y && Ie a b)) = true := h
    rw [Bool.or_eq_true, Bool.and_eq_true, decide_eq_true_eq, beq_iff_eq] at h1
    intro h2
    rw [List.cons_lt_cons_iff] at h2
    rcases h1 with h1 | ⟨rfl, h1⟩
    · rcases h2 with h2 | ⟨rfl, _⟩
      · exact absurd (UInt8.lt_trans h1 h2) (UInt8.lt_irrefl _)
      · exact UInt8.lt_irrefl _ h1
    · rcases h2 with h2 | ⟨_, h2⟩
      · exact UInt8.lt_irrefl _ h2
      · exact Tx h1 h2
theorem RDk.names {d : DiskD} (x : RDk d) : x.nl.map (·.n) = Er d.now := by
  rw [← JK x.pn]
  unfold Er
  rw [K7]
  refine (List.mergeSort_of_pairwise ?_).symm
  rw [List.pairwise_map]
  exact x.hn.imp fun h => decide_eq_true (Tx h)
theorem Vy {p : Nat} {d : DiskD} (hdn : d.down = false) : AS Tryz.prog 49 #[.pointer (some ⟨p, 0, none⟩)] [AA p d] (fun (v : Value) => v) (fun (v : Value) => [AA p d, Ao 9 1 encKs v (Er d.now)]) := by
  refine A6 (args := [.pointer (some ⟨p, 0, none⟩)]) 33 Tryz.func49 rfl rfl rfl ?_; intro w rs
  obtain ⟨fu, hfu⟩ : ∃ fu, d.fuse.isSome = fu := ⟨_, rfl⟩
  refine AY 0 rfl (CX hfu hdn) (fun _ => rfl) ?_; rintro x
  have hn64 := x.nlen
  have hN := x.names
  refine Ad ?_
  refine Af Ag rfl ?_
  refine Ab (Ad ?_)
  refine Af Ag rfl ?_
  refine Ab (Aq (Ad ?_))
  refine Af Ag rfl ?_
  refine Ab (AX ?_)
  refine BZ 9 1 encKs ?_
  refine CE (α := Nat × Value) (fun ⟨i, ov⟩ => [(0, .pointer (some ⟨p, 0, none⟩)), (2, .slice none 0 0), (3, ov), (4, .int .i64 ((i : Nat) : Int))]) (fun ⟨i, ov⟩ => [Ao 9 1 encKs ov ((x.nl.map (·.n)).take i), cell p 59 #[.int .i64 d.room, x.sv, x.nv, x.wv, .bool fu, .int .i64 x.fz, .bool false], x.F, x.Y, Ao 103 5 encRO x.wv x.W]) (fun ⟨i, ov⟩ => i ≤ x.nl.length) (fun ⟨i, ov⟩ => x.nl.length - i) (0, .slice none 0 0) (Nat.zero_le _) ⟨rfl, rfl, rfl, rfl, trivial⟩ rfl ?_
  rintro ⟨i, ov⟩ hI
  refine Bo.at_ (env' := [(0, .pointer (some ⟨p, 0, none⟩)), (2, .slice none 0 0), (3, ov), (4, .int .i64 ((i : Nat) : Int))]) (rs' := [Ao 9 1 encKs ov ((x.nl.map (·.n)).take i), cell p 59 #[.int .i64 d.room, x.sv, x.nv, x.wv, .bool fu, .int .i64 x.fz, .bool false], x.F, x.Y, Ao 103 5 encRO x.wv x.W]) ⟨rfl, rfl, rfl, rfl, trivial⟩ rfl ?_
  have hI1 : i ≤ x.nl.length := hI
  refine Aq ?_
  rcases Nat.lt_or_ge i x.nl.length with hi | hi
  · skip
    obtain ⟨y, hy⟩ : ∃ y, x.nl[i]? = some y := ⟨_, List.getElem?_eq_getElem hi⟩
    have hyn : (x.nl.map (·.n))[i]? = some y.n := by rw [List.getElem?_map, hy]; rfl
    refine Ad ?_
    refine Af Ag rfl ?_
    refine Ac rfl (.pointer (some ⟨p, 0, none⟩)) (fun b w hb hH => by exact BO rfl rfl hb) ?_
    refine Af Ag rfl ?_
    refine Ac rfl (x.nv) (fun b w hb hH => Bg rfl rfl (Bt Aw rfl) (hH.row 1 rfl) hb) ?_
    refine Ac rfl (.int .i64 (x.nl.length : Int)) (fun b w hb hH => AQ ((hH.rdFs 2 rfl x.rn)) Tryz.underlying53 rfl rfl hb) ?_
    refine Ac rfl (.bool true) (fun b w hb hH => Bh rfl rfl rfl (Bl (by omega)) hb) ?_
    refine Af Ag rfl ?_
    refine Ac rfl (.pointer (some ⟨p, 0, none⟩)) (fun b w hb hH => by exact BO rfl rfl hb) ?_
    refine Af Ag rfl ?_
    refine Ac rfl (.bool false) (fun b w hb hH => Bg rfl rfl (Bt BN rfl) (hH.row 1 rfl) hb) ?_
    refine Af Ag rfl ?_
    refine Ab (AD rfl (Ax (AG (Aq (AX (BI ?_))))))
    refine Af Ag rfl ?_
    refine Ac rfl (.pointer (some ⟨p, 0, none⟩)) (fun b w hb hH => by exact BO rfl rfl hb) ?_
    refine Af Ag rfl ?_
    refine Ac rfl (x.nv) (fun b w hb hH => Bg rfl rfl (Bt Aw rfl) (hH.row 1 rfl) hb) ?_
    refine Af Ag rfl ?_
    refine Ac rfl (Cc x.nv (i * 2)) (fun b w hb hH => BA BH ((hH.rdFs 2 rfl x.rn)) Ar (j := i) hy rfl rfl rfl hb) ?_
    refine Ac rfl (Cc x.nv (i * 2 + 0)) (fun b w hb hH => Lf BH (by decide) ((hH.rdFs 2 rfl x.rn)) (j := i) hy Bv rfl rfl hb) ?_
    refine Ac rfl (.string (bs y.n)) (fun b w hb hH => Bp BH (by decide) ((hH.rdFs 2 rfl x.rn)) (j := i) hy AR (off := 0) rfl rfl rfl hb) ?_
    refine Ai (X := Value) (val := fun v : Value => v) (post := fun b30 => [Ao 9 1 encKs b30 ([y.n]), Ao 9 1 encKs ov ((x.nl.map (·.n)).take i), cell p 59 #[.int .i64 d.room, x.sv, x.nv, x.wv, .bool fu, .int .i64 x.fz, .bool false], x.F, x.Y, Ao 103 5 encRO x.wv x.W]) rfl (by refine M4 (e := 9) (t := 88) (enc := encKs) (x := .tmp 29) (c := .string (bs y.n)) ?_ ?_ y.n ?_ ?_ ?_; exact E2; exact GW; exact rfl; exact rfl; exact rfl) ?_; rintro b30
    refine Ai (post := fun ov2 => [Ao 9 1 encKs b30 ([y.n]), Ao 9 1 encKs ov2 ((x.nl.map (·.n)).take (i + 1)), cell p 59 #[.int .i64 d.room, x.sv, x.nv, x.wv, .bool fu, .int .i64 x.fz, .bool false], x.F, x.Y, Ao 103 5 encRO x.wv x.W]) rfl (FG (nb := 16) 1 E2 GW (by kernel_rfl) (by decide) rfl ([y.n]) (fun w hH => hH.vec 0 rfl GW) (by simp only [List.length_take, List.length_map, List.length_cons, List.length_nil]; omega) rfl rfl rfl (F1 hyn)) ?_; rintro ov2
    refine Af Ag rfl ?_
    refine AP (BJ (AG (BI ?_)))
    refine Af Ag rfl ?_
    refine Ac rfl (.int .i64 ((i + 1 : Nat) : Int)) (fun b w hb hH => AK rfl rfl rfl rfl (by rw [IntWalk.i64_in _ (by omega)]; omega) hb) ?_
    refine Af Ag rfl ?_
    refine AP ?_
    exact Cr (i + 1, ov2) 1 hi (show x.nl.length - (i + 1) < x.nl.length - i by omega) ⟨rfl, rfl, rfl, rfl, trivial⟩ rfl
  · skip
    obtain rfl : i = x.nl.length := by omega
    refine Ad ?_
    refine Af Ag rfl ?_
    refine Ac rfl (.pointer (some ⟨p, 0, none⟩)) (fun b w hb hH => by exact BO rfl rfl hb) ?_
    refine Af Ag rfl ?_
    refine Ac rfl (x.nv) (fun b w hb hH => Bg rfl rfl (Bt Aw rfl) (hH.row 1 rfl) hb) ?_
    refine Ac rfl (.int .i64 (x.nl.length : Int)) (fun b w hb hH => AQ ((hH.rdFs 2 rfl x.rn)) Tryz.underlying53 rfl rfl hb) ?_
    refine Ac rfl (.bool false) (fun b w hb hH => Bh rfl rfl rfl (Bu (by omega)) hb) ?_
    refine Af Ag rfl ?_
    refine Ab (Au rfl (Cu (EO (EO (Bc (AG ?_))))))
    have hAll : (x.nl.map (·.n)).take x.nl.length = Er d.now := by rw [← hN, List.take_of_length_le (by simp)]
    rw [hAll]
    refine Bf [1, 2, 3, 4] rfl (Ce x hfu hdn) rfl ?_
    refine Ad ?_
    refine Af Ag rfl ?_
    refine Ab (Az ?_)
    exact Ay (.tmp rfl) (fun w h => AB (X := Value) ov rfl [0, 1] rfl h Cz) rfl
theorem RF {p : Nat} {d : DiskD} (hdn : d.down = true) : AS Tryz.prog 49 #[.pointer (some ⟨p, 0, none⟩)] [AA p d] (fun (v : Value) => v) (fun (v : Value) => [AA p d, Ao 9 1 encKs v ([])]) := by
  refine A6 (args := [.pointer (some ⟨p, 0, none⟩)]) 33 Tryz.func49 rfl rfl rfl ?_; intro w rs
  obtain ⟨fu, hfu⟩ : ∃ fu, d.fuse.isSome = fu := ⟨_, rfl⟩
  refine AY 0 rfl (CX hfu hdn) (fun _ => rfl) ?_; rintro x
  have hn64 := x.nlen
  refine Ad ?_
  refine Af Ag rfl ?_
  refine Ab (Ad ?_)
  refine Af Ag rfl ?_
  refine Ab (Aq (Ad ?_))
  refine Af Ag rfl ?_
  refine Ab (AX ?_)
  refine BZ 9 1 encKs ?_
  refine CE (α := Nat) (fun i => [(0, .pointer (some ⟨p, 0, none⟩)), (2, .slice none 0 0), (3, .slice none 0 0), (4, .int .i64 ((i : Nat) : Int))]) (fun i => [Ao 9 1 encKs (.slice none 0 0) ([]), cell p 59 #[.int .i64 d.room, x.sv, x.nv, x.wv, .bool fu, .int .i64 x.fz, .bool true], x.F, x.Y, Ao 103 5 encRO x.wv x.W]) (fun i => i = 0) (fun i => i) 0 rfl ⟨rfl, rfl, rfl, rfl, trivial⟩ rfl ?_
  rintro i hI
  refine Bo.at_ (env' := [(0, .pointer (some ⟨p, 0, none⟩)), (2, .slice none 0 0), (3, .slice none 0 0), (4, .int .i64 ((i : Nat) : Int))]) (rs' := [Ao 9 1 encKs (.slice none 0 0) ([]), cell p 59 #[.int .i64 d.room, x.sv, x.nv, x.wv, .bool fu, .int .i64 x.fz, .bool true], x.F, x.Y, Ao 103 5 encRO x.wv x.W]) ⟨rfl, rfl, rfl, rfl, trivial⟩ rfl ?_
  refine Aq ?_
  rcases Nat.lt_or_ge i x.nl.length with hi | hi
  · skip
    refine Ad ?_
    refine Af Ag rfl ?_
    refine Ac rfl (.pointer (some ⟨p, 0, none⟩)) (fun b w hb hH => by exact BO rfl rfl hb) ?_
    refine Af Ag rfl ?_
    refine Ac rfl (x.nv) (fun b w hb hH => Bg rfl rfl (Bt Aw rfl) (hH.row 1 rfl) hb) ?_
    refine Ac rfl (.int .i64 (x.nl.length : Int)) (fun b w hb hH => AQ ((hH.rdFs 2 rfl x.rn)) Tryz.underlying53 rfl rfl hb) ?_
    refine Ac rfl (.bool true) (fun b w hb hH => Bh rfl rfl rfl (Bl (by omega)) hb) ?_
    refine Af Ag rfl ?_
    refine Ac rfl (.pointer (some ⟨p, 0, none⟩)) (fun b w hb hH => by exact BO rfl rfl hb) ?_
    refine Af Ag rfl ?_
    refine Ac rfl (.bool true) (fun b w hb hH => Bg rfl rfl (Bt BN rfl) (hH.row 1 rfl) hb) ?_
    refine Af Ag rfl ?_
    refine Ab (Au rfl (Cu (EO (EO (Bc (AG ?_))))))
    refine Bf [1, 2, 3, 4] rfl (Ce x hfu hdn) rfl ?_
    refine Ad ?_
    refine Af Ag rfl ?_
    refine Ab (Az ?_)
    exact Ay (.tmp rfl) (fun w h => AB (X := Value) (.slice none 0 0) rfl [0, 1] rfl h Cz) rfl
  · skip
    refine Ad ?_
    refine Af Ag rfl ?_
    refine Ac rfl (.pointer (some ⟨p, 0, none⟩)) (fun b w hb hH => by exact BO rfl rfl hb) ?_
    refine Af Ag rfl ?_
    refine Ac rfl (x.nv) (fun b w hb hH => Bg rfl rfl (Bt Aw rfl) (hH.row 1 rfl) hb) ?_
    refine Ac rfl (.int .i64 (x.nl.length : Int)) (fun b w hb hH => AQ ((hH.rdFs 2 rfl x.rn)) Tryz.underlying53 rfl rfl hb) ?_
    refine Ac rfl (.bool false) (fun b w hb hH => Bh rfl rfl rfl (Bu (by omega)) hb) ?_
    refine Af Ag rfl ?_
    refine Ab (Au rfl (Cu (EO (EO (Bc (AG ?_))))))
    refine Bf [1, 2, 3, 4] rfl (Ce x hfu hdn) rfl ?_
    refine Ad ?_
    refine Af Ag rfl ?_
    refine Ab (Az ?_)
    exact Ay (.tmp rfl) (fun w h => AB (X := Value) (.slice none 0 0) rfl [0, 1] rfl h Cz) rfl
end Go.Proofs.YtnknboibmifacaaGreat.Sep
namespace Go.Proofs.YtnknboibmifacaaGreat.Sep
open Go.RowKit
open Go.Proofs.YtnknboibmifacaaGreat.Mem (Bd Cj Chg AF)
structure CrV (W : List OpV) (f : FS) (lv : Value) where
  F : Ass
  Y : Ass
  l : List RFl
  hs : Ei l
  hp : (FO l).Perm f
  rf : Fh F lv l
  ry : ∀ y : RFl, y ∈ l → Cw Y y.v y.d
  rw_ : ∀ q : OpV, q ∈ W → Cw Y q.v q.o.data
  c1 : lv.cells = #[lv] ∧ lv.oneCell' = true
def V3 (W : List OpV) (f : FS) (lv : Value) : Ass := fun rs => ∃ z : CrV W f lv, Al [z.F, z.Y] rs
theorem V3.open_ {W : List OpV} {f : FS} {lv : Value} : ∀ rs, V3 W f lv rs → ∃ z : CrV W f lv, Al [z.F, z.Y] rs := fun _ h => h
theorem V3.c1 {W : List OpV} {f : FS} {lv : Value} {rs : List RowT} (h : V3 W f lv rs) : lv.cells = #[lv] ∧ lv.oneCell' = true := by
 obtain ⟨z, _⟩ := h
 exact z.c1
def RDk.crash {d : DiskD} (x : RDk d) {W : List OpV} {f : FS} {lv : Value} (z : CrV W f lv) (hf : f.length ≤ 64) : RDk ⟨d.room, f, [], none, false⟩ where
  F := z.F
  Y := z.Y
  sv := lv
  nv := lv
  wv := .slice none 0 0
  sl := z.l
  nl := z.l
  W := []
  fz := x.fz
  hs := z.hs
  hn := z.hs
  ps := z.hp
  pn := z.hp
  hW := rfl
  rs := z.rf
  rn := z.rf
  ys := z.ry
  yn := z.ry
  yw := fun q h => nomatch h
  yc := fun q h => nomatch h
  hok := trivial
  few := fun k => by rw [List.take_nil]; exact hf
  hz := fun k h => nomatch h
  zr := x.zr
  nc := z.c1
  sc := z.c1
theorem Ty {X : Ass} {A : Option Addr} {c k : Nat} {l : List UInt8} (h : Cw X (.slice A l.length c) l) (hk : k ≤ l.length) : Cw X (.slice A (l.take k).length c) (l.take k) := fun rs w h1 h2 => (h rs w h1 h2).takes hk
end Go.Proofs.YtnknboibmifacaaGreat.Sep
