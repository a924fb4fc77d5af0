/-
  RdkN · RdkH
-/
import Derived.Test.YtjcfimmcogkopaaGreatYF01
import Derived.Test.YtjcfimmcogkopaaGreatYP02
set_option linter.unusedSimpArgs false
set_option linter.unusedVariables false
set_option maxRecDepth 100000
namespace Go.Proofs.YtjcfimmcogkopaaGreat.Sep
open Go.RowKit
open Go.Proofs.YtjcfimmcogkopaaGreat.Mem (AZ Ci Chg Au)
theorem GW : EncOf 1 encKs := ⟨fun _ => rfl, fun x v h => by unfold encKs at h; simp at h; subst h; rfl⟩
theorem Ue : ∀ {a b : List UInt8}, Ie a b = true → a ≤ b
  | [], _, _ => List.nil_le _
  | x :: a, [], h => by cases h
  | x :: a, y :: b, h => by
    have h1 : (decide (x < y) || (x == y && Ie a b)) = true := h
    rw [Bool.or_eq_true, Bool.and_eq_true, decide_eq_true_eq, beq_iff_eq] at h1
    intro h2
    rw [List.cons_lt_cons_iff] at h2
    rcases h1 with h1 | ⟨rfl, h1⟩
    · rcases h2 with h2 | ⟨rfl, _⟩
      · exact absurd (UInt8.lt_trans h1 h2) (UInt8.lt_irrefl _)
      · exact UInt8.lt_irrefl _ h1
    · rcases h2 with h2 | ⟨_, h2⟩
      · exact UInt8.lt_irrefl _ h2
      · exact Ue h1 h2
theorem RDk.names {d : DiskD} (x : RDk d) : x.nl.map (·.n) = Es d.now := by
  rw [← JK x.pn]
  unfold Es
  rw [La]
  refine (List.mergeSort_of_pairwise ?_).symm
  rw [List.pairwise_map]
  exact x.hn.imp fun h => decide_eq_true (Ue h)
theorem Wy {p : Nat} {d : DiskD} (hdn : d.down = false) : AW Tryz.prog 54 #[.pointer (some ⟨p, 0, none⟩)] [AB p d] (fun (v : Value) => v) (fun (v : Value) => [AB p d, Ap 9 1 encKs v (Es d.now)]) := by
  refine Be (args := [.pointer (some ⟨p, 0, none⟩)]) 33 Tryz.func54 rfl rfl rfl ?_; intro w rs
  obtain ⟨fu, hfu⟩ : ∃ fu, d.fuse.isSome = fu := ⟨_, rfl⟩
  refine Bd 0 rfl (Dl hfu hdn) (fun _ => rfl) ?_; rintro x
  have hn64 := x.nlen
  have hN := x.names
  refine Ad (Af Ai rfl (Ab (Ad (Af Ai rfl (Ab (Aq (Ad (Af Ai rfl (Ab (Bm (BY 9 1 encKs (C9 (α := Nat × Value) (fun ⟨i, ov⟩ => [(0, .pointer (some ⟨p, 0, none⟩)), (2, .slice none 0 0), (3, ov), (4, .int .i64 ((i : Nat) : Int))]) (fun ⟨i, ov⟩ => [Ap 9 1 encKs ov ((x.nl.map (·.n)).take i), cell p 61 #[.int .i64 d.room, x.sv, x.nv, x.wv, .bool fu, .int .i64 x.fz, .bool false], x.F, x.Y, Ap 107 5 encRO x.wv x.W]) (fun ⟨i, ov⟩ => i ≤ x.nl.length) (fun ⟨i, ov⟩ => x.nl.length - i) (0, .slice none 0 0) (Nat.zero_le _) ⟨rfl, rfl, rfl, rfl, trivial⟩ rfl ?_))))))))))))
  rintro ⟨i, ov⟩ hI
  refine Bv.at_ (env' := [(0, .pointer (some ⟨p, 0, none⟩)), (2, .slice none 0 0), (3, ov), (4, .int .i64 ((i : Nat) : Int))]) (rs' := [Ap 9 1 encKs ov ((x.nl.map (·.n)).take i), cell p 61 #[.int .i64 d.room, x.sv, x.nv, x.wv, .bool fu, .int .i64 x.fz, .bool false], x.F, x.Y, Ap 107 5 encRO x.wv x.W]) ⟨rfl, rfl, rfl, rfl, trivial⟩ rfl ?_
  have hI1 : i ≤ x.nl.length := hI
  refine Aq ?_
  rcases Nat.lt_or_ge i x.nl.length with hi | hi
  obtain ⟨y, hy⟩ : ∃ y, x.nl[i]? = some y := ⟨_, List.getElem?_eq_getElem hi⟩
  have hyn : (x.nl.map (·.n))[i]? = some y.n := by rw [List.getElem?_map, hy]; rfl
  refine Ad (Af Ai rfl (Ac rfl (.pointer (some ⟨p, 0, none⟩)) (fun b w hb hH => by exact BQ rfl rfl hb) (Af Ai rfl (Ac rfl (x.nv) (fun b w hb hH => Bb rfl rfl (Bn AD rfl) (hH.row 1 rfl) hb) (Ac rfl (.int .i64 (x.nl.length : Int)) (fun b w hb hH => AY ((hH.rdFs 2 rfl x.rn)) Tryz.underlying55 rfl rfl hb) (Ac rfl (.bool true) (fun b w hb hH => Bc rfl rfl rfl (BN (by omega)) hb) (Af Ai rfl (Ac rfl (.pointer (some ⟨p, 0, none⟩)) (fun b w hb hH => by exact BQ rfl rfl hb) (Af Ai rfl ?_)))))))))
  refine Ac rfl (.bool false) (fun b w hb hH => Bb rfl rfl (Bn BP rfl) (hH.row 1 rfl) hb) (Af Ai rfl (Ab (AI rfl (AC (AO (Aq (Bm (BV (Af Ai rfl (Ac rfl (.pointer (some ⟨p, 0, none⟩)) (fun b w hb hH => by exact BQ rfl rfl hb) (Af Ai rfl (Ac rfl (x.nv) (fun b w hb hH => Bb rfl rfl (Bn AD rfl) (hH.row 1 rfl) hb) (Af Ai rfl (Ac rfl (Cs x.nv (i * 2)) (fun b w hb hH => BH BS ((hH.rdFs 2 rfl x.rn)) Ar (j := i) hy rfl rfl rfl hb) (Ac rfl (Cs x.nv (i * 2 + 0)) (fun b w hb hH => M8 BS (by decide) ((hH.rdFs 2 rfl x.rn)) (j := i) hy Bu rfl rfl hb) ?_)))))))))))))))
  refine Ac rfl (.string (bs y.n)) (fun b w hb hH => By BS (by decide) ((hH.rdFs 2 rfl x.rn)) (j := i) hy AX (off := 0) rfl rfl rfl hb) ?_
  refine Aj (X := Value) (val := fun v : Value => v) (post := fun b30 => [Ap 9 1 encKs b30 ([y.n]), Ap 9 1 encKs ov ((x.nl.map (·.n)).take i), cell p 61 #[.int .i64 d.room, x.sv, x.nv, x.wv, .bool fu, .int .i64 x.fz, .bool false], x.F, x.Y, Ap 107 5 encRO x.wv x.W]) rfl (by refine Nv (e := 9) (t := 93) (enc := encKs) (x := .tmp 29) (c := .string (bs y.n)) ?_ ?_ y.n ?_ ?_ ?_; exact E1; exact GW; exact rfl; exact rfl; exact rfl) ?_; rintro b30
  refine Aj (post := fun ov2 => [Ap 9 1 encKs b30 ([y.n]), Ap 9 1 encKs ov2 ((x.nl.map (·.n)).take (i + 1)), cell p 61 #[.int .i64 d.room, x.sv, x.nv, x.wv, .bool fu, .int .i64 x.fz, .bool false], x.F, x.Y, Ap 107 5 encRO x.wv x.W]) rfl (Ha (nb := 16) 1 E1 GW (by kernel_rfl) (by decide) rfl ([y.n]) (fun w hH => hH.vec 0 rfl GW) (by simp only [List.length_take, List.length_map, List.length_cons, List.length_nil]; omega) rfl rfl rfl (F5 hyn)) ?_; rintro ov2
  refine Af Ai rfl (Bi (B3 (AO (BV (Af Ai rfl (Ac rfl (.int .i64 ((i + 1 : Nat) : Int)) (fun b w hb hH => AS rfl rfl rfl rfl (by rw [IntWalk.i64_in _ (by omega)]; omega) hb) (Af Ai rfl (Bi ?_))))))))
  exact CM (i + 1, ov2) 1 hi (show x.nl.length - (i + 1) < x.nl.length - i by omega) ⟨rfl, rfl, rfl, rfl, trivial⟩ rfl
  obtain rfl : i = x.nl.length := by omega
  refine Ad (Af Ai rfl (Ac rfl (.pointer (some ⟨p, 0, none⟩)) (fun b w hb hH => by exact BQ rfl rfl hb) (Af Ai rfl (Ac rfl (x.nv) (fun b w hb hH => Bb rfl rfl (Bn AD rfl) (hH.row 1 rfl) hb) (Ac rfl (.int .i64 (x.nl.length : Int)) (fun b w hb hH => AY ((hH.rdFs 2 rfl x.rn)) Tryz.underlying55 rfl rfl hb) (Ac rfl (.bool false) (fun b w hb hH => Bc rfl rfl rfl (B9 (by omega)) hb) (Af Ai rfl (Ab (Aw rfl (CQ (FR (FR (Br (AO ?_))))))))))))))
  have hAll : (x.nl.map (·.n)).take x.nl.length = Es d.now := by rw [← hN, List.take_of_length_le (by simp)]
  rw [hAll]
  refine Bk [1, 2, 3, 4] rfl (Cz x hfu hdn) rfl (Ad (Af Ai rfl (Ab (Av ?_))))
  exact As (.tmp rfl) (fun w h => AG (X := Value) ov rfl [0, 1] rfl h CV) rfl
theorem Ss {p : Nat} {d : DiskD} (hdn : d.down = true) : AW Tryz.prog 54 #[.pointer (some ⟨p, 0, none⟩)] [AB p d] (fun (v : Value) => v) (fun (v : Value) => [AB p d, Ap 9 1 encKs v ([])]) := by
 refine Be (args := [.pointer (some ⟨p, 0, none⟩)]) 33 Tryz.func54 rfl rfl rfl ?_; intro w rs
 obtain ⟨fu, hfu⟩ : ∃ fu, d.fuse.isSome = fu := ⟨_, rfl⟩
 refine Bd 0 rfl (Dl hfu hdn) (fun _ => rfl) ?_; rintro x
 have hn64 := x.nlen
 refine Ad (Af Ai rfl (Ab (Ad (Af Ai rfl (Ab (Aq (Ad (Af Ai rfl (Ab (Bm (BY 9 1 encKs (C9 (α := Nat) (fun i => [(0, .pointer (some ⟨p, 0, none⟩)), (2, .slice none 0 0), (3, .slice none 0 0), (4, .int .i64 ((i : Nat) : Int))]) (fun i => [Ap 9 1 encKs (.slice none 0 0) ([]), cell p 61 #[.int .i64 d.room, x.sv, x.nv, x.wv, .bool fu, .int .i64 x.fz, .bool true], x.F, x.Y, Ap 107 5 encRO x.wv x.W]) (fun i => i = 0) (fun i => i) 0 rfl ⟨rfl, rfl, rfl, rfl, trivial⟩ rfl ?_))))))))))))
 rintro i hI
 refine Bv.at_ (env' := [(0, .pointer (some ⟨p, 0, none⟩)), (2, .slice none 0 0), (3, .slice none 0 0), (4, .int .i64 ((i : Nat) : Int))]) (rs' := [Ap 9 1 encKs (.slice none 0 0) ([]), cell p 61 #[.int .i64 d.room, x.sv, x.nv, x.wv, .bool fu, .int .i64 x.fz, .bool true], x.F, x.Y, Ap 107 5 encRO x.wv x.W]) ⟨rfl, rfl, rfl, rfl, trivial⟩ rfl (Aq ?_)
 rcases Nat.lt_or_ge i x.nl.length with hi | hi
 refine Ad (Af Ai rfl (Ac rfl (.pointer (some ⟨p, 0, none⟩)) (fun b w hb hH => by exact BQ rfl rfl hb) (Af Ai rfl (Ac rfl (x.nv) (fun b w hb hH => Bb rfl rfl (Bn AD rfl) (hH.row 1 rfl) hb) (Ac rfl (.int .i64 (x.nl.length : Int)) (fun b w hb hH => AY ((hH.rdFs 2 rfl x.rn)) Tryz.underlying55 rfl rfl hb) (Ac rfl (.bool true) (fun b w hb hH => Bc rfl rfl rfl (BN (by omega)) hb) (Af Ai rfl (Ac rfl (.pointer (some ⟨p, 0, none⟩)) (fun b w hb hH => by exact BQ rfl rfl hb) (Af Ai rfl ?_)))))))))
 refine Ac rfl (.bool true) (fun b w hb hH => Bb rfl rfl (Bn BP rfl) (hH.row 1 rfl) hb) (Af Ai rfl (Ab (Aw rfl (CQ (FR (FR (Br (AO (Bk [1, 2, 3, 4] rfl (Cz x hfu hdn) rfl (Ad (Af Ai rfl (Ab (Av ?_)))))))))))))
 exact As (.tmp rfl) (fun w h => AG (X := Value) (.slice none 0 0) rfl [0, 1] rfl h CV) rfl
 refine Ad (Af Ai rfl (Ac rfl (.pointer (some ⟨p, 0, none⟩)) (fun b w hb hH => by exact BQ rfl rfl hb) (Af Ai rfl (Ac rfl (x.nv) (fun b w hb hH => Bb rfl rfl (Bn AD rfl) (hH.row 1 rfl) hb) (Ac rfl (.int .i64 (x.nl.length : Int)) (fun b w hb hH => AY ((hH.rdFs 2 rfl x.rn)) Tryz.underlying55 rfl rfl hb) (Ac rfl (.bool false) (fun b w hb hH => Bc rfl rfl rfl (B9 (by omega)) hb) (Af Ai rfl (Ab (Aw rfl (CQ (FR (FR (Br (AO (Bk [1, 2, 3, 4] rfl (Cz x hfu hdn) rfl ?_)))))))))))))))
 refine Ad (Af Ai rfl (Ab (Av ?_)))
 exact As (.tmp rfl) (fun w h => AG (X := Value) (.slice none 0 0) rfl [0, 1] rfl h CV) rfl
end Go.Proofs.YtjcfimmcogkopaaGreat.Sep
namespace Go.Proofs.YtjcfimmcogkopaaGreat.Sep
open Go.RowKit
open Go.Proofs.YtjcfimmcogkopaaGreat.Mem (AZ Ci Chg Au)
structure CrV (W : List OpV) (f : FS) (lv : Value) where
  F : Ass
  Y : Ass
  l : List RFl
  hs : Eg l
  hp : (FT l).Perm f
  rf : Fh F lv l
  ry : ∀ y : RFl, y ∈ l → Cu Y y.v y.d
  rw_ : ∀ q : OpV, q ∈ W → Cu Y q.v q.o.data
  c1 : lv.cells = #[lv] ∧ lv.oneCell' = true
def Xg (W : List OpV) (f : FS) (lv : Value) : Ass := fun rs => ∃ z : CrV W f lv, Ak [z.F, z.Y] rs
theorem Xg.open_ {W : List OpV} {f : FS} {lv : Value} : ∀ rs, Xg W f lv rs → ∃ z : CrV W f lv, Ak [z.F, z.Y] rs := fun _ h => h
theorem Xg.c1 {W : List OpV} {f : FS} {lv : Value} {rs : List RowT} (h : Xg W f lv rs) : lv.cells = #[lv] ∧ lv.oneCell' = true := by
 obtain ⟨z, _⟩ := h
 exact z.c1
def RDk.crash {d : DiskD} (x : RDk d) {W : List OpV} {f : FS} {lv : Value} (z : CrV W f lv) (hf : f.length ≤ 64) : RDk ⟨d.room, f, [], none, false⟩ where
  F := z.F
  Y := z.Y
  sv := lv
  nv := lv
  wv := .slice none 0 0
  sl := z.l
  nl := z.l
  W := []
  fz := x.fz
  hs := z.hs
  hn := z.hs
  ps := z.hp
  pn := z.hp
  hW := rfl
  rs := z.rf
  rn := z.rf
  ys := z.ry
  yn := z.ry
  yw := fun q h => nomatch h
  yc := fun q h => nomatch h
  hok := trivial
  few := fun k => by rw [List.take_nil]; exact hf
  hz := fun k h => nomatch h
  zr := x.zr
  nc := z.c1
  sc := z.c1
end Go.Proofs.YtjcfimmcogkopaaGreat.Sep
