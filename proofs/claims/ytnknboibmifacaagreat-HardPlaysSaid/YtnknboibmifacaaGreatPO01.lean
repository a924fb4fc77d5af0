/-
  RdkN
-/
import Derived.Test.YtnknboibmifacaaGreatPF01
import Derived.Test.YtnknboibmifacaaGreatPN03
set_option linter.unusedSimpArgs false
set_option linter.unusedVariables false
set_option maxRecDepth 100000
namespace Go.Proofs.YtnknboibmifacaaGreat.Sep
open Go.RowKit
open Go.Proofs.YtnknboibmifacaaGreat.Mem (Bl Co Chg AG)
theorem Hh : EncOf 1 encKs := ⟨fun _ => rfl, fun x v h => by unfold encKs at h; simp at h; subst h; rfl⟩
theorem TO : ∀ {a b : List UInt8}, Ix a b = true → a ≤ b
  | [], _, _ => List.nil_le _
  | x :: a, [], h => by cases h
  | x :: a, y :: b, h => by
    have h1 : (decide (x < y) || (x == y && Ix a b)) = true := h
    rw [Bool.or_eq_true, Bool.and_eq_true, decide_eq_true_eq, beq_iff_eq] at h1
    intro h2
    rw [List.cons_lt_cons_iff] at h2
    rcases h1 with h1 | ⟨rfl, h1⟩
    · rcases h2 with h2 | ⟨rfl, _⟩
      · exact absurd (UInt8.lt_trans h1 h2) (UInt8.lt_irrefl _)
      · exact UInt8.lt_irrefl _ h1
    · rcases h2 with h2 | ⟨_, h2⟩
      · exact UInt8.lt_irrefl _ h2
      · exact TO h1 h2
theorem RDk.names {d : DiskD} (x : RDk d) : x.nl.map (·.n) = EK d.now := by
  rw [← J6 x.pn]
  unfold EK
  rw [Ls]
  refine (List.mergeSort_of_pairwise ?_).symm
  rw [List.pairwise_map]
  exact x.hn.imp fun h => decide_eq_true (TO h)
theorem VR {p : Nat} {d : DiskD} (hdn : d.down = false) : AU Tryz.prog 49 #[.pointer (some ⟨p, 0, none⟩)] [Au p d] (fun (v : Value) => v) (fun (v : Value) => [Au p d, As 9 1 encKs v (EK d.now)]) := by
  refine Bd (args := [.pointer (some ⟨p, 0, none⟩)]) 33 Tryz.func49 rfl rfl rfl ?_; intro w rs
  obtain ⟨fu, hfu⟩ : ∃ fu, d.fuse.isSome = fu := ⟨_, rfl⟩
  refine AZ 0 rfl (Cy hfu hdn) (fun _ => rfl) ?_; rintro x
  have hn64 := x.nlen
  have hN := x.names
  refine Ad ?_
  refine Ae Ag rfl ?_
  refine Aa (Ad ?_)
  refine Ae Ag rfl ?_
  refine Aa (Aq (Ad ?_))
  refine Ae Ag rfl ?_
  refine Aa (Bb ?_)
  refine B4 9 1 encKs ?_
  refine CO (α := Nat × Value) (fun ⟨i, ov⟩ => [(0, .pointer (some ⟨p, 0, none⟩)), (2, .slice none 0 0), (3, ov), (4, .int .i64 ((i : Nat) : Int))]) (fun ⟨i, ov⟩ => [As 9 1 encKs ov ((x.nl.map (·.n)).take i), cell p 59 #[.int .i64 d.room, x.sv, x.nv, x.wv, .bool fu, .int .i64 x.fz, .bool false], x.F, x.Y, As 103 5 encRO x.wv x.W]) (fun ⟨i, ov⟩ => i ≤ x.nl.length) (fun ⟨i, ov⟩ => x.nl.length - i) (0, .slice none 0 0) (Nat.zero_le _) ⟨rfl, rfl, rfl, rfl, trivial⟩ rfl ?_
  rintro ⟨i, ov⟩ hI
  refine Bv.at_ (env' := [(0, .pointer (some ⟨p, 0, none⟩)), (2, .slice none 0 0), (3, ov), (4, .int .i64 ((i : Nat) : Int))]) (rs' := [As 9 1 encKs ov ((x.nl.map (·.n)).take i), cell p 59 #[.int .i64 d.room, x.sv, x.nv, x.wv, .bool fu, .int .i64 x.fz, .bool false], x.F, x.Y, As 103 5 encRO x.wv x.W]) ⟨rfl, rfl, rfl, rfl, trivial⟩ rfl ?_
  have hI1 : i ≤ x.nl.length := hI
  refine Aq ?_
  rcases Nat.lt_or_ge i x.nl.length with hi | hi
  · skip
    obtain ⟨y, hy⟩ : ∃ y, x.nl[i]? = some y := ⟨_, List.getElem?_eq_getElem hi⟩
    have hyn : (x.nl.map (·.n))[i]? = some y.n := by rw [List.getElem?_map, hy]; rfl
    refine Ad ?_
    refine Ae Ag rfl ?_
    refine Ab rfl (.pointer (some ⟨p, 0, none⟩)) (fun b w hb hH => by exact BA rfl rfl hb) ?_
    refine Ae Ag rfl ?_
    refine Ab rfl (x.nv) (fun b w hb hH => A6 rfl rfl (Bk An rfl) (hH.row 1 rfl) hb) ?_
    refine Ab rfl (.int .i64 (x.nl.length : Int)) (fun b w hb hH => AT ((hH.rdFs 2 rfl x.rn)) Tryz.underlying53 rfl rfl hb) ?_
    refine Ab rfl (.bool true) (fun b w hb hH => AV rfl rfl rfl (A7 (by omega)) hb) ?_
    refine Ae Ag rfl ?_
    refine Ab rfl (.pointer (some ⟨p, 0, none⟩)) (fun b w hb hH => by exact BA rfl rfl hb) ?_
    refine Ae Ag rfl ?_
    refine Ab rfl (.bool false) (fun b w hb hH => A6 rfl rfl (Bk Bo rfl) (hH.row 1 rfl) hb) ?_
    refine Ae Ag rfl ?_
    refine Aa (AC rfl (Ax (AE (Aq (Bb (Br ?_))))))
    refine Ae Ag rfl ?_
    refine Ab rfl (.pointer (some ⟨p, 0, none⟩)) (fun b w hb hH => by exact BA rfl rfl hb) ?_
    refine Ae Ag rfl ?_
    refine Ab rfl (x.nv) (fun b w hb hH => A6 rfl rfl (Bk An rfl) (hH.row 1 rfl) hb) ?_
    refine Ae Ag rfl ?_
    refine Ab rfl (BP x.nv (i * 2)) (fun b w hb hH => BF BT ((hH.rdFs 2 rfl x.rn)) Az (j := i) hy rfl rfl rfl hb) ?_
    refine Ab rfl (BP x.nv (i * 2 + 0)) (fun b w hb hH => IS BT (by decide) ((hH.rdFs 2 rfl x.rn)) (j := i) hy BB rfl rfl hb) ?_
    refine Ab rfl (.string (bs y.n)) (fun b w hb hH => Bm BT (by decide) ((hH.rdFs 2 rfl x.rn)) (j := i) hy Ba (off := 0) rfl rfl rfl hb) ?_
    refine Aj (X := Value) (val := fun v : Value => v) (post := fun b30 => [As 9 1 encKs b30 ([y.n]), As 9 1 encKs ov ((x.nl.map (·.n)).take i), cell p 59 #[.int .i64 d.room, x.sv, x.nv, x.wv, .bool fu, .int .i64 x.fz, .bool false], x.F, x.Y, As 103 5 encRO x.wv x.W]) rfl (by refine KH (e := 9) (t := 88) (enc := encKs) (x := .tmp 29) (c := .string (bs y.n)) ?_ ?_ y.n ?_ ?_ ?_; exact Fh; exact Hh; exact rfl; exact rfl; exact rfl) ?_; rintro b30
    refine Aj (post := fun ov2 => [As 9 1 encKs b30 ([y.n]), As 9 1 encKs ov2 ((x.nl.map (·.n)).take (i + 1)), cell p 59 #[.int .i64 d.room, x.sv, x.nv, x.wv, .bool fu, .int .i64 x.fz, .bool false], x.F, x.Y, As 103 5 encRO x.wv x.W]) rfl (JE (nb := 16) 1 Fh Hh (by kernel_rfl) (by decide) rfl ([y.n]) (fun w hH => hH.vec 0 rfl Hh) (by simp only [List.length_take, List.length_map, List.length_cons, List.length_nil]; omega) rfl rfl rfl (Gt hyn)) ?_; rintro ov2
    refine Ae Ag rfl ?_
    refine AP (Bt (AE (Br ?_)))
    refine Ae Ag rfl ?_
    refine Ab rfl (.int .i64 ((i + 1 : Nat) : Int)) (fun b w hb hH => AN rfl rfl rfl rfl (by rw [IntWalk.i64_in _ (by omega)]; omega) hb) ?_
    refine Ae Ag rfl ?_
    refine AP ?_
    exact Cc (i + 1, ov2) 1 hi (show x.nl.length - (i + 1) < x.nl.length - i by omega) ⟨rfl, rfl, rfl, rfl, trivial⟩ rfl
  · skip
    obtain rfl : i = x.nl.length := by omega
    refine Ad ?_
    refine Ae Ag rfl ?_
    refine Ab rfl (.pointer (some ⟨p, 0, none⟩)) (fun b w hb hH => by exact BA rfl rfl hb) ?_
    refine Ae Ag rfl ?_
    refine Ab rfl (x.nv) (fun b w hb hH => A6 rfl rfl (Bk An rfl) (hH.row 1 rfl) hb) ?_
    refine Ab rfl (.int .i64 (x.nl.length : Int)) (fun b w hb hH => AT ((hH.rdFs 2 rfl x.rn)) Tryz.underlying53 rfl rfl hb) ?_
    refine Ab rfl (.bool false) (fun b w hb hH => AV rfl rfl rfl (Bn (by omega)) hb) ?_
    refine Ae Ag rfl ?_
    refine Aa (Ar rfl (Cu (E0 (E0 (Bh (AE ?_))))))
    have hAll : (x.nl.map (·.n)).take x.nl.length = EK d.now := by rw [← hN, List.take_of_length_le (by simp)]
    rw [hAll]
    refine AX [1, 2, 3, 4] rfl (Cb x hfu hdn) rfl ?_
    refine Ad ?_
    refine Ae Ag rfl ?_
    refine Aa (Ay ?_)
    exact Av (.tmp rfl) (fun w h => AB (X := Value) ov rfl [0, 1] rfl h Cl) rfl
theorem RW {p : Nat} {d : DiskD} (hdn : d.down = true) : AU Tryz.prog 49 #[.pointer (some ⟨p, 0, none⟩)] [Au p d] (fun (v : Value) => v) (fun (v : Value) => [Au p d, As 9 1 encKs v ([])]) := by
  refine Bd (args := [.pointer (some ⟨p, 0, none⟩)]) 33 Tryz.func49 rfl rfl rfl ?_; intro w rs
  obtain ⟨fu, hfu⟩ : ∃ fu, d.fuse.isSome = fu := ⟨_, rfl⟩
  refine AZ 0 rfl (Cy hfu hdn) (fun _ => rfl) ?_; rintro x
  have hn64 := x.nlen
  refine Ad ?_
  refine Ae Ag rfl ?_
  refine Aa (Ad ?_)
  refine Ae Ag rfl ?_
  refine Aa (Aq (Ad ?_))
  refine Ae Ag rfl ?_
  refine Aa (Bb ?_)
  refine B4 9 1 encKs ?_
  refine CO (α := Nat) (fun i => [(0, .pointer (some ⟨p, 0, none⟩)), (2, .slice none 0 0), (3, .slice none 0 0), (4, .int .i64 ((i : Nat) : Int))]) (fun i => [As 9 1 encKs (.slice none 0 0) ([]), cell p 59 #[.int .i64 d.room, x.sv, x.nv, x.wv, .bool fu, .int .i64 x.fz, .bool true], x.F, x.Y, As 103 5 encRO x.wv x.W]) (fun i => i = 0) (fun i => i) 0 rfl ⟨rfl, rfl, rfl, rfl, trivial⟩ rfl ?_
  rintro i hI
  refine Bv.at_ (env' := [(0, .pointer (some ⟨p, 0, none⟩)), (2, .slice none 0 0), (3, .slice none 0 0), (4, .int .i64 ((i : Nat) : Int))]) (rs' := [As 9 1 encKs (.slice none 0 0) ([]), cell p 59 #[.int .i64 d.room, x.sv, x.nv, x.wv, .bool fu, .int .i64 x.fz, .bool true], x.F, x.Y, As 103 5 encRO x.wv x.W]) ⟨rfl, rfl, rfl, rfl, trivial⟩ rfl ?_
  refine Aq ?_
  rcases Nat.lt_or_ge i x.nl.length with hi | hi
  · skip
    refine Ad ?_
    refine Ae Ag rfl ?_
    refine Ab rfl (.pointer (some ⟨p, 0, none⟩)) (fun b w hb hH => by exact BA rfl rfl hb) ?_
    refine Ae Ag rfl ?_
    refine Ab rfl (x.nv) (fun b w hb hH => A6 rfl rfl (Bk An rfl) (hH.row 1 rfl) hb) ?_
    refine Ab rfl (.int .i64 (x.nl.length : Int)) (fun b w hb hH => AT ((hH.rdFs 2 rfl x.rn)) Tryz.underlying53 rfl rfl hb) ?_
    refine Ab rfl (.bool true) (fun b w hb hH => AV rfl rfl rfl (A7 (by omega)) hb) ?_
    refine Ae Ag rfl ?_
    refine Ab rfl (.pointer (some ⟨p, 0, none⟩)) (fun b w hb hH => by exact BA rfl rfl hb) ?_
    refine Ae Ag rfl ?_
    refine Ab rfl (.bool true) (fun b w hb hH => A6 rfl rfl (Bk Bo rfl) (hH.row 1 rfl) hb) ?_
    refine Ae Ag rfl ?_
    refine Aa (Ar rfl (Cu (E0 (E0 (Bh (AE ?_))))))
    refine AX [1, 2, 3, 4] rfl (Cb x hfu hdn) rfl ?_
    refine Ad ?_
    refine Ae Ag rfl ?_
    refine Aa (Ay ?_)
    exact Av (.tmp rfl) (fun w h => AB (X := Value) (.slice none 0 0) rfl [0, 1] rfl h Cl) rfl
  · skip
    refine Ad ?_
    refine Ae Ag rfl ?_
    refine Ab rfl (.pointer (some ⟨p, 0, none⟩)) (fun b w hb hH => by exact BA rfl rfl hb) ?_
    refine Ae Ag rfl ?_
    refine Ab rfl (x.nv) (fun b w hb hH => A6 rfl rfl (Bk An rfl) (hH.row 1 rfl) hb) ?_
    refine Ab rfl (.int .i64 (x.nl.length : Int)) (fun b w hb hH => AT ((hH.rdFs 2 rfl x.rn)) Tryz.underlying53 rfl rfl hb) ?_
    refine Ab rfl (.bool false) (fun b w hb hH => AV rfl rfl rfl (Bn (by omega)) hb) ?_
    refine Ae Ag rfl ?_
    refine Aa (Ar rfl (Cu (E0 (E0 (Bh (AE ?_))))))
    refine AX [1, 2, 3, 4] rfl (Cb x hfu hdn) rfl ?_
    refine Ad ?_
    refine Ae Ag rfl ?_
    refine Aa (Ay ?_)
    exact Av (.tmp rfl) (fun w h => AB (X := Value) (.slice none 0 0) rfl [0, 1] rfl h Cl) rfl
end Go.Proofs.YtnknboibmifacaaGreat.Sep
