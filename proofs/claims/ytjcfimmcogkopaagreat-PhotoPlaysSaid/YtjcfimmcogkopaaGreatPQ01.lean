/-
  RdkN
-/
import Derived.Test.YtjcfimmcogkopaaGreatPF01
import Derived.Test.YtjcfimmcogkopaaGreatPP03
set_option linter.unusedSimpArgs false
set_option linter.unusedVariables false
set_option maxRecDepth 100000
namespace Go.Proofs.YtjcfimmcogkopaaGreat.Sep
open Go.RowKit
open Go.Proofs.YtjcfimmcogkopaaGreat.Mem (Bh Cs Chg AA)
theorem HG : EncOf 1 encKs := ⟨fun _ => rfl, fun x v h => by unfold encKs at h; simp at h; subst h; rfl⟩
theorem UV : ∀ {a b : List UInt8}, IQ a b = true → a ≤ b
  | [], _, _ => List.nil_le _
  | x :: a, [], h => by cases h
  | x :: a, y :: b, h => by
    have h1 : (decide (x < y) || (x == y && IQ a b)) = true := h
    rw [Bool.or_eq_true, Bool.and_eq_true, decide_eq_true_eq, beq_iff_eq] at h1
    intro h2
    rw [List.cons_lt_cons_iff] at h2
    rcases h1 with h1 | ⟨rfl, h1⟩
    · rcases h2 with h2 | ⟨rfl, _⟩
      · exact absurd (UInt8.lt_trans h1 h2) (UInt8.lt_irrefl _)
      · exact UInt8.lt_irrefl _ h1
    · rcases h2 with h2 | ⟨_, h2⟩
      · exact UInt8.lt_irrefl _ h2
      · exact UV h1 h2
theorem RDk.names {d : DiskD} (x : RDk d) : x.nl.map (·.n) = ES d.now := by
  rw [← Kj x.pn]
  unfold ES
  rw [LO]
  refine (List.mergeSort_of_pairwise ?_).symm
  rw [List.pairwise_map]
  exact x.hn.imp fun h => decide_eq_true (UV h)
theorem Xw {p : Nat} {d : DiskD} (hdn : d.down = false) : AX Tryz.prog 54 #[.pointer (some ⟨p, 0, none⟩)] [An p d] (fun (v : Value) => v) (fun (v : Value) => [An p d, Ar 9 1 encKs v (ES d.now)]) := by
  refine Bg (args := [.pointer (some ⟨p, 0, none⟩)]) 33 Tryz.func54 rfl rfl rfl ?_; intro w rs
  obtain ⟨fu, hfu⟩ : ∃ fu, d.fuse.isSome = fu := ⟨_, rfl⟩
  refine Be 0 rfl (CS hfu hdn) (fun _ => rfl) ?_; rintro x
  have hn64 := x.nlen
  have hN := x.names
  refine Ad (Ae Ah rfl (Ab (Ad (Ae Ah rfl (Ab (Av (Ad (Ae Ah rfl (Ab (Bo (B6 9 1 encKs (Dd (α := Nat × Value) (fun ⟨i, ov⟩ => [(0, .pointer (some ⟨p, 0, none⟩)), (2, .slice none 0 0), (3, ov), (4, .int .i64 ((i : Nat) : Int))]) (fun ⟨i, ov⟩ => [Ar 9 1 encKs ov ((x.nl.map (·.n)).take i), cell p 61 #[.int .i64 d.room, x.sv, x.nv, x.wv, .bool fu, .int .i64 x.fz, .bool false], x.F, x.Y, Ar 107 5 encRO x.wv x.W]) (fun ⟨i, ov⟩ => i ≤ x.nl.length) (fun ⟨i, ov⟩ => x.nl.length - i) (0, .slice none 0 0) (Nat.zero_le _) ⟨rfl, rfl, rfl, rfl, trivial⟩ rfl ?_))))))))))))
  rintro ⟨i, ov⟩ hI
  refine BB.at_ (env' := [(0, .pointer (some ⟨p, 0, none⟩)), (2, .slice none 0 0), (3, ov), (4, .int .i64 ((i : Nat) : Int))]) (rs' := [Ar 9 1 encKs ov ((x.nl.map (·.n)).take i), cell p 61 #[.int .i64 d.room, x.sv, x.nv, x.wv, .bool fu, .int .i64 x.fz, .bool false], x.F, x.Y, Ar 107 5 encRO x.wv x.W]) ⟨rfl, rfl, rfl, rfl, trivial⟩ rfl ?_
  have hI1 : i ≤ x.nl.length := hI
  refine Av ?_
  rcases Nat.lt_or_ge i x.nl.length with hi | hi
  obtain ⟨y, hy⟩ : ∃ y, x.nl[i]? = some y := ⟨_, List.getElem?_eq_getElem hi⟩
  have hyn : (x.nl.map (·.n))[i]? = some y.n := by rw [List.getElem?_map, hy]; rfl
  refine Ad (Ae Ah rfl (Aa rfl (.pointer (some ⟨p, 0, none⟩)) (fun b w hb hH => by exact BD rfl rfl hb) (Ae Ah rfl (Aa rfl (x.nv) (fun b w hb hH => Ba rfl rfl (Bm Ap rfl) (hH.row 1 rfl) hb) (Aa rfl (.int .i64 (x.nl.length : Int)) (fun b w hb hH => Bf ((hH.rdFs 2 rfl x.rn)) Tryz.underlying55 rfl rfl hb) (Aa rfl (.bool true) (fun b w hb hH => AZ rfl rfl rfl (Bw (by omega)) hb) (Ae Ah rfl (Aa rfl (.pointer (some ⟨p, 0, none⟩)) (fun b w hb hH => by exact BD rfl rfl hb) (Ae Ah rfl ?_)))))))))
  refine Aa rfl (.bool false) (fun b w hb hH => Ba rfl rfl (Bm Bt rfl) (hH.row 1 rfl) hb) (Ae Ah rfl (Ab (AI rfl (AB (AL (Av (Bo (Bp (Ae Ah rfl (Aa rfl (.pointer (some ⟨p, 0, none⟩)) (fun b w hb hH => by exact BD rfl rfl hb) (Ae Ah rfl (Aa rfl (x.nv) (fun b w hb hH => Ba rfl rfl (Bm Ap rfl) (hH.row 1 rfl) hb) (Ae Ah rfl (Aa rfl (BN x.nv (i * 2)) (fun b w hb hH => BH B3 ((hH.rdFs 2 rfl x.rn)) AD (j := i) hy rfl rfl rfl hb) (Aa rfl (BN x.nv (i * 2 + 0)) (fun b w hb hH => JH B3 (by decide) ((hH.rdFs 2 rfl x.rn)) (j := i) hy BE rfl rfl hb) ?_)))))))))))))))
  refine Aa rfl (.string (bs y.n)) (fun b w hb hH => Bu B3 (by decide) ((hH.rdFs 2 rfl x.rn)) (j := i) hy Bd (off := 0) rfl rfl rfl hb) ?_
  refine Aj (X := Value) (val := fun v : Value => v) (post := fun b30 => [Ar 9 1 encKs b30 ([y.n]), Ar 9 1 encKs ov ((x.nl.map (·.n)).take i), cell p 61 #[.int .i64 d.room, x.sv, x.nv, x.wv, .bool fu, .int .i64 x.fz, .bool false], x.F, x.Y, Ar 107 5 encRO x.wv x.W]) rfl (by refine KY (e := 9) (t := 93) (enc := encKs) (x := .tmp 29) (c := .string (bs y.n)) ?_ ?_ y.n ?_ ?_ ?_; exact Fw; exact HG; exact rfl; exact rfl; exact rfl) ?_; rintro b30
  refine Aj (post := fun ov2 => [Ar 9 1 encKs b30 ([y.n]), Ar 9 1 encKs ov2 ((x.nl.map (·.n)).take (i + 1)), cell p 61 #[.int .i64 d.room, x.sv, x.nv, x.wv, .bool fu, .int .i64 x.fz, .bool false], x.F, x.Y, Ar 107 5 encRO x.wv x.W]) rfl (JS (nb := 16) 1 Fw HG (by kernel_rfl) (by decide) rfl ([y.n]) (fun w hH => hH.vec 0 rfl HG) (by simp only [List.length_take, List.length_map, List.length_cons, List.length_nil]; omega) rfl rfl rfl (GJ hyn)) ?_; rintro ov2
  refine Ae Ah rfl (AV (BC (AL (Bp (Ae Ah rfl (Aa rfl (.int .i64 ((i + 1 : Nat) : Int)) (fun b w hb hH => AQ rfl rfl rfl rfl (by rw [IntWalk.i64_in _ (by omega)]; omega) hb) (Ae Ah rfl (AV ?_))))))))
  exact Cr (i + 1, ov2) 1 hi (show x.nl.length - (i + 1) < x.nl.length - i by omega) ⟨rfl, rfl, rfl, rfl, trivial⟩ rfl
  obtain rfl : i = x.nl.length := by omega
  refine Ad (Ae Ah rfl (Aa rfl (.pointer (some ⟨p, 0, none⟩)) (fun b w hb hH => by exact BD rfl rfl hb) (Ae Ah rfl (Aa rfl (x.nv) (fun b w hb hH => Ba rfl rfl (Bm Ap rfl) (hH.row 1 rfl) hb) (Aa rfl (.int .i64 (x.nl.length : Int)) (fun b w hb hH => Bf ((hH.rdFs 2 rfl x.rn)) Tryz.underlying55 rfl rfl hb) (Aa rfl (.bool false) (fun b w hb hH => AZ rfl rfl rfl (BS (by omega)) hb) (Ae Ah rfl (Ab (As rfl (CP (FP (FP (Br (AL ?_))))))))))))))
  have hAll : (x.nl.map (·.n)).take x.nl.length = ES d.now := by rw [← hN, List.take_of_length_le (by simp)]
  rw [hAll]
  refine Bi [1, 2, 3, 4] rfl (CD x hfu hdn) rfl (Ad (Ae Ah rfl (Ab (Ax ?_))))
  exact Aw (.tmp rfl) (fun w h => AH (X := Value) ov rfl [0, 1] rfl h CK) rfl
theorem S3 {p : Nat} {d : DiskD} (hdn : d.down = true) : AX Tryz.prog 54 #[.pointer (some ⟨p, 0, none⟩)] [An p d] (fun (v : Value) => v) (fun (v : Value) => [An p d, Ar 9 1 encKs v ([])]) := by
 refine Bg (args := [.pointer (some ⟨p, 0, none⟩)]) 33 Tryz.func54 rfl rfl rfl ?_; intro w rs
 obtain ⟨fu, hfu⟩ : ∃ fu, d.fuse.isSome = fu := ⟨_, rfl⟩
 refine Be 0 rfl (CS hfu hdn) (fun _ => rfl) ?_; rintro x
 have hn64 := x.nlen
 refine Ad (Ae Ah rfl (Ab (Ad (Ae Ah rfl (Ab (Av (Ad (Ae Ah rfl (Ab (Bo (B6 9 1 encKs (Dd (α := Nat) (fun i => [(0, .pointer (some ⟨p, 0, none⟩)), (2, .slice none 0 0), (3, .slice none 0 0), (4, .int .i64 ((i : Nat) : Int))]) (fun i => [Ar 9 1 encKs (.slice none 0 0) ([]), cell p 61 #[.int .i64 d.room, x.sv, x.nv, x.wv, .bool fu, .int .i64 x.fz, .bool true], x.F, x.Y, Ar 107 5 encRO x.wv x.W]) (fun i => i = 0) (fun i => i) 0 rfl ⟨rfl, rfl, rfl, rfl, trivial⟩ rfl ?_))))))))))))
 rintro i hI
 refine BB.at_ (env' := [(0, .pointer (some ⟨p, 0, none⟩)), (2, .slice none 0 0), (3, .slice none 0 0), (4, .int .i64 ((i : Nat) : Int))]) (rs' := [Ar 9 1 encKs (.slice none 0 0) ([]), cell p 61 #[.int .i64 d.room, x.sv, x.nv, x.wv, .bool fu, .int .i64 x.fz, .bool true], x.F, x.Y, Ar 107 5 encRO x.wv x.W]) ⟨rfl, rfl, rfl, rfl, trivial⟩ rfl (Av ?_)
 rcases Nat.lt_or_ge i x.nl.length with hi | hi
 refine Ad (Ae Ah rfl (Aa rfl (.pointer (some ⟨p, 0, none⟩)) (fun b w hb hH => by exact BD rfl rfl hb) (Ae Ah rfl (Aa rfl (x.nv) (fun b w hb hH => Ba rfl rfl (Bm Ap rfl) (hH.row 1 rfl) hb) (Aa rfl (.int .i64 (x.nl.length : Int)) (fun b w hb hH => Bf ((hH.rdFs 2 rfl x.rn)) Tryz.underlying55 rfl rfl hb) (Aa rfl (.bool true) (fun b w hb hH => AZ rfl rfl rfl (Bw (by omega)) hb) (Ae Ah rfl (Aa rfl (.pointer (some ⟨p, 0, none⟩)) (fun b w hb hH => by exact BD rfl rfl hb) (Ae Ah rfl ?_)))))))))
 refine Aa rfl (.bool true) (fun b w hb hH => Ba rfl rfl (Bm Bt rfl) (hH.row 1 rfl) hb) (Ae Ah rfl (Ab (As rfl (CP (FP (FP (Br (AL (Bi [1, 2, 3, 4] rfl (CD x hfu hdn) rfl (Ad (Ae Ah rfl (Ab (Ax ?_)))))))))))))
 exact Aw (.tmp rfl) (fun w h => AH (X := Value) (.slice none 0 0) rfl [0, 1] rfl h CK) rfl
 refine Ad (Ae Ah rfl (Aa rfl (.pointer (some ⟨p, 0, none⟩)) (fun b w hb hH => by exact BD rfl rfl hb) (Ae Ah rfl (Aa rfl (x.nv) (fun b w hb hH => Ba rfl rfl (Bm Ap rfl) (hH.row 1 rfl) hb) (Aa rfl (.int .i64 (x.nl.length : Int)) (fun b w hb hH => Bf ((hH.rdFs 2 rfl x.rn)) Tryz.underlying55 rfl rfl hb) (Aa rfl (.bool false) (fun b w hb hH => AZ rfl rfl rfl (BS (by omega)) hb) (Ae Ah rfl (Ab (As rfl (CP (FP (FP (Br (AL (Bi [1, 2, 3, 4] rfl (CD x hfu hdn) rfl ?_)))))))))))))))
 refine Ad (Ae Ah rfl (Ab (Ax ?_)))
 exact Aw (.tmp rfl) (fun w h => AH (X := Value) (.slice none 0 0) rfl [0, 1] rfl h CK) rfl
end Go.Proofs.YtjcfimmcogkopaaGreat.Sep
