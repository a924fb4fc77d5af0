/-
  FrmR · FrmS
-/
import Derived.Test.YtnknboibmifacaaGreatPB02
import Derived.Test.YtnknboibmifacaaGreatPB03
import Derived.Test.YtnknboibmifacaaGreatPG01
set_option linter.unusedSimpArgs false
set_option linter.unusedVariables false
set_option maxRecDepth 100000
namespace Go.Proofs.YtnknboibmifacaaGreat.Sep
open Go.RowKit
open Go.Proofs.YtnknboibmifacaaGreat.Mem (Bl Co Chg AG)
theorem VP {X : Ass} {y r : List UInt8} {A : Option Addr} {c : Nat} (hX : CX X (.slice A y.length c) y) (hl : y.length ≤ 140737488351232) (hr : Bc y = r) : AU Tryz.prog 19 #[.slice A y.length c] [X] (fun (v : Value) => v) (fun (v : Value) => [X, As 5 1 encB v r]) := by
  refine Bd (args := [.slice A y.length c]) 37 Tryz.func19 rfl rfl rfl ?_; intro w rs
  refine Ad ?_
  refine Ae Aw rfl ?_
  refine Aa (Aq ?_)
  rcases Nat.lt_or_ge 65536 y.length with h0 | h0
  · skip
    obtain rfl : r = [] := by rw [← hr]; unfold Bc; rw [if_neg (by omega)]
    refine Ad ?_
    refine Ae Aw rfl ?_
    refine Ab rfl (.int .i64 (y.length : Int)) (fun b w hb hH => AT ((hH.rd8 0 rfl hX).rd) Tryz.underlying48 rfl rfl hb) ?_
    refine Ab rfl (.bool true) (fun b w hb hH => AV rfl rfl rfl (BY (by omega)) hb) ?_
    refine Aa (AC rfl ?_)
    refine B4 5 1 encB ?_
    refine Ad ?_
    refine Ae Aw rfl ?_
    refine Aa (Ay (CM ?_))
    exact Av (.tmp rfl) (fun w h => AB (.slice none 0 0) rfl [1, 0] rfl h Cl) rfl
  · skip
    have hc := G4 y
    have hr_ : b4 y.length ++ b4 (BN y) ++ y = r := by rw [← hr]; unfold Bc; rw [if_pos h0]
    refine Ad ?_
    refine Ae Aw rfl ?_
    refine Ab rfl (.int .i64 (y.length : Int)) (fun b w hb hH => AT ((hH.rd8 0 rfl hX).rd) Tryz.underlying48 rfl rfl hb) ?_
    refine Ab rfl (.bool false) (fun b w hb hH => AV rfl rfl rfl (BE (by omega)) hb) ?_
    refine Aa (Ar rfl (Ax (AE (Ad ?_))))
    refine Ae Aw rfl ?_
    refine Ab rfl (.int .i64 (y.length : Int)) (fun b w hb hH => AT ((hH.rd8 0 rfl hX).rd) Tryz.underlying48 rfl rfl hb) ?_
    refine Ae Aw rfl ?_
    refine Aa (Ad ?_)
    refine Ae Aw rfl ?_
    refine Aj (post := fun _ => [X]) rfl (By (Ah Tryz.func54 (by kernel_rfl) rfl) (fun w hH => Tb (hH.rd8 0 rfl hX) (by omega)) rfl rfl rfl) ?_; rintro ⟨⟩
    refine Ae Aw rfl ?_
    refine Aa (Ad ?_)
    refine Ae Aw rfl ?_
    refine Ab rfl (.int .u8 (((UInt8.ofNat y.length)).toNat : Int)) (fun b w hb hH => AY Tryz.underlying3 Tryz.underlying5 (C4 _) rfl rfl hb) ?_
    refine Ae Aw rfl ?_
    refine Ab rfl (.int .i64 ((y.length / 256 : Nat) : Int)) (fun b w hb hH => B9 (s := 8) (by decide) (by omega) rfl rfl rfl hb) ?_
    refine Ab rfl (.int .u8 (((UInt8.ofNat (y.length / 256))).toNat : Int)) (fun b w hb hH => AY Tryz.underlying3 Tryz.underlying5 (C4 _) rfl rfl hb) ?_
    refine Ae Aw rfl ?_
    refine Ab rfl (.int .i64 ((y.length / 65536 : Nat) : Int)) (fun b w hb hH => B9 (s := 16) (by decide) (by omega) rfl rfl rfl hb) ?_
    refine Ab rfl (.int .u8 (((UInt8.ofNat (y.length / 65536))).toNat : Int)) (fun b w hb hH => AY Tryz.underlying3 Tryz.underlying5 (C4 _) rfl rfl hb) ?_
    refine Ae Aw rfl ?_
    refine Ab rfl (.int .i64 ((y.length / 16777216 : Nat) : Int)) (fun b w hb hH => B9 (s := 24) (by decide) (by omega) rfl rfl rfl hb) ?_
    refine Ab rfl (.int .u8 (((UInt8.ofNat (y.length / 16777216))).toNat : Int)) (fun b w hb hH => AY Tryz.underlying3 Tryz.underlying5 (C4 _) rfl rfl hb) ?_
    refine Ae Aw rfl ?_
    refine Ab rfl (.int .u8 (((UInt8.ofNat (BN y))).toNat : Int)) (fun b w hb hH => AY Tryz.underlying91 Tryz.underlying5 (C4 _) rfl rfl hb) ?_
    refine Ae Aw rfl ?_
    refine Ab rfl (.int .u32 ((BN y / 256 : Nat) : Int)) (fun b w hb hH => B9 (s := 8) (by decide) (by omega) rfl rfl rfl hb) ?_
    refine Ab rfl (.int .u8 (((UInt8.ofNat (BN y / 256))).toNat : Int)) (fun b w hb hH => AY Tryz.underlying91 Tryz.underlying5 (C4 _) rfl rfl hb) ?_
    refine Ae Aw rfl ?_
    refine Ab rfl (.int .u32 ((BN y / 65536 : Nat) : Int)) (fun b w hb hH => B9 (s := 16) (by decide) (by omega) rfl rfl rfl hb) ?_
    refine Ab rfl (.int .u8 (((UInt8.ofNat (BN y / 65536))).toNat : Int)) (fun b w hb hH => AY Tryz.underlying91 Tryz.underlying5 (C4 _) rfl rfl hb) ?_
    refine Ae Aw rfl ?_
    refine Ab rfl (.int .u32 ((BN y / 16777216 : Nat) : Int)) (fun b w hb hH => B9 (s := 24) (by decide) (by omega) rfl rfl rfl hb) ?_
    refine Ab rfl (.int .u8 (((UInt8.ofNat (BN y / 16777216))).toNat : Int)) (fun b w hb hH => AY Tryz.underlying91 Tryz.underlying5 (C4 _) rfl rfl hb) ?_
    refine Aj (X := Value) (val := fun v : Value => v) (post := fun v8 => [As 5 1 encB v8 ([(UInt8.ofNat y.length), (UInt8.ofNat (y.length / 256)), (UInt8.ofNat (y.length / 65536)), (UInt8.ofNat (y.length / 16777216)), (UInt8.ofNat (BN y)), (UInt8.ofNat (BN y / 256)), (UInt8.ofNat (BN y / 65536)), (UInt8.ofNat (BN y / 16777216))]), X]) rfl (by exact Ta AJ (UInt8.ofNat y.length) (UInt8.ofNat (y.length / 256)) (UInt8.ofNat (y.length / 65536)) (UInt8.ofNat (y.length / 16777216)) (UInt8.ofNat (BN y)) (UInt8.ofNat (BN y / 256)) (UInt8.ofNat (BN y / 65536)) (UInt8.ofNat (BN y / 16777216)) rfl rfl rfl rfl rfl rfl rfl rfl rfl) ?_; rintro v8
    refine Ae Aw rfl ?_
    refine Aj (post := fun v9 => [As 5 1 encB v9 r, X]) rfl (Cz 0 AJ (by kernel_rfl) rfl (y) (fun w hH => hH.rd 1 rfl hX.rd) (by show 8 + y.length ≤ _; omega) rfl rfl rfl hr_) ?_; rintro v9
    refine Ae Aw rfl ?_
    refine Aa (Ay ?_)
    exact Av (.tmp rfl) (fun w h => AB v9 rfl [1, 0] rfl h Cl) rfl
end Go.Proofs.YtnknboibmifacaaGreat.Sep
namespace Go.Proofs.YtnknboibmifacaaGreat.Sep
open Go.RowKit
open Go.Proofs.YtnknboibmifacaaGreat.Mem (Bl Co Chg AG)
theorem Qi {X : Ass} {y : List UInt8} {ps : List (List UInt8)} {k : Nat} {A : Option Addr} {c : Nat} (hX : CX X (.slice A y.length c) y) (hl : y.length ≤ 137438953472) (hr : BK y = (ps, k)) : AU Tryz.prog 38 #[.slice A y.length c] [X] (fun (x : PsV) => .tuple #[x.v, .int .i64 (k : Int)]) (fun (x : PsV) => [X, BM 48 x.v x.l, fact (x.l.map (·.2) = ps)]) := by
  refine Bd (args := [.slice A y.length c]) 121 Tryz.func38 rfl rfl rfl ?_; intro w rs
  refine Ad ?_
  refine Ae Aw rfl ?_
  refine Aa (Ad ?_)
  refine Ae Aw rfl ?_
  refine Aa (Ad ?_)
  refine Ae Aw rfl ?_
  refine Aa (Aq (Bb ?_))
  refine F2 (t := BM 48 (.slice none 0 0) ([])) (Sz) ?_
  refine CO (α := Nat × List PtT × Value) (fun ⟨at_, L, pv⟩ => [(0, .slice A y.length c), (2, .slice none 0 0), (3, .int .i64 0), (4, pv), (5, .int .i64 ((at_ : Nat) : Int))]) (fun ⟨at_, L, pv⟩ => [BM 48 pv L, X]) (fun ⟨at_, L, pv⟩ => at_ ≤ y.length ∧ BK y = (L.map (·.2) ++ (BK (y.drop at_)).1, at_ + (BK (y.drop at_)).2) ∧ L.length * 8 ≤ at_) (fun ⟨at_, L, pv⟩ => y.length - at_) (0, [], .slice none 0 0) ⟨Nat.zero_le _, by simp, Nat.le_refl _⟩ ⟨rfl, rfl, rfl, rfl, rfl, trivial⟩ rfl ?_
  rintro ⟨at_, L, pv⟩ hI
  refine Bv.at_ (env' := [(0, .slice A y.length c), (2, .slice none 0 0), (3, .int .i64 0), (4, pv), (5, .int .i64 ((at_ : Nat) : Int))]) (rs' := [BM 48 pv L, X]) ⟨rfl, rfl, rfl, rfl, rfl, trivial⟩ rfl ?_
  have hI1 : at_ ≤ y.length := hI.1
  have hI2 : BK y = (L.map (·.2) ++ (BK (y.drop at_)).1, at_ + (BK (y.drop at_)).2) := hI.2.1
  have hI3 : L.length * 8 ≤ at_ := hI.2.2
  clear hI
  refine Aq ?_
  rcases Nat.lt_or_ge (y.length - at_) 8 with h8 | h8
  · skip
    have hnx : B1 (y.drop at_) = none := by unfold B1; exact if_neg fun h => by have := h.1; rw [List.length_drop] at this; omega
    rw [C6 hnx] at hI2
    have hres1 : L.map (·.2) = ps := by have := congrArg Prod.fst hI2; rw [hr] at this; simpa using this.symm
    have hres2 : (at_ : Int) = (k : Int) := by have := congrArg Prod.snd hI2; rw [hr] at this; simp at this; omega
    refine Ad ?_
    refine Ae Aw rfl ?_
    refine Ab rfl (.int .i64 (y.length : Int)) (fun b w hb hH => AT ((hH.rd8 1 rfl hX).rd) Tryz.underlying48 rfl rfl hb) ?_
    refine Ae Aw rfl ?_
    refine Ab rfl (.int .i64 ((y.length : Int) - (at_ : Int))) (fun b w hb hH => AN rfl rfl rfl rfl (IntWalk.i64_in _ (by omega)) hb) ?_
    refine Ab rfl (.bool false) (fun b w hb hH => AV rfl rfl rfl (De (by omega)) hb) ?_
    refine Aa (Ar rfl (Cu (E0 (E0 (Bh (AE (Ad ?_)))))))
    refine Ae Aw rfl ?_
    refine Aa (Ay ?_)
    exact B3 (.tmp rfl) (.tmp rfl) (fun w h => AB (X := PsV) ⟨pv, L⟩ (by rw [hres2]) [1, 0] rfl h (fun z hz => ⟨z, .refl _, Eo (xs := [_, _]) hres1 hz⟩)) rfl
  · skip
    obtain ⟨a0, ha0⟩ : ∃ a, y[at_ + 0]? = some a := ⟨_, List.getElem?_eq_getElem (by omega)⟩
    obtain ⟨a1, ha1⟩ : ∃ a, y[at_ + 1]? = some a := ⟨_, List.getElem?_eq_getElem (by omega)⟩
    obtain ⟨a2, ha2⟩ : ∃ a, y[at_ + 2]? = some a := ⟨_, List.getElem?_eq_getElem (by omega)⟩
    obtain ⟨a3, ha3⟩ : ∃ a, y[at_ + 3]? = some a := ⟨_, List.getElem?_eq_getElem (by omega)⟩
    obtain ⟨a4, ha4⟩ : ∃ a, y[at_ + 4]? = some a := ⟨_, List.getElem?_eq_getElem (by omega)⟩
    obtain ⟨a5, ha5⟩ : ∃ a, y[at_ + 5]? = some a := ⟨_, List.getElem?_eq_getElem (by omega)⟩
    obtain ⟨a6, ha6⟩ : ∃ a, y[at_ + 6]? = some a := ⟨_, List.getElem?_eq_getElem (by omega)⟩
    obtain ⟨a7, ha7⟩ : ∃ a, y[at_ + 7]? = some a := ⟨_, List.getElem?_eq_getElem (by omega)⟩
    have hA0 := a0.toNat_lt
    have hA1 := a1.toNat_lt
    have hA2 := a2.toNat_lt
    have hA3 := a3.toNat_lt
    rw [Nat.add_zero] at ha0
    obtain ⟨n, hn_⟩ : ∃ n, a0.toNat + a1.toNat * 256 + a2.toNat * 65536 + a3.toNat * 16777216 = n := ⟨_, rfl⟩
    have hb8 : (y.drop at_).take 8 = [a0, a1, a2, a3, a4, a5, a6, a7] := RD ha0 ha1 ha2 ha3 ha4 ha5 ha6 ha7
    have hn : n4 (y.drop at_) 0 = n := VE hb8 hn_
    refine Ad ?_
    refine Ae Aw rfl ?_
    refine Ab rfl (.int .i64 (y.length : Int)) (fun b w hb hH => AT ((hH.rd8 1 rfl hX).rd) Tryz.underlying48 rfl rfl hb) ?_
    refine Ae Aw rfl ?_
    refine Ab rfl (.int .i64 ((y.length : Int) - (at_ : Int))) (fun b w hb hH => AN rfl rfl rfl rfl (IntWalk.i64_in _ (by omega)) hb) ?_
    refine Ab rfl (.bool true) (fun b w hb hH => AV rfl rfl rfl (B7 (by omega)) hb) ?_
    refine Aa (AC rfl (Ax (AE (Bb (Aq ?_)))))
    refine BO 29 0 [⟨.quiet, [], fun _ => .slice A y.length c, []⟩, ⟨.quiet, [], fun _ => .int .i64 ((at_ : Nat) : Int), []⟩, ⟨.quiet, [], fun _ => BP (.slice A y.length c) (at_ * 1), [0, 1]⟩, ⟨.quiet, [], fun _ => .int .u8 ((a0).toNat : Int), [2]⟩, ⟨.quiet, [], fun _ => .int .i64 ((a0).toNat : Int), [3]⟩, ⟨.quiet, [], fun _ => .slice A y.length c, []⟩, ⟨.quiet, [], fun _ => .int .i64 ((at_ : Nat) : Int), []⟩, ⟨.quiet, [], fun _ => .int .i64 ((at_ + 1 : Nat) : Int), [6]⟩, ⟨.quiet, [], fun _ => BP (.slice A y.length c) ((at_ + 1) * 1), [5, 7]⟩, ⟨.quiet, [], fun _ => .int .u8 ((a1).toNat : Int), [8]⟩, ⟨.quiet, [], fun _ => .int .i64 ((a1).toNat : Int), [9]⟩, ⟨.quiet, [], fun _ => .int .i64 ((a1.toNat * 256 : Nat) : Int), [10]⟩, ⟨.quiet, [], fun _ => .int .i64 ((a0.toNat + a1.toNat * 256 : Nat) : Int), [4, 11]⟩, ⟨.quiet, [], fun _ => .slice A y.length c, []⟩, ⟨.quiet, [], fun _ => .int .i64 ((at_ : Nat) : Int), []⟩, ⟨.quiet, [], fun _ => .int .i64 ((at_ + 2 : Nat) : Int), [14]⟩, ⟨.quiet, [], fun _ => BP (.slice A y.length c) ((at_ + 2) * 1), [13, 15]⟩, ⟨.quiet, [], fun _ => .int .u8 ((a2).toNat : Int), [16]⟩, ⟨.quiet, [], fun _ => .int .i64 ((a2).toNat : Int), [17]⟩, ⟨.quiet, [], fun _ => .int .i64 ((a2.toNat * 65536 : Nat) : Int), [18]⟩, ⟨.quiet, [], fun _ => .int .i64 ((a0.toNat + a1.toNat * 256 + a2.toNat * 65536 : Nat) : Int), [12, 19]⟩, ⟨.quiet, [], fun _ => .slice A y.length c, []⟩, ⟨.quiet, [], fun _ => .int .i64 ((at_ : Nat) : Int), []⟩, ⟨.quiet, [], fun _ => .int .i64 ((at_ + 3 : Nat) : Int), [22]⟩, ⟨.quiet, [], fun _ => BP (.slice A y.length c) ((at_ + 3) * 1), [21, 23]⟩, ⟨.quiet, [], fun _ => .int .u8 ((a3).toNat : Int), [24]⟩, ⟨.quiet, [], fun _ => .int .i64 ((a3).toNat : Int), [25]⟩, ⟨.quiet, [], fun _ => .int .i64 ((a3.toNat * 16777216 : Nat) : Int), [26]⟩, ⟨.quiet, [], fun _ => .int .i64 (n : Int), [20, 27]⟩] [(0, .slice A y.length c), (2, .slice none 0 0), (3, .int .i64 0), (4, pv), (5, .int .i64 ((at_ : Nat) : Int)), (9, .slice A y.length c), (10, .int .i64 (y.length : Int)), (11, .int .i64 ((at_ : Nat) : Int)), (12, .int .i64 ((y.length : Int) - (at_ : Int))), (13, .bool true)] (fun _ => [BM 48 pv L, X]) (by kernel_rfl) (by kernel_rfl) ⟨rfl, rfl, rfl, rfl, rfl, rfl, rfl, rfl, rfl, rfl, trivial⟩ rfl ?_ ?_
    · skip
      refine Ac (by exact ⟨rfl, fun b w hH hb => Af Aw rfl hb⟩) ?_
      refine Ac (by exact ⟨rfl, fun b w hH hb => Af Aw rfl hb⟩) ?_
      refine Ac (by exact ⟨rfl, fun b w hH hb => BF EQ ((hH.rd8 1 rfl hX).rd) AJ (j := at_) ha0 rfl rfl rfl hb⟩) ?_
      refine Ac (by exact ⟨rfl, fun b w hH hb => Bm EQ (by decide) ((hH.rd8 1 rfl hX).rd) (j := at_) ha0 B0 (off := 0) rfl rfl rfl hb⟩) ?_
      refine Ac (by exact ⟨rfl, fun b w hH hb => AY Tryz.underlying5 Tryz.underlying3 (IntWalk.i64_in _ (by omega)) rfl rfl hb⟩) ?_
      refine Ac (by exact ⟨rfl, fun b w hH hb => Af Aw rfl hb⟩) ?_
      refine Ac (by exact ⟨rfl, fun b w hH hb => Af Aw rfl hb⟩) ?_
      refine Ac (by exact ⟨rfl, fun b w hH hb => AN rfl rfl rfl rfl (by rw [IntWalk.i64_in _ (by omega)]; omega) hb⟩) ?_
      refine Ac (by exact ⟨rfl, fun b w hH hb => BF EQ ((hH.rd8 1 rfl hX).rd) AJ (j := (at_ + 1)) ha1 rfl rfl rfl hb⟩) ?_
      refine Ac (by exact ⟨rfl, fun b w hH hb => Bm EQ (by decide) ((hH.rd8 1 rfl hX).rd) (j := (at_ + 1)) ha1 B0 (off := 0) rfl rfl rfl hb⟩) ?_
      refine Ac (by exact ⟨rfl, fun b w hH hb => AY Tryz.underlying5 Tryz.underlying3 (IntWalk.i64_in _ (by omega)) rfl rfl hb⟩) ?_
      refine Ac (by exact ⟨rfl, fun b w hH hb => Fj (s := 8) (by decide) (by rw [IntWalk.i64_in _ (by omega)]; omega) rfl rfl rfl hb⟩) ?_
      refine Ac (by exact ⟨rfl, fun b w hH hb => AN rfl rfl rfl rfl (by rw [IntWalk.i64_in _ (by omega)]; omega) hb⟩) ?_
      refine Ac (by exact ⟨rfl, fun b w hH hb => Af Aw rfl hb⟩) ?_
      refine Ac (by exact ⟨rfl, fun b w hH hb => Af Aw rfl hb⟩) ?_
      refine Ac (by exact ⟨rfl, fun b w hH hb => AN rfl rfl rfl rfl (by rw [IntWalk.i64_in _ (by omega)]; omega) hb⟩) ?_
      refine Ac (by exact ⟨rfl, fun b w hH hb => BF EQ ((hH.rd8 1 rfl hX).rd) AJ (j := (at_ + 2)) ha2 rfl rfl rfl hb⟩) ?_
      refine Ac (by exact ⟨rfl, fun b w hH hb => Bm EQ (by decide) ((hH.rd8 1 rfl hX).rd) (j := (at_ + 2)) ha2 B0 (off := 0) rfl rfl rfl hb⟩) ?_
      refine Ac (by exact ⟨rfl, fun b w hH hb => AY Tryz.underlying5 Tryz.underlying3 (IntWalk.i64_in _ (by omega)) rfl rfl hb⟩) ?_
      refine Ac (by exact ⟨rfl, fun b w hH hb => Fj (s := 16) (by decide) (by rw [IntWalk.i64_in _ (by omega)]; omega) rfl rfl rfl hb⟩) ?_
      refine Ac (by exact ⟨rfl, fun b w hH hb => AN rfl rfl rfl rfl (by rw [IntWalk.i64_in _ (by omega)]; omega) hb⟩) ?_
      refine Ac (by exact ⟨rfl, fun b w hH hb => Af Aw rfl hb⟩) ?_
      refine Ac (by exact ⟨rfl, fun b w hH hb => Af Aw rfl hb⟩) ?_
      refine Ac (by exact ⟨rfl, fun b w hH hb => AN rfl rfl rfl rfl (by rw [IntWalk.i64_in _ (by omega)]; omega) hb⟩) ?_
      refine Ac (by exact ⟨rfl, fun b w hH hb => BF EQ ((hH.rd8 1 rfl hX).rd) AJ (j := (at_ + 3)) ha3 rfl rfl rfl hb⟩) ?_
      refine Ac (by exact ⟨rfl, fun b w hH hb => Bm EQ (by decide) ((hH.rd8 1 rfl hX).rd) (j := (at_ + 3)) ha3 B0 (off := 0) rfl rfl rfl hb⟩) ?_
      refine Ac (by exact ⟨rfl, fun b w hH hb => AY Tryz.underlying5 Tryz.underlying3 (IntWalk.i64_in _ (by omega)) rfl rfl hb⟩) ?_
      refine Ac (by exact ⟨rfl, fun b w hH hb => Fj (s := 24) (by decide) (by rw [IntWalk.i64_in _ (by omega)]; omega) rfl rfl rfl hb⟩) ?_
      refine Ac (by exact ⟨rfl, fun b w hH hb => AN rfl rfl rfl rfl (by rw [IntWalk.i64_in _ (by omega)]; omega) hb⟩) ?_
      exact B2
    refine Cg.keep (env' := [(0, .slice A y.length c), (2, .slice none 0 0), (3, .int .i64 0), (4, pv), (5, .int .i64 ((at_ : Nat) : Int)), (9, .slice A y.length c), (10, .int .i64 (y.length : Int)), (11, .int .i64 ((at_ : Nat) : Int)), (12, .int .i64 ((y.length : Int) - (at_ : Int))), (13, .bool true), (14, .slice A y.length c), (15, .int .i64 ((at_ : Nat) : Int)), (16, BP (.slice A y.length c) (at_ * 1)), (17, .int .u8 ((a0).toNat : Int)), (18, .int .i64 ((a0).toNat : Int)), (19, .slice A y.length c), (20, .int .i64 ((at_ : Nat) : Int)), (21, .int .i64 ((at_ + 1 : Nat) : Int)), (22, BP (.slice A y.length c) ((at_ + 1) * 1)), (23, .int .u8 ((a1).toNat : Int)), (24, .int .i64 ((a1).toNat : Int)), (25, .int .i64 ((a1.toNat * 256 : Nat) : Int)), (26, .int .i64 ((a0.toNat + a1.toNat * 256 : Nat) : Int)), (27, .slice A y.length c), (28, .int .i64 ((at_ : Nat) : Int)), (29, .int .i64 ((at_ + 2 : Nat) : Int)), (30, BP (.slice A y.length c) ((at_ + 2) * 1)), (31, .int .u8 ((a2).toNat : Int)), (32, .int .i64 ((a2).toNat : Int)), (33, .int .i64 ((a2.toNat * 65536 : Nat) : Int)), (34, .int .i64 ((a0.toNat + a1.toNat * 256 + a2.toNat * 65536 : Nat) : Int)), (35, .slice A y.length c), (36, .int .i64 ((at_ : Nat) : Int)), (37, .int .i64 ((at_ + 3 : Nat) : Int)), (38, BP (.slice A y.length c) ((at_ + 3) * 1)), (39, .int .u8 ((a3).toNat : Int)), (40, .int .i64 ((a3).toNat : Int)), (41, .int .i64 ((a3.toNat * 16777216 : Nat) : Int)), (42, .int .i64 (n : Int))]) ⟨rfl, rfl, rfl, rfl, rfl, rfl, rfl, rfl, rfl, rfl, rfl, rfl, rfl, rfl, rfl, rfl, rfl, rfl, rfl, rfl, rfl, rfl, rfl, rfl, rfl, rfl, rfl, rfl, rfl, rfl, rfl, rfl, rfl, rfl, rfl, rfl, rfl, rfl, rfl, trivial⟩ ?_
    refine Ae Aw rfl ?_
    refine AP (AE (Aq ?_))
    have hcc : 65536 < n ∨ (n ≤ 65536 ∧ y.length - at_ - 8 < n) ∨ (n ≤ 65536 ∧ n ≤ y.length - at_ - 8) := by omega
    rcases hcc with hn1 | ⟨hn1, hn2⟩ | ⟨hn1, hn2⟩
    · skip
      have hnx : B1 (y.drop at_) = none := by unfold B1; exact if_neg fun h => by have := h.2.1; rw [hn] at this; omega
      rw [C6 hnx] at hI2
      have hres1 : L.map (·.2) = ps := by have := congrArg Prod.fst hI2; rw [hr] at this; simpa using this.symm
      have hres2 : (at_ : Int) = (k : Int) := by have := congrArg Prod.snd hI2; rw [hr] at this; simp at this; omega
      refine Ad ?_
      refine Ae Aw rfl ?_
      refine Ab rfl (.bool true) (fun b w hb hH => AV rfl rfl rfl (BY (by omega)) hb) ?_
      refine Ae Aw rfl ?_
      refine Aa (AC rfl (Ad ?_))
      refine Ae Aw rfl ?_
      refine Aa (Ay (CM (Bw (CM (Bw (CM ?_))))))
      exact B3 (.tmp rfl) (.tmp rfl) (fun w h => AB (X := PsV) ⟨pv, L⟩ (by rw [hres2]) [1, 0] rfl h (fun z hz => ⟨z, .refl _, Eo (xs := [_, _]) hres1 hz⟩)) rfl
    · skip
      have hnx : B1 (y.drop at_) = none := by unfold B1; exact if_neg fun h => by have := h.2.2.1; rw [hn, List.length_drop] at this; omega
      rw [C6 hnx] at hI2
      have hres1 : L.map (·.2) = ps := by have := congrArg Prod.fst hI2; rw [hr] at this; simpa using this.symm
      have hres2 : (at_ : Int) = (k : Int) := by have := congrArg Prod.snd hI2; rw [hr] at this; simp at this; omega
      refine Ad ?_
      refine Ae Aw rfl ?_
      refine Ab rfl (.bool false) (fun b w hb hH => AV rfl rfl rfl (BE (by omega)) hb) ?_
      refine Ae Aw rfl ?_
      refine Ab rfl (.int .i64 (y.length : Int)) (fun b w hb hH => AT ((hH.rd8 1 rfl hX).rd) Tryz.underlying48 rfl rfl hb) ?_
      refine Ae Aw rfl ?_
      refine Ab rfl (.int .i64 ((y.length : Int) - (at_ : Int))) (fun b w hb hH => AN rfl rfl rfl rfl (IntWalk.i64_in _ (by omega)) hb) ?_
      refine Ab rfl (.int .i64 ((y.length : Int) - (at_ : Int) - 8)) (fun b w hb hH => AN rfl rfl rfl rfl (IntWalk.i64_in _ (by omega)) hb) ?_
      refine Ab rfl (.bool true) (fun b w hb hH => AV rfl rfl rfl (BY (by omega)) hb) ?_
      refine Ae Aw rfl ?_
      refine Aa (AC rfl (Ad ?_))
      refine Ae Aw rfl ?_
      refine Aa (Ay (CM (Bw (CM (Bw (CM ?_))))))
      exact B3 (.tmp rfl) (.tmp rfl) (fun w h => AB (X := PsV) ⟨pv, L⟩ (by rw [hres2]) [1, 0] rfl h (fun z hz => ⟨z, .refl _, Eo (xs := [_, _]) hres1 hz⟩)) rfl
    · skip
      obtain ⟨A3, hA3⟩ : ∃ A3, (if c = at_ + 8 then A else A.map (·.add (at_ + 8))) = A3 := ⟨_, rfl⟩
      obtain ⟨x, hx⟩ : ∃ x, (y.take (at_ + 8 + n)).drop (at_ + 8) = x := ⟨_, rfl⟩
      have hxl : x.length = n := by rw [← hx, List.length_drop, List.length_take]; omega
      have hX3 : CX X (.slice A3 x.length (c - (at_ + 8))) x := fun rs w h1 h2 => by have h3 := Qt (hX rs w h1 h2) (i := at_ + 8) (j := at_ + 8 + n) (by omega) (by omega); rw [hA3, hx] at h3; exact h3
      have hsub : Cm 1 (.slice A y.length c) (at_ + 8) (at_ + 8 + n) = .slice A3 x.length (c - (at_ + 8)) := by rw [← hA3, hxl]; exact Kk.trans (by rw [show at_ + 8 + n - (at_ + 8) = n by omega])
      have hd8 : ((y.drop at_).drop 8).take n = x := by rw [← hx, List.drop_drop, List.drop_take, show at_ + 8 + n - (at_ + 8) = n by omega]
      obtain ⟨s, hs⟩ : ∃ s, BN x = s := ⟨_, rfl⟩
      have hs32 : s < 4294967296 := hs ▸ G4 x
      obtain ⟨c0, hc0⟩ : ∃ c, UInt8.ofNat s = c := ⟨_, rfl⟩
      obtain ⟨c1, hc1⟩ : ∃ c, UInt8.ofNat (s / 256) = c := ⟨_, rfl⟩
      obtain ⟨c2, hc2⟩ : ∃ c, UInt8.ofNat (s / 65536) = c := ⟨_, rfl⟩
      obtain ⟨c3, hc3⟩ : ∃ c, UInt8.ofNat (s / 16777216) = c := ⟨_, rfl⟩
      have hw0 : IntKind.u8.wrap ((s : Int)) = (c0.toNat : Int) := by rw [← hc0]; exact C4 _
      have hw1 : IntKind.u8.wrap (((s / 256 : Nat) : Int)) = (c1.toNat : Int) := by rw [← hc1]; exact C4 _
      have hw2 : IntKind.u8.wrap (((s / 65536 : Nat) : Int)) = (c2.toNat : Int) := by rw [← hc2]; exact C4 _
      have hw3 : IntKind.u8.wrap (((s / 16777216 : Nat) : Int)) = (c3.toNat : Int) := by rw [← hc3]; exact C4 _
      refine Ad ?_
      refine Ae Aw rfl ?_
      refine Ab rfl (.bool false) (fun b w hb hH => AV rfl rfl rfl (BE (by omega)) hb) ?_
      refine Ae Aw rfl ?_
      refine Ab rfl (.int .i64 (y.length : Int)) (fun b w hb hH => AT ((hH.rd8 1 rfl hX).rd) Tryz.underlying48 rfl rfl hb) ?_
      refine Ae Aw rfl ?_
      refine Ab rfl (.int .i64 ((y.length : Int) - (at_ : Int))) (fun b w hb hH => AN rfl rfl rfl rfl (IntWalk.i64_in _ (by omega)) hb) ?_
      refine Ab rfl (.int .i64 ((y.length : Int) - (at_ : Int) - 8)) (fun b w hb hH => AN rfl rfl rfl rfl (IntWalk.i64_in _ (by omega)) hb) ?_
      refine Ab rfl (.bool false) (fun b w hb hH => AV rfl rfl rfl (BE (by omega)) hb) ?_
      refine Ae Aw rfl ?_
      refine Aa (Ar rfl (Ax (AE (Ad ?_))))
      refine Ae Aw rfl ?_
      refine Ab rfl (.int .i64 ((at_ + 8 : Nat) : Int)) (fun b w hb hH => AN rfl rfl rfl rfl (by rw [IntWalk.i64_in _ (by omega)]; omega) hb) ?_
      refine Ae Aw rfl ?_
      refine Ab rfl (.int .i64 ((at_ + 8 : Nat) : Int)) (fun b w hb hH => AN rfl rfl rfl rfl (by rw [IntWalk.i64_in _ (by omega)]; omega) hb) ?_
      refine Ae Aw rfl ?_
      refine Ab rfl (.int .i64 ((at_ + 8 + n : Nat) : Int)) (fun b w hb hH => AN rfl rfl rfl rfl (by rw [IntWalk.i64_in _ (by omega)]; omega) hb) ?_
      refine Ab rfl (.slice A3 x.length (c - (at_ + 8))) (fun b w hb hH => V8 (i := (at_ + 8)) (j := (at_ + 8 + n)) AJ hsub (by omega) (Nat.le_trans (by omega) (MK (A := A) (n := y.length) (c := c) (hH.rd8 1 rfl hX))) rfl rfl rfl rfl hH hb) ?_
      refine Ae Aw rfl ?_
      refine Aa (Ad ?_)
      refine Ae Aw rfl ?_
      refine Aj (post := fun _ => [BM 48 pv L, X]) rfl (By (Ah Tryz.func54 (by kernel_rfl) rfl) (fun w hH => (hs ▸ Tb (hH.rd8 1 rfl hX3) (by omega))) rfl rfl rfl) ?_; rintro ⟨⟩
      refine Ae Aw rfl ?_
      refine Aa (Aq ?_)
      have hz : a4.toNat ≠ c0.toNat ∨ (a4.toNat = c0.toNat ∧ a5.toNat ≠ c1.toNat) ∨ (a4.toNat = c0.toNat ∧ a5.toNat = c1.toNat ∧ a6.toNat ≠ c2.toNat) ∨ (a4.toNat = c0.toNat ∧ a5.toNat = c1.toNat ∧ a6.toNat = c2.toNat ∧ a7.toNat ≠ c3.toNat) ∨ (a4.toNat = c0.toNat ∧ a5.toNat = c1.toNat ∧ a6.toNat = c2.toNat ∧ a7.toNat = c3.toNat) := by omega
      rcases hz with h0_ | ⟨e0_, h1_⟩ | ⟨e0_, e1_, h2_⟩ | ⟨e0_, e1_, e2_, h3_⟩ | ⟨e0_, e1_, e2_, e3_⟩
      · skip
        have hnx : B1 (y.drop at_) = none := FI hb8 hn (by rw [hd8, hs]) hc0 hc1 hc2 hc3 (fun h => h0_ (by rw [h.1]))
        rw [C6 hnx] at hI2
        have hres1 : L.map (·.2) = ps := by have := congrArg Prod.fst hI2; rw [hr] at this; simpa using this.symm
        have hres2 : (at_ : Int) = (k : Int) := by have := congrArg Prod.snd hI2; rw [hr] at this; simp at this; omega
        refine Ad ?_
        refine Ae Aw rfl ?_
        refine Ab rfl (.int .i64 ((at_ + 4 : Nat) : Int)) (fun b w hb hH => AN rfl rfl rfl rfl (by rw [IntWalk.i64_in _ (by omega)]; omega) hb) ?_
        refine Ab rfl (BP (.slice A y.length c) ((at_ + 4) * 1)) (fun b w hb hH => BF EQ ((hH.rd8 1 rfl hX).rd) AJ (j := (at_ + 4)) ha4 rfl rfl rfl hb) ?_
        refine Ab rfl (.int .u8 ((a4).toNat : Int)) (fun b w hb hH => Bm EQ (by decide) ((hH.rd8 1 rfl hX).rd) (j := (at_ + 4)) ha4 B0 (off := 0) rfl rfl rfl hb) ?_
        refine Ae Aw rfl ?_
        refine Ab rfl (.int .u8 (c0.toNat : Int)) (fun b w hb hH => AY Tryz.underlying91 Tryz.underlying5 (hw0) rfl rfl hb) ?_
        refine Ab rfl (.bool true) (fun b w hb hH => AV rfl rfl rfl (BQ (by omega)) hb) ?_
        refine Ae Aw rfl ?_
        refine Aa (AC rfl (Ad ?_))
        refine Ae Aw rfl ?_
        refine Aa (Ay (CM (Bw (CM (Bw (CM ?_))))))
        exact B3 (.tmp rfl) (.tmp rfl) (fun w h => AB (X := PsV) ⟨pv, L⟩ (by rw [hres2]) [1, 0] rfl h (fun z hz => ⟨z, .refl _, Eo (xs := [_, _]) hres1 hz⟩)) rfl
      · skip
        have hnx : B1 (y.drop at_) = none := FI hb8 hn (by rw [hd8, hs]) hc0 hc1 hc2 hc3 (fun h => h1_ (by rw [h.2.1]))
        rw [C6 hnx] at hI2
        have hres1 : L.map (·.2) = ps := by have := congrArg Prod.fst hI2; rw [hr] at this; simpa using this.symm
        have hres2 : (at_ : Int) = (k : Int) := by have := congrArg Prod.snd hI2; rw [hr] at this; simp at this; omega
        refine Ad ?_
        refine Ae Aw rfl ?_
        refine Ab rfl (.int .i64 ((at_ + 4 : Nat) : Int)) (fun b w hb hH => AN rfl rfl rfl rfl (by rw [IntWalk.i64_in _ (by omega)]; omega) hb) ?_
        refine Ab rfl (BP (.slice A y.length c) ((at_ + 4) * 1)) (fun b w hb hH => BF EQ ((hH.rd8 1 rfl hX).rd) AJ (j := (at_ + 4)) ha4 rfl rfl rfl hb) ?_
        refine Ab rfl (.int .u8 ((a4).toNat : Int)) (fun b w hb hH => Bm EQ (by decide) ((hH.rd8 1 rfl hX).rd) (j := (at_ + 4)) ha4 B0 (off := 0) rfl rfl rfl hb) ?_
        refine Ae Aw rfl ?_
        refine Ab rfl (.int .u8 (c0.toNat : Int)) (fun b w hb hH => AY Tryz.underlying91 Tryz.underlying5 (hw0) rfl rfl hb) ?_
        refine Ab rfl (.bool false) (fun b w hb hH => AV rfl rfl rfl (AS (by omega)) hb) ?_
        refine Ae Aw rfl ?_
        refine Ab rfl (.int .i64 ((at_ + 5 : Nat) : Int)) (fun b w hb hH => AN rfl rfl rfl rfl (by rw [IntWalk.i64_in _ (by omega)]; omega) hb) ?_
        refine Ab rfl (BP (.slice A y.length c) ((at_ + 5) * 1)) (fun b w hb hH => BF EQ ((hH.rd8 1 rfl hX).rd) AJ (j := (at_ + 5)) ha5 rfl rfl rfl hb) ?_
        refine Ab rfl (.int .u8 ((a5).toNat : Int)) (fun b w hb hH => Bm EQ (by decide) ((hH.rd8 1 rfl hX).rd) (j := (at_ + 5)) ha5 B0 (off := 0) rfl rfl rfl hb) ?_
        refine Ae Aw rfl ?_
        refine Ab rfl (.int .u32 ((s / 256 : Nat) : Int)) (fun b w hb hH => B9 (s := 8) (by decide) (by omega) rfl rfl rfl hb) ?_
        refine Ab rfl (.int .u8 (c1.toNat : Int)) (fun b w hb hH => AY Tryz.underlying91 Tryz.underlying5 (hw1) rfl rfl hb) ?_
        refine Ab rfl (.bool true) (fun b w hb hH => AV rfl rfl rfl (BQ (by omega)) hb) ?_
        refine Ae Aw rfl ?_
        refine Aa (AC rfl (Ad ?_))
        refine Ae Aw rfl ?_
        refine Aa (Ay (CM (Bw (CM (Bw (CM ?_))))))
        exact B3 (.tmp rfl) (.tmp rfl) (fun w h => AB (X := PsV) ⟨pv, L⟩ (by rw [hres2]) [1, 0] rfl h (fun z hz => ⟨z, .refl _, Eo (xs := [_, _]) hres1 hz⟩)) rfl
      · skip
        have hnx : B1 (y.drop at_) = none := FI hb8 hn (by rw [hd8, hs]) hc0 hc1 hc2 hc3 (fun h => h2_ (by rw [h.2.2.1]))
        rw [C6 hnx] at hI2
        have hres1 : L.map (·.2) = ps := by have := congrArg Prod.fst hI2; rw [hr] at this; simpa using this.symm
        have hres2 : (at_ : Int) = (k : Int) := by have := congrArg Prod.snd hI2; rw [hr] at this; simp at this; omega
        refine Ad ?_
        refine Ae Aw rfl ?_
        refine Ab rfl (.int .i64 ((at_ + 4 : Nat) : Int)) (fun b w hb hH => AN rfl rfl rfl rfl (by rw [IntWalk.i64_in _ (by omega)]; omega) hb) ?_
        refine Ab rfl (BP (.slice A y.length c) ((at_ + 4) * 1)) (fun b w hb hH => BF EQ ((hH.rd8 1 rfl hX).rd) AJ (j := (at_ + 4)) ha4 rfl rfl rfl hb) ?_
        refine Ab rfl (.int .u8 ((a4).toNat : Int)) (fun b w hb hH => Bm EQ (by decide) ((hH.rd8 1 rfl hX).rd) (j := (at_ + 4)) ha4 B0 (off := 0) rfl rfl rfl hb) ?_
        refine Ae Aw rfl ?_
        refine Ab rfl (.int .u8 (c0.toNat : Int)) (fun b w hb hH => AY Tryz.underlying91 Tryz.underlying5 (hw0) rfl rfl hb) ?_
        refine Ab rfl (.bool false) (fun b w hb hH => AV rfl rfl rfl (AS (by omega)) hb) ?_
        refine Ae Aw rfl ?_
        refine Ab rfl (.int .i64 ((at_ + 5 : Nat) : Int)) (fun b w hb hH => AN rfl rfl rfl rfl (by rw [IntWalk.i64_in _ (by omega)]; omega) hb) ?_
        refine Ab rfl (BP (.slice A y.length c) ((at_ + 5) * 1)) (fun b w hb hH => BF EQ ((hH.rd8 1 rfl hX).rd) AJ (j := (at_ + 5)) ha5 rfl rfl rfl hb) ?_
        refine Ab rfl (.int .u8 ((a5).toNat : Int)) (fun b w hb hH => Bm EQ (by decide) ((hH.rd8 1 rfl hX).rd) (j := (at_ + 5)) ha5 B0 (off := 0) rfl rfl rfl hb) ?_
        refine Ae Aw rfl ?_
        refine Ab rfl (.int .u32 ((s / 256 : Nat) : Int)) (fun b w hb hH => B9 (s := 8) (by decide) (by omega) rfl rfl rfl hb) ?_
        refine Ab rfl (.int .u8 (c1.toNat : Int)) (fun b w hb hH => AY Tryz.underlying91 Tryz.underlying5 (hw1) rfl rfl hb) ?_
        refine Ab rfl (.bool false) (fun b w hb hH => AV rfl rfl rfl (AS (by omega)) hb) ?_
        refine Ae Aw rfl ?_
        refine Ab rfl (.int .i64 ((at_ + 6 : Nat) : Int)) (fun b w hb hH => AN rfl rfl rfl rfl (by rw [IntWalk.i64_in _ (by omega)]; omega) hb) ?_
        refine Ab rfl (BP (.slice A y.length c) ((at_ + 6) * 1)) (fun b w hb hH => BF EQ ((hH.rd8 1 rfl hX).rd) AJ (j := (at_ + 6)) ha6 rfl rfl rfl hb) ?_
        refine Ab rfl (.int .u8 ((a6).toNat : Int)) (fun b w hb hH => Bm EQ (by decide) ((hH.rd8 1 rfl hX).rd) (j := (at_ + 6)) ha6 B0 (off := 0) rfl rfl rfl hb) ?_
        refine Ae Aw rfl ?_
        refine Ab rfl (.int .u32 ((s / 65536 : Nat) : Int)) (fun b w hb hH => B9 (s := 16) (by decide) (by omega) rfl rfl rfl hb) ?_
        refine Ab rfl (.int .u8 (c2.toNat : Int)) (fun b w hb hH => AY Tryz.underlying91 Tryz.underlying5 (hw2) rfl rfl hb) ?_
        refine Ab rfl (.bool true) (fun b w hb hH => AV rfl rfl rfl (BQ (by omega)) hb) ?_
        refine Ae Aw rfl ?_
        refine Aa (AC rfl (Ad ?_))
        refine Ae Aw rfl ?_
        refine Aa (Ay (CM (Bw (CM (Bw (CM ?_))))))
        exact B3 (.tmp rfl) (.tmp rfl) (fun w h => AB (X := PsV) ⟨pv, L⟩ (by rw [hres2]) [1, 0] rfl h (fun z hz => ⟨z, .refl _, Eo (xs := [_, _]) hres1 hz⟩)) rfl
      · skip
        have hnx : B1 (y.drop at_) = none := FI hb8 hn (by rw [hd8, hs]) hc0 hc1 hc2 hc3 (fun h => h3_ (by rw [h.2.2.2]))
        rw [C6 hnx] at hI2
        have hres1 : L.map (·.2) = ps := by have := congrArg Prod.fst hI2; rw [hr] at this; simpa using this.symm
        have hres2 : (at_ : Int) = (k : Int) := by have := congrArg Prod.snd hI2; rw [hr] at this; simp at this; omega
        refine Ad ?_
        refine Ae Aw rfl ?_
        refine Ab rfl (.int .i64 ((at_ + 4 : Nat) : Int)) (fun b w hb hH => AN rfl rfl rfl rfl (by rw [IntWalk.i64_in _ (by omega)]; omega) hb) ?_
        refine Ab rfl (BP (.slice A y.length c) ((at_ + 4) * 1)) (fun b w hb hH => BF EQ ((hH.rd8 1 rfl hX).rd) AJ (j := (at_ + 4)) ha4 rfl rfl rfl hb) ?_
        refine Ab rfl (.int .u8 ((a4).toNat : Int)) (fun b w hb hH => Bm EQ (by decide) ((hH.rd8 1 rfl hX).rd) (j := (at_ + 4)) ha4 B0 (off := 0) rfl rfl rfl hb) ?_
        refine Ae Aw rfl ?_
        refine Ab rfl (.int .u8 (c0.toNat : Int)) (fun b w hb hH => AY Tryz.underlying91 Tryz.underlying5 (hw0) rfl rfl hb) ?_
        refine Ab rfl (.bool false) (fun b w hb hH => AV rfl rfl rfl (AS (by omega)) hb) ?_
        refine Ae Aw rfl ?_
        refine Ab rfl (.int .i64 ((at_ + 5 : Nat) : Int)) (fun b w hb hH => AN rfl rfl rfl rfl (by rw [IntWalk.i64_in _ (by omega)]; omega) hb) ?_
        refine Ab rfl (BP (.slice A y.length c) ((at_ + 5) * 1)) (fun b w hb hH => BF EQ ((hH.rd8 1 rfl hX).rd) AJ (j := (at_ + 5)) ha5 rfl rfl rfl hb) ?_
        refine Ab rfl (.int .u8 ((a5).toNat : Int)) (fun b w hb hH => Bm EQ (by decide) ((hH.rd8 1 rfl hX).rd) (j := (at_ + 5)) ha5 B0 (off := 0) rfl rfl rfl hb) ?_
        refine Ae Aw rfl ?_
        refine Ab rfl (.int .u32 ((s / 256 : Nat) : Int)) (fun b w hb hH => B9 (s := 8) (by decide) (by omega) rfl rfl rfl hb) ?_
        refine Ab rfl (.int .u8 (c1.toNat : Int)) (fun b w hb hH => AY Tryz.underlying91 Tryz.underlying5 (hw1) rfl rfl hb) ?_
        refine Ab rfl (.bool false) (fun b w hb hH => AV rfl rfl rfl (AS (by omega)) hb) ?_
        refine Ae Aw rfl ?_
        refine Ab rfl (.int .i64 ((at_ + 6 : Nat) : Int)) (fun b w hb hH => AN rfl rfl rfl rfl (by rw [IntWalk.i64_in _ (by omega)]; omega) hb) ?_
        refine Ab rfl (BP (.slice A y.length c) ((at_ + 6) * 1)) (fun b w hb hH => BF EQ ((hH.rd8 1 rfl hX).rd) AJ (j := (at_ + 6)) ha6 rfl rfl rfl hb) ?_
        refine Ab rfl (.int .u8 ((a6).toNat : Int)) (fun b w hb hH => Bm EQ (by decide) ((hH.rd8 1 rfl hX).rd) (j := (at_ + 6)) ha6 B0 (off := 0) rfl rfl rfl hb) ?_
        refine Ae Aw rfl ?_
        refine Ab rfl (.int .u32 ((s / 65536 : Nat) : Int)) (fun b w hb hH => B9 (s := 16) (by decide) (by omega) rfl rfl rfl hb) ?_
        refine Ab rfl (.int .u8 (c2.toNat : Int)) (fun b w hb hH => AY Tryz.underlying91 Tryz.underlying5 (hw2) rfl rfl hb) ?_
        refine Ab rfl (.bool false) (fun b w hb hH => AV rfl rfl rfl (AS (by omega)) hb) ?_
        refine Ae Aw rfl ?_
        refine Ab rfl (.int .i64 ((at_ + 7 : Nat) : Int)) (fun b w hb hH => AN rfl rfl rfl rfl (by rw [IntWalk.i64_in _ (by omega)]; omega) hb) ?_
        refine Ab rfl (BP (.slice A y.length c) ((at_ + 7) * 1)) (fun b w hb hH => BF EQ ((hH.rd8 1 rfl hX).rd) AJ (j := (at_ + 7)) ha7 rfl rfl rfl hb) ?_
        refine Ab rfl (.int .u8 ((a7).toNat : Int)) (fun b w hb hH => Bm EQ (by decide) ((hH.rd8 1 rfl hX).rd) (j := (at_ + 7)) ha7 B0 (off := 0) rfl rfl rfl hb) ?_
        refine Ae Aw rfl ?_
        refine Ab rfl (.int .u32 ((s / 16777216 : Nat) : Int)) (fun b w hb hH => B9 (s := 24) (by decide) (by omega) rfl rfl rfl hb) ?_
        refine Ab rfl (.int .u8 (c3.toNat : Int)) (fun b w hb hH => AY Tryz.underlying91 Tryz.underlying5 (hw3) rfl rfl hb) ?_
        refine Ab rfl (.bool true) (fun b w hb hH => AV rfl rfl rfl (BQ (by omega)) hb) ?_
        refine Ae Aw rfl ?_
        refine Aa (AC rfl (Ad ?_))
        refine Ae Aw rfl ?_
        refine Aa (Ay (CM (Bw (CM (Bw (CM ?_))))))
        exact B3 (.tmp rfl) (.tmp rfl) (fun w h => AB (X := PsV) ⟨pv, L⟩ (by rw [hres2]) [1, 0] rfl h (fun z hz => ⟨z, .refl _, Eo (xs := [_, _]) hres1 hz⟩)) rfl
      · skip
        have hnx : B1 (y.drop at_) = some x := RE hb8 hn hn1 hd8 (by rw [List.length_drop]; omega) (by rw [hs]) hc0 hc1 hc2 hc3 ⟨by omega, by omega, by omega, by omega⟩
        have hI2_ := hI2
        rw [Gx hnx] at hI2_
        have hdd : (y.drop at_).drop (8 + x.length) = y.drop (at_ + 8 + n) := by rw [List.drop_drop, hxl, show at_ + (8 + n) = at_ + 8 + n by omega]
        rw [hdd] at hI2_
        refine Ad ?_
        refine Ae Aw rfl ?_
        refine Ab rfl (.int .i64 ((at_ + 4 : Nat) : Int)) (fun b w hb hH => AN rfl rfl rfl rfl (by rw [IntWalk.i64_in _ (by omega)]; omega) hb) ?_
        refine Ab rfl (BP (.slice A y.length c) ((at_ + 4) * 1)) (fun b w hb hH => BF EQ ((hH.rd8 1 rfl hX).rd) AJ (j := (at_ + 4)) ha4 rfl rfl rfl hb) ?_
        refine Ab rfl (.int .u8 ((a4).toNat : Int)) (fun b w hb hH => Bm EQ (by decide) ((hH.rd8 1 rfl hX).rd) (j := (at_ + 4)) ha4 B0 (off := 0) rfl rfl rfl hb) ?_
        refine Ae Aw rfl ?_
        refine Ab rfl (.int .u8 (c0.toNat : Int)) (fun b w hb hH => AY Tryz.underlying91 Tryz.underlying5 (hw0) rfl rfl hb) ?_
        refine Ab rfl (.bool false) (fun b w hb hH => AV rfl rfl rfl (AS (by omega)) hb) ?_
        refine Ae Aw rfl ?_
        refine Ab rfl (.int .i64 ((at_ + 5 : Nat) : Int)) (fun b w hb hH => AN rfl rfl rfl rfl (by rw [IntWalk.i64_in _ (by omega)]; omega) hb) ?_
        refine Ab rfl (BP (.slice A y.length c) ((at_ + 5) * 1)) (fun b w hb hH => BF EQ ((hH.rd8 1 rfl hX).rd) AJ (j := (at_ + 5)) ha5 rfl rfl rfl hb) ?_
        refine Ab rfl (.int .u8 ((a5).toNat : Int)) (fun b w hb hH => Bm EQ (by decide) ((hH.rd8 1 rfl hX).rd) (j := (at_ + 5)) ha5 B0 (off := 0) rfl rfl rfl hb) ?_
        refine Ae Aw rfl ?_
        refine Ab rfl (.int .u32 ((s / 256 : Nat) : Int)) (fun b w hb hH => B9 (s := 8) (by decide) (by omega) rfl rfl rfl hb) ?_
        refine Ab rfl (.int .u8 (c1.toNat : Int)) (fun b w hb hH => AY Tryz.underlying91 Tryz.underlying5 (hw1) rfl rfl hb) ?_
        refine Ab rfl (.bool false) (fun b w hb hH => AV rfl rfl rfl (AS (by omega)) hb) ?_
        refine Ae Aw rfl ?_
        refine Ab rfl (.int .i64 ((at_ + 6 : Nat) : Int)) (fun b w hb hH => AN rfl rfl rfl rfl (by rw [IntWalk.i64_in _ (by omega)]; omega) hb) ?_
        refine Ab rfl (BP (.slice A y.length c) ((at_ + 6) * 1)) (fun b w hb hH => BF EQ ((hH.rd8 1 rfl hX).rd) AJ (j := (at_ + 6)) ha6 rfl rfl rfl hb) ?_
        refine Ab rfl (.int .u8 ((a6).toNat : Int)) (fun b w hb hH => Bm EQ (by decide) ((hH.rd8 1 rfl hX).rd) (j := (at_ + 6)) ha6 B0 (off := 0) rfl rfl rfl hb) ?_
        refine Ae Aw rfl ?_
        refine Ab rfl (.int .u32 ((s / 65536 : Nat) : Int)) (fun b w hb hH => B9 (s := 16) (by decide) (by omega) rfl rfl rfl hb) ?_
        refine Ab rfl (.int .u8 (c2.toNat : Int)) (fun b w hb hH => AY Tryz.underlying91 Tryz.underlying5 (hw2) rfl rfl hb) ?_
        refine Ab rfl (.bool false) (fun b w hb hH => AV rfl rfl rfl (AS (by omega)) hb) ?_
        refine Ae Aw rfl ?_
        refine Ab rfl (.int .i64 ((at_ + 7 : Nat) : Int)) (fun b w hb hH => AN rfl rfl rfl rfl (by rw [IntWalk.i64_in _ (by omega)]; omega) hb) ?_
        refine Ab rfl (BP (.slice A y.length c) ((at_ + 7) * 1)) (fun b w hb hH => BF EQ ((hH.rd8 1 rfl hX).rd) AJ (j := (at_ + 7)) ha7 rfl rfl rfl hb) ?_
        refine Ab rfl (.int .u8 ((a7).toNat : Int)) (fun b w hb hH => Bm EQ (by decide) ((hH.rd8 1 rfl hX).rd) (j := (at_ + 7)) ha7 B0 (off := 0) rfl rfl rfl hb) ?_
        refine Ae Aw rfl ?_
        refine Ab rfl (.int .u32 ((s / 16777216 : Nat) : Int)) (fun b w hb hH => B9 (s := 24) (by decide) (by omega) rfl rfl rfl hb) ?_
        refine Ab rfl (.int .u8 (c3.toNat : Int)) (fun b w hb hH => AY Tryz.underlying91 Tryz.underlying5 (hw3) rfl rfl hb) ?_
        refine Ab rfl (.bool false) (fun b w hb hH => AV rfl rfl rfl (AS (by omega)) hb) ?_
        refine Ae Aw rfl ?_
        refine Aa (Ar rfl (Ax (AE ?_)))
        refine AZ 0 rfl Rg (fun _ => rfl) ?_; rintro ⟨⟩
        refine Ad ?_
        refine Ae Aw rfl ?_
        refine Aj (X := Value) (val := fun v : Value => v) (post := fun d0 => [As 5 1 encB d0 ([]), As 48 1 encW pv (L.map (·.1)), DS (fun x : PtT => As 5 1 encB x.1 x.2) L, X]) rfl (by refine ET (e := 5) (t := 48) (k := 1) (enc := encB) ?_ ?_; exact AJ; exact rfl) ?_; rintro d0
        refine Ae Aw rfl ?_
        refine Aj (post := fun d1 => [As 5 1 encB d1 x, As 48 1 encW pv (L.map (·.1)), DS (fun x : PtT => As 5 1 encB x.1 x.2) L, X]) rfl (Cz 0 AJ (by kernel_rfl) rfl (x) (fun w hH => (hH.rd8 3 rfl hX3).rd) (by simp only [List.length_nil]; omega) rfl rfl rfl (List.nil_append _)) ?_; rintro d1
        refine Aj (X := Value) (val := fun v : Value => v) (post := fun b1 => [As 48 1 encW b1 ([d1]), As 5 1 encB d1 x, As 48 1 encW pv (L.map (·.1)), DS (fun x : PtT => As 5 1 encB x.1 x.2) L, X]) rfl (by exact SA 0 Fp rfl rfl rfl) ?_; rintro b1
        refine Aj (post := fun p1 => [As 48 1 encW b1 ([d1]), As 5 1 encB d1 x, As 48 1 encW p1 (L.map (·.1) ++ [d1]), DS (fun x : PtT => As 5 1 encB x.1 x.2) L, X]) rfl (DB 2 Fp V1 rfl ([d1]) (fun w hH => hH.vec 0 rfl V1) (by simp only [List.length_map, List.length_cons, List.length_nil]; omega) rfl rfl rfl rfl) ?_; rintro p1
        refine Ae Aw rfl ?_
        refine Aa ?_
        refine Bv.leave [0] rfl rfl ?_
        refine AX [1, 2, 0] rfl Rh rfl ?_
        refine Br ?_
        refine Ae Aw rfl ?_
        refine Ab rfl (.int .i64 ((at_ + 8 : Nat) : Int)) (fun b w hb hH => AN rfl rfl rfl rfl (by rw [IntWalk.i64_in _ (by omega)]; omega) hb) ?_
        refine Ae Aw rfl ?_
        refine Ab rfl (.int .i64 ((at_ + 8 + n : Nat) : Int)) (fun b w hb hH => AN rfl rfl rfl rfl (by rw [IntWalk.i64_in _ (by omega)]; omega) hb) ?_
        refine Ae Aw rfl ?_
        refine AP (Bt ?_)
        exact Cc (at_ + 8 + n, L ++ [(d1, x)], p1) 0 ⟨by omega, by rw [List.map_append]; exact Td hI2_ hxl, by rw [List.length_append]; simp only [List.length_cons, List.length_nil]; omega⟩ (show y.length - (at_ + 8 + n) < y.length - at_ by omega) ⟨rfl, rfl, rfl, rfl, rfl, trivial⟩ rfl
end Go.Proofs.YtnknboibmifacaaGreat.Sep
