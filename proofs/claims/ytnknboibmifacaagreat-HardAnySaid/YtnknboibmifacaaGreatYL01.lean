/-
  FrmR · FrmS
-/
import Derived.Test.YtnknboibmifacaaGreatYB02
import Derived.Test.YtnknboibmifacaaGreatYB03
import Derived.Test.YtnknboibmifacaaGreatYG01
set_option linter.unusedSimpArgs false
set_option linter.unusedVariables false
set_option maxRecDepth 100000
namespace Go.Proofs.YtnknboibmifacaaGreat.Sep
open Go.RowKit
open Go.Proofs.YtnknboibmifacaaGreat.Mem (Bd Cj Chg AF)
theorem Vv {X : Ass} {y r : List UInt8} {A : Option Addr} {c : Nat} (hX : Cw X (.slice A y.length c) y) (hl : y.length ≤ 140737488351232) (hr : Be y = r) : AS Tryz.prog 19 #[.slice A y.length c] [X] (fun (v : Value) => v) (fun (v : Value) => [X, Ao 5 1 encB v r]) := by
  refine A6 (args := [.slice A y.length c]) 37 Tryz.func19 rfl rfl rfl ?_; intro w rs
  refine Ad ?_
  refine Af As rfl ?_
  refine Ab (Aq ?_)
  rcases Nat.lt_or_ge 65536 y.length with h0 | h0
  · skip
    obtain rfl : r = [] := by rw [← hr]; unfold Be; rw [if_neg (by omega)]
    refine Ad ?_
    refine Af As rfl ?_
    refine Ac rfl (.int .i64 (y.length : Int)) (fun b w hb hH => AQ ((hH.rd8 0 rfl hX).rd) Tryz.underlying48 rfl rfl hb) ?_
    refine Ac rfl (.bool true) (fun b w hb hH => Bh rfl rfl rfl (B2 (by omega)) hb) ?_
    refine Ab (AD rfl ?_)
    refine BZ 5 1 encB ?_
    refine Ad ?_
    refine Af As rfl ?_
    refine Ab (Az (CO ?_))
    exact Ay (.tmp rfl) (fun w h => AB (.slice none 0 0) rfl [1, 0] rfl h Cz) rfl
  · skip
    have hc := GH y
    have hr_ : b4 y.length ++ b4 (BG y) ++ y = r := by rw [← hr]; unfold Be; rw [if_pos h0]
    refine Ad ?_
    refine Af As rfl ?_
    refine Ac rfl (.int .i64 (y.length : Int)) (fun b w hb hH => AQ ((hH.rd8 0 rfl hX).rd) Tryz.underlying48 rfl rfl hb) ?_
    refine Ac rfl (.bool false) (fun b w hb hH => Bh rfl rfl rfl (BC (by omega)) hb) ?_
    refine Ab (Au rfl (Ax (AG (Ad ?_))))
    refine Af As rfl ?_
    refine Ac rfl (.int .i64 (y.length : Int)) (fun b w hb hH => AQ ((hH.rd8 0 rfl hX).rd) Tryz.underlying48 rfl rfl hb) ?_
    refine Af As rfl ?_
    refine Ab (Ad ?_)
    refine Af As rfl ?_
    refine Ai (post := fun _ => [X]) rfl (BQ (Ah Tryz.func54 (by kernel_rfl) rfl) (fun w hH => SW (hH.rd8 0 rfl hX) (by omega)) rfl rfl rfl) ?_; rintro ⟨⟩
    refine Af As rfl ?_
    refine Ab (Ad ?_)
    refine Af As rfl ?_
    refine Ac rfl (.int .u8 (((UInt8.ofNat y.length)).toNat : Int)) (fun b w hb hH => AO Tryz.underlying3 Tryz.underlying5 (CS _) rfl rfl hb) ?_
    refine Af As rfl ?_
    refine Ac rfl (.int .i64 ((y.length / 256 : Nat) : Int)) (fun b w hb hH => B4 (s := 8) (by decide) (by omega) rfl rfl rfl hb) ?_
    refine Ac rfl (.int .u8 (((UInt8.ofNat (y.length / 256))).toNat : Int)) (fun b w hb hH => AO Tryz.underlying3 Tryz.underlying5 (CS _) rfl rfl hb) ?_
    refine Af As rfl ?_
    refine Ac rfl (.int .i64 ((y.length / 65536 : Nat) : Int)) (fun b w hb hH => B4 (s := 16) (by decide) (by omega) rfl rfl rfl hb) ?_
    refine Ac rfl (.int .u8 (((UInt8.ofNat (y.length / 65536))).toNat : Int)) (fun b w hb hH => AO Tryz.underlying3 Tryz.underlying5 (CS _) rfl rfl hb) ?_
    refine Af As rfl ?_
    refine Ac rfl (.int .i64 ((y.length / 16777216 : Nat) : Int)) (fun b w hb hH => B4 (s := 24) (by decide) (by omega) rfl rfl rfl hb) ?_
    refine Ac rfl (.int .u8 (((UInt8.ofNat (y.length / 16777216))).toNat : Int)) (fun b w hb hH => AO Tryz.underlying3 Tryz.underlying5 (CS _) rfl rfl hb) ?_
    refine Af As rfl ?_
    refine Ac rfl (.int .u8 (((UInt8.ofNat (BG y))).toNat : Int)) (fun b w hb hH => AO Tryz.underlying91 Tryz.underlying5 (CS _) rfl rfl hb) ?_
    refine Af As rfl ?_
    refine Ac rfl (.int .u32 ((BG y / 256 : Nat) : Int)) (fun b w hb hH => B4 (s := 8) (by decide) (by omega) rfl rfl rfl hb) ?_
    refine Ac rfl (.int .u8 (((UInt8.ofNat (BG y / 256))).toNat : Int)) (fun b w hb hH => AO Tryz.underlying91 Tryz.underlying5 (CS _) rfl rfl hb) ?_
    refine Af As rfl ?_
    refine Ac rfl (.int .u32 ((BG y / 65536 : Nat) : Int)) (fun b w hb hH => B4 (s := 16) (by decide) (by omega) rfl rfl rfl hb) ?_
    refine Ac rfl (.int .u8 (((UInt8.ofNat (BG y / 65536))).toNat : Int)) (fun b w hb hH => AO Tryz.underlying91 Tryz.underlying5 (CS _) rfl rfl hb) ?_
    refine Af As rfl ?_
    refine Ac rfl (.int .u32 ((BG y / 16777216 : Nat) : Int)) (fun b w hb hH => B4 (s := 24) (by decide) (by omega) rfl rfl rfl hb) ?_
    refine Ac rfl (.int .u8 (((UInt8.ofNat (BG y / 16777216))).toNat : Int)) (fun b w hb hH => AO Tryz.underlying91 Tryz.underlying5 (CS _) rfl rfl hb) ?_
    refine Ai (X := Value) (val := fun v : Value => v) (post := fun v8 => [Ao 5 1 encB v8 ([(UInt8.ofNat y.length), (UInt8.ofNat (y.length / 256)), (UInt8.ofNat (y.length / 65536)), (UInt8.ofNat (y.length / 16777216)), (UInt8.ofNat (BG y)), (UInt8.ofNat (BG y / 256)), (UInt8.ofNat (BG y / 65536)), (UInt8.ofNat (BG y / 16777216))]), X]) rfl (by exact SV AC (UInt8.ofNat y.length) (UInt8.ofNat (y.length / 256)) (UInt8.ofNat (y.length / 65536)) (UInt8.ofNat (y.length / 16777216)) (UInt8.ofNat (BG y)) (UInt8.ofNat (BG y / 256)) (UInt8.ofNat (BG y / 65536)) (UInt8.ofNat (BG y / 16777216)) rfl rfl rfl rfl rfl rfl rfl rfl rfl) ?_; rintro v8
    refine Af As rfl ?_
    refine Ai (post := fun v9 => [Ao 5 1 encB v9 r, X]) rfl (Ca 0 AC (by kernel_rfl) rfl (y) (fun w hH => hH.rd 1 rfl hX.rd) (by show 8 + y.length ≤ _; omega) rfl rfl rfl hr_) ?_; rintro v9
    refine Af As rfl ?_
    refine Ab (Az ?_)
    exact Ay (.tmp rfl) (fun w h => AB v9 rfl [1, 0] rfl h Cz) rfl
end Go.Proofs.YtnknboibmifacaaGreat.Sep
namespace Go.Proofs.YtnknboibmifacaaGreat.Sep
open Go.RowKit
open Go.Proofs.YtnknboibmifacaaGreat.Mem (Bd Cj Chg AF)
theorem P2 {X : Ass} {y : List UInt8} {ps : List (List UInt8)} {k : Nat} {A : Option Addr} {c : Nat} (hX : Cw X (.slice A y.length c) y) (hl : y.length ≤ 137438953472) (hr : BD y = (ps, k)) : AS Tryz.prog 38 #[.slice A y.length c] [X] (fun (x : PsV) => .tuple #[x.v, .int .i64 (k : Int)]) (fun (x : PsV) => [X, BE 48 x.v x.l, fact (x.l.map (·.2) = ps)]) := by
  refine A6 (args := [.slice A y.length c]) 121 Tryz.func38 rfl rfl rfl ?_; intro w rs
  refine Ad ?_
  refine Af As rfl ?_
  refine Ab (Ad ?_)
  refine Af As rfl ?_
  refine Ab (Ad ?_)
  refine Af As rfl ?_
  refine Ab (Aq (AX ?_))
  refine HF (t := BE 48 (.slice none 0 0) ([])) (Sk) ?_
  refine CE (α := Nat × List PtT × Value) (fun ⟨at_, L, pv⟩ => [(0, .slice A y.length c), (2, .slice none 0 0), (3, .int .i64 0), (4, pv), (5, .int .i64 ((at_ : Nat) : Int))]) (fun ⟨at_, L, pv⟩ => [BE 48 pv L, X]) (fun ⟨at_, L, pv⟩ => at_ ≤ y.length ∧ BD y = (L.map (·.2) ++ (BD (y.drop at_)).1, at_ + (BD (y.drop at_)).2) ∧ L.length * 8 ≤ at_) (fun ⟨at_, L, pv⟩ => y.length - at_) (0, [], .slice none 0 0) ⟨Nat.zero_le _, by simp, Nat.le_refl _⟩ ⟨rfl, rfl, rfl, rfl, rfl, trivial⟩ rfl ?_
  rintro ⟨at_, L, pv⟩ hI
  refine Bo.at_ (env' := [(0, .slice A y.length c), (2, .slice none 0 0), (3, .int .i64 0), (4, pv), (5, .int .i64 ((at_ : Nat) : Int))]) (rs' := [BE 48 pv L, X]) ⟨rfl, rfl, rfl, rfl, rfl, trivial⟩ rfl ?_
  have hI1 : at_ ≤ y.length := hI.1
  have hI2 : BD y = (L.map (·.2) ++ (BD (y.drop at_)).1, at_ + (BD (y.drop at_)).2) := hI.2.1
  have hI3 : L.length * 8 ≤ at_ := hI.2.2
  clear hI
  refine Aq ?_
  rcases Nat.lt_or_ge (y.length - at_) 8 with h8 | h8
  · skip
    have hnx : BV (y.drop at_) = none := by unfold BV; exact if_neg fun h => by have := h.1; rw [List.length_drop] at this; omega
    rw [CL hnx] at hI2
    have hres1 : L.map (·.2) = ps := by have := congrArg Prod.fst hI2; rw [hr] at this; simpa using this.symm
    have hres2 : (at_ : Int) = (k : Int) := by have := congrArg Prod.snd hI2; rw [hr] at this; simp at this; omega
    refine Ad ?_
    refine Af As rfl ?_
    refine Ac rfl (.int .i64 (y.length : Int)) (fun b w hb hH => AQ ((hH.rd8 1 rfl hX).rd) Tryz.underlying48 rfl rfl hb) ?_
    refine Af As rfl ?_
    refine Ac rfl (.int .i64 ((y.length : Int) - (at_ : Int))) (fun b w hb hH => AK rfl rfl rfl rfl (IntWalk.i64_in _ (by omega)) hb) ?_
    refine Ac rfl (.bool false) (fun b w hb hH => Bh rfl rfl rfl (DX (by omega)) hb) ?_
    refine Ab (Au rfl (Cu (EO (EO (Bc (AG (Ad ?_)))))))
    refine Af As rfl ?_
    refine Ab (Az ?_)
    exact BX (.tmp rfl) (.tmp rfl) (fun w h => AB (X := PsV) ⟨pv, L⟩ (by rw [hres2]) [1, 0] rfl h (fun z hz => ⟨z, .refl _, Ed (xs := [_, _]) hres1 hz⟩)) rfl
  · skip
    obtain ⟨a0, ha0⟩ : ∃ a, y[at_ + 0]? = some a := ⟨_, List.getElem?_eq_getElem (by omega)⟩
    obtain ⟨a1, ha1⟩ : ∃ a, y[at_ + 1]? = some a := ⟨_, List.getElem?_eq_getElem (by omega)⟩
    obtain ⟨a2, ha2⟩ : ∃ a, y[at_ + 2]? = some a := ⟨_, List.getElem?_eq_getElem (by omega)⟩
    obtain ⟨a3, ha3⟩ : ∃ a, y[at_ + 3]? = some a := ⟨_, List.getElem?_eq_getElem (by omega)⟩
    obtain ⟨a4, ha4⟩ : ∃ a, y[at_ + 4]? = some a := ⟨_, List.getElem?_eq_getElem (by omega)⟩
    obtain ⟨a5, ha5⟩ : ∃ a, y[at_ + 5]? = some a := ⟨_, List.getElem?_eq_getElem (by omega)⟩
    obtain ⟨a6, ha6⟩ : ∃ a, y[at_ + 6]? = some a := ⟨_, List.getElem?_eq_getElem (by omega)⟩
    obtain ⟨a7, ha7⟩ : ∃ a, y[at_ + 7]? = some a := ⟨_, List.getElem?_eq_getElem (by omega)⟩
    have hA0 := a0.toNat_lt
    have hA1 := a1.toNat_lt
    have hA2 := a2.toNat_lt
    have hA3 := a3.toNat_lt
    rw [Nat.add_zero] at ha0
    obtain ⟨n, hn_⟩ : ∃ n, a0.toNat + a1.toNat * 256 + a2.toNat * 65536 + a3.toNat * 16777216 = n := ⟨_, rfl⟩
    have hb8 : (y.drop at_).take 8 = [a0, a1, a2, a3, a4, a5, a6, a7] := Rl ha0 ha1 ha2 ha3 ha4 ha5 ha6 ha7
    have hn : n4 (y.drop at_) 0 = n := Vi hb8 hn_
    refine Ad ?_
    refine Af As rfl ?_
    refine Ac rfl (.int .i64 (y.length : Int)) (fun b w hb hH => AQ ((hH.rd8 1 rfl hX).rd) Tryz.underlying48 rfl rfl hb) ?_
    refine Af As rfl ?_
    refine Ac rfl (.int .i64 ((y.length : Int) - (at_ : Int))) (fun b w hb hH => AK rfl rfl rfl rfl (IntWalk.i64_in _ (by omega)) hb) ?_
    refine Ac rfl (.bool true) (fun b w hb hH => Bh rfl rfl rfl (Cs (by omega)) hb) ?_
    refine Ab (AD rfl (Ax (AG (AX (Aq ?_)))))
    refine BM 29 0 [⟨.quiet, [], fun _ => .slice A y.length c, []⟩, ⟨.quiet, [], fun _ => .int .i64 ((at_ : Nat) : Int), []⟩, ⟨.quiet, [], fun _ => Cc (.slice A y.length c) (at_ * 1), [0, 1]⟩, ⟨.quiet, [], fun _ => .int .u8 ((a0).toNat : Int), [2]⟩, ⟨.quiet, [], fun _ => .int .i64 ((a0).toNat : Int), [3]⟩, ⟨.quiet, [], fun _ => .slice A y.length c, []⟩, ⟨.quiet, [], fun _ => .int .i64 ((at_ : Nat) : Int), []⟩, ⟨.quiet, [], fun _ => .int .i64 ((at_ + 1 : Nat) : Int), [6]⟩, ⟨.quiet, [], fun _ => Cc (.slice A y.length c) ((at_ + 1) * 1), [5, 7]⟩, ⟨.quiet, [], fun _ => .int .u8 ((a1).toNat : Int), [8]⟩, ⟨.quiet, [], fun _ => .int .i64 ((a1).toNat : Int), [9]⟩, ⟨.quiet, [], fun _ => .int .i64 ((a1.toNat * 256 : Nat) : Int), [10]⟩, ⟨.quiet, [], fun _ => .int .i64 ((a0.toNat + a1.toNat * 256 : Nat) : Int), [4, 11]⟩, ⟨.quiet, [], fun _ => .slice A y.length c, []⟩, ⟨.quiet, [], fun _ => .int .i64 ((at_ : Nat) : Int), []⟩, ⟨.quiet, [], fun _ => .int .i64 ((at_ + 2 : Nat) : Int), [14]⟩, ⟨.quiet, [], fun _ => Cc (.slice A y.length c) ((at_ + 2) * 1), [13, 15]⟩, ⟨.quiet, [], fun _ => .int .u8 ((a2).toNat : Int), [16]⟩, ⟨.quiet, [], fun _ => .int .i64 ((a2).toNat : Int), [17]⟩, ⟨.quiet, [], fun _ => .int .i64 ((a2.toNat * 65536 : Nat) : Int), [18]⟩, ⟨.quiet, [], fun _ => .int .i64 ((a0.toNat + a1.toNat * 256 + a2.toNat * 65536 : Nat) : Int), [12, 19]⟩, ⟨.quiet, [], fun _ => .slice A y.length c, []⟩, ⟨.quiet, [], fun _ => .int .i64 ((at_ : Nat) : Int), []⟩, ⟨.quiet, [], fun _ => .int .i64 ((at_ + 3 : Nat) : Int), [22]⟩, ⟨.quiet, [], fun _ => Cc (.slice A y.length c) ((at_ + 3) * 1), [21, 23]⟩, ⟨.quiet, [], fun _ => .int .u8 ((a3).toNat : Int), [24]⟩, ⟨.quiet, [], fun _ => .int .i64 ((a3).toNat : Int), [25]⟩, ⟨.quiet, [], fun _ => .int .i64 ((a3.toNat * 16777216 : Nat) : Int), [26]⟩, ⟨.quiet, [], fun _ => .int .i64 (n : Int), [20, 27]⟩] [(0, .slice A y.length c), (2, .slice none 0 0), (3, .int .i64 0), (4, pv), (5, .int .i64 ((at_ : Nat) : Int)), (9, .slice A y.length c), (10, .int .i64 (y.length : Int)), (11, .int .i64 ((at_ : Nat) : Int)), (12, .int .i64 ((y.length : Int) - (at_ : Int))), (13, .bool true)] (fun _ => [BE 48 pv L, X]) (by kernel_rfl) (by kernel_rfl) ⟨rfl, rfl, rfl, rfl, rfl, rfl, rfl, rfl, rfl, rfl, trivial⟩ rfl ?_ ?_
    · skip
      refine Aa (by exact ⟨rfl, fun b w hH hb => Ae As rfl hb⟩) ?_
      refine Aa (by exact ⟨rfl, fun b w hH hb => Ae As rfl hb⟩) ?_
      refine Aa (by exact ⟨rfl, fun b w hH hb => BA EI ((hH.rd8 1 rfl hX).rd) AC (j := at_) ha0 rfl rfl rfl hb⟩) ?_
      refine Aa (by exact ⟨rfl, fun b w hH hb => Bp EI (by decide) ((hH.rd8 1 rfl hX).rd) (j := at_) ha0 BU (off := 0) rfl rfl rfl hb⟩) ?_
      refine Aa (by exact ⟨rfl, fun b w hH hb => AO Tryz.underlying5 Tryz.underlying3 (IntWalk.i64_in _ (by omega)) rfl rfl hb⟩) ?_
      refine Aa (by exact ⟨rfl, fun b w hH hb => Ae As rfl hb⟩) ?_
      refine Aa (by exact ⟨rfl, fun b w hH hb => Ae As rfl hb⟩) ?_
      refine Aa (by exact ⟨rfl, fun b w hH hb => AK rfl rfl rfl rfl (by rw [IntWalk.i64_in _ (by omega)]; omega) hb⟩) ?_
      refine Aa (by exact ⟨rfl, fun b w hH hb => BA EI ((hH.rd8 1 rfl hX).rd) AC (j := (at_ + 1)) ha1 rfl rfl rfl hb⟩) ?_
      refine Aa (by exact ⟨rfl, fun b w hH hb => Bp EI (by decide) ((hH.rd8 1 rfl hX).rd) (j := (at_ + 1)) ha1 BU (off := 0) rfl rfl rfl hb⟩) ?_
      refine Aa (by exact ⟨rfl, fun b w hH hb => AO Tryz.underlying5 Tryz.underlying3 (IntWalk.i64_in _ (by omega)) rfl rfl hb⟩) ?_
      refine Aa (by exact ⟨rfl, fun b w hH hb => E3 (s := 8) (by decide) (by rw [IntWalk.i64_in _ (by omega)]; omega) rfl rfl rfl hb⟩) ?_
      refine Aa (by exact ⟨rfl, fun b w hH hb => AK rfl rfl rfl rfl (by rw [IntWalk.i64_in _ (by omega)]; omega) hb⟩) ?_
      refine Aa (by exact ⟨rfl, fun b w hH hb => Ae As rfl hb⟩) ?_
      refine Aa (by exact ⟨rfl, fun b w hH hb => Ae As rfl hb⟩) ?_
      refine Aa (by exact ⟨rfl, fun b w hH hb => AK rfl rfl rfl rfl (by rw [IntWalk.i64_in _ (by omega)]; omega) hb⟩) ?_
      refine Aa (by exact ⟨rfl, fun b w hH hb => BA EI ((hH.rd8 1 rfl hX).rd) AC (j := (at_ + 2)) ha2 rfl rfl rfl hb⟩) ?_
      refine Aa (by exact ⟨rfl, fun b w hH hb => Bp EI (by decide) ((hH.rd8 1 rfl hX).rd) (j := (at_ + 2)) ha2 BU (off := 0) rfl rfl rfl hb⟩) ?_
      refine Aa (by exact ⟨rfl, fun b w hH hb => AO Tryz.underlying5 Tryz.underlying3 (IntWalk.i64_in _ (by omega)) rfl rfl hb⟩) ?_
      refine Aa (by exact ⟨rfl, fun b w hH hb => E3 (s := 16) (by decide) (by rw [IntWalk.i64_in _ (by omega)]; omega) rfl rfl rfl hb⟩) ?_
      refine Aa (by exact ⟨rfl, fun b w hH hb => AK rfl rfl rfl rfl (by rw [IntWalk.i64_in _ (by omega)]; omega) hb⟩) ?_
      refine Aa (by exact ⟨rfl, fun b w hH hb => Ae As rfl hb⟩) ?_
      refine Aa (by exact ⟨rfl, fun b w hH hb => Ae As rfl hb⟩) ?_
      refine Aa (by exact ⟨rfl, fun b w hH hb => AK rfl rfl rfl rfl (by rw [IntWalk.i64_in _ (by omega)]; omega) hb⟩) ?_
      refine Aa (by exact ⟨rfl, fun b w hH hb => BA EI ((hH.rd8 1 rfl hX).rd) AC (j := (at_ + 3)) ha3 rfl rfl rfl hb⟩) ?_
      refine Aa (by exact ⟨rfl, fun b w hH hb => Bp EI (by decide) ((hH.rd8 1 rfl hX).rd) (j := (at_ + 3)) ha3 BU (off := 0) rfl rfl rfl hb⟩) ?_
      refine Aa (by exact ⟨rfl, fun b w hH hb => AO Tryz.underlying5 Tryz.underlying3 (IntWalk.i64_in _ (by omega)) rfl rfl hb⟩) ?_
      refine Aa (by exact ⟨rfl, fun b w hH hb => E3 (s := 24) (by decide) (by rw [IntWalk.i64_in _ (by omega)]; omega) rfl rfl rfl hb⟩) ?_
      refine Aa (by exact ⟨rfl, fun b w hH hb => AK rfl rfl rfl rfl (by rw [IntWalk.i64_in _ (by omega)]; omega) hb⟩) ?_
      exact B7
    refine Ch.keep (env' := [(0, .slice A y.length c), (2, .slice none 0 0), (3, .int .i64 0), (4, pv), (5, .int .i64 ((at_ : Nat) : Int)), (9, .slice A y.length c), (10, .int .i64 (y.length : Int)), (11, .int .i64 ((at_ : Nat) : Int)), (12, .int .i64 ((y.length : Int) - (at_ : Int))), (13, .bool true), (14, .slice A y.length c), (15, .int .i64 ((at_ : Nat) : Int)), (16, Cc (.slice A y.length c) (at_ * 1)), (17, .int .u8 ((a0).toNat : Int)), (18, .int .i64 ((a0).toNat : Int)), (19, .slice A y.length c), (20, .int .i64 ((at_ : Nat) : Int)), (21, .int .i64 ((at_ + 1 : Nat) : Int)), (22, Cc (.slice A y.length c) ((at_ + 1) * 1)), (23, .int .u8 ((a1).toNat : Int)), (24, .int .i64 ((a1).toNat : Int)), (25, .int .i64 ((a1.toNat * 256 : Nat) : Int)), (26, .int .i64 ((a0.toNat + a1.toNat * 256 : Nat) : Int)), (27, .slice A y.length c), (28, .int .i64 ((at_ : Nat) : Int)), (29, .int .i64 ((at_ + 2 : Nat) : Int)), (30, Cc (.slice A y.length c) ((at_ + 2) * 1)), (31, .int .u8 ((a2).toNat : Int)), (32, .int .i64 ((a2).toNat : Int)), (33, .int .i64 ((a2.toNat * 65536 : Nat) : Int)), (34, .int .i64 ((a0.toNat + a1.toNat * 256 + a2.toNat * 65536 : Nat) : Int)), (35, .slice A y.length c), (36, .int .i64 ((at_ : Nat) : Int)), (37, .int .i64 ((at_ + 3 : Nat) : Int)), (38, Cc (.slice A y.length c) ((at_ + 3) * 1)), (39, .int .u8 ((a3).toNat : Int)), (40, .int .i64 ((a3).toNat : Int)), (41, .int .i64 ((a3.toNat * 16777216 : Nat) : Int)), (42, .int .i64 (n : Int))]) ⟨rfl, rfl, rfl, rfl, rfl, rfl, rfl, rfl, rfl, rfl, rfl, rfl, rfl, rfl, rfl, rfl, rfl, rfl, rfl, rfl, rfl, rfl, rfl, rfl, rfl, rfl, rfl, rfl, rfl, rfl, rfl, rfl, rfl, rfl, rfl, rfl, rfl, rfl, rfl, trivial⟩ ?_
    refine Af As rfl ?_
    refine AP (AG (Aq ?_))
    have hcc : 65536 < n ∨ (n ≤ 65536 ∧ y.length - at_ - 8 < n) ∨ (n ≤ 65536 ∧ n ≤ y.length - at_ - 8) := by omega
    rcases hcc with hn1 | ⟨hn1, hn2⟩ | ⟨hn1, hn2⟩
    · skip
      have hnx : BV (y.drop at_) = none := by unfold BV; exact if_neg fun h => by have := h.2.1; rw [hn] at this; omega
      rw [CL hnx] at hI2
      have hres1 : L.map (·.2) = ps := by have := congrArg Prod.fst hI2; rw [hr] at this; simpa using this.symm
      have hres2 : (at_ : Int) = (k : Int) := by have := congrArg Prod.snd hI2; rw [hr] at this; simp at this; omega
      refine Ad ?_
      refine Af As rfl ?_
      refine Ac rfl (.bool true) (fun b w hb hH => Bh rfl rfl rfl (B2 (by omega)) hb) ?_
      refine Af As rfl ?_
      refine Ab (AD rfl (Ad ?_))
      refine Af As rfl ?_
      refine Ab (Az (CO (Bm (CO (Bm (CO ?_))))))
      exact BX (.tmp rfl) (.tmp rfl) (fun w h => AB (X := PsV) ⟨pv, L⟩ (by rw [hres2]) [1, 0] rfl h (fun z hz => ⟨z, .refl _, Ed (xs := [_, _]) hres1 hz⟩)) rfl
    · skip
      have hnx : BV (y.drop at_) = none := by unfold BV; exact if_neg fun h => by have := h.2.2.1; rw [hn, List.length_drop] at this; omega
      rw [CL hnx] at hI2
      have hres1 : L.map (·.2) = ps := by have := congrArg Prod.fst hI2; rw [hr] at this; simpa using this.symm
      have hres2 : (at_ : Int) = (k : Int) := by have := congrArg Prod.snd hI2; rw [hr] at this; simp at this; omega
      refine Ad ?_
      refine Af As rfl ?_
      refine Ac rfl (.bool false) (fun b w hb hH => Bh rfl rfl rfl (BC (by omega)) hb) ?_
      refine Af As rfl ?_
      refine Ac rfl (.int .i64 (y.length : Int)) (fun b w hb hH => AQ ((hH.rd8 1 rfl hX).rd) Tryz.underlying48 rfl rfl hb) ?_
      refine Af As rfl ?_
      refine Ac rfl (.int .i64 ((y.length : Int) - (at_ : Int))) (fun b w hb hH => AK rfl rfl rfl rfl (IntWalk.i64_in _ (by omega)) hb) ?_
      refine Ac rfl (.int .i64 ((y.length : Int) - (at_ : Int) - 8)) (fun b w hb hH => AK rfl rfl rfl rfl (IntWalk.i64_in _ (by omega)) hb) ?_
      refine Ac rfl (.bool true) (fun b w hb hH => Bh rfl rfl rfl (B2 (by omega)) hb) ?_
      refine Af As rfl ?_
      refine Ab (AD rfl (Ad ?_))
      refine Af As rfl ?_
      refine Ab (Az (CO (Bm (CO (Bm (CO ?_))))))
      exact BX (.tmp rfl) (.tmp rfl) (fun w h => AB (X := PsV) ⟨pv, L⟩ (by rw [hres2]) [1, 0] rfl h (fun z hz => ⟨z, .refl _, Ed (xs := [_, _]) hres1 hz⟩)) rfl
    · skip
      obtain ⟨A3, hA3⟩ : ∃ A3, (if c = at_ + 8 then A else A.map (·.add (at_ + 8))) = A3 := ⟨_, rfl⟩
      obtain ⟨x, hx⟩ : ∃ x, (y.take (at_ + 8 + n)).drop (at_ + 8) = x := ⟨_, rfl⟩
      have hxl : x.length = n := by rw [← hx, List.length_drop, List.length_take]; omega
      have hX3 : Cw X (.slice A3 x.length (c - (at_ + 8))) x := fun rs w h1 h2 => by have h3 := Qc (hX rs w h1 h2) (i := at_ + 8) (j := at_ + 8 + n) (by omega) (by omega); rw [hA3, hx] at h3; exact h3
      have hsub : Ci 1 (.slice A y.length c) (at_ + 8) (at_ + 8 + n) = .slice A3 x.length (c - (at_ + 8)) := by rw [← hA3, hxl]; exact J1.trans (by rw [show at_ + 8 + n - (at_ + 8) = n by omega])
      have hd8 : ((y.drop at_).drop 8).take n = x := by rw [← hx, List.drop_drop, List.drop_take, show at_ + 8 + n - (at_ + 8) = n by omega]
      obtain ⟨s, hs⟩ : ∃ s, BG x = s := ⟨_, rfl⟩
      have hs32 : s < 4294967296 := hs ▸ GH x
      obtain ⟨c0, hc0⟩ : ∃ c, UInt8.ofNat s = c := ⟨_, rfl⟩
      obtain ⟨c1, hc1⟩ : ∃ c, UInt8.ofNat (s / 256) = c := ⟨_, rfl⟩
      obtain ⟨c2, hc2⟩ : ∃ c, UInt8.ofNat (s / 65536) = c := ⟨_, rfl⟩
      obtain ⟨c3, hc3⟩ : ∃ c, UInt8.ofNat (s / 16777216) = c := ⟨_, rfl⟩
      have hw0 : IntKind.u8.wrap ((s : Int)) = (c0.toNat : Int) := by rw [← hc0]; exact CS _
      have hw1 : IntKind.u8.wrap (((s / 256 : Nat) : Int)) = (c1.toNat : Int) := by rw [← hc1]; exact CS _
      have hw2 : IntKind.u8.wrap (((s / 65536 : Nat) : Int)) = (c2.toNat : Int) := by rw [← hc2]; exact CS _
      have hw3 : IntKind.u8.wrap (((s / 16777216 : Nat) : Int)) = (c3.toNat : Int) := by rw [← hc3]; exact CS _
      refine Ad ?_
      refine Af As rfl ?_
      refine Ac rfl (.bool false) (fun b w hb hH => Bh rfl rfl rfl (BC (by omega)) hb) ?_
      refine Af As rfl ?_
      refine Ac rfl (.int .i64 (y.length : Int)) (fun b w hb hH => AQ ((hH.rd8 1 rfl hX).rd) Tryz.underlying48 rfl rfl hb) ?_
      refine Af As rfl ?_
      refine Ac rfl (.int .i64 ((y.length : Int) - (at_ : Int))) (fun b w hb hH => AK rfl rfl rfl rfl (IntWalk.i64_in _ (by omega)) hb) ?_
      refine Ac rfl (.int .i64 ((y.length : Int) - (at_ : Int) - 8)) (fun b w hb hH => AK rfl rfl rfl rfl (IntWalk.i64_in _ (by omega)) hb) ?_
      refine Ac rfl (.bool false) (fun b w hb hH => Bh rfl rfl rfl (BC (by omega)) hb) ?_
      refine Af As rfl ?_
      refine Ab (Au rfl (Ax (AG (Ad ?_))))
      refine Af As rfl ?_
      refine Ac rfl (.int .i64 ((at_ + 8 : Nat) : Int)) (fun b w hb hH => AK rfl rfl rfl rfl (by rw [IntWalk.i64_in _ (by omega)]; omega) hb) ?_
      refine Af As rfl ?_
      refine Ac rfl (.int .i64 ((at_ + 8 : Nat) : Int)) (fun b w hb hH => AK rfl rfl rfl rfl (by rw [IntWalk.i64_in _ (by omega)]; omega) hb) ?_
      refine Af As rfl ?_
      refine Ac rfl (.int .i64 ((at_ + 8 + n : Nat) : Int)) (fun b w hb hH => AK rfl rfl rfl rfl (by rw [IntWalk.i64_in _ (by omega)]; omega) hb) ?_
      refine Ac rfl (.slice A3 x.length (c - (at_ + 8))) (fun b w hb hH => VL (i := (at_ + 8)) (j := (at_ + 8 + n)) AC hsub (by omega) (Nat.le_trans (by omega) (Mv (A := A) (n := y.length) (c := c) (hH.rd8 1 rfl hX))) rfl rfl rfl rfl hH hb) ?_
      refine Af As rfl ?_
      refine Ab (Ad ?_)
      refine Af As rfl ?_
      refine Ai (post := fun _ => [BE 48 pv L, X]) rfl (BQ (Ah Tryz.func54 (by kernel_rfl) rfl) (fun w hH => (hs ▸ SW (hH.rd8 1 rfl hX3) (by omega))) rfl rfl rfl) ?_; rintro ⟨⟩
      refine Af As rfl ?_
      refine Ab (Aq ?_)
      have hz : a4.toNat ≠ c0.toNat ∨ (a4.toNat = c0.toNat ∧ a5.toNat ≠ c1.toNat) ∨ (a4.toNat = c0.toNat ∧ a5.toNat = c1.toNat ∧ a6.toNat ≠ c2.toNat) ∨ (a4.toNat = c0.toNat ∧ a5.toNat = c1.toNat ∧ a6.toNat = c2.toNat ∧ a7.toNat ≠ c3.toNat) ∨ (a4.toNat = c0.toNat ∧ a5.toNat = c1.toNat ∧ a6.toNat = c2.toNat ∧ a7.toNat = c3.toNat) := by omega
      rcases hz with h0_ | ⟨e0_, h1_⟩ | ⟨e0_, e1_, h2_⟩ | ⟨e0_, e1_, e2_, h3_⟩ | ⟨e0_, e1_, e2_, e3_⟩
      · skip
        have hnx : BV (y.drop at_) = none := Fq hb8 hn (by rw [hd8, hs]) hc0 hc1 hc2 hc3 (fun h => h0_ (by rw [h.1]))
        rw [CL hnx] at hI2
        have hres1 : L.map (·.2) = ps := by have := congrArg Prod.fst hI2; rw [hr] at this; simpa using this.symm
        have hres2 : (at_ : Int) = (k : Int) := by have := congrArg Prod.snd hI2; rw [hr] at this; simp at this; omega
        refine Ad ?_
        refine Af As rfl ?_
        refine Ac rfl (.int .i64 ((at_ + 4 : Nat) : Int)) (fun b w hb hH => AK rfl rfl rfl rfl (by rw [IntWalk.i64_in _ (by omega)]; omega) hb) ?_
        refine Ac rfl (Cc (.slice A y.length c) ((at_ + 4) * 1)) (fun b w hb hH => BA EI ((hH.rd8 1 rfl hX).rd) AC (j := (at_ + 4)) ha4 rfl rfl rfl hb) ?_
        refine Ac rfl (.int .u8 ((a4).toNat : Int)) (fun b w hb hH => Bp EI (by decide) ((hH.rd8 1 rfl hX).rd) (j := (at_ + 4)) ha4 BU (off := 0) rfl rfl rfl hb) ?_
        refine Af As rfl ?_
        refine Ac rfl (.int .u8 (c0.toNat : Int)) (fun b w hb hH => AO Tryz.underlying91 Tryz.underlying5 (hw0) rfl rfl hb) ?_
        refine Ac rfl (.bool true) (fun b w hb hH => Bh rfl rfl rfl (BY (by omega)) hb) ?_
        refine Af As rfl ?_
        refine Ab (AD rfl (Ad ?_))
        refine Af As rfl ?_
        refine Ab (Az (CO (Bm (CO (Bm (CO ?_))))))
        exact BX (.tmp rfl) (.tmp rfl) (fun w h => AB (X := PsV) ⟨pv, L⟩ (by rw [hres2]) [1, 0] rfl h (fun z hz => ⟨z, .refl _, Ed (xs := [_, _]) hres1 hz⟩)) rfl
      · skip
        have hnx : BV (y.drop at_) = none := Fq hb8 hn (by rw [hd8, hs]) hc0 hc1 hc2 hc3 (fun h => h1_ (by rw [h.2.1]))
        rw [CL hnx] at hI2
        have hres1 : L.map (·.2) = ps := by have := congrArg Prod.fst hI2; rw [hr] at this; simpa using this.symm
        have hres2 : (at_ : Int) = (k : Int) := by have := congrArg Prod.snd hI2; rw [hr] at this; simp at this; omega
        refine Ad ?_
        refine Af As rfl ?_
        refine Ac rfl (.int .i64 ((at_ + 4 : Nat) : Int)) (fun b w hb hH => AK rfl rfl rfl rfl (by rw [IntWalk.i64_in _ (by omega)]; omega) hb) ?_
        refine Ac rfl (Cc (.slice A y.length c) ((at_ + 4) * 1)) (fun b w hb hH => BA EI ((hH.rd8 1 rfl hX).rd) AC (j := (at_ + 4)) ha4 rfl rfl rfl hb) ?_
        refine Ac rfl (.int .u8 ((a4).toNat : Int)) (fun b w hb hH => Bp EI (by decide) ((hH.rd8 1 rfl hX).rd) (j := (at_ + 4)) ha4 BU (off := 0) rfl rfl rfl hb) ?_
        refine Af As rfl ?_
        refine Ac rfl (.int .u8 (c0.toNat : Int)) (fun b w hb hH => AO Tryz.underlying91 Tryz.underlying5 (hw0) rfl rfl hb) ?_
        refine Ac rfl (.bool false) (fun b w hb hH => Bh rfl rfl rfl (AU (by omega)) hb) ?_
        refine Af As rfl ?_
        refine Ac rfl (.int .i64 ((at_ + 5 : Nat) : Int)) (fun b w hb hH => AK rfl rfl rfl rfl (by rw [IntWalk.i64_in _ (by omega)]; omega) hb) ?_
        refine Ac rfl (Cc (.slice A y.length c) ((at_ + 5) * 1)) (fun b w hb hH => BA EI ((hH.rd8 1 rfl hX).rd) AC (j := (at_ + 5)) ha5 rfl rfl rfl hb) ?_
        refine Ac rfl (.int .u8 ((a5).toNat : Int)) (fun b w hb hH => Bp EI (by decide) ((hH.rd8 1 rfl hX).rd) (j := (at_ + 5)) ha5 BU (off := 0) rfl rfl rfl hb) ?_
        refine Af As rfl ?_
        refine Ac rfl (.int .u32 ((s / 256 : Nat) : Int)) (fun b w hb hH => B4 (s := 8) (by decide) (by omega) rfl rfl rfl hb) ?_
        refine Ac rfl (.int .u8 (c1.toNat : Int)) (fun b w hb hH => AO Tryz.underlying91 Tryz.underlying5 (hw1) rfl rfl hb) ?_
        refine Ac rfl (.bool true) (fun b w hb hH => Bh rfl rfl rfl (BY (by omega)) hb) ?_
        refine Af As rfl ?_
        refine Ab (AD rfl (Ad ?_))
        refine Af As rfl ?_
        refine Ab (Az (CO (Bm (CO (Bm (CO ?_))))))
        exact BX (.tmp rfl) (.tmp rfl) (fun w h => AB (X := PsV) ⟨pv, L⟩ (by rw [hres2]) [1, 0] rfl h (fun z hz => ⟨z, .refl _, Ed (xs := [_, _]) hres1 hz⟩)) rfl
      · skip
        have hnx : BV (y.drop at_) = none := Fq hb8 hn (by rw [hd8, hs]) hc0 hc1 hc2 hc3 (fun h => h2_ (by rw [h.2.2.1]))
        rw [CL hnx] at hI2
        have hres1 : L.map (·.2) = ps := by have := congrArg Prod.fst hI2; rw [hr] at this; simpa using this.symm
        have hres2 : (at_ : Int) = (k : Int) := by have := congrArg Prod.snd hI2; rw [hr] at this; simp at this; omega
        refine Ad ?_
        refine Af As rfl ?_
        refine Ac rfl (.int .i64 ((at_ + 4 : Nat) : Int)) (fun b w hb hH => AK rfl rfl rfl rfl (by rw [IntWalk.i64_in _ (by omega)]; omega) hb) ?_
        refine Ac rfl (Cc (.slice A y.length c) ((at_ + 4) * 1)) (fun b w hb hH => BA EI ((hH.rd8 1 rfl hX).rd) AC (j := (at_ + 4)) ha4 rfl rfl rfl hb) ?_
        refine Ac rfl (.int .u8 ((a4).toNat : Int)) (fun b w hb hH => Bp EI (by decide) ((hH.rd8 1 rfl hX).rd) (j := (at_ + 4)) ha4 BU (off := 0) rfl rfl rfl hb) ?_
        refine Af As rfl ?_
        refine Ac rfl (.int .u8 (c0.toNat : Int)) (fun b w hb hH => AO Tryz.underlying91 Tryz.underlying5 (hw0) rfl rfl hb) ?_
        refine Ac rfl (.bool false) (fun b w hb hH => Bh rfl rfl rfl (AU (by omega)) hb) ?_
        refine Af As rfl ?_
        refine Ac rfl (.int .i64 ((at_ + 5 : Nat) : Int)) (fun b w hb hH => AK rfl rfl rfl rfl (by rw [IntWalk.i64_in _ (by omega)]; omega) hb) ?_
        refine Ac rfl (Cc (.slice A y.length c) ((at_ + 5) * 1)) (fun b w hb hH => BA EI ((hH.rd8 1 rfl hX).rd) AC (j := (at_ + 5)) ha5 rfl rfl rfl hb) ?_
        refine Ac rfl (.int .u8 ((a5).toNat : Int)) (fun b w hb hH => Bp EI (by decide) ((hH.rd8 1 rfl hX).rd) (j := (at_ + 5)) ha5 BU (off := 0) rfl rfl rfl hb) ?_
        refine Af As rfl ?_
        refine Ac rfl (.int .u32 ((s / 256 : Nat) : Int)) (fun b w hb hH => B4 (s := 8) (by decide) (by omega) rfl rfl rfl hb) ?_
        refine Ac rfl (.int .u8 (c1.toNat : Int)) (fun b w hb hH => AO Tryz.underlying91 Tryz.underlying5 (hw1) rfl rfl hb) ?_
        refine Ac rfl (.bool false) (fun b w hb hH => Bh rfl rfl rfl (AU (by omega)) hb) ?_
        refine Af As rfl ?_
        refine Ac rfl (.int .i64 ((at_ + 6 : Nat) : Int)) (fun b w hb hH => AK rfl rfl rfl rfl (by rw [IntWalk.i64_in _ (by omega)]; omega) hb) ?_
        refine Ac rfl (Cc (.slice A y.length c) ((at_ + 6) * 1)) (fun b w hb hH => BA EI ((hH.rd8 1 rfl hX).rd) AC (j := (at_ + 6)) ha6 rfl rfl rfl hb) ?_
        refine Ac rfl (.int .u8 ((a6).toNat : Int)) (fun b w hb hH => Bp EI (by decide) ((hH.rd8 1 rfl hX).rd) (j := (at_ + 6)) ha6 BU (off := 0) rfl rfl rfl hb) ?_
        refine Af As rfl ?_
        refine Ac rfl (.int .u32 ((s / 65536 : Nat) : Int)) (fun b w hb hH => B4 (s := 16) (by decide) (by omega) rfl rfl rfl hb) ?_
        refine Ac rfl (.int .u8 (c2.toNat : Int)) (fun b w hb hH => AO Tryz.underlying91 Tryz.underlying5 (hw2) rfl rfl hb) ?_
        refine Ac rfl (.bool true) (fun b w hb hH => Bh rfl rfl rfl (BY (by omega)) hb) ?_
        refine Af As rfl ?_
        refine Ab (AD rfl (Ad ?_))
        refine Af As rfl ?_
        refine Ab (Az (CO (Bm (CO (Bm (CO ?_))))))
        exact BX (.tmp rfl) (.tmp rfl) (fun w h => AB (X := PsV) ⟨pv, L⟩ (by rw [hres2]) [1, 0] rfl h (fun z hz => ⟨z, .refl _, Ed (xs := [_, _]) hres1 hz⟩)) rfl
      · skip
        have hnx : BV (y.drop at_) = none := Fq hb8 hn (by rw [hd8, hs]) hc0 hc1 hc2 hc3 (fun h => h3_ (by rw [h.2.2.2]))
        rw [CL hnx] at hI2
        have hres1 : L.map (·.2) = ps := by have := congrArg Prod.fst hI2; rw [hr] at this; simpa using this.symm
        have hres2 : (at_ : Int) = (k : Int) := by have := congrArg Prod.snd hI2; rw [hr] at this; simp at this; omega
        refine Ad ?_
        refine Af As rfl ?_
        refine Ac rfl (.int .i64 ((at_ + 4 : Nat) : Int)) (fun b w hb hH => AK rfl rfl rfl rfl (by rw [IntWalk.i64_in _ (by omega)]; omega) hb) ?_
        refine Ac rfl (Cc (.slice A y.length c) ((at_ + 4) * 1)) (fun b w hb hH => BA EI ((hH.rd8 1 rfl hX).rd) AC (j := (at_ + 4)) ha4 rfl rfl rfl hb) ?_
        refine Ac rfl (.int .u8 ((a4).toNat : Int)) (fun b w hb hH => Bp EI (by decide) ((hH.rd8 1 rfl hX).rd) (j := (at_ + 4)) ha4 BU (off := 0) rfl rfl rfl hb) ?_
        refine Af As rfl ?_
        refine Ac rfl (.int .u8 (c0.toNat : Int)) (fun b w hb hH => AO Tryz.underlying91 Tryz.underlying5 (hw0) rfl rfl hb) ?_
        refine Ac rfl (.bool false) (fun b w hb hH => Bh rfl rfl rfl (AU (by omega)) hb) ?_
        refine Af As rfl ?_
        refine Ac rfl (.int .i64 ((at_ + 5 : Nat) : Int)) (fun b w hb hH => AK rfl rfl rfl rfl (by rw [IntWalk.i64_in _ (by omega)]; omega) hb) ?_
        refine Ac rfl (Cc (.slice A y.length c) ((at_ + 5) * 1)) (fun b w hb hH => BA EI ((hH.rd8 1 rfl hX).rd) AC (j := (at_ + 5)) ha5 rfl rfl rfl hb) ?_
        refine Ac rfl (.int .u8 ((a5).toNat : Int)) (fun b w hb hH => Bp EI (by decide) ((hH.rd8 1 rfl hX).rd) (j := (at_ + 5)) ha5 BU (off := 0) rfl rfl rfl hb) ?_
        refine Af As rfl ?_
        refine Ac rfl (.int .u32 ((s / 256 : Nat) : Int)) (fun b w hb hH => B4 (s := 8) (by decide) (by omega) rfl rfl rfl hb) ?_
        refine Ac rfl (.int .u8 (c1.toNat : Int)) (fun b w hb hH => AO Tryz.underlying91 Tryz.underlying5 (hw1) rfl rfl hb) ?_
        refine Ac rfl (.bool false) (fun b w hb hH => Bh rfl rfl rfl (AU (by omega)) hb) ?_
        refine Af As rfl ?_
        refine Ac rfl (.int .i64 ((at_ + 6 : Nat) : Int)) (fun b w hb hH => AK rfl rfl rfl rfl (by rw [IntWalk.i64_in _ (by omega)]; omega) hb) ?_
        refine Ac rfl (Cc (.slice A y.length c) ((at_ + 6) * 1)) (fun b w hb hH => BA EI ((hH.rd8 1 rfl hX).rd) AC (j := (at_ + 6)) ha6 rfl rfl rfl hb) ?_
        refine Ac rfl (.int .u8 ((a6).toNat : Int)) (fun b w hb hH => Bp EI (by decide) ((hH.rd8 1 rfl hX).rd) (j := (at_ + 6)) ha6 BU (off := 0) rfl rfl rfl hb) ?_
        refine Af As rfl ?_
        refine Ac rfl (.int .u32 ((s / 65536 : Nat) : Int)) (fun b w hb hH => B4 (s := 16) (by decide) (by omega) rfl rfl rfl hb) ?_
        refine Ac rfl (.int .u8 (c2.toNat : Int)) (fun b w hb hH => AO Tryz.underlying91 Tryz.underlying5 (hw2) rfl rfl hb) ?_
        refine Ac rfl (.bool false) (fun b w hb hH => Bh rfl rfl rfl (AU (by omega)) hb) ?_
        refine Af As rfl ?_
        refine Ac rfl (.int .i64 ((at_ + 7 : Nat) : Int)) (fun b w hb hH => AK rfl rfl rfl rfl (by rw [IntWalk.i64_in _ (by omega)]; omega) hb) ?_
        refine Ac rfl (Cc (.slice A y.length c) ((at_ + 7) * 1)) (fun b w hb hH => BA EI ((hH.rd8 1 rfl hX).rd) AC (j := (at_ + 7)) ha7 rfl rfl rfl hb) ?_
        refine Ac rfl (.int .u8 ((a7).toNat : Int)) (fun b w hb hH => Bp EI (by decide) ((hH.rd8 1 rfl hX).rd) (j := (at_ + 7)) ha7 BU (off := 0) rfl rfl rfl hb) ?_
        refine Af As rfl ?_
        refine Ac rfl (.int .u32 ((s / 16777216 : Nat) : Int)) (fun b w hb hH => B4 (s := 24) (by decide) (by omega) rfl rfl rfl hb) ?_
        refine Ac rfl (.int .u8 (c3.toNat : Int)) (fun b w hb hH => AO Tryz.underlying91 Tryz.underlying5 (hw3) rfl rfl hb) ?_
        refine Ac rfl (.bool true) (fun b w hb hH => Bh rfl rfl rfl (BY (by omega)) hb) ?_
        refine Af As rfl ?_
        refine Ab (AD rfl (Ad ?_))
        refine Af As rfl ?_
        refine Ab (Az (CO (Bm (CO (Bm (CO ?_))))))
        exact BX (.tmp rfl) (.tmp rfl) (fun w h => AB (X := PsV) ⟨pv, L⟩ (by rw [hres2]) [1, 0] rfl h (fun z hz => ⟨z, .refl _, Ed (xs := [_, _]) hres1 hz⟩)) rfl
      · skip
        have hnx : BV (y.drop at_) = some x := Rm hb8 hn hn1 hd8 (by rw [List.length_drop]; omega) (by rw [hs]) hc0 hc1 hc2 hc3 ⟨by omega, by omega, by omega, by omega⟩
        have hI2_ := hI2
        rw [F4 hnx] at hI2_
        have hdd : (y.drop at_).drop (8 + x.length) = y.drop (at_ + 8 + n) := by rw [List.drop_drop, hxl, show at_ + (8 + n) = at_ + 8 + n by omega]
        rw [hdd] at hI2_
        refine Ad ?_
        refine Af As rfl ?_
        refine Ac rfl (.int .i64 ((at_ + 4 : Nat) : Int)) (fun b w hb hH => AK rfl rfl rfl rfl (by rw [IntWalk.i64_in _ (by omega)]; omega) hb) ?_
        refine Ac rfl (Cc (.slice A y.length c) ((at_ + 4) * 1)) (fun b w hb hH => BA EI ((hH.rd8 1 rfl hX).rd) AC (j := (at_ + 4)) ha4 rfl rfl rfl hb) ?_
        refine Ac rfl (.int .u8 ((a4).toNat : Int)) (fun b w hb hH => Bp EI (by decide) ((hH.rd8 1 rfl hX).rd) (j := (at_ + 4)) ha4 BU (off := 0) rfl rfl rfl hb) ?_
        refine Af As rfl ?_
        refine Ac rfl (.int .u8 (c0.toNat : Int)) (fun b w hb hH => AO Tryz.underlying91 Tryz.underlying5 (hw0) rfl rfl hb) ?_
        refine Ac rfl (.bool false) (fun b w hb hH => Bh rfl rfl rfl (AU (by omega)) hb) ?_
        refine Af As rfl ?_
        refine Ac rfl (.int .i64 ((at_ + 5 : Nat) : Int)) (fun b w hb hH => AK rfl rfl rfl rfl (by rw [IntWalk.i64_in _ (by omega)]; omega) hb) ?_
        refine Ac rfl (Cc (.slice A y.length c) ((at_ + 5) * 1)) (fun b w hb hH => BA EI ((hH.rd8 1 rfl hX).rd) AC (j := (at_ + 5)) ha5 rfl rfl rfl hb) ?_
        refine Ac rfl (.int .u8 ((a5).toNat : Int)) (fun b w hb hH => Bp EI (by decide) ((hH.rd8 1 rfl hX).rd) (j := (at_ + 5)) ha5 BU (off := 0) rfl rfl rfl hb) ?_
        refine Af As rfl ?_
        refine Ac rfl (.int .u32 ((s / 256 : Nat) : Int)) (fun b w hb hH => B4 (s := 8) (by decide) (by omega) rfl rfl rfl hb) ?_
        refine Ac rfl (.int .u8 (c1.toNat : Int)) (fun b w hb hH => AO Tryz.underlying91 Tryz.underlying5 (hw1) rfl rfl hb) ?_
        refine Ac rfl (.bool false) (fun b w hb hH => Bh rfl rfl rfl (AU (by omega)) hb) ?_
        refine Af As rfl ?_
        refine Ac rfl (.int .i64 ((at_ + 6 : Nat) : Int)) (fun b w hb hH => AK rfl rfl rfl rfl (by rw [IntWalk.i64_in _ (by omega)]; omega) hb) ?_
        refine Ac rfl (Cc (.slice A y.length c) ((at_ + 6) * 1)) (fun b w hb hH => BA EI ((hH.rd8 1 rfl hX).rd) AC (j := (at_ + 6)) ha6 rfl rfl rfl hb) ?_
        refine Ac rfl (.int .u8 ((a6).toNat : Int)) (fun b w hb hH => Bp EI (by decide) ((hH.rd8 1 rfl hX).rd) (j := (at_ + 6)) ha6 BU (off := 0) rfl rfl rfl hb) ?_
        refine Af As rfl ?_
        refine Ac rfl (.int .u32 ((s / 65536 : Nat) : Int)) (fun b w hb hH => B4 (s := 16) (by decide) (by omega) rfl rfl rfl hb) ?_
        refine Ac rfl (.int .u8 (c2.toNat : Int)) (fun b w hb hH => AO Tryz.underlying91 Tryz.underlying5 (hw2) rfl rfl hb) ?_
        refine Ac rfl (.bool false) (fun b w hb hH => Bh rfl rfl rfl (AU (by omega)) hb) ?_
        refine Af As rfl ?_
        refine Ac rfl (.int .i64 ((at_ + 7 : Nat) : Int)) (fun b w hb hH => AK rfl rfl rfl rfl (by rw [IntWalk.i64_in _ (by omega)]; omega) hb) ?_
        refine Ac rfl (Cc (.slice A y.length c) ((at_ + 7) * 1)) (fun b w hb hH => BA EI ((hH.rd8 1 rfl hX).rd) AC (j := (at_ + 7)) ha7 rfl rfl rfl hb) ?_
        refine Ac rfl (.int .u8 ((a7).toNat : Int)) (fun b w hb hH => Bp EI (by decide) ((hH.rd8 1 rfl hX).rd) (j := (at_ + 7)) ha7 BU (off := 0) rfl rfl rfl hb) ?_
        refine Af As rfl ?_
        refine Ac rfl (.int .u32 ((s / 16777216 : Nat) : Int)) (fun b w hb hH => B4 (s := 24) (by decide) (by omega) rfl rfl rfl hb) ?_
        refine Ac rfl (.int .u8 (c3.toNat : Int)) (fun b w hb hH => AO Tryz.underlying91 Tryz.underlying5 (hw3) rfl rfl hb) ?_
        refine Ac rfl (.bool false) (fun b w hb hH => Bh rfl rfl rfl (AU (by omega)) hb) ?_
        refine Af As rfl ?_
        refine Ab (Au rfl (Ax (AG ?_)))
        refine AY 0 rfl QZ (fun _ => rfl) ?_; rintro ⟨⟩
        refine Ad ?_
        refine Af As rfl ?_
        refine Ai (X := Value) (val := fun v : Value => v) (post := fun d0 => [Ao 5 1 encB d0 ([]), Ao 48 1 encW pv (L.map (·.1)), DE (fun x : PtT => Ao 5 1 encB x.1 x.2) L, X]) rfl (by refine D7 (e := 5) (t := 48) (k := 1) (enc := encB) ?_ ?_; exact AC; exact rfl) ?_; rintro d0
        refine Af As rfl ?_
        refine Ai (post := fun d1 => [Ao 5 1 encB d1 x, Ao 48 1 encW pv (L.map (·.1)), DE (fun x : PtT => Ao 5 1 encB x.1 x.2) L, X]) rfl (Ca 0 AC (by kernel_rfl) rfl (x) (fun w hH => (hH.rd8 3 rfl hX3).rd) (by simp only [List.length_nil]; omega) rfl rfl rfl (List.nil_append _)) ?_; rintro d1
        refine Ai (X := Value) (val := fun v : Value => v) (post := fun b1 => [Ao 48 1 encW b1 ([d1]), Ao 5 1 encB d1 x, Ao 48 1 encW pv (L.map (·.1)), DE (fun x : PtT => Ao 5 1 encB x.1 x.2) L, X]) rfl (by exact Sl 0 Fc rfl rfl rfl) ?_; rintro b1
        refine Ai (post := fun p1 => [Ao 48 1 encW b1 ([d1]), Ao 5 1 encB d1 x, Ao 48 1 encW p1 (L.map (·.1) ++ [d1]), DE (fun x : PtT => Ao 5 1 encB x.1 x.2) L, X]) rfl (DK 2 Fc VE rfl ([d1]) (fun w hH => hH.vec 0 rfl VE) (by simp only [List.length_map, List.length_cons, List.length_nil]; omega) rfl rfl rfl rfl) ?_; rintro p1
        refine Af As rfl ?_
        refine Ab ?_
        refine Bo.leave [0] rfl rfl ?_
        refine Bf [1, 2, 0] rfl Q0 rfl ?_
        refine BI ?_
        refine Af As rfl ?_
        refine Ac rfl (.int .i64 ((at_ + 8 : Nat) : Int)) (fun b w hb hH => AK rfl rfl rfl rfl (by rw [IntWalk.i64_in _ (by omega)]; omega) hb) ?_
        refine Af As rfl ?_
        refine Ac rfl (.int .i64 ((at_ + 8 + n : Nat) : Int)) (fun b w hb hH => AK rfl rfl rfl rfl (by rw [IntWalk.i64_in _ (by omega)]; omega) hb) ?_
        refine Af As rfl ?_
        refine AP (BJ ?_)
        exact Cr (at_ + 8 + n, L ++ [(d1, x)], p1) 0 ⟨by omega, by rw [List.map_append]; exact SY hI2_ hxl, by rw [List.length_append]; simp only [List.length_cons, List.length_nil]; omega⟩ (show y.length - (at_ + 8 + n) < y.length - at_ by omega) ⟨rfl, rfl, rfl, rfl, rfl, trivial⟩ rfl
end Go.Proofs.YtnknboibmifacaaGreat.Sep
