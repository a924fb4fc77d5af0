/-
  CmdR · CmdL · CmdO · CmdP · CmdQ · CmdE · CmdF · CmdG · CmdN · CmdI · Crc · Sum · Seal · RefSum · RefText · Reader · Mk · RpcM · RpcN · RpcF
-/
import Derived.Test.YtjcfimmcogkopaaGreatDoorWA06
import Derived.Test.YtjcfimmcogkopaaGreatDoorWA07
import Derived.Test.YtjcfimmcogkopaaGreatDoorWB01
import Derived.Test.YtjcfimmcogkopaaGreatDoorWB02
import Derived.Lib.SmallJoins
import Derived.ChangeMaps5
import Derived.SizedLaws
import Derived.Deep.QuietTactic
import Derived.BigQuiet
import Derived.Deep.RegionHeld3
set_option linter.unusedSimpArgs false
set_option linter.unusedVariables false
set_option maxRecDepth 100000
namespace Go.Proofs.YtjcfimmcogkopaaGreatDoor.Sep
open Go.RowKit
open Go.Proofs.YtjcfimmcogkopaaGreatDoor.Mem (Bb Ci Chg Aw)
theorem P6 {most f : Nat} {l : List UInt8} (h : f ≠ 0) : Bv most l f = (0, l, f) := Ow h
theorem Sq {most f : Nat} {l : List UInt8} (hf : f = 0) (h : l.length = 0) : Bv most l f = (0, l, 10) := by
 subst hf
 rw [List.eq_nil_of_length_eq_zero h]; rfl
theorem Sr {most f : Nat} {l : List UInt8} {x : UInt8} (hf : f = 0) (hx : l[0]? = some x) (h : most < x.toNat) : Bv most l f = (0, l, 12) := by
  subst hf
  cases l with
  | nil => simp at hx
  | cons b r =>
    simp only [List.getElem?_cons_zero, Option.some.injEq] at hx
    subst hx
    simp only [Bv]
    rw [if_neg (by simp), if_pos h]
theorem P7 {most f : Nat} {l : List UInt8} {x : UInt8} (hf : f = 0) (hx : l[0]? = some x) (h : ¬ most < x.toNat) : Bv most l f = (x.toNat, l.drop 1, f) := by
  subst hf
  cases l with
  | nil => simp at hx
  | cons b r =>
    simp only [List.getElem?_cons_zero, Option.some.injEq] at hx
    subst hx
    simp only [Bv]
    rw [if_neg (by simp), if_neg h]; rfl
theorem Rq (most : Nat) (l : List UInt8) : (Cd most l 0 0).2.1 ≤ l.length := by
 rcases Ii most l 0 0 (by omega) (by decide) with h | h <;> omega
section
variable {P : Program} {n : Nat} {B : Nat → Prop} {w0 w : World} {os : List Ass} {env : List (Nat × Value)} {o : Oper} {a : Act}
end
theorem W8 (u : World) (v : Value) (l : List UInt8) (hv : Ew u v l) (hl : l.length ≤ 140737488355328) : ER u Tryz.prog 147 #[v] [] (fun (g : Nat) => .pointer (some ⟨g, 0, none⟩)) (fun (g : Nat) => [Ef g l 0]) := by
 refine J4 (args := [v]) 7 Tryz.func147 rfl rfl rfl ?_; intro w rs hU hS
 refine Ad (Af Ak rfl (Ab (Ad (Af Ak rfl (Al (post := fun v2 => [Aj 5 1 encB v2 l]) rfl (Ny hU hS (os' := fun v2 => [Aj 5 1 encB v2 l]) [] 0 (Ai Tryz.func78 (by kernel_rfl) rfl) (Vu u hv hl) rfl rfl rfl (fun _ => rfl) rfl rfl rfl) ?_))))); rintro v2
 refine BU.fact 0 rfl (fun _ h => Aj.is h) ?_; rintro ⟨A, c, rfl⟩
 refine Aa rfl (.agg #[.slice A l.length c, .int .i64 0]) (fun b w hb hH => BA rfl rfl (by kernel_rfl) hb) (Al (post := fun g1 => [cell g1 221 #[.slice A l.length c, .int .i64 0], Aj 5 1 encB (.slice A l.length c) l]) rfl (CW (cs := #[.slice A l.length c, .int .i64 0]) rfl rfl rfl) ?_); rintro g1
 refine Af Ak rfl (Ab (AB ?_))
 exact AA (.tmp rfl) (fun w h => AH g1 rfl [0, 1] rfl h (fun z hz => ⟨z, .refl _, Am.one (Ef.mk_ rfl D7 hl z hz)⟩)) rfl
theorem Rr (g : Nat) (l : List UInt8) (f most : Nat) (hm : most < 256) (R : Nat × List UInt8 × Nat) (h : Bv most l f = R) : AV Tryz.prog 148 #[.pointer (some ⟨g, 0, none⟩), .int .u8 (most : Int)] [Ef g l f] (fun (_ : Unit) => .int .u8 (R.1 : Int)) (fun (_ : Unit) => [Ef g R.2.1 R.2.2]) := by
  refine Bo (args := [.pointer (some ⟨g, 0, none⟩), .int .u8 (most : Int)]) 41 Tryz.func148 rfl rfl rfl ?_; intro w rs
  refine AX 0 rfl Ef.open_ (fun _ => rfl) ?_; rintro ⟨⟨X, A, c⟩, hR, hL⟩
  refine AL.keep (env' := [(0, .pointer (some ⟨g, 0, none⟩)), (1, .int .u8 (most : Int))]) ⟨rfl, rfl, trivial⟩ (AL.mid [cell g 221 #[.slice A l.length c, .int .i64 (f : Int)], X] (.refl _) (Ad (Af Ak rfl (Ab (Ar ?_)))))
  by_cases hf : f = 0
  refine Ad (Af Ak rfl (Aa rfl (.pointer (some ⟨g, 0, none⟩)) (fun b w hb hH => by exact B4 rfl rfl hb) (Af Ak rfl (Aa rfl (.int .i64 (f : Int)) (fun b w hb hH => Ba rfl rfl (Bl BR rfl) (hH.row 0 rfl) hb) (Aa rfl (.bool false) (fun b w hb hH => A5 rfl rfl rfl (Bn (by omega)) hb) (Ab (Au rfl (Av (AC (Ar ?_))))))))))
  rcases Nat.eq_zero_or_pos l.length with h0 | h0
  obtain rfl : R = (0, l, 10) := h.symm.trans (Sq hf h0)
  refine Ad (Af Ak rfl (Aa rfl (.pointer (some ⟨g, 0, none⟩)) (fun b w hb hH => by exact B4 rfl rfl hb) (Af Ak rfl (Aa rfl (.slice A l.length c) (fun b w hb hH => Ba rfl rfl (Bl CI rfl) (hH.row 0 rfl) hb) (Aa rfl (.int .i64 (l.length : Int)) (fun b w hb hH => Fd Bh rfl rfl hH hb) (Aa rfl (.bool true) (fun b w hb hH => A5 rfl rfl rfl (Fw (by omega)) hb) (Ab (AE rfl (Ad (Af Ak rfl (Aa rfl (.pointer (some ⟨g, 0, none⟩)) (fun b w hb hH => by exact B4 rfl rfl hb) ?_)))))))))))
  refine Af Ak rfl (AR (post := fun _ => [cell g 221 #[.slice A l.length c, .int .i64 10], X]) rfl rfl (AZ 0 (v := .int .i64 10) #[.slice A l.length c, .int .i64 10] BR.2 rfl rfl rfl rfl rfl rfl rfl rfl rfl) ?_); rintro ⟨⟩
  refine Ab (Ad (Af Ak rfl (Ab (AB (Ek ?_)))))
  exact AA (.tmp rfl) (fun w h => AH () rfl [0, 1] rfl h (fun z hz => ⟨z, .refl _, Am.one (Ef.mk_ rfl hR hL z hz)⟩)) rfl
  obtain ⟨x, hx⟩ : ∃ x, l[0]? = some x := ⟨_, List.getElem?_eq_getElem h0⟩
  refine Ad (Af Ak rfl (Aa rfl (.pointer (some ⟨g, 0, none⟩)) (fun b w hb hH => by exact B4 rfl rfl hb) (Af Ak rfl (Aa rfl (.slice A l.length c) (fun b w hb hH => Ba rfl rfl (Bl CI rfl) (hH.row 0 rfl) hb) (Aa rfl (.int .i64 (l.length : Int)) (fun b w hb hH => Fd Bh rfl rfl hH hb) (Aa rfl (.bool false) (fun b w hb hH => A5 rfl rfl rfl (EM (by omega)) hb) (Ab (Au rfl (Av (AC (Ad (Af Ak rfl (Aa rfl (.pointer (some ⟨g, 0, none⟩)) (fun b w hb hH => by exact B4 rfl rfl hb) ?_)))))))))))))
  refine Af Ak rfl (Aa rfl (.slice A l.length c) (fun b w hb hH => Ba rfl rfl (Bl CI rfl) (hH.row 0 rfl) hb) (Aa rfl (TA (.slice A l.length c) (0 * 1)) (fun b w hb hH => WX 1 hR.rd Bh rfl 0 h0 rfl rfl rfl hH hb) (Aa rfl (.int .u8 ((x).toNat : Int)) (fun b w hb hH => TC 1 hR.rd DZ PD rfl 0 (a := x) hx rfl rfl rfl hH hb) (Af Ak rfl (Ab (Ar ?_))))))
  by_cases hb : most < x.toNat
  obtain rfl : R = (0, l, 12) := h.symm.trans (Sr hf hx hb)
  refine Ad (Af Ak rfl (Aa rfl (.bool true) (fun b w hb hH => A5 rfl rfl rfl (BD (by omega)) hb) (Ab (AE rfl (Ad (Af Ak rfl (Aa rfl (.pointer (some ⟨g, 0, none⟩)) (fun b w hb hH => by exact B4 rfl rfl hb) (Af Ak rfl (AR (post := fun _ => [cell g 221 #[.slice A l.length c, .int .i64 12], X]) rfl rfl (AZ 0 (v := .int .i64 12) #[.slice A l.length c, .int .i64 12] BR.2 rfl rfl rfl rfl rfl rfl rfl rfl rfl) ?_))))))))); rintro ⟨⟩
  refine Ab (Ad (Af Ak rfl (Ab (AB (Ek ?_)))))
  exact AA (.tmp rfl) (fun w h => AH () rfl [0, 1] rfl h (fun z hz => ⟨z, .refl _, Am.one (Ef.mk_ rfl hR hL z hz)⟩)) rfl
  obtain ⟨A2, hA2⟩ : ∃ A2, (if c = 1 then A else A.map (·.add 1)) = A2 := ⟨_, rfl⟩
  obtain ⟨l2, hl2⟩ : ∃ l2, l.drop 1 = l2 := ⟨_, rfl⟩
  have hR2 : EN X (.slice A2 l2.length (c - 1)) l2 := by rw [← hA2, ← hl2]; exact hR.drop (by omega)
  have hn2 : l2.length = l.length - 1 := by rw [← hl2, List.length_drop]
  have hL2 : l2.length ≤ 140737488355328 := by omega
  have hsub : Cu 1 (.slice A l.length c) 1 l.length = .slice A2 l2.length (c - 1) := by rw [← hA2]; exact Lz (by omega) (by omega)
  obtain rfl : R = (x.toNat, l2, f) := by rw [← h, ← hl2]; exact P7 hf hx hb
  refine Ad (Af Ak rfl (Aa rfl (.bool false) (fun b w hb hH => A5 rfl rfl rfl (By (by omega)) hb) (Ab (Au rfl (Av (AC (Ad (Af Ak rfl (Aa rfl (.pointer (some ⟨g, 0, none⟩)) (fun b w hb hH => by exact B4 rfl rfl hb) (Af Ak rfl (Aa rfl (.slice A l.length c) (fun b w hb hH => Ba rfl rfl (Bl CI rfl) (hH.row 0 rfl) hb) (Aa rfl (.slice A2 l2.length (c - 1)) (fun b w hb hH => FP (i := 1) Bh hsub h0 rfl rfl rfl hH hb) (Aa rfl (.pointer (some ⟨g, 0, none⟩)) (fun b w hb hH => by exact B4 rfl rfl hb) ?_)))))))))))))
  refine Af Ak rfl (AR (post := fun _ => [cell g 221 #[.slice A2 l2.length (c - 1), .int .i64 (f : Int)], X]) rfl rfl (AZ 0 (v := .slice A2 l2.length (c - 1)) #[.slice A2 l2.length (c - 1), .int .i64 (f : Int)] CI.2 rfl rfl rfl rfl rfl rfl rfl rfl rfl) ?_); rintro ⟨⟩
  refine Ab (Ad (Af Ak rfl (Ab (AB ?_))))
  exact AA (.tmp rfl) (fun w h => AH () rfl [0, 1] rfl h (fun z hz => ⟨z, .refl _, Am.one (Ef.mk_ rfl hR2 hL2 z hz)⟩)) rfl
  obtain rfl : R = (0, l, f) := h.symm.trans (P6 hf)
  refine Ad (Af Ak rfl (Aa rfl (.pointer (some ⟨g, 0, none⟩)) (fun b w hb hH => by exact B4 rfl rfl hb) (Af Ak rfl (Aa rfl (.int .i64 (f : Int)) (fun b w hb hH => Ba rfl rfl (Bl BR rfl) (hH.row 0 rfl) hb) (Aa rfl (.bool true) (fun b w hb hH => A5 rfl rfl rfl (Eu (by omega)) hb) (Ab (AE rfl (Ad (Af Ak rfl (Ab (AB (Ek ?_))))))))))))
  exact AA (.tmp rfl) (fun w h => AH () rfl [0, 1] rfl h (fun z hz => ⟨z, .refl _, Am.one (Ef.mk_ rfl hR hL z hz)⟩)) rfl
theorem TZ (g : Nat) (l : List UInt8) (f most : Nat) (hm : most < 18446744073709551616) (R : Nat × List UInt8 × Nat) (h : CN most l f = R) : AV Tryz.prog 149 #[.pointer (some ⟨g, 0, none⟩), .int .u64 (most : Int)] [Ef g l f] (fun (_ : Unit) => .int .u64 (R.1 : Int)) (fun (_ : Unit) => [Ef g R.2.1 R.2.2]) := by
  refine Bo (args := [.pointer (some ⟨g, 0, none⟩), .int .u64 (most : Int)]) 37 Tryz.func149 rfl rfl rfl ?_; intro w rs
  refine AX 0 rfl Ef.open_ (fun _ => rfl) ?_; rintro ⟨⟨X, A, c⟩, hR, hL⟩
  refine AL.keep (env' := [(0, .pointer (some ⟨g, 0, none⟩)), (1, .int .u64 (most : Int))]) ⟨rfl, rfl, trivial⟩ (AL.mid [cell g 221 #[.slice A l.length c, .int .i64 (f : Int)], X] (.refl _) (Ad (Af Ak rfl (Ab (Ar ?_)))))
  by_cases hf : f = 0
  have hz := Rq most l
  obtain ⟨⟨n, sz, e2⟩, hv⟩ : ∃ R, Cd most l 0 0 = R := ⟨_, rfl⟩
  rw [hv] at hz
  simp only at hz
  obtain ⟨A2, hA2⟩ : ∃ A2, (if c = sz then A else A.map (·.add sz)) = A2 := ⟨_, rfl⟩
  obtain ⟨l2, hl2⟩ : ∃ l2, l.drop sz = l2 := ⟨_, rfl⟩
  have hR2 : EN X (.slice A2 l2.length (c - sz)) l2 := by rw [← hA2, ← hl2]; exact hR.drop (by omega)
  have hn2 : l2.length = l.length - sz := by rw [← hl2, List.length_drop]
  have hL2 : l2.length ≤ 140737488355328 := by omega
  have hsub : Cu 1 (.slice A l.length c) sz l.length = .slice A2 l2.length (c - sz) := by rw [← hA2]; exact Lz (by omega) (by omega)
  obtain rfl : R = (n, l2, e2) := by rw [← h, ← hl2]; unfold CN; rw [if_neg (by simp [hf]), hv]
  refine Ad (Af Ak rfl (Aa rfl (.pointer (some ⟨g, 0, none⟩)) (fun b w hb hH => by exact B4 rfl rfl hb) (Af Ak rfl (Aa rfl (.int .i64 (f : Int)) (fun b w hb hH => Ba rfl rfl (Bl BR rfl) (hH.row 0 rfl) hb) (Aa rfl (.bool false) (fun b w hb hH => A5 rfl rfl rfl (Bn (by omega)) hb) (Ab (Au rfl (Av (AC (Ad (Af Ak rfl (Aa rfl (.pointer (some ⟨g, 0, none⟩)) (fun b w hb hH => by exact B4 rfl rfl hb) (Af Ak rfl ?_)))))))))))))
  refine Aa rfl (.slice A l.length c) (fun b w hb hH => Ba rfl rfl (Bl CI rfl) (hH.row 0 rfl) hb) (Af Ak rfl (Al (post := fun _ => [cell g 221 #[.slice A l.length c, .int .i64 (f : Int)], X]) rfl (Bk (Ai Tryz.func173 (by kernel_rfl) rfl) (fun w hH => Rl (hH.rd8 1 rfl hR) hL most hm (n, sz, e2) hv) rfl rfl rfl) ?_)); rintro ⟨⟩
  refine Af Ak rfl (Ab (Ad (Af Ak rfl (Aa rfl (.pointer (some ⟨g, 0, none⟩)) (fun b w hb hH => by exact B4 rfl rfl hb) (Af Ak rfl (AR (post := fun _ => [cell g 221 #[.slice A l.length c, .int .i64 (e2 : Int)], X]) rfl rfl (AZ 0 (v := .int .i64 (e2 : Int)) #[.slice A l.length c, .int .i64 (e2 : Int)] BR.2 rfl rfl rfl rfl rfl rfl rfl rfl rfl) ?_)))))); rintro ⟨⟩
  refine Ab (Ad (Af Ak rfl (Aa rfl (.pointer (some ⟨g, 0, none⟩)) (fun b w hb hH => by exact B4 rfl rfl hb) (Af Ak rfl (Aa rfl (.slice A l.length c) (fun b w hb hH => Ba rfl rfl (Bl CI rfl) (hH.row 0 rfl) hb) (Af Ak rfl (Aa rfl (.slice A2 l2.length (c - sz)) (fun b w hb hH => FP (i := sz) Bh hsub hz rfl rfl rfl hH hb) (Aa rfl (.pointer (some ⟨g, 0, none⟩)) (fun b w hb hH => by exact B4 rfl rfl hb) (Af Ak rfl (AR (post := fun _ => [cell g 221 #[.slice A2 l2.length (c - sz), .int .i64 (e2 : Int)], X]) rfl rfl (AZ 0 (v := .slice A2 l2.length (c - sz)) #[.slice A2 l2.length (c - sz), .int .i64 (e2 : Int)] CI.2 rfl rfl rfl rfl rfl rfl rfl rfl rfl) ?_)))))))))); rintro ⟨⟩
  refine Ab (Ad (Af Ak rfl (Ab (AB ?_))))
  exact AA (.tmp rfl) (fun w h => AH () rfl [0, 1] rfl h (fun z hz => ⟨z, .refl _, Am.one (Ef.mk_ rfl hR2 hL2 z hz)⟩)) rfl
  obtain rfl : R = (0, l, f) := h.symm.trans (PV hf)
  refine Ad (Af Ak rfl (Aa rfl (.pointer (some ⟨g, 0, none⟩)) (fun b w hb hH => by exact B4 rfl rfl hb) (Af Ak rfl (Aa rfl (.int .i64 (f : Int)) (fun b w hb hH => Ba rfl rfl (Bl BR rfl) (hH.row 0 rfl) hb) (Aa rfl (.bool true) (fun b w hb hH => A5 rfl rfl rfl (Eu (by omega)) hb) (Ab (AE rfl (Ad (Af Ak rfl (Ab (AB (Ek ?_))))))))))))
  exact AA (.tmp rfl) (fun w h => AH () rfl [0, 1] rfl h (fun z hz => ⟨z, .refl _, Am.one (Ef.mk_ rfl hR hL z hz)⟩)) rfl
theorem Kg (g : Nat) (l : List UInt8) (f r : Nat) (h : Fl l f = r) : AV Tryz.prog 151 #[.pointer (some ⟨g, 0, none⟩)] [Ef g l f] (fun (_ : Unit) => .int .i64 (r : Int)) (fun (_ : Unit) => [Ef g l f]) := by
 refine Bo (args := [.pointer (some ⟨g, 0, none⟩)]) 20 Tryz.func151 rfl rfl rfl ?_; intro w rs
 refine AX 0 rfl Ef.open_ (fun _ => rfl) ?_; rintro ⟨⟨X, A, c⟩, hR, hL⟩
 refine AL.keep (env' := [(0, .pointer (some ⟨g, 0, none⟩))]) ⟨rfl, trivial⟩ (AL.mid [cell g 221 #[.slice A l.length c, .int .i64 (f : Int)], X] (.refl _) (Ad (Af Ak rfl (Ab (Ar ?_)))))
 have hc : (f = 0 ∧ 0 < l.length) ∨ (f = 0 ∧ ¬ 0 < l.length) ∨ f ≠ 0 := by omega
 rcases hc with ⟨hf, h0⟩ | ⟨hf, h0⟩ | hf
 obtain rfl : r = 11 := by rw [← h]; unfold Fl; rw [if_pos ⟨hf, h0⟩]
 refine Ad (Af Ak rfl (Aa rfl (.pointer (some ⟨g, 0, none⟩)) (fun b w hb hH => by exact B4 rfl rfl hb) (Af Ak rfl (Aa rfl (.int .i64 (f : Int)) (fun b w hb hH => Ba rfl rfl (Bl BR rfl) (hH.row 0 rfl) hb) (Aa rfl (.bool true) (fun b w hb hH => A5 rfl rfl rfl (Fw (by omega)) hb) (Af Ak rfl (Aa rfl (.pointer (some ⟨g, 0, none⟩)) (fun b w hb hH => by exact B4 rfl rfl hb) (Af Ak rfl (Aa rfl (.slice A l.length c) (fun b w hb hH => Ba rfl rfl (Bl CI rfl) (hH.row 0 rfl) hb) ?_)))))))))
 refine Aa rfl (.int .i64 (l.length : Int)) (fun b w hb hH => Fd Bh rfl rfl hH hb) (Aa rfl (.bool true) (fun b w hb hH => A5 rfl rfl rfl (BD (by omega)) hb) (Af Ak rfl (Ab (AE rfl (Ad (Af Ak rfl (Ab (AB (Ek ?_)))))))))
 exact AA (.tmp rfl) (fun w h => AH () rfl [0, 1] rfl h (fun z hz => ⟨z, .refl _, Am.one (Ef.mk_ rfl hR hL z hz)⟩)) rfl
 have hr : r = f := by rw [← h]; unfold Fl; rw [if_neg (fun hh => h0 hh.2)]
 refine Ad (Af Ak rfl (Aa rfl (.pointer (some ⟨g, 0, none⟩)) (fun b w hb hH => by exact B4 rfl rfl hb) (Af Ak rfl (Aa rfl (.int .i64 (f : Int)) (fun b w hb hH => Ba rfl rfl (Bl BR rfl) (hH.row 0 rfl) hb) (Aa rfl (.bool true) (fun b w hb hH => A5 rfl rfl rfl (Fw (by omega)) hb) (Af Ak rfl (Aa rfl (.pointer (some ⟨g, 0, none⟩)) (fun b w hb hH => by exact B4 rfl rfl hb) (Af Ak rfl (Aa rfl (.slice A l.length c) (fun b w hb hH => Ba rfl rfl (Bl CI rfl) (hH.row 0 rfl) hb) ?_)))))))))
 refine Aa rfl (.int .i64 (l.length : Int)) (fun b w hb hH => Fd Bh rfl rfl hH hb) (Aa rfl (.bool false) (fun b w hb hH => A5 rfl rfl rfl (By (by omega)) hb) (Af Ak rfl (Ab (Au rfl (Av (AC (Ad (Af Ak rfl (Aa rfl (.pointer (some ⟨g, 0, none⟩)) (fun b w hb hH => by exact B4 rfl rfl hb) (Af Ak rfl (Aa rfl (.int .i64 (f : Int)) (fun b w hb hH => Ba rfl rfl (Bl BR rfl) (hH.row 0 rfl) hb) (Af Ak rfl (Ab (AB ?_))))))))))))))
 exact AA (.tmp rfl) (fun w h => AH () (by rw [hr]) [0, 1] rfl h (fun z hz => ⟨z, .refl _, Am.one (Ef.mk_ rfl hR hL z hz)⟩)) rfl
 have hr : r = f := by rw [← h]; unfold Fl; rw [if_neg (fun hh => hf hh.1)]
 refine Ad (Af Ak rfl (Aa rfl (.pointer (some ⟨g, 0, none⟩)) (fun b w hb hH => by exact B4 rfl rfl hb) (Af Ak rfl (Aa rfl (.int .i64 (f : Int)) (fun b w hb hH => Ba rfl rfl (Bl BR rfl) (hH.row 0 rfl) hb) (Aa rfl (.bool false) (fun b w hb hH => A5 rfl rfl rfl (EM (by omega)) hb) (Af Ak rfl (Ab (Au rfl (Av (AC (Ad (Af Ak rfl (Aa rfl (.pointer (some ⟨g, 0, none⟩)) (fun b w hb hH => by exact B4 rfl rfl hb) ?_)))))))))))))
 refine Af Ak rfl (Aa rfl (.int .i64 (f : Int)) (fun b w hb hH => Ba rfl rfl (Bl BR rfl) (hH.row 0 rfl) hb) (Af Ak rfl (Ab (AB ?_))))
 exact AA (.tmp rfl) (fun w h => AH () (by rw [hr]) [0, 1] rfl h (fun z hz => ⟨z, .refl _, Am.one (Ef.mk_ rfl hR hL z hz)⟩)) rfl
end Go.Proofs.YtjcfimmcogkopaaGreatDoor.Sep
namespace Go.Proofs.YtjcfimmcogkopaaGreatDoor.Sep
open Go.RowKit
open Go.Proofs.YtjcfimmcogkopaaGreatDoor.Mem (Bb Ci Chg Aw)
end Go.Proofs.YtjcfimmcogkopaaGreatDoor.Sep
namespace Go.Proofs.YtjcfimmcogkopaaGreatDoor.Sep
open Go.ChangeShapes Go.WideShapes Go.ChangeAt Go.RowKit
section
variable {H : Type} {enc : TypeId × Value → H} {W : World} {base b0 : Nat} {r : Reach} {spare : Nat → Bool} {held : Bool} {v : Value} {d : DataW H} {p : List MemPlace}
end
end Go.Proofs.YtjcfimmcogkopaaGreatDoor.Sep
namespace Go.Proofs.YtjcfimmcogkopaaGreatDoor.Sep
open Go.RowKit
open Go.Proofs.YtjcfimmcogkopaaGreatDoor.Mem (Bb Ci Chg Aw)
end Go.Proofs.YtjcfimmcogkopaaGreatDoor.Sep
namespace Go.Proofs.YtjcfimmcogkopaaGreatDoor.Sep
open Go.RowKit
open Go.Proofs.YtjcfimmcogkopaaGreatDoor.Mem (Bb Ci Chg Aw)
end Go.Proofs.YtjcfimmcogkopaaGreatDoor.Sep
namespace Go.Proofs.YtjcfimmcogkopaaGreatDoor.Sep
open Go.RowKit
open Go.Proofs.YtjcfimmcogkopaaGreatDoor.Mem (Bb Ci Chg Aw)
end Go.Proofs.YtjcfimmcogkopaaGreatDoor.Sep
namespace Go.Proofs.YtjcfimmcogkopaaGreatDoor.Sep
open Go.RowKit
open Go.Proofs.YtjcfimmcogkopaaGreatDoor.Mem (Bb Ci Chg Aw)
theorem OJ (most : Nat) (l : List UInt8) (f : Nat) : (Bv most l f).1 ≤ most := by
  unfold Bv
  split
  · exact Nat.zero_le _
  · cases l with
    | nil => exact Nat.zero_le _
    | cons b r =>
      simp only
      split
      · exact Nat.zero_le _
      · show b.toNat ≤ most; omega
end Go.Proofs.YtjcfimmcogkopaaGreatDoor.Sep
namespace Go.Proofs.YtjcfimmcogkopaaGreatDoor.Sep
open Go.RowKit
open Go.Proofs.YtjcfimmcogkopaaGreatDoor.Mem (Bb Ci Chg Aw)
structure RepD where
  code : Int
  val : Int
  hi : Int
  lo : Int
  sc : Int
deriving DecidableEq
structure RepD.ok (r : RepD) : Prop where
  code : Ra r.code
  val : PE r.val
  hi : Ra r.hi
  lo : PE r.lo
  sc : Ra r.sc
def RepD.right (r : RepD) : Bool := (decide (0 ≤ r.code) && decide (r.code ≤ 99)) && Yf r.sc
end Go.Proofs.YtjcfimmcogkopaaGreatDoor.Sep
namespace Go.Proofs.YtjcfimmcogkopaaGreatDoor.Sep
open Go.RowKit
open Go.Proofs.YtjcfimmcogkopaaGreatDoor.Mem (Bb Ci Chg Aw)
end Go.Proofs.YtjcfimmcogkopaaGreatDoor.Sep
namespace Go.Proofs.YtjcfimmcogkopaaGreatDoor.Sep
open Go.RowKit
open Go.Proofs.YtjcfimmcogkopaaGreatDoor.Mem (Bb Ci Chg Aw)
theorem pick (w : World) (a m : Int) (ha : -9223372036854775808 ≤ a ∧ a ≤ 9223372036854775807) (hm : 1 ≤ m ∧ m ≤ 9223372036854775807) {r : Int} (hr : a % m = r) : Calls Tryz.prog 6 #[.int .i64 a, .int .i64 m] w fun e w' => e = .returned (.int .i64 r) ∧ Below w.heap.size w w' := by
  have hlt := Int.emod_lt_of_pos a (show 0 < m by omega)
  have hge := Int.emod_nonneg a (show m ≠ 0 by omega)
  have ht : (0 ≤ a.tmod m ∧ a.tmod m = r) ∨ (a.tmod m < 0 ∧ a.tmod m + m = r) := by
    rw [Int.tmod_eq_emod, ← hr]
    split
    · left; omega
    · rename_i h
      right
      have hne : a % m ≠ 0 := fun e => h (.inr (Int.dvd_of_emod_eq_zero e))
      omega
  rw [hr] at hlt hge
  obtain ⟨t, htm⟩ : ∃ t, a.tmod m = t := ⟨_, rfl⟩
  rw [htm] at ht
  refine Gi (args := [.int .i64 a, .int .i64 m]) 14 Tryz.func6 rfl rfl rfl (Ad (Af Ak rfl (Ab (Ad (Af Ak rfl (Aa rfl (.int .i64 t) (fun b w hb hH => Gu rfl rfl rfl (by omega) htm hb) (Af Ak rfl (Ab (Ar ?_)))))))))
  rcases ht with ⟨h1, h2⟩ | ⟨h1, h2⟩
  subst h2
  refine Ad (Af Ak rfl (Aa rfl (.bool false) (fun b w hb hH => A5 rfl rfl rfl (BI (by omega)) hb) (Ab (Au rfl (Av (AC (Ad (Af Ak rfl (Ab (AB ?_))))))))))
  exact AA (.tmp rfl) (fun w h => ⟨rfl, Aw h.up⟩) rfl
  refine Ad (Af Ak rfl (Aa rfl (.bool true) (fun b w hb hH => A5 rfl rfl rfl (BY (by omega)) hb) (Ab (AE rfl (BB (Af Ak rfl (Aa rfl (.int .i64 r) (fun b w hb hH => AJ rfl rfl rfl rfl (by rw [IntWalk.i64_in _ (by omega)]; omega) hb) (Af Ak rfl (AG (AC (Ad (Af Ak rfl (Ab (AB ?_))))))))))))))
  exact AA (.tmp rfl) (fun w h => ⟨rfl, Aw h.up⟩) rfl
end Go.Proofs.YtjcfimmcogkopaaGreatDoor.Sep
namespace Go.Proofs.YtjcfimmcogkopaaGreatDoor
open Go.RowKit
def Rs : BitVec 32 := 2197175160#32
def P8 (h : BitVec 32) : BitVec 32 := (h >>> 1) ^^^ (if h.getLsbD 0 then Rs else 0#32)
def Ir : Nat → BitVec 32 → BitVec 32
  | 0, h => h
  | n + 1, h => P8 (Ir n h)
def Rt (h : BitVec 32) (c : UInt8) : BitVec 32 := Ir 8 (h ^^^ BitVec.ofNat 32 c.toNat)
def H0 (h : BitVec 32) (l : List UInt8) : BitVec 32 := l.foldl Rt h
def Dd (l : List UInt8) : Nat := (~~~ H0 (BitVec.allOnes 32) l).toNat
theorem MY (a : Nat) (ha : a < 4294967296) : BitVec.ofInt 32 (a : Int) = BitVec.ofNat 32 a := BitVec.ofInt_natCast ..
theorem NH (a b : BitVec 32) : bits .xor .u32 (a.toNat : Int) (b.toNat : Int) = ((a ^^^ b).toNat : Int) := by
 show IntKind.u32.wrap ((BitVec.ofInt 32 (a.toNat : Int) ^^^ BitVec.ofInt 32 (b.toNat : Int)).toNat : Int) = _
 rw [BitVec.ofInt_natCast, BitVec.ofInt_natCast, BitVec.ofNat_toNat, BitVec.ofNat_toNat, BitVec.setWidth_eq, BitVec.setWidth_eq, IntKind.wrap_u32]
 have := (a ^^^ b).isLt
 omega
theorem OK (a : BitVec 32) : bits .and .u32 (a.toNat : Int) 1 = if a.getLsbD 0 then 1 else 0 := by
  show IntKind.u32.wrap ((BitVec.ofInt 32 (a.toNat : Int) &&& BitVec.ofInt 32 1).toNat : Int) = _
  have h1 : BitVec.ofInt 32 1 = 1#32 := by decide
  rw [BitVec.ofInt_natCast, BitVec.ofNat_toNat, BitVec.setWidth_eq, h1, BitVec.toNat_and, IntKind.wrap_u32]
  have e : a.toNat &&& (1#32).toNat = a.toNat % 2 := Nat.and_one_is_mod _
  rw [e]
  have e2 : a.getLsbD 0 = decide (a.toNat % 2 = 1) := by simp [BitVec.getLsbD, Nat.testBit_zero]
  rw [e2]
  by_cases h : a.toNat % 2 = 1
  · simp [h]
  · have : a.toNat % 2 = 0 := by omega
    simp [this]
theorem VA (a : BitVec 32) : bits .xor .u32 ((a.toNat : Int) / 2) (IntKind.u32.wrap (bits .and .u32 (a.toNat : Int) 1 * 2197175160)) = ((P8 a).toNat : Int) := by
  have e1 : (a.toNat : Int) / (2 : Int) = ((a >>> 1).toNat : Int) := by
    rw [BitVec.toNat_ushiftRight, Nat.shiftRight_eq_div_pow]; omega
  have e2 : IntKind.u32.wrap (bits .and .u32 (a.toNat : Int) 1 * 2197175160) = ((if a.getLsbD 0 then Rs else 0#32).toNat : Int) := by
    rw [OK, IntKind.wrap_u32]
    cases a.getLsbD 0
    · rfl
    · rfl
  rw [e1, e2, NH]
  rfl
theorem W9 (a : BitVec 32) (c : UInt8) : bits .xor .u32 (a.toNat : Int) (c.toNat : Int) = ((a ^^^ BitVec.ofNat 32 c.toNat).toNat : Int) := by
 rw [← NH]
 have := UInt8.toNat_lt c
 rw [BitVec.toNat_ofNat, Nat.mod_eq_of_lt (by omega)]
theorem P9 (a b : Nat) (ha : a < 4294967296) (hb : b < 4294967296) : bits .or .u32 (a : Int) (b : Int) = ((a ||| b : Nat) : Int) := by
 have hx : a ||| b < 2 ^ 32 := Nat.or_lt_two_pow (by omega) (by omega)
 show IntKind.u32.wrap ((BitVec.ofInt 32 (a : Int) ||| BitVec.ofInt 32 (b : Int)).toNat : Int) = _
 rw [BitVec.toNat_or, MY a ha, MY b hb, BitVec.toNat_ofNat, BitVec.toNat_ofNat, Nat.mod_eq_of_lt (by omega), Nat.mod_eq_of_lt (by omega), IntKind.wrap_u32]
 omega
theorem VB (r : BitVec 32) : bits .xor .u32 IntKind.u32.max (r.toNat : Int) = ((~~~ r).toNat : Int) := by
 have h : IntKind.u32.max = ((BitVec.allOnes 32).toNat : Int) := by decide
 rw [h, NH, BitVec.allOnes_xor]
end Go.Proofs.YtjcfimmcogkopaaGreatDoor
namespace Go.Proofs.YtjcfimmcogkopaaGreatDoor
open Go.RowKit
theorem VC {S : Nat → Prop} (w : World) (A : Option Addr) (c : Nat) (l : List UInt8) (h : Bs S w A c l) (hl : l.length ≤ 140737488355328) :
    Calls Tryz.prog 144 #[.slice A l.length c] w fun e w' => e = .returned (.int .u32 (Dd l : Int)) ∧ w = w' := by
  go_enter Tryz.func144, Tryz.ntmps144
  go_wp2
  go_loop [3, 5, 6, 9] (fun h _ _ i => ∃ k : Nat, k ≤ l.length ∧ i = .int .i64 k ∧ h = .int .u32 ((H0 (BitVec.allOnes 32) (l.take k)).toNat : Int)) (fun _ _ _ i => l.length - (intOf i).toNat)
  case atStart => exact ⟨0, Nat.zero_le _, rfl, rfl⟩
  case round =>
    obtain ⟨k, hk, rfl, rfl⟩ := hrel
    by_cases hlt : k < l.length
    · obtain ⟨g, o, rfl, hs, hc⟩ := h.2.2 (by omega)
      have hb := hc k l[k] (List.getElem?_eq_getElem hlt)
      unfold Te at hb
      clear hc
      have ht : H0 (BitVec.allOnes 32) (l.take (k + 1)) = Rt (H0 (BitVec.allOnes 32) (l.take k)) l[k] := by
        rw [List.take_succ_eq_append_getElem hlt]; unfold H0; rw [List.foldl_append]; rfl
      have HT := JW ht
      clear ht
      obtain ⟨b, hbb⟩ : ∃ b, b = l[k] := ⟨_, rfl⟩
      rw [← hbb] at hb HT
      have HB := JW hbb
      clear hbb
      obtain ⟨x, hx⟩ : ∃ x, x = H0 (BitVec.allOnes 32) (l.take k) := ⟨_, rfl⟩
      rw [← hx] at HT ⊢
      have HX := JW hx
      clear hx
      have hin := W9 x b
      obtain ⟨y, hy⟩ : ∃ y, y = x ^^^ BitVec.ofNat 32 b.toNat := ⟨_, rfl⟩
      rw [← hy] at hin
      have HY := JW hy
      clear hy
      obtain ⟨n, hn⟩ : ∃ n, n = b.toNat := ⟨_, rfl⟩
      have hn2 : n < 256 := by rw [hn]; exact UInt8.toNat_lt _
      rw [← hn] at hin hb
      clear hn
      go_wp2
      go_loop [3, 6, 17] (fun h _ j => ∃ i : Nat, i ≤ 8 ∧ j = .int .i64 i ∧ h = .int .u32 ((Ir i y).toNat : Int)) (fun _ _ j => 8 - (intOf j).toNat)
      case atStart => exact ⟨0, by omega, rfl, rfl⟩
      case round =>
        obtain ⟨i, hi, rfl, rfl⟩ := hrel
        by_cases hi8 : i < 8
        · have hbit := VA (Ir i y)
          rw [IntKind.wrap_u32] at hbit
          obtain ⟨z, hz⟩ : ∃ z, z = Ir i y := ⟨_, rfl⟩
          rw [← hz] at hbit ⊢
          have HZ := JW hz
          clear hz
          obtain ⟨z', hz'⟩ : ∃ z', z' = P8 z := ⟨_, rfl⟩
          rw [← hz'] at hbit
          have HZ' := JW hz'
          clear hz'
          go_wp2
          go_round
          case rel => exact ⟨i + 1, by omega, by go_num, by rw [HZ'.out, HZ.out]; rfl⟩
          case measure => simp [intOf]; omega
        · have e8 : i = 8 := by omega
          subst e8
          obtain ⟨z, hz⟩ : ∃ z, z = Ir 8 y := ⟨_, rfl⟩
          rw [← hz]
          have HZ := JW hz
          clear hz
          go_wp2
          go_round
          case rel => exact ⟨k + 1, by omega, by go_num, by rw [HT.out, HZ.out, HY.out]; rfl⟩
          case measure => simp [intOf]; omega
    · have e : l.take k = l := List.take_of_length_le (by omega)
      rw [e]
      clear e
      obtain ⟨r, hr⟩ : ∃ r, r = H0 (BitVec.allOnes 32) l := ⟨_, rfl⟩
      rw [← hr]
      have HR := JW hr
      clear hr
      have hnot := VB r
      obtain ⟨q, hq⟩ : ∃ q : Nat, q = (~~~ r).toNat := ⟨_, rfl⟩
      rw [← hq] at hnot
      have HQ := JW hq
      clear hq
      go_wp2
      all_goals
        go_ret
        refine ⟨Vr ?_, rfl⟩
        unfold Dd
        rw [← HR.out, ← HQ.out]
end Go.Proofs.YtjcfimmcogkopaaGreatDoor
namespace Go.Proofs.YtjcfimmcogkopaaGreatDoor
open Go.RowKit
end Go.Proofs.YtjcfimmcogkopaaGreatDoor
namespace Go.Proofs.YtjcfimmcogkopaaGreatDoor
open Go.RowKit
end Go.Proofs.YtjcfimmcogkopaaGreatDoor
namespace Go.Proofs.YtjcfimmcogkopaaGreatDoor
open Go.RowKit
end Go.Proofs.YtjcfimmcogkopaaGreatDoor
namespace Go.Proofs.YtjcfimmcogkopaaGreatDoor
open Go.RowKit
def XS (w : World) (base p : Nat) (l : List UInt8) (f : Nat) : Prop :=
  l.length ≤ 140737488355328 ∧ ∃ A c, Dy w p 221 #[.slice A l.length c, .int .i64 (f : Int)] ∧ Bs (fun k => base ≤ k ∧ k < p) w A c l
theorem XS.mod {S : Nat → Prop} {w w' : World} {base p f : Nat} {l : List UInt8} (h : XS w base p l f) (hm : Mod S w w') (hn : ∀ k, base ≤ k → k ≤ p → ¬ S k) (hb : base ≤ p) : XS w' base p l f := by
 obtain ⟨hl, A, c, hr, hs⟩ := h
 exact ⟨hl, A, c, hr.mod hm (hn p hb (Nat.le_refl _)), hs.mod hm (fun k hk => hn k hk.1 (by omega))⟩
theorem XS.lt {w : World} {base p f : Nat} {l : List UInt8} (h : XS w base p l f) : p < w.heap.size := by
 obtain ⟨_, _, _, hr, _⟩ := h
 exact hr.lt
end Go.Proofs.YtjcfimmcogkopaaGreatDoor
namespace Go.Proofs.YtjcfimmcogkopaaGreatDoor.Sep
open Go.RowKit
open Go.Proofs.YtjcfimmcogkopaaGreatDoor.Mem (Bb Ci Chg Aw)
section
variable {P : Program} {Q : Exit → Act → World → Prop} {n : Nat} {env : List (Nat × Value)} {B : Nat → Prop} {w0 w : World} {os : List Ass} {o : Oper}
theorem D8 {X : Type} {F : FuncId} {f : Operand} {args : Array Operand} {ats : Array TypeId} {vs : List Value} {val : X → Value} {post : X → List Ass} {os' : X → List Ass} (ids : List Nat) (pads : Nat) (hE : Vf P F) (hc : ∀ w, Hp B w0 w os → ER w P F vs.toArray [] val post) (hp : Ee ids os = List.replicate pads Gj) (hn : Dc ids = true) (hb : (ids.all fun i => Nat.blt i os.length) = true) (he : ∀ x, (post x).drop ids.length ++ Fs ids (FM ids.length (post x)) os = os' x) (ho : o.op = .call { callee := .value f, args := args, argTypes := ats }) (hf : evs env f = some (.func (.func F) #[] #[])) (hx : evl env args.toList = some vs) :
  Bt P Q n env B w0 os o val os' := fun b w hH hb' K hK => by
 unfold Oper.wp
 rw [Ia hE ho hf hx hb', Oper.upon_enter]
 obtain ⟨x, h0, h1, h2, h3, h4⟩ := hH.give2 ids (B5 hn)
 rw [hp] at h1
 have hx0 : x = [] := EX.1 h1
 subst hx0
 refine (hc w hH w [] (Below.refl _ _) (fun x hx => by cases hx) rfl trivial trivial).mono ?_
 rintro e w' ⟨x, rfl, rs', hpx, hch⟩
 have hq := h4 (post x) rs' w' hpx hch
 refine hK x w' (he x ▸ Hp.imp hq fun rs h => ?_)
 obtain ⟨a, c, e, ha, hc'⟩ := h.split
 obtain ⟨a', p, ha'⟩ := Fb (k := ids.length) ha
 have h2 := Am.app ha' hc'
 rw [List.append_assoc] at h2
 obtain ⟨r2, p2, h3⟩ := h2.perm ((J0 (xs := post x) (B5 hn) hb).append_left _)
 exact ⟨r2, e ▸ (p.append_right c).trans p2, h3⟩
end
section
variable {P : Program} {F : FuncId} {args : Array Value} {l m b l' : List UInt8} {u : World} {g f f' : Nat} {v B : Value} {val : Value}
theorem T1 (hv : Ew u v m) (g : Nat) (l : List UInt8) (r : List UInt8) (hr : l ++ P0 m = r) (hl : l.length + m.length + 10 ≤ 140737488355328) : ER u Tryz.prog 141 #[.pointer (some ⟨g, 0, none⟩), v] [ME g l] (fun _ : Unit => .tuple #[]) (fun _ => [ME g r]) := fun w rs hU hS h1 h2 h3 => by
  obtain ⟨wv, rv, rfl, hv0, hw⟩ := PX h1.one' h2
  obtain ⟨A, c, rfl, hb⟩ := hv
  have hfoot : ∀ k, IV g wv k → Ci ((g, Fa 218, #[wv]) :: rv) k := by
    rintro k (rfl | hk)
    · exact ⟨_, List.mem_cons_self, rfl⟩
    · rcases hv0 with ⟨e1, _, _⟩ | ⟨g', c, cs, e1, _, _, _, _, e6⟩
      · subst e1; exact absurd hk At.none
      · subst e1; subst e6
        exact ⟨(g', Fa 5, cs), by simp, (At.iff.1 hk).symm⟩
  have hb2 : Bs (fun k => k < u.heap.size) w A c m := (hb.weaken (T := fun k => k < u.heap.size) fun k hk _ => hk).below hU fun _ hk => hk
  refine (Lx w g wv l A c m hw hb2 (fun k hk hf => ?_) hl).mono ?_
  · obtain ⟨x, hx, ex⟩ := hfoot k hf
    have := hS x hx
    have hk : k < u.heap.size := hk
    have ex : x.1 = k := ex
    omega
  rintro e w' ⟨v', he, hw', hm, hat⟩
  obtain ⟨rs', hv', hr', hd', hx'⟩ := Jw hw'.2
  have er : l ++ Eb m.length ++ m = r := by rw [← hr]; simp [P0]
  rw [er] at hw' hv'
  refine ⟨(), he, (g, Fa 218, #[v']) :: rs', Am.one ⟨v', [(g, Fa 218, #[v'])], rs', rfl, rfl, Am.one hv'⟩, hm.weaken fun k hk hf => hfoot k hf, ⟨hw'.1, hr'⟩, ⟨fun y hy e => hw'.2.ne_row hw'.1 (by decide) ((show y.1 = g from e) ▸ (hx' y hy).1), hd'⟩, fun x hxm hlt => ?_⟩
  rcases List.mem_cons.1 hxm with rfl | hxm
  · exact ⟨_, List.mem_cons_self, rfl⟩
  · rcases hat _ (hx' x hxm).1 with h | h
    · exact hfoot _ (.inr h)
    · omega
end
end Go.Proofs.YtjcfimmcogkopaaGreatDoor.Sep
namespace Go.Proofs.YtjcfimmcogkopaaGreatDoor
structure MsgD where
  k : Int
  a : Int
  b : Int
  t : Int
  i : Int
  lt : Int
  es : List EntD
  co : Int
  rf : Bool
  bi : Int
  bt : Int
  bc : Int
  o : Int
  d : List UInt8
  la : Bool
deriving DecidableEq
def MsgD.zero : MsgD := ⟨0, 0, 0, 0, 0, 0, [], 0, false, 0, 0, 0, 0, [], false⟩
structure MsgD.ok (m : MsgD) : Prop where
  k : Ra m.k
  a : Ra m.a
  b : Ra m.b
  t : PE m.t
  i : PE m.i
  lt : PE m.lt
  es : m.es.length ≤ 9223372036854775807 ∧ ∀ e, e ∈ m.es → e.ok
  co : PE m.co
  bi : PE m.bi
  bt : PE m.bt
  bc : Ra m.bc
  o : Ra m.o
  d : m.d.length ≤ 9223372036854775807
def fm (k : Int) : Nat := if k = 1 then 131 else if k = 2 then 144 else if k = 3 then 15 else if k = 4 then 17 else if k = 5 then 480 else if k = 6 then 96 else 0
def T2 (t : Int) : Int → Int → List EntD → Bool
  | _, _, [] => true
  | i, p, e :: r => BN e && e.i == i + 1 && decide (p ≤ e.t) && decide (e.t ≤ t) && T2 t (i + 1) e.t r
def Ca (m : MsgD) : Bool := decide (m.es.length ≤ 4) && T2 m.t m.i m.lt m.es
def OL (l : List UInt8) (f : Nat) : EntD × List UInt8 × Nat :=
  match CQ 160 l f with
  | (x, l1, f1) => if f1 ≠ 0 then (.zero, l1, f1) else ((EF x).1, l1, (EF x).2)
theorem Ss {l l1 x : List UInt8} {f f1 : Nat} (h : CQ 160 l f = (x, l1, f1)) (hf : f1 ≠ 0) : OL l f = (.zero, l1, f1) := by
 unfold OL
 rw [h]
 simp only
 rw [if_pos hf]
theorem VD {l l1 x : List UInt8} {f e : Nat} {y : EntD} (h : CQ 160 l f = (x, l1, 0)) (he : EF x = (y, e)) : OL l f = (y, l1, e) := by
 unfold OL
 rw [h]
 simp only
 rw [if_neg (by simp), he]
theorem Qa {l l' : List UInt8} {f : Nat} {e : EntD} (h : OL l f = (e, l', 0)) : BN e = true := by
  obtain ⟨⟨x, l1, f1⟩, h1⟩ : ∃ R, CQ 160 l f = R := ⟨_, rfl⟩
  by_cases hf : f1 = 0
  · subst hf
    obtain ⟨⟨y, e'⟩, h2⟩ : ∃ R, EF x = R := ⟨_, rfl⟩
    have e1 := (VD h1 h2).symm.trans h
    simp only [Prod.mk.injEq] at e1
    obtain ⟨rfl, rfl, rfl⟩ := e1
    have hb := Sk x
    rw [h2] at hb
    rcases hb with ⟨hb, _⟩ | ⟨_, hb, _⟩
    · exact absurd rfl hb
    · exact hb
  · have e1 := (Ss h1 hf).symm.trans h
    simp only [Prod.mk.injEq] at e1
    exact absurd e1.2.2 hf
def KH : Nat → List UInt8 → Nat → List EntD × List UInt8 × Nat
  | 0, l, f => ([], l, f)
  | n + 1, l, f => match OL l f with
    | (e, l1, f1) => if f1 ≠ 0 then ([], l1, f1) else match KH n l1 0 with
      | (es, l2, f2) => (e :: es, l2, f2)
theorem T3 {n : Nat} {l l1 l2 : List UInt8} {f f2 : Nat} {e : EntD} {es : List EntD} (h : OL l f = (e, l1, 0)) (h2 : KH n l1 0 = (es, l2, f2)) : KH (n + 1) l f = (e :: es, l2, f2) := by
 rw [KH, h]
 simp only
 rw [if_neg (by simp), h2]
def Ws (l : List UInt8) (f : Nat) : List EntD × List UInt8 × Nat :=
  match CN 4 l f with
  | (n, l1, f1) => KH n l1 f1
def Wt (l : List UInt8) (f : Nat) : (Int × Int × Int) × List UInt8 × Nat :=
  match CN 72057594037927935 l f with
  | (x, l1, f1) => match CN 72057594037927935 l1 f1 with
    | (y, l2, f2) => match Bv 254 l2 f2 with
      | (z, l3, f3) => (((x : Int), (y : Int), (z : Int)), l3, f3)
def Wu (l : List UInt8) : MsgD × List UInt8 × Nat :=
  match Bv 6 l 0 with
  | (k, l0, f0) => match rI (k != 0) 0 (Bv 7 l0 f0) l0 f0 with
  | (a, l1, f1) => match rI (k != 0) 0 (Bv 7 l1 f1) l1 f1 with
  | (b, l2, f2) => match rI (k != 0) 0 (CN 72057594037927935 l2 f2) l2 f2 with
  | (t, l3, f3) => match rI (II (fm (k : Int)) 1) 0 (CN 72057594037927935 l3 f3) l3 f3 with
  | (i, l4, f4) => match rI (II (fm (k : Int)) 2) 0 (CN 72057594037927935 l4 f4) l4 f4 with
  | (lt, l5, f5) => match rI (II (fm (k : Int)) 4) 0 (CN 72057594037927935 l5 f5) l5 f5 with
  | (co, l6, f6) => match rI (II (fm (k : Int)) 8) [] (Ws l6 f6) l6 f6 with
  | (es, l7, f7) => match rI (II (fm (k : Int)) 16) 0 (Bv 1 l7 f7) l7 f7 with
  | (rf, l8, f8) => match rI (II (fm (k : Int)) 32) (0, 0, 0) (Wt l8 f8) l8 f8 with
  | ((bi, bt, bc), l9, f9) => match rI (II (fm (k : Int)) 64) 0 (CN 32768 l9 f9) l9 f9 with
  | (o, l10, f10) => match rI (II (fm (k : Int)) 128) 0 (Bv 1 l10 f10) l10 f10 with
  | (la, l11, f11) => match rI (II (fm (k : Int)) 256) [] (CQ 256 l11 f11) l11 f11 with
  | (d, l12, f12) => (⟨(k : Int), (a : Int), (b : Int), (t : Int), (i : Int), (lt : Int), es, (co : Int), rf == 1, bi, bt, bc, (o : Int), d, la == 1⟩, l12, f12)
structure ReadM (l : List UInt8) (m : MsgD) (l' : List UInt8) (f' : Nat) where
  mk ::
  k : Nat
  l0 : List UInt8
  f0 : Nat
  h0 : Bv 6 l 0 = (k, l0, f0)
  a : Nat
  l1 : List UInt8
  f1 : Nat
  h1 : rI (k != 0) 0 (Bv 7 l0 f0) l0 f0 = (a, l1, f1)
  b : Nat
  l2 : List UInt8
  f2 : Nat
  h2 : rI (k != 0) 0 (Bv 7 l1 f1) l1 f1 = (b, l2, f2)
  t : Nat
  l3 : List UInt8
  f3 : Nat
  h3 : rI (k != 0) 0 (CN 72057594037927935 l2 f2) l2 f2 = (t, l3, f3)
  i : Nat
  l4 : List UInt8
  f4 : Nat
  h4 : rI (II (fm (k : Int)) 1) 0 (CN 72057594037927935 l3 f3) l3 f3 = (i, l4, f4)
  lt : Nat
  l5 : List UInt8
  f5 : Nat
  h5 : rI (II (fm (k : Int)) 2) 0 (CN 72057594037927935 l4 f4) l4 f4 = (lt, l5, f5)
  co : Nat
  l6 : List UInt8
  f6 : Nat
  h6 : rI (II (fm (k : Int)) 4) 0 (CN 72057594037927935 l5 f5) l5 f5 = (co, l6, f6)
  es : List EntD
  l7 : List UInt8
  f7 : Nat
  h7 : rI (II (fm (k : Int)) 8) [] (Ws l6 f6) l6 f6 = (es, l7, f7)
  rf : Nat
  l8 : List UInt8
  f8 : Nat
  h8 : rI (II (fm (k : Int)) 16) 0 (Bv 1 l7 f7) l7 f7 = (rf, l8, f8)
  bi : Int
  bt : Int
  bc : Int
  l9 : List UInt8
  f9 : Nat
  h9 : rI (II (fm (k : Int)) 32) (0, 0, 0) (Wt l8 f8) l8 f8 = ((bi, bt, bc), l9, f9)
  o : Nat
  l10 : List UInt8
  f10 : Nat
  h10 : rI (II (fm (k : Int)) 64) 0 (CN 32768 l9 f9) l9 f9 = (o, l10, f10)
  la : Nat
  l11 : List UInt8
  f11 : Nat
  h11 : rI (II (fm (k : Int)) 128) 0 (Bv 1 l10 f10) l10 f10 = (la, l11, f11)
  d : List UInt8
  h12 : rI (II (fm (k : Int)) 256) [] (CQ 256 l11 f11) l11 f11 = (d, l', f')
  hm : m = ⟨(k : Int), (a : Int), (b : Int), (t : Int), (i : Int), (lt : Int), es, (co : Int), rf == 1, bi, bt, bc, (o : Int), d, la == 1⟩
theorem ReadM.is {l l' : List UInt8} {m : MsgD} {f' : Nat} (h : ReadM l m l' f') : Wu l = (m, l', f') := by
 obtain ⟨k, l0, f0, h0, a, l1, f1, h1, b, l2, f2, h2, t, l3, f3, h3, i, l4, f4, h4, lt, l5, f5, h5, co, l6, f6, h6, es, l7, f7, h7, rf, l8, f8, h8, bi, bt, bc, l9, f9, h9, o, l10, f10, h10, la, l11, f11, h11, d, h12, rfl⟩ := h
 simp only [Wu, h0, h1, h2, h3, h4, h5, h6, h7, h8, h9, h10, h11, h12]
end Go.Proofs.YtjcfimmcogkopaaGreatDoor
namespace Go.Proofs.YtjcfimmcogkopaaGreatDoor
end Go.Proofs.YtjcfimmcogkopaaGreatDoor
namespace Go.Proofs.YtjcfimmcogkopaaGreatDoor
theorem En {α : Type} {es : List α} {j : Nat} {e : α} (hj : es[j]? = some e) : es.drop j = e :: es.drop (j + 1) := by
 have hlt := (List.getElem?_eq_some_iff.1 hj).1
 have hx := (List.getElem?_eq_some_iff.1 hj).2
 rw [← hx, ← List.drop_eq_getElem_cons hlt]
structure RentsAt (n : Nat) (l : List UInt8) (f : Nat) (es : List EntD) (j : Nat) (l1 : List UInt8) : Prop where
  le : j ≤ n
  len : es.length = j
  right : ∀ e, e ∈ es → BN e = true
  rest : ∀ es' l' f', KH (n - j) l1 0 = (es', l', f') → KH n l f = (es ++ es', l', f')
theorem RentsAt.step {n j : Nat} {l l1 l2 : List UInt8} {f : Nat} {es : List EntD} {e : EntD} (h : RentsAt n l f es j l1) (hj : j < n) (he : OL l1 0 = (e, l2, 0)) : RentsAt n l f (es ++ [e]) (j + 1) l2 where
  le := hj
  len := by rw [List.length_append, h.len]; rfl
  right x hx := by
    rcases List.mem_append.1 hx with hx | hx
    · exact h.right x hx
    · rw [List.mem_singleton.1 hx]; exact Qa he
  rest es' l' f' hr := by
    have e1 : n - j = (n - (j + 1)) + 1 := by omega
    have := h.rest (e :: es') l' f' (by rw [e1]; exact T3 he hr)
    rw [this, List.append_assoc]; rfl
theorem RentsAt.done {n : Nat} {l l1 : List UInt8} {f : Nat} {es : List EntD} (h : RentsAt n l f es n l1) : KH n l f = (es, l1, 0) := by
 have := h.rest [] l1 0 (by rw [Nat.sub_self]; rfl)
 rwa [List.append_nil] at this
end Go.Proofs.YtjcfimmcogkopaaGreatDoor
