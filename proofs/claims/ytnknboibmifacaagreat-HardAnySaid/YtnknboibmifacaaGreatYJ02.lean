/-
  HdB
-/
import Derived.Test.YtnknboibmifacaaGreatYI01
import Derived.Test.YtnknboibmifacaaGreatYJ01
set_option linter.unusedSimpArgs false
set_option linter.unusedVariables false
set_option maxRecDepth 100000
namespace Go.Proofs.YtnknboibmifacaaGreat.Sep
open Go.RowKit
open Go.Proofs.YtnknboibmifacaaGreat.Mem (Bd Cj Chg AF)
def Lg (gh gd ge : Nat) (L : List HV) (ps : List (List UInt8)) (j : Nat) : Ass := fun rs => Al [cell gh 31 #[.int .u64 (((Bq (L.take j)).1 : Nat) : Int), .int .i64 (((Bq (L.take j)).2 : Nat) : Int)], cell gd 3 #[.int .i64 8], cell ge 3 #[.int .i64 ((Cp (ps.take j) : Nat) : Int)]] rs
theorem Lg.open_ {gh gd ge : Nat} {L : List HV} {ps : List (List UInt8)} {j : Nat} : ∀ rs, Lg gh gd ge L ps j rs → ∃ _ : Unit, Al [cell gh 31 #[.int .u64 (((Bq (L.take j)).1 : Nat) : Int), .int .i64 (((Bq (L.take j)).2 : Nat) : Int)], cell gd 3 #[.int .i64 8], cell ge 3 #[.int .i64 ((Cp (ps.take j) : Nat) : Int)]] rs := fun _ h => ⟨(), h⟩
theorem Lg.openN {gh gd ge : Nat} {L : List HV} {ps : List (List UInt8)} {j n : Nat} {h : HV} (e1 : Bq (L.take j) = h) (e2 : Cp (ps.take j) = n) : ∀ rs, Lg gh gd ge L ps j rs → ∃ _ : Unit, Al [cell gh 31 #[.int .u64 ((h.1 : Nat) : Int), .int .i64 ((h.2 : Nat) : Int)], cell gd 3 #[.int .i64 8], cell ge 3 #[.int .i64 (n : Int)]] rs := fun _ hz => ⟨(), by subst e1; subst e2; exact hz⟩
theorem Pr {gh gd ge : Nat} {L : List HV} {ps : List (List UInt8)} {j : Nat} {h : HV} (e1 : Bq (L.take j) = h) : ∀ rs, Al [cell gh 31 #[.int .u64 ((h.1 : Nat) : Int), .int .i64 ((h.2 : Nat) : Int)], cell gd 3 #[.int .i64 8], cell ge 3 #[.int .i64 ((Cp (ps.take j) : Nat) : Int)]] rs → Lg gh gd ge L ps j rs := fun _ hz => by subst e1; exact hz
theorem UN {gh gd ge : Nat} {L : List HV} {ps : List (List UInt8)} : ∀ rs, Al [cell gh 31 #[.int .u64 0, .int .i64 0], cell gd 3 #[.int .i64 8], cell ge 3 #[.int .i64 0]] rs → Lg gh gd ge L ps 0 rs := fun _ hz => Pr (h := (0, 0)) rfl _ hz
theorem Tg {X : Ass} {v : Value} {y : List UInt8} (hX : Cw X v y) (hl : y.length ≤ 137438953472) {ps : List (List UInt8)} {L : List HV} {N n : Nat} {z : HV} (hr : (BD y).1 = ps) (hL : J7 ps = L) (hN : L.length = N) (hNp : ps.length = N) (e1 : Bq (L.take N) = z) (e2 : Cp (ps.take N) = n) : AS Tryz.prog 33 #[v] [X] (fun (_ : Unit) => .tuple #[.agg #[.int .u64 ((z.1 : Nat) : Int), .int .i64 ((z.2 : Nat) : Int)], .int .i64 (n : Int)]) (fun (_ : Unit) => [X]) := by
  refine ME (args := [v]) 31 Tryz.func33 rfl rfl rfl ?_; intro w rs
  have hlen : ∀ x, x ∈ ps → x.length ≤ 65536 := by have h7 := F5 y.length y; change ∀ x, x ∈ (BD y).1 → x.length ≤ 65536 at h7; rwa [hr] at h7
  have hsum : ∀ j, Cp (ps.take j) ≤ y.length := fun j => by have h5 := FK y.length y; have h6 := Hd y.length y; change (BD y).2 = Cp (BD y).1 at h5; change (BD y).2 ≤ y.length at h6; have h7 := J6 (BD y).1 j; rw [hr] at h7 h5; omega
  refine Ad ?_
  refine Af Ak rfl ?_
  refine Ai (post := fun g2 => [cell g2 31 #[.int .u64 0, .int .i64 0], X]) rfl (BL Bk rfl) ?_; rintro g2
  refine Af Ak rfl ?_
  refine Ab (Ad ?_)
  refine Af Ak rfl ?_
  refine Ai (post := fun gh => [cell gh 31 #[.int .u64 0, .int .i64 0], cell g2 31 #[.int .u64 0, .int .i64 0], X]) rfl (BL Bk rfl) ?_; rintro gh
  refine Ab (Ad ?_)
  refine Af Ak rfl ?_
  refine Ai (post := fun v8 => [Ao 5 1 encB v8 (Be []), cell gh 31 #[.int .u64 0, .int .i64 0], cell g2 31 #[.int .u64 0, .int .i64 0], X]) rfl (P1 (os' := fun v8 => [Ao 5 1 encB v8 (Be []), cell gh 31 #[.int .u64 0, .int .i64 0], cell g2 31 #[.int .u64 0, .int .i64 0], X]) [] 0 (Ah Tryz.func43 (by kernel_rfl) rfl) (fun w hH => JN w (JX w) (by simp) rfl) rfl rfl rfl (fun _ => rfl) rfl rfl rfl) ?_; rintro v8
  refine Ac rfl (.int .i64 8) (fun b w hb hH => Qh 0 Tryz.underlying48 rfl rfl rfl hH hb) ?_
  refine Ai (post := fun gd => [cell gd 3 #[.int .i64 0], Ao 5 1 encB v8 (Be []), cell gh 31 #[.int .u64 0, .int .i64 0], cell g2 31 #[.int .u64 0, .int .i64 0], X]) rfl (BL Mt rfl) ?_; rintro gd
  refine Ai (post := fun ge => [cell ge 3 #[.int .i64 0], cell gd 3 #[.int .i64 0], Ao 5 1 encB v8 (Be []), cell gh 31 #[.int .u64 0, .int .i64 0], cell g2 31 #[.int .u64 0, .int .i64 0], X]) rfl (BL Mt rfl) ?_; rintro ge
  refine AT (post := fun _ => [cell ge 3 #[.int .i64 0], cell gd 3 #[.int .i64 8], Ao 5 1 encB v8 (Be []), cell gh 31 #[.int .u64 0, .int .i64 0], cell g2 31 #[.int .u64 0, .int .i64 0], X]) rfl rfl (AM 1 (v := .int .i64 8) #[.int .i64 8] Bj.2 rfl rfl rfl rfl rfl rfl rfl rfl rfl) ?_; rintro ⟨⟩
  refine AT (post := fun _ => [cell ge 3 #[.int .i64 0], cell gd 3 #[.int .i64 8], Ao 5 1 encB v8 (Be []), cell gh 31 #[.int .u64 0, .int .i64 0], cell g2 31 #[.int .u64 0, .int .i64 0], X]) rfl rfl (AM 0 (v := .int .i64 0) #[.int .i64 0] Bj.2 rfl rfl rfl rfl rfl rfl rfl rfl rfl) ?_; rintro ⟨⟩
  refine Ab (Aq ?_)
  refine Bo.leave [2] rfl rfl ?_
  refine Bf [2, 1, 0] rfl (UN (L := L) (ps := ps)) rfl ?_
  refine Ad ?_
  refine Af Ak rfl ?_
  refine Ai rfl (Am  [2] 0 (Ah Tryz.func70 (by kernel_rfl) rfl) (NS hX hl) rfl rfl rfl (fun _ => rfl) rfl rfl rfl) ?_; rintro ⟨g8, w8⟩
  refine Ab (AX ?_)
  refine Bo.fact 1 rfl (fun _ h => Ao.is h) ?_; rintro ⟨A9, c9, rfl⟩
  refine Bo.keep (env' := [(0, v), (2, .pointer (some ⟨g2, 0, none⟩)), (3, .int .i64 0), (4, .pointer (some ⟨gh, 0, none⟩)), (10, v8), (11, .int .i64 8), (5, .pointer (some ⟨gd, 0, none⟩)), (6, .pointer (some ⟨ge, 0, none⟩)), (12, v), (13, .func (.func 84) #[] #[.pointer (some ⟨g8, 0, none⟩)])]) ⟨rfl, rfl, rfl, rfl, rfl, rfl, rfl, rfl, rfl, rfl, trivial⟩ ?_
  refine Bo.mid [cell g8 48 #[.slice A9 y.length c9], Ao 5 1 encB (.slice A9 y.length c9) y, Lg gh gd ge L ps 0, cell g2 31 #[.int .u64 0, .int .i64 0], X] (.refl _) ?_
  refine Hg (caps := [.pointer (some ⟨g8, 0, none⟩)]) (post := [Lg gh gd ge L ps N, Ao 5 1 encB (.slice A9 y.length c9) y, cell g8 48 #[.slice A9 y.length c9]]) (os' := [Lg gh gd ge L ps N, Ao 5 1 encB (.slice A9 y.length c9) y, cell g8 48 #[.slice A9 y.length c9], cell g2 31 #[.int .u64 0, .int .i64 0], X]) (.normal) [2, 1, 0] rfl (Ah Tryz.func84 (by kernel_rfl) rfl) (fun L1 fn1 tm1 hf1 r1 k11 k12 k13 k14 k15 k16 => Qf (V6 (.yield L1) #[] g8 (fun j => JT L1 r1 (Lg gh gd ge L ps j)) hl hr hlen hNp ?_)) rfl rfl rfl ?_
  · skip
    intro j x d hpj
    have hxl : x.length ≤ 65536 := hlen x (List.mem_of_getElem? hpj)
    have hst := Hh hpj
    have hs1 := hsum (j + 1)
    have hje : j < L.length := by have := (List.getElem?_eq_some_iff.1 hpj).1; omega
    obtain ⟨q, hLj⟩ : ∃ q, L[j]? = some q := ⟨_, List.getElem?_eq_getElem hje⟩
    obtain ⟨p, hp1, hp2⟩ := MG (ps := ps) (by rw [hL]; exact hLj)
    rw [hpj] at hp1
    obtain rfl := Option.some.inj hp1
    refine LK (D2 (n := 31) (env := [(14, d), (0, v), (2, .pointer (some ⟨g2, 0, none⟩)), (3, .int .i64 0), (4, .pointer (some ⟨gh, 0, none⟩)), (10, v8), (11, .int .i64 8), (5, .pointer (some ⟨gd, 0, none⟩)), (6, .pointer (some ⟨ge, 0, none⟩)), (12, v), (13, .func (.func 84) #[] #[.pointer (some ⟨g8, 0, none⟩)])]) (.normal) k12 k11 (by rw [k14]; rfl) ?_ ?_)
    · rw [k14, k13]
      refine (congrArg (fun t => Fr 31 { tmps := t, defers := [] } _) (?_ : _ = (tm1.setIfInBounds 14 d))).mpr (hf1.put (d := 14) (by decide) _)
      simp
    · intro w0 rs
      rw [k15]
      refine ER (by kernel_rfl) (by rintro ⟨a, w, h⟩; first | exact h.elim | exact nomatch h.1 | (obtain ⟨_, h, _⟩ := h; exact nomatch h)) ?_
      refine Af Ak rfl ?_
      refine AP ?_
      refine Hf 0 rfl k11 ?_
      rw [k16]
      refine KX 1 rfl Lg.open_ (fun _ => rfl) ?_; rintro ⟨⟩
      refine He ?_
      refine Ft (ER (by kernel_rfl) (by rintro ⟨a, w, h⟩; first | exact h.elim | exact nomatch h.1 | (obtain ⟨_, h, _⟩ := h; exact nomatch h)) ?_)
      refine Af Ak rfl ?_
      refine Ai (post := fun _ => [cell gh 31 #[.int .u64 (((Bq (L.take j)).1 : Nat) : Int), .int .i64 (((Bq (L.take j)).2 : Nat) : Int)], cell gd 3 #[.int .i64 8], cell ge 3 #[.int .i64 ((Cp (ps.take j) : Nat) : Int)], Cy L1 (CN r1), Ao 5 1 encB d x]) rfl (BQ (Ah Tryz.func71 (by kernel_rfl) rfl) (fun w hH => K4 w (hH.sl8 4 rfl) hxl hp2) rfl rfl rfl) ?_; rintro ⟨⟩
      refine Af Ak rfl ?_
      refine Ai (post := fun gx => [cell gx 31 #[.int .u64 0, .int .i64 0], cell gh 31 #[.int .u64 (((Bq (L.take j)).1 : Nat) : Int), .int .i64 (((Bq (L.take j)).2 : Nat) : Int)], cell gd 3 #[.int .i64 8], cell ge 3 #[.int .i64 ((Cp (ps.take j) : Nat) : Int)], Cy L1 (CN r1), Ao 5 1 encB d x]) rfl (BL Bk rfl) ?_; rintro gx
      refine AT (post := fun _ => [cell gx 31 #[.int .u64 ((q.1 : Nat) : Int), .int .i64 ((q.2 : Nat) : Int)], cell gh 31 #[.int .u64 (((Bq (L.take j)).1 : Nat) : Int), .int .i64 (((Bq (L.take j)).2 : Nat) : Int)], cell gd 3 #[.int .i64 8], cell ge 3 #[.int .i64 ((Cp (ps.take j) : Nat) : Int)], Cy L1 (CN r1), Ao 5 1 encB d x]) rfl rfl (AM 0 (v := .agg #[.int .u64 ((q.1 : Nat) : Int), .int .i64 ((q.2 : Nat) : Int)]) #[.int .u64 ((q.1 : Nat) : Int), .int .i64 ((q.2 : Nat) : Int)] An.2 rfl rfl rfl rfl rfl rfl rfl rfl rfl) ?_; rintro ⟨⟩
      refine Af Ak rfl ?_
      refine AP (Jt ?_)
      refine Ft ?_
      refine Ft (ER (by kernel_rfl) (by rintro ⟨a, w, h⟩; first | exact h.elim | exact nomatch h.1 | (obtain ⟨_, h, _⟩ := h; exact nomatch h)) ?_)
      refine Af Ak rfl ?_
      refine AP (Jt ?_)
      refine MB rfl ?_
      refine MC ?_
      refine Jt ?_
      refine Ft (ER (by kernel_rfl) (by rintro ⟨a, w, h⟩; first | exact h.elim | exact nomatch h.1 | (obtain ⟨_, h, _⟩ := h; exact nomatch h)) ?_)
      refine Af Ak rfl ?_
      refine Ac rfl (.agg #[.int .u64 ((q.1 : Nat) : Int), .int .i64 ((q.2 : Nat) : Int)]) (fun b w hb hH => Bg rfl rfl (EH (cs := [.int .u64 ((q.1 : Nat) : Int), .int .i64 ((q.2 : Nat) : Int)]) An rfl) (hH.row 0 rfl) hb) ?_
      refine AT (post := fun _ => [cell gx 31 #[.int .u64 ((q.1 : Nat) : Int), .int .i64 ((q.2 : Nat) : Int)], cell gh 31 #[.int .u64 ((q.1 : Nat) : Int), .int .i64 ((q.2 : Nat) : Int)], cell gd 3 #[.int .i64 8], cell ge 3 #[.int .i64 ((Cp (ps.take j) : Nat) : Int)], Cy L1 (CN r1), Ao 5 1 encB d x]) rfl rfl (AM 1 (v := .agg #[.int .u64 ((q.1 : Nat) : Int), .int .i64 ((q.2 : Nat) : Int)]) #[.int .u64 ((q.1 : Nat) : Int), .int .i64 ((q.2 : Nat) : Int)] An.2 rfl rfl rfl rfl rfl rfl rfl rfl rfl) ?_; rintro ⟨⟩
      refine AP (Jt ?_)
      refine ER (by kernel_rfl) (by rintro ⟨a, w, h⟩; first | exact h.elim | exact nomatch h.1 | (obtain ⟨_, h, _⟩ := h; exact nomatch h)) ?_
      refine Af Ak rfl ?_
      refine Ac rfl (.int .i64 ((Cp (ps.take j) : Nat) : Int)) (fun b w hb hH => Bg rfl rfl (Bt Bj rfl) (hH.row 3 rfl) hb) ?_
      refine Ac rfl (.int .i64 8) (fun b w hb hH => Bg rfl rfl (Bt Bj rfl) (hH.row 2 rfl) hb) ?_
      refine Af Ak rfl ?_
      refine Ac rfl (.int .i64 (x.length : Int)) (fun b w hb hH => C2 5 Tryz.underlying48 rfl rfl rfl hH hb) ?_
      refine Ac rfl (.int .i64 ((8 + x.length : Nat) : Int)) (fun b w hb hH => AK rfl rfl rfl rfl (by rw [IntWalk.i64_in _ (by omega)]; omega) hb) ?_
      refine Ac rfl (.int .i64 ((Cp (ps.take (j + 1)) : Nat) : Int)) (fun b w hb hH => AK rfl rfl rfl rfl (by rw [IntWalk.i64_in _ (by omega)]; omega) hb) ?_
      refine AT (post := fun _ => [cell gx 31 #[.int .u64 ((q.1 : Nat) : Int), .int .i64 ((q.2 : Nat) : Int)], cell gh 31 #[.int .u64 ((q.1 : Nat) : Int), .int .i64 ((q.2 : Nat) : Int)], cell gd 3 #[.int .i64 8], cell ge 3 #[.int .i64 ((Cp (ps.take (j + 1)) : Nat) : Int)], Cy L1 (CN r1), Ao 5 1 encB d x]) rfl rfl (AM 3 (v := .int .i64 ((Cp (ps.take (j + 1)) : Nat) : Int)) #[.int .i64 ((Cp (ps.take (j + 1)) : Nat) : Int)] Bj.2 rfl rfl rfl rfl rfl rfl rfl rfl rfl) ?_; rintro ⟨⟩
      refine AP (BJ ?_)
      refine Ip [1, 2, 3] rfl (Pr (Ib hLj)) rfl ?_
      exact Ju [2, 0] rfl rfl
  intro D aT wT hDm hD0 hdf hF hH
  obtain ⟨_, hH⟩ := J5 0 rfl (Lg.openN e1 e2) hH
  refine NT (env := [(2, .pointer (some ⟨g2, 0, none⟩)), (3, .int .i64 0), (4, .pointer (some ⟨gh, 0, none⟩)), (6, .pointer (some ⟨ge, 0, none⟩))]) (os := [cell gh 31 #[.int .u64 ((z.1 : Nat) : Int), .int .i64 ((z.2 : Nat) : Int)], cell gd 3 #[.int .i64 8], cell ge 3 #[.int .i64 (n : Int)], Ao 5 1 encB (.slice A9 y.length c9) y, cell g8 48 #[.slice A9 y.length c9], cell g2 31 #[.int .u64 0, .int .i64 0], X]) ?_ aT wT hDm hD0 hdf (hF.keep ⟨rfl, rfl, rfl, rfl, trivial⟩) hH
  refine Te (by kernel_rfl) ?_
  refine MI 0 1 (by kernel_rfl) ?_ ?_
  · skip
    refine DG rfl rfl (.agg #[.int .u64 ((z.1 : Nat) : Int), .int .i64 ((z.2 : Nat) : Int)]) (fun b w hb hH => Bg rfl rfl (EH (cs := [.int .u64 ((z.1 : Nat) : Int), .int .i64 ((z.2 : Nat) : Int)]) An rfl) (hH.row 0 rfl) hb) ?_
    refine MI 1 2 (by kernel_rfl) ?_ ?_
    · skip
      refine DG rfl rfl (.int .i64 (n : Int)) (fun b w hb hH => Bg rfl rfl (Bt Bj rfl) (hH.row 2 rfl) hb) ?_
      refine Eg 2 (by kernel_rfl) ?_
      refine Hj (post := fun _ => [cell gh 31 #[.int .u64 ((z.1 : Nat) : Int), .int .i64 ((z.2 : Nat) : Int)], cell gd 3 #[.int .i64 8], cell ge 3 #[.int .i64 (n : Int)], Ao 5 1 encB (.slice A9 y.length c9) y, cell g8 48 #[.slice A9 y.length c9], cell g2 31 #[.int .u64 ((z.1 : Nat) : Int), .int .i64 ((z.2 : Nat) : Int)], X]) rfl rfl rfl (fun B w0 => AM 5 (v := .agg #[.int .u64 ((z.1 : Nat) : Int), .int .i64 ((z.2 : Nat) : Int)]) #[.int .u64 ((z.1 : Nat) : Int), .int .i64 ((z.2 : Nat) : Int)] An.2 rfl rfl rfl rfl rfl rfl rfl rfl rfl) ?_; rintro ⟨⟩
      refine Eg 3 (by kernel_rfl) ?_
      refine DG rfl rfl (.int .i64 (n : Int)) (fun b w hb hH => Ae Ak rfl hb) ?_
      refine Hk (by kernel_rfl) (NT ?_)
      refine Pm.keep (env' := [(2, .pointer (some ⟨g2, 0, none⟩)), (3, .int .i64 (n : Int))]) ⟨rfl, rfl, trivial⟩ ?_
      exact LL (fun a w hD hD0 hd hF hH => Jv (os := [cell gh 31 #[.int .u64 ((z.1 : Nat) : Int), .int .i64 ((z.2 : Nat) : Int)], cell gd 3 #[.int .i64 8], cell ge 3 #[.int .i64 (n : Int)], Ao 5 1 encB (.slice A9 y.length c9) y, cell g8 48 #[.slice A9 y.length c9], cell g2 31 #[.int .u64 ((z.1 : Nat) : Int), .int .i64 ((z.2 : Nat) : Int)], X]) (.cell 5 (v := .agg #[.int .u64 ((z.1 : Nat) : Int), .int .i64 ((z.2 : Nat) : Int)]) (EH (cs := [.int .u64 ((z.1 : Nat) : Int), .int .i64 ((z.2 : Nat) : Int)]) An rfl) rfl rfl) (.tmp rfl) rfl (fun w' h => AB (X := Unit) (val := fun _ => .tuple #[.agg #[.int .u64 ((z.1 : Nat) : Int), .int .i64 ((z.2 : Nat) : Int)], .int .i64 (n : Int)]) (post := fun _ => [X]) (os := [cell gh 31 #[.int .u64 ((z.1 : Nat) : Int), .int .i64 ((z.2 : Nat) : Int)], cell gd 3 #[.int .i64 8], cell ge 3 #[.int .i64 (n : Int)], Ao 5 1 encB (.slice A9 y.length c9) y, cell g8 48 #[.slice A9 y.length c9], cell g2 31 #[.int .u64 ((z.1 : Nat) : Int), .int .i64 ((z.2 : Nat) : Int)], X]) () rfl [6] rfl h Cz) D a w hD hD0 hd hF hH)
    · skip
      refine Hj (post := fun _ => [cell gh 31 #[.int .u64 ((z.1 : Nat) : Int), .int .i64 ((z.2 : Nat) : Int)], cell gd 3 #[.int .i64 8], cell ge 3 #[.int .i64 (n : Int)], Ao 5 1 encB (.slice A9 y.length c9) y, cell g8 48 #[.slice A9 y.length c9], cell g2 31 #[.int .u64 ((z.1 : Nat) : Int), .int .i64 ((z.2 : Nat) : Int)], X]) rfl rfl rfl (fun B w0 => AM 5 (v := .agg #[.int .u64 ((z.1 : Nat) : Int), .int .i64 ((z.2 : Nat) : Int)]) #[.int .u64 ((z.1 : Nat) : Int), .int .i64 ((z.2 : Nat) : Int)] An.2 rfl rfl rfl rfl rfl rfl rfl rfl rfl) ?_; rintro ⟨⟩
      refine Eg 1 (by kernel_rfl) ?_
      refine DG rfl rfl (.int .i64 (n : Int)) (fun b w hb hH => Bg rfl rfl (Bt Bj rfl) (hH.row 2 rfl) hb) ?_
      refine Eg 3 (by kernel_rfl) ?_
      refine DG rfl rfl (.int .i64 (n : Int)) (fun b w hb hH => Ae Ak rfl hb) ?_
      refine Hk (by kernel_rfl) (NT ?_)
      refine Pm.keep (env' := [(2, .pointer (some ⟨g2, 0, none⟩)), (3, .int .i64 (n : Int))]) ⟨rfl, rfl, trivial⟩ ?_
      exact LL (fun a w hD hD0 hd hF hH => Jv (os := [cell gh 31 #[.int .u64 ((z.1 : Nat) : Int), .int .i64 ((z.2 : Nat) : Int)], cell gd 3 #[.int .i64 8], cell ge 3 #[.int .i64 (n : Int)], Ao 5 1 encB (.slice A9 y.length c9) y, cell g8 48 #[.slice A9 y.length c9], cell g2 31 #[.int .u64 ((z.1 : Nat) : Int), .int .i64 ((z.2 : Nat) : Int)], X]) (.cell 5 (v := .agg #[.int .u64 ((z.1 : Nat) : Int), .int .i64 ((z.2 : Nat) : Int)]) (EH (cs := [.int .u64 ((z.1 : Nat) : Int), .int .i64 ((z.2 : Nat) : Int)]) An rfl) rfl rfl) (.tmp rfl) rfl (fun w' h => AB (X := Unit) (val := fun _ => .tuple #[.agg #[.int .u64 ((z.1 : Nat) : Int), .int .i64 ((z.2 : Nat) : Int)], .int .i64 (n : Int)]) (post := fun _ => [X]) (os := [cell gh 31 #[.int .u64 ((z.1 : Nat) : Int), .int .i64 ((z.2 : Nat) : Int)], cell gd 3 #[.int .i64 8], cell ge 3 #[.int .i64 (n : Int)], Ao 5 1 encB (.slice A9 y.length c9) y, cell g8 48 #[.slice A9 y.length c9], cell g2 31 #[.int .u64 ((z.1 : Nat) : Int), .int .i64 ((z.2 : Nat) : Int)], X]) () rfl [6] rfl h Cz) D a w hD hD0 hd hF hH)
  · skip
    refine DG rfl rfl (.int .i64 (n : Int)) (fun b w hb hH => Bg rfl rfl (Bt Bj rfl) (hH.row 2 rfl) hb) ?_
    refine Eg 0 (by kernel_rfl) ?_
    refine DG rfl rfl (.agg #[.int .u64 ((z.1 : Nat) : Int), .int .i64 ((z.2 : Nat) : Int)]) (fun b w hb hH => Bg rfl rfl (EH (cs := [.int .u64 ((z.1 : Nat) : Int), .int .i64 ((z.2 : Nat) : Int)]) An rfl) (hH.row 0 rfl) hb) ?_
    refine Eg 2 (by kernel_rfl) ?_
    refine Hj (post := fun _ => [cell gh 31 #[.int .u64 ((z.1 : Nat) : Int), .int .i64 ((z.2 : Nat) : Int)], cell gd 3 #[.int .i64 8], cell ge 3 #[.int .i64 (n : Int)], Ao 5 1 encB (.slice A9 y.length c9) y, cell g8 48 #[.slice A9 y.length c9], cell g2 31 #[.int .u64 ((z.1 : Nat) : Int), .int .i64 ((z.2 : Nat) : Int)], X]) rfl rfl rfl (fun B w0 => AM 5 (v := .agg #[.int .u64 ((z.1 : Nat) : Int), .int .i64 ((z.2 : Nat) : Int)]) #[.int .u64 ((z.1 : Nat) : Int), .int .i64 ((z.2 : Nat) : Int)] An.2 rfl rfl rfl rfl rfl rfl rfl rfl rfl) ?_; rintro ⟨⟩
    refine Eg 3 (by kernel_rfl) ?_
    refine DG rfl rfl (.int .i64 (n : Int)) (fun b w hb hH => Ae Ak rfl hb) ?_
    refine Hk (by kernel_rfl) (NT ?_)
    refine Pm.keep (env' := [(2, .pointer (some ⟨g2, 0, none⟩)), (3, .int .i64 (n : Int))]) ⟨rfl, rfl, trivial⟩ ?_
    exact LL (fun a w hD hD0 hd hF hH => Jv (os := [cell gh 31 #[.int .u64 ((z.1 : Nat) : Int), .int .i64 ((z.2 : Nat) : Int)], cell gd 3 #[.int .i64 8], cell ge 3 #[.int .i64 (n : Int)], Ao 5 1 encB (.slice A9 y.length c9) y, cell g8 48 #[.slice A9 y.length c9], cell g2 31 #[.int .u64 ((z.1 : Nat) : Int), .int .i64 ((z.2 : Nat) : Int)], X]) (.cell 5 (v := .agg #[.int .u64 ((z.1 : Nat) : Int), .int .i64 ((z.2 : Nat) : Int)]) (EH (cs := [.int .u64 ((z.1 : Nat) : Int), .int .i64 ((z.2 : Nat) : Int)]) An rfl) rfl rfl) (.tmp rfl) rfl (fun w' h => AB (X := Unit) (val := fun _ => .tuple #[.agg #[.int .u64 ((z.1 : Nat) : Int), .int .i64 ((z.2 : Nat) : Int)], .int .i64 (n : Int)]) (post := fun _ => [X]) (os := [cell gh 31 #[.int .u64 ((z.1 : Nat) : Int), .int .i64 ((z.2 : Nat) : Int)], cell gd 3 #[.int .i64 8], cell ge 3 #[.int .i64 (n : Int)], Ao 5 1 encB (.slice A9 y.length c9) y, cell g8 48 #[.slice A9 y.length c9], cell g2 31 #[.int .u64 ((z.1 : Nat) : Int), .int .i64 ((z.2 : Nat) : Int)], X]) () rfl [6] rfl h Cz) D a w hD hD0 hd hF hH)
theorem Th {X : Ass} {v : Value} {y : List UInt8} (hX : Cw X v y) (hl : y.length ≤ 137438953472) {ps : List (List UInt8)} {L : List HV} {N n : Nat} {z : HV} (hr : (BD y).1 = ps) (hL : J7 ps = L) (hN : L.length = N) (hNp : N < ps.length) (e1 : Bq (L.take N) = z) (e2 : Cp (ps.take N) = n) : AS Tryz.prog 33 #[v] [X] (fun (_ : Unit) => .tuple #[.agg #[.int .u64 ((z.1 : Nat) : Int), .int .i64 ((z.2 : Nat) : Int)], .int .i64 (n : Int)]) (fun (_ : Unit) => [X]) := by
  refine ME (args := [v]) 31 Tryz.func33 rfl rfl rfl ?_; intro w rs
  have hlen : ∀ x, x ∈ ps → x.length ≤ 65536 := by have h7 := F5 y.length y; change ∀ x, x ∈ (BD y).1 → x.length ≤ 65536 at h7; rwa [hr] at h7
  have hsum : ∀ j, Cp (ps.take j) ≤ y.length := fun j => by have h5 := FK y.length y; have h6 := Hd y.length y; change (BD y).2 = Cp (BD y).1 at h5; change (BD y).2 ≤ y.length at h6; have h7 := J6 (BD y).1 j; rw [hr] at h7 h5; omega
  refine Ad ?_
  refine Af Ak rfl ?_
  refine Ai (post := fun g2 => [cell g2 31 #[.int .u64 0, .int .i64 0], X]) rfl (BL Bk rfl) ?_; rintro g2
  refine Af Ak rfl ?_
  refine Ab (Ad ?_)
  refine Af Ak rfl ?_
  refine Ai (post := fun gh => [cell gh 31 #[.int .u64 0, .int .i64 0], cell g2 31 #[.int .u64 0, .int .i64 0], X]) rfl (BL Bk rfl) ?_; rintro gh
  refine Ab (Ad ?_)
  refine Af Ak rfl ?_
  refine Ai (post := fun v8 => [Ao 5 1 encB v8 (Be []), cell gh 31 #[.int .u64 0, .int .i64 0], cell g2 31 #[.int .u64 0, .int .i64 0], X]) rfl (P1 (os' := fun v8 => [Ao 5 1 encB v8 (Be []), cell gh 31 #[.int .u64 0, .int .i64 0], cell g2 31 #[.int .u64 0, .int .i64 0], X]) [] 0 (Ah Tryz.func43 (by kernel_rfl) rfl) (fun w hH => JN w (JX w) (by simp) rfl) rfl rfl rfl (fun _ => rfl) rfl rfl rfl) ?_; rintro v8
  refine Ac rfl (.int .i64 8) (fun b w hb hH => Qh 0 Tryz.underlying48 rfl rfl rfl hH hb) ?_
  refine Ai (post := fun gd => [cell gd 3 #[.int .i64 0], Ao 5 1 encB v8 (Be []), cell gh 31 #[.int .u64 0, .int .i64 0], cell g2 31 #[.int .u64 0, .int .i64 0], X]) rfl (BL Mt rfl) ?_; rintro gd
  refine Ai (post := fun ge => [cell ge 3 #[.int .i64 0], cell gd 3 #[.int .i64 0], Ao 5 1 encB v8 (Be []), cell gh 31 #[.int .u64 0, .int .i64 0], cell g2 31 #[.int .u64 0, .int .i64 0], X]) rfl (BL Mt rfl) ?_; rintro ge
  refine AT (post := fun _ => [cell ge 3 #[.int .i64 0], cell gd 3 #[.int .i64 8], Ao 5 1 encB v8 (Be []), cell gh 31 #[.int .u64 0, .int .i64 0], cell g2 31 #[.int .u64 0, .int .i64 0], X]) rfl rfl (AM 1 (v := .int .i64 8) #[.int .i64 8] Bj.2 rfl rfl rfl rfl rfl rfl rfl rfl rfl) ?_; rintro ⟨⟩
  refine AT (post := fun _ => [cell ge 3 #[.int .i64 0], cell gd 3 #[.int .i64 8], Ao 5 1 encB v8 (Be []), cell gh 31 #[.int .u64 0, .int .i64 0], cell g2 31 #[.int .u64 0, .int .i64 0], X]) rfl rfl (AM 0 (v := .int .i64 0) #[.int .i64 0] Bj.2 rfl rfl rfl rfl rfl rfl rfl rfl rfl) ?_; rintro ⟨⟩
  refine Ab (Aq ?_)
  refine Bo.leave [2] rfl rfl ?_
  refine Bf [2, 1, 0] rfl (UN (L := L) (ps := ps)) rfl ?_
  refine Ad ?_
  refine Af Ak rfl ?_
  refine Ai rfl (Am  [2] 0 (Ah Tryz.func70 (by kernel_rfl) rfl) (NS hX hl) rfl rfl rfl (fun _ => rfl) rfl rfl rfl) ?_; rintro ⟨g8, w8⟩
  refine Ab (AX ?_)
  refine Bo.fact 1 rfl (fun _ h => Ao.is h) ?_; rintro ⟨A9, c9, rfl⟩
  refine Bo.keep (env' := [(0, v), (2, .pointer (some ⟨g2, 0, none⟩)), (3, .int .i64 0), (4, .pointer (some ⟨gh, 0, none⟩)), (10, v8), (11, .int .i64 8), (5, .pointer (some ⟨gd, 0, none⟩)), (6, .pointer (some ⟨ge, 0, none⟩)), (12, v), (13, .func (.func 84) #[] #[.pointer (some ⟨g8, 0, none⟩)])]) ⟨rfl, rfl, rfl, rfl, rfl, rfl, rfl, rfl, rfl, rfl, trivial⟩ ?_
  refine Bo.mid [cell g8 48 #[.slice A9 y.length c9], Ao 5 1 encB (.slice A9 y.length c9) y, Lg gh gd ge L ps 0, cell g2 31 #[.int .u64 0, .int .i64 0], X] (.refl _) ?_
  refine Hg (caps := [.pointer (some ⟨g8, 0, none⟩)]) (post := [Lg gh gd ge L ps N, Ao 5 1 encB (.slice A9 y.length c9) y, cell g8 48 #[.slice A9 y.length c9]]) (os' := [Lg gh gd ge L ps N, Ao 5 1 encB (.slice A9 y.length c9) y, cell g8 48 #[.slice A9 y.length c9], cell g2 31 #[.int .u64 0, .int .i64 0], X]) (.exit 0) [2, 1, 0] rfl (Ah Tryz.func84 (by kernel_rfl) rfl) (fun L1 fn1 tm1 hf1 r1 k11 k12 k13 k14 k15 k16 => Qf (VZ (N := N) (.yield L1) #[] g8 (fun j => JT L1 r1 (Lg gh gd ge L ps j)) (JT L1 (KY (.exit 0) r1) (Lg gh gd ge L ps N)) hl hr hlen hNp ?_ ?_)) rfl rfl rfl ?_
  · skip
    intro j x d hpj hjN
    have hxl : x.length ≤ 65536 := hlen x (List.mem_of_getElem? hpj)
    have hst := Hh hpj
    have hs1 := hsum (j + 1)
    have hje : j < L.length := by have := (List.getElem?_eq_some_iff.1 hpj).1; omega
    obtain ⟨q, hLj⟩ : ∃ q, L[j]? = some q := ⟨_, List.getElem?_eq_getElem hje⟩
    obtain ⟨p, hp1, hp2⟩ := MG (ps := ps) (by rw [hL]; exact hLj)
    rw [hpj] at hp1
    obtain rfl := Option.some.inj hp1
    refine LK (D2 (n := 31) (env := [(14, d), (0, v), (2, .pointer (some ⟨g2, 0, none⟩)), (3, .int .i64 0), (4, .pointer (some ⟨gh, 0, none⟩)), (10, v8), (11, .int .i64 8), (5, .pointer (some ⟨gd, 0, none⟩)), (6, .pointer (some ⟨ge, 0, none⟩)), (12, v), (13, .func (.func 84) #[] #[.pointer (some ⟨g8, 0, none⟩)])]) (.normal) k12 k11 (by rw [k14]; rfl) ?_ ?_)
    · rw [k14, k13]
      refine (congrArg (fun t => Fr 31 { tmps := t, defers := [] } _) (?_ : _ = (tm1.setIfInBounds 14 d))).mpr (hf1.put (d := 14) (by decide) _)
      simp
    · intro w0 rs
      rw [k15]
      refine ER (by kernel_rfl) (by rintro ⟨a, w, h⟩; first | exact h.elim | exact nomatch h.1 | (obtain ⟨_, h, _⟩ := h; exact nomatch h)) ?_
      refine Af Ak rfl ?_
      refine AP ?_
      refine Hf 0 rfl k11 ?_
      rw [k16]
      refine KX 1 rfl Lg.open_ (fun _ => rfl) ?_; rintro ⟨⟩
      refine He ?_
      refine Ft (ER (by kernel_rfl) (by rintro ⟨a, w, h⟩; first | exact h.elim | exact nomatch h.1 | (obtain ⟨_, h, _⟩ := h; exact nomatch h)) ?_)
      refine Af Ak rfl ?_
      refine Ai (post := fun _ => [cell gh 31 #[.int .u64 (((Bq (L.take j)).1 : Nat) : Int), .int .i64 (((Bq (L.take j)).2 : Nat) : Int)], cell gd 3 #[.int .i64 8], cell ge 3 #[.int .i64 ((Cp (ps.take j) : Nat) : Int)], Cy L1 (CN r1), Ao 5 1 encB d x]) rfl (BQ (Ah Tryz.func71 (by kernel_rfl) rfl) (fun w hH => K4 w (hH.sl8 4 rfl) hxl hp2) rfl rfl rfl) ?_; rintro ⟨⟩
      refine Af Ak rfl ?_
      refine Ai (post := fun gx => [cell gx 31 #[.int .u64 0, .int .i64 0], cell gh 31 #[.int .u64 (((Bq (L.take j)).1 : Nat) : Int), .int .i64 (((Bq (L.take j)).2 : Nat) : Int)], cell gd 3 #[.int .i64 8], cell ge 3 #[.int .i64 ((Cp (ps.take j) : Nat) : Int)], Cy L1 (CN r1), Ao 5 1 encB d x]) rfl (BL Bk rfl) ?_; rintro gx
      refine AT (post := fun _ => [cell gx 31 #[.int .u64 ((q.1 : Nat) : Int), .int .i64 ((q.2 : Nat) : Int)], cell gh 31 #[.int .u64 (((Bq (L.take j)).1 : Nat) : Int), .int .i64 (((Bq (L.take j)).2 : Nat) : Int)], cell gd 3 #[.int .i64 8], cell ge 3 #[.int .i64 ((Cp (ps.take j) : Nat) : Int)], Cy L1 (CN r1), Ao 5 1 encB d x]) rfl rfl (AM 0 (v := .agg #[.int .u64 ((q.1 : Nat) : Int), .int .i64 ((q.2 : Nat) : Int)]) #[.int .u64 ((q.1 : Nat) : Int), .int .i64 ((q.2 : Nat) : Int)] An.2 rfl rfl rfl rfl rfl rfl rfl rfl rfl) ?_; rintro ⟨⟩
      refine Af Ak rfl ?_
      refine AP (Jt ?_)
      refine Ft ?_
      refine Ft (ER (by kernel_rfl) (by rintro ⟨a, w, h⟩; first | exact h.elim | exact nomatch h.1 | (obtain ⟨_, h, _⟩ := h; exact nomatch h)) ?_)
      refine Af Ak rfl ?_
      refine AP (Jt ?_)
      refine MB rfl ?_
      refine MC ?_
      refine Jt ?_
      refine Ft (ER (by kernel_rfl) (by rintro ⟨a, w, h⟩; first | exact h.elim | exact nomatch h.1 | (obtain ⟨_, h, _⟩ := h; exact nomatch h)) ?_)
      refine Af Ak rfl ?_
      refine Ac rfl (.agg #[.int .u64 ((q.1 : Nat) : Int), .int .i64 ((q.2 : Nat) : Int)]) (fun b w hb hH => Bg rfl rfl (EH (cs := [.int .u64 ((q.1 : Nat) : Int), .int .i64 ((q.2 : Nat) : Int)]) An rfl) (hH.row 0 rfl) hb) ?_
      refine AT (post := fun _ => [cell gx 31 #[.int .u64 ((q.1 : Nat) : Int), .int .i64 ((q.2 : Nat) : Int)], cell gh 31 #[.int .u64 ((q.1 : Nat) : Int), .int .i64 ((q.2 : Nat) : Int)], cell gd 3 #[.int .i64 8], cell ge 3 #[.int .i64 ((Cp (ps.take j) : Nat) : Int)], Cy L1 (CN r1), Ao 5 1 encB d x]) rfl rfl (AM 1 (v := .agg #[.int .u64 ((q.1 : Nat) : Int), .int .i64 ((q.2 : Nat) : Int)]) #[.int .u64 ((q.1 : Nat) : Int), .int .i64 ((q.2 : Nat) : Int)] An.2 rfl rfl rfl rfl rfl rfl rfl rfl rfl) ?_; rintro ⟨⟩
      refine AP (Jt ?_)
      refine ER (by kernel_rfl) (by rintro ⟨a, w, h⟩; first | exact h.elim | exact nomatch h.1 | (obtain ⟨_, h, _⟩ := h; exact nomatch h)) ?_
      refine Af Ak rfl ?_
      refine Ac rfl (.int .i64 ((Cp (ps.take j) : Nat) : Int)) (fun b w hb hH => Bg rfl rfl (Bt Bj rfl) (hH.row 3 rfl) hb) ?_
      refine Ac rfl (.int .i64 8) (fun b w hb hH => Bg rfl rfl (Bt Bj rfl) (hH.row 2 rfl) hb) ?_
      refine Af Ak rfl ?_
      refine Ac rfl (.int .i64 (x.length : Int)) (fun b w hb hH => C2 5 Tryz.underlying48 rfl rfl rfl hH hb) ?_
      refine Ac rfl (.int .i64 ((8 + x.length : Nat) : Int)) (fun b w hb hH => AK rfl rfl rfl rfl (by rw [IntWalk.i64_in _ (by omega)]; omega) hb) ?_
      refine Ac rfl (.int .i64 ((Cp (ps.take (j + 1)) : Nat) : Int)) (fun b w hb hH => AK rfl rfl rfl rfl (by rw [IntWalk.i64_in _ (by omega)]; omega) hb) ?_
      refine AT (post := fun _ => [cell gx 31 #[.int .u64 ((q.1 : Nat) : Int), .int .i64 ((q.2 : Nat) : Int)], cell gh 31 #[.int .u64 ((q.1 : Nat) : Int), .int .i64 ((q.2 : Nat) : Int)], cell gd 3 #[.int .i64 8], cell ge 3 #[.int .i64 ((Cp (ps.take (j + 1)) : Nat) : Int)], Cy L1 (CN r1), Ao 5 1 encB d x]) rfl rfl (AM 3 (v := .int .i64 ((Cp (ps.take (j + 1)) : Nat) : Int)) #[.int .i64 ((Cp (ps.take (j + 1)) : Nat) : Int)] Bj.2 rfl rfl rfl rfl rfl rfl rfl rfl rfl) ?_; rintro ⟨⟩
      refine AP (BJ ?_)
      refine Ip [1, 2, 3] rfl (Pr (Ib hLj)) rfl ?_
      exact Ju [2, 0] rfl rfl
  · skip
    intro j x d hpj hjN
    have hxl : x.length ≤ 65536 := hlen x (List.mem_of_getElem? hpj)
    have hst := Hh hpj
    have hs1 := hsum (j + 1)
    obtain rfl := hjN
    have hbad : EE x = none := K1 (ps := ps) (by rw [hL, hN]; exact hpj)
    refine LK (D2 (n := 31) (env := [(14, d), (0, v), (2, .pointer (some ⟨g2, 0, none⟩)), (3, .int .i64 0), (4, .pointer (some ⟨gh, 0, none⟩)), (10, v8), (11, .int .i64 8), (5, .pointer (some ⟨gd, 0, none⟩)), (6, .pointer (some ⟨ge, 0, none⟩)), (12, v), (13, .func (.func 84) #[] #[.pointer (some ⟨g8, 0, none⟩)])]) (.exit 0) k12 k11 (by rw [k14]; rfl) ?_ ?_)
    · rw [k14, k13]
      refine (congrArg (fun t => Fr 31 { tmps := t, defers := [] } _) (?_ : _ = (tm1.setIfInBounds 14 d))).mpr (hf1.put (d := 14) (by decide) _)
      simp
    · intro w0 rs
      rw [k15]
      refine ER (by kernel_rfl) (by rintro ⟨a, w, h⟩; first | exact h.elim | exact nomatch h.1 | (obtain ⟨_, h, _⟩ := h; exact nomatch h)) ?_
      refine Af Ak rfl ?_
      refine AP ?_
      refine Hf 0 rfl k11 ?_
      rw [k16]
      refine He ?_
      refine Ft (ER (by kernel_rfl) (by rintro ⟨a, w, h⟩; first | exact h.elim | exact nomatch h.1 | (obtain ⟨_, h, _⟩ := h; exact nomatch h)) ?_)
      refine Af Ak rfl ?_
      refine Ai (post := fun _ => [Cy L1 (CN r1), Lg gh gd ge L ps j, Ao 5 1 encB d x]) rfl (BQ (Ah Tryz.func71 (by kernel_rfl) rfl) (fun w hH => Pq w (hH.sl8 2 rfl) hxl hbad) rfl rfl rfl) ?_; rintro ⟨⟩
      refine Af Ak rfl ?_
      refine Ai (post := fun gx => [cell gx 31 #[.int .u64 0, .int .i64 0], Cy L1 (CN r1), Lg gh gd ge L ps j, Ao 5 1 encB d x]) rfl (BL Bk rfl) ?_; rintro gx
      refine AT (post := fun _ => [cell gx 31 #[.int .u64 0, .int .i64 0], Cy L1 (CN r1), Lg gh gd ge L ps j, Ao 5 1 encB d x]) rfl rfl (AM 0 (v := .agg #[.int .u64 0, .int .i64 0]) #[.int .u64 0, .int .i64 0] An.2 rfl rfl rfl rfl rfl rfl rfl rfl rfl) ?_; rintro ⟨⟩
      refine Af Ak rfl ?_
      refine AP (Jt ?_)
      refine Ft ?_
      refine Ft (ER (by kernel_rfl) (by rintro ⟨a, w, h⟩; first | exact h.elim | exact nomatch h.1 | (obtain ⟨_, h, _⟩ := h; exact nomatch h)) ?_)
      refine Af Ak rfl ?_
      refine AP (Jt ?_)
      refine S1 rfl ?_
      refine Vm ?_
      refine EO (Ev (by decide) ?_)
      exact Ju [1, 2] rfl rfl
  intro D aT wT hDm hD0 hdf hF hH
  obtain ⟨_, hH⟩ := J5 0 rfl (Lg.openN e1 e2) hH
  refine Tf ?_
  refine NT (env := [(2, .pointer (some ⟨g2, 0, none⟩)), (3, .int .i64 0), (4, .pointer (some ⟨gh, 0, none⟩)), (6, .pointer (some ⟨ge, 0, none⟩))]) (os := [cell gh 31 #[.int .u64 ((z.1 : Nat) : Int), .int .i64 ((z.2 : Nat) : Int)], cell gd 3 #[.int .i64 8], cell ge 3 #[.int .i64 (n : Int)], Ao 5 1 encB (.slice A9 y.length c9) y, cell g8 48 #[.slice A9 y.length c9], cell g2 31 #[.int .u64 0, .int .i64 0], X]) ?_ aT wT hDm hD0 hdf (hF.keep ⟨rfl, rfl, rfl, rfl, trivial⟩) hH
  refine Te (by kernel_rfl) ?_
  refine MI 0 1 (by kernel_rfl) ?_ ?_
  · skip
    refine DG rfl rfl (.agg #[.int .u64 ((z.1 : Nat) : Int), .int .i64 ((z.2 : Nat) : Int)]) (fun b w hb hH => Bg rfl rfl (EH (cs := [.int .u64 ((z.1 : Nat) : Int), .int .i64 ((z.2 : Nat) : Int)]) An rfl) (hH.row 0 rfl) hb) ?_
    refine MI 1 2 (by kernel_rfl) ?_ ?_
    · skip
      refine DG rfl rfl (.int .i64 (n : Int)) (fun b w hb hH => Bg rfl rfl (Bt Bj rfl) (hH.row 2 rfl) hb) ?_
      refine Eg 2 (by kernel_rfl) ?_
      refine Hj (post := fun _ => [cell gh 31 #[.int .u64 ((z.1 : Nat) : Int), .int .i64 ((z.2 : Nat) : Int)], cell gd 3 #[.int .i64 8], cell ge 3 #[.int .i64 (n : Int)], Ao 5 1 encB (.slice A9 y.length c9) y, cell g8 48 #[.slice A9 y.length c9], cell g2 31 #[.int .u64 ((z.1 : Nat) : Int), .int .i64 ((z.2 : Nat) : Int)], X]) rfl rfl rfl (fun B w0 => AM 5 (v := .agg #[.int .u64 ((z.1 : Nat) : Int), .int .i64 ((z.2 : Nat) : Int)]) #[.int .u64 ((z.1 : Nat) : Int), .int .i64 ((z.2 : Nat) : Int)] An.2 rfl rfl rfl rfl rfl rfl rfl rfl rfl) ?_; rintro ⟨⟩
      refine Eg 3 (by kernel_rfl) ?_
      refine DG rfl rfl (.int .i64 (n : Int)) (fun b w hb hH => Ae Ak rfl hb) ?_
      refine Hk (by kernel_rfl) (NT ?_)
      refine Pm.keep (env' := [(2, .pointer (some ⟨g2, 0, none⟩)), (3, .int .i64 (n : Int))]) ⟨rfl, rfl, trivial⟩ ?_
      exact LL (fun a w hD hD0 hd hF hH => Jv (os := [cell gh 31 #[.int .u64 ((z.1 : Nat) : Int), .int .i64 ((z.2 : Nat) : Int)], cell gd 3 #[.int .i64 8], cell ge 3 #[.int .i64 (n : Int)], Ao 5 1 encB (.slice A9 y.length c9) y, cell g8 48 #[.slice A9 y.length c9], cell g2 31 #[.int .u64 ((z.1 : Nat) : Int), .int .i64 ((z.2 : Nat) : Int)], X]) (.cell 5 (v := .agg #[.int .u64 ((z.1 : Nat) : Int), .int .i64 ((z.2 : Nat) : Int)]) (EH (cs := [.int .u64 ((z.1 : Nat) : Int), .int .i64 ((z.2 : Nat) : Int)]) An rfl) rfl rfl) (.tmp rfl) rfl (fun w' h => AB (X := Unit) (val := fun _ => .tuple #[.agg #[.int .u64 ((z.1 : Nat) : Int), .int .i64 ((z.2 : Nat) : Int)], .int .i64 (n : Int)]) (post := fun _ => [X]) (os := [cell gh 31 #[.int .u64 ((z.1 : Nat) : Int), .int .i64 ((z.2 : Nat) : Int)], cell gd 3 #[.int .i64 8], cell ge 3 #[.int .i64 (n : Int)], Ao 5 1 encB (.slice A9 y.length c9) y, cell g8 48 #[.slice A9 y.length c9], cell g2 31 #[.int .u64 ((z.1 : Nat) : Int), .int .i64 ((z.2 : Nat) : Int)], X]) () rfl [6] rfl h Cz) D a w hD hD0 hd hF hH)
    · skip
      refine Hj (post := fun _ => [cell gh 31 #[.int .u64 ((z.1 : Nat) : Int), .int .i64 ((z.2 : Nat) : Int)], cell gd 3 #[.int .i64 8], cell ge 3 #[.int .i64 (n : Int)], Ao 5 1 encB (.slice A9 y.length c9) y, cell g8 48 #[.slice A9 y.length c9], cell g2 31 #[.int .u64 ((z.1 : Nat) : Int), .int .i64 ((z.2 : Nat) : Int)], X]) rfl rfl rfl (fun B w0 => AM 5 (v := .agg #[.int .u64 ((z.1 : Nat) : Int), .int .i64 ((z.2 : Nat) : Int)]) #[.int .u64 ((z.1 : Nat) : Int), .int .i64 ((z.2 : Nat) : Int)] An.2 rfl rfl rfl rfl rfl rfl rfl rfl rfl) ?_; rintro ⟨⟩
      refine Eg 1 (by kernel_rfl) ?_
      refine DG rfl rfl (.int .i64 (n : Int)) (fun b w hb hH => Bg rfl rfl (Bt Bj rfl) (hH.row 2 rfl) hb) ?_
      refine Eg 3 (by kernel_rfl) ?_
      refine DG rfl rfl (.int .i64 (n : Int)) (fun b w hb hH => Ae Ak rfl hb) ?_
      refine Hk (by kernel_rfl) (NT ?_)
      refine Pm.keep (env' := [(2, .pointer (some ⟨g2, 0, none⟩)), (3, .int .i64 (n : Int))]) ⟨rfl, rfl, trivial⟩ ?_
      exact LL (fun a w hD hD0 hd hF hH => Jv (os := [cell gh 31 #[.int .u64 ((z.1 : Nat) : Int), .int .i64 ((z.2 : Nat) : Int)], cell gd 3 #[.int .i64 8], cell ge 3 #[.int .i64 (n : Int)], Ao 5 1 encB (.slice A9 y.length c9) y, cell g8 48 #[.slice A9 y.length c9], cell g2 31 #[.int .u64 ((z.1 : Nat) : Int), .int .i64 ((z.2 : Nat) : Int)], X]) (.cell 5 (v := .agg #[.int .u64 ((z.1 : Nat) : Int), .int .i64 ((z.2 : Nat) : Int)]) (EH (cs := [.int .u64 ((z.1 : Nat) : Int), .int .i64 ((z.2 : Nat) : Int)]) An rfl) rfl rfl) (.tmp rfl) rfl (fun w' h => AB (X := Unit) (val := fun _ => .tuple #[.agg #[.int .u64 ((z.1 : Nat) : Int), .int .i64 ((z.2 : Nat) : Int)], .int .i64 (n : Int)]) (post := fun _ => [X]) (os := [cell gh 31 #[.int .u64 ((z.1 : Nat) : Int), .int .i64 ((z.2 : Nat) : Int)], cell gd 3 #[.int .i64 8], cell ge 3 #[.int .i64 (n : Int)], Ao 5 1 encB (.slice A9 y.length c9) y, cell g8 48 #[.slice A9 y.length c9], cell g2 31 #[.int .u64 ((z.1 : Nat) : Int), .int .i64 ((z.2 : Nat) : Int)], X]) () rfl [6] rfl h Cz) D a w hD hD0 hd hF hH)
  · skip
    refine DG rfl rfl (.int .i64 (n : Int)) (fun b w hb hH => Bg rfl rfl (Bt Bj rfl) (hH.row 2 rfl) hb) ?_
    refine Eg 0 (by kernel_rfl) ?_
    refine DG rfl rfl (.agg #[.int .u64 ((z.1 : Nat) : Int), .int .i64 ((z.2 : Nat) : Int)]) (fun b w hb hH => Bg rfl rfl (EH (cs := [.int .u64 ((z.1 : Nat) : Int), .int .i64 ((z.2 : Nat) : Int)]) An rfl) (hH.row 0 rfl) hb) ?_
    refine Eg 2 (by kernel_rfl) ?_
    refine Hj (post := fun _ => [cell gh 31 #[.int .u64 ((z.1 : Nat) : Int), .int .i64 ((z.2 : Nat) : Int)], cell gd 3 #[.int .i64 8], cell ge 3 #[.int .i64 (n : Int)], Ao 5 1 encB (.slice A9 y.length c9) y, cell g8 48 #[.slice A9 y.length c9], cell g2 31 #[.int .u64 ((z.1 : Nat) : Int), .int .i64 ((z.2 : Nat) : Int)], X]) rfl rfl rfl (fun B w0 => AM 5 (v := .agg #[.int .u64 ((z.1 : Nat) : Int), .int .i64 ((z.2 : Nat) : Int)]) #[.int .u64 ((z.1 : Nat) : Int), .int .i64 ((z.2 : Nat) : Int)] An.2 rfl rfl rfl rfl rfl rfl rfl rfl rfl) ?_; rintro ⟨⟩
    refine Eg 3 (by kernel_rfl) ?_
    refine DG rfl rfl (.int .i64 (n : Int)) (fun b w hb hH => Ae Ak rfl hb) ?_
    refine Hk (by kernel_rfl) (NT ?_)
    refine Pm.keep (env' := [(2, .pointer (some ⟨g2, 0, none⟩)), (3, .int .i64 (n : Int))]) ⟨rfl, rfl, trivial⟩ ?_
    exact LL (fun a w hD hD0 hd hF hH => Jv (os := [cell gh 31 #[.int .u64 ((z.1 : Nat) : Int), .int .i64 ((z.2 : Nat) : Int)], cell gd 3 #[.int .i64 8], cell ge 3 #[.int .i64 (n : Int)], Ao 5 1 encB (.slice A9 y.length c9) y, cell g8 48 #[.slice A9 y.length c9], cell g2 31 #[.int .u64 ((z.1 : Nat) : Int), .int .i64 ((z.2 : Nat) : Int)], X]) (.cell 5 (v := .agg #[.int .u64 ((z.1 : Nat) : Int), .int .i64 ((z.2 : Nat) : Int)]) (EH (cs := [.int .u64 ((z.1 : Nat) : Int), .int .i64 ((z.2 : Nat) : Int)]) An rfl) rfl rfl) (.tmp rfl) rfl (fun w' h => AB (X := Unit) (val := fun _ => .tuple #[.agg #[.int .u64 ((z.1 : Nat) : Int), .int .i64 ((z.2 : Nat) : Int)], .int .i64 (n : Int)]) (post := fun _ => [X]) (os := [cell gh 31 #[.int .u64 ((z.1 : Nat) : Int), .int .i64 ((z.2 : Nat) : Int)], cell gd 3 #[.int .i64 8], cell ge 3 #[.int .i64 (n : Int)], Ao 5 1 encB (.slice A9 y.length c9) y, cell g8 48 #[.slice A9 y.length c9], cell g2 31 #[.int .u64 ((z.1 : Nat) : Int), .int .i64 ((z.2 : Nat) : Int)], X]) () rfl [6] rfl h Cz) D a w hD hD0 hd hF hH)
theorem NV {X : Ass} {v : Value} {y : List UInt8} (hX : Cw X v y) (hl : y.length ≤ 137438953472) {h : HV} {n : Nat} (hr : Ic y = (h, n)) : AS Tryz.prog 33 #[v] [X] (fun _ : Unit => .tuple #[.agg #[.int .u64 ((h.1 : Nat) : Int), .int .i64 ((h.2 : Nat) : Int)], .int .i64 (n : Int)]) (fun _ => [X]) := by
  have e1 : Bq (J7 (BD y).1) = h := congrArg Prod.fst hr
  have e2 : Cp ((BD y).1.take (J7 (BD y).1).length) = n := congrArg Prod.snd hr
  have e3 : Bq ((J7 (BD y).1).take (J7 (BD y).1).length) = h := by rw [List.take_length]; exact e1
  rcases Nat.lt_or_eq_of_le (MF (BD y).1) with hlt | heq
  · exact Th hX hl rfl rfl rfl hlt e3 e2
  · exact Tg hX hl rfl rfl rfl heq.symm e3 e2
end Go.Proofs.YtnknboibmifacaaGreat.Sep
