/-
  HdB
-/
import Derived.Test.YtnknboibmifacaaGreatPI01
import Derived.Test.YtnknboibmifacaaGreatPJ01
set_option linter.unusedSimpArgs false
set_option linter.unusedVariables false
set_option maxRecDepth 100000
namespace Go.Proofs.YtnknboibmifacaaGreat.Sep
open Go.RowKit
open Go.Proofs.YtnknboibmifacaaGreat.Mem (Bl Co Chg AG)
def LC (gh gd ge : Nat) (L : List HV) (ps : List (List UInt8)) (j : Nat) : Ass := fun rs => Ap [cell gh 31 #[.int .u64 (((Bz (L.take j)).1 : Nat) : Int), .int .i64 (((Bz (L.take j)).2 : Nat) : Int)], cell gd 3 #[.int .i64 8], cell ge 3 #[.int .i64 ((Cx (ps.take j) : Nat) : Int)]] rs
theorem LC.open_ {gh gd ge : Nat} {L : List HV} {ps : List (List UInt8)} {j : Nat} : ∀ rs, LC gh gd ge L ps j rs → ∃ _ : Unit, Ap [cell gh 31 #[.int .u64 (((Bz (L.take j)).1 : Nat) : Int), .int .i64 (((Bz (L.take j)).2 : Nat) : Int)], cell gd 3 #[.int .i64 8], cell ge 3 #[.int .i64 ((Cx (ps.take j) : Nat) : Int)]] rs := fun _ h => ⟨(), h⟩
theorem LC.openN {gh gd ge : Nat} {L : List HV} {ps : List (List UInt8)} {j n : Nat} {h : HV} (e1 : Bz (L.take j) = h) (e2 : Cx (ps.take j) = n) : ∀ rs, LC gh gd ge L ps j rs → ∃ _ : Unit, Ap [cell gh 31 #[.int .u64 ((h.1 : Nat) : Int), .int .i64 ((h.2 : Nat) : Int)], cell gd 3 #[.int .i64 8], cell ge 3 #[.int .i64 (n : Int)]] rs := fun _ hz => ⟨(), by subst e1; subst e2; exact hz⟩
theorem PG {gh gd ge : Nat} {L : List HV} {ps : List (List UInt8)} {j : Nat} {h : HV} (e1 : Bz (L.take j) = h) : ∀ rs, Ap [cell gh 31 #[.int .u64 ((h.1 : Nat) : Int), .int .i64 ((h.2 : Nat) : Int)], cell gd 3 #[.int .i64 8], cell ge 3 #[.int .i64 ((Cx (ps.take j) : Nat) : Int)]] rs → LC gh gd ge L ps j rs := fun _ hz => by subst e1; exact hz
theorem Vb {gh gd ge : Nat} {L : List HV} {ps : List (List UInt8)} : ∀ rs, Ap [cell gh 31 #[.int .u64 0, .int .i64 0], cell gd 3 #[.int .i64 8], cell ge 3 #[.int .i64 0]] rs → LC gh gd ge L ps 0 rs := fun _ hz => PG (h := (0, 0)) rfl _ hz
theorem Tv {X : Ass} {v : Value} {y : List UInt8} (hX : CX X v y) (hl : y.length ≤ 137438953472) {ps : List (List UInt8)} {L : List HV} {N n : Nat} {z : HV} (hr : (BK y).1 = ps) (hL : Kq ps = L) (hN : L.length = N) (hNp : ps.length = N) (e1 : Bz (L.take N) = z) (e2 : Cx (ps.take N) = n) : AU Tryz.prog 33 #[v] [X] (fun (_ : Unit) => .tuple #[.agg #[.int .u64 ((z.1 : Nat) : Int), .int .i64 ((z.2 : Nat) : Int)], .int .i64 (n : Int)]) (fun (_ : Unit) => [X]) := by
  refine MS (args := [v]) 31 Tryz.func33 rfl rfl rfl ?_; intro w rs
  have hlen : ∀ x, x ∈ ps → x.length ≤ 65536 := by have h7 := Gy y.length y; change ∀ x, x ∈ (BK y).1 → x.length ≤ 65536 at h7; rwa [hr] at h7
  have hsum : ∀ j, Cx (ps.take j) ≤ y.length := fun j => by have h5 := F7 y.length y; have h6 := HF y.length y; change (BK y).2 = Cx (BK y).1 at h5; change (BK y).2 ≤ y.length at h6; have h7 := Kp (BK y).1 j; rw [hr] at h7 h5; omega
  refine Ad ?_
  refine Ae Ai rfl ?_
  refine Aj (post := fun g2 => [cell g2 31 #[.int .u64 0, .int .i64 0], X]) rfl (BS Bq rfl) ?_; rintro g2
  refine Ae Ai rfl ?_
  refine Aa (Ad ?_)
  refine Ae Ai rfl ?_
  refine Aj (post := fun gh => [cell gh 31 #[.int .u64 0, .int .i64 0], cell g2 31 #[.int .u64 0, .int .i64 0], X]) rfl (BS Bq rfl) ?_; rintro gh
  refine Aa (Ad ?_)
  refine Ae Ai rfl ?_
  refine Aj (post := fun v8 => [As 5 1 encB v8 (Bc []), cell gh 31 #[.int .u64 0, .int .i64 0], cell g2 31 #[.int .u64 0, .int .i64 0], X]) rfl (Qh (os' := fun v8 => [As 5 1 encB v8 (Bc []), cell gh 31 #[.int .u64 0, .int .i64 0], cell g2 31 #[.int .u64 0, .int .i64 0], X]) [] 0 (Ah Tryz.func43 (by kernel_rfl) rfl) (fun w hH => J9 w (Kh w) (by simp) rfl) rfl rfl rfl (fun _ => rfl) rfl rfl rfl) ?_; rintro v8
  refine Ab rfl (.int .i64 8) (fun b w hb hH => Qy 0 Tryz.underlying48 rfl rfl rfl hH hb) ?_
  refine Aj (post := fun gd => [cell gd 3 #[.int .i64 0], As 5 1 encB v8 (Bc []), cell gh 31 #[.int .u64 0, .int .i64 0], cell g2 31 #[.int .u64 0, .int .i64 0], X]) rfl (BS MI rfl) ?_; rintro gd
  refine Aj (post := fun ge => [cell ge 3 #[.int .i64 0], cell gd 3 #[.int .i64 0], As 5 1 encB v8 (Bc []), cell gh 31 #[.int .u64 0, .int .i64 0], cell g2 31 #[.int .u64 0, .int .i64 0], X]) rfl (BS MI rfl) ?_; rintro ge
  refine AH (post := fun _ => [cell ge 3 #[.int .i64 0], cell gd 3 #[.int .i64 8], As 5 1 encB v8 (Bc []), cell gh 31 #[.int .u64 0, .int .i64 0], cell g2 31 #[.int .u64 0, .int .i64 0], X]) rfl rfl (AD 1 (v := .int .i64 8) #[.int .i64 8] AR.2 rfl rfl rfl rfl rfl rfl rfl rfl rfl) ?_; rintro ⟨⟩
  refine AH (post := fun _ => [cell ge 3 #[.int .i64 0], cell gd 3 #[.int .i64 8], As 5 1 encB v8 (Bc []), cell gh 31 #[.int .u64 0, .int .i64 0], cell g2 31 #[.int .u64 0, .int .i64 0], X]) rfl rfl (AD 0 (v := .int .i64 0) #[.int .i64 0] AR.2 rfl rfl rfl rfl rfl rfl rfl rfl rfl) ?_; rintro ⟨⟩
  refine Aa (Aq ?_)
  refine Bv.leave [2] rfl rfl ?_
  refine AX [2, 1, 0] rfl (Vb (L := L) (ps := ps)) rfl ?_
  refine Ad ?_
  refine Ae Ai rfl ?_
  refine Aj rfl (Al  [2] 0 (Ah Tryz.func70 (by kernel_rfl) rfl) (N9 hX hl) rfl rfl rfl (fun _ => rfl) rfl rfl rfl) ?_; rintro ⟨g8, w8⟩
  refine Aa (Bb ?_)
  refine Bv.fact 1 rfl (fun _ h => As.is h) ?_; rintro ⟨A9, c9, rfl⟩
  refine Bv.keep (env' := [(0, v), (2, .pointer (some ⟨g2, 0, none⟩)), (3, .int .i64 0), (4, .pointer (some ⟨gh, 0, none⟩)), (10, v8), (11, .int .i64 8), (5, .pointer (some ⟨gd, 0, none⟩)), (6, .pointer (some ⟨ge, 0, none⟩)), (12, v), (13, .func (.func 84) #[] #[.pointer (some ⟨g8, 0, none⟩)])]) ⟨rfl, rfl, rfl, rfl, rfl, rfl, rfl, rfl, rfl, rfl, trivial⟩ ?_
  refine Bv.mid [cell g8 48 #[.slice A9 y.length c9], As 5 1 encB (.slice A9 y.length c9) y, LC gh gd ge L ps 0, cell g2 31 #[.int .u64 0, .int .i64 0], X] (.refl _) ?_
  refine HI (caps := [.pointer (some ⟨g8, 0, none⟩)]) (post := [LC gh gd ge L ps N, As 5 1 encB (.slice A9 y.length c9) y, cell g8 48 #[.slice A9 y.length c9]]) (os' := [LC gh gd ge L ps N, As 5 1 encB (.slice A9 y.length c9) y, cell g8 48 #[.slice A9 y.length c9], cell g2 31 #[.int .u64 0, .int .i64 0], X]) (.normal) [2, 1, 0] rfl (Ah Tryz.func84 (by kernel_rfl) rfl) (fun L1 fn1 tm1 hf1 r1 k11 k12 k13 k14 k15 k16 => Qw (Wu (.yield L1) #[] g8 (fun j => Ke L1 r1 (LC gh gd ge L ps j)) hl hr hlen hNp ?_)) rfl rfl rfl ?_
  · skip
    intro j x d hpj
    have hxl : x.length ≤ 65536 := hlen x (List.mem_of_getElem? hpj)
    have hst := HJ hpj
    have hs1 := hsum (j + 1)
    have hje : j < L.length := by have := (List.getElem?_eq_some_iff.1 hpj).1; omega
    obtain ⟨q, hLj⟩ : ∃ q, L[j]? = some q := ⟨_, List.getElem?_eq_getElem hje⟩
    obtain ⟨p, hp1, hp2⟩ := MU (ps := ps) (by rw [hL]; exact hLj)
    rw [hpj] at hp1
    obtain rfl := Option.some.inj hp1
    refine L6 (Ef (n := 31) (env := [(14, d), (0, v), (2, .pointer (some ⟨g2, 0, none⟩)), (3, .int .i64 0), (4, .pointer (some ⟨gh, 0, none⟩)), (10, v8), (11, .int .i64 8), (5, .pointer (some ⟨gd, 0, none⟩)), (6, .pointer (some ⟨ge, 0, none⟩)), (12, v), (13, .func (.func 84) #[] #[.pointer (some ⟨g8, 0, none⟩)])]) (.normal) k12 k11 (by rw [k14]; rfl) ?_ ?_)
    · rw [k14, k13]
      refine (congrArg (fun t => Fr 31 { tmps := t, defers := [] } _) (?_ : _ = (tm1.setIfInBounds 14 d))).mpr (hf1.put (d := 14) (by decide) _)
      simp
    · intro w0 rs
      rw [k15]
      refine E8 (by kernel_rfl) (by rintro ⟨a, w, h⟩; first | exact h.elim | exact nomatch h.1 | (obtain ⟨_, h, _⟩ := h; exact nomatch h)) ?_
      refine Ae Ai rfl ?_
      refine AP ?_
      refine HH 0 rfl k11 ?_
      rw [k16]
      refine Lh 1 rfl LC.open_ (fun _ => rfl) ?_; rintro ⟨⟩
      refine HG ?_
      refine FK (E8 (by kernel_rfl) (by rintro ⟨a, w, h⟩; first | exact h.elim | exact nomatch h.1 | (obtain ⟨_, h, _⟩ := h; exact nomatch h)) ?_)
      refine Ae Ai rfl ?_
      refine Aj (post := fun _ => [cell gh 31 #[.int .u64 (((Bz (L.take j)).1 : Nat) : Int), .int .i64 (((Bz (L.take j)).2 : Nat) : Int)], cell gd 3 #[.int .i64 8], cell ge 3 #[.int .i64 ((Cx (ps.take j) : Nat) : Int)], CI L1 (Da r1), As 5 1 encB d x]) rfl (By (Ah Tryz.func71 (by kernel_rfl) rfl) (fun w hH => Lp w (hH.sl8 4 rfl) hxl hp2) rfl rfl rfl) ?_; rintro ⟨⟩
      refine Ae Ai rfl ?_
      refine Aj (post := fun gx => [cell gx 31 #[.int .u64 0, .int .i64 0], cell gh 31 #[.int .u64 (((Bz (L.take j)).1 : Nat) : Int), .int .i64 (((Bz (L.take j)).2 : Nat) : Int)], cell gd 3 #[.int .i64 8], cell ge 3 #[.int .i64 ((Cx (ps.take j) : Nat) : Int)], CI L1 (Da r1), As 5 1 encB d x]) rfl (BS Bq rfl) ?_; rintro gx
      refine AH (post := fun _ => [cell gx 31 #[.int .u64 ((q.1 : Nat) : Int), .int .i64 ((q.2 : Nat) : Int)], cell gh 31 #[.int .u64 (((Bz (L.take j)).1 : Nat) : Int), .int .i64 (((Bz (L.take j)).2 : Nat) : Int)], cell gd 3 #[.int .i64 8], cell ge 3 #[.int .i64 ((Cx (ps.take j) : Nat) : Int)], CI L1 (Da r1), As 5 1 encB d x]) rfl rfl (AD 0 (v := .agg #[.int .u64 ((q.1 : Nat) : Int), .int .i64 ((q.2 : Nat) : Int)]) #[.int .u64 ((q.1 : Nat) : Int), .int .i64 ((q.2 : Nat) : Int)] Am.2 rfl rfl rfl rfl rfl rfl rfl rfl rfl) ?_; rintro ⟨⟩
      refine Ae Ai rfl ?_
      refine AP (JM ?_)
      refine FK ?_
      refine FK (E8 (by kernel_rfl) (by rintro ⟨a, w, h⟩; first | exact h.elim | exact nomatch h.1 | (obtain ⟨_, h, _⟩ := h; exact nomatch h)) ?_)
      refine Ae Ai rfl ?_
      refine AP (JM ?_)
      refine MP rfl ?_
      refine MQ ?_
      refine JM ?_
      refine FK (E8 (by kernel_rfl) (by rintro ⟨a, w, h⟩; first | exact h.elim | exact nomatch h.1 | (obtain ⟨_, h, _⟩ := h; exact nomatch h)) ?_)
      refine Ae Ai rfl ?_
      refine Ab rfl (.agg #[.int .u64 ((q.1 : Nat) : Int), .int .i64 ((q.2 : Nat) : Int)]) (fun b w hb hH => A6 rfl rfl (D3 (cs := [.int .u64 ((q.1 : Nat) : Int), .int .i64 ((q.2 : Nat) : Int)]) Am rfl) (hH.row 0 rfl) hb) ?_
      refine AH (post := fun _ => [cell gx 31 #[.int .u64 ((q.1 : Nat) : Int), .int .i64 ((q.2 : Nat) : Int)], cell gh 31 #[.int .u64 ((q.1 : Nat) : Int), .int .i64 ((q.2 : Nat) : Int)], cell gd 3 #[.int .i64 8], cell ge 3 #[.int .i64 ((Cx (ps.take j) : Nat) : Int)], CI L1 (Da r1), As 5 1 encB d x]) rfl rfl (AD 1 (v := .agg #[.int .u64 ((q.1 : Nat) : Int), .int .i64 ((q.2 : Nat) : Int)]) #[.int .u64 ((q.1 : Nat) : Int), .int .i64 ((q.2 : Nat) : Int)] Am.2 rfl rfl rfl rfl rfl rfl rfl rfl rfl) ?_; rintro ⟨⟩
      refine AP (JM ?_)
      refine E8 (by kernel_rfl) (by rintro ⟨a, w, h⟩; first | exact h.elim | exact nomatch h.1 | (obtain ⟨_, h, _⟩ := h; exact nomatch h)) ?_
      refine Ae Ai rfl ?_
      refine Ab rfl (.int .i64 ((Cx (ps.take j) : Nat) : Int)) (fun b w hb hH => A6 rfl rfl (Bk AR rfl) (hH.row 3 rfl) hb) ?_
      refine Ab rfl (.int .i64 8) (fun b w hb hH => A6 rfl rfl (Bk AR rfl) (hH.row 2 rfl) hb) ?_
      refine Ae Ai rfl ?_
      refine Ab rfl (.int .i64 (x.length : Int)) (fun b w hb hH => Cv 5 Tryz.underlying48 rfl rfl rfl hH hb) ?_
      refine Ab rfl (.int .i64 ((8 + x.length : Nat) : Int)) (fun b w hb hH => AN rfl rfl rfl rfl (by rw [IntWalk.i64_in _ (by omega)]; omega) hb) ?_
      refine Ab rfl (.int .i64 ((Cx (ps.take (j + 1)) : Nat) : Int)) (fun b w hb hH => AN rfl rfl rfl rfl (by rw [IntWalk.i64_in _ (by omega)]; omega) hb) ?_
      refine AH (post := fun _ => [cell gx 31 #[.int .u64 ((q.1 : Nat) : Int), .int .i64 ((q.2 : Nat) : Int)], cell gh 31 #[.int .u64 ((q.1 : Nat) : Int), .int .i64 ((q.2 : Nat) : Int)], cell gd 3 #[.int .i64 8], cell ge 3 #[.int .i64 ((Cx (ps.take (j + 1)) : Nat) : Int)], CI L1 (Da r1), As 5 1 encB d x]) rfl rfl (AD 3 (v := .int .i64 ((Cx (ps.take (j + 1)) : Nat) : Int)) #[.int .i64 ((Cx (ps.take (j + 1)) : Nat) : Int)] AR.2 rfl rfl rfl rfl rfl rfl rfl rfl rfl) ?_; rintro ⟨⟩
      refine AP (Bt ?_)
      refine IH [1, 2, 3] rfl (PG (It hLj)) rfl ?_
      exact JN [2, 0] rfl rfl
  intro D aT wT hDm hD0 hdf hF hH
  obtain ⟨_, hH⟩ := Ko 0 rfl (LC.openN e1 e2) hH
  refine Oa (env := [(2, .pointer (some ⟨g2, 0, none⟩)), (3, .int .i64 0), (4, .pointer (some ⟨gh, 0, none⟩)), (6, .pointer (some ⟨ge, 0, none⟩))]) (os := [cell gh 31 #[.int .u64 ((z.1 : Nat) : Int), .int .i64 ((z.2 : Nat) : Int)], cell gd 3 #[.int .i64 8], cell ge 3 #[.int .i64 (n : Int)], As 5 1 encB (.slice A9 y.length c9) y, cell g8 48 #[.slice A9 y.length c9], cell g2 31 #[.int .u64 0, .int .i64 0], X]) ?_ aT wT hDm hD0 hdf (hF.keep ⟨rfl, rfl, rfl, rfl, trivial⟩) hH
  refine Tt (by kernel_rfl) ?_
  refine MV 0 1 (by kernel_rfl) ?_ ?_
  · skip
    refine DU rfl rfl (.agg #[.int .u64 ((z.1 : Nat) : Int), .int .i64 ((z.2 : Nat) : Int)]) (fun b w hb hH => A6 rfl rfl (D3 (cs := [.int .u64 ((z.1 : Nat) : Int), .int .i64 ((z.2 : Nat) : Int)]) Am rfl) (hH.row 0 rfl) hb) ?_
    refine MV 1 2 (by kernel_rfl) ?_ ?_
    · skip
      refine DU rfl rfl (.int .i64 (n : Int)) (fun b w hb hH => A6 rfl rfl (Bk AR rfl) (hH.row 2 rfl) hb) ?_
      refine Eu 2 (by kernel_rfl) ?_
      refine HK (post := fun _ => [cell gh 31 #[.int .u64 ((z.1 : Nat) : Int), .int .i64 ((z.2 : Nat) : Int)], cell gd 3 #[.int .i64 8], cell ge 3 #[.int .i64 (n : Int)], As 5 1 encB (.slice A9 y.length c9) y, cell g8 48 #[.slice A9 y.length c9], cell g2 31 #[.int .u64 ((z.1 : Nat) : Int), .int .i64 ((z.2 : Nat) : Int)], X]) rfl rfl rfl (fun B w0 => AD 5 (v := .agg #[.int .u64 ((z.1 : Nat) : Int), .int .i64 ((z.2 : Nat) : Int)]) #[.int .u64 ((z.1 : Nat) : Int), .int .i64 ((z.2 : Nat) : Int)] Am.2 rfl rfl rfl rfl rfl rfl rfl rfl rfl) ?_; rintro ⟨⟩
      refine Eu 3 (by kernel_rfl) ?_
      refine DU rfl rfl (.int .i64 (n : Int)) (fun b w hb hH => Af Ai rfl hb) ?_
      refine HO (by kernel_rfl) (Oa ?_)
      refine PA.keep (env' := [(2, .pointer (some ⟨g2, 0, none⟩)), (3, .int .i64 (n : Int))]) ⟨rfl, rfl, trivial⟩ ?_
      exact L7 (fun a w hD hD0 hd hF hH => JO (os := [cell gh 31 #[.int .u64 ((z.1 : Nat) : Int), .int .i64 ((z.2 : Nat) : Int)], cell gd 3 #[.int .i64 8], cell ge 3 #[.int .i64 (n : Int)], As 5 1 encB (.slice A9 y.length c9) y, cell g8 48 #[.slice A9 y.length c9], cell g2 31 #[.int .u64 ((z.1 : Nat) : Int), .int .i64 ((z.2 : Nat) : Int)], X]) (.cell 5 (v := .agg #[.int .u64 ((z.1 : Nat) : Int), .int .i64 ((z.2 : Nat) : Int)]) (D3 (cs := [.int .u64 ((z.1 : Nat) : Int), .int .i64 ((z.2 : Nat) : Int)]) Am rfl) rfl rfl) (.tmp rfl) rfl (fun w' h => AB (X := Unit) (val := fun _ => .tuple #[.agg #[.int .u64 ((z.1 : Nat) : Int), .int .i64 ((z.2 : Nat) : Int)], .int .i64 (n : Int)]) (post := fun _ => [X]) (os := [cell gh 31 #[.int .u64 ((z.1 : Nat) : Int), .int .i64 ((z.2 : Nat) : Int)], cell gd 3 #[.int .i64 8], cell ge 3 #[.int .i64 (n : Int)], As 5 1 encB (.slice A9 y.length c9) y, cell g8 48 #[.slice A9 y.length c9], cell g2 31 #[.int .u64 ((z.1 : Nat) : Int), .int .i64 ((z.2 : Nat) : Int)], X]) () rfl [6] rfl h Cl) D a w hD hD0 hd hF hH)
    · skip
      refine HK (post := fun _ => [cell gh 31 #[.int .u64 ((z.1 : Nat) : Int), .int .i64 ((z.2 : Nat) : Int)], cell gd 3 #[.int .i64 8], cell ge 3 #[.int .i64 (n : Int)], As 5 1 encB (.slice A9 y.length c9) y, cell g8 48 #[.slice A9 y.length c9], cell g2 31 #[.int .u64 ((z.1 : Nat) : Int), .int .i64 ((z.2 : Nat) : Int)], X]) rfl rfl rfl (fun B w0 => AD 5 (v := .agg #[.int .u64 ((z.1 : Nat) : Int), .int .i64 ((z.2 : Nat) : Int)]) #[.int .u64 ((z.1 : Nat) : Int), .int .i64 ((z.2 : Nat) : Int)] Am.2 rfl rfl rfl rfl rfl rfl rfl rfl rfl) ?_; rintro ⟨⟩
      refine Eu 1 (by kernel_rfl) ?_
      refine DU rfl rfl (.int .i64 (n : Int)) (fun b w hb hH => A6 rfl rfl (Bk AR rfl) (hH.row 2 rfl) hb) ?_
      refine Eu 3 (by kernel_rfl) ?_
      refine DU rfl rfl (.int .i64 (n : Int)) (fun b w hb hH => Af Ai rfl hb) ?_
      refine HO (by kernel_rfl) (Oa ?_)
      refine PA.keep (env' := [(2, .pointer (some ⟨g2, 0, none⟩)), (3, .int .i64 (n : Int))]) ⟨rfl, rfl, trivial⟩ ?_
      exact L7 (fun a w hD hD0 hd hF hH => JO (os := [cell gh 31 #[.int .u64 ((z.1 : Nat) : Int), .int .i64 ((z.2 : Nat) : Int)], cell gd 3 #[.int .i64 8], cell ge 3 #[.int .i64 (n : Int)], As 5 1 encB (.slice A9 y.length c9) y, cell g8 48 #[.slice A9 y.length c9], cell g2 31 #[.int .u64 ((z.1 : Nat) : Int), .int .i64 ((z.2 : Nat) : Int)], X]) (.cell 5 (v := .agg #[.int .u64 ((z.1 : Nat) : Int), .int .i64 ((z.2 : Nat) : Int)]) (D3 (cs := [.int .u64 ((z.1 : Nat) : Int), .int .i64 ((z.2 : Nat) : Int)]) Am rfl) rfl rfl) (.tmp rfl) rfl (fun w' h => AB (X := Unit) (val := fun _ => .tuple #[.agg #[.int .u64 ((z.1 : Nat) : Int), .int .i64 ((z.2 : Nat) : Int)], .int .i64 (n : Int)]) (post := fun _ => [X]) (os := [cell gh 31 #[.int .u64 ((z.1 : Nat) : Int), .int .i64 ((z.2 : Nat) : Int)], cell gd 3 #[.int .i64 8], cell ge 3 #[.int .i64 (n : Int)], As 5 1 encB (.slice A9 y.length c9) y, cell g8 48 #[.slice A9 y.length c9], cell g2 31 #[.int .u64 ((z.1 : Nat) : Int), .int .i64 ((z.2 : Nat) : Int)], X]) () rfl [6] rfl h Cl) D a w hD hD0 hd hF hH)
  · skip
    refine DU rfl rfl (.int .i64 (n : Int)) (fun b w hb hH => A6 rfl rfl (Bk AR rfl) (hH.row 2 rfl) hb) ?_
    refine Eu 0 (by kernel_rfl) ?_
    refine DU rfl rfl (.agg #[.int .u64 ((z.1 : Nat) : Int), .int .i64 ((z.2 : Nat) : Int)]) (fun b w hb hH => A6 rfl rfl (D3 (cs := [.int .u64 ((z.1 : Nat) : Int), .int .i64 ((z.2 : Nat) : Int)]) Am rfl) (hH.row 0 rfl) hb) ?_
    refine Eu 2 (by kernel_rfl) ?_
    refine HK (post := fun _ => [cell gh 31 #[.int .u64 ((z.1 : Nat) : Int), .int .i64 ((z.2 : Nat) : Int)], cell gd 3 #[.int .i64 8], cell ge 3 #[.int .i64 (n : Int)], As 5 1 encB (.slice A9 y.length c9) y, cell g8 48 #[.slice A9 y.length c9], cell g2 31 #[.int .u64 ((z.1 : Nat) : Int), .int .i64 ((z.2 : Nat) : Int)], X]) rfl rfl rfl (fun B w0 => AD 5 (v := .agg #[.int .u64 ((z.1 : Nat) : Int), .int .i64 ((z.2 : Nat) : Int)]) #[.int .u64 ((z.1 : Nat) : Int), .int .i64 ((z.2 : Nat) : Int)] Am.2 rfl rfl rfl rfl rfl rfl rfl rfl rfl) ?_; rintro ⟨⟩
    refine Eu 3 (by kernel_rfl) ?_
    refine DU rfl rfl (.int .i64 (n : Int)) (fun b w hb hH => Af Ai rfl hb) ?_
    refine HO (by kernel_rfl) (Oa ?_)
    refine PA.keep (env' := [(2, .pointer (some ⟨g2, 0, none⟩)), (3, .int .i64 (n : Int))]) ⟨rfl, rfl, trivial⟩ ?_
    exact L7 (fun a w hD hD0 hd hF hH => JO (os := [cell gh 31 #[.int .u64 ((z.1 : Nat) : Int), .int .i64 ((z.2 : Nat) : Int)], cell gd 3 #[.int .i64 8], cell ge 3 #[.int .i64 (n : Int)], As 5 1 encB (.slice A9 y.length c9) y, cell g8 48 #[.slice A9 y.length c9], cell g2 31 #[.int .u64 ((z.1 : Nat) : Int), .int .i64 ((z.2 : Nat) : Int)], X]) (.cell 5 (v := .agg #[.int .u64 ((z.1 : Nat) : Int), .int .i64 ((z.2 : Nat) : Int)]) (D3 (cs := [.int .u64 ((z.1 : Nat) : Int), .int .i64 ((z.2 : Nat) : Int)]) Am rfl) rfl rfl) (.tmp rfl) rfl (fun w' h => AB (X := Unit) (val := fun _ => .tuple #[.agg #[.int .u64 ((z.1 : Nat) : Int), .int .i64 ((z.2 : Nat) : Int)], .int .i64 (n : Int)]) (post := fun _ => [X]) (os := [cell gh 31 #[.int .u64 ((z.1 : Nat) : Int), .int .i64 ((z.2 : Nat) : Int)], cell gd 3 #[.int .i64 8], cell ge 3 #[.int .i64 (n : Int)], As 5 1 encB (.slice A9 y.length c9) y, cell g8 48 #[.slice A9 y.length c9], cell g2 31 #[.int .u64 ((z.1 : Nat) : Int), .int .i64 ((z.2 : Nat) : Int)], X]) () rfl [6] rfl h Cl) D a w hD hD0 hd hF hH)
theorem Tw {X : Ass} {v : Value} {y : List UInt8} (hX : CX X v y) (hl : y.length ≤ 137438953472) {ps : List (List UInt8)} {L : List HV} {N n : Nat} {z : HV} (hr : (BK y).1 = ps) (hL : Kq ps = L) (hN : L.length = N) (hNp : N < ps.length) (e1 : Bz (L.take N) = z) (e2 : Cx (ps.take N) = n) : AU Tryz.prog 33 #[v] [X] (fun (_ : Unit) => .tuple #[.agg #[.int .u64 ((z.1 : Nat) : Int), .int .i64 ((z.2 : Nat) : Int)], .int .i64 (n : Int)]) (fun (_ : Unit) => [X]) := by
  refine MS (args := [v]) 31 Tryz.func33 rfl rfl rfl ?_; intro w rs
  have hlen : ∀ x, x ∈ ps → x.length ≤ 65536 := by have h7 := Gy y.length y; change ∀ x, x ∈ (BK y).1 → x.length ≤ 65536 at h7; rwa [hr] at h7
  have hsum : ∀ j, Cx (ps.take j) ≤ y.length := fun j => by have h5 := F7 y.length y; have h6 := HF y.length y; change (BK y).2 = Cx (BK y).1 at h5; change (BK y).2 ≤ y.length at h6; have h7 := Kp (BK y).1 j; rw [hr] at h7 h5; omega
  refine Ad ?_
  refine Ae Ai rfl ?_
  refine Aj (post := fun g2 => [cell g2 31 #[.int .u64 0, .int .i64 0], X]) rfl (BS Bq rfl) ?_; rintro g2
  refine Ae Ai rfl ?_
  refine Aa (Ad ?_)
  refine Ae Ai rfl ?_
  refine Aj (post := fun gh => [cell gh 31 #[.int .u64 0, .int .i64 0], cell g2 31 #[.int .u64 0, .int .i64 0], X]) rfl (BS Bq rfl) ?_; rintro gh
  refine Aa (Ad ?_)
  refine Ae Ai rfl ?_
  refine Aj (post := fun v8 => [As 5 1 encB v8 (Bc []), cell gh 31 #[.int .u64 0, .int .i64 0], cell g2 31 #[.int .u64 0, .int .i64 0], X]) rfl (Qh (os' := fun v8 => [As 5 1 encB v8 (Bc []), cell gh 31 #[.int .u64 0, .int .i64 0], cell g2 31 #[.int .u64 0, .int .i64 0], X]) [] 0 (Ah Tryz.func43 (by kernel_rfl) rfl) (fun w hH => J9 w (Kh w) (by simp) rfl) rfl rfl rfl (fun _ => rfl) rfl rfl rfl) ?_; rintro v8
  refine Ab rfl (.int .i64 8) (fun b w hb hH => Qy 0 Tryz.underlying48 rfl rfl rfl hH hb) ?_
  refine Aj (post := fun gd => [cell gd 3 #[.int .i64 0], As 5 1 encB v8 (Bc []), cell gh 31 #[.int .u64 0, .int .i64 0], cell g2 31 #[.int .u64 0, .int .i64 0], X]) rfl (BS MI rfl) ?_; rintro gd
  refine Aj (post := fun ge => [cell ge 3 #[.int .i64 0], cell gd 3 #[.int .i64 0], As 5 1 encB v8 (Bc []), cell gh 31 #[.int .u64 0, .int .i64 0], cell g2 31 #[.int .u64 0, .int .i64 0], X]) rfl (BS MI rfl) ?_; rintro ge
  refine AH (post := fun _ => [cell ge 3 #[.int .i64 0], cell gd 3 #[.int .i64 8], As 5 1 encB v8 (Bc []), cell gh 31 #[.int .u64 0, .int .i64 0], cell g2 31 #[.int .u64 0, .int .i64 0], X]) rfl rfl (AD 1 (v := .int .i64 8) #[.int .i64 8] AR.2 rfl rfl rfl rfl rfl rfl rfl rfl rfl) ?_; rintro ⟨⟩
  refine AH (post := fun _ => [cell ge 3 #[.int .i64 0], cell gd 3 #[.int .i64 8], As 5 1 encB v8 (Bc []), cell gh 31 #[.int .u64 0, .int .i64 0], cell g2 31 #[.int .u64 0, .int .i64 0], X]) rfl rfl (AD 0 (v := .int .i64 0) #[.int .i64 0] AR.2 rfl rfl rfl rfl rfl rfl rfl rfl rfl) ?_; rintro ⟨⟩
  refine Aa (Aq ?_)
  refine Bv.leave [2] rfl rfl ?_
  refine AX [2, 1, 0] rfl (Vb (L := L) (ps := ps)) rfl ?_
  refine Ad ?_
  refine Ae Ai rfl ?_
  refine Aj rfl (Al  [2] 0 (Ah Tryz.func70 (by kernel_rfl) rfl) (N9 hX hl) rfl rfl rfl (fun _ => rfl) rfl rfl rfl) ?_; rintro ⟨g8, w8⟩
  refine Aa (Bb ?_)
  refine Bv.fact 1 rfl (fun _ h => As.is h) ?_; rintro ⟨A9, c9, rfl⟩
  refine Bv.keep (env' := [(0, v), (2, .pointer (some ⟨g2, 0, none⟩)), (3, .int .i64 0), (4, .pointer (some ⟨gh, 0, none⟩)), (10, v8), (11, .int .i64 8), (5, .pointer (some ⟨gd, 0, none⟩)), (6, .pointer (some ⟨ge, 0, none⟩)), (12, v), (13, .func (.func 84) #[] #[.pointer (some ⟨g8, 0, none⟩)])]) ⟨rfl, rfl, rfl, rfl, rfl, rfl, rfl, rfl, rfl, rfl, trivial⟩ ?_
  refine Bv.mid [cell g8 48 #[.slice A9 y.length c9], As 5 1 encB (.slice A9 y.length c9) y, LC gh gd ge L ps 0, cell g2 31 #[.int .u64 0, .int .i64 0], X] (.refl _) ?_
  refine HI (caps := [.pointer (some ⟨g8, 0, none⟩)]) (post := [LC gh gd ge L ps N, As 5 1 encB (.slice A9 y.length c9) y, cell g8 48 #[.slice A9 y.length c9]]) (os' := [LC gh gd ge L ps N, As 5 1 encB (.slice A9 y.length c9) y, cell g8 48 #[.slice A9 y.length c9], cell g2 31 #[.int .u64 0, .int .i64 0], X]) (.exit 0) [2, 1, 0] rfl (Ah Tryz.func84 (by kernel_rfl) rfl) (fun L1 fn1 tm1 hf1 r1 k11 k12 k13 k14 k15 k16 => Qw (Wm (N := N) (.yield L1) #[] g8 (fun j => Ke L1 r1 (LC gh gd ge L ps j)) (Ke L1 (Li (.exit 0) r1) (LC gh gd ge L ps N)) hl hr hlen hNp ?_ ?_)) rfl rfl rfl ?_
  · skip
    intro j x d hpj hjN
    have hxl : x.length ≤ 65536 := hlen x (List.mem_of_getElem? hpj)
    have hst := HJ hpj
    have hs1 := hsum (j + 1)
    have hje : j < L.length := by have := (List.getElem?_eq_some_iff.1 hpj).1; omega
    obtain ⟨q, hLj⟩ : ∃ q, L[j]? = some q := ⟨_, List.getElem?_eq_getElem hje⟩
    obtain ⟨p, hp1, hp2⟩ := MU (ps := ps) (by rw [hL]; exact hLj)
    rw [hpj] at hp1
    obtain rfl := Option.some.inj hp1
    refine L6 (Ef (n := 31) (env := [(14, d), (0, v), (2, .pointer (some ⟨g2, 0, none⟩)), (3, .int .i64 0), (4, .pointer (some ⟨gh, 0, none⟩)), (10, v8), (11, .int .i64 8), (5, .pointer (some ⟨gd, 0, none⟩)), (6, .pointer (some ⟨ge, 0, none⟩)), (12, v), (13, .func (.func 84) #[] #[.pointer (some ⟨g8, 0, none⟩)])]) (.normal) k12 k11 (by rw [k14]; rfl) ?_ ?_)
    · rw [k14, k13]
      refine (congrArg (fun t => Fr 31 { tmps := t, defers := [] } _) (?_ : _ = (tm1.setIfInBounds 14 d))).mpr (hf1.put (d := 14) (by decide) _)
      simp
    · intro w0 rs
      rw [k15]
      refine E8 (by kernel_rfl) (by rintro ⟨a, w, h⟩; first | exact h.elim | exact nomatch h.1 | (obtain ⟨_, h, _⟩ := h; exact nomatch h)) ?_
      refine Ae Ai rfl ?_
      refine AP ?_
      refine HH 0 rfl k11 ?_
      rw [k16]
      refine Lh 1 rfl LC.open_ (fun _ => rfl) ?_; rintro ⟨⟩
      refine HG ?_
      refine FK (E8 (by kernel_rfl) (by rintro ⟨a, w, h⟩; first | exact h.elim | exact nomatch h.1 | (obtain ⟨_, h, _⟩ := h; exact nomatch h)) ?_)
      refine Ae Ai rfl ?_
      refine Aj (post := fun _ => [cell gh 31 #[.int .u64 (((Bz (L.take j)).1 : Nat) : Int), .int .i64 (((Bz (L.take j)).2 : Nat) : Int)], cell gd 3 #[.int .i64 8], cell ge 3 #[.int .i64 ((Cx (ps.take j) : Nat) : Int)], CI L1 (Da r1), As 5 1 encB d x]) rfl (By (Ah Tryz.func71 (by kernel_rfl) rfl) (fun w hH => Lp w (hH.sl8 4 rfl) hxl hp2) rfl rfl rfl) ?_; rintro ⟨⟩
      refine Ae Ai rfl ?_
      refine Aj (post := fun gx => [cell gx 31 #[.int .u64 0, .int .i64 0], cell gh 31 #[.int .u64 (((Bz (L.take j)).1 : Nat) : Int), .int .i64 (((Bz (L.take j)).2 : Nat) : Int)], cell gd 3 #[.int .i64 8], cell ge 3 #[.int .i64 ((Cx (ps.take j) : Nat) : Int)], CI L1 (Da r1), As 5 1 encB d x]) rfl (BS Bq rfl) ?_; rintro gx
      refine AH (post := fun _ => [cell gx 31 #[.int .u64 ((q.1 : Nat) : Int), .int .i64 ((q.2 : Nat) : Int)], cell gh 31 #[.int .u64 (((Bz (L.take j)).1 : Nat) : Int), .int .i64 (((Bz (L.take j)).2 : Nat) : Int)], cell gd 3 #[.int .i64 8], cell ge 3 #[.int .i64 ((Cx (ps.take j) : Nat) : Int)], CI L1 (Da r1), As 5 1 encB d x]) rfl rfl (AD 0 (v := .agg #[.int .u64 ((q.1 : Nat) : Int), .int .i64 ((q.2 : Nat) : Int)]) #[.int .u64 ((q.1 : Nat) : Int), .int .i64 ((q.2 : Nat) : Int)] Am.2 rfl rfl rfl rfl rfl rfl rfl rfl rfl) ?_; rintro ⟨⟩
      refine Ae Ai rfl ?_
      refine AP (JM ?_)
      refine FK ?_
      refine FK (E8 (by kernel_rfl) (by rintro ⟨a, w, h⟩; first | exact h.elim | exact nomatch h.1 | (obtain ⟨_, h, _⟩ := h; exact nomatch h)) ?_)
      refine Ae Ai rfl ?_
      refine AP (JM ?_)
      refine MP rfl ?_
      refine MQ ?_
      refine JM ?_
      refine FK (E8 (by kernel_rfl) (by rintro ⟨a, w, h⟩; first | exact h.elim | exact nomatch h.1 | (obtain ⟨_, h, _⟩ := h; exact nomatch h)) ?_)
      refine Ae Ai rfl ?_
      refine Ab rfl (.agg #[.int .u64 ((q.1 : Nat) : Int), .int .i64 ((q.2 : Nat) : Int)]) (fun b w hb hH => A6 rfl rfl (D3 (cs := [.int .u64 ((q.1 : Nat) : Int), .int .i64 ((q.2 : Nat) : Int)]) Am rfl) (hH.row 0 rfl) hb) ?_
      refine AH (post := fun _ => [cell gx 31 #[.int .u64 ((q.1 : Nat) : Int), .int .i64 ((q.2 : Nat) : Int)], cell gh 31 #[.int .u64 ((q.1 : Nat) : Int), .int .i64 ((q.2 : Nat) : Int)], cell gd 3 #[.int .i64 8], cell ge 3 #[.int .i64 ((Cx (ps.take j) : Nat) : Int)], CI L1 (Da r1), As 5 1 encB d x]) rfl rfl (AD 1 (v := .agg #[.int .u64 ((q.1 : Nat) : Int), .int .i64 ((q.2 : Nat) : Int)]) #[.int .u64 ((q.1 : Nat) : Int), .int .i64 ((q.2 : Nat) : Int)] Am.2 rfl rfl rfl rfl rfl rfl rfl rfl rfl) ?_; rintro ⟨⟩
      refine AP (JM ?_)
      refine E8 (by kernel_rfl) (by rintro ⟨a, w, h⟩; first | exact h.elim | exact nomatch h.1 | (obtain ⟨_, h, _⟩ := h; exact nomatch h)) ?_
      refine Ae Ai rfl ?_
      refine Ab rfl (.int .i64 ((Cx (ps.take j) : Nat) : Int)) (fun b w hb hH => A6 rfl rfl (Bk AR rfl) (hH.row 3 rfl) hb) ?_
      refine Ab rfl (.int .i64 8) (fun b w hb hH => A6 rfl rfl (Bk AR rfl) (hH.row 2 rfl) hb) ?_
      refine Ae Ai rfl ?_
      refine Ab rfl (.int .i64 (x.length : Int)) (fun b w hb hH => Cv 5 Tryz.underlying48 rfl rfl rfl hH hb) ?_
      refine Ab rfl (.int .i64 ((8 + x.length : Nat) : Int)) (fun b w hb hH => AN rfl rfl rfl rfl (by rw [IntWalk.i64_in _ (by omega)]; omega) hb) ?_
      refine Ab rfl (.int .i64 ((Cx (ps.take (j + 1)) : Nat) : Int)) (fun b w hb hH => AN rfl rfl rfl rfl (by rw [IntWalk.i64_in _ (by omega)]; omega) hb) ?_
      refine AH (post := fun _ => [cell gx 31 #[.int .u64 ((q.1 : Nat) : Int), .int .i64 ((q.2 : Nat) : Int)], cell gh 31 #[.int .u64 ((q.1 : Nat) : Int), .int .i64 ((q.2 : Nat) : Int)], cell gd 3 #[.int .i64 8], cell ge 3 #[.int .i64 ((Cx (ps.take (j + 1)) : Nat) : Int)], CI L1 (Da r1), As 5 1 encB d x]) rfl rfl (AD 3 (v := .int .i64 ((Cx (ps.take (j + 1)) : Nat) : Int)) #[.int .i64 ((Cx (ps.take (j + 1)) : Nat) : Int)] AR.2 rfl rfl rfl rfl rfl rfl rfl rfl rfl) ?_; rintro ⟨⟩
      refine AP (Bt ?_)
      refine IH [1, 2, 3] rfl (PG (It hLj)) rfl ?_
      exact JN [2, 0] rfl rfl
  · skip
    intro j x d hpj hjN
    have hxl : x.length ≤ 65536 := hlen x (List.mem_of_getElem? hpj)
    have hst := HJ hpj
    have hs1 := hsum (j + 1)
    obtain rfl := hjN
    have hbad : EX x = none := Ll (ps := ps) (by rw [hL, hN]; exact hpj)
    refine L6 (Ef (n := 31) (env := [(14, d), (0, v), (2, .pointer (some ⟨g2, 0, none⟩)), (3, .int .i64 0), (4, .pointer (some ⟨gh, 0, none⟩)), (10, v8), (11, .int .i64 8), (5, .pointer (some ⟨gd, 0, none⟩)), (6, .pointer (some ⟨ge, 0, none⟩)), (12, v), (13, .func (.func 84) #[] #[.pointer (some ⟨g8, 0, none⟩)])]) (.exit 0) k12 k11 (by rw [k14]; rfl) ?_ ?_)
    · rw [k14, k13]
      refine (congrArg (fun t => Fr 31 { tmps := t, defers := [] } _) (?_ : _ = (tm1.setIfInBounds 14 d))).mpr (hf1.put (d := 14) (by decide) _)
      simp
    · intro w0 rs
      rw [k15]
      refine E8 (by kernel_rfl) (by rintro ⟨a, w, h⟩; first | exact h.elim | exact nomatch h.1 | (obtain ⟨_, h, _⟩ := h; exact nomatch h)) ?_
      refine Ae Ai rfl ?_
      refine AP ?_
      refine HH 0 rfl k11 ?_
      rw [k16]
      refine HG ?_
      refine FK (E8 (by kernel_rfl) (by rintro ⟨a, w, h⟩; first | exact h.elim | exact nomatch h.1 | (obtain ⟨_, h, _⟩ := h; exact nomatch h)) ?_)
      refine Ae Ai rfl ?_
      refine Aj (post := fun _ => [CI L1 (Da r1), LC gh gd ge L ps j, As 5 1 encB d x]) rfl (By (Ah Tryz.func71 (by kernel_rfl) rfl) (fun w hH => PF w (hH.sl8 2 rfl) hxl hbad) rfl rfl rfl) ?_; rintro ⟨⟩
      refine Ae Ai rfl ?_
      refine Aj (post := fun gx => [cell gx 31 #[.int .u64 0, .int .i64 0], CI L1 (Da r1), LC gh gd ge L ps j, As 5 1 encB d x]) rfl (BS Bq rfl) ?_; rintro gx
      refine AH (post := fun _ => [cell gx 31 #[.int .u64 0, .int .i64 0], CI L1 (Da r1), LC gh gd ge L ps j, As 5 1 encB d x]) rfl rfl (AD 0 (v := .agg #[.int .u64 0, .int .i64 0]) #[.int .u64 0, .int .i64 0] Am.2 rfl rfl rfl rfl rfl rfl rfl rfl rfl) ?_; rintro ⟨⟩
      refine Ae Ai rfl ?_
      refine AP (JM ?_)
      refine FK ?_
      refine FK (E8 (by kernel_rfl) (by rintro ⟨a, w, h⟩; first | exact h.elim | exact nomatch h.1 | (obtain ⟨_, h, _⟩ := h; exact nomatch h)) ?_)
      refine Ae Ai rfl ?_
      refine AP (JM ?_)
      refine Tg rfl ?_
      refine VI ?_
      refine E0 (EP (by decide) ?_)
      exact JN [1, 2] rfl rfl
  intro D aT wT hDm hD0 hdf hF hH
  obtain ⟨_, hH⟩ := Ko 0 rfl (LC.openN e1 e2) hH
  refine Tu ?_
  refine Oa (env := [(2, .pointer (some ⟨g2, 0, none⟩)), (3, .int .i64 0), (4, .pointer (some ⟨gh, 0, none⟩)), (6, .pointer (some ⟨ge, 0, none⟩))]) (os := [cell gh 31 #[.int .u64 ((z.1 : Nat) : Int), .int .i64 ((z.2 : Nat) : Int)], cell gd 3 #[.int .i64 8], cell ge 3 #[.int .i64 (n : Int)], As 5 1 encB (.slice A9 y.length c9) y, cell g8 48 #[.slice A9 y.length c9], cell g2 31 #[.int .u64 0, .int .i64 0], X]) ?_ aT wT hDm hD0 hdf (hF.keep ⟨rfl, rfl, rfl, rfl, trivial⟩) hH
  refine Tt (by kernel_rfl) ?_
  refine MV 0 1 (by kernel_rfl) ?_ ?_
  · skip
    refine DU rfl rfl (.agg #[.int .u64 ((z.1 : Nat) : Int), .int .i64 ((z.2 : Nat) : Int)]) (fun b w hb hH => A6 rfl rfl (D3 (cs := [.int .u64 ((z.1 : Nat) : Int), .int .i64 ((z.2 : Nat) : Int)]) Am rfl) (hH.row 0 rfl) hb) ?_
    refine MV 1 2 (by kernel_rfl) ?_ ?_
    · skip
      refine DU rfl rfl (.int .i64 (n : Int)) (fun b w hb hH => A6 rfl rfl (Bk AR rfl) (hH.row 2 rfl) hb) ?_
      refine Eu 2 (by kernel_rfl) ?_
      refine HK (post := fun _ => [cell gh 31 #[.int .u64 ((z.1 : Nat) : Int), .int .i64 ((z.2 : Nat) : Int)], cell gd 3 #[.int .i64 8], cell ge 3 #[.int .i64 (n : Int)], As 5 1 encB (.slice A9 y.length c9) y, cell g8 48 #[.slice A9 y.length c9], cell g2 31 #[.int .u64 ((z.1 : Nat) : Int), .int .i64 ((z.2 : Nat) : Int)], X]) rfl rfl rfl (fun B w0 => AD 5 (v := .agg #[.int .u64 ((z.1 : Nat) : Int), .int .i64 ((z.2 : Nat) : Int)]) #[.int .u64 ((z.1 : Nat) : Int), .int .i64 ((z.2 : Nat) : Int)] Am.2 rfl rfl rfl rfl rfl rfl rfl rfl rfl) ?_; rintro ⟨⟩
      refine Eu 3 (by kernel_rfl) ?_
      refine DU rfl rfl (.int .i64 (n : Int)) (fun b w hb hH => Af Ai rfl hb) ?_
      refine HO (by kernel_rfl) (Oa ?_)
      refine PA.keep (env' := [(2, .pointer (some ⟨g2, 0, none⟩)), (3, .int .i64 (n : Int))]) ⟨rfl, rfl, trivial⟩ ?_
      exact L7 (fun a w hD hD0 hd hF hH => JO (os := [cell gh 31 #[.int .u64 ((z.1 : Nat) : Int), .int .i64 ((z.2 : Nat) : Int)], cell gd 3 #[.int .i64 8], cell ge 3 #[.int .i64 (n : Int)], As 5 1 encB (.slice A9 y.length c9) y, cell g8 48 #[.slice A9 y.length c9], cell g2 31 #[.int .u64 ((z.1 : Nat) : Int), .int .i64 ((z.2 : Nat) : Int)], X]) (.cell 5 (v := .agg #[.int .u64 ((z.1 : Nat) : Int), .int .i64 ((z.2 : Nat) : Int)]) (D3 (cs := [.int .u64 ((z.1 : Nat) : Int), .int .i64 ((z.2 : Nat) : Int)]) Am rfl) rfl rfl) (.tmp rfl) rfl (fun w' h => AB (X := Unit) (val := fun _ => .tuple #[.agg #[.int .u64 ((z.1 : Nat) : Int), .int .i64 ((z.2 : Nat) : Int)], .int .i64 (n : Int)]) (post := fun _ => [X]) (os := [cell gh 31 #[.int .u64 ((z.1 : Nat) : Int), .int .i64 ((z.2 : Nat) : Int)], cell gd 3 #[.int .i64 8], cell ge 3 #[.int .i64 (n : Int)], As 5 1 encB (.slice A9 y.length c9) y, cell g8 48 #[.slice A9 y.length c9], cell g2 31 #[.int .u64 ((z.1 : Nat) : Int), .int .i64 ((z.2 : Nat) : Int)], X]) () rfl [6] rfl h Cl) D a w hD hD0 hd hF hH)
    · skip
      refine HK (post := fun _ => [cell gh 31 #[.int .u64 ((z.1 : Nat) : Int), .int .i64 ((z.2 : Nat) : Int)], cell gd 3 #[.int .i64 8], cell ge 3 #[.int .i64 (n : Int)], As 5 1 encB (.slice A9 y.length c9) y, cell g8 48 #[.slice A9 y.length c9], cell g2 31 #[.int .u64 ((z.1 : Nat) : Int), .int .i64 ((z.2 : Nat) : Int)], X]) rfl rfl rfl (fun B w0 => AD 5 (v := .agg #[.int .u64 ((z.1 : Nat) : Int), .int .i64 ((z.2 : Nat) : Int)]) #[.int .u64 ((z.1 : Nat) : Int), .int .i64 ((z.2 : Nat) : Int)] Am.2 rfl rfl rfl rfl rfl rfl rfl rfl rfl) ?_; rintro ⟨⟩
      refine Eu 1 (by kernel_rfl) ?_
      refine DU rfl rfl (.int .i64 (n : Int)) (fun b w hb hH => A6 rfl rfl (Bk AR rfl) (hH.row 2 rfl) hb) ?_
      refine Eu 3 (by kernel_rfl) ?_
      refine DU rfl rfl (.int .i64 (n : Int)) (fun b w hb hH => Af Ai rfl hb) ?_
      refine HO (by kernel_rfl) (Oa ?_)
      refine PA.keep (env' := [(2, .pointer (some ⟨g2, 0, none⟩)), (3, .int .i64 (n : Int))]) ⟨rfl, rfl, trivial⟩ ?_
      exact L7 (fun a w hD hD0 hd hF hH => JO (os := [cell gh 31 #[.int .u64 ((z.1 : Nat) : Int), .int .i64 ((z.2 : Nat) : Int)], cell gd 3 #[.int .i64 8], cell ge 3 #[.int .i64 (n : Int)], As 5 1 encB (.slice A9 y.length c9) y, cell g8 48 #[.slice A9 y.length c9], cell g2 31 #[.int .u64 ((z.1 : Nat) : Int), .int .i64 ((z.2 : Nat) : Int)], X]) (.cell 5 (v := .agg #[.int .u64 ((z.1 : Nat) : Int), .int .i64 ((z.2 : Nat) : Int)]) (D3 (cs := [.int .u64 ((z.1 : Nat) : Int), .int .i64 ((z.2 : Nat) : Int)]) Am rfl) rfl rfl) (.tmp rfl) rfl (fun w' h => AB (X := Unit) (val := fun _ => .tuple #[.agg #[.int .u64 ((z.1 : Nat) : Int), .int .i64 ((z.2 : Nat) : Int)], .int .i64 (n : Int)]) (post := fun _ => [X]) (os := [cell gh 31 #[.int .u64 ((z.1 : Nat) : Int), .int .i64 ((z.2 : Nat) : Int)], cell gd 3 #[.int .i64 8], cell ge 3 #[.int .i64 (n : Int)], As 5 1 encB (.slice A9 y.length c9) y, cell g8 48 #[.slice A9 y.length c9], cell g2 31 #[.int .u64 ((z.1 : Nat) : Int), .int .i64 ((z.2 : Nat) : Int)], X]) () rfl [6] rfl h Cl) D a w hD hD0 hd hF hH)
  · skip
    refine DU rfl rfl (.int .i64 (n : Int)) (fun b w hb hH => A6 rfl rfl (Bk AR rfl) (hH.row 2 rfl) hb) ?_
    refine Eu 0 (by kernel_rfl) ?_
    refine DU rfl rfl (.agg #[.int .u64 ((z.1 : Nat) : Int), .int .i64 ((z.2 : Nat) : Int)]) (fun b w hb hH => A6 rfl rfl (D3 (cs := [.int .u64 ((z.1 : Nat) : Int), .int .i64 ((z.2 : Nat) : Int)]) Am rfl) (hH.row 0 rfl) hb) ?_
    refine Eu 2 (by kernel_rfl) ?_
    refine HK (post := fun _ => [cell gh 31 #[.int .u64 ((z.1 : Nat) : Int), .int .i64 ((z.2 : Nat) : Int)], cell gd 3 #[.int .i64 8], cell ge 3 #[.int .i64 (n : Int)], As 5 1 encB (.slice A9 y.length c9) y, cell g8 48 #[.slice A9 y.length c9], cell g2 31 #[.int .u64 ((z.1 : Nat) : Int), .int .i64 ((z.2 : Nat) : Int)], X]) rfl rfl rfl (fun B w0 => AD 5 (v := .agg #[.int .u64 ((z.1 : Nat) : Int), .int .i64 ((z.2 : Nat) : Int)]) #[.int .u64 ((z.1 : Nat) : Int), .int .i64 ((z.2 : Nat) : Int)] Am.2 rfl rfl rfl rfl rfl rfl rfl rfl rfl) ?_; rintro ⟨⟩
    refine Eu 3 (by kernel_rfl) ?_
    refine DU rfl rfl (.int .i64 (n : Int)) (fun b w hb hH => Af Ai rfl hb) ?_
    refine HO (by kernel_rfl) (Oa ?_)
    refine PA.keep (env' := [(2, .pointer (some ⟨g2, 0, none⟩)), (3, .int .i64 (n : Int))]) ⟨rfl, rfl, trivial⟩ ?_
    exact L7 (fun a w hD hD0 hd hF hH => JO (os := [cell gh 31 #[.int .u64 ((z.1 : Nat) : Int), .int .i64 ((z.2 : Nat) : Int)], cell gd 3 #[.int .i64 8], cell ge 3 #[.int .i64 (n : Int)], As 5 1 encB (.slice A9 y.length c9) y, cell g8 48 #[.slice A9 y.length c9], cell g2 31 #[.int .u64 ((z.1 : Nat) : Int), .int .i64 ((z.2 : Nat) : Int)], X]) (.cell 5 (v := .agg #[.int .u64 ((z.1 : Nat) : Int), .int .i64 ((z.2 : Nat) : Int)]) (D3 (cs := [.int .u64 ((z.1 : Nat) : Int), .int .i64 ((z.2 : Nat) : Int)]) Am rfl) rfl rfl) (.tmp rfl) rfl (fun w' h => AB (X := Unit) (val := fun _ => .tuple #[.agg #[.int .u64 ((z.1 : Nat) : Int), .int .i64 ((z.2 : Nat) : Int)], .int .i64 (n : Int)]) (post := fun _ => [X]) (os := [cell gh 31 #[.int .u64 ((z.1 : Nat) : Int), .int .i64 ((z.2 : Nat) : Int)], cell gd 3 #[.int .i64 8], cell ge 3 #[.int .i64 (n : Int)], As 5 1 encB (.slice A9 y.length c9) y, cell g8 48 #[.slice A9 y.length c9], cell g2 31 #[.int .u64 ((z.1 : Nat) : Int), .int .i64 ((z.2 : Nat) : Int)], X]) () rfl [6] rfl h Cl) D a w hD hD0 hd hF hH)
theorem Od {X : Ass} {v : Value} {y : List UInt8} (hX : CX X v y) (hl : y.length ≤ 137438953472) {h : HV} {n : Nat} (hr : Iu y = (h, n)) : AU Tryz.prog 33 #[v] [X] (fun _ : Unit => .tuple #[.agg #[.int .u64 ((h.1 : Nat) : Int), .int .i64 ((h.2 : Nat) : Int)], .int .i64 (n : Int)]) (fun _ => [X]) := by
  have e1 : Bz (Kq (BK y).1) = h := congrArg Prod.fst hr
  have e2 : Cx ((BK y).1.take (Kq (BK y).1).length) = n := congrArg Prod.snd hr
  have e3 : Bz ((Kq (BK y).1).take (Kq (BK y).1).length) = h := by rw [List.take_length]; exact e1
  rcases Nat.lt_or_eq_of_le (MT (BK y).1) with hlt | heq
  · exact Tw hX hl rfl rfl rfl hlt e3 e2
  · exact Tv hX hl rfl rfl rfl heq.symm e3 e2
end Go.Proofs.YtnknboibmifacaaGreat.Sep
