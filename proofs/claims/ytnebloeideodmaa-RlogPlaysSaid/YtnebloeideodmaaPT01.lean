/-
  RlMa · RlMb
-/
import Derived.Test.YtnebloeideodmaaPQ01
import Derived.Test.YtnebloeideodmaaPR01
set_option linter.unusedSimpArgs false
set_option linter.unusedVariables false
namespace Go.Proofs.Ytnebloeideodmaa.Sep
open Go.RowKit
open Go.Proofs.Ytnebloeideodmaa.Mem (AM BA Chg Aq)
theorem Vo {ix tm : Int} {e : EntD} (h : 1 ≤ tm) : (CD ix tm e).t = tm + e.k % 8 / 6 := by
 have h1 := Int.emod_nonneg e.k (show (8 : Int) ≠ 0 by decide)
 show max 1 (tm + e.k % 8 / 6) = _
 omega
theorem Vp (ix tm : Int) (e : EntD) : (CD ix tm e).d.length ≤ 31 := by
  show (if e.c % 3 = 1 then (1 : UInt8) :: e.d.take 30 else []).length ≤ 31
  split
  · rw [List.length_cons, List.length_take]; omega
  · simp
theorem OR : ∀ (l : List EntD) (ix tm : Int) (e : EntD), e ∈ CE ix tm l → e.d.length ≤ 31
  | [], _, _, _, h => by cases h
  | x :: r, ix, tm, e, h => by
    rcases List.mem_cons.1 h with h | h
    · rw [h]; exact Vp ix tm x
    · exact OR r _ _ e h
theorem Ji {L : List EntV} {l : List EntD} {ix tm : Int} (h : L.map (·.e) = CE ix tm l) (x : EntV) (hx : x ∈ L) : x.e.d.length ≤ 140737488351232 := by
  have := OR l ix tm x.e (by rw [← h]; exact List.mem_map.2 ⟨x, hx, rfl⟩)
  omega
theorem Mv : ∀ (l : List EntD) (ix tm t0 : Int), 0 ≤ ix → ix + (l.length : Int) < 1000 → 1 ≤ tm → tm + (l.length : Int) < 1000 → t0 ≤ tm → BY ix t0 (CE ix tm l) = true
  | [], _, _, _, _, _, _, _, _ => rfl
  | x :: r, ix, tm, t0, h1, h2, h3, h4, h5 => by
    have hk0 := Int.emod_nonneg x.k (show (8 : Int) ≠ 0 by decide)
    have hk8 := Int.emod_lt_of_pos x.k (show (0 : Int) < 8 by decide)
    have ht := Vo (ix := ix) (e := x) h3
    rw [List.length_cons] at h2 h4
    push_cast at h2 h4
    show BY ix t0 (CD ix tm x :: CE (ix + 1) (tm + x.k % 8 / 6) r) = true
    rw [BN, Ms ⟨h1, by omega⟩ ⟨by omega, by omega⟩]
    have hi : (CD ix tm x).i = ix + 1 := rfl
    rw [hi, ht]
    simp only [decide_true, Bool.true_and]
    rw [decide_eq_true (by omega), Bool.true_and]
    exact Mv r _ _ _ (by omega) (by omega) (by omega) (by omega) (Int.le_refl _)
theorem Lf {bi bt : Int} {es l : List EntD} : (E3 bi bt es l).1.length ≤ es.length + l.length := by
  induction l with
  | nil => exact Nat.le_refl _
  | cons x r ih =>
    show (if CY bi bt es x.i x.t then E3 bi bt es r else _).1.length ≤ _
    split
    · rw [List.length_cons]; omega
    · show (es.take _ ++ x :: r).length ≤ _
      rw [List.length_append, List.length_take]; omega
theorem Ii {bi bt : Int} {es : List EntD} (h : InvL bi bt es) : ∀ {l : List EntD} {x t : Int}, BO bi bt es x = (t, true) → BY x t l = true → InvL bi bt (E3 bi bt es l).1
  | [], _, _, _, _ => h
  | e :: r, x, t, hx, hf => by
    rw [BN] at hf
    simp only [Bool.and_eq_true, decide_eq_true_eq] at hf
    obtain ⟨h1, h2, h3, h4⟩ := hf
    cases hh : CY bi bt es e.i e.t with
    | true =>
      show InvL bi bt (if CY bi bt es e.i e.t then E3 bi bt es r else _).1
      rw [hh]
      exact Ii h (DW.1 hh) h4
    | false =>
      show InvL bi bt (if CY bi bt es e.i e.t then E3 bi bt es r else _).1
      rw [hh]
      show InvL bi bt (es.take (Dt bi es.length (e.i - 1)) ++ e :: r)
      have hxe : e.i - 1 = x := by omega
      rw [hxe]
      have hin : bi ≤ x ∧ x ≤ bi + (es.length : Int) := by
        refine Decidable.byContradiction fun hn => ?_
        have := DH (bt := bt) (es := es) (show x < bi ∨ bi + (es.length : Int) < x by omega)
        rw [hx] at this
        exact absurd (congrArg Prod.snd this) (by simp)
      have hul : (es.take (Dt bi es.length x)).length = Dt bi es.length x := by rw [List.length_take]; exact Nat.min_eq_left HL
      have hix : bi + ((es.take (Dt bi es.length x)).length : Int) = x := by rw [hul]; unfold Dt; omega
      have htk := Mg (Dt bi es.length x) h.hf
      refine ⟨h.hi, h.ht, ?_⟩
      rw [Hh htk, hix]
      have hlt : Ev bt (es.take (Dt bi es.length x)) = t := by
        have h5 := C9 (bi := bi) (bt := bt) (es := es.take (Dt bi es.length x))
        rw [hix] at h5
        have h6 : BO bi bt (es.take (Dt bi es.length x)) x = BO bi bt es x := by
          unfold BO
          split
          · rfl
          · split
            · rfl
            · rw [List.getElem?_take, if_pos (by unfold Dt; omega)]
        rw [h6, hx] at h5
        exact (congrArg Prod.fst h5).symm
      rw [hlt, BN, h1, decide_eq_true h2, decide_eq_true h3, Bool.true_and, Bool.true_and, Bool.true_and]
      exact h4
theorem Tw {bi bt : Int} {es l : List EntD} (h : InvL bi bt es) (hl : BY (bi + (es.length : Int)) (Ev bt es) l = true) : InvL bi bt (es ++ l) := ⟨h.hi, h.ht, by rw [Hh h.hf]; exact hl⟩
theorem OS {bi bt : Int} {es : List EntD} (h : InvL bi bt es) {x a : Int} (h1 : bi < x) (h2 : x ≤ bi + (es.length : Int)) (ht : BO bi bt es x = (a, true)) {u : Nat} (hu : Dt bi es.length x = u) : InvL x a (es.drop u) := by
 have hue : x - bi = (u : Int) := by unfold Dt at hu; omega
 have hlen := h.len
 have hb := h.hi
 have ha := KZ h x
 rw [ht] at ha
 refine ⟨by omega, ha, ?_⟩
 have h5 := RR (k := u) (by omega) h.hf
 have h6 := C9 (bi := bi) (bt := bt) (es := es.take u)
 have hul : (es.take u).length = u := by rw [List.length_take]; omega
 rw [hul, show bi + (u : Int) = x by omega] at h6
 have h7 : BO bi bt (es.take u) x = BO bi bt es x := by
  unfold BO
  rw [if_neg (by omega), if_neg (by omega), List.getElem?_take, if_pos (by omega), if_neg (by omega), if_neg (by omega)]
 rw [h7, ht] at h6
 rw [show Ev bt (es.take u) = a from (congrArg Prod.fst h6).symm, show bi + (u : Int) = x by omega] at h5
 exact h5
theorem Tx {bi bt : Int} {es : List EntD} (h : InvL bi bt es) {x a : Int} (ht : BO bi bt es x = (a, true)) {u : Nat} (hu : Dt bi es.length x = u) : InvL x a (es.drop u) := by
  have hin : bi ≤ x ∧ x ≤ bi + (es.length : Int) := by
    refine Decidable.byContradiction fun hn => ?_
    have := DH (bt := bt) (es := es) (show x < bi ∨ bi + (es.length : Int) < x by omega)
    rw [ht] at this
    exact absurd (congrArg Prod.snd this) (by simp)
  by_cases hx : bi < x
  · exact OS h hx hin.2 ht hu
  · have hxe : x = bi := by omega
    subst hxe
    rw [Et] at ht
    obtain rfl : bt = a := congrArg Prod.fst ht
    have : u = 0 := by rw [← hu]; unfold Dt; omega
    rw [this, List.drop_zero]; exact h
end Go.Proofs.Ytnebloeideodmaa.Sep
namespace Go.Proofs.Ytnebloeideodmaa.Sep
open Go.RowKit
open Go.Proofs.Ytnebloeideodmaa.Mem (AM BA Chg Aq)
theorem Vq {bi bt : Int} {es : List EntD} (h : InvL bi bt es) (k : Nat) (hk : k ≤ es.length) : ∃ t, BO bi bt es (bi + (k : Int)) = (t, true) ∧ (1 ≤ bt → 1 ≤ t) ∧ t ≤ 72057594037927935 := by
  cases k with
  | zero => exact ⟨bt, by rw [show bi + ((0 : Nat) : Int) = bi by omega, Et], id, h.ht.2⟩
  | succ n =>
    obtain ⟨e, he⟩ : ∃ e, es[n]? = some e := ⟨_, List.getElem?_eq_getElem (by omega)⟩
    have := (h.at_ he).2.2.2
    exact ⟨e.t, Hi (k := n) (by push_cast; omega) he, fun _ => this.1, this.2⟩
theorem Sr {l : List EntD} {bi bt : Int} (h1 : 1 ≤ bi) (h2 : bi + (l.length : Int) < 1000) (h3 : 1 ≤ bt) (h4 : bt + (l.length : Int) < 1000) : InvL bi bt (CE bi bt l) := ⟨by omega, by omega, Mv l bi bt bt (by omega) h2 h3 h4 (Int.le_refl _)⟩
theorem OT {te : TypeId} {v : Value} {l : List EntV} : ∀ rs, BZ te v l rs → ∃ x : Option Addr × Nat, v = .slice x.1 l.length x.2 := fun rs ⟨a, b, e, h1, _⟩ => by
 obtain ⟨A, c, h⟩ := h1.is
 exact ⟨(A, c), h⟩
theorem Ss {A : Option Addr} {c n : Nat} {l : List EntV} : ∀ rs, BZ 32 (.slice A n c) l rs → l.length ≤ c := fun rs ⟨a, b, e, h1, _⟩ => Ja h1
def CW (A : Option Addr) (c : Nat) (l : List EntV) : Ass := BZ 32 (.slice A l.length c) l
theorem BQ.openE {v : Value} {l : List EntD} : ∀ rs, BQ v l rs → ∃ x : { x : RfV // v = .slice x.A x.L.length x.c ∧ x.L.map (·.e) = l ∧ x.L.length ≤ x.c }, Am [CW x.1.A x.1.c x.1.L] rs := fun rs ⟨L, hL, hr⟩ => by
  obtain ⟨⟨A, c⟩, hv⟩ := OT rs hr
  subst hv
  exact ⟨⟨⟨A, c, L⟩, rfl, hL, Ss rs hr⟩, Am.one hr⟩
theorem DI {A : Option Addr} {c : Nat} {l : List EntV} : Cx (CW A c l) (.slice A l.length c) l := PP
theorem Vr (bi bt bc : Int) (hbi : 0 ≤ bi ∧ bi ≤ 18446744073709551615) (hbt : 0 ≤ bt ∧ bt ≤ 18446744073709551615) (hbc : -9223372036854775808 ≤ bc ∧ bc ≤ 9223372036854775807) (X : Ass) (A : Option Addr) (c : Nat) (l : List EntV) (hX : Cx X (.slice A l.length c) l) (hd : ∀ x, x ∈ l → x.e.d.length ≤ 140737488351232) (hs : l.length * 56 ≤ 140737488351232) (es : List EntD) (he : l.map (·.e) = es) (h : CS bi bt bc = true) (h2 : BY bi bt es = true) : AV Try.prog 8 #[.agg #[.int .u64 bi, .int .u64 bt, .int .i64 bc], .slice A l.length c] [X] (fun g : Nat => .tuple #[.pointer (some ⟨g, 0, none⟩), .int .i64 0]) (fun g => [Av g bi bt bc es, X]) := by
  subst he
  exact Vg bi bt bc hbi hbt hbc X A c l hX hd hs h h2
theorem Ty (bi bt bc : Int) (hbi : 0 ≤ bi ∧ bi ≤ 18446744073709551615) (hbt : 0 ≤ bt ∧ bt ≤ 18446744073709551615) (hbc : -9223372036854775808 ≤ bc ∧ bc ≤ 9223372036854775807) (X : Ass) (A : Option Addr) (c : Nat) (l : List EntV) (hX : Cx X (.slice A l.length c) l) (hd : ∀ x, x ∈ l → x.e.d.length ≤ 140737488351232) (hs : l.length * 56 ≤ 140737488351232) (es : List EntD) (he : l.map (·.e) = es) (h : CS bi bt bc = true) (h2 : BY bi bt es = true) : AV Try.prog 22 #[.agg #[.int .u64 bi, .int .u64 bt, .int .i64 bc], .slice A l.length c] [X] (fun g : Nat => .pointer (some ⟨g, 0, none⟩)) (fun g => [BG g bi bt bc es, X]) := by
  subst he
  exact Sk bi bt bc hbi hbt hbc X A c l hX hd hs h h2
end Go.Proofs.Ytnebloeideodmaa.Sep
