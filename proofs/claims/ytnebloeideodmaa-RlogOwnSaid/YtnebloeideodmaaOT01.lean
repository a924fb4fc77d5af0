/-
  RlMa · RlMb
-/
import Derived.Test.YtnebloeideodmaaOQ01
import Derived.Test.YtnebloeideodmaaOR01
set_option linter.unusedSimpArgs false
set_option linter.unusedVariables false

namespace Go.Proofs.Ytnebloeideodmaa.Sep
open Go.RowKit
open Go.Proofs.Ytnebloeideodmaa.Mem (Dist Blk Chg below0)

theorem hand_t {ix tm : Int} {e : EntD} (h : 1 ≤ tm) : (handE ix tm e).t = tm + e.k % 8 / 6 := by
  have h1 := Int.emod_nonneg e.k (show (8 : Int) ≠ 0 by decide)
  show max 1 (tm + e.k % 8 / 6) = _
  omega
theorem hand_fol : ∀ (l : List EntD) (ix tm t0 : Int), 0 ≤ ix → ix + (l.length : Int) < 1000 → 1 ≤ tm → tm + (l.length : Int) < 1000 → t0 ≤ tm → folB ix t0 (handL ix tm l) = true
  | [], _, _, _, _, _, _, _, _ => rfl
  | x :: r, ix, tm, t0, h1, h2, h3, h4, h5 => by
    have hk0 := Int.emod_nonneg x.k (show (8 : Int) ≠ 0 by decide)
    have hk8 := Int.emod_lt_of_pos x.k (show (0 : Int) < 8 by decide)
    have ht := hand_t (ix := ix) (e := x) h3
    rw [List.length_cons] at h2 h4
    push_cast at h2 h4
    show folB ix t0 (handE ix tm x :: handL (ix + 1) (tm + x.k % 8 / 6) r) = true
    rw [folB_cons, handE_right ⟨h1, by omega⟩ ⟨by omega, by omega⟩]
    have hi : (handE ix tm x).i = ix + 1 := rfl
    rw [hi, ht]
    simp only [decide_true, Bool.true_and]
    rw [decide_eq_true (by omega), Bool.true_and]
    exact hand_fol r _ _ _ (by omega) (by omega) (by omega) (by omega) (Int.le_refl _)
end Go.Proofs.Ytnebloeideodmaa.Sep

namespace Go.Proofs.Ytnebloeideodmaa.Sep
open Go.RowKit
open Go.Proofs.Ytnebloeideodmaa.Mem (Dist Blk Chg below0)
/-- a log that the hand makes -/
theorem hand_inv {l : List EntD} {bi bt : Int} (h1 : 1 ≤ bi) (h2 : bi + (l.length : Int) < 1000) (h3 : 1 ≤ bt) (h4 : bt + (l.length : Int) < 1000) : InvL bi bt (handL bi bt l) := ⟨by omega, by omega, hand_fol l bi bt bt (by omega) h2 h3 h4 (Int.le_refl _)⟩
theorem inv_mem {bi bt : Int} {es : List EntD} (h : InvL bi bt es) (e : EntD) (he : e ∈ es) : e.d.length ≤ 128 := by
  obtain ⟨k, hk⟩ := List.getElem?_of_mem he
  exact dat_len (h.at_ hk).2.1
theorem hd_of {l : List EntD} {L : List EntV} (h : ∀ e ∈ l, e.d.length ≤ 128) (hL : L.map (·.e) = l) (x : EntV) (hx : x ∈ L) : x.e.d.length ≤ 140737488351232 := by
  have := h x.e (by rw [← hL]; exact List.mem_map.2 ⟨x, hx, rfl⟩)
  omega
/-! ## The contracts with a letter for what is told -/
theorem ents_is {te : TypeId} {v : Value} {l : List EntV} : ∀ rs, Ents te v l rs → ∃ x : Option Addr × Nat, v = .slice x.1 l.length x.2 := fun rs ⟨a, b, e, h1, _⟩ => by
  obtain ⟨A, c, h⟩ := h1.is
  exact ⟨(A, c), h⟩
theorem ents_cap {A : Option Addr} {c n : Nat} {l : List EntV} : ∀ rs, Ents 32 (.slice A n c) l rs → l.length ≤ c := fun rs ⟨a, b, e, h1, _⟩ => vec_capE h1
/-- entries of one's own, the slice told -/
def EnE (A : Option Addr) (c : Nat) (l : List EntV) : Ass := Ents 32 (.slice A l.length c) l
theorem EnT.openE {v : Value} {l : List EntD} : ∀ rs, EnT v l rs → ∃ x : { x : RfV // v = .slice x.A x.L.length x.c ∧ x.L.map (·.e) = l ∧ x.L.length ≤ x.c }, Parts [EnE x.1.A x.1.c x.1.L] rs := fun rs ⟨L, hL, hr⟩ => by
  obtain ⟨⟨A, c⟩, hv⟩ := ents_is rs hr
  subst hv
  exact ⟨⟨⟨A, c, L⟩, rfl, hL, ents_cap rs hr⟩, Parts.one hr⟩
theorem enE_rd {A : Option Addr} {c : Nat} {l : List EntV} : RdEs (EnE A c l) (.slice A l.length c) l := rdEs_ents
theorem lnew_v (bi bt bc : Int) (hbi : 0 ≤ bi ∧ bi ≤ 18446744073709551615) (hbt : 0 ≤ bt ∧ bt ≤ 18446744073709551615) (hbc : -9223372036854775808 ≤ bc ∧ bc ≤ 9223372036854775807) (X : Ass) (A : Option Addr) (c : Nat) (l : List EntV) (hX : RdEs X (.slice A l.length c) l) (hd : ∀ x, x ∈ l → x.e.d.length ≤ 140737488351232) (hs : l.length * 56 ≤ 140737488351232) (es : List EntD) (he : l.map (·.e) = es) (h : baseR bi bt bc = true) (h2 : folB bi bt es = true) : Does Try.prog 8 #[.agg #[.int .u64 bi, .int .u64 bt, .int .i64 bc], .slice A l.length c] [X] (fun g : Nat => .tuple #[.pointer (some ⟨g, 0, none⟩), .int .i64 0]) (fun g => [LogD g bi bt bc es, X]) := by
  subst he
  exact new_ok bi bt bc hbi hbt hbc X A c l hX hd hs h h2
end Go.Proofs.Ytnebloeideodmaa.Sep
