/-
  RlMa · RlMb
-/
import Derived.Test.YtnebloeideodmaaNQ01
import Derived.Test.YtnebloeideodmaaNR01
set_option linter.unusedSimpArgs false
set_option linter.unusedVariables false

namespace Go.Proofs.Ytnebloeideodmaa.Sep
open Go.RowKit
open Go.Proofs.Ytnebloeideodmaa.Mem (Dist Blk Chg below0)

theorem hand_d (ix tm : Int) (e : EntD) : (handE ix tm e).d.length ≤ 31 := by
  show (if e.c % 3 = 1 then (1 : UInt8) :: e.d.take 30 else []).length ≤ 31
  split
  · rw [List.length_cons, List.length_take]; omega
  · simp
theorem handL_d : ∀ (l : List EntD) (ix tm : Int) (e : EntD), e ∈ handL ix tm l → e.d.length ≤ 31
  | [], _, _, _, h => by cases h
  | x :: r, ix, tm, e, h => by
    rcases List.mem_cons.1 h with h | h
    · rw [h]; exact hand_d ix tm x
    · exact handL_d r _ _ e h
theorem hand_map_d {L : List EntV} {l : List EntD} {ix tm : Int} (h : L.map (·.e) = handL ix tm l) (x : EntV) (hx : x ∈ L) : x.e.d.length ≤ 140737488351232 := by
  have := handL_d l ix tm x.e (by rw [← h]; exact List.mem_map.2 ⟨x, hx, rfl⟩)
  omega
end Go.Proofs.Ytnebloeideodmaa.Sep

namespace Go.Proofs.Ytnebloeideodmaa.Sep
open Go.RowKit
open Go.Proofs.Ytnebloeideodmaa.Mem (Dist Blk Chg below0)
/-! ## The contracts with a letter for what is told -/
theorem ents_is {te : TypeId} {v : Value} {l : List EntV} : ∀ rs, Ents te v l rs → ∃ x : Option Addr × Nat, v = .slice x.1 l.length x.2 := fun rs ⟨a, b, e, h1, _⟩ => by
  obtain ⟨A, c, h⟩ := h1.is
  exact ⟨(A, c), h⟩
theorem ents_cap {A : Option Addr} {c n : Nat} {l : List EntV} : ∀ rs, Ents 32 (.slice A n c) l rs → l.length ≤ c := fun rs ⟨a, b, e, h1, _⟩ => vec_capE h1
/-- entries of one's own, the slice told -/
def EnE (A : Option Addr) (c : Nat) (l : List EntV) : Ass := Ents 32 (.slice A l.length c) l
theorem EnT.openE {v : Value} {l : List EntD} : ∀ rs, EnT v l rs → ∃ x : { x : RfV // v = .slice x.A x.L.length x.c ∧ x.L.map (·.e) = l ∧ x.L.length ≤ x.c }, Parts [EnE x.1.A x.1.c x.1.L] rs := fun rs ⟨L, hL, hr⟩ => by
  obtain ⟨⟨A, c⟩, hv⟩ := ents_is rs hr
  subst hv
  exact ⟨⟨⟨A, c, L⟩, rfl, hL, ents_cap rs hr⟩, Parts.one hr⟩
theorem enE_rd {A : Option Addr} {c : Nat} {l : List EntV} : RdEs (EnE A c l) (.slice A l.length c) l := rdEs_ents
theorem lnew_v (bi bt bc : Int) (hbi : 0 ≤ bi ∧ bi ≤ 18446744073709551615) (hbt : 0 ≤ bt ∧ bt ≤ 18446744073709551615) (hbc : -9223372036854775808 ≤ bc ∧ bc ≤ 9223372036854775807) (X : Ass) (A : Option Addr) (c : Nat) (l : List EntV) (hX : RdEs X (.slice A l.length c) l) (hd : ∀ x, x ∈ l → x.e.d.length ≤ 140737488351232) (hs : l.length * 56 ≤ 140737488351232) (es : List EntD) (he : l.map (·.e) = es) (h : baseR bi bt bc = true) (h2 : folB bi bt es = true) : Does Try.prog 8 #[.agg #[.int .u64 bi, .int .u64 bt, .int .i64 bc], .slice A l.length c] [X] (fun g : Nat => .tuple #[.pointer (some ⟨g, 0, none⟩), .int .i64 0]) (fun g => [LogD g bi bt bc es, X]) := by
  subst he
  exact new_ok bi bt bc hbi hbt hbc X A c l hX hd hs h h2
theorem lrnew_v (bi bt bc : Int) (hbi : 0 ≤ bi ∧ bi ≤ 18446744073709551615) (hbt : 0 ≤ bt ∧ bt ≤ 18446744073709551615) (hbc : -9223372036854775808 ≤ bc ∧ bc ≤ 9223372036854775807) (X : Ass) (A : Option Addr) (c : Nat) (l : List EntV) (hX : RdEs X (.slice A l.length c) l) (hd : ∀ x, x ∈ l → x.e.d.length ≤ 140737488351232) (hs : l.length * 56 ≤ 140737488351232) (es : List EntD) (he : l.map (·.e) = es) (h : baseR bi bt bc = true) (h2 : folB bi bt es = true) : Does Try.prog 22 #[.agg #[.int .u64 bi, .int .u64 bt, .int .i64 bc], .slice A l.length c] [X] (fun g : Nat => .pointer (some ⟨g, 0, none⟩)) (fun g => [RfT g bi bt bc es, X]) := by
  subst he
  exact r_new_ok bi bt bc hbi hbt hbc X A c l hX hd hs h h2
end Go.Proofs.Ytnebloeideodmaa.Sep
