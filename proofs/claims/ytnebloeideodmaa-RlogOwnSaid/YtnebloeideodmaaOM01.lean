/-
  RlV · RlW
-/
import Derived.Test.YtnebloeideodmaaOG02
import Derived.Test.YtnebloeideodmaaOJ01
import Derived.Test.YtnebloeideodmaaOK01
set_option linter.unusedSimpArgs false
set_option linter.unusedVariables false

namespace Go.Proofs.Ytnebloeideodmaa.Sep
open Go.RowKit
open Go.Proofs.Ytnebloeideodmaa.Mem (Dist Blk Chg below0)
structure RfV where
  A : Option Addr
  c : Nat
  L : List EntV
def RfV.v (x : RfV) : Value := .slice x.A x.L.length x.c
def RfT (g : Nat) (bi bt bc : Int) (es : List EntD) : Ass := fun rs => ∃ x : RfV, (x.L.map (·.e) = es ∧ x.L.length ≤ x.c) ∧ Parts [cell g 74 #[.int .u64 bi, .int .u64 bt, .int .i64 bc, .slice x.A x.L.length x.c], Vec 32 5 encV (.slice x.A x.L.length x.c) x.L, Each dat x.L] rs
theorem RfT.open_ {g : Nat} {bi bt bc : Int} {es : List EntD} : ∀ rs, RfT g bi bt bc es rs → ∃ x : { x : RfV // x.L.map (·.e) = es ∧ x.L.length ≤ x.c }, Parts [cell g 74 #[.int .u64 bi, .int .u64 bt, .int .i64 bc, .slice x.1.A x.1.L.length x.1.c], Vec 32 5 encV (.slice x.1.A x.1.L.length x.1.c) x.1.L, Each dat x.1.L] rs := fun _ ⟨x, h, hr⟩ => ⟨⟨x, h⟩, hr⟩
theorem vec_capE {α : Type} {te : TypeId} {k : Nat} {enc : α → List Value} {A : Option Addr} {c n : Nat} {l : List α} {rs : List RowT} (h : Vec te k enc (.slice A n c) l rs) : l.length ≤ c := by
  rcases h with ⟨h1, h2, _⟩ | ⟨g, cap, cs, h1, h2, _⟩
  · rw [h2]; exact Nat.zero_le _
  · simp only [Value.slice.injEq] at h1; omega
theorem RfT.mk {g : Nat} {bi bt bc : Int} {v : Value} {es : List EntD} : ∀ rs, Parts [cell g 74 #[.int .u64 bi, .int .u64 bt, .int .i64 bc, v], EnT v es] rs → RfT g bi bt bc es rs := fun rs h => by
  obtain ⟨a, b, e, h1, h2⟩ := h
  obtain ⟨L, hL, p, q, e2, h3, h4⟩ := h2.one'
  obtain ⟨A, c, rfl⟩ := h3.is
  exact ⟨⟨A, c, L⟩, ⟨hL, vec_capE h3⟩, a, b, e, h1, p, q, e2, h3, h4⟩
theorem RfT.back {g : Nat} {bi bt bc : Int} {A : Option Addr} {c : Nat} {L : List EntV} {es : List EntD} (hL : L.map (·.e) = es) (hc : L.length ≤ c) : ∀ rs, Parts [cell g 74 #[.int .u64 bi, .int .u64 bt, .int .i64 bc, .slice A L.length c], Vec 32 5 encV (.slice A L.length c) L, Each dat L] rs → RfT g bi bt bc es rs := fun rs h => ⟨⟨A, c, L⟩, ⟨hL, hc⟩, h⟩
theorem RfT.done {g : Nat} {bi bt bc : Int} {A : Option Addr} {c : Nat} {L : List EntV} {es : List EntD} (hL : L.map (·.e) = es) (hc : L.length ≤ c) : ∀ z, Parts [cell g 74 #[.int .u64 bi, .int .u64 bt, .int .i64 bc, .slice A L.length c], Vec 32 5 encV (.slice A L.length c) L, Each dat L] z → ∃ z', z.Perm z' ∧ Parts [RfT g bi bt bc es] z' := fun z hz => ⟨z, .refl _, Parts.one (RfT.back hL hc z hz)⟩
theorem copy_v (u : World) (v : Value) (l : List EntV) (hv : EntsRd u v l) (hl : l.length * 56 ≤ 140737488351232) (hd : ∀ x, x ∈ l → x.e.d.length ≤ 140737488351232) (es : List EntD) (he : l.map (·.e) = es) : DoesU u Try.prog 39 #[v] [] (fun cv : Value => cv) (fun cv => [EnT cv es]) := fun w rs a b hp hr hd' => by
  subst he
  refine (copye_does u v l hv hl hd w rs a b hp hr hd').mono ?_
  rintro e w' ⟨x, hx, rs', ⟨p, q, e1, h1, h2⟩, hc⟩
  obtain ⟨p2, q2, e2, ⟨h3, h4⟩, h5⟩ := h2
  subst h3
  have h5 : q2 = [] := h5
  subst h5
  have : q = [] := by simpa using e2
  subst this
  exact ⟨_, hx, rs', ⟨p, [], e1, ⟨x.l, h4, h1⟩, rfl⟩, hc⟩
section
variable {P : Program} {Q : Exit → Act → World → Prop} {n : Nat} {B : Nat → Prop} {w w0 : World} {os : List Ass} {env : List (Nat × Value)} {o : Oper} {t e ty : TypeId} {rs : List RowT}
theorem own_rd (i j : Nat) {v : Value} {L : List EntV} (hi : os[i]? = some (Vec 32 5 encV v L)) (hj : os[j]? = some (Each dat L)) (hH : Hp B w0 w os) : EntsRd w v L := by
  refine ⟨hH.vec i hi okV, fun x hx => ?_⟩
  obtain ⟨k, hk⟩ := List.getElem?_of_mem hx
  exact hH.rd8 j hj (dat_rd8 hk)
theorem ents_hi {A : Option Addr} {c k : Nat} {l : List EntV} (h : EntsRd w (.slice A l.length c) l) (hk : k ≤ l.length) : EntsRd w (.slice A (l.take k).length c) (l.take k) := by
  have := SlRd.head okV hk h.1
  have hl : (l.take k).length = k := by rw [List.length_take]; omega
  rw [hl] at this ⊢
  exact ⟨by rw [hl]; exact this, fun x hx => h.2 x (List.mem_of_mem_take hx)⟩
theorem sub_hi5k {A : Option Addr} {n c k : Nat} {l : List EntV} (hk : k ≤ l.length) : subv 5 (.slice A n c) 0 k = .slice A (l.take k).length c := by
  rw [subv_head]; rw [List.length_take, Nat.min_eq_left hk]
end
end Go.Proofs.Ytnebloeideodmaa.Sep

namespace Go.Proofs.Ytnebloeideodmaa.Sep
open Go.RowKit
open Go.Proofs.Ytnebloeideodmaa.Mem (Dist Blk Chg below0)

end Go.Proofs.Ytnebloeideodmaa.Sep
