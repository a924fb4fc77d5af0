/-
  RlAk
-/
import Derived.Test.YtnebloeideodmaaPW01
set_option linter.unusedSimpArgs false
set_option linter.unusedVariables false
namespace Go.Proofs.Ytnebloeideodmaa.Sep
open Go.RowKit
open Go.Proofs.Ytnebloeideodmaa.Mem (AM BA Chg Aq)
def Qd (v : Value) (i : Nat) : Value := match v with | .tuple vs => vs.getD i undef | _ => undef
def Vw (nv : Value) (bi bt bc : Int) (es : List EntD) : Ass := fun rs => ∃ g : Nat, nv = .tuple #[.pointer (some ⟨g, 0, none⟩), .int .i64 0] ∧ Av g bi bt bc es rs
theorem Vw.open_ {nv : Value} {bi bt bc : Int} {es : List EntD} : ∀ rs, Vw nv bi bt bc es rs → ∃ x : { g : Nat // nv = .tuple #[.pointer (some ⟨g, 0, none⟩), .int .i64 0] }, Am [Av x.1 bi bt bc es] rs := fun _ ⟨g, h, hr⟩ => ⟨⟨g, h⟩, Am.one hr⟩
theorem WI {P : Program} {B : Nat → Prop} {w0 w : World} {os : List Ass} {n : Nat} {env : List (Nat × Value)} {o : Oper} {act : Act} {nv : Value} {bi bt bc : Int} {es : List EntD} (i : Nat) {k : Nat} (hk : k < 2) (hi : os[i]? = some (Vw nv bi bt bc es)) {x : Operand} (ho : o.op = .extract x k) (hx : evs env x = some nv) (hH : Hp B w0 w os) (hF : Fr n act env) : (execOp act.eval o).run P w = .ok (.value (Qd nv k)) w := by
 obtain ⟨rs, ⟨g, hv, _⟩, _⟩ := hH.thing i hi
 subst hv
 unfold execOp
 simp only [ho, hF.evs hx]
 rcases (show k = 0 ∨ k = 1 by omega) with rfl | rfl <;> rfl
theorem WJ (bi bt bc : Int) (hbi : 0 ≤ bi ∧ bi ≤ 18446744073709551615) (hbt : 0 ≤ bt ∧ bt ≤ 18446744073709551615) (hbc : -9223372036854775808 ≤ bc ∧ bc ≤ 9223372036854775807) (cp : Value) (es : List EntD) (hd : ∀ e, e ∈ es → e.d.length ≤ 140737488351232) (hs : es.length * 56 ≤ 140737488351232) (h : CS bi bt bc = true) (h2 : BY bi bt es = true) : AV Try.prog 8 #[.agg #[.int .u64 bi, .int .u64 bt, .int .i64 bc], cp] [BQ cp es] (fun nv : Value => nv) (fun nv => [Vw nv bi bt bc es, BQ cp es]) := fun w rs hp hr hd' => by
 obtain ⟨L, hL, hE⟩ := hp.one'
 obtain ⟨⟨A, c⟩, hv⟩ := OT rs hE
 subst hv
 refine (Vr bi bt bc hbi hbt hbc (CW A c L) A c L DI (fun x hx => hd x.e (by rw [← hL]; exact List.mem_map.2 ⟨x, hx, rfl⟩)) (by rw [← hL, List.length_map] at hs; exact hs) es hL h h2 w rs (Am.one hE) hr hd').mono ?_
 rintro e w' ⟨g, he, rs', ⟨a, b, e1, h3, h4⟩, hc⟩
 exact ⟨_, he, rs', ⟨a, b, e1, ⟨g, rfl, h3⟩, Am.one ⟨L, hL, h4.one'⟩⟩, hc⟩
theorem WK {l : List EntV} {es : List EntD} (h : ∀ x, x ∈ l → x.e.d.length ≤ 140737488351232) (he : l.map (·.e) = es) (e : EntD) (h2 : e ∈ es) : e.d.length ≤ 140737488351232 := by
  rw [← he] at h2
  obtain ⟨x, hx, rfl⟩ := List.mem_map.1 h2
  exact h x hx
theorem Vx {l : List EntV} {L : List EntV} {es : List EntD} (h : ∀ x, x ∈ l → x.e.d.length ≤ 140737488351232) (he : l.map (·.e) = es) (hL : L.map (·.e) = es) (x : EntV) (hx : x ∈ L) : x.e.d.length ≤ 140737488351232 := by
  have h1 : x.e ∈ es := by rw [← hL]; exact List.mem_map.2 ⟨x, hx, rfl⟩
  rw [← he] at h1
  obtain ⟨y, hy, hye⟩ := List.mem_map.1 h1
  rw [← hye]; exact h y hy
end Go.Proofs.Ytnebloeideodmaa.Sep
