/-
  RlAl
-/
import Derived.Test.YtnebloeideodmaaPX01
set_option linter.unusedSimpArgs false
set_option linter.unusedVariables false
namespace Go.Proofs.Ytnebloeideodmaa.Sep
open Go.RowKit
open Go.Proofs.Ytnebloeideodmaa.Mem (AM BA Chg Aq)
structure LSt where
  bi : Int
  bt : Int
  bc : Int
  es : List EntD
structure OkS (n : Nat) (s : LSt) : Prop where
  inv : InvL s.bi s.bt s.es
  bc : -9223372036854775808 ≤ s.bc ∧ s.bc ≤ 9223372036854775807
  le : s.es.length ≤ n
def J5 (gp gq n : Nat) : Ass := fun rs => ∃ s : LSt, OkS n s ∧ Am [Av gp s.bi s.bt s.bc s.es, BG gq s.bi s.bt s.bc s.es] rs
theorem J5.open_ {gp gq n : Nat} : ∀ rs, J5 gp gq n rs → ∃ x : { s : LSt // OkS n s }, Am [Av gp x.1.bi x.1.bt x.1.bc x.1.es, BG gq x.1.bi x.1.bt x.1.bc x.1.es] rs := fun _ ⟨s, h, hr⟩ => ⟨⟨s, h⟩, hr⟩
theorem Da {gp gq n : Nat} {bi bt bc : Int} {es : List EntD} (h : InvL bi bt es) (hc : -9223372036854775808 ≤ bc ∧ bc ≤ 9223372036854775807) (hl : es.length ≤ n) : ∀ rs, Am [Av gp bi bt bc es, BG gq bi bt bc es] rs → J5 gp gq n rs := fun _ hr => ⟨⟨bi, bt, bc, es⟩, ⟨h, hc, hl⟩, hr⟩
structure AdOk (X Y : Ass) (x : RfV) : Prop where
  rd : Cx (Bv [Y, X]) (.slice x.A x.L.length x.c) x.L
  cap : x.L.length ≤ x.c
  len : x.L.length ≤ 6
  hd : ∀ e, e ∈ x.L → e.e.d.length ≤ 140737488351232
def Vy (av : Value) (X : Ass) : Ass := fun rs => ∃ (x : RfV) (Y : Ass), (av = .slice x.A x.L.length x.c ∧ AdOk X Y x) ∧ Bv [Y, X] rs
theorem Vy.open_ {av : Value} {X : Ass} : ∀ rs, Vy av X rs → ∃ x : { z : RfV × PSigma fun _ : Unit => Ass // av = .slice z.1.A z.1.L.length z.1.c ∧ AdOk X z.2.2 z.1 }, Am [Bv [x.1.2.2, X]] rs := fun _ ⟨x, Y, h, hr⟩ => ⟨⟨(x, ⟨(), Y⟩), h⟩, Am.one hr⟩
theorem Qe {X Y : Ass} {v : Value} {l : List EntV} (h : Cx X v l) : Cx (Bv [Y, X]) v l := fun rs w ⟨a, b, e, h1, h2⟩ hr => h b w h2.one' (AT.2 fun z hz => AT.1 hr z (by rw [e]; simp [hz]))
theorem NT {X Y : Ass} {v : Value} {l : List EntV} (h : Cx Y v l) : Cx (Bv [Y, X]) v l := fun rs w ⟨a, b, e, h1, h2⟩ hr => h a w h1 (AT.2 fun z hz => AT.1 hr z (by rw [e]; simp [hz]))
theorem WM {X : Ass} {A : Option Addr} {c k : Nat} {l : List EntV} (hX : Cx X (.slice A l.length c) l) (hc : l.length ≤ c) (hk : k ≤ l.length) (h6 : k ≤ 6) (hd : ∀ x, x ∈ l → x.e.d.length ≤ 140737488351232) : ∀ rs, Am [X] rs → Vy (.slice A (l.take k).length c) X rs := fun rs hr => by
 have hl : (l.take k).length = k := by rw [List.length_take]; omega
 exact ⟨⟨A, c, l.take k⟩, Dw, ⟨rfl, ⟨Qe (Tq hX hk), by show (l.take k).length ≤ c; omega, by show (l.take k).length ≤ 6; omega, fun e he => hd e (List.mem_of_mem_take he)⟩⟩, [], rs, rfl, rfl, hr⟩
theorem Sw {X : Ass} {A : Option Addr} {c : Nat} {L : List EntV} (hc : L.length ≤ c) (h6 : L.length ≤ 6) (hd : ∀ x, x ∈ L → x.e.d.length ≤ 140737488351232) : ∀ rs, Am [CW A c L, X] rs → Vy (.slice A L.length c) X rs := fun rs hr => ⟨⟨A, c, L⟩, CW A c L, ⟨rfl, ⟨NT DI, hc, h6, hd⟩⟩, hr⟩
def NU (x : EntV) : EntV := ⟨{ x.e with i := x.e.i + 1 }, x.A, x.c⟩
theorem TC {L : List EntV} {k : Nat} {x : EntV} (h : L[k]? = some x) : L.map dat = (L.set k (NU x)).map dat := by
  have hk := (List.getElem?_eq_some_iff.1 h).1
  refine List.ext_getElem? fun j => ?_
  rw [List.getElem?_map, List.getElem?_map]
  by_cases hj : k = j
  · subst hj
    rw [h, List.getElem?_set_self hk]; rfl
  · rw [List.getElem?_set_ne hj]
theorem WN {X : Ass} {A : Option Addr} {c k : Nat} {L : List EntV} {x : EntV} (hx : L[k]? = some x) (hc : L.length ≤ c) (h6 : L.length ≤ 6) (hd : ∀ x, x ∈ L → x.e.d.length ≤ 140737488351232) : ∀ rs, Am [As 32 5 encV (.slice A L.length c) (L.set k (NU x)), An dat L, X] rs → Vy (.slice A L.length c) X rs := fun rs hr => by
  obtain ⟨a, b, e, h1, c1, d, e2, h2, h3⟩ := hr
  have hl : (L.set k (NU x)).length = L.length := List.length_set ..
  have h4 : CW A c (L.set k (NU x)) (a ++ c1) := ⟨a, c1, rfl, by rw [hl]; exact h1, Am.one (Ma (TC hx) _ h2)⟩
  have h5 := Sw (X := X) (A := A) (c := c) (L := L.set k (NU x)) (by rw [hl]; exact hc) (by rw [hl]; exact h6) (fun y hy => by
    rcases List.mem_or_eq_of_mem_set hy with h | h
    · exact hd y h
    · rw [h]; exact hd x (List.mem_of_getElem? hx)) (rs := rs) ⟨a ++ c1, d, by rw [e, e2]; simp, h4, h3⟩
  rw [hl] at h5; exact h5
theorem Vz {t : Ass} : ∀ rs, Am [t] rs → t rs := fun _ h => h.one'
theorem OU : ∀ (l : List EntD) (ix tm : Int) (k : Nat) (y : EntD), (CE ix tm l)[k]? = some y → y.i = ix + (k : Int) + 1
  | [], _, _, _, _, h => by simp [CE] at h
  | x :: r, ix, tm, k, y, h => by
    cases k with
    | zero =>
      have h : CD ix tm x = y := by simpa [CE] using h
      rw [← h]; show ix + 1 = _; simp
    | succ k =>
      have h : (CE (ix + 1) (tm + x.k % 8 / 6) r)[k]? = some y := by simpa [CE] using h
      rw [OU r _ _ k y h]; push_cast; omega
theorem TD (g : Nat) (bi bt bc : Int) (es : List EntD) (hI : InvL bi bt es) : AV Try.prog 42 #[.pointer (some ⟨g, 0, none⟩)] [BG g bi bt bc es] (fun _ : Unit => .int .u64 (bi + (es.length : Int))) (fun _ => [BG g bi bt bc es]) :=
 Sh fun A c L hL => Cs g bi bt bc es hI A c L hL
theorem TE (g : Nat) (bi bt bc : Int) (es : List EntD) (hI : InvL bi bt es) (x : Int) (hx : 0 ≤ x ∧ x ≤ 18446744073709551615) (a : Int) (ok : Bool) (ht : BO bi bt es x = (a, ok)) : AV Try.prog 45 #[.pointer (some ⟨g, 0, none⟩), .int .u64 x] [BG g bi bt bc es] (fun _ : Unit => .tuple #[.int .u64 a, .bool ok]) (fun _ => [BG g bi bt bc es]) :=
 Sh fun A c L hL => Cy g bi bt bc es hI A c L hL x hx a ok ht
theorem Sx {bi bt bc : Int} (h : C0 bi bt bc = true) : InvL bi bt [] := by
 have := Sf (K5 h)
 exact ⟨this.1, this.2.1, rfl⟩
end Go.Proofs.Ytnebloeideodmaa.Sep
