/-
  RdT
-/
import Derived.Test.YtjcfimmcogkopaaGreatPA06
import Derived.Test.YtjcfimmcogkopaaGreatPA07
set_option linter.unusedSimpArgs false
set_option linter.unusedVariables false
namespace Go.Proofs.YtjcfimmcogkopaaGreat.Sep
open Go.RowKit
open Go.Proofs.YtjcfimmcogkopaaGreat.Mem (Bh Cs Chg AA)
theorem N3 (l : List UInt8) : flat encB l = L7 l := by
  induction l with
  | nil => rfl
  | cons x l ih => rw [Ec, ih]; rfl
def D6 (w : World) (v : Value) (l : List UInt8) : Prop := ∃ A c, v = .slice A l.length c ∧ Bs (fun _ => True) w A c l
section
variable {u w w0 : World} {v : Value} {l : List UInt8} {X : Ass} {B : Nat → Prop} {os : List Ass} {rs : List RowT}
theorem D6.below (h : D6 u v l) (hb : Below u.heap.size u w) : D6 w v l := by
 obtain ⟨A, c, e, h⟩ := h
 exact ⟨A, c, e, h.old hb⟩
theorem D6.rd (h : D6 w v l) : Dy w 1 v l.length (flat encB l) := by
  obtain ⟨A, c, rfl, h⟩ := h
  refine ⟨by rw [N3, FD, Nat.mul_one], A, c, rfl, ?_⟩
  rcases Nat.eq_zero_or_pos l.length with h0 | h0
  · cases A with
    | none => exact .inl ⟨rfl, h0⟩
    | some a =>
      refine .inr ⟨a, rfl, fun j x hx => ?_⟩
      rw [N3] at hx
      have := (List.getElem?_eq_some_iff.1 hx).1
      rw [FD] at this
      omega
  · obtain ⟨g, o, rfl, _, hc⟩ := h.2.2 h0
    refine .inr ⟨_, rfl, fun j x hx => ?_⟩
    rw [N3] at hx
    obtain ⟨b, hb, rfl⟩ := QJ hx
    rw [Addr.add_lit]
    exact hc j b hb
theorem D6.cells (h : D6 w v l) : v.cells = #[v] := by
 obtain ⟨A, c, rfl, _⟩ := h
 rfl
theorem Ic (h : D6 u v l) (hU : Below u.heap.size u w0) (hS : ∀ k, B k → u.heap.size ≤ k) (hH : Hp B w0 w os) : D6 w v l := by
 have hm : Below u.heap.size w0 w := hH.up.below hU.size hS
 exact h.below (hU.trans hm)
theorem FV {base : Nat} (h : EE 5 w base v l) : ∃ rs, Ar 5 1 encB v l rs ∧ RowsOf w rs ∧ Bh rs ∧ ∀ x ∈ rs, At v x.1 ∧ base ≤ x.1 := by
  obtain ⟨h1, h2⟩ := h
  rcases h2 with ⟨hv, hn⟩ | ⟨g, cap, cur, hv, hb, hg, hnc, hm, hs, ht⟩
  · exact ⟨[], .inl ⟨hv, List.eq_nil_of_length_eq_zero hn, rfl⟩, trivial, trivial, fun x hx => by cases hx⟩
  · refine ⟨[(g, Ez 5, cur)], .inr ⟨g, cap, cur, hv, hnc, hm, hs, by rw [N3]; exact ht, rfl⟩, ⟨hg, trivial⟩, ⟨(fun _ h => by cases h), trivial⟩, fun x hx => ?_⟩
    have : x = (g, Ez 5, cur) := by simpa using hx
    subst this
    exact ⟨by rw [hv]; rfl, hb⟩
theorem QW (h : Ar 5 1 encB v l rs) (hr : RowsOf w rs) : EE 5 w 0 v l := by
  refine ⟨by rw [FD, Nat.mul_one], ?_⟩
  rcases h with ⟨h1, h2, _⟩ | ⟨g, c, cs, h1, h2, h3, h4, h5, h6⟩
  · exact .inl ⟨h1, by rw [h2]; rfl⟩
  · subst h6
    exact .inr ⟨g, c, cs, h1, Nat.zero_le _, hr.1, h2, h3, h4, by rw [← N3]; exact h5⟩
theorem H1 (h : Ar 5 1 encB v l rs) (hr : RowsOf w rs) : D6 w v l := by
 obtain ⟨A, c, e, hb⟩ := (QW h hr).form
 exact ⟨A, c, e, hb.weaken fun _ _ _ => trivial⟩
theorem Hp.sl8 (h : Hp B w0 w os) (i : Nat) (hi : os[i]? = some (Ar 5 1 encB v l)) : D6 w v l := by
 obtain ⟨rs, h1, h2⟩ := h.thing i hi
 exact H1 h1 h2
def CO (X : Ass) (v : Value) (l : List UInt8) : Prop := ∀ rs w, X rs → RowsOf w rs → D6 w v l
theorem CO.rd (h : CO X v l) : Rd X 1 encB v l := fun rs w h1 h2 => (h rs w h1 h2).rd
theorem C9 : CO (Ar 5 1 encB v l) v l := fun _ _ h1 h2 => H1 h1 h2
theorem CO.drop {A : Option Addr} {c k : Nat} (h : CO X (.slice A l.length c) l) (hk : k ≤ l.length) : CO X (.slice (if c = k then A else A.map (·.add k)) (l.drop k).length (c - k)) (l.drop k) := fun rs w h1 h2 => by
  obtain ⟨A', c', e, hb⟩ := h rs w h1 h2
  simp only [Value.slice.injEq] at e
  obtain ⟨rfl, _, rfl⟩ := e
  exact ⟨_, _, rfl, hb.drop hk⟩
theorem K6 {A : Option Addr} {n c k : Nat} (hl : l.length - k = n) (hn : l.length = n + k) : CB 1 (.slice A l.length c) k l.length = .slice (if c = k then A else A.map (·.add k)) n (c - k) := by
  show Value.slice (if c = k then A else A.map (·.add (k * 1))) (l.length - k) (c - k) = _
  rw [Nat.mul_one, hl]
theorem Hp.rd8 (h : Hp B w0 w os) (i : Nat) (hi : os[i]? = some X) (hu : CO X v l) : D6 w v l := by
 obtain ⟨rs, h1, h2⟩ := h.thing i hi
 exact hu rs w h1 h2
end
section
variable {P : Program} {F : FuncId} {args : Array Value} {l : List UInt8} {X : Ass} {u : World}
theorem FW {w w' : World} {rs rs' : List RowT} (hr : RowsOf w rs) (hd : Bh rs) (hb : Below w.heap.size w w') (h1 : RowsOf w' rs') (h2 : Bh rs') (h3 : ∀ x ∈ rs', w.heap.size ≤ x.1) : Chg w w' rs (rs ++ rs') := by
  refine ⟨Mod.of_below hb _, AT.2 fun x hx => ?_, Mem.dist_app hd h2 fun x hx y hy e => ?_, fun x hx hlt => ?_⟩
  · rcases List.mem_append.1 hx with h | h
    · exact (hr.mem x h).below hb (hr.mem x h).lt
    · exact h1.mem x h
  · have := (hr.mem x hx).lt
    have := h3 y hy
    omega
  · rcases List.mem_append.1 hx with h | h
    · exact ⟨x, h, rfl⟩
    · have := h3 x h
      omega
theorem Tv (h : ∀ w, Calls P F args w fun e w' => ∃ v', e = .returned v' ∧ EE 5 w' w.heap.size v' l ∧ Below w.heap.size w w') : AX P F args [] (fun v : Value => v) (fun v => [Ar 5 1 encB v l]) := fun w rs h1 h2 h3 => by
 unfold Al at h1
 subst h1
 refine (h w).mono ?_
 rintro e w' ⟨v, he, ho, hb⟩
 obtain ⟨rs', hv, hr, hd, hx⟩ := FV ho
 exact ⟨v, he, rs', Al.one hv, by simpa using FW (rs := []) trivial trivial hb hr hd fun x h => (hx x h).2⟩
theorem Me (h : ∀ w rs, X rs → RowsOf w rs → Calls P F args w fun e w' => ∃ v', e = .returned v' ∧ EE 5 w' w.heap.size v' l ∧ Below w.heap.size w w') : AX P F args [X] (fun v : Value => v) (fun v => [X, Ar 5 1 encB v l]) := fun w rs h1 h2 h3 => by
 have hX := h1.one'
 refine (h w rs hX h2).mono ?_
 rintro e w' ⟨v, he, ho, hb⟩
 obtain ⟨rs', hv, hr, hd, hx⟩ := FV ho
 exact ⟨v, he, rs ++ rs', ⟨rs, rs', rfl, hX, Al.one hv⟩, FW h2 h3 hb hr hd fun x h => (hx x h).2⟩
theorem RX (h : ∀ w, Below u.heap.size u w → Calls P F args w fun e w' => ∃ v', e = .returned v' ∧ EE 5 w' w.heap.size v' l ∧ Below w.heap.size w w') : EG u P F args [] (fun v : Value => v) (fun v => [Ar 5 1 encB v l]) := fun w rs hU _ h1 h2 h3 => by
 unfold Al at h1
 subst h1
 refine (h w hU).mono ?_
 rintro e w' ⟨v, he, ho, hb⟩
 obtain ⟨rs', hv, hr, hd, hx⟩ := FV ho
 exact ⟨v, he, rs', Al.one hv, by simpa using FW (rs := []) trivial trivial hb hr hd fun x h => (hx x h).2⟩
end
theorem G7 {X : Ass} {v : Value} {l : List UInt8} (h : CO X v l) (hl : l.length ≤ 140737488355328) : AX Tryz.prog 64 #[v] [X] (fun v : Value => v) (fun v => [X, Ar 5 1 encB v l]) :=
 Me fun w rs h1 h2 => by
  obtain ⟨A, c, rfl, hb⟩ := h rs w h1 h2
  exact JI w A c l hb hl
theorem Vt (u : World) {v : Value} {l : List UInt8} (h : D6 u v l) (hl : l.length ≤ 140737488355328) : EG u Tryz.prog 64 #[v] [] (fun v : Value => v) (fun v => [Ar 5 1 encB v l]) :=
 RX fun w hU => by
  obtain ⟨A, c, rfl, hb⟩ := h.below hU
  exact JI w A c l hb hl
def M3 (g : Nat) (l : List UInt8) : Ass := fun rs => ∃ v, Al [cell g 133 #[v], Ar 5 1 encB v l] rs
theorem Pw {w : World} {rs : List RowT} {g : Nat} {l : List UInt8} (h : M3 g l rs) (hr : RowsOf w rs) : ∃ v rv, rs = (g, Ez 133, #[v]) :: rv ∧ Ar 5 1 encB v l rv ∧ NT w g v l := by
 obtain ⟨v, a, b, rfl, h1, h2⟩ := h
 unfold cell at h1
 subst h1
 have h3 := h2.one'
 exact ⟨v, b, rfl, h3, hr.1, QW h3 hr.2⟩
theorem QX {F : FuncId} {args : Array Value} {g : Nat} {l m : List UInt8} (h : ∀ w v, NT w g v l → Calls Tryz.prog F args w fun e w' => ∃ v', e = .returned (.tuple #[]) ∧ NT w' g v' m ∧ Mod (Ix g v) w w' ∧ ∀ k, At v' k → At v k ∨ w.heap.size ≤ k) : AX Tryz.prog F args [M3 g l] (fun _ : Unit => .tuple #[]) (fun _ => [M3 g m]) := fun w rs h1 h2 h3 => by
  obtain ⟨v, rv, rfl, hv, hw⟩ := Pw h1.one' h2
  refine (h w v hw).mono ?_
  rintro e w' ⟨v', he, hw', hm, ha⟩
  obtain ⟨rs', hv', hr', hd', hx⟩ := FV hw'.2
  have hblk : ∀ k, Ix g v k → k < w.heap.size → Cs ((g, Ez 133, #[v]) :: rv) k := by
    rintro k (rfl | hk) _
    · exact ⟨_, List.mem_cons_self, rfl⟩
    · rcases hv with ⟨e1, _, _⟩ | ⟨g', c, cs, e1, _, _, _, _, e6⟩
      · subst e1; exact absurd hk At.none
      · subst e1; subst e6
        exact ⟨(g', Ez 5, cs), by simp, (At.iff.1 hk).symm⟩
  refine ⟨(), he, (g, Ez 133, #[v']) :: rs', Al.one ⟨v', [(g, Ez 133, #[v'])], rs', rfl, rfl, Al.one hv'⟩, hm.weaken fun k hk hf => hblk k hf hk, ⟨hw'.1, hr'⟩, ⟨fun y hy e => hw'.2.ne_row hw'.1 (by decide) ((show y.1 = g from e) ▸ (hx y hy).1), hd'⟩, fun x hxm hlt => ?_⟩
  rcases List.mem_cons.1 hxm with rfl | hxm
  · exact ⟨_, List.mem_cons_self, rfl⟩
  · rcases ha _ (hx x hxm).1 with h | h
    · exact hblk _ (.inr h) hlt
    · omega
theorem WN : AX Tryz.prog 82 #[] [] (fun g : Nat => .pointer (some ⟨g, 0, none⟩)) (fun g => [M3 g []]) := fun w rs h1 _ _ => by
  unfold Al at h1
  subst h1
  refine (LW w).mono ?_
  rintro e w' ⟨p, he, hp, hw, hb⟩
  obtain ⟨rs', hv', hr', hd', hx⟩ := FV hw.2
  refine ⟨p, he, (p, Ez 133, #[.slice none 0 0]) :: rs', Al.one ⟨_, [(p, Ez 133, #[.slice none 0 0])], rs', rfl, rfl, Al.one hv'⟩, ?_⟩
  have h0 : ∀ y ∈ rs', False := fun y hy => At.none (hx y hy).1
  refine ⟨Mod.of_below hb _, ⟨hw.1, hr'⟩, ⟨fun y hy => (h0 y hy).elim, hd'⟩, fun x hxm hlt => ?_⟩
  rcases List.mem_cons.1 hxm with rfl | hxm
  · omega
  · exact (h0 x hxm).elim
theorem Vu (g : Nat) (l : List UInt8) (n : Int) (hn : 0 ≤ n ∧ n < 256) (r : List UInt8) (hr : l ++ [UInt8.ofNat n.toNat] = r) (hl : l.length + 1 ≤ 140737488355328) : AX Tryz.prog 84 #[.pointer (some ⟨g, 0, none⟩), .int .u8 n] [M3 g l] (fun _ : Unit => .tuple #[]) (fun _ => [M3 g r]) := by
 subst hr
 have e : n = ((UInt8.ofNat n.toNat).toNat : Int) := by rw [Ja _ (by omega)]; omega
 generalize UInt8.ofNat n.toNat = b at e ⊢
 subst e
 exact QX fun w v hw => K3 w g v l b hw hl
theorem Tw (g : Nat) (l : List UInt8) (n : Int) (hn : LX n) (r : List UInt8) (hr : l ++ De n = r) (hl : l.length + 10 ≤ 140737488355328) : AX Tryz.prog 83 #[.pointer (some ⟨g, 0, none⟩), .int .u64 n] [M3 g l] (fun _ : Unit => .tuple #[]) (fun _ => [M3 g r]) := by
 subst hr
 have e : n = (n.toNat : Int) := by have := hn.1; omega
 have h2 : n.toNat < 18446744073709551616 := by have := hn.2; omega
 unfold De
 generalize n.toNat = m at e h2 ⊢
 subst e
 exact QX fun w v hw => Ip w g v l m hw h2 hl
theorem Tx (g : Nat) (l : List UInt8) (hl : l.length ≤ 140737488355328) : AX Tryz.prog 86 #[.pointer (some ⟨g, 0, none⟩)] [M3 g l] (fun v : Value => v) (fun v => [M3 g l, Ar 5 1 encB v l]) :=
 Me fun w rs h1 h2 => by
  obtain ⟨v, rv, rfl, hv, hw⟩ := Pw h1 h2
  exact Kp w g v l hw hl
theorem Ty (n : Int) (hn : LX n) : AX Tryz.prog 50 #[.int .u64 n] [] (fun v : Value => v) (fun v => [Ar 5 1 encB v (De n)]) := by
 have e : n = (n.toNat : Int) := by have := hn.1; omega
 have h2 : n.toNat < 18446744073709551616 := by have := hn.2; omega
 unfold De
 generalize n.toNat = m at e h2 ⊢
 subst e
 exact Tv fun w => K5 w m h2
def G8 (B : Value) (b : List UInt8) (g : Nat) (l : List UInt8) (f : Nat) : Ass := fun rs => ∃ j : Nat, j ≤ b.length ∧ l = b.drop j ∧ rs = [(g, Ez 83, #[B, .int .i64 (j : Int), .int .i64 (f : Int)])]
section
variable {u : World} {B : Value} {b l l' : List UInt8} {g f f' : Nat} {F : FuncId} {args : Array Value} {val : Value}
end
def Eh (g : Nat) (l : List UInt8) (f : Nat) : Ass := fun rs => ∃ (X : Ass) (A : Option Addr) (c : Nat), CO X (.slice A l.length c) l ∧ l.length ≤ 140737488355328 ∧ Al [cell g 138 #[.slice A l.length c, .int .i64 (f : Int)], X] rs
theorem Eh.open_ {g f : Nat} {l : List UInt8} : ∀ rs, Eh g l f rs → ∃ x : { x : Ass × Option Addr × Nat // CO x.1 (.slice x.2.1 l.length x.2.2) l ∧ l.length ≤ 140737488355328 }, Al [cell g 138 #[.slice x.1.2.1 l.length x.1.2.2, .int .i64 (f : Int)], x.1.1] rs :=
 fun _ ⟨X, A, c, h1, h2, h3⟩ => ⟨⟨(X, A, c), h1, h2⟩, h3⟩
theorem Eh.mk_ {g f : Nat} {l : List UInt8} {X : Ass} {A : Option Addr} {n c : Nat} (hn : l.length = n) (h1 : CO X (.slice A l.length c) l) (h2 : l.length ≤ 140737488355328) : ∀ rs, Al [cell g 138 #[.slice A n c, .int .i64 (f : Int)], X] rs → Eh g l f rs :=
 fun _ h3 => by subst hn; exact ⟨X, A, c, h1, h2, h3⟩
end Go.Proofs.YtjcfimmcogkopaaGreat.Sep
