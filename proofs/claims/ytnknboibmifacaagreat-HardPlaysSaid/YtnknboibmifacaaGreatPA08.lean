/-
  RdT
-/
import Derived.Test.YtnknboibmifacaaGreatPA06
import Derived.Test.YtnknboibmifacaaGreatPA07
set_option linter.unusedSimpArgs false
set_option linter.unusedVariables false
namespace Go.Proofs.YtnknboibmifacaaGreat.Sep
open Go.RowKit
open Go.Proofs.YtnknboibmifacaaGreat.Mem (Bl Co Chg AG)
theorem Nw (l : List UInt8) : flat encB l = LJ l := by
  induction l with
  | nil => rfl
  | cons x l ih => rw [Ea, ih]; rfl
def Fw (w : World) (v : Value) (l : List UInt8) : Prop := ∃ A c, v = .slice A l.length c ∧ Bs (fun _ => True) w A c l
section
variable {u w w0 : World} {v : Value} {l : List UInt8} {X : Ass} {B : Nat → Prop} {os : List Ass} {rs : List RowT}
theorem Fw.below (h : Fw u v l) (hb : Below u.heap.size u w) : Fw w v l := by
 obtain ⟨A, c, e, h⟩ := h
 exact ⟨A, c, e, h.old hb⟩
theorem Fw.rd (h : Fw w v l) : Dx w 1 v l.length (flat encB l) := by
  obtain ⟨A, c, rfl, h⟩ := h
  refine ⟨by rw [Nw, Fk, Nat.mul_one], A, c, rfl, ?_⟩
  rcases Nat.eq_zero_or_pos l.length with h0 | h0
  · cases A with
    | none => exact .inl ⟨rfl, h0⟩
    | some a =>
      refine .inr ⟨a, rfl, fun j x hx => ?_⟩
      rw [Nw] at hx
      have := (List.getElem?_eq_some_iff.1 hx).1
      rw [Fk] at this
      omega
  · obtain ⟨g, o, rfl, _, hc⟩ := h.2.2 h0
    refine .inr ⟨_, rfl, fun j x hx => ?_⟩
    rw [Nw] at hx
    obtain ⟨b, hb, rfl⟩ := PS hx
    rw [Addr.add_lit]
    exact hc j b hb
theorem Fw.cells (h : Fw w v l) : v.cells = #[v] := by
 obtain ⟨A, c, rfl, _⟩ := h
 rfl
theorem FA (h : Fw u v l) (hU : Below u.heap.size u w0) (hS : ∀ k, B k → u.heap.size ≤ k) (hH : Hp B w0 w os) : Fw w v l := by
 have hm : Below u.heap.size w0 w := hH.up.below hU.size hS
 exact h.below (hU.trans hm)
theorem IV {base : Nat} (h : FN 5 w base v l) : ∃ rs, As 5 1 encB v l rs ∧ RowsOf w rs ∧ Bl rs ∧ ∀ x ∈ rs, At v x.1 ∧ base ≤ x.1 := by
  obtain ⟨h1, h2⟩ := h
  rcases h2 with ⟨hv, hn⟩ | ⟨g, cap, cur, hv, hb, hg, hnc, hm, hs, ht⟩
  · exact ⟨[], .inl ⟨hv, List.eq_nil_of_length_eq_zero hn, rfl⟩, trivial, trivial, fun x hx => by cases hx⟩
  · refine ⟨[(g, Fg 5, cur)], .inr ⟨g, cap, cur, hv, hnc, hm, hs, by rw [Nw]; exact ht, rfl⟩, ⟨hg, trivial⟩, ⟨(fun _ h => by cases h), trivial⟩, fun x hx => ?_⟩
    have : x = (g, Fg 5, cur) := by simpa using hx
    subst this
    exact ⟨by rw [hv]; rfl, hb⟩
theorem P6 (h : As 5 1 encB v l rs) (hr : RowsOf w rs) : FN 5 w 0 v l := by
  refine ⟨by rw [Fk, Nat.mul_one], ?_⟩
  rcases h with ⟨h1, h2, _⟩ | ⟨g, c, cs, h1, h2, h3, h4, h5, h6⟩
  · exact .inl ⟨h1, by rw [h2]; rfl⟩
  · subst h6
    exact .inr ⟨g, c, cs, h1, Nat.zero_le _, hr.1, h2, h3, h4, by rw [← Nw]; exact h5⟩
theorem Hs (h : As 5 1 encB v l rs) (hr : RowsOf w rs) : Fw w v l := by
 obtain ⟨A, c, e, hb⟩ := (P6 h hr).form
 exact ⟨A, c, e, hb.weaken fun _ _ _ => trivial⟩
theorem Hp.sl8 (h : Hp B w0 w os) (i : Nat) (hi : os[i]? = some (As 5 1 encB v l)) : Fw w v l := by
 obtain ⟨rs, h1, h2⟩ := h.thing i hi
 exact Hs h1 h2
def CX (X : Ass) (v : Value) (l : List UInt8) : Prop := ∀ rs w, X rs → RowsOf w rs → Fw w v l
theorem CX.rd (h : CX X v l) : Rd X 1 encB v l := fun rs w h1 h2 => (h rs w h1 h2).rd
theorem CU : CX (As 5 1 encB v l) v l := fun _ _ h1 h2 => Hs h1 h2
theorem CX.drop {A : Option Addr} {c k : Nat} (h : CX X (.slice A l.length c) l) (hk : k ≤ l.length) : CX X (.slice (if c = k then A else A.map (·.add k)) (l.drop k).length (c - k)) (l.drop k) := fun rs w h1 h2 => by
  obtain ⟨A', c', e, hb⟩ := h rs w h1 h2
  simp only [Value.slice.injEq] at e
  obtain ⟨rfl, _, rfl⟩ := e
  exact ⟨_, _, rfl, hb.drop hk⟩
theorem Nx {A : Option Addr} {n c k : Nat} (hl : l.length - k = n) (hn : l.length = n + k) : Cm 1 (.slice A l.length c) k l.length = .slice (if c = k then A else A.map (·.add k)) n (c - k) := by
  show Value.slice (if c = k then A else A.map (·.add (k * 1))) (l.length - k) (c - k) = _
  rw [Nat.mul_one, hl]
theorem Hp.rd8 (h : Hp B w0 w os) (i : Nat) (hi : os[i]? = some X) (hu : CX X v l) : Fw w v l := by
 obtain ⟨rs, h1, h2⟩ := h.thing i hi
 exact hu rs w h1 h2
end
section
variable {P : Program} {F : FuncId} {args : Array Value} {l : List UInt8} {X : Ass} {u : World}
theorem Gm {w w' : World} {rs rs' : List RowT} (hr : RowsOf w rs) (hd : Bl rs) (hb : Below w.heap.size w w') (h1 : RowsOf w' rs') (h2 : Bl rs') (h3 : ∀ x ∈ rs', w.heap.size ≤ x.1) : Chg w w' rs (rs ++ rs') := by
  refine ⟨Mod.of_below hb _, AW.2 fun x hx => ?_, Mem.dist_app hd h2 fun x hx y hy e => ?_, fun x hx hlt => ?_⟩
  · rcases List.mem_append.1 hx with h | h
    · exact (hr.mem x h).below hb (hr.mem x h).lt
    · exact h1.mem x h
  · have := (hr.mem x hx).lt
    have := h3 y hy
    omega
  · rcases List.mem_append.1 hx with h | h
    · exact ⟨x, h, rfl⟩
    · have := h3 x h
      omega
theorem Ss (h : ∀ w, Calls P F args w fun e w' => ∃ v', e = .returned v' ∧ FN 5 w' w.heap.size v' l ∧ Below w.heap.size w w') : AU P F args [] (fun v : Value => v) (fun v => [As 5 1 encB v l]) := fun w rs h1 h2 h3 => by
 unfold Ap at h1
 subst h1
 refine (h w).mono ?_
 rintro e w' ⟨v, he, ho, hb⟩
 obtain ⟨rs', hv, hr, hd, hx⟩ := IV ho
 exact ⟨v, he, rs', Ap.one hv, by simpa using Gm (rs := []) trivial trivial hb hr hd fun x h => (hx x h).2⟩
theorem LQ (h : ∀ w rs, X rs → RowsOf w rs → Calls P F args w fun e w' => ∃ v', e = .returned v' ∧ FN 5 w' w.heap.size v' l ∧ Below w.heap.size w w') : AU P F args [X] (fun v : Value => v) (fun v => [X, As 5 1 encB v l]) := fun w rs h1 h2 h3 => by
 have hX := h1.one'
 refine (h w rs hX h2).mono ?_
 rintro e w' ⟨v, he, ho, hb⟩
 obtain ⟨rs', hv, hr, hd, hx⟩ := IV ho
 exact ⟨v, he, rs ++ rs', ⟨rs, rs', rfl, hX, Ap.one hv⟩, Gm h2 h3 hb hr hd fun x h => (hx x h).2⟩
theorem Q5 (h : ∀ w, Below u.heap.size u w → Calls P F args w fun e w' => ∃ v', e = .returned v' ∧ FN 5 w' w.heap.size v' l ∧ Below w.heap.size w w') : FX u P F args [] (fun v : Value => v) (fun v => [As 5 1 encB v l]) := fun w rs hU _ h1 h2 h3 => by
 unfold Ap at h1
 subst h1
 refine (h w hU).mono ?_
 rintro e w' ⟨v, he, ho, hb⟩
 obtain ⟨rs', hv, hr, hd, hx⟩ := IV ho
 exact ⟨v, he, rs', Ap.one hv, by simpa using Gm (rs := []) trivial trivial hb hr hd fun x h => (hx x h).2⟩
end
theorem FP {X : Ass} {v : Value} {l : List UInt8} (h : CX X v l) (hl : l.length ≤ 140737488355328) : AU Tryz.prog 59 #[v] [X] (fun v : Value => v) (fun v => [X, As 5 1 encB v l]) :=
 LQ fun w rs h1 h2 => by
  obtain ⟨A, c, rfl, hb⟩ := h rs w h1 h2
  exact Ju w A c l hb hl
theorem Uk (u : World) {v : Value} {l : List UInt8} (h : Fw u v l) (hl : l.length ≤ 140737488355328) : FX u Tryz.prog 59 #[v] [] (fun v : Value => v) (fun v => [As 5 1 encB v l]) :=
 Q5 fun w hU => by
  obtain ⟨A, c, rfl, hb⟩ := h.below hU
  exact Ju w A c l hb hl
def P7 (g : Nat) (l : List UInt8) : Ass := fun rs => ∃ v, Ap [cell g 130 #[v], As 5 1 encB v l] rs
theorem St {w : World} {rs : List RowT} {g : Nat} {l : List UInt8} (h : P7 g l rs) (hr : RowsOf w rs) : ∃ v rv, rs = (g, Fg 130, #[v]) :: rv ∧ As 5 1 encB v l rv ∧ OG w g v l := by
 obtain ⟨v, a, b, rfl, h1, h2⟩ := h
 unfold cell at h1
 subst h1
 have h3 := h2.one'
 exact ⟨v, b, rfl, h3, hr.1, P6 h3 hr.2⟩
theorem P8 {F : FuncId} {args : Array Value} {g : Nat} {l m : List UInt8} (h : ∀ w v, OG w g v l → Calls Tryz.prog F args w fun e w' => ∃ v', e = .returned (.tuple #[]) ∧ OG w' g v' m ∧ Mod (Kc g v) w w' ∧ ∀ k, At v' k → At v k ∨ w.heap.size ≤ k) : AU Tryz.prog F args [P7 g l] (fun _ : Unit => .tuple #[]) (fun _ => [P7 g m]) := fun w rs h1 h2 h3 => by
  obtain ⟨v, rv, rfl, hv, hw⟩ := St h1.one' h2
  refine (h w v hw).mono ?_
  rintro e w' ⟨v', he, hw', hm, ha⟩
  obtain ⟨rs', hv', hr', hd', hx⟩ := IV hw'.2
  have hblk : ∀ k, Kc g v k → k < w.heap.size → Co ((g, Fg 130, #[v]) :: rv) k := by
    rintro k (rfl | hk) _
    · exact ⟨_, List.mem_cons_self, rfl⟩
    · rcases hv with ⟨e1, _, _⟩ | ⟨g', c, cs, e1, _, _, _, _, e6⟩
      · subst e1; exact absurd hk At.none
      · subst e1; subst e6
        exact ⟨(g', Fg 5, cs), by simp, (At.iff.1 hk).symm⟩
  refine ⟨(), he, (g, Fg 130, #[v']) :: rs', Ap.one ⟨v', [(g, Fg 130, #[v'])], rs', rfl, rfl, Ap.one hv'⟩, hm.weaken fun k hk hf => hblk k hf hk, ⟨hw'.1, hr'⟩, ⟨fun y hy e => hw'.2.ne_row hw'.1 (by decide) ((show y.1 = g from e) ▸ (hx y hy).1), hd'⟩, fun x hxm hlt => ?_⟩
  rcases List.mem_cons.1 hxm with rfl | hxm
  · exact ⟨_, List.mem_cons_self, rfl⟩
  · rcases ha _ (hx x hxm).1 with h | h
    · exact hblk _ (.inr h) hlt
    · omega
theorem Vq : AU Tryz.prog 75 #[] [] (fun g : Nat => .pointer (some ⟨g, 0, none⟩)) (fun g => [P7 g []]) := fun w rs h1 _ _ => by
  unfold Ap at h1
  subst h1
  refine (LG w).mono ?_
  rintro e w' ⟨p, he, hp, hw, hb⟩
  obtain ⟨rs', hv', hr', hd', hx⟩ := IV hw.2
  refine ⟨p, he, (p, Fg 130, #[.slice none 0 0]) :: rs', Ap.one ⟨_, [(p, Fg 130, #[.slice none 0 0])], rs', rfl, rfl, Ap.one hv'⟩, ?_⟩
  have h0 : ∀ y ∈ rs', False := fun y hy => At.none (hx y hy).1
  refine ⟨Mod.of_below hb _, ⟨hw.1, hr'⟩, ⟨fun y hy => (h0 y hy).elim, hd'⟩, fun x hxm hlt => ?_⟩
  rcases List.mem_cons.1 hxm with rfl | hxm
  · omega
  · exact (h0 x hxm).elim
theorem Ul (g : Nat) (l : List UInt8) (n : Int) (hn : 0 ≤ n ∧ n < 256) (r : List UInt8) (hr : l ++ [UInt8.ofNat n.toNat] = r) (hl : l.length + 1 ≤ 140737488355328) : AU Tryz.prog 77 #[.pointer (some ⟨g, 0, none⟩), .int .u8 n] [P7 g l] (fun _ : Unit => .tuple #[]) (fun _ => [P7 g r]) := by
 subst hr
 have e : n = ((UInt8.ofNat n.toNat).toNat : Int) := by rw [IU _ (by omega)]; omega
 generalize UInt8.ofNat n.toNat = b at e ⊢
 subst e
 exact P8 fun w v hw => KM w g v l b hw hl
theorem Vr (g : Nat) (l : List UInt8) (n : Int) (hn : M5 n) (r : List UInt8) (hr : l ++ Jy n = r) (hl : l.length + 10 ≤ 140737488355328) : AU Tryz.prog 76 #[.pointer (some ⟨g, 0, none⟩), .int .u64 n] [P7 g l] (fun _ : Unit => .tuple #[]) (fun _ => [P7 g r]) := by
 subst hr
 have e : n = (n.toNat : Int) := by have := hn.1; omega
 have h2 : n.toNat < 18446744073709551616 := by have := hn.2; omega
 unfold Jy
 generalize n.toNat = m at e h2 ⊢
 subst e
 exact P8 fun w v hw => LH w g v l m hw h2 hl
theorem Su (g : Nat) (l : List UInt8) (hl : l.length ≤ 140737488355328) : AU Tryz.prog 78 #[.pointer (some ⟨g, 0, none⟩)] [P7 g l] (fun v : Value => v) (fun v => [P7 g l, As 5 1 encB v l]) :=
 LQ fun w rs h1 h2 => by
  obtain ⟨v, rv, rfl, hv, hw⟩ := St h1 h2
  exact Kd w g v l hw hl
theorem Vs (n : Int) (hn : M5 n) : AU Tryz.prog 46 #[.int .u64 n] [] (fun v : Value => v) (fun v => [As 5 1 encB v (Jy n)]) := by
 have e : n = (n.toNat : Int) := by have := hn.1; omega
 have h2 : n.toNat < 18446744073709551616 := by have := hn.2; omega
 unfold Jy
 generalize n.toNat = m at e h2 ⊢
 subst e
 exact Ss fun w => OI w m h2
def J0 (B : Value) (b : List UInt8) (g : Nat) (l : List UInt8) (f : Nat) : Ass := fun rs => ∃ j : Nat, j ≤ b.length ∧ l = b.drop j ∧ rs = [(g, Fg 81, #[B, .int .i64 (j : Int), .int .i64 (f : Int)])]
section
variable {u : World} {B : Value} {b l l' : List UInt8} {g f f' : Nat} {F : FuncId} {args : Array Value} {val : Value}
end
def GJ (g : Nat) (l : List UInt8) (f : Nat) : Ass := fun rs => ∃ (X : Ass) (A : Option Addr) (c : Nat), CX X (.slice A l.length c) l ∧ l.length ≤ 140737488355328 ∧ Ap [cell g 134 #[.slice A l.length c, .int .i64 (f : Int)], X] rs
theorem GJ.open_ {g f : Nat} {l : List UInt8} : ∀ rs, GJ g l f rs → ∃ x : { x : Ass × Option Addr × Nat // CX x.1 (.slice x.2.1 l.length x.2.2) l ∧ l.length ≤ 140737488355328 }, Ap [cell g 134 #[.slice x.1.2.1 l.length x.1.2.2, .int .i64 (f : Int)], x.1.1] rs :=
 fun _ ⟨X, A, c, h1, h2, h3⟩ => ⟨⟨(X, A, c), h1, h2⟩, h3⟩
theorem GJ.mk_ {g f : Nat} {l : List UInt8} {X : Ass} {A : Option Addr} {n c : Nat} (hn : l.length = n) (h1 : CX X (.slice A l.length c) l) (h2 : l.length ≤ 140737488355328) : ∀ rs, Ap [cell g 134 #[.slice A n c, .int .i64 (f : Int)], X] rs → GJ g l f rs :=
 fun _ h3 => by subst hn; exact ⟨X, A, c, h1, h2, h3⟩
end Go.Proofs.YtnknboibmifacaaGreat.Sep
