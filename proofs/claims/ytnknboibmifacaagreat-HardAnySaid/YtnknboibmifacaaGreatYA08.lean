/-
  RdT
-/
import Derived.Test.YtnknboibmifacaaGreatYA06
import Derived.Test.YtnknboibmifacaaGreatYA07
set_option linter.unusedSimpArgs false
set_option linter.unusedVariables false
namespace Go.Proofs.YtnknboibmifacaaGreat.Sep
open Go.RowKit
open Go.Proofs.YtnknboibmifacaaGreat.Mem (Bd Cj Chg AF)
theorem Nf (l : List UInt8) : flat encB l = Ln l := by
  induction l with
  | nil => rfl
  | cons x l ih => rw [DW, ih]; rfl
def EQ (w : World) (v : Value) (l : List UInt8) : Prop := ∃ A c, v = .slice A l.length c ∧ Bs (fun _ => True) w A c l
section
variable {u w w0 : World} {v : Value} {l : List UInt8} {X : Ass} {B : Nat → Prop} {os : List Ass} {rs : List RowT}
theorem EQ.below (h : EQ u v l) (hb : Below u.heap.size u w) : EQ w v l := by
 obtain ⟨A, c, e, h⟩ := h
 exact ⟨A, c, e, h.old hb⟩
theorem EQ.rd (h : EQ w v l) : Di w 1 v l.length (flat encB l) := by
  obtain ⟨A, c, rfl, h⟩ := h
  refine ⟨by rw [Nf, E5, Nat.mul_one], A, c, rfl, ?_⟩
  rcases Nat.eq_zero_or_pos l.length with h0 | h0
  · cases A with
    | none => exact .inl ⟨rfl, h0⟩
    | some a =>
      refine .inr ⟨a, rfl, fun j x hx => ?_⟩
      rw [Nf] at hx
      have := (List.getElem?_eq_some_iff.1 hx).1
      rw [E5] at this
      omega
  · obtain ⟨g, o, rfl, _, hc⟩ := h.2.2 h0
    refine .inr ⟨_, rfl, fun j x hx => ?_⟩
    rw [Nf] at hx
    obtain ⟨b, hb, rfl⟩ := PD hx
    rw [Addr.add_lit]
    exact hc j b hb
theorem EQ.cells (h : EQ w v l) : v.cells = #[v] := by
 obtain ⟨A, c, rfl, _⟩ := h
 rfl
theorem Fk (h : EQ u v l) (hU : Below u.heap.size u w0) (hS : ∀ k, B k → u.heap.size ≤ k) (hH : Hp B w0 w os) : EQ w v l := by
 have hm : Below u.heap.size w0 w := hH.up.below hU.size hS
 exact h.below (hU.trans hm)
theorem JW {base : Nat} (h : Gg 5 w base v l) : ∃ rs, Ao 5 1 encB v l rs ∧ RowsOf w rs ∧ Bd rs ∧ ∀ x ∈ rs, At v x.1 ∧ base ≤ x.1 := by
  obtain ⟨h1, h2⟩ := h
  rcases h2 with ⟨hv, hn⟩ | ⟨g, cap, cur, hv, hb, hg, hnc, hm, hs, ht⟩
  · exact ⟨[], .inl ⟨hv, List.eq_nil_of_length_eq_zero hn, rfl⟩, trivial, trivial, fun x hx => by cases hx⟩
  · refine ⟨[(g, EZ 5, cur)], .inr ⟨g, cap, cur, hv, hnc, hm, hs, by rw [Nf]; exact ht, rfl⟩, ⟨hg, trivial⟩, ⟨(fun _ h => by cases h), trivial⟩, fun x hx => ?_⟩
    have : x = (g, EZ 5, cur) := by simpa using hx
    subst this
    exact ⟨by rw [hv]; rfl, hb⟩
theorem PQ (h : Ao 5 1 encB v l rs) (hr : RowsOf w rs) : Gg 5 w 0 v l := by
  refine ⟨by rw [E5, Nat.mul_one], ?_⟩
  rcases h with ⟨h1, h2, _⟩ | ⟨g, c, cs, h1, h2, h3, h4, h5, h6⟩
  · exact .inl ⟨h1, by rw [h2]; rfl⟩
  · subst h6
    exact .inr ⟨g, c, cs, h1, Nat.zero_le _, hr.1, h2, h3, h4, by rw [← Nf]; exact h5⟩
theorem G7 (h : Ao 5 1 encB v l rs) (hr : RowsOf w rs) : EQ w v l := by
 obtain ⟨A, c, e, hb⟩ := (PQ h hr).form
 exact ⟨A, c, e, hb.weaken fun _ _ _ => trivial⟩
theorem Hp.sl8 (h : Hp B w0 w os) (i : Nat) (hi : os[i]? = some (Ao 5 1 encB v l)) : EQ w v l := by
 obtain ⟨rs, h1, h2⟩ := h.thing i hi
 exact G7 h1 h2
def Cw (X : Ass) (v : Value) (l : List UInt8) : Prop := ∀ rs w, X rs → RowsOf w rs → EQ w v l
theorem Cw.rd (h : Cw X v l) : Rd X 1 encB v l := fun rs w h1 h2 => (h rs w h1 h2).rd
theorem CQ : Cw (Ao 5 1 encB v l) v l := fun _ _ h1 h2 => G7 h1 h2
theorem Cw.drop {A : Option Addr} {c k : Nat} (h : Cw X (.slice A l.length c) l) (hk : k ≤ l.length) : Cw X (.slice (if c = k then A else A.map (·.add k)) (l.drop k).length (c - k)) (l.drop k) := fun rs w h1 h2 => by
  obtain ⟨A', c', e, hb⟩ := h rs w h1 h2
  simp only [Value.slice.injEq] at e
  obtain ⟨rfl, _, rfl⟩ := e
  exact ⟨_, _, rfl, hb.drop hk⟩
theorem Ng {A : Option Addr} {n c k : Nat} (hl : l.length - k = n) (hn : l.length = n + k) : Ci 1 (.slice A l.length c) k l.length = .slice (if c = k then A else A.map (·.add k)) n (c - k) := by
  show Value.slice (if c = k then A else A.map (·.add (k * 1))) (l.length - k) (c - k) = _
  rw [Nat.mul_one, hl]
theorem Hp.rd8 (h : Hp B w0 w os) (i : Nat) (hi : os[i]? = some X) (hu : Cw X v l) : EQ w v l := by
 obtain ⟨rs, h1, h2⟩ := h.thing i hi
 exact hu rs w h1 h2
end
section
variable {P : Program} {F : FuncId} {args : Array Value} {l : List UInt8} {X : Ass} {u : World}
theorem G8 {w w' : World} {rs rs' : List RowT} (hr : RowsOf w rs) (hd : Bd rs) (hb : Below w.heap.size w w') (h1 : RowsOf w' rs') (h2 : Bd rs') (h3 : ∀ x ∈ rs', w.heap.size ≤ x.1) : Chg w w' rs (rs ++ rs') := by
  refine ⟨Mod.of_below hb _, AN.2 fun x hx => ?_, Mem.dist_app hd h2 fun x hx y hy e => ?_, fun x hx hlt => ?_⟩
  · rcases List.mem_append.1 hx with h | h
    · exact (hr.mem x h).below hb (hr.mem x h).lt
    · exact h1.mem x h
  · have := (hr.mem x hx).lt
    have := h3 y hy
    omega
  · rcases List.mem_append.1 hx with h | h
    · exact ⟨x, h, rfl⟩
    · have := h3 x h
      omega
theorem Lu (h : ∀ w rs, X rs → RowsOf w rs → Calls P F args w fun e w' => ∃ v', e = .returned v' ∧ Gg 5 w' w.heap.size v' l ∧ Below w.heap.size w w') : AS P F args [X] (fun v : Value => v) (fun v => [X, Ao 5 1 encB v l]) := fun w rs h1 h2 h3 => by
 have hX := h1.one'
 refine (h w rs hX h2).mono ?_
 rintro e w' ⟨v, he, ho, hb⟩
 obtain ⟨rs', hv, hr, hd, hx⟩ := JW ho
 exact ⟨v, he, rs ++ rs', ⟨rs, rs', rfl, hX, Al.one hv⟩, G8 h2 h3 hb hr hd fun x h => (hx x h).2⟩
theorem QO (h : ∀ w, Below u.heap.size u w → Calls P F args w fun e w' => ∃ v', e = .returned v' ∧ Gg 5 w' w.heap.size v' l ∧ Below w.heap.size w w') : FC u P F args [] (fun v : Value => v) (fun v => [Ao 5 1 encB v l]) := fun w rs hU _ h1 h2 h3 => by
 unfold Al at h1
 subst h1
 refine (h w hU).mono ?_
 rintro e w' ⟨v, he, ho, hb⟩
 obtain ⟨rs', hv, hr, hd, hx⟩ := JW ho
 exact ⟨v, he, rs', Al.one hv, by simpa using G8 (rs := []) trivial trivial hb hr hd fun x h => (hx x h).2⟩
end
theorem Fx {X : Ass} {v : Value} {l : List UInt8} (h : Cw X v l) (hl : l.length ≤ 140737488355328) : AS Tryz.prog 59 #[v] [X] (fun v : Value => v) (fun v => [X, Ao 5 1 encB v l]) :=
 Lu fun w rs h1 h2 => by
  obtain ⟨A, c, rfl, hb⟩ := h rs w h1 h2
  exact Ja w A c l hb hl
theorem TZ (u : World) {v : Value} {l : List UInt8} (h : EQ u v l) (hl : l.length ≤ 140737488355328) : FC u Tryz.prog 59 #[v] [] (fun v : Value => v) (fun v => [Ao 5 1 encB v l]) :=
 QO fun w hU => by
  obtain ⟨A, c, rfl, hb⟩ := h.below hU
  exact Ja w A c l hb hl
def PR (g : Nat) (l : List UInt8) : Ass := fun rs => ∃ v, Al [cell g 130 #[v], Ao 5 1 encB v l] rs
theorem Sc {w : World} {rs : List RowT} {g : Nat} {l : List UInt8} (h : PR g l rs) (hr : RowsOf w rs) : ∃ v rv, rs = (g, EZ 130, #[v]) :: rv ∧ Ao 5 1 encB v l rv ∧ On w g v l := by
 obtain ⟨v, a, b, rfl, h1, h2⟩ := h
 unfold cell at h1
 subst h1
 have h3 := h2.one'
 exact ⟨v, b, rfl, h3, hr.1, PQ h3 hr.2⟩
theorem PS {F : FuncId} {args : Array Value} {g : Nat} {l m : List UInt8} (h : ∀ w v, On w g v l → Calls Tryz.prog F args w fun e w' => ∃ v', e = .returned (.tuple #[]) ∧ On w' g v' m ∧ Mod (JR g v) w w' ∧ ∀ k, At v' k → At v k ∨ w.heap.size ≤ k) : AS Tryz.prog F args [PR g l] (fun _ : Unit => .tuple #[]) (fun _ => [PR g m]) := fun w rs h1 h2 h3 => by
  obtain ⟨v, rv, rfl, hv, hw⟩ := Sc h1.one' h2
  refine (h w v hw).mono ?_
  rintro e w' ⟨v', he, hw', hm, ha⟩
  obtain ⟨rs', hv', hr', hd', hx⟩ := JW hw'.2
  have hblk : ∀ k, JR g v k → k < w.heap.size → Cj ((g, EZ 130, #[v]) :: rv) k := by
    rintro k (rfl | hk) _
    · exact ⟨_, List.mem_cons_self, rfl⟩
    · rcases hv with ⟨e1, _, _⟩ | ⟨g', c, cs, e1, _, _, _, _, e6⟩
      · subst e1; exact absurd hk At.none
      · subst e1; subst e6
        exact ⟨(g', EZ 5, cs), by simp, (At.iff.1 hk).symm⟩
  refine ⟨(), he, (g, EZ 130, #[v']) :: rs', Al.one ⟨v', [(g, EZ 130, #[v'])], rs', rfl, rfl, Al.one hv'⟩, hm.weaken fun k hk hf => hblk k hf hk, ⟨hw'.1, hr'⟩, ⟨fun y hy e => hw'.2.ne_row hw'.1 (by decide) ((show y.1 = g from e) ▸ (hx y hy).1), hd'⟩, fun x hxm hlt => ?_⟩
  rcases List.mem_cons.1 hxm with rfl | hxm
  · exact ⟨_, List.mem_cons_self, rfl⟩
  · rcases ha _ (hx x hxm).1 with h | h
    · exact hblk _ (.inr h) hlt
    · omega
theorem U4 : AS Tryz.prog 75 #[] [] (fun g : Nat => .pointer (some ⟨g, 0, none⟩)) (fun g => [PR g []]) := fun w rs h1 _ _ => by
  unfold Al at h1
  subst h1
  refine (Lj w).mono ?_
  rintro e w' ⟨p, he, hp, hw, hb⟩
  obtain ⟨rs', hv', hr', hd', hx⟩ := JW hw.2
  refine ⟨p, he, (p, EZ 130, #[.slice none 0 0]) :: rs', Al.one ⟨_, [(p, EZ 130, #[.slice none 0 0])], rs', rfl, rfl, Al.one hv'⟩, ?_⟩
  have h0 : ∀ y ∈ rs', False := fun y hy => At.none (hx y hy).1
  refine ⟨Mod.of_below hb _, ⟨hw.1, hr'⟩, ⟨fun y hy => (h0 y hy).elim, hd'⟩, fun x hxm hlt => ?_⟩
  rcases List.mem_cons.1 hxm with rfl | hxm
  · omega
  · exact (h0 x hxm).elim
theorem T0 (g : Nat) (l : List UInt8) (n : Int) (hn : 0 ≤ n ∧ n < 256) (r : List UInt8) (hr : l ++ [UInt8.ofNat n.toNat] = r) (hl : l.length + 1 ≤ 140737488355328) : AS Tryz.prog 77 #[.pointer (some ⟨g, 0, none⟩), .int .u8 n] [PR g l] (fun _ : Unit => .tuple #[]) (fun _ => [PR g r]) := by
 subst hr
 have e : n = ((UInt8.ofNat n.toNat).toNat : Int) := by rw [Iz _ (by omega)]; omega
 generalize UInt8.ofNat n.toNat = b at e ⊢
 subst e
 exact PS fun w v hw => Ku w g v l b hw hl
theorem U5 (g : Nat) (l : List UInt8) (n : Int) (hn : N8 n) (r : List UInt8) (hr : l ++ QN n = r) (hl : l.length + 10 ≤ 140737488355328) : AS Tryz.prog 76 #[.pointer (some ⟨g, 0, none⟩), .int .u64 n] [PR g l] (fun _ : Unit => .tuple #[]) (fun _ => [PR g r]) := by
 subst hr
 have e : n = (n.toNat : Int) := by have := hn.1; omega
 have h2 : n.toNat < 18446744073709551616 := by have := hn.2; omega
 unfold QN
 generalize n.toNat = m at e h2 ⊢
 subst e
 exact PS fun w v hw => Lk w g v l m hw h2 hl
theorem Sd (g : Nat) (l : List UInt8) (hl : l.length ≤ 140737488355328) : AS Tryz.prog 78 #[.pointer (some ⟨g, 0, none⟩)] [PR g l] (fun v : Value => v) (fun v => [PR g l, Ao 5 1 encB v l]) :=
 Lu fun w rs h1 h2 => by
  obtain ⟨v, rv, rfl, hv, hw⟩ := Sc h1 h2
  exact JS w g v l hw hl
def JF (B : Value) (b : List UInt8) (g : Nat) (l : List UInt8) (f : Nat) : Ass := fun rs => ∃ j : Nat, j ≤ b.length ∧ l = b.drop j ∧ rs = [(g, EZ 81, #[B, .int .i64 (j : Int), .int .i64 (f : Int)])]
section
variable {u : World} {B : Value} {b l l' : List UInt8} {g f f' : Nat} {F : FuncId} {args : Array Value} {val : Value}
end
def Gj (g : Nat) (l : List UInt8) (f : Nat) : Ass := fun rs => ∃ (X : Ass) (A : Option Addr) (c : Nat), Cw X (.slice A l.length c) l ∧ l.length ≤ 140737488355328 ∧ Al [cell g 134 #[.slice A l.length c, .int .i64 (f : Int)], X] rs
theorem Gj.open_ {g f : Nat} {l : List UInt8} : ∀ rs, Gj g l f rs → ∃ x : { x : Ass × Option Addr × Nat // Cw x.1 (.slice x.2.1 l.length x.2.2) l ∧ l.length ≤ 140737488355328 }, Al [cell g 134 #[.slice x.1.2.1 l.length x.1.2.2, .int .i64 (f : Int)], x.1.1] rs :=
 fun _ ⟨X, A, c, h1, h2, h3⟩ => ⟨⟨(X, A, c), h1, h2⟩, h3⟩
theorem Gj.mk_ {g f : Nat} {l : List UInt8} {X : Ass} {A : Option Addr} {n c : Nat} (hn : l.length = n) (h1 : Cw X (.slice A l.length c) l) (h2 : l.length ≤ 140737488355328) : ∀ rs, Al [cell g 134 #[.slice A n c, .int .i64 (f : Int)], X] rs → Gj g l f rs :=
 fun _ h3 => by subst hn; exact ⟨X, A, c, h1, h2, h3⟩
end Go.Proofs.YtnknboibmifacaaGreat.Sep
