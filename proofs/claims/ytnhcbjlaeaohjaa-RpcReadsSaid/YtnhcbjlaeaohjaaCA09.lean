/-
  RdT
-/
import Derived.Test.YtnhcbjlaeaohjaaCA07
import Derived.Test.YtnhcbjlaeaohjaaCA08
set_option linter.unusedSimpArgs false
set_option linter.unusedVariables false

namespace Go.Proofs.Ytnhcbjlaeaohjaa.Sep
open Go.RowKit
open Go.Proofs.Ytnhcbjlaeaohjaa.Mem (Dist Blk Chg below0)

theorem flatB (l : List UInt8) : flat encB l = u8s l := by
  induction l with
  | nil => rfl
  | cons x l ih => rw [flat_cons, ih]; rfl

/-! ## A slice that reads as bytes -/
def Sl8 (w : World) (v : Value) (l : List UInt8) : Prop := ∃ A c, v = .slice A l.length c ∧ Bs (fun _ => True) w A c l
section
variable {u w w0 : World} {v : Value} {l : List UInt8} {X : Ass} {B : Nat → Prop} {os : List Ass} {rs : List RowT}
theorem Sl8.below (h : Sl8 u v l) (hb : Below u.heap.size u w) : Sl8 w v l := by
  obtain ⟨A, c, e, h⟩ := h
  exact ⟨A, c, e, h.old hb⟩
theorem Sl8.rd (h : Sl8 w v l) : SlRd w 1 v l.length (flat encB l) := by
  obtain ⟨A, c, rfl, h⟩ := h
  refine ⟨by rw [flatB, u8s_length, Nat.mul_one], A, c, rfl, ?_⟩
  rcases Nat.eq_zero_or_pos l.length with h0 | h0
  · cases A with
    | none => exact .inl ⟨rfl, h0⟩
    | some a =>
      refine .inr ⟨a, rfl, fun j x hx => ?_⟩
      rw [flatB] at hx
      have := (List.getElem?_eq_some_iff.1 hx).1
      rw [u8s_length] at this
      omega
  · obtain ⟨g, o, rfl, _, hc⟩ := h.2.2 h0
    refine .inr ⟨_, rfl, fun j x hx => ?_⟩
    rw [flatB] at hx
    obtain ⟨b, hb, rfl⟩ := u8s_get hx
    rw [Addr.add_lit]
    exact hc j b hb
theorem Sl8.cells (h : Sl8 w v l) : v.cells = #[v] := by
  obtain ⟨A, c, rfl, _⟩ := h
  rfl
theorem arg8 (h : Sl8 u v l) (hU : Below u.heap.size u w0) (hS : ∀ k, B k → u.heap.size ≤ k) (hH : Hp B w0 w os) : Sl8 w v l := by
  have hm : Below u.heap.size w0 w := hH.up.below hU.size hS
  exact h.below (hU.trans hm)
theorem own_vec {base : Nat} (h : Own 5 w base v l) : ∃ rs, Vec 5 1 encB v l rs ∧ RowsOf w rs ∧ Dist rs ∧ ∀ x ∈ rs, At v x.1 ∧ base ≤ x.1 := by
  obtain ⟨h1, h2⟩ := h
  rcases h2 with ⟨hv, hn⟩ | ⟨g, cap, cur, hv, hb, hg, hnc, hm, hs, ht⟩
  · exact ⟨[], .inl ⟨hv, List.eq_nil_of_length_eq_zero hn, rfl⟩, trivial, trivial, fun x hx => by cases hx⟩
  · refine ⟨[(g, 5, cur)], .inr ⟨g, cap, cur, hv, hnc, hm, hs, by rw [flatB]; exact ht, rfl⟩, ⟨hg, trivial⟩, ⟨(fun _ h => by cases h), trivial⟩, fun x hx => ?_⟩
    have : x = (g, 5, cur) := by simpa using hx
    subst this
    exact ⟨by rw [hv]; rfl, hb⟩
theorem vec_own (h : Vec 5 1 encB v l rs) (hr : RowsOf w rs) : Own 5 w 0 v l := by
  refine ⟨by rw [u8s_length, Nat.mul_one], ?_⟩
  rcases h with ⟨h1, h2, _⟩ | ⟨g, c, cs, h1, h2, h3, h4, h5, h6⟩
  · exact .inl ⟨h1, by rw [h2]; rfl⟩
  · subst h6
    exact .inr ⟨g, c, cs, h1, Nat.zero_le _, hr.1, h2, h3, h4, by rw [← flatB]; exact h5⟩
theorem vec_sl8 (h : Vec 5 1 encB v l rs) (hr : RowsOf w rs) : Sl8 w v l := by
  obtain ⟨A, c, e, hb⟩ := (vec_own h hr).form
  exact ⟨A, c, e, hb.weaken fun _ _ _ => trivial⟩
theorem Hp.sl8 (h : Hp B w0 w os) (i : Nat) (hi : os[i]? = some (Vec 5 1 encB v l)) : Sl8 w v l := by
  obtain ⟨rs, h1, h2⟩ := h.thing i hi
  exact vec_sl8 h1 h2
def Rd8 (X : Ass) (v : Value) (l : List UInt8) : Prop := ∀ rs w, X rs → RowsOf w rs → Sl8 w v l
theorem Rd8.rd (h : Rd8 X v l) : Rd X 1 encB v l := fun rs w h1 h2 => (h rs w h1 h2).rd
theorem rd8_vec : Rd8 (Vec 5 1 encB v l) v l := fun _ _ h1 h2 => vec_sl8 h1 h2
theorem Rd8.drop {A : Option Addr} {c k : Nat} (h : Rd8 X (.slice A l.length c) l) (hk : k ≤ l.length) : Rd8 X (.slice (if c = k then A else A.map (·.add k)) (l.drop k).length (c - k)) (l.drop k) := fun rs w h1 h2 => by
  obtain ⟨A', c', e, hb⟩ := h rs w h1 h2
  simp only [Value.slice.injEq] at e
  obtain ⟨rfl, _, rfl⟩ := e
  exact ⟨_, _, rfl, hb.drop hk⟩
theorem sub_drop {A : Option Addr} {n c k : Nat} (hl : l.length - k = n) (hn : l.length = n + k) : subv 1 (.slice A l.length c) k l.length = .slice (if c = k then A else A.map (·.add k)) n (c - k) := by
  show Value.slice (if c = k then A else A.map (·.add (k * 1))) (l.length - k) (c - k) = _
  rw [Nat.mul_one, hl]
theorem Hp.rd8 (h : Hp B w0 w os) (i : Nat) (hi : os[i]? = some X) (hu : Rd8 X v l) : Sl8 w v l := by
  obtain ⟨rs, h1, h2⟩ := h.thing i hi
  exact hu rs w h1 h2
end

/-! ## Calls that answer new bytes -/
section
variable {P : Program} {F : FuncId} {args : Array Value} {l : List UInt8} {X : Ass} {u : World}
theorem chg_new {w w' : World} {rs rs' : List RowT} (hr : RowsOf w rs) (hd : Dist rs) (hb : Below w.heap.size w w') (h1 : RowsOf w' rs') (h2 : Dist rs') (h3 : ∀ x ∈ rs', w.heap.size ≤ x.1) : Chg w w' rs (rs ++ rs') := by
  refine ⟨Mod.of_below hb _, rows_iff.2 fun x hx => ?_, Mem.dist_app hd h2 fun x hx y hy e => ?_, fun x hx hlt => ?_⟩
  · rcases List.mem_append.1 hx with h | h
    · exact (hr.mem x h).below hb (hr.mem x h).lt
    · exact h1.mem x h
  · have := (hr.mem x hx).lt
    have := h3 y hy
    omega
  · rcases List.mem_append.1 hx with h | h
    · exact ⟨x, h, rfl⟩
    · have := h3 x h
      omega
theorem does_own (h : ∀ w, Calls P F args w fun e w' => ∃ v', e = .returned v' ∧ Own 5 w' w.heap.size v' l ∧ Below w.heap.size w w') : Does P F args [] (fun v : Value => v) (fun v => [Vec 5 1 encB v l]) := fun w rs h1 h2 h3 => by
  unfold Parts at h1
  subst h1
  refine (h w).mono ?_
  rintro e w' ⟨v, he, ho, hb⟩
  obtain ⟨rs', hv, hr, hd, hx⟩ := own_vec ho
  exact ⟨v, he, rs', Parts.one hv, by simpa using chg_new (rs := []) trivial trivial hb hr hd fun x h => (hx x h).2⟩
theorem does_ownX (h : ∀ w rs, X rs → RowsOf w rs → Calls P F args w fun e w' => ∃ v', e = .returned v' ∧ Own 5 w' w.heap.size v' l ∧ Below w.heap.size w w') : Does P F args [X] (fun v : Value => v) (fun v => [X, Vec 5 1 encB v l]) := fun w rs h1 h2 h3 => by
  have hX := h1.one'
  refine (h w rs hX h2).mono ?_
  rintro e w' ⟨v, he, ho, hb⟩
  obtain ⟨rs', hv, hr, hd, hx⟩ := own_vec ho
  exact ⟨v, he, rs ++ rs', ⟨rs, rs', rfl, hX, Parts.one hv⟩, chg_new h2 h3 hb hr hd fun x h => (hx x h).2⟩
theorem does_ownU (h : ∀ w, Below u.heap.size u w → Calls P F args w fun e w' => ∃ v', e = .returned v' ∧ Own 5 w' w.heap.size v' l ∧ Below w.heap.size w w') : DoesU u P F args [] (fun v : Value => v) (fun v => [Vec 5 1 encB v l]) := fun w rs hU _ h1 h2 h3 => by
  unfold Parts at h1
  subst h1
  refine (h w hU).mono ?_
  rintro e w' ⟨v, he, ho, hb⟩
  obtain ⟨rs', hv, hr, hd, hx⟩ := own_vec ho
  exact ⟨v, he, rs', Parts.one hv, by simpa using chg_new (rs := []) trivial trivial hb hr hd fun x h => (hx x h).2⟩
end
theorem clone8 {X : Ass} {v : Value} {l : List UInt8} (h : Rd8 X v l) (hl : l.length ≤ 140737488355328) : Does Try.prog 80 #[v] [X] (fun v : Value => v) (fun v => [X, Vec 5 1 encB v l]) :=
  does_ownX fun w rs h1 h2 => by
    obtain ⟨A, c, rfl, hb⟩ := h rs w h1 h2
    exact clone_any w A c l hb hl
theorem clone8U (u : World) {v : Value} {l : List UInt8} (h : Sl8 u v l) (hl : l.length ≤ 140737488355328) : DoesU u Try.prog 80 #[v] [] (fun v : Value => v) (fun v => [Vec 5 1 encB v l]) :=
  does_ownU fun w hU => by
    obtain ⟨A, c, rfl, hb⟩ := h.below hU
    exact clone_any w A c l hb hl

/-! ## A writer -/
def WtT (g : Nat) (l : List UInt8) : Ass := fun rs => ∃ v, Parts [cell g 94 #[v], Vec 5 1 encB v l] rs
theorem wt_wtr {w : World} {rs : List RowT} {g : Nat} {l : List UInt8} (h : WtT g l rs) (hr : RowsOf w rs) : ∃ v rv, rs = (g, 94, #[v]) :: rv ∧ Vec 5 1 encB v l rv ∧ Wtr w g v l := by
  obtain ⟨v, a, b, rfl, h1, h2⟩ := h
  unfold cell at h1
  subst h1
  have h3 := h2.one'
  exact ⟨v, b, rfl, h3, hr.1, vec_own h3 hr.2⟩
theorem does_wt {F : FuncId} {args : Array Value} {g : Nat} {l m : List UInt8} (h : ∀ w v, Wtr w g v l → Calls Try.prog F args w fun e w' => ∃ v', e = .returned (.tuple #[]) ∧ Wtr w' g v' m ∧ Mod (Foot g v) w w' ∧ ∀ k, At v' k → At v k ∨ w.heap.size ≤ k) : Does Try.prog F args [WtT g l] (fun _ : Unit => .tuple #[]) (fun _ => [WtT g m]) := fun w rs h1 h2 h3 => by
  obtain ⟨v, rv, rfl, hv, hw⟩ := wt_wtr h1.one' h2
  refine (h w v hw).mono ?_
  rintro e w' ⟨v', he, hw', hm, ha⟩
  obtain ⟨rs', hv', hr', hd', hx⟩ := own_vec hw'.2
  have hblk : ∀ k, Foot g v k → k < w.heap.size → Blk ((g, 94, #[v]) :: rv) k := by
    rintro k (rfl | hk) _
    · exact ⟨_, List.mem_cons_self, rfl⟩
    · rcases hv with ⟨e1, _, _⟩ | ⟨g', c, cs, e1, _, _, _, _, e6⟩
      · subst e1; exact absurd hk At.none
      · subst e1; subst e6
        exact ⟨(g', 5, cs), by simp, (At.iff.1 hk).symm⟩
  refine ⟨(), he, (g, 94, #[v']) :: rs', Parts.one ⟨v', [(g, 94, #[v'])], rs', rfl, rfl, Parts.one hv'⟩, hm.weaken fun k hk hf => hblk k hf hk, ⟨hw'.1, hr'⟩, ⟨fun y hy e => hw'.2.ne_row hw'.1 (by decide) ((show y.1 = g from e) ▸ (hx y hy).1), hd'⟩, fun x hxm hlt => ?_⟩
  rcases List.mem_cons.1 hxm with rfl | hxm
  · exact ⟨_, List.mem_cons_self, rfl⟩
  · rcases ha _ (hx x hxm).1 with h | h
    · exact hblk _ (.inr h) hlt
    · omega
theorem wt_new : Does Try.prog 34 #[] [] (fun g : Nat => .pointer (some ⟨g, 0, none⟩)) (fun g => [WtT g []]) := fun w rs h1 _ _ => by
  unfold Parts at h1
  subst h1
  refine (newWriter_any w).mono ?_
  rintro e w' ⟨p, he, hp, hw, hb⟩
  obtain ⟨rs', hv', hr', hd', hx⟩ := own_vec hw.2
  refine ⟨p, he, (p, 94, #[.slice none 0 0]) :: rs', Parts.one ⟨_, [(p, 94, #[.slice none 0 0])], rs', rfl, rfl, Parts.one hv'⟩, ?_⟩
  have h0 : ∀ y ∈ rs', False := fun y hy => At.none (hx y hy).1
  refine ⟨Mod.of_below hb _, ⟨hw.1, hr'⟩, ⟨fun y hy => (h0 y hy).elim, hd'⟩, fun x hxm hlt => ?_⟩
  rcases List.mem_cons.1 hxm with rfl | hxm
  · omega
  · exact (h0 x hxm).elim
theorem wt_byte (g : Nat) (l : List UInt8) (n : Int) (hn : 0 ≤ n ∧ n < 256) (r : List UInt8) (hr : l ++ [UInt8.ofNat n.toNat] = r) (hl : l.length + 1 ≤ 140737488355328) : Does Try.prog 35 #[.pointer (some ⟨g, 0, none⟩), .int .u8 n] [WtT g l] (fun _ : Unit => .tuple #[]) (fun _ => [WtT g r]) := by
  subst hr
  have e : n = ((UInt8.ofNat n.toNat).toNat : Int) := by rw [byte_of _ (by omega)]; omega
  generalize UInt8.ofNat n.toNat = b at e ⊢
  subst e
  exact does_wt fun w v hw => writerByte_any w g v l b hw hl
theorem wt_num (g : Nat) (l : List UInt8) (n : Int) (hn : U64 n) (r : List UInt8) (hr : l ++ layU n = r) (hl : l.length + 10 ≤ 140737488355328) : Does Try.prog 44 #[.pointer (some ⟨g, 0, none⟩), .int .u64 n] [WtT g l] (fun _ : Unit => .tuple #[]) (fun _ => [WtT g r]) := by
  subst hr
  have e : n = (n.toNat : Int) := by have := hn.1; omega
  have h2 : n.toNat < 18446744073709551616 := by have := hn.2; omega
  unfold layU
  generalize n.toNat = m at e h2 ⊢
  subst e
  exact does_wt fun w v hw => writerNum_any w g v l m hw h2 hl
theorem wt_bytes (g : Nat) (l : List UInt8) (hl : l.length ≤ 140737488355328) : Does Try.prog 39 #[.pointer (some ⟨g, 0, none⟩)] [WtT g l] (fun v : Value => v) (fun v => [WtT g l, Vec 5 1 encB v l]) :=
  does_ownX fun w rs h1 h2 => by
    obtain ⟨v, rv, rfl, hv, hw⟩ := wt_wtr h1 h2
    exact writerBytes_any w g v l hw hl
/-! ## What the reference lays -/
theorem r1_num (n : Int) (hn : U64 n) : Does Try.prog 55 #[.int .u64 n] [] (fun v : Value => v) (fun v => [Vec 5 1 encB v (layU n)]) := by
  have e : n = (n.toNat : Int) := by have := hn.1; omega
  have h2 : n.toNat < 18446744073709551616 := by have := hn.2; omega
  unfold layU
  generalize n.toNat = m at e h2 ⊢
  subst e
  exact does_own fun w => refNum_any w m h2
def RrT (B : Value) (b : List UInt8) (g : Nat) (l : List UInt8) (f : Nat) : Ass := fun rs => ∃ j : Nat, j ≤ b.length ∧ l = b.drop j ∧ rs = [(g, 82, #[B, .int .i64 (j : Int), .int .i64 (f : Int)])]
section
variable {u : World} {B : Value} {b l l' : List UInt8} {g f f' : Nat} {F : FuncId} {args : Array Value} {val : Value}
theorem does_rr (hB : Sl8 u B b) (hl : b.length ≤ 140737488355328) (h : ∀ w A c, B = .slice A b.length c → RRd (fun k => k < u.heap.size) w g A c b l f → Calls Try.prog F args w fun e w' => e = .returned val ∧ RRd (fun k => k < u.heap.size) w' g A c b l' f' ∧ Mod (One g) w w') : DoesU u Try.prog F args [RrT B b g l f] (fun _ : Unit => val) (fun _ => [RrT B b g l' f']) := fun w rs hU hS h1 h2 h3 => by
  obtain ⟨j, hj, hlj, rfl⟩ := h1.one'
  obtain ⟨A, c, rfl, hb⟩ := hB
  have hg : u.heap.size ≤ g := hS _ List.mem_cons_self
  have hb2 : Bs (fun k => k < u.heap.size) w A c b := (hb.weaken (T := fun k => k < u.heap.size) fun k hk _ => hk).below hU fun _ hk => hk
  refine (h w A c rfl ⟨j, hj, hlj, h2.1, hb2, hl, fun k hk e => by unfold One at e; omega⟩).mono ?_
  rintro e w' ⟨he, ⟨j', hj', hl', hr', _⟩, hm⟩
  refine ⟨(), he, [(g, 82, #[.slice A b.length c, .int .i64 (j' : Int), .int .i64 (f' : Int)])], Parts.one ⟨j', hj', hl', rfl⟩, hm.weaken fun k _ e => ⟨_, List.mem_cons_self, e.symm⟩, ⟨hr', trivial⟩, ⟨(fun _ h => by cases h), trivial⟩, fun x hx _ => ?_⟩
  have : x = (g, 82, #[.slice A b.length c, .int .i64 (j' : Int), .int .i64 (f' : Int)]) := by simpa using hx
  subst this
  exact ⟨_, List.mem_cons_self, rfl⟩
theorem rr_byte (hB : Sl8 u B b) (hl : b.length ≤ 140737488355328) (most : Nat) (hm : most < 256) (R : Nat × List UInt8 × Nat) (h : rbyte most l f = R) : DoesU u Try.prog 62 #[.pointer (some ⟨g, 0, none⟩), .int .u8 (most : Int)] [RrT B b g l f] (fun _ : Unit => .int .u8 (R.1 : Int)) (fun _ => [RrT B b g R.2.1 R.2.2]) := by
  subst h
  exact does_rr hB hl fun w A c _ hr => refByte_any w g c f most A b l hr hm
theorem rr_num (hB : Sl8 u B b) (hl : b.length ≤ 140737488355328) (most : Nat) (hm : most < 18446744073709551616) (R : Nat × List UInt8 × Nat) (h : rnum most l f = R) : DoesU u Try.prog 63 #[.pointer (some ⟨g, 0, none⟩), .int .u64 (most : Int)] [RrT B b g l f] (fun _ : Unit => .int .u64 (R.1 : Int)) (fun _ => [RrT B b g R.2.1 R.2.2]) := by
  subst h
  exact does_rr hB hl fun w A c _ hr => refRNum_any w g c f most A b l hr hm
theorem rr_end (hB : Sl8 u B b) (hl : b.length ≤ 140737488355328) (r : Nat) (h : rend l f = r) : DoesU u Try.prog 65 #[.pointer (some ⟨g, 0, none⟩)] [RrT B b g l f] (fun _ : Unit => .int .i64 (r : Int)) (fun _ => [RrT B b g l f]) := by
  subst h
  refine does_rr hB hl fun w A c _ hr => (refEnd_any w g c f A b l hr).mono ?_
  rintro e w' ⟨he, hb⟩
  exact ⟨he, hr.mod (Mod.of_below hb Nil) (fun h => h.elim) (fun _ _ h => h), Mod.of_below hb _⟩
end
/-! ## The program's reader -/
def RdT (g : Nat) (l : List UInt8) (f : Nat) : Ass := fun rs => ∃ (X : Ass) (A : Option Addr) (c : Nat), Rd8 X (.slice A l.length c) l ∧ l.length ≤ 140737488355328 ∧ Parts [cell g 99 #[.slice A l.length c, .int .i64 (f : Int)], X] rs
theorem RdT.open_ {g f : Nat} {l : List UInt8} : ∀ rs, RdT g l f rs → ∃ x : { x : Ass × Option Addr × Nat // Rd8 x.1 (.slice x.2.1 l.length x.2.2) l ∧ l.length ≤ 140737488355328 }, Parts [cell g 99 #[.slice x.1.2.1 l.length x.1.2.2, .int .i64 (f : Int)], x.1.1] rs :=
  fun _ ⟨X, A, c, h1, h2, h3⟩ => ⟨⟨(X, A, c), h1, h2⟩, h3⟩
theorem RdT.mk_ {g f : Nat} {l : List UInt8} {X : Ass} {A : Option Addr} {n c : Nat} (hn : l.length = n) (h1 : Rd8 X (.slice A l.length c) l) (h2 : l.length ≤ 140737488355328) : ∀ rs, Parts [cell g 99 #[.slice A n c, .int .i64 (f : Int)], X] rs → RdT g l f rs :=
  fun _ h3 => by subst hn; exact ⟨X, A, c, h1, h2, h3⟩
end Go.Proofs.Ytnhcbjlaeaohjaa.Sep
