/-
  AgT · HdY
-/
import Derived.Test.YtnknboibmifacaaGreatYA08
import Derived.Test.YtnknboibmifacaaGreatYL01
import Derived.Test.YtnknboibmifacaaGreatYQ01
import Derived.Test.YtnknboibmifacaaGreatYR01
set_option linter.unusedSimpArgs false
set_option linter.unusedVariables false
namespace Go.Proofs.YtnknboibmifacaaGreat.Sep
open Go.RowKit
open Go.Proofs.YtnknboibmifacaaGreat.Mem (Bd Cj Chg AF)
def IZ : List Nat → List Nat
  | [] => []
  | a :: l => if a ∈ IZ l then IZ l else a :: IZ l
theorem GX {a : Nat} : ∀ {l : List Nat}, a ∈ IZ l ↔ a ∈ l
  | [] => Iff.rfl
  | b :: l => by
    have ih := GX (a := a) (l := l)
    unfold IZ
    split
    · rename_i h
      rw [ih, List.mem_cons]
      refine ⟨.inr, fun h2 => ?_⟩
      rcases h2 with rfl | h2
      · exact GX.1 h
      · exact h2
    · rw [List.mem_cons, List.mem_cons, ih]
theorem Gc : ∀ l : List Nat, (IZ l).Nodup
  | [] => List.nodup_nil
  | b :: l => by
    unfold IZ
    split
    · exact Gc l
    · rename_i h
      exact List.nodup_cons.2 ⟨h, Gc l⟩
def JQ (w : World) (g : Nat) : RowT := (g, none, match w.heap[g]? with | some (.cells C e f) => Kf C e f | _ => #[])
def TG (w : World) (gs : List Nat) : Ass := fun rs => rs = (IZ gs).map (JQ w)
def Ey (w : World) (g : Nat) : Prop := ∃ C e f, w.heap[g]? = some (.cells C e f)
theorem TH {C C' : Array Value} {e e' : TypeId} {f f' : Nat × Nat} (h : Kf C e f = Kf C' e' f') : C = C' ∧ e = e' ∧ f = f' := by
  obtain ⟨f1, f2⟩ := f
  obtain ⟨g1, g2⟩ := f'
  unfold Kf at h
  simp at h
  obtain ⟨h1, h2, h3, h4⟩ := h
  refine ⟨h1, ?_, ?_⟩
  · first | exact h2 | exact Int.ofNat.inj h2 | omega
  · rw [show f1 = g1 by first | exact h3 | omega, show f2 = g2 by first | exact h4 | omega]
theorem VA {w w' : World} {g : Nat} (hc : Ey w g) (h : CH w' (JQ w g)) : w'.heap[g]? = w.heap[g]? := by
  obtain ⟨C, e, f, hw⟩ := hc
  unfold JQ at h
  rw [hw] at h
  rcases h with ⟨es, c, _, h2⟩ | ⟨b, s, seen, c, _, h2⟩ | ⟨C', e', f', h1, h2⟩
  · unfold Kf E7 at h2
    simp at h2
  · unfold Kf D4 at h2
    simp at h2
  · obtain ⟨rfl, rfl, rfl⟩ := TH h2
    rw [hw]; exact h1
theorem VB {w : World} {g : Nat} (hc : Ey w g) : CH w (JQ w g) := by
 obtain ⟨C, e, f, hw⟩ := hc
 unfold JQ
 rw [hw]
 exact .inr (.inr ⟨C, e, f, hw, rfl⟩)
theorem N4 {w : World} {a : Addr} {x : Value} (h : w.cell? a = some x) : Ey w a.block := by
  unfold World.cell? at h
  split at h
  · rename_i c e f hc
    exact ⟨c, e, f, hc⟩
  · cases h
theorem Qz {w w' : World} {a : Addr} (h : w'.heap[a.block]? = w.heap[a.block]?) : w'.cell? a = w.cell? a := by
 unfold World.cell?
 rw [h]
theorem RL {w : World} {k : Nat} {v : Value} {m : Nat} {ys : List Value} (h : Di w k v m ys) : ∃ gs : List Nat, (∀ g ∈ gs, Ey w g) ∧ ∀ w' : World, (∀ g ∈ gs, w'.heap[g]? = w.heap[g]?) → Di w' k v m ys := by
  obtain ⟨h1, A, c, e, h2⟩ := h
  rcases h2 with h2 | ⟨a, ha, h2⟩
  · exact ⟨[], (fun _ h => nomatch h), fun w' _ => ⟨h1, A, c, e, .inl h2⟩⟩
  · cases ys with
    | nil => exact ⟨[], (fun _ h => nomatch h), fun w' _ => ⟨h1, A, c, e, .inr ⟨a, ha, fun j x hx => by simp at hx⟩⟩⟩
    | cons y ys =>
      have h3 := N4 (h2 0 y rfl)
      refine ⟨[(a.add 0).block], fun g hg => by rw [List.mem_singleton.1 hg]; exact h3, fun w' hw => ⟨h1, A, c, e, .inr ⟨a, ha, fun j x hx => ?_⟩⟩⟩
      have hb : (a.add j).block = (a.add 0).block := by unfold Addr.add; split <;> rfl
      exact (Qz (by rw [hb]; exact hw _ (List.mem_singleton.2 rfl))).trans (h2 j x hx)
theorem RM {w : World} {v : Value} {l : List UInt8} (h : EQ w v l) : ∃ gs : List Nat, (∀ g ∈ gs, Ey w g) ∧ ∀ w' : World, (∀ g ∈ gs, w'.heap[g]? = w.heap[g]?) → EQ w' v l := by
  obtain ⟨A, c, e, h1, h2, h3⟩ := h
  cases l with
  | nil => exact ⟨[], (fun _ h => nomatch h), fun w' _ => ⟨A, c, e, h1, h2, fun h => absurd h (by simp)⟩⟩
  | cons y ys =>
    obtain ⟨g, o, hA, _, h4⟩ := h3 (by simp)
    have h5 := N4 (h4 0 y rfl)
    refine ⟨[g], fun k hk => by rw [List.mem_singleton.1 hk]; exact h5, fun w' hw => ⟨A, c, e, h1, h2, fun _ => ⟨g, o, hA, trivial, fun j b hb => ?_⟩⟩⟩
    rw [Qz (a := ⟨g, o + j, none⟩) (hw g (List.mem_singleton.2 rfl))]
    exact h4 j b hb
theorem JA {w w' : World} {gs : List Nat} (hc : ∀ g ∈ gs, Ey w g) {rs : List RowT} (h : TG w gs rs) (hr : RowsOf w' rs) : ∀ g ∈ gs, w'.heap[g]? = w.heap[g]? := fun g hg => by
 obtain rfl : rs = _ := h
 exact VA (hc g hg) (hr.mem _ (List.mem_map.2 ⟨g, GX.2 hg, rfl⟩))
theorem UD {w : World} {gs : List Nat} (hc : ∀ g ∈ gs, Ey w g) {α : Type} {k : Nat} {enc : α → List Value} {v : Value} {m : List α} (h : ∀ w' : World, (∀ g ∈ gs, w'.heap[g]? = w.heap[g]?) → Di w' k v m.length (flat enc m)) : Rd (TG w gs) k enc v m := fun _ w' h1 h2 => h w' (JA hc h1 h2)
theorem TI {w : World} {gs : List Nat} (hc : ∀ g ∈ gs, Ey w g) {v : Value} {l : List UInt8} (h : ∀ w' : World, (∀ g ∈ gs, w'.heap[g]? = w.heap[g]?) → EQ w' v l) : Cw (TG w gs) v l := fun _ w' h1 h2 => h w' (JA hc h1 h2)
theorem PB {P : Program} {F : FuncId} {args : Array Value} {val : Value} {w : World} {gs : List Nat} (hc : ∀ g ∈ gs, Ey w g) (h : AS P F args [TG w gs] (fun _ : Unit => val) (fun _ => [TG w gs])) : Calls P F args w fun e w' => e = .returned val ∧ Below w.heap.size w w' := by
  have hd : Bd ((IZ gs).map (JQ w)) := Bi.2 (by
    rw [List.map_map]
    have : ((fun x : RowT => x.1) ∘ JQ w) = id := rfl
    first
      | (rw [this, List.map_id]; exact Gc gs)
      | (simpa [Function.comp_def, JQ] using Gc gs))
  refine (h w _ (Al.one rfl) (AN.2 fun x hx => ?_) hd).mono ?_
  · obtain ⟨g, hg, rfl⟩ := List.mem_map.1 hx
    exact VB (hc g (GX.1 hg))
  · rintro e w' ⟨_, he, rs', hp, hch⟩
    have hrs := hp.one'
    refine ⟨he, hch.mod.os, hch.mod.tape, hch.mod.output, hch.mod.size, fun k hk => ?_⟩
    cases Classical.em (k ∈ gs) with
    | inl hk2 => exact JA hc hrs hch.rows k hk2
    | inr hk2 =>
      refine hch.mod.block k hk ?_
      rintro ⟨x, hx, rfl⟩
      obtain ⟨g, hg, rfl⟩ := List.mem_map.1 hx
      exact hk2 (GX.1 hg)
theorem calls_arg2 {P : Program} {F : FuncId} {args : Array Value} {val : Value} {w : World} {α : Type} {k : Nat} {enc : α → List Value} {v0 v1 : Value} {b : List UInt8} {l : List α} (h0 : EQ w v0 b) (h1 : Di w k v1 l.length (flat enc l)) (h : ∀ X : Ass, Cw X v0 b → Rd X k enc v1 l → AS P F args [X] (fun _ : Unit => val) (fun _ => [X])) : Calls P F args w fun e w' => e = .returned val ∧ Below w.heap.size w w' := by
 obtain ⟨g0, hc0, r0⟩ := RM h0
 obtain ⟨g1, hc1, r1⟩ := RL h1
 have hc : ∀ g ∈ g0 ++ g1, Ey w g := fun g hg => (List.mem_append.1 hg).elim (hc0 g) (hc1 g)
 exact PB hc (h _ (TI hc fun w' hw => r0 w' fun g hg => hw g (List.mem_append.2 (.inl hg))) (UD hc fun w' hw => r1 w' fun g hg => hw g (List.mem_append.2 (.inr hg))))
end Go.Proofs.YtnknboibmifacaaGreat.Sep
namespace Go.Proofs.YtnknboibmifacaaGreat.Sep
open Go.RowKit
open Go.Proofs.YtnknboibmifacaaGreat.Mem (Bd Cj Chg AF)
theorem I0 (L : List RFl) : PlayOk 1048576 0 (EG 1048576 L) ∧ (AI (EG 1048576 L).syn).Nodup ∧ Fe (EG 1048576 L).syn (EG 1048576 L).wait := by
 have h := N2 (room := 1048576) (by decide) (L.take 20)
 have hr : (EG 1048576 L).room = 1048576 := h.rm
 refine ⟨⟨by rw [hr]; decide, ?_, Nat.le_refl _⟩, h.nd, trivial⟩
 show AE (C8 1048576 (L.take 20)).now + 0 ≤ 1048576
 have := h.le
 omega
theorem PC {V X : Ass} {A : Option Addr} {c : Nat} {xd : List UInt8} (hx : Cw V (.slice A xd.length c) xd) (hl : xd.length ≤ 140737488355328) : ∀ y : RFl, y ∈ [(⟨hardN, A, c, xd⟩ : RFl)] → Cw (Cv [V, X]) y.v y.d ∧ y.d.length ≤ 140737488355328 ∧ y.n.length ≤ 9223372036854775807 := fun y hy => by
 rw [List.mem_singleton.1 hy]
 exact ⟨IW hx, hl, by show hardN.length ≤ _; decide⟩
theorem TJ {V X : Ass} {A A0 : Option Addr} {c c0 : Nat} {xd b : List UInt8} (hx : Cw V (.slice A xd.length c) xd) (hl : xd.length ≤ 140737488355328) (hb : Cw X (.slice A0 b.length c0) b) (hbl : b.length ≤ 140737488355328) : ∀ y : RFl, y ∈ [(⟨hardN, A, c, xd⟩ : RFl)] ++ [(⟨newN, A0, c0, b⟩ : RFl)] → Cw (Cv [V, X]) y.v y.d ∧ y.d.length ≤ 140737488355328 ∧ y.n.length ≤ 9223372036854775807 := fun y hy => by
  rcases List.mem_append.1 hy with hy | hy
  · exact PC hx hl y hy
  · rw [List.mem_singleton.1 hy]
    exact ⟨Qo hb, hbl, by show newN.length ≤ _; decide⟩
theorem Gd {V X : Ass} : ∀ rs, Cv [V, X] rs → ∃ _ : Unit, Al [V, X] rs := fun _ h => ⟨(), h⟩
theorem N5 {X : Ass} {v : Value} {y r : List UInt8} (hX : Cw X v y) (hl : y.length ≤ 140737488351232) (hr : Be y = r) : AS Tryz.prog 19 #[v] [X] (fun v : Value => v) (fun v => [X, Ao 5 1 encB v r]) := fun w rs h1 h2 h3 => by
 have hXr := Al.one' h1
 obtain ⟨A0, c0, rfl, _⟩ := hX rs w hXr h2
 exact Vv hX hl hr w rs h1 h2 h3
theorem L4 (z : Int) : ∃ c : UInt8, IntKind.u8.wrap z = (c.toNat : Int) := ⟨UInt8.ofNat (z % 256).toNat, by
 rw [UInt8.toNat_ofNat']
 have h : IntKind.u8.wrap z = z % 256 := by simp [IntKind.wrap, IntKind.signed, IntKind.bits]
 rw [h]; omega⟩
theorem N6 {X : Ass} {A : Option Addr} {n c k : Nat} {l xd : List UInt8} (h : Cw X (.slice A n c) l) (hn : n = l.length) (hk : k ≤ l.length) (hx : l.take k = xd) : Cw X (.slice A xd.length c) xd := by
 subst hn; subst hx
 exact Ty h hk
theorem L5 (a m : Int) (hm : 0 < m) : ∃ S : Nat, a % m = (S : Int) ∧ (S : Int) < m := by
 have h1 := Int.emod_nonneg a (show m ≠ 0 by omega)
 have h2 := Int.emod_lt_of_pos a hm
 exact ⟨(a % m).toNat, (Int.toNat_of_nonneg h1).symm, by omega⟩
set_option maxRecDepth 100000 in
theorem hardany_does {X : Ass} {A0 : Option Addr} {c0 : Nat} {b : List UInt8} {v1 : Value} {l0 : List (Int × Int)} {cut : Int} {other : Bool} (hX : Cw X (.slice A0 b.length c0) b) (hb9 : b.length ≤ 140737488351232) (hL : Rd X 2 encHv v1 l0) (hl0 : l0.length ≤ 9223372036854775807) (ho0 : ∀ y ∈ l0, Vu y) (hcut : -9223372036854775808 ≤ cut ∧ cut ≤ 9223372036854775807) : AS Tryz.prog 4 #[.slice A0 b.length c0, v1, .int .i64 cut, .bool other] [X] (fun (_ : Unit) => .bool true) (fun (_ : Unit) => [X]) := by
  refine A6 (args := [.slice A0 b.length c0, v1, .int .i64 cut, .bool other]) 108 Tryz.func4 rfl rfl rfl ?_; intro w rs
  refine Ad ?_
  refine Af Ak rfl ?_
  refine Ab (Ad ?_)
  refine Af Ak rfl ?_
  refine Ai (X := Value) (val := fun v : Value => v) (post := fun xv0 => [Ao 5 1 encB xv0 ([]), X]) rfl (by refine D7 (e := 5) (t := 48) (k := 1) (enc := encB) ?_ ?_; exact AC; exact rfl) ?_; rintro xv0
  refine Af Ak rfl ?_
  refine Ab (Aq (Ad ?_))
  refine Af Ak rfl ?_
  refine Ab (AX ?_)
  refine CE (α := Nat × Value × List UInt8) (fun ⟨k, xv, xl⟩ => [(0, .slice A0 b.length c0), (1, v1), (2, .int .i64 cut), (3, .bool other), (8, .bool false), (9, xv), (10, .int .i64 ((k : Nat) : Int))]) (fun ⟨k, xv, xl⟩ => [Ao 5 1 encB xv xl, X]) (fun ⟨k, xv, xl⟩ => k ≤ l0.length ∧ k ≤ 30 ∧ xl.length ≤ k * 10) (fun ⟨k, xv, xl⟩ => l0.length - k) (0, xv0, []) ⟨Nat.zero_le _, Nat.zero_le _, Nat.le_refl _⟩ ⟨rfl, rfl, rfl, rfl, rfl, rfl, rfl, trivial⟩ rfl ?_
  rintro ⟨k, xv, xl⟩ hJ
  refine Bo.at_ (env' := [(0, .slice A0 b.length c0), (1, v1), (2, .int .i64 cut), (3, .bool other), (8, .bool false), (9, xv), (10, .int .i64 ((k : Nat) : Int))]) (rs' := [Ao 5 1 encB xv xl, X]) ⟨rfl, rfl, rfl, rfl, rfl, rfl, rfl, trivial⟩ rfl ?_
  obtain ⟨hJ1, hJ2, hJ3⟩ := hJ
  refine Aq ?_
  have hc : (k < l0.length ∧ k < 30) ∨ (k < l0.length ∧ 30 ≤ k) ∨ l0.length ≤ k := by omega
  rcases hc with ⟨hk1, hk2⟩ | ⟨hk1, hk2⟩ | hk1
  · skip
    obtain ⟨z, hz⟩ : ∃ z, l0[k]? = some z := ⟨_, List.getElem?_eq_getElem hk1⟩
    obtain ⟨⟨hz1, hz2⟩, hz3⟩ := ho0 z (List.mem_of_getElem? hz)
    obtain ⟨m, hm⟩ : ∃ m, z.2 % 9 = m := ⟨_, rfl⟩
    obtain ⟨ta, hta⟩ := L4 (z.1 % 128)
    obtain ⟨tv, htv⟩ := L4 m
    have hfz := D1 (x := [ta, tv]) (by simp only [List.length_cons, List.length_nil]; omega)
    simp only [List.length_cons, List.length_nil] at hfz
    refine Ad ?_
    refine Af Ak rfl ?_
    refine Ac rfl (.int .i64 (l0.length : Int)) (fun b w hb hH => AQ ((hH.rd 1 rfl hL)) Tryz.underlying49 rfl rfl hb) ?_
    refine Ac rfl (.bool true) (fun b w hb hH => Bh rfl rfl rfl (Bl (by omega)) hb) ?_
    refine Af Ak rfl ?_
    refine Ac rfl (.bool true) (fun b w hb hH => Bh rfl rfl rfl (Bl (by omega)) hb) ?_
    refine Af Ak rfl ?_
    refine Ab (AD rfl (Ax (AG (Aq (AX (Ad ?_))))))
    refine Af Ak rfl ?_
    refine Ac rfl (Cc v1 (k * 2)) (fun b w hb hH => BA Ps ((hH.rd 1 rfl hL)) GO (j := k) hz rfl rfl rfl hb) ?_
    refine Ac rfl (Cc v1 (k * 2 + 0)) (fun b w hb hH => Lf Ps (by decide) ((hH.rd 1 rfl hL)) (j := k) hz Ew rfl rfl hb) ?_
    refine Ac rfl (.int .u64 z.1) (fun b w hb hH => Bp Ps (by decide) ((hH.rd 1 rfl hL)) (j := k) hz E1 (off := 0) rfl rfl rfl hb) ?_
    refine Ac rfl (.int .u64 (z.1 % 128)) (fun b w hb hH => Jh rfl rfl rfl (by decide) (Rw hz1) hb) ?_
    refine Ac rfl (.int .u8 (ta.toNat : Int)) (fun b w hb hH => AO Tryz.underlying29 Tryz.underlying5 hta rfl rfl hb) ?_
    refine Af Ak rfl ?_
    refine Ab (BI ?_)
    refine Af Ak rfl ?_
    refine Ac rfl (Cc v1 (k * 2)) (fun b w hb hH => BA Ps ((hH.rd 1 rfl hL)) GO (j := k) hz rfl rfl rfl hb) ?_
    refine Ac rfl (Cc v1 (k * 2 + 1)) (fun b w hb hH => Lf Ps (by decide) ((hH.rd 1 rfl hL)) (j := k) hz Ex rfl rfl hb) ?_
    refine Ac rfl (.int .i64 z.2) (fun b w hb hH => Bp Ps (by decide) ((hH.rd 1 rfl hL)) (j := k) hz Bj (off := 1) rfl rfl rfl hb) ?_
    refine Ai (post := fun _ => [Ao 5 1 encB xv xl, X]) rfl (BQ (Ah Tryz.func8 (by kernel_rfl) rfl) (fun w hH => pick w z.2 9 hz3 (by decide) hm) rfl rfl rfl) ?_; rintro ⟨⟩
    refine Ac rfl (.int .u8 (tv.toNat : Int)) (fun b w hb hH => AO Tryz.underlying3 Tryz.underlying5 htv rfl rfl hb) ?_
    refine Ai (X := Value) (val := fun v : Value => v) (post := fun f0v => [Ao 5 1 encB f0v ([ta, tv]), Ao 5 1 encB xv xl, X]) rfl (by exact Si AC ta tv rfl rfl rfl) ?_; rintro f0v
    refine Ai rfl (Am (os' := fun fv9 => [Ao 5 1 encB fv9 (Be [ta, tv]), Ao 5 1 encB f0v ([ta, tv]), Ao 5 1 encB xv xl, X]) [0] 0 (Ah Tryz.func19 (by kernel_rfl) rfl) (N5 CQ (by simp only [List.length_cons, List.length_nil]; omega) rfl) rfl rfl rfl (fun _ => rfl) rfl rfl rfl) ?_; rintro fv9
    refine Ai (post := fun xv2 => [Ao 5 1 encB fv9 (Be [ta, tv]), Ao 5 1 encB f0v ([ta, tv]), Ao 5 1 encB xv2 (xl ++ Be [ta, tv]), X]) rfl (Ca 2 AC (by kernel_rfl) rfl (Be [ta, tv]) (fun w hH => hH.vec 0 rfl EI) (by omega) rfl rfl rfl rfl) ?_; rintro xv2
    refine Af Ak rfl ?_
    refine AP (BJ (AG ?_))
    refine Bo.leave [1, 0] rfl rfl ?_
    refine BI ?_
    refine Af Ak rfl ?_
    refine Ac rfl (.int .i64 ((k + 1 : Nat) : Int)) (fun b w hb hH => AK rfl rfl rfl rfl (by rw [IntWalk.i64_in _ (by omega)]; omega) hb) ?_
    refine Af Ak rfl ?_
    refine AP ?_
    exact Cr (k + 1, xv2, xl ++ Be [ta, tv]) 0 ⟨hk1, hk2, by rw [List.length_append, Nat.succ_mul]; omega⟩ (show l0.length - (k + 1) < l0.length - k by omega) ⟨rfl, rfl, rfl, rfl, rfl, rfl, rfl, trivial⟩ rfl
  · skip
    obtain ⟨x2, hx2⟩ : ∃ x2, xl ++ b = x2 := ⟨_, rfl⟩
    have hx2l : x2.length = xl.length + b.length := by rw [← hx2, List.length_append]
    refine Ad ?_
    refine Af Ak rfl ?_
    refine Ac rfl (.int .i64 (l0.length : Int)) (fun b w hb hH => AQ ((hH.rd 1 rfl hL)) Tryz.underlying49 rfl rfl hb) ?_
    refine Ac rfl (.bool true) (fun b w hb hH => Bh rfl rfl rfl (Bl (by omega)) hb) ?_
    refine Af Ak rfl ?_
    refine Ac rfl (.bool false) (fun b w hb hH => Bh rfl rfl rfl (Bu (by omega)) hb) ?_
    refine Af Ak rfl ?_
    refine Ab (Au rfl (Cu (EO (EO (Bc (AG (Ad ?_)))))))
    refine Af Ak rfl ?_
    refine Ai (post := fun xv2 => [Ao 5 1 encB xv2 x2, X]) rfl (Ca 0 AC (by kernel_rfl) rfl (b) (fun w hH => (hH.rd8 1 rfl hX).rd) (by omega) rfl rfl rfl hx2) ?_; rintro xv2
    refine Af Ak rfl ?_
    refine Ab ?_
    obtain ⟨N, hN⟩ : ∃ N, min x2.length 12 = N := ⟨_, rfl⟩
    have hN2 : N ≤ x2.length := by omega
    obtain ⟨S, hS, hSl⟩ := L5 cut ((N : Int) + 1) (by omega)
    obtain ⟨k9, hk9⟩ : ∃ k9, x2.length - S = k9 := ⟨_, rfl⟩
    have hk9l : k9 ≤ x2.length := by omega
    obtain ⟨xd, hxd⟩ : ∃ xd, x2.take k9 = xd := ⟨_, rfl⟩
    have hxdl : xd.length = k9 := by rw [← hxd, List.length_take]; omega
    refine Bo.fact 0 rfl (fun _ h => Ao.is h) ?_; rintro ⟨A2, c2, rfl⟩
    refine Bo.fact 0 rfl IV ?_; rintro hcap
    refine Bo.keep (env' := [(0, .slice A0 b.length c0), (1, v1), (2, .int .i64 cut), (3, .bool other), (8, .bool false), (10, .int .i64 ((k : Nat) : Int)), (21, .int .i64 ((k : Nat) : Int)), (22, v1), (23, .int .i64 (l0.length : Int)), (24, .bool true), (25, .bool true), (26, .int .i64 ((k : Nat) : Int)), (27, .bool false), (28, .bool false), (50, xv), (51, .slice A0 b.length c0), (52, .slice A2 x2.length c2), (9, .slice A2 x2.length c2)]) ⟨rfl, rfl, rfl, rfl, rfl, rfl, rfl, rfl, rfl, rfl, rfl, rfl, rfl, rfl, rfl, rfl, rfl, rfl, trivial⟩ ?_
    refine Bo.mid [Ao 5 1 encB (.slice A2 x2.length c2) x2, X] (.refl _) ?_
    refine Ad ?_
    refine Af Ak rfl ?_
    refine Ac rfl (.int .i64 (x2.length : Int)) (fun b w hb hH => Gs AC rfl rfl hH hb) ?_
    refine Af Ak rfl ?_
    refine Ac rfl (.int .i64 (x2.length : Int)) (fun b w hb hH => Gs AC rfl rfl hH hb) ?_
    refine Ac rfl (.int .i64 (N : Int)) (fun b w hb hH => BW rfl rfl (fun cs => (fun w cs => MV (by omega) _ _ w cs) w cs) hb) ?_
    refine Ac rfl (.int .i64 ((N : Int) + 1)) (fun b w hb hH => AK rfl rfl rfl rfl (IntWalk.i64_in _ (by omega)) hb) ?_
    refine Ai (post := fun _ => [Ao 5 1 encB (.slice A2 x2.length c2) x2, X]) rfl (BQ (Ah Tryz.func8 (by kernel_rfl) rfl) (fun w hH => pick w cut ((N : Int) + 1) hcut (by omega) hS) rfl rfl rfl) ?_; rintro ⟨⟩
    refine Ac rfl (.int .i64 (xd.length : Int)) (fun b w hb hH => AK rfl rfl rfl rfl (by rw [IntWalk.i64_in _ (by omega)]; omega) hb) ?_
    refine Ac rfl (.slice A2 xd.length c2) (fun b w hb hH => Gr (j := xd.length) AC LT (by omega) rfl rfl rfl hH hb) ?_
    refine Af Ak rfl ?_
    refine Ab ?_
    have hxr : Cw (Ao 5 1 encB (.slice A2 x2.length c2) x2) (.slice A2 xd.length c2) xd := N6 CQ rfl hk9l hxd
    have hxr1 : xd.length ≤ 140737488355328 := by omega
    refine Ad ?_
    refine Af Ak rfl ?_
    refine Ac rfl (.agg #[.string (bs ([104, 97, 114, 100])), .slice A2 xd.length c2]) (fun b w hb hH => AV rfl rfl (by kernel_rfl) hb) ?_
    refine Ai (X := Value) (val := fun v : Value => v) (post := fun fv => [Ao 52 2 encRF fv ([(⟨hardN, A2, c2, xd⟩ : RFl)]), Ao 5 1 encB (.slice A2 x2.length c2) x2, X]) rfl (by refine Ec (e := 52) (t := 53) (k := 2) (enc := encRF) (x := .tmp 65) (c := .agg #[.string (bs ([104, 97, 114, 100])), .slice A2 xd.length c2]) ?_ ?_ ?_ (⟨hardN, A2, c2, xd⟩ : RFl) ?_ ?_ ?_; exact Ar; exact (by decide); exact BH; exact rfl; exact rfl; exact rfl) ?_; rintro fv
    refine Af Ak rfl ?_
    refine Ab (Aq ?_)
    cases other
    · skip
      refine Ad ?_
      refine Af Ak rfl ?_
      refine Ab (Au rfl (Ax (AG ?_)))
      obtain ⟨d1, hd1⟩ : ∃ d1, EG 1048576 ([(⟨hardN, A2, c2, xd⟩ : RFl)]) = d1 := ⟨_, rfl⟩
      have hP := I0 ([(⟨hardN, A2, c2, xd⟩ : RFl)])
      rw [hd1] at hP
      obtain ⟨hK1, hnd1, hok1⟩ := hP
      obtain ⟨⟨d2, z, e2⟩, hop⟩ : ∃ R, C5 d1 = R := ⟨_, rfl⟩
      have hKE : PlayOk 1048576 2 d2 := by have h9 := hK1.openH; rw [hop] at h9; exact h9
      have hrd : ∀ b, (BB (Bb d1).1 hardN).getD [] = b → b.length ≤ 137438953472 := fun b hb => Kb hK1 (by omega) hnd1 hok1 hb
      have hfE := (hKE.fitK (k := 9) (by omega) (by omega)).fit
      refine Bf [1, 2] rfl (fun _ h => h) rfl ?_
      refine Ad ?_
      refine Af Ak rfl ?_
      refine Ai rfl (Am  [1, 0] 0 (Ah Tryz.func5 (by kernel_rfl) rfl) ((hd1 ▸ Ho (by decide) Cq (by simp only [List.length_append, List.length_cons, List.length_nil]; omega) (PC hxr hxr1))) rfl rfl rfl (fun _ => rfl) rfl rfl rfl) ?_; rintro ⟨p, q⟩
      refine Af Ak rfl ?_
      refine Ab (Aq (Ad ?_))
      refine Af Ak rfl ?_
      refine Ai (post := fun _ => [Ap p d1, AA q d1, Cv [Ao 5 1 encB (.slice A2 x2.length c2) x2, X], Ao 52 2 encRF fv ([(⟨hardN, A2, c2, xd⟩ : RFl)])]) rfl (BQ (Ah Tryz.func6 (by kernel_rfl) rfl) (fun w hH => Fv w) rfl rfl rfl) ?_; rintro ⟨⟩
      refine Af Ak rfl ?_
      refine Ab ?_
      refine Bo.keep (env' := [(8, .bool false), (13, .pointer (some ⟨p, 0, none⟩)), (14, .pointer (some ⟨q, 0, none⟩)), (84, .bool false)]) ⟨rfl, rfl, rfl, rfl, trivial⟩ ?_
      refine Au rfl (Ax (AG (Ad ?_)))
      refine Af Ak rfl ?_
      refine Ai rfl (Am (os' := fun _ => [Ap p d2, AA q d1, Cv [Ao 5 1 encB (.slice A2 x2.length c2) x2, X], Ao 52 2 encRF fv ([(⟨hardN, A2, c2, xd⟩ : RFl)])]) [0] 0 (Ah Tryz.func11 (by kernel_rfl) rfl) (Es (Cg (hK1.fitK (k := 9) (by omega) (by omega)) (by decide)) hrd hop) rfl rfl rfl (fun _ => rfl) rfl rfl rfl) ?_; rintro ⟨⟩
      refine Af Ak rfl ?_
      refine Ai (post := fun g16 => [cell g16 31 #[.int .u64 0, .int .i64 0], Ap p d2, AA q d1, Cv [Ao 5 1 encB (.slice A2 x2.length c2) x2, X], Ao 52 2 encRF fv ([(⟨hardN, A2, c2, xd⟩ : RFl)])]) rfl (BL Bk rfl) ?_; rintro g16
      refine AT (post := fun _ => [cell g16 31 #[.int .u64 ((z.1 : Nat) : Int), .int .i64 ((z.2 : Nat) : Int)], Ap p d2, AA q d1, Cv [Ao 5 1 encB (.slice A2 x2.length c2) x2, X], Ao 52 2 encRF fv ([(⟨hardN, A2, c2, xd⟩ : RFl)])]) rfl rfl (AM 0 (v := .agg #[.int .u64 ((z.1 : Nat) : Int), .int .i64 ((z.2 : Nat) : Int)]) #[.int .u64 ((z.1 : Nat) : Int), .int .i64 ((z.2 : Nat) : Int)] An.2 rfl rfl rfl rfl rfl rfl rfl rfl rfl) ?_; rintro ⟨⟩
      refine Af Ak rfl ?_
      refine Ab (Ad ?_)
      refine Af Ak rfl ?_
      refine Ai rfl (Am (os' := fun _ => [cell g16 31 #[.int .u64 ((z.1 : Nat) : Int), .int .i64 ((z.2 : Nat) : Int)], Ap p d2, AA q d2, Cv [Ao 5 1 encB (.slice A2 x2.length c2) x2, X], Ao 52 2 encRF fv ([(⟨hardN, A2, c2, xd⟩ : RFl)])]) [2] 0 (Ah Tryz.func12 (by kernel_rfl) rfl) (Gb (Cg (hK1.fitK (k := 9) (by omega) (by omega)) (by decide)) hrd hop) rfl rfl rfl (fun _ => rfl) rfl rfl rfl) ?_; rintro ⟨⟩
      refine Af Ak rfl ?_
      refine Ai (post := fun g18 => [cell g18 31 #[.int .u64 0, .int .i64 0], cell g16 31 #[.int .u64 ((z.1 : Nat) : Int), .int .i64 ((z.2 : Nat) : Int)], Ap p d2, AA q d2, Cv [Ao 5 1 encB (.slice A2 x2.length c2) x2, X], Ao 52 2 encRF fv ([(⟨hardN, A2, c2, xd⟩ : RFl)])]) rfl (BL Bk rfl) ?_; rintro g18
      refine AT (post := fun _ => [cell g18 31 #[.int .u64 ((z.1 : Nat) : Int), .int .i64 ((z.2 : Nat) : Int)], cell g16 31 #[.int .u64 ((z.1 : Nat) : Int), .int .i64 ((z.2 : Nat) : Int)], Ap p d2, AA q d2, Cv [Ao 5 1 encB (.slice A2 x2.length c2) x2, X], Ao 52 2 encRF fv ([(⟨hardN, A2, c2, xd⟩ : RFl)])]) rfl rfl (AM 0 (v := .agg #[.int .u64 ((z.1 : Nat) : Int), .int .i64 ((z.2 : Nat) : Int)]) #[.int .u64 ((z.1 : Nat) : Int), .int .i64 ((z.2 : Nat) : Int)] An.2 rfl rfl rfl rfl rfl rfl rfl rfl rfl) ?_; rintro ⟨⟩
      refine Af Ak rfl ?_
      refine Ab ?_
      refine AY 4 rfl Gd (fun _ => rfl) ?_; rintro ⟨⟩
      refine Ad ?_
      refine Af Ak rfl ?_
      refine Ac rfl (.agg #[.int .u64 ((z.1 : Nat) : Int), .int .i64 ((z.2 : Nat) : Int)]) (fun b w hb hH => Bg rfl rfl (EH (cs := [.int .u64 ((z.1 : Nat) : Int), .int .i64 ((z.2 : Nat) : Int)]) An rfl) (hH.row 3 rfl) hb) ?_
      refine Ac rfl (.agg #[.int .u64 ((z.1 : Nat) : Int), .int .i64 ((z.2 : Nat) : Int)]) (fun b w hb hH => Bg rfl rfl (EH (cs := [.int .u64 ((z.1 : Nat) : Int), .int .i64 ((z.2 : Nat) : Int)]) An rfl) (hH.row 2 rfl) hb) ?_
      refine Ac rfl (.bool true) (fun b w hb hH => FA (Ut z z true (by simp)) rfl rfl rfl hb) ?_
      refine Af Ak rfl ?_
      refine Ac rfl (.bool true) (fun b w hb hH => Bh rfl rfl rfl (Ks rfl) hb) ?_
      refine Af Ak rfl ?_
      refine Ai rfl (Am (os' := fun _ => [Ao 5 1 encB (.slice A2 x2.length c2) x2, X, cell g18 31 #[.int .u64 ((z.1 : Nat) : Int), .int .i64 ((z.2 : Nat) : Int)], cell g16 31 #[.int .u64 ((z.1 : Nat) : Int), .int .i64 ((z.2 : Nat) : Int)], Ap p d2, AA q d2, Ao 52 2 encRF fv ([(⟨hardN, A2, c2, xd⟩ : RFl)])]) [4, 5] 0 (Ah Tryz.func18 (by kernel_rfl) rfl) (Hn hfE) rfl rfl rfl (fun _ => rfl) rfl rfl rfl) ?_; rintro ⟨⟩
      refine Af Ak rfl ?_
      refine Ab (Az ?_)
      exact Ay (.tmp rfl) (fun w h => AB () rfl [1] rfl h Cz) rfl
    · skip
      refine Ad ?_
      refine Af Ak rfl ?_
      refine Ab (AD rfl (BI ?_))
      refine Af Ak rfl ?_
      refine Ac rfl (.agg #[.string (bs ([104, 97, 114, 100, 46, 110, 101, 119])), .slice A0 b.length c0]) (fun b w hb hH => AV rfl rfl (by kernel_rfl) hb) ?_
      refine Ai (X := Value) (val := fun v : Value => v) (post := fun fw => [Ao 52 2 encRF fw ([(⟨newN, A0, c0, b⟩ : RFl)]), Ao 52 2 encRF fv ([(⟨hardN, A2, c2, xd⟩ : RFl)]), Ao 5 1 encB (.slice A2 x2.length c2) x2, X]) rfl (by refine Ec (e := 52) (t := 53) (k := 2) (enc := encRF) (x := .tmp 70) (c := .agg #[.string (bs ([104, 97, 114, 100, 46, 110, 101, 119])), .slice A0 b.length c0]) ?_ ?_ ?_ (⟨newN, A0, c0, b⟩ : RFl) ?_ ?_ ?_; exact Ar; exact (by decide); exact BH; exact rfl; exact rfl; exact rfl) ?_; rintro fw
      refine Ai (post := fun fv => [Ao 52 2 encRF fw ([(⟨newN, A0, c0, b⟩ : RFl)]), Ao 52 2 encRF fv ([(⟨hardN, A2, c2, xd⟩ : RFl)] ++ [(⟨newN, A0, c0, b⟩ : RFl)]), Ao 5 1 encB (.slice A2 x2.length c2) x2, X]) rfl (FG (nb := 40) 1 Ar BH (by kernel_rfl) (by decide) rfl ([(⟨newN, A0, c0, b⟩ : RFl)]) (fun w hH => hH.vec 0 rfl BH) (by simp only [List.length_cons, List.length_nil]; omega) rfl rfl rfl rfl) ?_; rintro fv
      refine Af Ak rfl ?_
      refine AP (AG ?_)
      obtain ⟨d1, hd1⟩ : ∃ d1, EG 1048576 ([(⟨hardN, A2, c2, xd⟩ : RFl)] ++ [(⟨newN, A0, c0, b⟩ : RFl)]) = d1 := ⟨_, rfl⟩
      have hP := I0 ([(⟨hardN, A2, c2, xd⟩ : RFl)] ++ [(⟨newN, A0, c0, b⟩ : RFl)])
      rw [hd1] at hP
      obtain ⟨hK1, hnd1, hok1⟩ := hP
      obtain ⟨⟨d2, z, e2⟩, hop⟩ : ∃ R, C5 d1 = R := ⟨_, rfl⟩
      have hKE : PlayOk 1048576 2 d2 := by have h9 := hK1.openH; rw [hop] at h9; exact h9
      have hrd : ∀ b, (BB (Bb d1).1 hardN).getD [] = b → b.length ≤ 137438953472 := fun b hb => Kb hK1 (by omega) hnd1 hok1 hb
      have hfE := (hKE.fitK (k := 9) (by omega) (by omega)).fit
      refine Bf [2, 3] rfl (fun _ h => h) rfl ?_
      refine Ad ?_
      refine Af Ak rfl ?_
      refine Ai rfl (Am  [2, 0] 0 (Ah Tryz.func5 (by kernel_rfl) rfl) ((hd1 ▸ Ho (by decide) Cq (by simp only [List.length_append, List.length_cons, List.length_nil]; omega) (TJ hxr hxr1 hX (by omega)))) rfl rfl rfl (fun _ => rfl) rfl rfl rfl) ?_; rintro ⟨p, q⟩
      refine Af Ak rfl ?_
      refine Ab ?_
      refine Bo.keep (env' := [(8, .bool false), (13, .pointer (some ⟨p, 0, none⟩)), (14, .pointer (some ⟨q, 0, none⟩)), (15, .bool true)]) ⟨rfl, rfl, rfl, rfl, trivial⟩ ?_
      refine Aq (Ad ?_)
      refine Af Ak rfl ?_
      refine Ai (post := fun _ => [Ap p d1, AA q d1, Cv [Ao 5 1 encB (.slice A2 x2.length c2) x2, X], Ao 52 2 encRF fw ([(⟨newN, A0, c0, b⟩ : RFl)]), Ao 52 2 encRF fv ([(⟨hardN, A2, c2, xd⟩ : RFl)] ++ [(⟨newN, A0, c0, b⟩ : RFl)])]) rfl (BQ (Ah Tryz.func6 (by kernel_rfl) rfl) (fun w hH => Fv w) rfl rfl rfl) ?_; rintro ⟨⟩
      refine Af Ak rfl ?_
      refine Ab (Au rfl (Ax (AG (Ad ?_))))
      refine Af Ak rfl ?_
      refine Ai rfl (Am (os' := fun _ => [Ap p d2, AA q d1, Cv [Ao 5 1 encB (.slice A2 x2.length c2) x2, X], Ao 52 2 encRF fw ([(⟨newN, A0, c0, b⟩ : RFl)]), Ao 52 2 encRF fv ([(⟨hardN, A2, c2, xd⟩ : RFl)] ++ [(⟨newN, A0, c0, b⟩ : RFl)])]) [0] 0 (Ah Tryz.func11 (by kernel_rfl) rfl) (Es (Cg (hK1.fitK (k := 9) (by omega) (by omega)) (by decide)) hrd hop) rfl rfl rfl (fun _ => rfl) rfl rfl rfl) ?_; rintro ⟨⟩
      refine Af Ak rfl ?_
      refine Ai (post := fun g16 => [cell g16 31 #[.int .u64 0, .int .i64 0], Ap p d2, AA q d1, Cv [Ao 5 1 encB (.slice A2 x2.length c2) x2, X], Ao 52 2 encRF fw ([(⟨newN, A0, c0, b⟩ : RFl)]), Ao 52 2 encRF fv ([(⟨hardN, A2, c2, xd⟩ : RFl)] ++ [(⟨newN, A0, c0, b⟩ : RFl)])]) rfl (BL Bk rfl) ?_; rintro g16
      refine AT (post := fun _ => [cell g16 31 #[.int .u64 ((z.1 : Nat) : Int), .int .i64 ((z.2 : Nat) : Int)], Ap p d2, AA q d1, Cv [Ao 5 1 encB (.slice A2 x2.length c2) x2, X], Ao 52 2 encRF fw ([(⟨newN, A0, c0, b⟩ : RFl)]), Ao 52 2 encRF fv ([(⟨hardN, A2, c2, xd⟩ : RFl)] ++ [(⟨newN, A0, c0, b⟩ : RFl)])]) rfl rfl (AM 0 (v := .agg #[.int .u64 ((z.1 : Nat) : Int), .int .i64 ((z.2 : Nat) : Int)]) #[.int .u64 ((z.1 : Nat) : Int), .int .i64 ((z.2 : Nat) : Int)] An.2 rfl rfl rfl rfl rfl rfl rfl rfl rfl) ?_; rintro ⟨⟩
      refine Af Ak rfl ?_
      refine Ab (Ad ?_)
      refine Af Ak rfl ?_
      refine Ai rfl (Am (os' := fun _ => [cell g16 31 #[.int .u64 ((z.1 : Nat) : Int), .int .i64 ((z.2 : Nat) : Int)], Ap p d2, AA q d2, Cv [Ao 5 1 encB (.slice A2 x2.length c2) x2, X], Ao 52 2 encRF fw ([(⟨newN, A0, c0, b⟩ : RFl)]), Ao 52 2 encRF fv ([(⟨hardN, A2, c2, xd⟩ : RFl)] ++ [(⟨newN, A0, c0, b⟩ : RFl)])]) [2] 0 (Ah Tryz.func12 (by kernel_rfl) rfl) (Gb (Cg (hK1.fitK (k := 9) (by omega) (by omega)) (by decide)) hrd hop) rfl rfl rfl (fun _ => rfl) rfl rfl rfl) ?_; rintro ⟨⟩
      refine Af Ak rfl ?_
      refine Ai (post := fun g18 => [cell g18 31 #[.int .u64 0, .int .i64 0], cell g16 31 #[.int .u64 ((z.1 : Nat) : Int), .int .i64 ((z.2 : Nat) : Int)], Ap p d2, AA q d2, Cv [Ao 5 1 encB (.slice A2 x2.length c2) x2, X], Ao 52 2 encRF fw ([(⟨newN, A0, c0, b⟩ : RFl)]), Ao 52 2 encRF fv ([(⟨hardN, A2, c2, xd⟩ : RFl)] ++ [(⟨newN, A0, c0, b⟩ : RFl)])]) rfl (BL Bk rfl) ?_; rintro g18
      refine AT (post := fun _ => [cell g18 31 #[.int .u64 ((z.1 : Nat) : Int), .int .i64 ((z.2 : Nat) : Int)], cell g16 31 #[.int .u64 ((z.1 : Nat) : Int), .int .i64 ((z.2 : Nat) : Int)], Ap p d2, AA q d2, Cv [Ao 5 1 encB (.slice A2 x2.length c2) x2, X], Ao 52 2 encRF fw ([(⟨newN, A0, c0, b⟩ : RFl)]), Ao 52 2 encRF fv ([(⟨hardN, A2, c2, xd⟩ : RFl)] ++ [(⟨newN, A0, c0, b⟩ : RFl)])]) rfl rfl (AM 0 (v := .agg #[.int .u64 ((z.1 : Nat) : Int), .int .i64 ((z.2 : Nat) : Int)]) #[.int .u64 ((z.1 : Nat) : Int), .int .i64 ((z.2 : Nat) : Int)] An.2 rfl rfl rfl rfl rfl rfl rfl rfl rfl) ?_; rintro ⟨⟩
      refine Af Ak rfl ?_
      refine Ab ?_
      refine AY 4 rfl Gd (fun _ => rfl) ?_; rintro ⟨⟩
      refine Ad ?_
      refine Af Ak rfl ?_
      refine Ac rfl (.agg #[.int .u64 ((z.1 : Nat) : Int), .int .i64 ((z.2 : Nat) : Int)]) (fun b w hb hH => Bg rfl rfl (EH (cs := [.int .u64 ((z.1 : Nat) : Int), .int .i64 ((z.2 : Nat) : Int)]) An rfl) (hH.row 3 rfl) hb) ?_
      refine Ac rfl (.agg #[.int .u64 ((z.1 : Nat) : Int), .int .i64 ((z.2 : Nat) : Int)]) (fun b w hb hH => Bg rfl rfl (EH (cs := [.int .u64 ((z.1 : Nat) : Int), .int .i64 ((z.2 : Nat) : Int)]) An rfl) (hH.row 2 rfl) hb) ?_
      refine Ac rfl (.bool true) (fun b w hb hH => FA (Ut z z true (by simp)) rfl rfl rfl hb) ?_
      refine Af Ak rfl ?_
      refine Ac rfl (.bool true) (fun b w hb hH => Bh rfl rfl rfl (Ks rfl) hb) ?_
      refine Af Ak rfl ?_
      refine Ai rfl (Am (os' := fun _ => [Ao 5 1 encB (.slice A2 x2.length c2) x2, X, cell g18 31 #[.int .u64 ((z.1 : Nat) : Int), .int .i64 ((z.2 : Nat) : Int)], cell g16 31 #[.int .u64 ((z.1 : Nat) : Int), .int .i64 ((z.2 : Nat) : Int)], Ap p d2, AA q d2, Ao 52 2 encRF fw ([(⟨newN, A0, c0, b⟩ : RFl)]), Ao 52 2 encRF fv ([(⟨hardN, A2, c2, xd⟩ : RFl)] ++ [(⟨newN, A0, c0, b⟩ : RFl)])]) [4, 5] 0 (Ah Tryz.func18 (by kernel_rfl) rfl) (Hn hfE) rfl rfl rfl (fun _ => rfl) rfl rfl rfl) ?_; rintro ⟨⟩
      refine Af Ak rfl ?_
      refine Ab (Az ?_)
      exact Ay (.tmp rfl) (fun w h => AB () rfl [1] rfl h Cz) rfl
  · skip
    obtain ⟨x2, hx2⟩ : ∃ x2, xl ++ b = x2 := ⟨_, rfl⟩
    have hx2l : x2.length = xl.length + b.length := by rw [← hx2, List.length_append]
    refine Ad ?_
    refine Af Ak rfl ?_
    refine Ac rfl (.int .i64 (l0.length : Int)) (fun b w hb hH => AQ ((hH.rd 1 rfl hL)) Tryz.underlying49 rfl rfl hb) ?_
    refine Ac rfl (.bool false) (fun b w hb hH => Bh rfl rfl rfl (Bu (by omega)) hb) ?_
    refine Af Ak rfl ?_
    refine Ab (Au rfl (Cu (EO (EO (Bc (AG (Ad ?_)))))))
    refine Af Ak rfl ?_
    refine Ai (post := fun xv2 => [Ao 5 1 encB xv2 x2, X]) rfl (Ca 0 AC (by kernel_rfl) rfl (b) (fun w hH => (hH.rd8 1 rfl hX).rd) (by omega) rfl rfl rfl hx2) ?_; rintro xv2
    refine Af Ak rfl ?_
    refine Ab ?_
    obtain ⟨N, hN⟩ : ∃ N, min x2.length 12 = N := ⟨_, rfl⟩
    have hN2 : N ≤ x2.length := by omega
    obtain ⟨S, hS, hSl⟩ := L5 cut ((N : Int) + 1) (by omega)
    obtain ⟨k9, hk9⟩ : ∃ k9, x2.length - S = k9 := ⟨_, rfl⟩
    have hk9l : k9 ≤ x2.length := by omega
    obtain ⟨xd, hxd⟩ : ∃ xd, x2.take k9 = xd := ⟨_, rfl⟩
    have hxdl : xd.length = k9 := by rw [← hxd, List.length_take]; omega
    refine Bo.fact 0 rfl (fun _ h => Ao.is h) ?_; rintro ⟨A2, c2, rfl⟩
    refine Bo.fact 0 rfl IV ?_; rintro hcap
    refine Bo.keep (env' := [(0, .slice A0 b.length c0), (1, v1), (2, .int .i64 cut), (3, .bool other), (8, .bool false), (10, .int .i64 ((k : Nat) : Int)), (21, .int .i64 ((k : Nat) : Int)), (22, v1), (23, .int .i64 (l0.length : Int)), (24, .bool false), (25, .bool false), (26, undef), (27, undef), (28, .bool false), (50, xv), (51, .slice A0 b.length c0), (52, .slice A2 x2.length c2), (9, .slice A2 x2.length c2)]) ⟨rfl, rfl, rfl, rfl, rfl, rfl, rfl, rfl, rfl, rfl, rfl, rfl, rfl, rfl, rfl, rfl, rfl, rfl, trivial⟩ ?_
    refine Bo.mid [Ao 5 1 encB (.slice A2 x2.length c2) x2, X] (.refl _) ?_
    refine Ad ?_
    refine Af Ak rfl ?_
    refine Ac rfl (.int .i64 (x2.length : Int)) (fun b w hb hH => Gs AC rfl rfl hH hb) ?_
    refine Af Ak rfl ?_
    refine Ac rfl (.int .i64 (x2.length : Int)) (fun b w hb hH => Gs AC rfl rfl hH hb) ?_
    refine Ac rfl (.int .i64 (N : Int)) (fun b w hb hH => BW rfl rfl (fun cs => (fun w cs => MV (by omega) _ _ w cs) w cs) hb) ?_
    refine Ac rfl (.int .i64 ((N : Int) + 1)) (fun b w hb hH => AK rfl rfl rfl rfl (IntWalk.i64_in _ (by omega)) hb) ?_
    refine Ai (post := fun _ => [Ao 5 1 encB (.slice A2 x2.length c2) x2, X]) rfl (BQ (Ah Tryz.func8 (by kernel_rfl) rfl) (fun w hH => pick w cut ((N : Int) + 1) hcut (by omega) hS) rfl rfl rfl) ?_; rintro ⟨⟩
    refine Ac rfl (.int .i64 (xd.length : Int)) (fun b w hb hH => AK rfl rfl rfl rfl (by rw [IntWalk.i64_in _ (by omega)]; omega) hb) ?_
    refine Ac rfl (.slice A2 xd.length c2) (fun b w hb hH => Gr (j := xd.length) AC LT (by omega) rfl rfl rfl hH hb) ?_
    refine Af Ak rfl ?_
    refine Ab ?_
    have hxr : Cw (Ao 5 1 encB (.slice A2 x2.length c2) x2) (.slice A2 xd.length c2) xd := N6 CQ rfl hk9l hxd
    have hxr1 : xd.length ≤ 140737488355328 := by omega
    refine Ad ?_
    refine Af Ak rfl ?_
    refine Ac rfl (.agg #[.string (bs ([104, 97, 114, 100])), .slice A2 xd.length c2]) (fun b w hb hH => AV rfl rfl (by kernel_rfl) hb) ?_
    refine Ai (X := Value) (val := fun v : Value => v) (post := fun fv => [Ao 52 2 encRF fv ([(⟨hardN, A2, c2, xd⟩ : RFl)]), Ao 5 1 encB (.slice A2 x2.length c2) x2, X]) rfl (by refine Ec (e := 52) (t := 53) (k := 2) (enc := encRF) (x := .tmp 65) (c := .agg #[.string (bs ([104, 97, 114, 100])), .slice A2 xd.length c2]) ?_ ?_ ?_ (⟨hardN, A2, c2, xd⟩ : RFl) ?_ ?_ ?_; exact Ar; exact (by decide); exact BH; exact rfl; exact rfl; exact rfl) ?_; rintro fv
    refine Af Ak rfl ?_
    refine Ab (Aq ?_)
    cases other
    · skip
      refine Ad ?_
      refine Af Ak rfl ?_
      refine Ab (Au rfl (Ax (AG ?_)))
      obtain ⟨d1, hd1⟩ : ∃ d1, EG 1048576 ([(⟨hardN, A2, c2, xd⟩ : RFl)]) = d1 := ⟨_, rfl⟩
      have hP := I0 ([(⟨hardN, A2, c2, xd⟩ : RFl)])
      rw [hd1] at hP
      obtain ⟨hK1, hnd1, hok1⟩ := hP
      obtain ⟨⟨d2, z, e2⟩, hop⟩ : ∃ R, C5 d1 = R := ⟨_, rfl⟩
      have hKE : PlayOk 1048576 2 d2 := by have h9 := hK1.openH; rw [hop] at h9; exact h9
      have hrd : ∀ b, (BB (Bb d1).1 hardN).getD [] = b → b.length ≤ 137438953472 := fun b hb => Kb hK1 (by omega) hnd1 hok1 hb
      have hfE := (hKE.fitK (k := 9) (by omega) (by omega)).fit
      refine Bf [1, 2] rfl (fun _ h => h) rfl ?_
      refine Ad ?_
      refine Af Ak rfl ?_
      refine Ai rfl (Am  [1, 0] 0 (Ah Tryz.func5 (by kernel_rfl) rfl) ((hd1 ▸ Ho (by decide) Cq (by simp only [List.length_append, List.length_cons, List.length_nil]; omega) (PC hxr hxr1))) rfl rfl rfl (fun _ => rfl) rfl rfl rfl) ?_; rintro ⟨p, q⟩
      refine Af Ak rfl ?_
      refine Ab (Aq (Ad ?_))
      refine Af Ak rfl ?_
      refine Ai (post := fun _ => [Ap p d1, AA q d1, Cv [Ao 5 1 encB (.slice A2 x2.length c2) x2, X], Ao 52 2 encRF fv ([(⟨hardN, A2, c2, xd⟩ : RFl)])]) rfl (BQ (Ah Tryz.func6 (by kernel_rfl) rfl) (fun w hH => Fv w) rfl rfl rfl) ?_; rintro ⟨⟩
      refine Af Ak rfl ?_
      refine Ab ?_
      refine Bo.keep (env' := [(8, .bool false), (13, .pointer (some ⟨p, 0, none⟩)), (14, .pointer (some ⟨q, 0, none⟩)), (84, .bool false)]) ⟨rfl, rfl, rfl, rfl, trivial⟩ ?_
      refine Au rfl (Ax (AG (Ad ?_)))
      refine Af Ak rfl ?_
      refine Ai rfl (Am (os' := fun _ => [Ap p d2, AA q d1, Cv [Ao 5 1 encB (.slice A2 x2.length c2) x2, X], Ao 52 2 encRF fv ([(⟨hardN, A2, c2, xd⟩ : RFl)])]) [0] 0 (Ah Tryz.func11 (by kernel_rfl) rfl) (Es (Cg (hK1.fitK (k := 9) (by omega) (by omega)) (by decide)) hrd hop) rfl rfl rfl (fun _ => rfl) rfl rfl rfl) ?_; rintro ⟨⟩
      refine Af Ak rfl ?_
      refine Ai (post := fun g16 => [cell g16 31 #[.int .u64 0, .int .i64 0], Ap p d2, AA q d1, Cv [Ao 5 1 encB (.slice A2 x2.length c2) x2, X], Ao 52 2 encRF fv ([(⟨hardN, A2, c2, xd⟩ : RFl)])]) rfl (BL Bk rfl) ?_; rintro g16
      refine AT (post := fun _ => [cell g16 31 #[.int .u64 ((z.1 : Nat) : Int), .int .i64 ((z.2 : Nat) : Int)], Ap p d2, AA q d1, Cv [Ao 5 1 encB (.slice A2 x2.length c2) x2, X], Ao 52 2 encRF fv ([(⟨hardN, A2, c2, xd⟩ : RFl)])]) rfl rfl (AM 0 (v := .agg #[.int .u64 ((z.1 : Nat) : Int), .int .i64 ((z.2 : Nat) : Int)]) #[.int .u64 ((z.1 : Nat) : Int), .int .i64 ((z.2 : Nat) : Int)] An.2 rfl rfl rfl rfl rfl rfl rfl rfl rfl) ?_; rintro ⟨⟩
      refine Af Ak rfl ?_
      refine Ab (Ad ?_)
      refine Af Ak rfl ?_
      refine Ai rfl (Am (os' := fun _ => [cell g16 31 #[.int .u64 ((z.1 : Nat) : Int), .int .i64 ((z.2 : Nat) : Int)], Ap p d2, AA q d2, Cv [Ao 5 1 encB (.slice A2 x2.length c2) x2, X], Ao 52 2 encRF fv ([(⟨hardN, A2, c2, xd⟩ : RFl)])]) [2] 0 (Ah Tryz.func12 (by kernel_rfl) rfl) (Gb (Cg (hK1.fitK (k := 9) (by omega) (by omega)) (by decide)) hrd hop) rfl rfl rfl (fun _ => rfl) rfl rfl rfl) ?_; rintro ⟨⟩
      refine Af Ak rfl ?_
      refine Ai (post := fun g18 => [cell g18 31 #[.int .u64 0, .int .i64 0], cell g16 31 #[.int .u64 ((z.1 : Nat) : Int), .int .i64 ((z.2 : Nat) : Int)], Ap p d2, AA q d2, Cv [Ao 5 1 encB (.slice A2 x2.length c2) x2, X], Ao 52 2 encRF fv ([(⟨hardN, A2, c2, xd⟩ : RFl)])]) rfl (BL Bk rfl) ?_; rintro g18
      refine AT (post := fun _ => [cell g18 31 #[.int .u64 ((z.1 : Nat) : Int), .int .i64 ((z.2 : Nat) : Int)], cell g16 31 #[.int .u64 ((z.1 : Nat) : Int), .int .i64 ((z.2 : Nat) : Int)], Ap p d2, AA q d2, Cv [Ao 5 1 encB (.slice A2 x2.length c2) x2, X], Ao 52 2 encRF fv ([(⟨hardN, A2, c2, xd⟩ : RFl)])]) rfl rfl (AM 0 (v := .agg #[.int .u64 ((z.1 : Nat) : Int), .int .i64 ((z.2 : Nat) : Int)]) #[.int .u64 ((z.1 : Nat) : Int), .int .i64 ((z.2 : Nat) : Int)] An.2 rfl rfl rfl rfl rfl rfl rfl rfl rfl) ?_; rintro ⟨⟩
      refine Af Ak rfl ?_
      refine Ab ?_
      refine AY 4 rfl Gd (fun _ => rfl) ?_; rintro ⟨⟩
      refine Ad ?_
      refine Af Ak rfl ?_
      refine Ac rfl (.agg #[.int .u64 ((z.1 : Nat) : Int), .int .i64 ((z.2 : Nat) : Int)]) (fun b w hb hH => Bg rfl rfl (EH (cs := [.int .u64 ((z.1 : Nat) : Int), .int .i64 ((z.2 : Nat) : Int)]) An rfl) (hH.row 3 rfl) hb) ?_
      refine Ac rfl (.agg #[.int .u64 ((z.1 : Nat) : Int), .int .i64 ((z.2 : Nat) : Int)]) (fun b w hb hH => Bg rfl rfl (EH (cs := [.int .u64 ((z.1 : Nat) : Int), .int .i64 ((z.2 : Nat) : Int)]) An rfl) (hH.row 2 rfl) hb) ?_
      refine Ac rfl (.bool true) (fun b w hb hH => FA (Ut z z true (by simp)) rfl rfl rfl hb) ?_
      refine Af Ak rfl ?_
      refine Ac rfl (.bool true) (fun b w hb hH => Bh rfl rfl rfl (Ks rfl) hb) ?_
      refine Af Ak rfl ?_
      refine Ai rfl (Am (os' := fun _ => [Ao 5 1 encB (.slice A2 x2.length c2) x2, X, cell g18 31 #[.int .u64 ((z.1 : Nat) : Int), .int .i64 ((z.2 : Nat) : Int)], cell g16 31 #[.int .u64 ((z.1 : Nat) : Int), .int .i64 ((z.2 : Nat) : Int)], Ap p d2, AA q d2, Ao 52 2 encRF fv ([(⟨hardN, A2, c2, xd⟩ : RFl)])]) [4, 5] 0 (Ah Tryz.func18 (by kernel_rfl) rfl) (Hn hfE) rfl rfl rfl (fun _ => rfl) rfl rfl rfl) ?_; rintro ⟨⟩
      refine Af Ak rfl ?_
      refine Ab (Az ?_)
      exact Ay (.tmp rfl) (fun w h => AB () rfl [1] rfl h Cz) rfl
    · skip
      refine Ad ?_
      refine Af Ak rfl ?_
      refine Ab (AD rfl (BI ?_))
      refine Af Ak rfl ?_
      refine Ac rfl (.agg #[.string (bs ([104, 97, 114, 100, 46, 110, 101, 119])), .slice A0 b.length c0]) (fun b w hb hH => AV rfl rfl (by kernel_rfl) hb) ?_
      refine Ai (X := Value) (val := fun v : Value => v) (post := fun fw => [Ao 52 2 encRF fw ([(⟨newN, A0, c0, b⟩ : RFl)]), Ao 52 2 encRF fv ([(⟨hardN, A2, c2, xd⟩ : RFl)]), Ao 5 1 encB (.slice A2 x2.length c2) x2, X]) rfl (by refine Ec (e := 52) (t := 53) (k := 2) (enc := encRF) (x := .tmp 70) (c := .agg #[.string (bs ([104, 97, 114, 100, 46, 110, 101, 119])), .slice A0 b.length c0]) ?_ ?_ ?_ (⟨newN, A0, c0, b⟩ : RFl) ?_ ?_ ?_; exact Ar; exact (by decide); exact BH; exact rfl; exact rfl; exact rfl) ?_; rintro fw
      refine Ai (post := fun fv => [Ao 52 2 encRF fw ([(⟨newN, A0, c0, b⟩ : RFl)]), Ao 52 2 encRF fv ([(⟨hardN, A2, c2, xd⟩ : RFl)] ++ [(⟨newN, A0, c0, b⟩ : RFl)]), Ao 5 1 encB (.slice A2 x2.length c2) x2, X]) rfl (FG (nb := 40) 1 Ar BH (by kernel_rfl) (by decide) rfl ([(⟨newN, A0, c0, b⟩ : RFl)]) (fun w hH => hH.vec 0 rfl BH) (by simp only [List.length_cons, List.length_nil]; omega) rfl rfl rfl rfl) ?_; rintro fv
      refine Af Ak rfl ?_
      refine AP (AG ?_)
      obtain ⟨d1, hd1⟩ : ∃ d1, EG 1048576 ([(⟨hardN, A2, c2, xd⟩ : RFl)] ++ [(⟨newN, A0, c0, b⟩ : RFl)]) = d1 := ⟨_, rfl⟩
      have hP := I0 ([(⟨hardN, A2, c2, xd⟩ : RFl)] ++ [(⟨newN, A0, c0, b⟩ : RFl)])
      rw [hd1] at hP
      obtain ⟨hK1, hnd1, hok1⟩ := hP
      obtain ⟨⟨d2, z, e2⟩, hop⟩ : ∃ R, C5 d1 = R := ⟨_, rfl⟩
      have hKE : PlayOk 1048576 2 d2 := by have h9 := hK1.openH; rw [hop] at h9; exact h9
      have hrd : ∀ b, (BB (Bb d1).1 hardN).getD [] = b → b.length ≤ 137438953472 := fun b hb => Kb hK1 (by omega) hnd1 hok1 hb
      have hfE := (hKE.fitK (k := 9) (by omega) (by omega)).fit
      refine Bf [2, 3] rfl (fun _ h => h) rfl ?_
      refine Ad ?_
      refine Af Ak rfl ?_
      refine Ai rfl (Am  [2, 0] 0 (Ah Tryz.func5 (by kernel_rfl) rfl) ((hd1 ▸ Ho (by decide) Cq (by simp only [List.length_append, List.length_cons, List.length_nil]; omega) (TJ hxr hxr1 hX (by omega)))) rfl rfl rfl (fun _ => rfl) rfl rfl rfl) ?_; rintro ⟨p, q⟩
      refine Af Ak rfl ?_
      refine Ab ?_
      refine Bo.keep (env' := [(8, .bool false), (13, .pointer (some ⟨p, 0, none⟩)), (14, .pointer (some ⟨q, 0, none⟩)), (15, .bool true)]) ⟨rfl, rfl, rfl, rfl, trivial⟩ ?_
      refine Aq (Ad ?_)
      refine Af Ak rfl ?_
      refine Ai (post := fun _ => [Ap p d1, AA q d1, Cv [Ao 5 1 encB (.slice A2 x2.length c2) x2, X], Ao 52 2 encRF fw ([(⟨newN, A0, c0, b⟩ : RFl)]), Ao 52 2 encRF fv ([(⟨hardN, A2, c2, xd⟩ : RFl)] ++ [(⟨newN, A0, c0, b⟩ : RFl)])]) rfl (BQ (Ah Tryz.func6 (by kernel_rfl) rfl) (fun w hH => Fv w) rfl rfl rfl) ?_; rintro ⟨⟩
      refine Af Ak rfl ?_
      refine Ab (Au rfl (Ax (AG (Ad ?_))))
      refine Af Ak rfl ?_
      refine Ai rfl (Am (os' := fun _ => [Ap p d2, AA q d1, Cv [Ao 5 1 encB (.slice A2 x2.length c2) x2, X], Ao 52 2 encRF fw ([(⟨newN, A0, c0, b⟩ : RFl)]), Ao 52 2 encRF fv ([(⟨hardN, A2, c2, xd⟩ : RFl)] ++ [(⟨newN, A0, c0, b⟩ : RFl)])]) [0] 0 (Ah Tryz.func11 (by kernel_rfl) rfl) (Es (Cg (hK1.fitK (k := 9) (by omega) (by omega)) (by decide)) hrd hop) rfl rfl rfl (fun _ => rfl) rfl rfl rfl) ?_; rintro ⟨⟩
      refine Af Ak rfl ?_
      refine Ai (post := fun g16 => [cell g16 31 #[.int .u64 0, .int .i64 0], Ap p d2, AA q d1, Cv [Ao 5 1 encB (.slice A2 x2.length c2) x2, X], Ao 52 2 encRF fw ([(⟨newN, A0, c0, b⟩ : RFl)]), Ao 52 2 encRF fv ([(⟨hardN, A2, c2, xd⟩ : RFl)] ++ [(⟨newN, A0, c0, b⟩ : RFl)])]) rfl (BL Bk rfl) ?_; rintro g16
      refine AT (post := fun _ => [cell g16 31 #[.int .u64 ((z.1 : Nat) : Int), .int .i64 ((z.2 : Nat) : Int)], Ap p d2, AA q d1, Cv [Ao 5 1 encB (.slice A2 x2.length c2) x2, X], Ao 52 2 encRF fw ([(⟨newN, A0, c0, b⟩ : RFl)]), Ao 52 2 encRF fv ([(⟨hardN, A2, c2, xd⟩ : RFl)] ++ [(⟨newN, A0, c0, b⟩ : RFl)])]) rfl rfl (AM 0 (v := .agg #[.int .u64 ((z.1 : Nat) : Int), .int .i64 ((z.2 : Nat) : Int)]) #[.int .u64 ((z.1 : Nat) : Int), .int .i64 ((z.2 : Nat) : Int)] An.2 rfl rfl rfl rfl rfl rfl rfl rfl rfl) ?_; rintro ⟨⟩
      refine Af Ak rfl ?_
      refine Ab (Ad ?_)
      refine Af Ak rfl ?_
      refine Ai rfl (Am (os' := fun _ => [cell g16 31 #[.int .u64 ((z.1 : Nat) : Int), .int .i64 ((z.2 : Nat) : Int)], Ap p d2, AA q d2, Cv [Ao 5 1 encB (.slice A2 x2.length c2) x2, X], Ao 52 2 encRF fw ([(⟨newN, A0, c0, b⟩ : RFl)]), Ao 52 2 encRF fv ([(⟨hardN, A2, c2, xd⟩ : RFl)] ++ [(⟨newN, A0, c0, b⟩ : RFl)])]) [2] 0 (Ah Tryz.func12 (by kernel_rfl) rfl) (Gb (Cg (hK1.fitK (k := 9) (by omega) (by omega)) (by decide)) hrd hop) rfl rfl rfl (fun _ => rfl) rfl rfl rfl) ?_; rintro ⟨⟩
      refine Af Ak rfl ?_
      refine Ai (post := fun g18 => [cell g18 31 #[.int .u64 0, .int .i64 0], cell g16 31 #[.int .u64 ((z.1 : Nat) : Int), .int .i64 ((z.2 : Nat) : Int)], Ap p d2, AA q d2, Cv [Ao 5 1 encB (.slice A2 x2.length c2) x2, X], Ao 52 2 encRF fw ([(⟨newN, A0, c0, b⟩ : RFl)]), Ao 52 2 encRF fv ([(⟨hardN, A2, c2, xd⟩ : RFl)] ++ [(⟨newN, A0, c0, b⟩ : RFl)])]) rfl (BL Bk rfl) ?_; rintro g18
      refine AT (post := fun _ => [cell g18 31 #[.int .u64 ((z.1 : Nat) : Int), .int .i64 ((z.2 : Nat) : Int)], cell g16 31 #[.int .u64 ((z.1 : Nat) : Int), .int .i64 ((z.2 : Nat) : Int)], Ap p d2, AA q d2, Cv [Ao 5 1 encB (.slice A2 x2.length c2) x2, X], Ao 52 2 encRF fw ([(⟨newN, A0, c0, b⟩ : RFl)]), Ao 52 2 encRF fv ([(⟨hardN, A2, c2, xd⟩ : RFl)] ++ [(⟨newN, A0, c0, b⟩ : RFl)])]) rfl rfl (AM 0 (v := .agg #[.int .u64 ((z.1 : Nat) : Int), .int .i64 ((z.2 : Nat) : Int)]) #[.int .u64 ((z.1 : Nat) : Int), .int .i64 ((z.2 : Nat) : Int)] An.2 rfl rfl rfl rfl rfl rfl rfl rfl rfl) ?_; rintro ⟨⟩
      refine Af Ak rfl ?_
      refine Ab ?_
      refine AY 4 rfl Gd (fun _ => rfl) ?_; rintro ⟨⟩
      refine Ad ?_
      refine Af Ak rfl ?_
      refine Ac rfl (.agg #[.int .u64 ((z.1 : Nat) : Int), .int .i64 ((z.2 : Nat) : Int)]) (fun b w hb hH => Bg rfl rfl (EH (cs := [.int .u64 ((z.1 : Nat) : Int), .int .i64 ((z.2 : Nat) : Int)]) An rfl) (hH.row 3 rfl) hb) ?_
      refine Ac rfl (.agg #[.int .u64 ((z.1 : Nat) : Int), .int .i64 ((z.2 : Nat) : Int)]) (fun b w hb hH => Bg rfl rfl (EH (cs := [.int .u64 ((z.1 : Nat) : Int), .int .i64 ((z.2 : Nat) : Int)]) An rfl) (hH.row 2 rfl) hb) ?_
      refine Ac rfl (.bool true) (fun b w hb hH => FA (Ut z z true (by simp)) rfl rfl rfl hb) ?_
      refine Af Ak rfl ?_
      refine Ac rfl (.bool true) (fun b w hb hH => Bh rfl rfl rfl (Ks rfl) hb) ?_
      refine Af Ak rfl ?_
      refine Ai rfl (Am (os' := fun _ => [Ao 5 1 encB (.slice A2 x2.length c2) x2, X, cell g18 31 #[.int .u64 ((z.1 : Nat) : Int), .int .i64 ((z.2 : Nat) : Int)], cell g16 31 #[.int .u64 ((z.1 : Nat) : Int), .int .i64 ((z.2 : Nat) : Int)], Ap p d2, AA q d2, Ao 52 2 encRF fw ([(⟨newN, A0, c0, b⟩ : RFl)]), Ao 52 2 encRF fv ([(⟨hardN, A2, c2, xd⟩ : RFl)] ++ [(⟨newN, A0, c0, b⟩ : RFl)])]) [4, 5] 0 (Ah Tryz.func18 (by kernel_rfl) rfl) (Hn hfE) rfl rfl rfl (fun _ => rfl) rfl rfl rfl) ?_; rintro ⟨⟩
      refine Af Ak rfl ?_
      refine Ab (Az ?_)
      exact Ay (.tmp rfl) (fun w h => AB () rfl [1] rfl h Cz) rfl
end Go.Proofs.YtnknboibmifacaaGreat.Sep
