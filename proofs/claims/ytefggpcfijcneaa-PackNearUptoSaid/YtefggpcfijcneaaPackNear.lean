/-
  Bytes that were laid, with one turned, are read alike by the program and by the reference. Where what comes in is of bulk at most 1048576.
-/
import Derived.Test.YtefggpcfijcneaaLaid
import Derived.Test.YtefggpcfijcneaaReads
import Derived.Test.YtefggpcfijcneaaPackReads
import Derived.Deep.RegionHeld3
import Derived.Deep.RegionWith
namespace Go.Proofs.Ytefggpcfijcneaa.packNear
open Go.ChangeShapes Go.WideShapes Go.ChangeAt Go.RowKit
open packReads (open_asks)

def AskD.cells (x : AskD) : List Value := [.int .i64 x.what, .int .u8 (x.b.toNat : Int), .int .u64 (x.n : Int), .int .i64 x.t]
def askCells (xs : List AskD) : List Value := xs.flatMap AskD.cells
theorem askCells_length (xs : List AskD) : (askCells xs).length = xs.length * 4 := by
  induction xs with
  | nil => rfl
  | cons x xs ih =>
    show (AskD.cells x ++ askCells xs).length = _
    rw [List.length_append, ih, List.length_cons]
    simp [AskD.cells]
    omega
theorem askCells_get : ∀ {xs : List AskD} {k : Nat} {x : AskD}, xs[k]? = some x → ∀ j, j < 4 → (askCells xs)[k * 4 + j]? = (AskD.cells x)[j]?
  | [], _, _, h, _, _ => by simp at h
  | y :: ys, 0, x, h, j, hj => by
    obtain rfl : y = x := by simpa using h
    show (AskD.cells y ++ askCells ys)[0 * 4 + j]? = _
    rw [List.getElem?_append_left (by simp [AskD.cells]; omega)]
    simp
  | y :: ys, k + 1, x, h, j, hj => by
    have h' : ys[k]? = some x := by simpa using h
    show (AskD.cells y ++ askCells ys)[(k + 1) * 4 + j]? = _
    rw [List.getElem?_append_right (by simp [AskD.cells]; omega)]
    rw [show (k + 1) * 4 + j - (AskD.cells y).length = k * 4 + j by simp [AskD.cells]; omega]
    exact askCells_get h' j hj

theorem length_weight : ∀ xs : List LayD, xs.length ≤ weight xs
  | [] => by simp [weight]
  | x :: xs => by
    have := length_weight xs
    have e : weight (x :: xs) = x.t.length + 5 + weight xs := by simp [weight]
    rw [e, List.length_cons]
    omega

/-- the asks that the function has made itself -/
def OwnAsks (w : World) (base : Nat) (v : Value) (xs : List AskD) : Prop := w.ownsRow base 56 4 v xs.length (askCells xs) ∧ ∀ x ∈ xs, x.ok

theorem OwnAsks.form {w : World} {base : Nat} {v : Value} {xs : List AskD} (h : OwnAsks w base v xs) : ∃ A c, v = .slice A xs.length c ∧ Asks (fun k => k < w.heap.size) w A xs := by
  have hh := h.1.2
  rcases hh with ⟨hv, hn⟩ | ⟨g, cap, cur, hv, hb, hg, hnc, hm, hs, ht⟩
  · have hl : xs = [] := List.eq_nil_of_length_eq_zero hn
    subst hl
    exact ⟨none, 0, hv, fun h => absurd h (by simp)⟩
  · refine ⟨some ⟨g, 0, none⟩, cap, hv, fun _ => ⟨g, 0, rfl, (Array.getElem?_eq_some_iff.1 hg).1, (Array.getElem?_eq_some_iff.1 hg).1, fun k x hk => ?_⟩⟩
    have hat : ∀ j, j < 4 → w.cell? ⟨g, 0 + k * 4 + j, none⟩ = (AskD.cells x)[j]? := by
      intro j hj
      have hlt : j < (AskD.cells x).length := by simpa [AskD.cells] using hj
      have hc := askCells_get hk j hj
      rw [List.getElem?_eq_getElem hlt] at hc ⊢
      have := h.1.cells (g := g) (by rw [hv]; rfl) (k * 4 + j) _ hc
      rw [Addr.add_lit] at this
      rw [Nat.add_assoc]
      exact this
    exact ⟨h.2 x (List.mem_of_getElem? hk), by simpa [AskD.cells] using hat 0 (by omega), by simpa [AskD.cells] using hat 1 (by omega), by simpa [AskD.cells] using hat 2 (by omega), by simpa [AskD.cells] using hat 3 (by omega)⟩
theorem OwnAsks.nil (w : World) (base : Nat) : OwnAsks w base (.slice none 0 0) [] := ⟨World.ownsRow_nil _ _ _ _, by simp⟩
theorem OwnAsks.mod {S : Nat → Prop} {w w' : World} {base : Nat} {v : Value} {xs : List AskD} (h : OwnAsks w base v xs) (hm : Mod S w w') (hn : ∀ k, At v k → ¬ S k) : OwnAsks w' base v xs := by
  refine ⟨⟨h.1.1, ?_⟩, h.2⟩
  rcases h.1.2 with hh | ⟨g, cap, cur, hv, hb, hg, r⟩
  · exact .inl hh
  · exact .inr ⟨g, cap, cur, hv, hb, (hm.block g (Array.getElem?_eq_some_iff.1 hg).1 (hn g (by rw [hv]; rfl))).trans hg, r⟩
theorem OwnAsks.lt {w : World} {base : Nat} {v : Value} {xs : List AskD} (h : OwnAsks w base v xs) : ∀ k, At v k → base ≤ k ∧ k < w.heap.size := fun k hk => World.ownsRow.lt h.1 k hk

/-- append of one more -/
theorem run_append_ask {ty : TypeId} {w : World} {base g : Nat} {v : Value} {xs : List AskD} {x : AskD} (hown : OwnAsks w base v xs) (hb : base ≤ w.heap.size) (hx : x.ok)
    (h0 : w.cell? ⟨g, 0, none⟩ = some (.int .i64 x.what)) (h1 : w.cell? ⟨g, 1, none⟩ = some (.int .u8 (x.b.toNat : Int))) (h2 : w.cell? ⟨g, 2, none⟩ = some (.int .u64 (x.n : Int))) (h3 : w.cell? ⟨g, 3, none⟩ = some (.int .i64 x.t)) (hlen : xs.length ≤ 1048576) :
    ∃ v' w', (Builtin.append_ #[52, 52] ty #[v, .slice (some ⟨g, 0, none⟩) 1 1]).run Try.prog w = .ok v' w' ∧ OwnAsks w' base v' (xs ++ [x]) ∧ Mod (At v) w w' ∧ (∀ k, At v' k → At v k ∨ k = w.heap.size) := by
  obtain ⟨i, hi, hz0, hz1, hz2⟩ := info_parts (show (Try.prog.info? 56).map (fun i => (i.zero, i.size, i.bytes)) = some (some (.agg #[.int .i64 0, .int .u8 0, .int .u64 0, .int .i64 0]), 4, 32) by kernel_rfl)
  have hcells : ∀ j u, (AskD.cells x)[j]? = some u → w.cell? ((⟨g, 0, none⟩ : Addr).add j) = some u := by
    intro j u hj
    rw [Addr.add_lit, Nat.zero_add]
    have hlt := (List.getElem?_eq_some_iff.1 hj).1
    simp [AskD.cells] at hlt
    rcases (show j = 0 ∨ j = 1 ∨ j = 2 ∨ j = 3 by omega) with rfl | rfl | rfl | rfl <;> simp [AskD.cells] at hj <;> subst hj <;> assumption
  obtain ⟨v', w', hrun, h4, h5, _, h6⟩ := run_append_own_at (P := Try.prog) w base 52 ty 56 i (.agg #[.int .i64 0, .int .u8 0, .int .u64 0, .int .i64 0]) 4 32 Try.underlying52 hi hz0 hz1 hz2 rfl (by decide) v xs.length (askCells xs) hown.1 ⟨g, 0, none⟩ 1 1 (AskD.cells x) rfl hcells (by intro u hu; simp [AskD.cells] at hu; rcases hu with rfl | rfl | rfl | rfl <;> rfl)
    (by unfold maxLen; omega) (by omega) hb
  refine ⟨v', w', hrun, ⟨?_, ?_⟩, Mod.of_grown h5 (fun k hk => hk), fun k hk => ?_⟩
  · have e : askCells (xs ++ [x]) = askCells xs ++ AskD.cells x := by unfold askCells; rw [List.flatMap_append]; simp
    rw [e, List.length_append]
    exact h4
  · intro y hy
    rcases List.mem_append.1 hy with hy | hy
    · exact hown.2 y hy
    · obtain rfl : y = x := by simpa using hy
      exact hx
  · rcases h6 with h6 | h6
    · exact .inl (by unfold At at hk ⊢; rw [← h6]; exact hk)
    · right
      unfold At at hk
      rw [h6] at hk
      exact (Option.some.inj hk).symm

theorem wpList_append_ask {ops : Array Oper} {rest : List Oper} {o : Oper} {a : Act} {Q : Exit → Act → World → Prop} {w : World} {base g : Nat} {v : Value} {xs : List AskD} (x : AskD) (hgd : o.guard = none) (s y : Operand)
    (ho : o.op = .call { callee := .builtin .append, args := #[s, y], argTypes := #[52, 52] })
    (hown : OwnAsks w base v xs) (hb : base ≤ w.heap.size) (hx : x.ok)
    (h0 : w.cell? ⟨g, 0, none⟩ = some (.int .i64 x.what)) (h1 : w.cell? ⟨g, 1, none⟩ = some (.int .u8 (x.b.toNat : Int))) (h2 : w.cell? ⟨g, 2, none⟩ = some (.int .u64 (x.n : Int))) (h3 : w.cell? ⟨g, 3, none⟩ = some (.int .i64 x.t)) (hlen : xs.length ≤ 1048576)
    (n : Nat) (hn : n = xs.length + 1) (hs : a.eval s = v) (hy : a.eval y = .slice (some ⟨g, 0, none⟩) 1 1)
    (h : ∀ A' c' w', OwnAsks w' base (.slice A' n c') (xs ++ [x]) → Mod (At v) w w' → (∀ k, At (.slice A' n c') k → At v k ∨ k = w.heap.size) → wpList Try.prog ops Q rest (a.put o.dst (.slice A' n c')) w') : wpList Try.prog ops Q (o :: rest) a w := by
  refine wpList_plain hgd fun K hK => ?_
  obtain ⟨v', w', hrun, h4, h5, h6⟩ := run_append_ask (ty := o.type) hown hb hx h0 h1 h2 h3 hlen
  obtain ⟨A', c', rfl, _⟩ := h4.form
  rw [List.length_append, List.length_singleton, ← hn] at h4 hrun h6
  unfold Oper.wp execOp
  simp only [ho, resolve, invoke, builtin, Sem.run_bind, Sem.run_pure, Result.andThen_ok, List.map_toArray, List.map_cons, List.map_nil, hs, hy, hrun]
  exact hK _ _ (h A' c' w' h4 h5 h6)

set_option maxRecDepth 100000 in
set_option maxHeartbeats 4000000 in
theorem walk (w : World) (A : Option Addr) (c : Nat) (xs : List LayD) (at_ : Int) (to : UInt8) (Q : Option Addr) (cq : Nat) (hs : List AskD) (h : Lays w w.heap.size A xs) (hlen : xs.length ≤ maxLen) (hw : weight xs ≤ 1048576)
    (ha : -9223372036854775808 ≤ at_ ∧ at_ ≤ 9223372036854775807) (hq : Asks (fun k => k < w.heap.size) w Q hs) (hql : hs.length ≤ maxLen) :
    Calls Try.prog 6 #[.slice A xs.length c, .int .i64 at_, .int .u8 (to.toNat : Int), .slice Q hs.length cq] w fun e w' => e = .returned (.bool true) ∧ Below w.heap.size w w' := by
  have hok := h.ok
  have hbl := laidAll_length hok hw
  have hC := laid_any w A c xs h hlen hw
  have HC := hid hC
  clear hC
  unfold maxLen at hlen hql
  obtain ⟨b, hb⟩ : ∃ b, b = laidAll xs := ⟨_, rfl⟩
  rw [← hb] at HC hbl
  have hLb : b.length ≤ 140737488355328 := by omega
  have HBL := hid hb
  clear hbl hb
  go_enter Try.func6, Try.ntmps6
  go_wp2_with fail
  refine Calls.mono HC.out ?_; rintro e w1 ⟨v1, rfl, ho1, hb1⟩; obtain ⟨A1, c1, rfl, hs1⟩ := ho1.form
  by_cases hn : 0 < b.length
  · obtain ⟨g1, cc, he, hg1, hg2, hg3, hg4, hcell, hfz⟩ := ho1.block hn
    cases he
    have hk0 := Int.emod_nonneg at_ (show (b.length : Int) ≠ 0 by omega)
    have hk1 := Int.emod_lt_of_pos at_ (show 0 < (b.length : Int) by omega)
    have hP1 := pick_any w1 at_ b.length ha.1 ha.2 (by omega) (by omega)
    obtain ⟨kn, hkn⟩ : ∃ kn : Nat, (kn : Int) = at_ % (b.length : Int) := ⟨(at_ % (b.length : Int)).toNat, by omega⟩
    rw [← hkn] at hP1 hk0 hk1
    have hkl : kn < b.length := by omega
    have hc := hcell kn b[kn] (List.getElem?_eq_getElem hkl)
    have hf := hfz kn
    have ho2 := ho1.set (k := kn) to
    rw [List.length_set] at ho2
    have hU2 := ((Up.refl w).trans hb1).setCell (i := kn) hg1 (u8v to)
    have HP1 := hid hP1
    unfold u8v at hc ho2 hU2
    clear hkn hcell hfz hP1 hg4 hs1
    obtain ⟨W2, hW2⟩ : ∃ W2, W2 = w1.setCell ⟨g1, kn, none⟩ (.int .u8 (to.toNat : Int)) := ⟨_, rfl⟩
    rw [← hW2] at ho2 hU2
    go_wp2_with (go_at_call 23; refine Calls.mono HP1.out ?_; rintro e w' ⟨rfl, rfl⟩)
    rw [← hW2]
    clear hW2 hc hf

    have hI0 : OwnAsks W2 W2.heap.size (.slice none 0 0) [] := OwnAsks.nil _ _
    go_loopw [10, 11] (fun v i wr => ∃ (k : Nat) (ys : List AskD) (Ay : Option Addr) (cy : Nat), k ≤ xs.length ∧ i = .int .i64 k ∧ v = .slice Ay k cy ∧ ys.length = k ∧ OwnAsks wr W2.heap.size v ys ∧ Below W2.heap.size W2 wr) (fun _ i _ => xs.length - (intOf i).toNat)
    case atStart => exact ⟨0, [], none, 0, Nat.zero_le _, rfl, rfl, rfl, hI0, Below.refl _ _⟩
    case round =>
      clear hI0
      obtain ⟨k, ys, Ay, cy, hk, rfl, rfl, hyl, hIy, hbr⟩ := hrel
      have hUr : Up w.heap.size w wr := hU2.trans hbr
      have hszr : W2.heap.size ≤ wr.heap.size := hbr.size
      by_cases hlt : k < xs.length
      · have hkl : k ≤ 1048576 := by
          have h1 := length_weight (xs.take k)
          have h2 := weight_take xs k
          rw [List.length_take] at h1
          omega
        obtain ⟨g, o, rfl, hg, hat⟩ := h (by omega)
        have hx : xs[k]? = some xs[k] := List.getElem?_eq_getElem hlt
        obtain ⟨x, hxx⟩ : ∃ x, x = xs[k] := ⟨_, rfl⟩
        rw [← hxx] at hx
        obtain ⟨hxo, c0, _, _, _, _, _⟩ := (hat k x hx).up hUr.below hg
        have hP := pick_any wr x.what 4 hxo.1 hxo.2.1 (by omega) (by omega)
        have hq0 := Int.emod_nonneg x.what (show (4 : Int) ≠ 0 by omega)
        have hq4 := Int.emod_lt_of_pos x.what (show (0 : Int) < 4 by omega)
        obtain ⟨q, hqq⟩ : ∃ q, q = x.what % 4 := ⟨_, rfl⟩
        rw [← hqq] at hP hq0 hq4
        have HP := hid hP
        have HQ0 := hid hq0
        have HQ4 := hid hq4
        clear hP hqq hat hx hxx hxo hq0 hq4
        have nblk : ∀ (a : World) (o : Obj), (a.alloc o).heap.size = a.heap.size + 1 := fun a o => by simp
        by_cases hh : k < hs.length
        · obtain ⟨gq, oq, rfl, hgq, hgqs, hatq⟩ := hq (by omega)
          have hy : hs[k]? = some hs[k] := List.getElem?_eq_getElem hh
          obtain ⟨y, hyy⟩ : ∃ y, y = hs[k] := ⟨_, rfl⟩
          rw [← hyy] at hy
          have hgr : gq < wr.heap.size := Nat.lt_of_lt_of_le hgq hUr.size
          have hM1 := ((Mod.refl (One wr.heap.size) wr).alloc (.cells #[.int .i64 q, .int .u8 255, .int .u64 18446744073709551615, .int .i64 1048576] 56))
          have D := (hatq k y hy).mod (Mod.of_below hUr.below (fun k => w.heap.size ≤ k)) hgqs (by omega)
          clear hatq hy hyy
          have D0 := D.mod hM1 hgr (fun e => by unfold One at e; omega)
          obtain ⟨hyo, e0, e1, e2, e3⟩ := D0
          by_cases hm : y.what.tmod 3 = 0
          · have hM2 := ((Mod.refl (One wr.heap.size) wr).alloc (.cells #[.int .i64 q, .int .u8 (y.b.toNat : Int), .int .u64 18446744073709551615, .int .i64 1048576] 56))
            have hM3 := ((Mod.refl (One wr.heap.size) wr).alloc (.cells #[.int .i64 q, .int .u8 (y.b.toNat : Int), .int .u64 (y.n : Int), .int .i64 1048576] 56))
            have hM4 := ((Mod.refl (One wr.heap.size) wr).alloc (.cells #[.int .i64 q, .int .u8 (y.b.toNat : Int), .int .u64 (y.n : Int), .int .i64 y.t] 56))
            obtain ⟨_, _, _, f2, _⟩ := D.mod hM2 hgr (fun e => by unfold One at e; omega)
            obtain ⟨_, _, _, _, g3⟩ := D.mod hM3 hgr (fun e => by unfold One at e; omega)
            have HM := hid hM4
            clear hM1 hM2 hM3 hM4 D
            have hAZ : OwnAsks (wr.alloc (.cells #[.int .i64 q, .int .u8 (y.b.toNat : Int), .int .u64 (y.n : Int), .int .i64 y.t] 56)) W2.heap.size (.slice Ay k cy) ys := hIy.mod (S := One wr.heap.size) (HM.out) (fun j hj e => by have := (hIy.lt j hj).2; unfold One at e; omega)
            have hA1 := hAZ.mod ((Mod.refl Nil (wr.alloc (.cells #[.int .i64 q, .int .u8 (y.b.toNat : Int), .int .u64 (y.n : Int), .int .i64 y.t] 56))).alloc (.cells #[.int .i64 q, .int .u8 (y.b.toNat : Int), .int .u64 (y.n : Int), .int .i64 y.t] 56)) (fun _ _ hf => hf)
            have hxok : AskD.ok ⟨q, y.b, y.n, y.t⟩ := by
              unfold AskD.ok
              exact ⟨show (-9223372036854775808 : Int) ≤ q by have := HQ0.out; omega, show q ≤ 9223372036854775807 by have := HQ4.out; omega, hyo.2.2.1, hyo.2.2.2.1, hyo.2.2.2.2⟩
            have hzs : (wr.alloc (.cells #[.int .i64 q, .int .u8 (y.b.toNat : Int), .int .u64 (y.n : Int), .int .i64 y.t] 56)).heap.size = wr.heap.size + 1 := by simp [World.setCell]
            have nR := Row.new (wr.alloc (.cells #[.int .i64 q, .int .u8 (y.b.toNat : Int), .int .u64 (y.n : Int), .int .i64 y.t] 56)) 56 #[.int .i64 q, .int .u8 (y.b.toNat : Int), .int .u64 (y.n : Int), .int .i64 y.t]
            rw [hzs] at nR
            have n0 : ((wr.alloc (.cells #[.int .i64 q, .int .u8 (y.b.toNat : Int), .int .u64 (y.n : Int), .int .i64 y.t] 56)).alloc (.cells #[.int .i64 q, .int .u8 (y.b.toNat : Int), .int .u64 (y.n : Int), .int .i64 y.t] 56)).cell? ⟨wr.heap.size + 1, 0, none⟩ = some (.int .i64 (⟨q, y.b, y.n, y.t⟩ : AskD).what) := nR.cell 0
            have n1 : ((wr.alloc (.cells #[.int .i64 q, .int .u8 (y.b.toNat : Int), .int .u64 (y.n : Int), .int .i64 y.t] 56)).alloc (.cells #[.int .i64 q, .int .u8 (y.b.toNat : Int), .int .u64 (y.n : Int), .int .i64 y.t] 56)).cell? ⟨wr.heap.size + 1, 1, none⟩ = some (.int .u8 ((⟨q, y.b, y.n, y.t⟩ : AskD).b.toNat : Int)) := nR.cell 1
            have n2 : ((wr.alloc (.cells #[.int .i64 q, .int .u8 (y.b.toNat : Int), .int .u64 (y.n : Int), .int .i64 y.t] 56)).alloc (.cells #[.int .i64 q, .int .u8 (y.b.toNat : Int), .int .u64 (y.n : Int), .int .i64 y.t] 56)).cell? ⟨wr.heap.size + 1, 2, none⟩ = some (.int .u64 ((⟨q, y.b, y.n, y.t⟩ : AskD).n : Int)) := nR.cell 2
            have n3 : ((wr.alloc (.cells #[.int .i64 q, .int .u8 (y.b.toNat : Int), .int .u64 (y.n : Int), .int .i64 y.t] 56)).alloc (.cells #[.int .i64 q, .int .u8 (y.b.toNat : Int), .int .u64 (y.n : Int), .int .i64 y.t] 56)).cell? ⟨wr.heap.size + 1, 3, none⟩ = some (.int .i64 (⟨q, y.b, y.n, y.t⟩ : AskD).t) := nR.cell 3
            have hbz : W2.heap.size ≤ ((wr.alloc (.cells #[.int .i64 q, .int .u8 (y.b.toNat : Int), .int .u64 (y.n : Int), .int .i64 y.t] 56)).alloc (.cells #[.int .i64 q, .int .u8 (y.b.toNat : Int), .int .u64 (y.n : Int), .int .i64 y.t] 56)).heap.size := by rw [nblk]; omega
            have HN0 := hid n0
            have HN1 := hid n1
            have HN2 := hid n2
            have HN3 := hid n3
            have HZ := hid hbz
            clear n0 n1 n2 n3 nR hbz hAZ hzs
            go_wp2_with (first
              | (go_at_call 23; refine Calls.mono HP.out ?_; rintro e w' ⟨rfl, rfl⟩)
              | (at_builtin; refine wpList_append_ask ⟨q, y.b, y.n, y.t⟩ rfl (.tmp 69) (.tmp 71) rfl hA1 HZ.out hxok HN0.out HN1.out HN2.out HN3.out (by omega) (k + 1) (by omega) rfl rfl ?_; intro A5 c5 w5 hA5 hm5 ha5))
            have hUz : Up W2.heap.size W2 wr := ⟨hbr, hszr⟩
            go_roundw
            case rel => exact ⟨k + 1, _, A5, c5, by omega, by go_num, by first | rfl | (congr 1), by simp [hyl], hA5, (((hUz.alloc _).alloc _).mod hm5 (fun i hi => (hA1.lt i hi).1)).below⟩
            case measure => simp [intOf]; omega
          · have hm' : ¬ y.what.tmod 3 = 0 := hm
            clear D
            have HM := hid (((Mod.refl (One wr.heap.size) wr).alloc (.cells #[.int .i64 q, .int .u8 255, .int .u64 18446744073709551615, .int .i64 1048576] 56)))
            have hAZ : OwnAsks (wr.alloc (.cells #[.int .i64 q, .int .u8 255, .int .u64 18446744073709551615, .int .i64 1048576] 56)) W2.heap.size (.slice Ay k cy) ys := hIy.mod (S := One wr.heap.size) (HM.out) (fun j hj e => by have := (hIy.lt j hj).2; unfold One at e; omega)
            have hA1 := hAZ.mod ((Mod.refl Nil (wr.alloc (.cells #[.int .i64 q, .int .u8 255, .int .u64 18446744073709551615, .int .i64 1048576] 56))).alloc (.cells #[.int .i64 q, .int .u8 255, .int .u64 18446744073709551615, .int .i64 1048576] 56)) (fun _ _ hf => hf)
            have hxok : AskD.ok ⟨q, 255, 18446744073709551615, 1048576⟩ := by
              unfold AskD.ok
              exact ⟨show (-9223372036854775808 : Int) ≤ q by have := HQ0.out; omega, show q ≤ 9223372036854775807 by have := HQ4.out; omega, show (18446744073709551615 : Nat) < 18446744073709551616 by decide, show (-9223372036854775808 : Int) ≤ 1048576 by decide, show (1048576 : Int) ≤ 9223372036854775807 by decide⟩
            have hzs : (wr.alloc (.cells #[.int .i64 q, .int .u8 255, .int .u64 18446744073709551615, .int .i64 1048576] 56)).heap.size = wr.heap.size + 1 := by simp [World.setCell]
            have nR := Row.new (wr.alloc (.cells #[.int .i64 q, .int .u8 255, .int .u64 18446744073709551615, .int .i64 1048576] 56)) 56 #[.int .i64 q, .int .u8 255, .int .u64 18446744073709551615, .int .i64 1048576]
            rw [hzs] at nR
            have n0 : ((wr.alloc (.cells #[.int .i64 q, .int .u8 255, .int .u64 18446744073709551615, .int .i64 1048576] 56)).alloc (.cells #[.int .i64 q, .int .u8 255, .int .u64 18446744073709551615, .int .i64 1048576] 56)).cell? ⟨wr.heap.size + 1, 0, none⟩ = some (.int .i64 (⟨q, 255, 18446744073709551615, 1048576⟩ : AskD).what) := nR.cell 0
            have n1 : ((wr.alloc (.cells #[.int .i64 q, .int .u8 255, .int .u64 18446744073709551615, .int .i64 1048576] 56)).alloc (.cells #[.int .i64 q, .int .u8 255, .int .u64 18446744073709551615, .int .i64 1048576] 56)).cell? ⟨wr.heap.size + 1, 1, none⟩ = some (.int .u8 ((⟨q, 255, 18446744073709551615, 1048576⟩ : AskD).b.toNat : Int)) := nR.cell 1
            have n2 : ((wr.alloc (.cells #[.int .i64 q, .int .u8 255, .int .u64 18446744073709551615, .int .i64 1048576] 56)).alloc (.cells #[.int .i64 q, .int .u8 255, .int .u64 18446744073709551615, .int .i64 1048576] 56)).cell? ⟨wr.heap.size + 1, 2, none⟩ = some (.int .u64 ((⟨q, 255, 18446744073709551615, 1048576⟩ : AskD).n : Int)) := nR.cell 2
            have n3 : ((wr.alloc (.cells #[.int .i64 q, .int .u8 255, .int .u64 18446744073709551615, .int .i64 1048576] 56)).alloc (.cells #[.int .i64 q, .int .u8 255, .int .u64 18446744073709551615, .int .i64 1048576] 56)).cell? ⟨wr.heap.size + 1, 3, none⟩ = some (.int .i64 (⟨q, 255, 18446744073709551615, 1048576⟩ : AskD).t) := nR.cell 3
            have hbz : W2.heap.size ≤ ((wr.alloc (.cells #[.int .i64 q, .int .u8 255, .int .u64 18446744073709551615, .int .i64 1048576] 56)).alloc (.cells #[.int .i64 q, .int .u8 255, .int .u64 18446744073709551615, .int .i64 1048576] 56)).heap.size := by rw [nblk]; omega
            have HN0 := hid n0
            have HN1 := hid n1
            have HN2 := hid n2
            have HN3 := hid n3
            have HZ := hid hbz
            clear n0 n1 n2 n3 nR hbz hAZ hzs
            go_wp2_with (first
              | (go_at_call 23; refine Calls.mono HP.out ?_; rintro e w' ⟨rfl, rfl⟩)
              | (at_builtin; refine wpList_append_ask ⟨q, 255, 18446744073709551615, 1048576⟩ rfl (.tmp 69) (.tmp 71) rfl hA1 HZ.out hxok HN0.out HN1.out HN2.out HN3.out (by omega) (k + 1) (by omega) rfl rfl ?_; intro A5 c5 w5 hA5 hm5 ha5))
            have hUz : Up W2.heap.size W2 wr := ⟨hbr, hszr⟩
            go_roundw
            case rel => exact ⟨k + 1, _, A5, c5, by omega, by go_num, by first | rfl | (congr 1), by simp [hyl], hA5, (((hUz.alloc _).alloc _).mod hm5 (fun i hi => (hA1.lt i hi).1)).below⟩
            case measure => simp [intOf]; omega
        · have HM := hid (((Mod.refl (One wr.heap.size) wr).alloc (.cells #[.int .i64 q, .int .u8 255, .int .u64 18446744073709551615, .int .i64 1048576] 56)))
          have hAZ : OwnAsks (wr.alloc (.cells #[.int .i64 q, .int .u8 255, .int .u64 18446744073709551615, .int .i64 1048576] 56)) W2.heap.size (.slice Ay k cy) ys := hIy.mod (S := One wr.heap.size) (HM.out) (fun j hj e => by have := (hIy.lt j hj).2; unfold One at e; omega)
          have hA1 := hAZ.mod ((Mod.refl Nil (wr.alloc (.cells #[.int .i64 q, .int .u8 255, .int .u64 18446744073709551615, .int .i64 1048576] 56))).alloc (.cells #[.int .i64 q, .int .u8 255, .int .u64 18446744073709551615, .int .i64 1048576] 56)) (fun _ _ hf => hf)
          have hxok : AskD.ok ⟨q, 255, 18446744073709551615, 1048576⟩ := by
            unfold AskD.ok
            exact ⟨show (-9223372036854775808 : Int) ≤ q by have := HQ0.out; omega, show q ≤ 9223372036854775807 by have := HQ4.out; omega, show (18446744073709551615 : Nat) < 18446744073709551616 by decide, show (-9223372036854775808 : Int) ≤ 1048576 by decide, show (1048576 : Int) ≤ 9223372036854775807 by decide⟩
          have hzs : (wr.alloc (.cells #[.int .i64 q, .int .u8 255, .int .u64 18446744073709551615, .int .i64 1048576] 56)).heap.size = wr.heap.size + 1 := by simp [World.setCell]
          have nR := Row.new (wr.alloc (.cells #[.int .i64 q, .int .u8 255, .int .u64 18446744073709551615, .int .i64 1048576] 56)) 56 #[.int .i64 q, .int .u8 255, .int .u64 18446744073709551615, .int .i64 1048576]
          rw [hzs] at nR
          have n0 : ((wr.alloc (.cells #[.int .i64 q, .int .u8 255, .int .u64 18446744073709551615, .int .i64 1048576] 56)).alloc (.cells #[.int .i64 q, .int .u8 255, .int .u64 18446744073709551615, .int .i64 1048576] 56)).cell? ⟨wr.heap.size + 1, 0, none⟩ = some (.int .i64 (⟨q, 255, 18446744073709551615, 1048576⟩ : AskD).what) := nR.cell 0
          have n1 : ((wr.alloc (.cells #[.int .i64 q, .int .u8 255, .int .u64 18446744073709551615, .int .i64 1048576] 56)).alloc (.cells #[.int .i64 q, .int .u8 255, .int .u64 18446744073709551615, .int .i64 1048576] 56)).cell? ⟨wr.heap.size + 1, 1, none⟩ = some (.int .u8 ((⟨q, 255, 18446744073709551615, 1048576⟩ : AskD).b.toNat : Int)) := nR.cell 1
          have n2 : ((wr.alloc (.cells #[.int .i64 q, .int .u8 255, .int .u64 18446744073709551615, .int .i64 1048576] 56)).alloc (.cells #[.int .i64 q, .int .u8 255, .int .u64 18446744073709551615, .int .i64 1048576] 56)).cell? ⟨wr.heap.size + 1, 2, none⟩ = some (.int .u64 ((⟨q, 255, 18446744073709551615, 1048576⟩ : AskD).n : Int)) := nR.cell 2
          have n3 : ((wr.alloc (.cells #[.int .i64 q, .int .u8 255, .int .u64 18446744073709551615, .int .i64 1048576] 56)).alloc (.cells #[.int .i64 q, .int .u8 255, .int .u64 18446744073709551615, .int .i64 1048576] 56)).cell? ⟨wr.heap.size + 1, 3, none⟩ = some (.int .i64 (⟨q, 255, 18446744073709551615, 1048576⟩ : AskD).t) := nR.cell 3
          have hbz : W2.heap.size ≤ ((wr.alloc (.cells #[.int .i64 q, .int .u8 255, .int .u64 18446744073709551615, .int .i64 1048576] 56)).alloc (.cells #[.int .i64 q, .int .u8 255, .int .u64 18446744073709551615, .int .i64 1048576] 56)).heap.size := by rw [nblk]; omega
          have HN0 := hid n0
          have HN1 := hid n1
          have HN2 := hid n2
          have HN3 := hid n3
          have HZ := hid hbz
          clear n0 n1 n2 n3 nR hbz hAZ hzs
          go_wp2_with (first
            | (go_at_call 23; refine Calls.mono HP.out ?_; rintro e w' ⟨rfl, rfl⟩)
            | (at_builtin; refine wpList_append_ask ⟨q, 255, 18446744073709551615, 1048576⟩ rfl (.tmp 69) (.tmp 71) rfl hA1 HZ.out hxok HN0.out HN1.out HN2.out HN3.out (by omega) (k + 1) (by omega) rfl rfl ?_; intro A5 c5 w5 hA5 hm5 ha5))
          have hUz : Up W2.heap.size W2 wr := ⟨hbr, hszr⟩
          go_roundw
          case rel => exact ⟨k + 1, _, A5, c5, by omega, by go_num, by first | rfl | (congr 1), by simp [hyl], hA5, (((hUz.alloc _).alloc _).mod hm5 (fun i hi => (hA1.lt i hi).1)).below⟩
          case measure => simp [intOf]; omega
      · obtain rfl : k = xs.length := by omega
        have ho3 := ho2.old hbr
        have hC : ∀ W, Below wr.heap.size wr W → Calls Try.prog 32 #[.slice (some ⟨g1, 0, none⟩) b.length c1, .slice Ay xs.length cy] W fun e w' => e = .returned (.bool true) ∧ Below W.heap.size W w' := by
          intro W hW
          obtain ⟨A6, c6, he6, hs6⟩ := (ho3.old hW).form
          try simp only [List.length_set] at he6
          cases he6
          obtain ⟨A7, c7, he7, hq7⟩ := (hIy.mod (Mod.of_below hW Nil) (fun _ _ hf => hf)).form
          rw [hyl] at he7
          cases he7
          have := reads_any W _ _ (b.set kn to) _ cy ys (hs6.weaken (fun k hk _ => hk)) (by rw [List.length_set]; omega) hq7 (by omega)
          rw [hyl] at this
          rwa [List.length_set] at this
        have HR := hid hC
        clear hC ho3
        go_wp2_with (first
          | (go_at_call 20; refine (known_any _).mono ?_; rintro e w6 ⟨rfl, hb6⟩)
          | (go_at_call 32; refine Calls.mono (HR.out _ hb6) ?_; rintro e w7 ⟨rfl, hb7⟩))
        go_ret
        exact ⟨rfl, ((hUr.trans hb6).trans hb7).below⟩
  · obtain rfl : b = [] := List.eq_nil_of_length_eq_zero (by omega)
    have hU2 : Up w.heap.size w w1 := (Up.refl w).trans hb1
    have ho2 := ho1
    go_wp2_with fail
    have hI0 : OwnAsks w1 w1.heap.size (.slice none 0 0) [] := OwnAsks.nil _ _
    go_loopw [10, 11] (fun v i wr => ∃ (k : Nat) (ys : List AskD) (Ay : Option Addr) (cy : Nat), k ≤ xs.length ∧ i = .int .i64 k ∧ v = .slice Ay k cy ∧ ys.length = k ∧ OwnAsks wr w1.heap.size v ys ∧ Below w1.heap.size w1 wr) (fun _ i _ => xs.length - (intOf i).toNat)
    case atStart => exact ⟨0, [], none, 0, Nat.zero_le _, rfl, rfl, rfl, hI0, Below.refl _ _⟩
    case round =>
      clear hI0
      obtain ⟨k, ys, Ay, cy, hk, rfl, rfl, hyl, hIy, hbr⟩ := hrel
      have hUr : Up w.heap.size w wr := hU2.trans hbr
      have hszr : w1.heap.size ≤ wr.heap.size := hbr.size
      by_cases hlt : k < xs.length
      · have hkl : k ≤ 1048576 := by
          have h1 := length_weight (xs.take k)
          have h2 := weight_take xs k
          rw [List.length_take] at h1
          omega
        obtain ⟨g, o, rfl, hg, hat⟩ := h (by omega)
        have hx : xs[k]? = some xs[k] := List.getElem?_eq_getElem hlt
        obtain ⟨x, hxx⟩ : ∃ x, x = xs[k] := ⟨_, rfl⟩
        rw [← hxx] at hx
        obtain ⟨hxo, c0, _, _, _, _, _⟩ := (hat k x hx).up hUr.below hg
        have hP := pick_any wr x.what 4 hxo.1 hxo.2.1 (by omega) (by omega)
        have hq0 := Int.emod_nonneg x.what (show (4 : Int) ≠ 0 by omega)
        have hq4 := Int.emod_lt_of_pos x.what (show (0 : Int) < 4 by omega)
        obtain ⟨q, hqq⟩ : ∃ q, q = x.what % 4 := ⟨_, rfl⟩
        rw [← hqq] at hP hq0 hq4
        have HP := hid hP
        have HQ0 := hid hq0
        have HQ4 := hid hq4
        clear hP hqq hat hx hxx hxo hq0 hq4
        have nblk : ∀ (a : World) (o : Obj), (a.alloc o).heap.size = a.heap.size + 1 := fun a o => by simp
        by_cases hh : k < hs.length
        · obtain ⟨gq, oq, rfl, hgq, hgqs, hatq⟩ := hq (by omega)
          have hy : hs[k]? = some hs[k] := List.getElem?_eq_getElem hh
          obtain ⟨y, hyy⟩ : ∃ y, y = hs[k] := ⟨_, rfl⟩
          rw [← hyy] at hy
          have hgr : gq < wr.heap.size := Nat.lt_of_lt_of_le hgq hUr.size
          have hM1 := ((Mod.refl (One wr.heap.size) wr).alloc (.cells #[.int .i64 q, .int .u8 255, .int .u64 18446744073709551615, .int .i64 1048576] 56))
          have D := (hatq k y hy).mod (Mod.of_below hUr.below (fun k => w.heap.size ≤ k)) hgqs (by omega)
          clear hatq hy hyy
          have D0 := D.mod hM1 hgr (fun e => by unfold One at e; omega)
          obtain ⟨hyo, e0, e1, e2, e3⟩ := D0
          by_cases hm : y.what.tmod 3 = 0
          · have hM2 := ((Mod.refl (One wr.heap.size) wr).alloc (.cells #[.int .i64 q, .int .u8 (y.b.toNat : Int), .int .u64 18446744073709551615, .int .i64 1048576] 56))
            have hM3 := ((Mod.refl (One wr.heap.size) wr).alloc (.cells #[.int .i64 q, .int .u8 (y.b.toNat : Int), .int .u64 (y.n : Int), .int .i64 1048576] 56))
            have hM4 := ((Mod.refl (One wr.heap.size) wr).alloc (.cells #[.int .i64 q, .int .u8 (y.b.toNat : Int), .int .u64 (y.n : Int), .int .i64 y.t] 56))
            obtain ⟨_, _, _, f2, _⟩ := D.mod hM2 hgr (fun e => by unfold One at e; omega)
            obtain ⟨_, _, _, _, g3⟩ := D.mod hM3 hgr (fun e => by unfold One at e; omega)
            have HM := hid hM4
            clear hM1 hM2 hM3 hM4 D
            have hAZ : OwnAsks (wr.alloc (.cells #[.int .i64 q, .int .u8 (y.b.toNat : Int), .int .u64 (y.n : Int), .int .i64 y.t] 56)) w1.heap.size (.slice Ay k cy) ys := hIy.mod (S := One wr.heap.size) (HM.out) (fun j hj e => by have := (hIy.lt j hj).2; unfold One at e; omega)
            have hA1 := hAZ.mod ((Mod.refl Nil (wr.alloc (.cells #[.int .i64 q, .int .u8 (y.b.toNat : Int), .int .u64 (y.n : Int), .int .i64 y.t] 56))).alloc (.cells #[.int .i64 q, .int .u8 (y.b.toNat : Int), .int .u64 (y.n : Int), .int .i64 y.t] 56)) (fun _ _ hf => hf)
            have hxok : AskD.ok ⟨q, y.b, y.n, y.t⟩ := by
              unfold AskD.ok
              exact ⟨show (-9223372036854775808 : Int) ≤ q by have := HQ0.out; omega, show q ≤ 9223372036854775807 by have := HQ4.out; omega, hyo.2.2.1, hyo.2.2.2.1, hyo.2.2.2.2⟩
            have hzs : (wr.alloc (.cells #[.int .i64 q, .int .u8 (y.b.toNat : Int), .int .u64 (y.n : Int), .int .i64 y.t] 56)).heap.size = wr.heap.size + 1 := by simp [World.setCell]
            have nR := Row.new (wr.alloc (.cells #[.int .i64 q, .int .u8 (y.b.toNat : Int), .int .u64 (y.n : Int), .int .i64 y.t] 56)) 56 #[.int .i64 q, .int .u8 (y.b.toNat : Int), .int .u64 (y.n : Int), .int .i64 y.t]
            rw [hzs] at nR
            have n0 : ((wr.alloc (.cells #[.int .i64 q, .int .u8 (y.b.toNat : Int), .int .u64 (y.n : Int), .int .i64 y.t] 56)).alloc (.cells #[.int .i64 q, .int .u8 (y.b.toNat : Int), .int .u64 (y.n : Int), .int .i64 y.t] 56)).cell? ⟨wr.heap.size + 1, 0, none⟩ = some (.int .i64 (⟨q, y.b, y.n, y.t⟩ : AskD).what) := nR.cell 0
            have n1 : ((wr.alloc (.cells #[.int .i64 q, .int .u8 (y.b.toNat : Int), .int .u64 (y.n : Int), .int .i64 y.t] 56)).alloc (.cells #[.int .i64 q, .int .u8 (y.b.toNat : Int), .int .u64 (y.n : Int), .int .i64 y.t] 56)).cell? ⟨wr.heap.size + 1, 1, none⟩ = some (.int .u8 ((⟨q, y.b, y.n, y.t⟩ : AskD).b.toNat : Int)) := nR.cell 1
            have n2 : ((wr.alloc (.cells #[.int .i64 q, .int .u8 (y.b.toNat : Int), .int .u64 (y.n : Int), .int .i64 y.t] 56)).alloc (.cells #[.int .i64 q, .int .u8 (y.b.toNat : Int), .int .u64 (y.n : Int), .int .i64 y.t] 56)).cell? ⟨wr.heap.size + 1, 2, none⟩ = some (.int .u64 ((⟨q, y.b, y.n, y.t⟩ : AskD).n : Int)) := nR.cell 2
            have n3 : ((wr.alloc (.cells #[.int .i64 q, .int .u8 (y.b.toNat : Int), .int .u64 (y.n : Int), .int .i64 y.t] 56)).alloc (.cells #[.int .i64 q, .int .u8 (y.b.toNat : Int), .int .u64 (y.n : Int), .int .i64 y.t] 56)).cell? ⟨wr.heap.size + 1, 3, none⟩ = some (.int .i64 (⟨q, y.b, y.n, y.t⟩ : AskD).t) := nR.cell 3
            have hbz : w1.heap.size ≤ ((wr.alloc (.cells #[.int .i64 q, .int .u8 (y.b.toNat : Int), .int .u64 (y.n : Int), .int .i64 y.t] 56)).alloc (.cells #[.int .i64 q, .int .u8 (y.b.toNat : Int), .int .u64 (y.n : Int), .int .i64 y.t] 56)).heap.size := by rw [nblk]; omega
            have HN0 := hid n0
            have HN1 := hid n1
            have HN2 := hid n2
            have HN3 := hid n3
            have HZ := hid hbz
            clear n0 n1 n2 n3 nR hbz hAZ hzs
            go_wp2_with (first
              | (go_at_call 23; refine Calls.mono HP.out ?_; rintro e w' ⟨rfl, rfl⟩)
              | (at_builtin; refine wpList_append_ask ⟨q, y.b, y.n, y.t⟩ rfl (.tmp 69) (.tmp 71) rfl hA1 HZ.out hxok HN0.out HN1.out HN2.out HN3.out (by omega) (k + 1) (by omega) rfl rfl ?_; intro A5 c5 w5 hA5 hm5 ha5))
            have hUz : Up w1.heap.size w1 wr := ⟨hbr, hszr⟩
            go_roundw
            case rel => exact ⟨k + 1, _, A5, c5, by omega, by go_num, by first | rfl | (congr 1), by simp [hyl], hA5, (((hUz.alloc _).alloc _).mod hm5 (fun i hi => (hA1.lt i hi).1)).below⟩
            case measure => simp [intOf]; omega
          · have hm' : ¬ y.what.tmod 3 = 0 := hm
            clear D
            have HM := hid (((Mod.refl (One wr.heap.size) wr).alloc (.cells #[.int .i64 q, .int .u8 255, .int .u64 18446744073709551615, .int .i64 1048576] 56)))
            have hAZ : OwnAsks (wr.alloc (.cells #[.int .i64 q, .int .u8 255, .int .u64 18446744073709551615, .int .i64 1048576] 56)) w1.heap.size (.slice Ay k cy) ys := hIy.mod (S := One wr.heap.size) (HM.out) (fun j hj e => by have := (hIy.lt j hj).2; unfold One at e; omega)
            have hA1 := hAZ.mod ((Mod.refl Nil (wr.alloc (.cells #[.int .i64 q, .int .u8 255, .int .u64 18446744073709551615, .int .i64 1048576] 56))).alloc (.cells #[.int .i64 q, .int .u8 255, .int .u64 18446744073709551615, .int .i64 1048576] 56)) (fun _ _ hf => hf)
            have hxok : AskD.ok ⟨q, 255, 18446744073709551615, 1048576⟩ := by
              unfold AskD.ok
              exact ⟨show (-9223372036854775808 : Int) ≤ q by have := HQ0.out; omega, show q ≤ 9223372036854775807 by have := HQ4.out; omega, show (18446744073709551615 : Nat) < 18446744073709551616 by decide, show (-9223372036854775808 : Int) ≤ 1048576 by decide, show (1048576 : Int) ≤ 9223372036854775807 by decide⟩
            have hzs : (wr.alloc (.cells #[.int .i64 q, .int .u8 255, .int .u64 18446744073709551615, .int .i64 1048576] 56)).heap.size = wr.heap.size + 1 := by simp [World.setCell]
            have nR := Row.new (wr.alloc (.cells #[.int .i64 q, .int .u8 255, .int .u64 18446744073709551615, .int .i64 1048576] 56)) 56 #[.int .i64 q, .int .u8 255, .int .u64 18446744073709551615, .int .i64 1048576]
            rw [hzs] at nR
            have n0 : ((wr.alloc (.cells #[.int .i64 q, .int .u8 255, .int .u64 18446744073709551615, .int .i64 1048576] 56)).alloc (.cells #[.int .i64 q, .int .u8 255, .int .u64 18446744073709551615, .int .i64 1048576] 56)).cell? ⟨wr.heap.size + 1, 0, none⟩ = some (.int .i64 (⟨q, 255, 18446744073709551615, 1048576⟩ : AskD).what) := nR.cell 0
            have n1 : ((wr.alloc (.cells #[.int .i64 q, .int .u8 255, .int .u64 18446744073709551615, .int .i64 1048576] 56)).alloc (.cells #[.int .i64 q, .int .u8 255, .int .u64 18446744073709551615, .int .i64 1048576] 56)).cell? ⟨wr.heap.size + 1, 1, none⟩ = some (.int .u8 ((⟨q, 255, 18446744073709551615, 1048576⟩ : AskD).b.toNat : Int)) := nR.cell 1
            have n2 : ((wr.alloc (.cells #[.int .i64 q, .int .u8 255, .int .u64 18446744073709551615, .int .i64 1048576] 56)).alloc (.cells #[.int .i64 q, .int .u8 255, .int .u64 18446744073709551615, .int .i64 1048576] 56)).cell? ⟨wr.heap.size + 1, 2, none⟩ = some (.int .u64 ((⟨q, 255, 18446744073709551615, 1048576⟩ : AskD).n : Int)) := nR.cell 2
            have n3 : ((wr.alloc (.cells #[.int .i64 q, .int .u8 255, .int .u64 18446744073709551615, .int .i64 1048576] 56)).alloc (.cells #[.int .i64 q, .int .u8 255, .int .u64 18446744073709551615, .int .i64 1048576] 56)).cell? ⟨wr.heap.size + 1, 3, none⟩ = some (.int .i64 (⟨q, 255, 18446744073709551615, 1048576⟩ : AskD).t) := nR.cell 3
            have hbz : w1.heap.size ≤ ((wr.alloc (.cells #[.int .i64 q, .int .u8 255, .int .u64 18446744073709551615, .int .i64 1048576] 56)).alloc (.cells #[.int .i64 q, .int .u8 255, .int .u64 18446744073709551615, .int .i64 1048576] 56)).heap.size := by rw [nblk]; omega
            have HN0 := hid n0
            have HN1 := hid n1
            have HN2 := hid n2
            have HN3 := hid n3
            have HZ := hid hbz
            clear n0 n1 n2 n3 nR hbz hAZ hzs
            go_wp2_with (first
              | (go_at_call 23; refine Calls.mono HP.out ?_; rintro e w' ⟨rfl, rfl⟩)
              | (at_builtin; refine wpList_append_ask ⟨q, 255, 18446744073709551615, 1048576⟩ rfl (.tmp 69) (.tmp 71) rfl hA1 HZ.out hxok HN0.out HN1.out HN2.out HN3.out (by omega) (k + 1) (by omega) rfl rfl ?_; intro A5 c5 w5 hA5 hm5 ha5))
            have hUz : Up w1.heap.size w1 wr := ⟨hbr, hszr⟩
            go_roundw
            case rel => exact ⟨k + 1, _, A5, c5, by omega, by go_num, by first | rfl | (congr 1), by simp [hyl], hA5, (((hUz.alloc _).alloc _).mod hm5 (fun i hi => (hA1.lt i hi).1)).below⟩
            case measure => simp [intOf]; omega
        · have HM := hid (((Mod.refl (One wr.heap.size) wr).alloc (.cells #[.int .i64 q, .int .u8 255, .int .u64 18446744073709551615, .int .i64 1048576] 56)))
          have hAZ : OwnAsks (wr.alloc (.cells #[.int .i64 q, .int .u8 255, .int .u64 18446744073709551615, .int .i64 1048576] 56)) w1.heap.size (.slice Ay k cy) ys := hIy.mod (S := One wr.heap.size) (HM.out) (fun j hj e => by have := (hIy.lt j hj).2; unfold One at e; omega)
          have hA1 := hAZ.mod ((Mod.refl Nil (wr.alloc (.cells #[.int .i64 q, .int .u8 255, .int .u64 18446744073709551615, .int .i64 1048576] 56))).alloc (.cells #[.int .i64 q, .int .u8 255, .int .u64 18446744073709551615, .int .i64 1048576] 56)) (fun _ _ hf => hf)
          have hxok : AskD.ok ⟨q, 255, 18446744073709551615, 1048576⟩ := by
            unfold AskD.ok
            exact ⟨show (-9223372036854775808 : Int) ≤ q by have := HQ0.out; omega, show q ≤ 9223372036854775807 by have := HQ4.out; omega, show (18446744073709551615 : Nat) < 18446744073709551616 by decide, show (-9223372036854775808 : Int) ≤ 1048576 by decide, show (1048576 : Int) ≤ 9223372036854775807 by decide⟩
          have hzs : (wr.alloc (.cells #[.int .i64 q, .int .u8 255, .int .u64 18446744073709551615, .int .i64 1048576] 56)).heap.size = wr.heap.size + 1 := by simp [World.setCell]
          have nR := Row.new (wr.alloc (.cells #[.int .i64 q, .int .u8 255, .int .u64 18446744073709551615, .int .i64 1048576] 56)) 56 #[.int .i64 q, .int .u8 255, .int .u64 18446744073709551615, .int .i64 1048576]
          rw [hzs] at nR
          have n0 : ((wr.alloc (.cells #[.int .i64 q, .int .u8 255, .int .u64 18446744073709551615, .int .i64 1048576] 56)).alloc (.cells #[.int .i64 q, .int .u8 255, .int .u64 18446744073709551615, .int .i64 1048576] 56)).cell? ⟨wr.heap.size + 1, 0, none⟩ = some (.int .i64 (⟨q, 255, 18446744073709551615, 1048576⟩ : AskD).what) := nR.cell 0
          have n1 : ((wr.alloc (.cells #[.int .i64 q, .int .u8 255, .int .u64 18446744073709551615, .int .i64 1048576] 56)).alloc (.cells #[.int .i64 q, .int .u8 255, .int .u64 18446744073709551615, .int .i64 1048576] 56)).cell? ⟨wr.heap.size + 1, 1, none⟩ = some (.int .u8 ((⟨q, 255, 18446744073709551615, 1048576⟩ : AskD).b.toNat : Int)) := nR.cell 1
          have n2 : ((wr.alloc (.cells #[.int .i64 q, .int .u8 255, .int .u64 18446744073709551615, .int .i64 1048576] 56)).alloc (.cells #[.int .i64 q, .int .u8 255, .int .u64 18446744073709551615, .int .i64 1048576] 56)).cell? ⟨wr.heap.size + 1, 2, none⟩ = some (.int .u64 ((⟨q, 255, 18446744073709551615, 1048576⟩ : AskD).n : Int)) := nR.cell 2
          have n3 : ((wr.alloc (.cells #[.int .i64 q, .int .u8 255, .int .u64 18446744073709551615, .int .i64 1048576] 56)).alloc (.cells #[.int .i64 q, .int .u8 255, .int .u64 18446744073709551615, .int .i64 1048576] 56)).cell? ⟨wr.heap.size + 1, 3, none⟩ = some (.int .i64 (⟨q, 255, 18446744073709551615, 1048576⟩ : AskD).t) := nR.cell 3
          have hbz : w1.heap.size ≤ ((wr.alloc (.cells #[.int .i64 q, .int .u8 255, .int .u64 18446744073709551615, .int .i64 1048576] 56)).alloc (.cells #[.int .i64 q, .int .u8 255, .int .u64 18446744073709551615, .int .i64 1048576] 56)).heap.size := by rw [nblk]; omega
          have HN0 := hid n0
          have HN1 := hid n1
          have HN2 := hid n2
          have HN3 := hid n3
          have HZ := hid hbz
          clear n0 n1 n2 n3 nR hbz hAZ hzs
          go_wp2_with (first
            | (go_at_call 23; refine Calls.mono HP.out ?_; rintro e w' ⟨rfl, rfl⟩)
            | (at_builtin; refine wpList_append_ask ⟨q, 255, 18446744073709551615, 1048576⟩ rfl (.tmp 69) (.tmp 71) rfl hA1 HZ.out hxok HN0.out HN1.out HN2.out HN3.out (by omega) (k + 1) (by omega) rfl rfl ?_; intro A5 c5 w5 hA5 hm5 ha5))
          have hUz : Up w1.heap.size w1 wr := ⟨hbr, hszr⟩
          go_roundw
          case rel => exact ⟨k + 1, _, A5, c5, by omega, by go_num, by first | rfl | (congr 1), by simp [hyl], hA5, (((hUz.alloc _).alloc _).mod hm5 (fun i hi => (hA1.lt i hi).1)).below⟩
          case measure => simp [intOf]; omega
      · obtain rfl : k = xs.length := by omega
        have ho3 := ho2.old hbr
        have hC : ∀ W, Below wr.heap.size wr W → Calls Try.prog 32 #[.slice A1 0 c1, .slice Ay xs.length cy] W fun e w' => e = .returned (.bool true) ∧ Below W.heap.size W w' := by
          intro W hW
          obtain ⟨A6, c6, he6, hs6⟩ := (ho3.old hW).form
          try simp only [List.length_set] at he6
          cases he6
          obtain ⟨A7, c7, he7, hq7⟩ := (hIy.mod (Mod.of_below hW Nil) (fun _ _ hf => hf)).form
          rw [hyl] at he7
          cases he7
          have := reads_any W _ _ [] _ cy ys (hs6.weaken (fun k hk _ => hk)) (by simp) hq7 (by omega)
          rw [hyl] at this
          exact this
        have HR := hid hC
        clear hC ho3
        go_wp2_with (first
          | (go_at_call 20; refine (known_any _).mono ?_; rintro e w6 ⟨rfl, hb6⟩)
          | (go_at_call 32; refine Calls.mono (HR.out _ hb6) ?_; rintro e w7 ⟨rfl, hb7⟩))
        go_ret
        exact ⟨rfl, ((hUr.trans hb6).trans hb7).below⟩
theorem contract (H : Type) (enc : TypeId × Value → H) (W : World) (base : Nat) (args : Array Value) (ds gs : List (DataW H)) (before : List MemPlace)
    (hval : ∀ (j : Nat) t v, Try.f6.params[j]? = some t → args[j]? = some v → Value.okWide Try.prog W .any base t v)
    (hW : DataW.Whole enc Try.prog Try.f6.params.toList Rows.packNearSpec.vars false W args.toList ds gs before)
    (hk : Rows.uptoSmall H (ds ++ gs) = true) :
    Calls Try.prog 6 args W fun e W' => ∃ v, e = .returned v ∧ Rows.packNearSpec.post enc Try.prog Try.f6 false true false false W args v W' := by
  have hW' := hW
  obtain ⟨p, q, hA0, hV, rfl, hfz, hnd⟩ := hW
  have hA : DataW.TrodAll enc Try.prog W 0 (fun _ => true) true Try.f6.params.toList args.toList ds p := hA0
  rw [Try.params6] at hA hval
  obtain ⟨v0, v1, v2, v3, d0, d1, d2, d3, p0, p1, p2, p3, rfl, rfl, rfl, h0, h1, h2, h3⟩ := trodAll_four hA
  obtain ⟨rfl, rfl⟩ := trodVars_none hV
  obtain ⟨A0, c0, xs0, rfl, hlen0, hL0, hw0⟩ := open_lays (hval 0 38 v0 rfl rfl) h0
  obtain ⟨x1, rfl, rfl, rfl, wx1⟩ := open_int Try.underlying3 (hval 1 3 v1 rfl rfl) h1
  have hx1 := wf_i64 wx1
  obtain ⟨x2, rfl, rfl, rfl, wx2⟩ := open_int Try.underlying5 (hval 2 5 v2 rfl rfl) h2
  have hx2 := wf_u8 wx2
  obtain ⟨A3, c3, xs3, rfl, hlen3, hL3⟩ := open_asks (hval 3 52 v3 rfl rfl) h3
  have hbd := bound hk
  simp only [List.append_nil, List.cons_append, List.nil_append, Rows.uptoBulkAll] at hbd
  have e2 : ((UInt8.ofNat x2.toNat).toNat : Int) = x2 := by simp only [UInt8.toNat_ofNat']; omega
  have hwk := walk W A0 c0 xs0 x1 (UInt8.ofNat x2.toNat) A3 c3 xs3 hL0 hlen0 (by omega) hx1 hL3 hlen3
  rw [e2] at hwk
  refine (hwk).mono fun e W' ⟨he, hbl⟩ => ⟨.bool true, he, ?_⟩
  exact law_post laidOut (by kernel_rfl) Try.underlying4 (readable_of (by kernel_rfl)) rfl rfl hW' hbl

set_option maxRecDepth 100000 in
theorem lifted (os : Os) (started : os.Started) (H : Type) (enc : TypeId × Value → H) (F : Stop.Interp) :
    ReturnsInHanded {} Try.checked os 6 .any ((Rows.OpenSpec.upto Rows.packNearSpec).pre6 enc Try.prog Try.f6 Rows.packNearUptoRow.domain false) (((Rows.OpenSpec.upto Rows.packNearSpec).at F).post enc Try.prog Try.f6 false true false false) := by
  refine returnsInHanded_of_cond (C := Try.checked) (s := Rows.OpenSpec.upto Rows.packNearSpec) (k := Rows.uptoSmall) rfl own started (by kernel_rfl) Try.func6
    (OpenSpec.witness (enc := enc) (C := Try.checked) (s := Rows.OpenSpec.upto Rows.packNearSpec) (k := Rows.uptoSmall) rfl false ⟨#[], #[.slice none 0 0, .int .i64 0, .int .u8 0, .slice none 0 0], []⟩ 8 (by kernel_rfl) (by kernel_rfl) (by kernel_rfl)
      (x := ([.nil, .lit (.int .i64 0), .lit (.int .u8 0), .nil], [], [])) (by kernel_rfl) rfl (by kernel_rfl)) ?_
  intro W base args ds gs before hval hW _ hk _
  exact contract H enc W base args ds gs before hval hW hk

theorem proved : Rows.PackNearUptoSaid :=
  OpenClaim.holds_of_cond 6 Try.f6 rfl rfl rfl rfl rfl rfl rfl ⟨rfl, rfl, rfl, rfl, rfl⟩ rfl rfl rfl rfl rfl (by kernel_rfl) Try.func6 (by kernel_rfl)
    (of_decide_eq_true (by kernel_rfl)) (by unfold Func.isWrapper; first | (rw [if_pos (by decide +kernel)]; kernel_rfl) | (rw [if_neg (by decide +kernel)]; exact ⟨rfl, rfl⟩))
    (fun os started H enc _ F => lifted os started H enc F)
end Go.Proofs.Ytefggpcfijcneaa.packNear
