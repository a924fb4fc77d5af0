/-
  What is read without anything wrong is laid as the same bytes. Where what comes in is of bulk at most 1048576.
-/
import Derived.Test.YtefggpcfijcneaaLaid
import Derived.Test.YtefggpcfijcneaaOneMath
import Derived.Test.YtefggpcfijcneaaReader
import Derived.Test.YtefggpcfijcneaaLaw
import Derived.Deep.RegionHeld3
import Derived.Deep.RegionWith
namespace Go.Proofs.Ytefggpcfijcneaa.packOne
open Go.ChangeShapes Go.WideShapes Go.ChangeAt Go.RowKit

def layCells (x : LayD) : List Value := [.int .i64 x.what, .int .u8 (x.b.toNat : Int), .int .u64 (x.n : Int), .int .i64 x.i, .slice x.A x.t.length x.c]
def laysCells (xs : List LayD) : List Value := xs.flatMap layCells
theorem laysCells_length (xs : List LayD) : (laysCells xs).length = xs.length * 5 := by
  induction xs with
  | nil => rfl
  | cons x xs ih =>
    show (layCells x ++ laysCells xs).length = _
    rw [List.length_append, ih, List.length_cons]
    simp [layCells]
    omega
theorem laysCells_get : ∀ {xs : List LayD} {k : Nat} {x : LayD}, xs[k]? = some x → ∀ j, j < 5 → (laysCells xs)[k * 5 + j]? = (layCells x)[j]?
  | [], _, _, h, _, _ => by simp at h
  | y :: ys, 0, x, h, j, hj => by
    obtain rfl : y = x := by simpa using h
    show (layCells y ++ laysCells ys)[0 * 5 + j]? = _
    rw [List.getElem?_append_left (by simp [layCells]; omega)]
    simp
  | y :: ys, k + 1, x, h, j, hj => by
    have h' : ys[k]? = some x := by simpa using h
    show (layCells y ++ laysCells ys)[(k + 1) * 5 + j]? = _
    rw [List.getElem?_append_right (by simp [layCells]; omega)]
    rw [show (k + 1) * 5 + j - (layCells y).length = k * 5 + j by simp [layCells]; omega]
    exact laysCells_get h' j hj

/-- the things that the function has gathered itself; their texts lie in other blocks, behind block p -/
def OwnLays (w : World) (base p : Nat) (v : Value) (xs : List LayD) : Prop :=
  w.ownsRow base 43 5 v xs.length (laysCells xs) ∧ ∀ x ∈ xs, x.ok ∧ Bs (fun k => p < k ∧ k < w.heap.size ∧ ¬ At v k) w x.A x.c x.t

theorem OwnLays.form {w : World} {base p : Nat} {v : Value} {xs : List LayD} (h : OwnLays w base p v xs) : ∃ A c, v = .slice A xs.length c ∧ Lays w w.heap.size A xs := by
  have hh := h.1.2
  rcases hh with ⟨hv, hn⟩ | ⟨g, cap, cur, hv, hb, hg, hnc, hm, hs, ht⟩
  · have hl : xs = [] := List.eq_nil_of_length_eq_zero hn
    subst hl
    exact ⟨none, 0, hv, fun h => absurd h (by simp)⟩
  · refine ⟨some ⟨g, 0, none⟩, cap, hv, fun _ => ⟨g, 0, rfl, (Array.getElem?_eq_some_iff.1 hg).1, fun k x hk => ?_⟩⟩
    have hat : ∀ j, j < 5 → w.cell? ⟨g, 0 + k * 5 + j, none⟩ = (layCells x)[j]? := by
      intro j hj
      have hlt : j < (layCells x).length := by simpa [layCells] using hj
      have hc := laysCells_get hk j hj
      rw [List.getElem?_eq_getElem hlt] at hc ⊢
      have := h.1.cells (g := g) (by rw [hv]; rfl) (k * 5 + j) _ hc
      rw [Addr.add_lit] at this
      rw [Nat.add_assoc]
      exact this
    obtain ⟨hxo, hxt⟩ := h.2 x (List.mem_of_getElem? hk)
    exact ⟨hxo, by simpa [layCells] using hat 0 (by omega), by simpa [layCells] using hat 1 (by omega), by simpa [layCells] using hat 2 (by omega), by simpa [layCells] using hat 3 (by omega), by simpa [layCells] using hat 4 (by omega), hxt.weaken (fun k hk _ => hk)⟩
theorem OwnLays.nil (w : World) (base p : Nat) : OwnLays w base p (.slice none 0 0) [] := ⟨World.ownsRow_nil _ _ _ _, by simp⟩
theorem OwnLays.mod {S : Nat → Prop} {w w' : World} {base p : Nat} {v : Value} {xs : List LayD} (h : OwnLays w base p v xs) (hm : Mod S w w') (hn : ∀ k, k < w.heap.size → p < k → ¬ S k) (hp : p < base) : OwnLays w' base p v xs := by
  refine ⟨⟨h.1.1, ?_⟩, fun x hx => ⟨(h.2 x hx).1, ?_⟩⟩
  · rcases h.1.2 with hh | ⟨g, cap, cur, hv, hb, hg, r⟩
    · exact .inl hh
    · exact .inr ⟨g, cap, cur, hv, hb, (hm.block g (Array.getElem?_eq_some_iff.1 hg).1 (hn g (Array.getElem?_eq_some_iff.1 hg).1 (by omega))).trans hg, r⟩
  · have hb := (h.2 x hx).2
    have h1 := (hb.mod hm (fun k hk => hn k hk.2.1 hk.1))
    exact h1.weaken (fun k hk hs => ⟨hs.1, hk, hs.2.2⟩)
theorem OwnLays.lt {w : World} {base p : Nat} {v : Value} {xs : List LayD} (h : OwnLays w base p v xs) : ∀ k, At v k → base ≤ k ∧ k < w.heap.size := fun k hk => World.ownsRow.lt h.1 k hk

/-- append of one more -/
theorem run_append_lay {ty : TypeId} {w : World} {base p g : Nat} {v : Value} {xs : List LayD} {x : LayD} (hown : OwnLays w base p v xs) (hb : base ≤ w.heap.size) (hx : x.ok) (hxt : Bs (fun k => p < k ∧ k < w.heap.size ∧ ¬ At v k) w x.A x.c x.t)
    (h0 : w.cell? ⟨g, 0, none⟩ = some (.int .i64 x.what)) (h1 : w.cell? ⟨g, 1, none⟩ = some (.int .u8 (x.b.toNat : Int))) (h2 : w.cell? ⟨g, 2, none⟩ = some (.int .u64 (x.n : Int))) (h3 : w.cell? ⟨g, 3, none⟩ = some (.int .i64 x.i)) (h4 : w.cell? ⟨g, 4, none⟩ = some (.slice x.A x.t.length x.c)) (hlen : xs.length ≤ 1048576) :
    ∃ v' w', (Builtin.append_ #[38, 38] ty #[v, .slice (some ⟨g, 0, none⟩) 1 1]).run Try.prog w = .ok v' w' ∧ OwnLays w' base p v' (xs ++ [x]) ∧ Mod (At v) w w' ∧ (∀ k, At v' k → At v k ∨ k = w.heap.size) := by
  obtain ⟨i, hi, hz0, hz1, hz2⟩ := info_parts (show (Try.prog.info? 43).map (fun i => (i.zero, i.size, i.bytes)) = some (some (.agg #[.int .i64 0, .int .u8 0, .int .u64 0, .int .i64 0, .slice none 0 0]), 5, 56) by kernel_rfl)
  have hcells : ∀ j u, (layCells x)[j]? = some u → w.cell? ((⟨g, 0, none⟩ : Addr).add j) = some u := by
    intro j u hj
    rw [Addr.add_lit, Nat.zero_add]
    have hlt := (List.getElem?_eq_some_iff.1 hj).1
    simp [layCells] at hlt
    rcases (show j = 0 ∨ j = 1 ∨ j = 2 ∨ j = 3 ∨ j = 4 by omega) with rfl | rfl | rfl | rfl | rfl <;> simp [layCells] at hj <;> subst hj <;> assumption
  obtain ⟨v', w', hrun, h5, h6, _, h7⟩ := run_append_own_at (P := Try.prog) w base 38 ty 43 i (.agg #[.int .i64 0, .int .u8 0, .int .u64 0, .int .i64 0, .slice none 0 0]) 5 56 Try.underlying38 hi hz0 hz1 hz2 rfl (by decide) v xs.length (laysCells xs) hown.1 ⟨g, 0, none⟩ 1 1 (layCells x) rfl hcells (by intro u hu; simp [layCells] at hu; rcases hu with rfl | rfl | rfl | rfl | rfl <;> rfl)
    (by unfold maxLen; omega) (by omega) hb
  have hm : Mod (At v) w w' := Mod.of_grown h6 (fun k hk => hk)
  have hat : ∀ k, At v' k → At v k ∨ k = w.heap.size := fun k hk => by
    rcases h7 with h7 | h7
    · exact .inl (by unfold At at hk ⊢; rw [← h7]; exact hk)
    · right
      unfold At at hk
      rw [h7] at hk
      exact (Option.some.inj hk).symm
  have hbs : ∀ y : LayD, Bs (fun k => p < k ∧ k < w.heap.size ∧ ¬ At v k) w y.A y.c y.t → Bs (fun k => p < k ∧ k < w'.heap.size ∧ ¬ At v' k) w' y.A y.c y.t := fun y hy =>
    (hy.mod hm (fun k hk => hk.2.2)).weaken (fun k hk hs => ⟨hs.1, hk, fun ha => by
      rcases hat k ha with h | h
      · exact hs.2.2 h
      · have := hs.2.1; omega⟩)
  refine ⟨v', w', hrun, ⟨?_, ?_⟩, hm, hat⟩
  · have e : laysCells (xs ++ [x]) = laysCells xs ++ layCells x := by unfold laysCells; rw [List.flatMap_append]; simp
    rw [e, List.length_append]
    exact h5
  · intro y hy
    rcases List.mem_append.1 hy with hy | hy
    · exact ⟨(hown.2 y hy).1, hbs y (hown.2 y hy).2⟩
    · obtain rfl : y = x := by simpa using hy
      exact ⟨hx, hbs _ hxt⟩

theorem wpList_append_lay {ops : Array Oper} {rest : List Oper} {o : Oper} {a : Act} {Q : Exit → Act → World → Prop} {w : World} {base p g : Nat} {v : Value} {xs : List LayD} (x : LayD) (hgd : o.guard = none) (s y : Operand)
    (ho : o.op = .call { callee := .builtin .append, args := #[s, y], argTypes := #[38, 38] })
    (hown : OwnLays w base p v xs) (hb : base ≤ w.heap.size) (hx : x.ok) (hxt : Bs (fun k => p < k ∧ k < w.heap.size ∧ ¬ At v k) w x.A x.c x.t)
    (h0 : w.cell? ⟨g, 0, none⟩ = some (.int .i64 x.what)) (h1 : w.cell? ⟨g, 1, none⟩ = some (.int .u8 (x.b.toNat : Int))) (h2 : w.cell? ⟨g, 2, none⟩ = some (.int .u64 (x.n : Int))) (h3 : w.cell? ⟨g, 3, none⟩ = some (.int .i64 x.i)) (h4 : w.cell? ⟨g, 4, none⟩ = some (.slice x.A x.t.length x.c)) (hlen : xs.length ≤ 1048576)
    (n : Nat) (hn : n = xs.length + 1) (hs : a.eval s = v) (hy : a.eval y = .slice (some ⟨g, 0, none⟩) 1 1)
    (h : ∀ A' c' w', OwnLays w' base p (.slice A' n c') (xs ++ [x]) → Mod (At v) w w' → (∀ k, At (.slice A' n c') k → At v k ∨ k = w.heap.size) → wpList Try.prog ops Q rest (a.put o.dst (.slice A' n c')) w') : wpList Try.prog ops Q (o :: rest) a w := by
  refine wpList_plain hgd fun K hK => ?_
  obtain ⟨v', w', hrun, h5, h6, h7⟩ := run_append_lay (ty := o.type) hown hb hx hxt h0 h1 h2 h3 h4 hlen
  obtain ⟨A', c', rfl, _⟩ := h5.form
  rw [List.length_append, List.length_singleton, ← hn] at h5 hrun h7
  unfold Oper.wp execOp
  simp only [ho, resolve, invoke, builtin, Sem.run_bind, Sem.run_pure, Result.andThen_ok, List.map_toArray, List.map_cons, List.map_nil, hs, hy, hrun]
  exact hK _ _ (h A' c' w' h5 h6 h7)

/-- a []int, as it lies -/
def Nums (w : World) (A : Option Addr) (zs : List Int) : Prop :=
  0 < zs.length → ∃ g o, A = some ⟨g, o, none⟩ ∧ g < w.heap.size ∧ ∀ (k : Nat) (z : Int), zs[k]? = some z → w.cell? ⟨g, o + k, none⟩ = some (.int .i64 z) ∧ -9223372036854775808 ≤ z ∧ z ≤ 9223372036854775807
section
variable {H : Type} {enc : TypeId × Value → H}
/-- a []int that comes in -/
theorem open_nums {W : World} {base b0 : Nat} {r : Reach} {spare : Nat → Bool} {held : Bool} {v : Value} {d : DataW H} {p : List MemPlace} (hval : Value.okWide Try.prog W r b0 59 v) (h : DataW.Trod enc Try.prog W base spare held 59 v d p) :
    ∃ A c zs, v = .slice A zs.length c ∧ zs.length ≤ maxLen ∧ Nums W A zs ∧ zs.length + 1 ≤ Rows.uptoBulk d := by
  obtain ⟨a, len, cap, rfl⟩ := okWide_slice Try.underlying59 hval
  obtain ⟨fuel, hf⟩ := h
  rcases open_ints Try.underlying59 Try.underlying3 (by kernel_rfl) hf with ⟨hcs, hx⟩ | ⟨a', len', cap', zs, hcs, _, hl, hm, hz, hx, hcell, hwz⟩
  · simp [Value.cells] at hcs
    obtain ⟨rfl, rfl, rfl⟩ := hcs
    exact ⟨none, 0, [], rfl, Nat.zero_le _, fun h => absurd h (by simp), bulk_pos _⟩
  · simp [Value.cells] at hcs
    obtain ⟨rfl, rfl, rfl⟩ := hcs
    have hlz : len ≤ zs.length := by rw [hz]; split <;> omega
    refine ⟨some a', cap, zs.take len, by simp; omega, by simp; omega, fun hn => ?_, ?_⟩
    · simp at hn
      have h0 := hcell 0 (by omega)
      have hs : a' = ⟨a'.block, a'.off, none⟩ := by
        have := h0
        rw [show a'.add 0 = a' by simp [Addr.add]] at this
        exact spot_none this
      have hb := World.block_lt_of_cell? _ _ h0
      rw [hs, Addr.add_lit] at hb
      refine ⟨a'.block, a'.off, by rw [← hs], hb, fun k z hk => ?_⟩
      have hkl := (List.getElem?_eq_some_iff.1 hk).1
      simp at hkl
      have hck := hcell k (by omega)
      rw [hs, Addr.add_lit] at hck
      rw [List.getElem?_take, if_pos (by omega)] at hk
      have hg : zs.getD k 0 = z := by rw [List.getD, hk]; rfl
      rw [hg] at hck
      exact ⟨hck, wf_i64 (hwz z (List.mem_of_getElem? hk))⟩
    · rw [(Prod.mk.inj hx).1]
      simp only [Rows.uptoBulk]
      have h1 := bulk_length (lits .i64 (zs.take len) : List (DataW H))
      simp only [lits, List.length_map] at h1 ⊢
      omega
end

theorem laidAll_snoc (ys : List LayD) (x : LayD) : laidAll (ys ++ [x]) = laidAll ys ++ x.bytes := by
  unfold laidAll
  rw [List.flatMap_append]
  simp
theorem weight_snoc (ys : List LayD) (x : LayD) : weight (ys ++ [x]) = weight ys + (x.t.length + 5) := by
  unfold weight
  simp

set_option maxRecDepth 100000 in
set_option maxHeartbeats 4000000 in
theorem walk (w : World) (A : Option Addr) (c : Nat) (b : List UInt8) (Q : Option Addr) (cq : Nat) (zs : List Int) (h : Bs (fun k => k < w.heap.size) w A c b) (hq : Nums w Q zs) (hw : b.length + zs.length ≤ 1048576) :
    Calls Try.prog 9 #[.slice A b.length c, .slice Q zs.length cq] w fun e w' => e = .returned (.bool true) ∧ Below w.heap.size w w' := by
  have hl : b.length ≤ 140737488355328 := by omega
  have hzl : zs.length ≤ 1048576 := by omega
  go_enter Try.func9, Try.ntmps9
  go_wp2_with fail
  refine (newReader_any w A c b h hl).mono ?_; rintro e w1 ⟨p, rfl, hp1, hr1, hb1⟩
  go_wp2_with fail
  refine (known_any _).mono ?_; rintro e w2 ⟨rfl, hb2⟩
  have hU2 := ((Up.refl w).trans hb1).trans hb2
  have hr2 := hr1.mod (Mod.of_below hb2 Nil) (fun _ _ _ hf => hf) hp1
  have hp2 := hr2.lt
  have hI0 : OwnLays w2 w2.heap.size p (.slice none 0 0) [] := OwnLays.nil _ _ _
  go_wp2_with fail
  go_loopw [6, 7] (fun v i wr => ∃ (k : Nat) (ys : List LayD) (Ay : Option Addr) (cy : Nat) (rest : List UInt8) (f : Nat), k ≤ zs.length ∧ i = .int .i64 k ∧ v = .slice Ay k cy ∧ ys.length = k ∧ OwnLays wr w2.heap.size p v ys ∧ Rdr wr w.heap.size p rest f ∧
    (f = 0 → b = laidAll ys ++ rest) ∧ weight ys + rest.length ≤ 5 * k + b.length ∧ Up w.heap.size w wr ∧ w2.heap.size ≤ wr.heap.size ∧ Bad f) (fun _ i _ => zs.length - (intOf i).toNat)
  case atStart => exact ⟨0, [], none, 0, b, 0, Nat.zero_le _, rfl, rfl, rfl, hI0, hr2, fun _ => rfl, by simp [weight], hU2, Nat.le_refl _, .inl rfl⟩
  case round =>
    clear hI0 hr1 hr2 hb1 hb2
    obtain ⟨k, ys, Ay, cy, rest, f, hk, rfl, rfl, hyl, hIy, hrd, hsaid, hwt, hU, hsz, hbad⟩ := hrel
    have nblk : ∀ (a : World) (o : Obj), (a.alloc o).heap.size = a.heap.size + 1 := fun a o => by simp
    by_cases hlt : k < zs.length
    · obtain ⟨g, o, rfl, hg, hat⟩ := hq (by omega)
      have hx : zs[k]? = some zs[k] := List.getElem?_eq_getElem hlt
      obtain ⟨z, hzz⟩ : ∃ z, z = zs[k] := ⟨_, rfl⟩
      rw [← hzz] at hx
      obtain ⟨c0', hz1, hz2⟩ := hat k z hx
      have c0 := (hU.below.cell (p := ⟨g, o + k, none⟩) hg).trans c0'
      have hP := pick_any wr z 4 hz1 hz2 (by omega) (by omega)
      have hq0 := Int.emod_nonneg z (show (4 : Int) ≠ 0 by omega)
      have hq4 := Int.emod_lt_of_pos z (show (0 : Int) < 4 by omega)
      obtain ⟨q, hqq⟩ : ∃ q, q = z % 4 := ⟨_, rfl⟩
      rw [← hqq] at hP hq0 hq4
      have HP := hid hP
      clear hP hqq hat hx hzz c0' hz1 hz2
      by_cases h0 : q = 0
      · subst h0
        have hz : ∃ z, rbyte 255 rest f = z := ⟨_, rfl⟩
        have hC := fun W (hW : Rdr W w.heap.size p rest f) => readerByte_any W w.heap.size p f 255 rest hW (by decide)
        have hlt1 := rbyte_lt 255 rest f
        have hlen1 := rbyte_length 255 rest f
        have hconv := rbyte_back (l := rest) (f := f)
        have hbad1 := rbyte_bad (most := 255) (l := rest) hbad
        obtain ⟨⟨z1, rest', f'⟩, hz⟩ := hz
        rw [hz] at hC hlt1 hlen1 hconv hbad1
        simp only at hC hlt1 hlen1 hconv hbad1
        obtain ⟨zb, rfl⟩ : ∃ zb : UInt8, zb.toNat = z1 := ⟨UInt8.ofNat z1, by simp; omega⟩
        have HC := hid hC
        clear hC hz
        go_wp2_with (go_at_call 23; refine Calls.mono HP.out ?_; rintro e w' ⟨rfl, rfl⟩)
        have hrX : Rdr (wr.alloc (.cells #[.int .i64 0, .int .u8 0, .int .u64 0, .int .i64 0, .slice none 0 0] 43)) w.heap.size p rest f := hrd.mod ((Mod.refl Nil wr).alloc _) (fun _ _ _ hf => hf) hp1
        refine (HC.out _ hrX).mono ?_; rintro e w5 ⟨rfl, hr5, hm5⟩
        have hpr : p < wr.heap.size := by omega
        have hs5z : (wr.alloc (.cells #[.int .i64 0, .int .u8 0, .int .u64 0, .int .i64 0, .slice none 0 0] 43)).heap.size ≤ w5.heap.size := hm5.size
        rw [nblk] at hs5z
        have R5 := (Row.new wr 43 #[.int .i64 0, .int .u8 0, .int .u64 0, .int .i64 0, .slice none 0 0]).mod hm5 (fun e => by unfold One at e; omega)
        have s0 := R5.cell 1
        have sf := R5.frozen 1
        have R6 := R5.set 1 (.int .u8 (zb.toNat : Int))
        have l0 := R6.cell 0
        have l1 := R6.cell 1
        have l2 := R6.cell 2
        have l3 := R6.cell 3
        have l4 := R6.cell 4
        simp at s0 sf l0 l1 l2 l3 l4
        have hM : Mod (fun j => j = p ∨ j = wr.heap.size) wr (w5.setCell ⟨wr.heap.size, 1, none⟩ (.int .u8 (zb.toNat : Int))) := (((Mod.refl (fun j => j = p ∨ j = wr.heap.size) wr).alloc (.cells #[.int .i64 0, .int .u8 0, .int .u64 0, .int .i64 0, .slice none 0 0] 43)).trans hm5 (fun j _ hj => .inl hj)).setCell (p := ⟨wr.heap.size, 1, none⟩) (fun _ => .inr rfl) _
        have hAZ : OwnLays (w5.setCell ⟨wr.heap.size, 1, none⟩ (.int .u8 (zb.toNat : Int))) w2.heap.size p (.slice Ay k cy) ys := hIy.mod hM (fun j hj1 hj2 e => by rcases e with e | e <;> omega) hp2
        have hA1 : OwnLays ((w5.setCell ⟨wr.heap.size, 1, none⟩ (.int .u8 (zb.toNat : Int))).alloc (.cells #[.int .i64 0, .int .u8 (zb.toNat : Int), .int .u64 0, .int .i64 0, .slice none 0 0] 43)) w2.heap.size p (.slice Ay k cy) ys := hAZ.mod ((Mod.refl Nil (w5.setCell ⟨wr.heap.size, 1, none⟩ (.int .u8 (zb.toNat : Int)))).alloc (.cells #[.int .i64 0, .int .u8 (zb.toNat : Int), .int .u64 0, .int .i64 0, .slice none 0 0] 43)) (fun _ _ _ hf => hf) hp2
        have hzs : (w5.setCell ⟨wr.heap.size, 1, none⟩ (.int .u8 (zb.toNat : Int))).heap.size = w5.heap.size := by simp [World.setCell]
        have nR := Row.new (w5.setCell ⟨wr.heap.size, 1, none⟩ (.int .u8 (zb.toNat : Int))) 43 #[.int .i64 0, .int .u8 (zb.toNat : Int), .int .u64 0, .int .i64 0, .slice none 0 0]
        rw [hzs] at nR
        have N0 := hid (show ((w5.setCell ⟨wr.heap.size, 1, none⟩ (.int .u8 (zb.toNat : Int))).alloc (.cells #[.int .i64 0, .int .u8 (zb.toNat : Int), .int .u64 0, .int .i64 0, .slice none 0 0] 43)).cell? ⟨w5.heap.size, 0, none⟩ = some (.int .i64 (⟨0, zb, 0, 0, none, 0, []⟩ : LayD).what) from nR.cell 0)
        have N1 := hid (show ((w5.setCell ⟨wr.heap.size, 1, none⟩ (.int .u8 (zb.toNat : Int))).alloc (.cells #[.int .i64 0, .int .u8 (zb.toNat : Int), .int .u64 0, .int .i64 0, .slice none 0 0] 43)).cell? ⟨w5.heap.size, 1, none⟩ = some (.int .u8 ((⟨0, zb, 0, 0, none, 0, []⟩ : LayD).b.toNat : Int)) from nR.cell 1)
        have N2 := hid (show ((w5.setCell ⟨wr.heap.size, 1, none⟩ (.int .u8 (zb.toNat : Int))).alloc (.cells #[.int .i64 0, .int .u8 (zb.toNat : Int), .int .u64 0, .int .i64 0, .slice none 0 0] 43)).cell? ⟨w5.heap.size, 2, none⟩ = some (.int .u64 ((⟨0, zb, 0, 0, none, 0, []⟩ : LayD).n : Int)) from nR.cell 2)
        have N3 := hid (show ((w5.setCell ⟨wr.heap.size, 1, none⟩ (.int .u8 (zb.toNat : Int))).alloc (.cells #[.int .i64 0, .int .u8 (zb.toNat : Int), .int .u64 0, .int .i64 0, .slice none 0 0] 43)).cell? ⟨w5.heap.size, 3, none⟩ = some (.int .i64 (⟨0, zb, 0, 0, none, 0, []⟩ : LayD).i) from nR.cell 3)
        have N4 := hid (show ((w5.setCell ⟨wr.heap.size, 1, none⟩ (.int .u8 (zb.toNat : Int))).alloc (.cells #[.int .i64 0, .int .u8 (zb.toNat : Int), .int .u64 0, .int .i64 0, .slice none 0 0] 43)).cell? ⟨w5.heap.size, 4, none⟩ = some (.slice (⟨0, zb, 0, 0, none, 0, []⟩ : LayD).A (⟨0, zb, 0, 0, none, 0, []⟩ : LayD).t.length (⟨0, zb, 0, 0, none, 0, []⟩ : LayD).c) from nR.cell 4)
        have hbz := hid (show w2.heap.size ≤ ((w5.setCell ⟨wr.heap.size, 1, none⟩ (.int .u8 (zb.toNat : Int))).alloc (.cells #[.int .i64 0, .int .u8 (zb.toNat : Int), .int .u64 0, .int .i64 0, .slice none 0 0] 43)).heap.size by rw [nblk, hzs]; omega)
        have hxok : LayD.ok ⟨0, zb, 0, 0, none, 0, []⟩ := by
          unfold LayD.ok
          exact ⟨show (-9223372036854775808 : Int) ≤ 0 by decide, show (0 : Int) ≤ 9223372036854775807 by decide, show (0 : Nat) < 18446744073709551616 by decide, show (-9223372036854775808 : Int) ≤ 0 by decide, show (0 : Int) ≤ 9223372036854775807 by decide⟩
        have hxt : Bs (fun j => p < j ∧ j < ((w5.setCell ⟨wr.heap.size, 1, none⟩ (.int .u8 (zb.toNat : Int))).alloc (.cells #[.int .i64 0, .int .u8 (zb.toNat : Int), .int .u64 0, .int .i64 0, .slice none 0 0] 43)).heap.size ∧ ¬ At (.slice Ay k cy) j) ((w5.setCell ⟨wr.heap.size, 1, none⟩ (.int .u8 (zb.toNat : Int))).alloc (.cells #[.int .i64 0, .int .u8 (zb.toNat : Int), .int .u64 0, .int .i64 0, .slice none 0 0] 43)) (⟨0, zb, 0, 0, none, 0, []⟩ : LayD).A (⟨0, zb, 0, 0, none, 0, []⟩ : LayD).c (⟨0, zb, 0, 0, none, 0, []⟩ : LayD).t := Bs.nil _ _ _ (Nat.zero_le _)
        have hrY : Rdr ((w5.setCell ⟨wr.heap.size, 1, none⟩ (.int .u8 (zb.toNat : Int))).alloc (.cells #[.int .i64 0, .int .u8 (zb.toNat : Int), .int .u64 0, .int .i64 0, .slice none 0 0] 43)) w.heap.size p rest' f' := (hr5.mod (Mod.one w5 wr.heap.size 1 (.int .u8 (zb.toNat : Int))) (fun j _ hj e => by unfold One at e; omega) hp1).mod ((Mod.refl Nil (w5.setCell ⟨wr.heap.size, 1, none⟩ (.int .u8 (zb.toNat : Int)))).alloc (.cells #[.int .i64 0, .int .u8 (zb.toNat : Int), .int .u64 0, .int .i64 0, .slice none 0 0] 43)) (fun _ _ _ hf => hf) hp1
        have hUY : Up w.heap.size w ((w5.setCell ⟨wr.heap.size, 1, none⟩ (.int .u8 (zb.toNat : Int))).alloc (.cells #[.int .i64 0, .int .u8 (zb.toNat : Int), .int .u64 0, .int .i64 0, .slice none 0 0] 43)) := ((((hU.alloc (.cells #[.int .i64 0, .int .u8 0, .int .u64 0, .int .i64 0, .slice none 0 0] 43)).one hm5 hp1)).setCell (by omega) _).alloc _
        clear R5 R6 hM hAZ nR hzs hr5 hrX
        go_wp2_with (at_builtin; refine wpList_append_lay ⟨0, zb, 0, 0, none, 0, []⟩ rfl (.tmp 51) (.tmp 53) rfl hA1 hbz.out hxok hxt N0.out N1.out N2.out N3.out N4.out (by omega) (k + 1) (by omega) rfl rfl ?_; intro A7 c7 w7 hA7 hm7 ha7)
        go_roundw
        case rel =>
          refine ⟨k + 1, _, A7, c7, rest', f', by omega, by go_num, by first | rfl | (congr 1), by simp [hyl], hA7, hrY.mod hm7 (fun j _ hj e => by have := (hIy.lt j e).1; omega) hp1, ?_, ?_, hUY.mod hm7 (fun j hj => by have := (hIy.lt j hj).1; have := hU2.size; omega), ?_, hbad1⟩
          · intro hf
            obtain ⟨hf0, hb⟩ := hconv hf
            rw [laidAll_snoc, hsaid hf0, hb]
            simp [LayD.bytes]
          · rw [weight_snoc]
            simp only [List.length_nil]; omega
          · have := hbz.out
            have := hm7.size
            omega
        case measure => simp [intOf]; omega
      by_cases h3 : q = 3
      · subst h3
        have hz : ∃ z, rint rest f = z := ⟨_, rfl⟩
        have hC := fun W (hW : Rdr W w.heap.size p rest f) => readerInt_any W w.heap.size p f rest hW
        have hlt1 := rint_range rest f
        have hlen1 := rint_length rest f
        have hconv := rint_back (l := rest) (f := f)
        have hbad1 := rint_bad (l := rest) hbad
        obtain ⟨⟨z1, rest', f'⟩, hz⟩ := hz
        rw [hz] at hC hlt1 hlen1 hconv hbad1
        simp only at hC hlt1 hlen1 hconv hbad1
        have HC := hid hC
        clear hC hz
        go_wp2_with (go_at_call 23; refine Calls.mono HP.out ?_; rintro e w' ⟨rfl, rfl⟩)
        have hrX : Rdr (wr.alloc (.cells #[.int .i64 3, .int .u8 0, .int .u64 0, .int .i64 0, .slice none 0 0] 43)) w.heap.size p rest f := hrd.mod ((Mod.refl Nil wr).alloc _) (fun _ _ _ hf => hf) hp1
        refine (HC.out _ hrX).mono ?_; rintro e w5 ⟨rfl, hr5, hm5⟩
        have hpr : p < wr.heap.size := by omega
        have hs5z : (wr.alloc (.cells #[.int .i64 3, .int .u8 0, .int .u64 0, .int .i64 0, .slice none 0 0] 43)).heap.size ≤ w5.heap.size := hm5.size
        rw [nblk] at hs5z
        have R5 := (Row.new wr 43 #[.int .i64 3, .int .u8 0, .int .u64 0, .int .i64 0, .slice none 0 0]).mod hm5 (fun e => by unfold One at e; omega)
        have s0 := R5.cell 3
        have sf := R5.frozen 3
        have R6 := R5.set 3 (.int .i64 z1)
        have l0 := R6.cell 0
        have l1 := R6.cell 1
        have l2 := R6.cell 2
        have l3 := R6.cell 3
        have l4 := R6.cell 4
        simp at s0 sf l0 l1 l2 l3 l4
        have hM : Mod (fun j => j = p ∨ j = wr.heap.size) wr (w5.setCell ⟨wr.heap.size, 3, none⟩ (.int .i64 z1)) := (((Mod.refl (fun j => j = p ∨ j = wr.heap.size) wr).alloc (.cells #[.int .i64 3, .int .u8 0, .int .u64 0, .int .i64 0, .slice none 0 0] 43)).trans hm5 (fun j _ hj => .inl hj)).setCell (p := ⟨wr.heap.size, 3, none⟩) (fun _ => .inr rfl) _
        have hAZ : OwnLays (w5.setCell ⟨wr.heap.size, 3, none⟩ (.int .i64 z1)) w2.heap.size p (.slice Ay k cy) ys := hIy.mod hM (fun j hj1 hj2 e => by rcases e with e | e <;> omega) hp2
        have hA1 : OwnLays ((w5.setCell ⟨wr.heap.size, 3, none⟩ (.int .i64 z1)).alloc (.cells #[.int .i64 3, .int .u8 0, .int .u64 0, .int .i64 z1, .slice none 0 0] 43)) w2.heap.size p (.slice Ay k cy) ys := hAZ.mod ((Mod.refl Nil (w5.setCell ⟨wr.heap.size, 3, none⟩ (.int .i64 z1))).alloc (.cells #[.int .i64 3, .int .u8 0, .int .u64 0, .int .i64 z1, .slice none 0 0] 43)) (fun _ _ _ hf => hf) hp2
        have hzs : (w5.setCell ⟨wr.heap.size, 3, none⟩ (.int .i64 z1)).heap.size = w5.heap.size := by simp [World.setCell]
        have nR := Row.new (w5.setCell ⟨wr.heap.size, 3, none⟩ (.int .i64 z1)) 43 #[.int .i64 3, .int .u8 0, .int .u64 0, .int .i64 z1, .slice none 0 0]
        rw [hzs] at nR
        have N0 := hid (show ((w5.setCell ⟨wr.heap.size, 3, none⟩ (.int .i64 z1)).alloc (.cells #[.int .i64 3, .int .u8 0, .int .u64 0, .int .i64 z1, .slice none 0 0] 43)).cell? ⟨w5.heap.size, 0, none⟩ = some (.int .i64 (⟨3, 0, 0, z1, none, 0, []⟩ : LayD).what) from nR.cell 0)
        have N1 := hid (show ((w5.setCell ⟨wr.heap.size, 3, none⟩ (.int .i64 z1)).alloc (.cells #[.int .i64 3, .int .u8 0, .int .u64 0, .int .i64 z1, .slice none 0 0] 43)).cell? ⟨w5.heap.size, 1, none⟩ = some (.int .u8 ((⟨3, 0, 0, z1, none, 0, []⟩ : LayD).b.toNat : Int)) from nR.cell 1)
        have N2 := hid (show ((w5.setCell ⟨wr.heap.size, 3, none⟩ (.int .i64 z1)).alloc (.cells #[.int .i64 3, .int .u8 0, .int .u64 0, .int .i64 z1, .slice none 0 0] 43)).cell? ⟨w5.heap.size, 2, none⟩ = some (.int .u64 ((⟨3, 0, 0, z1, none, 0, []⟩ : LayD).n : Int)) from nR.cell 2)
        have N3 := hid (show ((w5.setCell ⟨wr.heap.size, 3, none⟩ (.int .i64 z1)).alloc (.cells #[.int .i64 3, .int .u8 0, .int .u64 0, .int .i64 z1, .slice none 0 0] 43)).cell? ⟨w5.heap.size, 3, none⟩ = some (.int .i64 (⟨3, 0, 0, z1, none, 0, []⟩ : LayD).i) from nR.cell 3)
        have N4 := hid (show ((w5.setCell ⟨wr.heap.size, 3, none⟩ (.int .i64 z1)).alloc (.cells #[.int .i64 3, .int .u8 0, .int .u64 0, .int .i64 z1, .slice none 0 0] 43)).cell? ⟨w5.heap.size, 4, none⟩ = some (.slice (⟨3, 0, 0, z1, none, 0, []⟩ : LayD).A (⟨3, 0, 0, z1, none, 0, []⟩ : LayD).t.length (⟨3, 0, 0, z1, none, 0, []⟩ : LayD).c) from nR.cell 4)
        have hbz := hid (show w2.heap.size ≤ ((w5.setCell ⟨wr.heap.size, 3, none⟩ (.int .i64 z1)).alloc (.cells #[.int .i64 3, .int .u8 0, .int .u64 0, .int .i64 z1, .slice none 0 0] 43)).heap.size by rw [nblk, hzs]; omega)
        have hxok : LayD.ok ⟨3, 0, 0, z1, none, 0, []⟩ := by
          unfold LayD.ok
          exact ⟨show (-9223372036854775808 : Int) ≤ 3 by decide, show (3 : Int) ≤ 9223372036854775807 by decide, show (0 : Nat) < 18446744073709551616 by decide, hlt1.1, hlt1.2⟩
        have hxt : Bs (fun j => p < j ∧ j < ((w5.setCell ⟨wr.heap.size, 3, none⟩ (.int .i64 z1)).alloc (.cells #[.int .i64 3, .int .u8 0, .int .u64 0, .int .i64 z1, .slice none 0 0] 43)).heap.size ∧ ¬ At (.slice Ay k cy) j) ((w5.setCell ⟨wr.heap.size, 3, none⟩ (.int .i64 z1)).alloc (.cells #[.int .i64 3, .int .u8 0, .int .u64 0, .int .i64 z1, .slice none 0 0] 43)) (⟨3, 0, 0, z1, none, 0, []⟩ : LayD).A (⟨3, 0, 0, z1, none, 0, []⟩ : LayD).c (⟨3, 0, 0, z1, none, 0, []⟩ : LayD).t := Bs.nil _ _ _ (Nat.zero_le _)
        have hrY : Rdr ((w5.setCell ⟨wr.heap.size, 3, none⟩ (.int .i64 z1)).alloc (.cells #[.int .i64 3, .int .u8 0, .int .u64 0, .int .i64 z1, .slice none 0 0] 43)) w.heap.size p rest' f' := (hr5.mod (Mod.one w5 wr.heap.size 3 (.int .i64 z1)) (fun j _ hj e => by unfold One at e; omega) hp1).mod ((Mod.refl Nil (w5.setCell ⟨wr.heap.size, 3, none⟩ (.int .i64 z1))).alloc (.cells #[.int .i64 3, .int .u8 0, .int .u64 0, .int .i64 z1, .slice none 0 0] 43)) (fun _ _ _ hf => hf) hp1
        have hUY : Up w.heap.size w ((w5.setCell ⟨wr.heap.size, 3, none⟩ (.int .i64 z1)).alloc (.cells #[.int .i64 3, .int .u8 0, .int .u64 0, .int .i64 z1, .slice none 0 0] 43)) := ((((hU.alloc (.cells #[.int .i64 3, .int .u8 0, .int .u64 0, .int .i64 0, .slice none 0 0] 43)).one hm5 hp1)).setCell (by omega) _).alloc _
        clear R5 R6 hM hAZ nR hzs hr5 hrX
        go_wp2_with (at_builtin; refine wpList_append_lay ⟨3, 0, 0, z1, none, 0, []⟩ rfl (.tmp 51) (.tmp 53) rfl hA1 hbz.out hxok hxt N0.out N1.out N2.out N3.out N4.out (by omega) (k + 1) (by omega) rfl rfl ?_; intro A7 c7 w7 hA7 hm7 ha7)
        go_roundw
        case rel =>
          refine ⟨k + 1, _, A7, c7, rest', f', by omega, by go_num, by first | rfl | (congr 1), by simp [hyl], hA7, hrY.mod hm7 (fun j _ hj e => by have := (hIy.lt j e).1; omega) hp1, ?_, ?_, hUY.mod hm7 (fun j hj => by have := (hIy.lt j hj).1; have := hU2.size; omega), ?_, hbad1⟩
          · intro hf
            obtain ⟨hf0, hb⟩ := hconv hf
            rw [laidAll_snoc, hsaid hf0, hb]
            simp [LayD.bytes]
          · rw [weight_snoc]
            simp only [List.length_nil]; omega
          · have := hbz.out
            have := hm7.size
            omega
        case measure => simp [intOf]; omega
      by_cases h1 : q = 1
      · subst h1
        have hz : ∃ z, rnum 18446744073709551615 rest f = z := ⟨_, rfl⟩
        have hC := fun W (hW : Rdr W w.heap.size p rest f) => readerNum_any W w.heap.size p f 18446744073709551615 rest hW (by decide)
        have hlt1 := rnum_lt 18446744073709551615 rest f
        have hlen1 := rnum_length 18446744073709551615 rest f
        have hconv := rnum_back (most := 18446744073709551615) (l := rest) (f := f)
        have hbad1 := rnum_bad (most := 18446744073709551615) (l := rest) hbad
        obtain ⟨⟨z1, rest', f'⟩, hz⟩ := hz
        rw [hz] at hC hlt1 hlen1 hconv hbad1
        simp only at hC hlt1 hlen1 hconv hbad1
        have HC := hid hC
        clear hC hz
        go_wp2_with (go_at_call 23; refine Calls.mono HP.out ?_; rintro e w' ⟨rfl, rfl⟩)
        have hrX : Rdr (wr.alloc (.cells #[.int .i64 1, .int .u8 0, .int .u64 0, .int .i64 0, .slice none 0 0] 43)) w.heap.size p rest f := hrd.mod ((Mod.refl Nil wr).alloc _) (fun _ _ _ hf => hf) hp1
        refine (HC.out _ hrX).mono ?_; rintro e w5 ⟨rfl, hr5, hm5⟩
        have hpr : p < wr.heap.size := by omega
        have hs5z : (wr.alloc (.cells #[.int .i64 1, .int .u8 0, .int .u64 0, .int .i64 0, .slice none 0 0] 43)).heap.size ≤ w5.heap.size := hm5.size
        rw [nblk] at hs5z
        have R5 := (Row.new wr 43 #[.int .i64 1, .int .u8 0, .int .u64 0, .int .i64 0, .slice none 0 0]).mod hm5 (fun e => by unfold One at e; omega)
        have s0 := R5.cell 2
        have sf := R5.frozen 2
        have R6 := R5.set 2 (.int .u64 (z1 : Int))
        have l0 := R6.cell 0
        have l1 := R6.cell 1
        have l2 := R6.cell 2
        have l3 := R6.cell 3
        have l4 := R6.cell 4
        simp at s0 sf l0 l1 l2 l3 l4
        have hM : Mod (fun j => j = p ∨ j = wr.heap.size) wr (w5.setCell ⟨wr.heap.size, 2, none⟩ (.int .u64 (z1 : Int))) := (((Mod.refl (fun j => j = p ∨ j = wr.heap.size) wr).alloc (.cells #[.int .i64 1, .int .u8 0, .int .u64 0, .int .i64 0, .slice none 0 0] 43)).trans hm5 (fun j _ hj => .inl hj)).setCell (p := ⟨wr.heap.size, 2, none⟩) (fun _ => .inr rfl) _
        have hAZ : OwnLays (w5.setCell ⟨wr.heap.size, 2, none⟩ (.int .u64 (z1 : Int))) w2.heap.size p (.slice Ay k cy) ys := hIy.mod hM (fun j hj1 hj2 e => by rcases e with e | e <;> omega) hp2
        have hA1 : OwnLays ((w5.setCell ⟨wr.heap.size, 2, none⟩ (.int .u64 (z1 : Int))).alloc (.cells #[.int .i64 1, .int .u8 0, .int .u64 (z1 : Int), .int .i64 0, .slice none 0 0] 43)) w2.heap.size p (.slice Ay k cy) ys := hAZ.mod ((Mod.refl Nil (w5.setCell ⟨wr.heap.size, 2, none⟩ (.int .u64 (z1 : Int)))).alloc (.cells #[.int .i64 1, .int .u8 0, .int .u64 (z1 : Int), .int .i64 0, .slice none 0 0] 43)) (fun _ _ _ hf => hf) hp2
        have hzs : (w5.setCell ⟨wr.heap.size, 2, none⟩ (.int .u64 (z1 : Int))).heap.size = w5.heap.size := by simp [World.setCell]
        have nR := Row.new (w5.setCell ⟨wr.heap.size, 2, none⟩ (.int .u64 (z1 : Int))) 43 #[.int .i64 1, .int .u8 0, .int .u64 (z1 : Int), .int .i64 0, .slice none 0 0]
        rw [hzs] at nR
        have N0 := hid (show ((w5.setCell ⟨wr.heap.size, 2, none⟩ (.int .u64 (z1 : Int))).alloc (.cells #[.int .i64 1, .int .u8 0, .int .u64 (z1 : Int), .int .i64 0, .slice none 0 0] 43)).cell? ⟨w5.heap.size, 0, none⟩ = some (.int .i64 (⟨1, 0, z1, 0, none, 0, []⟩ : LayD).what) from nR.cell 0)
        have N1 := hid (show ((w5.setCell ⟨wr.heap.size, 2, none⟩ (.int .u64 (z1 : Int))).alloc (.cells #[.int .i64 1, .int .u8 0, .int .u64 (z1 : Int), .int .i64 0, .slice none 0 0] 43)).cell? ⟨w5.heap.size, 1, none⟩ = some (.int .u8 ((⟨1, 0, z1, 0, none, 0, []⟩ : LayD).b.toNat : Int)) from nR.cell 1)
        have N2 := hid (show ((w5.setCell ⟨wr.heap.size, 2, none⟩ (.int .u64 (z1 : Int))).alloc (.cells #[.int .i64 1, .int .u8 0, .int .u64 (z1 : Int), .int .i64 0, .slice none 0 0] 43)).cell? ⟨w5.heap.size, 2, none⟩ = some (.int .u64 ((⟨1, 0, z1, 0, none, 0, []⟩ : LayD).n : Int)) from nR.cell 2)
        have N3 := hid (show ((w5.setCell ⟨wr.heap.size, 2, none⟩ (.int .u64 (z1 : Int))).alloc (.cells #[.int .i64 1, .int .u8 0, .int .u64 (z1 : Int), .int .i64 0, .slice none 0 0] 43)).cell? ⟨w5.heap.size, 3, none⟩ = some (.int .i64 (⟨1, 0, z1, 0, none, 0, []⟩ : LayD).i) from nR.cell 3)
        have N4 := hid (show ((w5.setCell ⟨wr.heap.size, 2, none⟩ (.int .u64 (z1 : Int))).alloc (.cells #[.int .i64 1, .int .u8 0, .int .u64 (z1 : Int), .int .i64 0, .slice none 0 0] 43)).cell? ⟨w5.heap.size, 4, none⟩ = some (.slice (⟨1, 0, z1, 0, none, 0, []⟩ : LayD).A (⟨1, 0, z1, 0, none, 0, []⟩ : LayD).t.length (⟨1, 0, z1, 0, none, 0, []⟩ : LayD).c) from nR.cell 4)
        have hbz := hid (show w2.heap.size ≤ ((w5.setCell ⟨wr.heap.size, 2, none⟩ (.int .u64 (z1 : Int))).alloc (.cells #[.int .i64 1, .int .u8 0, .int .u64 (z1 : Int), .int .i64 0, .slice none 0 0] 43)).heap.size by rw [nblk, hzs]; omega)
        have hxok : LayD.ok ⟨1, 0, z1, 0, none, 0, []⟩ := by
          unfold LayD.ok
          exact ⟨show (-9223372036854775808 : Int) ≤ 1 by decide, show (1 : Int) ≤ 9223372036854775807 by decide, hlt1, show (-9223372036854775808 : Int) ≤ 0 by decide, show (0 : Int) ≤ 9223372036854775807 by decide⟩
        have hxt : Bs (fun j => p < j ∧ j < ((w5.setCell ⟨wr.heap.size, 2, none⟩ (.int .u64 (z1 : Int))).alloc (.cells #[.int .i64 1, .int .u8 0, .int .u64 (z1 : Int), .int .i64 0, .slice none 0 0] 43)).heap.size ∧ ¬ At (.slice Ay k cy) j) ((w5.setCell ⟨wr.heap.size, 2, none⟩ (.int .u64 (z1 : Int))).alloc (.cells #[.int .i64 1, .int .u8 0, .int .u64 (z1 : Int), .int .i64 0, .slice none 0 0] 43)) (⟨1, 0, z1, 0, none, 0, []⟩ : LayD).A (⟨1, 0, z1, 0, none, 0, []⟩ : LayD).c (⟨1, 0, z1, 0, none, 0, []⟩ : LayD).t := Bs.nil _ _ _ (Nat.zero_le _)
        have hrY : Rdr ((w5.setCell ⟨wr.heap.size, 2, none⟩ (.int .u64 (z1 : Int))).alloc (.cells #[.int .i64 1, .int .u8 0, .int .u64 (z1 : Int), .int .i64 0, .slice none 0 0] 43)) w.heap.size p rest' f' := (hr5.mod (Mod.one w5 wr.heap.size 2 (.int .u64 (z1 : Int))) (fun j _ hj e => by unfold One at e; omega) hp1).mod ((Mod.refl Nil (w5.setCell ⟨wr.heap.size, 2, none⟩ (.int .u64 (z1 : Int)))).alloc (.cells #[.int .i64 1, .int .u8 0, .int .u64 (z1 : Int), .int .i64 0, .slice none 0 0] 43)) (fun _ _ _ hf => hf) hp1
        have hUY : Up w.heap.size w ((w5.setCell ⟨wr.heap.size, 2, none⟩ (.int .u64 (z1 : Int))).alloc (.cells #[.int .i64 1, .int .u8 0, .int .u64 (z1 : Int), .int .i64 0, .slice none 0 0] 43)) := ((((hU.alloc (.cells #[.int .i64 1, .int .u8 0, .int .u64 0, .int .i64 0, .slice none 0 0] 43)).one hm5 hp1)).setCell (by omega) _).alloc _
        clear R5 R6 hM hAZ nR hzs hr5 hrX
        go_wp2_with (at_builtin; refine wpList_append_lay ⟨1, 0, z1, 0, none, 0, []⟩ rfl (.tmp 51) (.tmp 53) rfl hA1 hbz.out hxok hxt N0.out N1.out N2.out N3.out N4.out (by omega) (k + 1) (by omega) rfl rfl ?_; intro A7 c7 w7 hA7 hm7 ha7)
        go_roundw
        case rel =>
          refine ⟨k + 1, _, A7, c7, rest', f', by omega, by go_num, by first | rfl | (congr 1), by simp [hyl], hA7, hrY.mod hm7 (fun j _ hj e => by have := (hIy.lt j e).1; omega) hp1, ?_, ?_, hUY.mod hm7 (fun j hj => by have := (hIy.lt j hj).1; have := hU2.size; omega), ?_, hbad1⟩
          · intro hf
            obtain ⟨hf0, hb⟩ := hconv hf
            rw [laidAll_snoc, hsaid hf0, hb]
            simp [LayD.bytes]
          · rw [weight_snoc]
            simp only [List.length_nil]; omega
          · have := hbz.out
            have := hm7.size
            omega
        case measure => simp [intOf]; omega
      have h2 : q = 2 := by omega
      · subst h2
        have hz : ∃ z, rtext (b.length : Int) rest f = z := ⟨_, rfl⟩
        have hC := fun W (hW : Rdr W w.heap.size p rest f) => readerText_any W w.heap.size p f (b.length : Int) rest hW (by omega) (by omega)
        have hlen1 := rtext_length (b.length : Int) rest f
        have hconv := rtext_back (most := (b.length : Int)) (l := rest) (f := f)
        have hbad1 := rtext_bad (most := (b.length : Int)) (l := rest) hbad
        obtain ⟨⟨T, rest', f'⟩, hz⟩ := hz
        rw [hz] at hC hlen1 hconv hbad1
        simp only at hC hlen1 hconv hbad1
        have HC := hid hC
        clear hC hz
        go_wp2_with (go_at_call 23; refine Calls.mono HP.out ?_; rintro e w' ⟨rfl, rfl⟩)
        have hrX : Rdr (wr.alloc (.cells #[.int .i64 2, .int .u8 0, .int .u64 0, .int .i64 0, .slice none 0 0] 43)) w.heap.size p rest f := hrd.mod ((Mod.refl Nil wr).alloc _) (fun _ _ _ hf => hf) hp1
        refine (HC.out _ hrX).mono ?_; rintro e w5 ⟨v5, rfl, ho5, hr5, hm5⟩; obtain ⟨A5, c5, rfl, hs5⟩ := ho5.form
        have hpr : p < wr.heap.size := by omega
        have hs5z : (wr.alloc (.cells #[.int .i64 2, .int .u8 0, .int .u64 0, .int .i64 0, .slice none 0 0] 43)).heap.size ≤ w5.heap.size := hm5.size
        rw [nblk] at hs5z
        have R5 := (Row.new wr 43 #[.int .i64 2, .int .u8 0, .int .u64 0, .int .i64 0, .slice none 0 0]).mod hm5 (fun e => by unfold One at e; omega)
        have s0 := R5.cell 4
        have sf := R5.frozen 4
        have R6 := R5.set 4 (.slice A5 T.length c5)
        have l0 := R6.cell 0
        have l1 := R6.cell 1
        have l2 := R6.cell 2
        have l3 := R6.cell 3
        have l4 := R6.cell 4
        simp at s0 sf l0 l1 l2 l3 l4
        have hM : Mod (fun j => j = p ∨ j = wr.heap.size) wr (w5.setCell ⟨wr.heap.size, 4, none⟩ (.slice A5 T.length c5)) := (((Mod.refl (fun j => j = p ∨ j = wr.heap.size) wr).alloc (.cells #[.int .i64 2, .int .u8 0, .int .u64 0, .int .i64 0, .slice none 0 0] 43)).trans hm5 (fun j _ hj => .inl hj)).setCell (p := ⟨wr.heap.size, 4, none⟩) (fun _ => .inr rfl) _
        have hAZ : OwnLays (w5.setCell ⟨wr.heap.size, 4, none⟩ (.slice A5 T.length c5)) w2.heap.size p (.slice Ay k cy) ys := hIy.mod hM (fun j hj1 hj2 e => by rcases e with e | e <;> omega) hp2
        have hA1 : OwnLays ((w5.setCell ⟨wr.heap.size, 4, none⟩ (.slice A5 T.length c5)).alloc (.cells #[.int .i64 2, .int .u8 0, .int .u64 0, .int .i64 0, .slice A5 T.length c5] 43)) w2.heap.size p (.slice Ay k cy) ys := hAZ.mod ((Mod.refl Nil (w5.setCell ⟨wr.heap.size, 4, none⟩ (.slice A5 T.length c5))).alloc (.cells #[.int .i64 2, .int .u8 0, .int .u64 0, .int .i64 0, .slice A5 T.length c5] 43)) (fun _ _ _ hf => hf) hp2
        have hzs : (w5.setCell ⟨wr.heap.size, 4, none⟩ (.slice A5 T.length c5)).heap.size = w5.heap.size := by simp [World.setCell]
        have nR := Row.new (w5.setCell ⟨wr.heap.size, 4, none⟩ (.slice A5 T.length c5)) 43 #[.int .i64 2, .int .u8 0, .int .u64 0, .int .i64 0, .slice A5 T.length c5]
        rw [hzs] at nR
        have N0 := hid (show ((w5.setCell ⟨wr.heap.size, 4, none⟩ (.slice A5 T.length c5)).alloc (.cells #[.int .i64 2, .int .u8 0, .int .u64 0, .int .i64 0, .slice A5 T.length c5] 43)).cell? ⟨w5.heap.size, 0, none⟩ = some (.int .i64 (⟨2, 0, 0, 0, A5, c5, T⟩ : LayD).what) from nR.cell 0)
        have N1 := hid (show ((w5.setCell ⟨wr.heap.size, 4, none⟩ (.slice A5 T.length c5)).alloc (.cells #[.int .i64 2, .int .u8 0, .int .u64 0, .int .i64 0, .slice A5 T.length c5] 43)).cell? ⟨w5.heap.size, 1, none⟩ = some (.int .u8 ((⟨2, 0, 0, 0, A5, c5, T⟩ : LayD).b.toNat : Int)) from nR.cell 1)
        have N2 := hid (show ((w5.setCell ⟨wr.heap.size, 4, none⟩ (.slice A5 T.length c5)).alloc (.cells #[.int .i64 2, .int .u8 0, .int .u64 0, .int .i64 0, .slice A5 T.length c5] 43)).cell? ⟨w5.heap.size, 2, none⟩ = some (.int .u64 ((⟨2, 0, 0, 0, A5, c5, T⟩ : LayD).n : Int)) from nR.cell 2)
        have N3 := hid (show ((w5.setCell ⟨wr.heap.size, 4, none⟩ (.slice A5 T.length c5)).alloc (.cells #[.int .i64 2, .int .u8 0, .int .u64 0, .int .i64 0, .slice A5 T.length c5] 43)).cell? ⟨w5.heap.size, 3, none⟩ = some (.int .i64 (⟨2, 0, 0, 0, A5, c5, T⟩ : LayD).i) from nR.cell 3)
        have N4 := hid (show ((w5.setCell ⟨wr.heap.size, 4, none⟩ (.slice A5 T.length c5)).alloc (.cells #[.int .i64 2, .int .u8 0, .int .u64 0, .int .i64 0, .slice A5 T.length c5] 43)).cell? ⟨w5.heap.size, 4, none⟩ = some (.slice (⟨2, 0, 0, 0, A5, c5, T⟩ : LayD).A (⟨2, 0, 0, 0, A5, c5, T⟩ : LayD).t.length (⟨2, 0, 0, 0, A5, c5, T⟩ : LayD).c) from nR.cell 4)
        have hbz := hid (show w2.heap.size ≤ ((w5.setCell ⟨wr.heap.size, 4, none⟩ (.slice A5 T.length c5)).alloc (.cells #[.int .i64 2, .int .u8 0, .int .u64 0, .int .i64 0, .slice A5 T.length c5] 43)).heap.size by rw [nblk, hzs]; omega)
        have hxok : LayD.ok ⟨2, 0, 0, 0, A5, c5, T⟩ := by
          unfold LayD.ok
          exact ⟨show (-9223372036854775808 : Int) ≤ 2 by decide, show (2 : Int) ≤ 9223372036854775807 by decide, show (0 : Nat) < 18446744073709551616 by decide, show (-9223372036854775808 : Int) ≤ 0 by decide, show (0 : Int) ≤ 9223372036854775807 by decide⟩
        have hxt : Bs (fun j => p < j ∧ j < ((w5.setCell ⟨wr.heap.size, 4, none⟩ (.slice A5 T.length c5)).alloc (.cells #[.int .i64 2, .int .u8 0, .int .u64 0, .int .i64 0, .slice A5 T.length c5] 43)).heap.size ∧ ¬ At (.slice Ay k cy) j) ((w5.setCell ⟨wr.heap.size, 4, none⟩ (.slice A5 T.length c5)).alloc (.cells #[.int .i64 2, .int .u8 0, .int .u64 0, .int .i64 0, .slice A5 T.length c5] 43)) (⟨2, 0, 0, 0, A5, c5, T⟩ : LayD).A (⟨2, 0, 0, 0, A5, c5, T⟩ : LayD).c (⟨2, 0, 0, 0, A5, c5, T⟩ : LayD).t := by
          have h1 : Bs (At (.slice A5 T.length c5)) ((w5.setCell ⟨wr.heap.size, 4, none⟩ (.slice A5 T.length c5)).alloc (.cells #[.int .i64 2, .int .u8 0, .int .u64 0, .int .i64 0, .slice A5 T.length c5] 43)) A5 c5 T := (hs5.mod (Mod.one w5 wr.heap.size 4 (.slice A5 T.length c5)) (fun j hj e => by have := (ho5.lt j hj).1; rw [nblk] at this; unfold One at e; omega)).mod ((Mod.refl Nil (w5.setCell ⟨wr.heap.size, 4, none⟩ (.slice A5 T.length c5))).alloc (.cells #[.int .i64 2, .int .u8 0, .int .u64 0, .int .i64 0, .slice A5 T.length c5] 43)) (fun _ _ hf => hf)
          exact h1.weaken (fun j hj ha => ⟨by have := (ho5.lt j ha).1; rw [nblk] at this; omega, hj, fun e => by have := (hIy.lt j e).2; have := (ho5.lt j ha).1; rw [nblk] at this; omega⟩)
        have hrY : Rdr ((w5.setCell ⟨wr.heap.size, 4, none⟩ (.slice A5 T.length c5)).alloc (.cells #[.int .i64 2, .int .u8 0, .int .u64 0, .int .i64 0, .slice A5 T.length c5] 43)) w.heap.size p rest' f' := (hr5.mod (Mod.one w5 wr.heap.size 4 (.slice A5 T.length c5)) (fun j _ hj e => by unfold One at e; omega) hp1).mod ((Mod.refl Nil (w5.setCell ⟨wr.heap.size, 4, none⟩ (.slice A5 T.length c5))).alloc (.cells #[.int .i64 2, .int .u8 0, .int .u64 0, .int .i64 0, .slice A5 T.length c5] 43)) (fun _ _ _ hf => hf) hp1
        have hUY : Up w.heap.size w ((w5.setCell ⟨wr.heap.size, 4, none⟩ (.slice A5 T.length c5)).alloc (.cells #[.int .i64 2, .int .u8 0, .int .u64 0, .int .i64 0, .slice A5 T.length c5] 43)) := ((((hU.alloc (.cells #[.int .i64 2, .int .u8 0, .int .u64 0, .int .i64 0, .slice none 0 0] 43)).one hm5 hp1)).setCell (by omega) _).alloc _
        clear R5 R6 hM hAZ nR hzs hr5 hrX
        go_wp2_with (at_builtin; refine wpList_append_lay ⟨2, 0, 0, 0, A5, c5, T⟩ rfl (.tmp 51) (.tmp 53) rfl hA1 hbz.out hxok hxt N0.out N1.out N2.out N3.out N4.out (by omega) (k + 1) (by omega) rfl rfl ?_; intro A7 c7 w7 hA7 hm7 ha7)
        go_roundw
        case rel =>
          refine ⟨k + 1, _, A7, c7, rest', f', by omega, by go_num, by first | rfl | (congr 1), by simp [hyl], hA7, hrY.mod hm7 (fun j _ hj e => by have := (hIy.lt j e).1; omega) hp1, ?_, ?_, hUY.mod hm7 (fun j hj => by have := (hIy.lt j hj).1; have := hU2.size; omega), ?_, hbad1⟩
          · intro hf
            obtain ⟨hf0, hb⟩ := hconv hf
            rw [laidAll_snoc, hsaid hf0, hb]
            simp [LayD.bytes]
          · rw [weight_snoc]
            show weight ys + (T.length + 5) + rest'.length ≤ _; omega
          · have := hbz.out
            have := hm7.size
            omega
        case measure => simp [intOf]; omega
    · obtain rfl : k = zs.length := by omega
      have hrdD : Rdr wr.drew w.heap.size p rest f := hrd.mod ((Mod.refl Nil wr).drew) (fun _ _ _ hf => hf) hp1
      have hE := readerEnd_any wr.drew w.heap.size p f rest hrdD
      obtain ⟨n, hn⟩ : ∃ n, n = rend rest f := ⟨_, rfl⟩
      rw [← hn] at hE
      have HE := hid hE
      clear hE
      by_cases h0 : n = 0
      · subst h0
        have hrest : f = 0 ∧ rest = [] := by
          unfold rend at hn
          by_cases hc : f = 0 ∧ 0 < rest.length
          · rw [if_pos hc] at hn; cases hn
          · rw [if_neg hc] at hn
            exact ⟨hn.symm, List.eq_nil_of_length_eq_zero (by omega)⟩
        have hbl : b = laidAll ys := by rw [hsaid hrest.1, hrest.2, List.append_nil]
        have hC2 : ∀ W, Below wr.heap.size wr W → Calls Try.prog 33 #[.slice Ay zs.length cy] W fun e w' => ∃ v', e = .returned v' ∧ Own 5 w' W.heap.size v' b ∧ Below W.heap.size W w' := by
          intro W hW
          obtain ⟨A7, c7, he7, hq7⟩ := (hIy.mod (Mod.of_below hW Nil) (fun _ _ _ hf => hf) hp2).form
          rw [hyl] at he7
          cases he7
          have := laid_anyB W _ cy ys hq7 (by unfold maxLen; omega) (by omega)
          rw [hyl, ← hbl] at this
          exact this
        have HL := hid hC2
        have hbD := (h.below hU.drew.below (fun _ hk => hk))
        have rbD := run_str (P := Try.prog) tyU8 tyStr hbD
        clear hC2 hbl hn hsaid hwt
        go_wp2_with fail
        go_region_with (first
          | (go_at_call 17; refine Calls.mono HE.out ?_; rintro e w5 ⟨rfl, rfl⟩)
          | (go_at_call 33; refine Calls.mono (HL.out _ (Below.refl _ _).drew) ?_; rintro e w6 ⟨v6, rfl, ho6, hb6⟩; obtain ⟨A6, c6, rfl, hs6⟩ := ho6.form; have r6 := run_str (P := Try.prog) tyU8 tyStr hs6; have rb6 := run_str (P := Try.prog) tyU8 tyStr (h.below (hU.drew.trans hb6).below (fun _ hk => hk))))
        all_goals
          go_wp2
          go_ret
          exact ⟨rfl, (hU.drew.trans hb6).below⟩
      · have hbn : Bad n := by rw [hn]; exact rend_bad hbad
        clear hn hsaid hwt
        go_wp2_with fail
        rcases hbn with rfl | rfl | rfl | rfl
        · exact absurd rfl h0
        all_goals
          refine wp_region_noPanic ?_
          refine wp_region_held_drew (S := fun W => Up w.heap.size w W) (by kernel_rfl) hU.drew (fun hHeld => ?_)
          refine wpAnyH_take (i := 0) (oi := { dst := some 55, op := Op.move (Operand.tmp 5), type := 22, pos := "law.go:249", after := #[], guard := none }) (v := ?_) rfl (by kernel_rfl) (by kernel_rfl) (by kernel_rfl) (fun _ _ _ h => h) (Or.inl ⟨by rfl, ?_⟩) hHeld ?_
          rotate_left
          · intro w' hSw; (try dsimp only at hSw); go_simp <;> with_reducible rfl
          try simp only [Act.put, List.setIfInBounds_toArray, List.set_cons_zero, List.set_cons_succ]
          refine wpAnyH_ready (rs := [1]) (by kernel_rfl) (by simp) ?_
          refine AllReadyH.cons (o := { dst := some 56, op := Op.call { callee := Callee.value (Operand.func 17), args := #[Operand.tmp 55], argTypes := #[22] }, type := 30, pos := "law.go:249", after := #[{ on := 0, ground := Ground.data }], guard := none }) rfl (fun K hK => ?_) AllReadyH.nil
          go_simp
          refine Calls.mono HE.out ?_; rintro e wk ⟨rfl, rfl⟩
          refine hK.out _ _ (hHeld) (fun hHeld => ?_)
          clear hK K
          try simp only [Act.put, List.setIfInBounds_toArray, List.set_cons_zero, List.set_cons_succ]
          refine wpAnyH_take (i := 2) (oi := { dst := some 57, op := Op.binOp BinOp.neq 30 (Operand.tmp 56) (Operand.const (Value.int IntKind.i64 0)) 30, type := 4, pos := "law.go:249", after := #[{ on := 1, ground := Ground.data }], guard := none }) (v := ?_) rfl (by kernel_rfl) (by kernel_rfl) (by kernel_rfl) (fun _ _ _ h => h) (Or.inl ⟨by rfl, ?_⟩) hHeld ?_
          rotate_left
          · intro w' hSw; (try dsimp only at hSw); go_simp <;> with_reducible rfl
          try simp only [Act.put, List.setIfInBounds_toArray, List.set_cons_zero, List.set_cons_succ]
          refine wpAnyH_take (i := 3) (oi := { dst := some 58, op := Op.move (Operand.tmp 57), type := 4, pos := "law.go:249", after := #[{ on := 2, ground := Ground.data }, { on := 1, ground := Ground.chain }], guard := none }) (v := ?_) rfl (by kernel_rfl) (by kernel_rfl) (by kernel_rfl) (fun _ _ _ h => h) (Or.inl ⟨by rfl, ?_⟩) hHeld ?_
          rotate_left
          · intro w' hSw; (try dsimp only at hSw); go_simp <;> with_reducible rfl
          try simp only [Act.put, List.setIfInBounds_toArray, List.set_cons_zero, List.set_cons_succ]
          refine wpAnyH_take (i := 4) (oi := { dst := some 59, op := Op.move (Operand.tmp 6), type := 38, pos := "law.go:249", after := #[{ on := 3, ground := Ground.guard }], guard := some (3, false) }) (v := undef) rfl (by kernel_rfl) (by kernel_rfl) (by kernel_rfl) (fun _ _ _ h => h) (Or.inr ⟨by rfl, rfl⟩) hHeld ?_
          try simp only [Act.put, List.setIfInBounds_toArray, List.set_cons_zero, List.set_cons_succ]
          refine wpAnyH_take (i := 5) (oi := { dst := some 60, op := Op.call { callee := Callee.value (Operand.func 33), args := #[Operand.tmp 59], argTypes := #[38] }, type := 24, pos := "law.go:249", after := #[{ on := 4, ground := Ground.data }, { on := 3, ground := Ground.chain }, { on := 3, ground := Ground.guard }], guard := some (3, false) }) (v := undef) rfl (by kernel_rfl) (by kernel_rfl) (by kernel_rfl) (fun _ _ _ h => h) (Or.inr ⟨by rfl, rfl⟩) hHeld ?_
          try simp only [Act.put, List.setIfInBounds_toArray, List.set_cons_zero, List.set_cons_succ]
          refine wpAnyH_take (i := 6) (oi := { dst := some 61, op := Op.convert 24 9 (Operand.tmp 60), type := 9, pos := "law.go:249", after := #[{ on := 5, ground := Ground.data }, { on := 3, ground := Ground.guard }], guard := some (3, false) }) (v := undef) rfl (by kernel_rfl) (by kernel_rfl) (by kernel_rfl) (fun _ _ _ h => h) (Or.inr ⟨by rfl, rfl⟩) hHeld ?_
          try simp only [Act.put, List.setIfInBounds_toArray, List.set_cons_zero, List.set_cons_succ]
          refine wpAnyH_take (i := 7) (oi := { dst := some 62, op := Op.move (Operand.tmp 0), type := 24, pos := "law.go:249", after := #[{ on := 3, ground := Ground.guard }], guard := some (3, false) }) (v := undef) rfl (by kernel_rfl) (by kernel_rfl) (by kernel_rfl) (fun _ _ _ h => h) (Or.inr ⟨by rfl, rfl⟩) hHeld ?_
          try simp only [Act.put, List.setIfInBounds_toArray, List.set_cons_zero, List.set_cons_succ]
          refine wpAnyH_take (i := 8) (oi := { dst := some 63, op := Op.convert 24 9 (Operand.tmp 62), type := 9, pos := "law.go:249", after := #[{ on := 7, ground := Ground.data }, { on := 3, ground := Ground.guard }], guard := some (3, false) }) (v := undef) rfl (by kernel_rfl) (by kernel_rfl) (by kernel_rfl) (fun _ _ _ h => h) (Or.inr ⟨by rfl, rfl⟩) hHeld ?_
          try simp only [Act.put, List.setIfInBounds_toArray, List.set_cons_zero, List.set_cons_succ]
          refine wpAnyH_take (i := 9) (oi := { dst := some 64, op := Op.binOp BinOp.eql 9 (Operand.tmp 61) (Operand.tmp 63) 9, type := 4, pos := "law.go:249", after := #[{ on := 6, ground := Ground.data }, { on := 8, ground := Ground.data }, { on := 3, ground := Ground.guard }], guard := some (3, false) }) (v := undef) rfl (by kernel_rfl) (by kernel_rfl) (by kernel_rfl) (fun _ _ _ h => h) (Or.inr ⟨by rfl, rfl⟩) hHeld ?_
          try simp only [Act.put, List.setIfInBounds_toArray, List.set_cons_zero, List.set_cons_succ]
          refine wpAnyH_take (i := 10) (oi := { dst := some 65, op := Op.pick (Operand.tmp 58) (Operand.const (Value.bool true)) (Operand.tmp 64), type := 4, pos := "law.go:249", after := #[{ on := 3, ground := Ground.data }, { on := 9, ground := Ground.data }], guard := none }) (v := ?_) rfl (by kernel_rfl) (by kernel_rfl) (by kernel_rfl) (fun _ _ _ h => h) (Or.inl ⟨by rfl, ?_⟩) hHeld ?_
          rotate_left
          · intro w' hSw; (try dsimp only at hSw); go_simp <;> with_reducible rfl
          try simp only [Act.put, List.setIfInBounds_toArray, List.set_cons_zero, List.set_cons_succ]
          refine wpAnyH_take (i := 11) (oi := { dst := some 4, op := Op.assign (Operand.tmp 65), type := 4, pos := "law.go:249", after := #[{ on := 10, ground := Ground.data }, { on := 5, ground := Ground.chain }, { on := 0, ground := Ground.phase }, { on := 1, ground := Ground.phase }, { on := 2, ground := Ground.phase }, { on := 3, ground := Ground.phase }, { on := 4, ground := Ground.phase }, { on := 5, ground := Ground.phase }, { on := 6, ground := Ground.phase }, { on := 7, ground := Ground.phase }, { on := 8, ground := Ground.phase }, { on := 9, ground := Ground.phase }, { on := 10, ground := Ground.phase }], guard := none }) (v := ?_) rfl (by kernel_rfl) (by kernel_rfl) (by kernel_rfl) (fun _ _ _ h => h) (Or.inl ⟨by rfl, ?_⟩) hHeld ?_
          rotate_left
          · intro w' hSw; (try dsimp only at hSw); go_simp <;> with_reducible rfl
          try simp only [Act.put, List.setIfInBounds_toArray, List.set_cons_zero, List.set_cons_succ]
          refine wpAnyH_done (by kernel_rfl) ?_ _
          refine NoPanic.normal ?_
          go_wp2
          go_ret
          exact ⟨rfl, hHeld.below⟩
theorem contract (H : Type) (enc : TypeId × Value → H) (W : World) (base : Nat) (args : Array Value) (ds gs : List (DataW H)) (before : List MemPlace)
    (hval : ∀ (j : Nat) t v, Try.f9.params[j]? = some t → args[j]? = some v → Value.okWide Try.prog W .any base t v)
    (hW : DataW.Whole enc Try.prog Try.f9.params.toList Rows.packOneSpec.vars false W args.toList ds gs before)
    (hk : Rows.uptoSmall H (ds ++ gs) = true) :
    Calls Try.prog 9 args W fun e W' => ∃ v, e = .returned v ∧ Rows.packOneSpec.post enc Try.prog Try.f9 false true false false W args v W' := by
  have hW' := hW
  obtain ⟨p, q, hA0, hV, rfl, hfz, hnd⟩ := hW
  have hA : DataW.TrodAll enc Try.prog W 0 (fun _ => true) true Try.f9.params.toList args.toList ds p := hA0
  rw [Try.params9] at hA hval
  obtain ⟨v0, v1, d0, d1, p0, p1, rfl, rfl, rfl, h0, h1⟩ := trodAll_two hA
  obtain ⟨rfl, rfl⟩ := trodVars_none hV
  obtain ⟨A0, c0, l0, rfl, hb0, hd0⟩ := open_u8s tyU8 cells_u8 (hval 0 24 v0 rfl rfl) h0
  obtain ⟨A1, c1, zs1, rfl, hlen1, hZ1, hd1⟩ := open_nums (hval 1 59 v1 rfl rfl) h1
  have hbd := bound hk
  simp only [List.append_nil, List.cons_append, List.nil_append, Rows.uptoBulkAll] at hbd
  have hd0' := bulk_bytes hd0
  have hwk := walk W A0 c0 l0 A1 c1 zs1 hb0 hZ1 (by omega)
  refine (hwk).mono fun e W' ⟨he, hbl⟩ => ⟨.bool true, he, ?_⟩
  exact law_post laidOut (by kernel_rfl) Try.underlying4 (readable_of (by kernel_rfl)) rfl rfl hW' hbl

set_option maxRecDepth 100000 in
theorem lifted (os : Os) (started : os.Started) (H : Type) (enc : TypeId × Value → H) (F : Stop.Interp) :
    ReturnsInHanded {} Try.checked os 9 .any ((Rows.OpenSpec.upto Rows.packOneSpec).pre6 enc Try.prog Try.f9 Rows.packOneUptoRow.domain false) (((Rows.OpenSpec.upto Rows.packOneSpec).at F).post enc Try.prog Try.f9 false true false false) := by
  refine returnsInHanded_of_cond (C := Try.checked) (s := Rows.OpenSpec.upto Rows.packOneSpec) (k := Rows.uptoSmall) rfl own started (by kernel_rfl) Try.func9
    (OpenSpec.witness (enc := enc) (C := Try.checked) (s := Rows.OpenSpec.upto Rows.packOneSpec) (k := Rows.uptoSmall) rfl false ⟨#[], #[.slice none 0 0, .slice none 0 0], []⟩ 8 (by kernel_rfl) (by kernel_rfl) (by kernel_rfl)
      (x := ([.nil, .nil], [], [])) (by kernel_rfl) rfl (by kernel_rfl)) ?_
  intro W base args ds gs before hval hW _ hk _
  exact contract H enc W base args ds gs before hval hW hk

theorem proved : Rows.PackOneUptoSaid :=
  OpenClaim.holds_of_cond 9 Try.f9 rfl rfl rfl rfl rfl rfl rfl ⟨rfl, rfl, rfl, rfl, rfl⟩ rfl rfl rfl rfl rfl (by kernel_rfl) Try.func9 (by kernel_rfl)
    (of_decide_eq_true (by kernel_rfl)) (by unfold Func.isWrapper; first | (rw [if_pos (by decide +kernel)]; kernel_rfl) | (rw [if_neg (by decide +kernel)]; exact ⟨rfl, rfl⟩))
    (fun os started H enc _ F => lifted os started H enc F)
end Go.Proofs.Ytefggpcfijcneaa.packOne
