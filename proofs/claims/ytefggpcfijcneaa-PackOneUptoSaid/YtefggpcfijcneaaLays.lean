/-
  A slice of Lay's structs that comes in, opened; what 'laid' makes of it.
-/
import Derived.Test.YtefggpcfijcneaaKnown
import Derived.Test.YtefggpcfijcneaaLaw
import Derived.Deep.Slices
namespace Go.Proofs.Ytefggpcfijcneaa
open Go.ChangeShapes Go.WideShapes Go.ChangeAt Go.RowKit

/-- one thing that is laid -/
structure LayD where
  what : Int
  b : UInt8
  n : Nat
  i : Int
  A : Option Addr
  c : Nat
  t : List UInt8

def LayD.ok (x : LayD) : Prop := -9223372036854775808 ≤ x.what ∧ x.what ≤ 9223372036854775807 ∧ x.n < 18446744073709551616 ∧ -9223372036854775808 ≤ x.i ∧ x.i ≤ 9223372036854775807

/-- the element at g, o reads as x -/
def LayAt (w : World) (B g o : Nat) (x : LayD) : Prop :=
  x.ok ∧ w.cell? ⟨g, o, none⟩ = some (.int .i64 x.what) ∧ w.cell? ⟨g, o + 1, none⟩ = some (.int .u8 (x.b.toNat : Int)) ∧ w.cell? ⟨g, o + 2, none⟩ = some (.int .u64 (x.n : Int)) ∧
  w.cell? ⟨g, o + 3, none⟩ = some (.int .i64 x.i) ∧ w.cell? ⟨g, o + 4, none⟩ = some (.slice x.A x.t.length x.c) ∧ Bs (fun k => k < B) w x.A x.c x.t

/-- The slice '.slice A xs.length c' reads as xs. -/
def Lays (w : World) (B : Nat) (A : Option Addr) (xs : List LayD) : Prop :=
  0 < xs.length → ∃ g o, A = some ⟨g, o, none⟩ ∧ g < B ∧ ∀ k x, xs[k]? = some x → LayAt w B g (o + k * 5) x

def weight (xs : List LayD) : Nat := (xs.map fun x => x.t.length + 5).sum

section
variable {H : Type} {enc : TypeId × Value → H}

theorem lay_field {W : World} {base n : Nat} {spare : Nat → Bool} {held : Bool} {cs : List Value} {ys : List (DataW H × List MemPlace)} (hl : cs.length = 5) (hy : ys.length = 5) (j : Nat) (hj : j < 5) {f : Field} (hc : Try.prog.cellsOf f.type = 1) (ho : f.offset = j)
    (h : DataW.trod enc Try.prog W base spare held n f.type ((cs.drop f.offset).take (Try.prog.cellsOf f.type)) = ys[j]?) : ∃ v y, cs[j]? = some v ∧ ys[j]? = some y ∧ DataW.trod enc Try.prog W base spare held n f.type [v] = some y := by
  rw [ho, hc] at h
  have e : (cs.drop j).take 1 = [cs[j]'(by omega)] := by
    rw [List.drop_eq_getElem_cons (by omega)]; rfl
  rw [e] at h
  exact ⟨_, _, List.getElem?_eq_getElem (by omega), List.getElem?_eq_getElem (by omega), h.trans (List.getElem?_eq_getElem (by omega))⟩

theorem open_lay {W : World} {base n : Nat} {spare : Nat → Bool} {held : Bool} {a : Addr} {cs : List Value} {x : DataW H × List MemPlace} (hc : W.cells? base a 5 = some cs) (h : DataW.trod enc Try.prog W base spare held n 43 cs = some x) :
    ∃ y : LayD, a = ⟨a.block, a.off, none⟩ ∧ a.block < W.heap.size ∧ LayAt W W.heap.size a.block a.off y ∧ y.t.length + 5 ≤ Rows.uptoBulk x.1 := by
  obtain ⟨_, hcl, hat⟩ := World.cells?_some hc
  obtain ⟨ys, n', _, hx, _, hyl, hf⟩ := DataW.trod_struct Try.underlying43 h
  have hyl : ys.length = 5 := hyl
  obtain ⟨v0, y0, hv0, hy0, h0⟩ := lay_field hcl hyl 0 (by omega) (by kernel_rfl) rfl (hf 0 _ rfl)
  obtain ⟨v1, y1, hv1, hy1, h1⟩ := lay_field hcl hyl 1 (by omega) (by kernel_rfl) rfl (hf 1 _ rfl)
  obtain ⟨v2, y2, hv2, hy2, h2⟩ := lay_field hcl hyl 2 (by omega) (by kernel_rfl) rfl (hf 2 _ rfl)
  obtain ⟨v3, y3, hv3, hy3, h3⟩ := lay_field hcl hyl 3 (by omega) (by kernel_rfl) rfl (hf 3 _ rfl)
  obtain ⟨v4, y4, hv4, hy4, h4⟩ := lay_field hcl hyl 4 (by omega) (by kernel_rfl) rfl (hf 4 _ rfl)
  obtain ⟨z0, e0, f0, w0⟩ := DataW.trod_int Try.underlying3 h0
  obtain ⟨z1, e1, f1, w1⟩ := DataW.trod_int Try.underlying5 h1
  obtain ⟨z2, e2, f2, w2⟩ := DataW.trod_int Try.underlying26 h2
  obtain ⟨z3, e3, f3, w3⟩ := DataW.trod_int Try.underlying2 h3
  obtain ⟨TA, Tc, Tl, e4, hb, hd⟩ := trod_u8s tyU8 cells_u8 h4
  cases e0; cases e1; cases e2; cases e3; cases e4
  have b0 := wf_i64 w0
  have b1 := wf_u8 w1
  have b2 := wf_u64 w2
  have b3 := wf_i64 w3
  have c0 := (hat 0 (by omega)).trans hv0
  have c1 := (hat 1 (by omega)).trans hv1
  have c2 := (hat 2 (by omega)).trans hv2
  have c3 := (hat 3 (by omega)).trans hv3
  have c4 := (hat 4 (by omega)).trans hv4
  have hs : a = ⟨a.block, a.off, none⟩ := by
    have := c0
    rw [show a.add 0 = a by simp [Addr.add]] at this
    exact spot_none this
  have hlt := World.block_lt_of_cell? _ _ c0
  rw [hs, Addr.add_lit] at c0 c1 c2 c3 c4 hlt
  have hlist : ys = [y0, y1, y2, y3, y4] := by
    match ys, hyl with
    | [a0, a1, a2, a3, a4], _ =>
      simp at hy0 hy1 hy2 hy3 hy4
      simp [hy0, hy1, hy2, hy3, hy4]
  refine ⟨⟨z0, UInt8.ofNat z1.toNat, z2.toNat, z3, TA, Tc, Tl⟩, hs, hlt, ⟨⟨b0.1, b0.2, by show z2.toNat < _; omega, b3.1, b3.2⟩, c0, ?_, ?_, c3, c4, hb⟩, ?_⟩
  · rw [c1]
    simp only [UInt8.toNat_ofNat']
    congr 2
    omega
  · rw [c2]
    congr 2
    show z2 = ((z2.toNat : Nat) : Int)
    omega
  · have hbd := bulk_bytes hd
    rw [hx, hlist]
    simp only [List.map_cons, List.map_nil, Rows.uptoBulk, Rows.uptoBulkAll]
    have := bulk_pos y0.1
    have := bulk_pos y1.1
    have := bulk_pos y2.1
    have := bulk_pos y3.1
    omega

/-- a []Lay that comes in -/
theorem open_lays {W : World} {base b0 : Nat} {r : Reach} {spare : Nat → Bool} {held : Bool} {v : Value} {d : DataW H} {p : List MemPlace} (hval : Value.okWide Try.prog W r b0 38 v) (h : DataW.Trod enc Try.prog W base spare held 38 v d p) :
    ∃ A c xs, v = .slice A xs.length c ∧ xs.length ≤ maxLen ∧ Lays W W.heap.size A xs ∧ weight xs + 1 ≤ Rows.uptoBulk d := by
  have hC : Try.prog.cellsOf 43 = 5 := by kernel_rfl
  obtain ⟨a, len, cap, rfl⟩ := okWide_slice Try.underlying38 hval
  obtain ⟨fuel, hf⟩ := h
  rcases DataW.trod_slice Try.underlying38 hf with ⟨hcs, hx⟩ | ⟨a, len', cap', elems, rest, n, _, hcs, hx, _, hl, hm, hlen, hel, _, _⟩
  · simp [Value.cells] at hcs
    obtain ⟨rfl, rfl, rfl⟩ := hcs
    rw [(Prod.mk.inj hx).1]
    exact ⟨none, 0, [], rfl, Nat.zero_le _, fun h => absurd h (by simp), bulk_pos _⟩
  · simp [Value.cells] at hcs
    obtain ⟨rfl, rfl, rfl⟩ := hcs
    rw [hC] at hel
    have each : ∀ i, i < len → ∃ y : LayD, a.add (i * 5) = ⟨a.block, a.off + i * 5, none⟩ ∧ a.block < W.heap.size ∧ LayAt W W.heap.size a.block (a.off + i * 5) y ∧ ∃ e, elems[i]? = some e ∧ y.t.length + 5 ≤ Rows.uptoBulk e.1 := by
      intro i hi
      have h1 := hel i hi
      rw [List.getElem?_eq_getElem (show i < elems.length by omega), Option.bind_eq_some_iff] at h1
      obtain ⟨cs', hcs, ht⟩ := h1
      obtain ⟨y, ha, hb, hy, hw⟩ := open_lay hcs ht
      have e1 : (a.add (i * 5)).block = a.block := by unfold Addr.add; split <;> rfl
      have e2 : (a.add (i * 5)).off = a.off + i * 5 := by
        unfold Addr.add
        by_cases h0 : i * 5 = 0
        · rw [if_pos h0]; omega
        · rw [if_neg h0]
      rw [e1, e2] at ha hy
      rw [e1] at hb
      exact ⟨y, ha, hb, hy, _, List.getElem?_eq_getElem (by omega), hw⟩
    have : Inhabited LayD := ⟨⟨0, 0, 0, 0, none, 0, []⟩⟩
    obtain ⟨f, hf⟩ := Go.Deep.choose_lt each
    refine ⟨some a, cap, (List.range len).map f, by simp, by rw [List.length_map, List.length_range]; omega, fun hn => ?_, ?_⟩
    · simp at hn
      have h0 := (hf 0 hn).1
      have ha : a = ⟨a.block, a.off, none⟩ := by
        rw [Nat.zero_mul] at h0
        simpa [Addr.add] using h0
      refine ⟨a.block, a.off, by rw [← ha], (hf 0 hn).2.1, fun k x hk => ?_⟩
      have hkl := (List.getElem?_eq_some_iff.1 hk).1
      simp at hkl
      rw [List.getElem?_map, List.getElem?_range hkl] at hk
      simp only [Option.map_some, Option.some.injEq] at hk
      rw [← hk]
      exact (hf k hkl).2.2.1
    · rw [(Prod.mk.inj hx).1]
      simp only [Rows.uptoBulk]
      have h1 : weight ((List.range len).map f) ≤ Rows.uptoBulkAll (elems.map (·.1)) := by
        unfold weight
        rw [List.map_map]
        have he : elems.map (·.1) = (List.range len).map fun i => ((elems[i]?).map (·.1)).getD .nil := by
          apply List.ext_getElem?
          intro i
          by_cases hi : i < len
          · rw [List.getElem?_map, List.getElem?_map, List.getElem?_range hi, List.getElem?_eq_getElem (by omega)]
            simp [List.getElem?_eq_getElem (show i < elems.length by omega)]
          · rw [List.getElem?_eq_none (by simp; omega), List.getElem?_eq_none (by simp; omega)]
        rw [he]
        refine bulk_map _ _ _ (fun i hi => ?_)
        obtain ⟨_, _, _, e, he1, hw⟩ := hf i (List.mem_range.1 hi)
        rw [he1]
        exact hw
      omega
end
end Go.Proofs.Ytefggpcfijcneaa
