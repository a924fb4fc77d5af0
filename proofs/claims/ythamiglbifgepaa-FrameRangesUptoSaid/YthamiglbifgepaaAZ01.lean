/-
  DskZ · Opw · FrmZ
-/
import Derived.Test.YthamiglbifgepaaAA05
import Derived.Test.YthamiglbifgepaaAA06
import Derived.Test.YthamiglbifgepaaAB01
set_option linter.unusedSimpArgs false
set_option linter.unusedVariables false

namespace Go.Proofs.Ythamiglbifgepaa.Sep
open Go.RowKit
open Go.Proofs.Ythamiglbifgepaa.Mem (Dist Blk Chg below0)
open Go.ChangeShapes Go.WideShapes Go.ChangeAt
section
variable {H : Type} {enc : TypeId × Value → H} {W : World} {base b0 : Nat} {r : Reach} {spare : Nat → Bool} {held : Bool} {v : Value} {d : DataW H} {p : List MemPlace}
theorem k_u8s7 : Try.prog.cellsOf 23 = 1 := by kernel_rfl
theorem b_u8s7 : Try.prog.bytesOf 23 = 24 := by kernel_rfl
theorem open_pt {n : Nat} {cs : List Value} {x : DataW H × List MemPlace} (hcl : cs.length = 1) (h : DataW.trod enc Try.prog W base spare held n 23 cs = some x) (hs : SizedD Try.prog 23 x.1) : ∃ y : PtV, cs = encPt y ∧ Sl8 W y.v y.d ∧ y.d.length ≤ 140737488351232 := by
  match cs, hcl with
  | [a], _ =>
    obtain ⟨A, c, l, rfl, hl, hl2⟩ := open_8s h hs
    exact ⟨⟨A, c, l⟩, rfl, hl, hl2⟩
instance : Inhabited PtV := ⟨⟨none, 0, []⟩⟩
theorem open_ptsA (hval : Value.okWide Try.prog W r b0 25 v) (h : DataW.Trod enc Try.prog W base spare held 25 v d p) (hs : SizedD Try.prog 25 d) : ∃ l : List PtV, PtsRd W v l ∧ l.length ≤ 9223372036854775807 ∧ ∀ x, x ∈ l → x.d.length ≤ 140737488351232 := by
  obtain ⟨a0, len0, cap0, rfl⟩ := okWide_slice Try.underlying25 hval
  obtain ⟨fuel, hf⟩ := h
  obtain ⟨A, c, l, hv, hl, hr, ho⟩ := open_slice_s okPt (by decide) Try.underlying25 k_u8s7 (ok := fun y : PtV => Sl8 W y.v y.d ∧ y.d.length ≤ 140737488351232) (fun n cs x hcl h hs => open_pt hcl h hs) (x0 := (d, p)) hf hs
  rw [b_u8s7] at hl
  have h2 : reachBytes = 140737488351232 := rfl
  exact ⟨l, ⟨hr, fun x hx => (ho x hx).1⟩, by omega, fun x hx => (ho x hx).2⟩
end
end Go.Proofs.Ythamiglbifgepaa.Sep

namespace Go.Proofs.Ythamiglbifgepaa.Sep
open Go.ChangeShapes Go.WideShapes Go.ChangeAt Go.RowKit
section
variable {H : Type} {enc : TypeId × Value → H} {P : Program}
theorem open_slice_at {α : Type} [Inhabited α] {k : Nat} {enc' : α → List Value} {ok : α → Prop} {wt : α → Nat} {t e : TypeId} (he : EncOf k enc') (hk : 0 < k) (hu : P.underlying t = some (.slice e)) (hC : P.cellsOf e = k) {W : World} {base : Nat} {spare : Nat → Bool} {held : Bool} {v : Value} {n0 : Nat} {x0 : DataW H × List MemPlace}
    (hel : ∀ (n : Nat) (cs : List Value) (x : DataW H × List MemPlace), cs.length = k → DataW.trod enc P W base spare held n e cs = some x → ∃ y : α, cs = enc' y ∧ ok y ∧ wt y ≤ Rows.uptoBulk x.1)
    (hf : DataW.trod enc P W base spare held n0 t [v] = some x0) : ∃ A c, ∃ l : List α, v = .slice A l.length c ∧ l.length ≤ maxLen ∧ SlRd W k v l.length (flat enc' l) ∧ (∀ y ∈ l, ok y) ∧ (l.map wt).sum + 1 ≤ Rows.uptoBulk x0.1 := by
  rcases DataW.trod_slice hu hf with ⟨hcs, hx⟩ | ⟨a, len, cap, elems, rest, n, _, hcs, hx, _, hl, hm, hlen, hels, _, _⟩
  · simp at hcs
    subst hcs
    exact ⟨none, 0, [], rfl, Nat.zero_le _, ⟨by simp [flat], none, 0, rfl, .inl ⟨rfl, rfl⟩⟩, (fun y hy => by cases hy), bulk_pos _⟩
  · simp at hcs
    subst hcs
    rw [hC] at hels
    have each : ∀ i, i < len → ∃ y : α, ok y ∧ (∀ j x, (enc' y)[j]? = some x → W.cell? ((a.add (i * k)).add j) = some x) ∧ ∃ e, elems[i]? = some e ∧ wt y ≤ Rows.uptoBulk e.1 := by
      intro i hi
      have h1 := hels i hi
      rw [List.getElem?_eq_getElem (show i < elems.length by omega), Option.bind_eq_some_iff] at h1
      obtain ⟨cs', hcs, ht⟩ := h1
      obtain ⟨_, hcl, hat⟩ := World.cells?_some hcs
      obtain ⟨y, rfl, hy, hw⟩ := hel _ _ _ hcl ht
      exact ⟨y, hy, fun j x hj => (hat j (by rw [← hcl]; exact (List.getElem?_eq_some_iff.1 hj).1)).trans hj, _, List.getElem?_eq_getElem (by omega), hw⟩
    obtain ⟨f, hf⟩ := Go.Deep.choose_lt each
    have hll : ((List.range len).map f).length = len := by simp
    have hat : ∀ {i : Nat} {y : α}, ((List.range len).map f)[i]? = some y → i < len ∧ y = f i := by
      intro i y hi
      have hil : i < len := by have := (List.getElem?_eq_some_iff.1 hi).1; simpa using this
      rw [List.getElem?_map, List.getElem?_range hil] at hi
      simp only [Option.map_some, Option.some.injEq] at hi
      exact ⟨hil, hi.symm⟩
    refine ⟨some a, cap, (List.range len).map f, by rw [hll], by rw [hll]; omega, ?_, ?_, ?_⟩
    · rw [hll]
      refine ⟨by rw [flat_len he, hll], some a, cap, rfl, .inr ⟨a, rfl, fun q x hq => ?_⟩⟩
      obtain ⟨y, hy, hyx⟩ := flat_pick he hk hq
      obtain ⟨hil, rfl⟩ := hat hy
      have hc := (hf (q / k) hil).2.1 (q % k) x hyx
      have ha : a = ⟨a.block, a.off, none⟩ := by
        obtain ⟨z, hz⟩ : ∃ z, (enc' (f 0))[0]? = some z := ⟨_, List.getElem?_eq_getElem (by have := he.len (f 0); omega)⟩
        have h0 := (hf 0 (Nat.lt_of_le_of_lt (Nat.zero_le _) hil)).2.1 0 _ hz
        rw [Nat.zero_mul, show (a.add 0).add 0 = a by simp [Addr.add]] at h0
        exact spot0 h0
      rw [ha, Addr.add_lit, Addr.add_lit] at hc
      rw [ha, Addr.add_lit]
      have e1 : a.off + q / k * k + q % k = a.off + q := by rw [Nat.add_assoc, Nat.mul_comm]; congr 1; exact Nat.div_add_mod q k
      rw [e1] at hc
      exact hc
    · intro y hy
      obtain ⟨i, hi⟩ := List.getElem?_of_mem hy
      obtain ⟨hil, rfl⟩ := hat hi
      exact (hf i hil).1
    · rw [(Prod.mk.inj hx).1]
      simp only [Rows.uptoBulk]
      have h1 : (((List.range len).map f).map wt).sum ≤ Rows.uptoBulkAll (elems.map (·.1)) := by
        rw [List.map_map]
        have he : elems.map (·.1) = (List.range len).map fun i => ((elems[i]?).map (·.1)).getD .nil := by
          apply List.ext_getElem?
          intro i
          by_cases hi : i < len
          · rw [List.getElem?_map, List.getElem?_map, List.getElem?_range hi, List.getElem?_eq_getElem (by omega)]
            simp [List.getElem?_eq_getElem (show i < elems.length by omega)]
          · rw [List.getElem?_eq_none (by simp; omega), List.getElem?_eq_none (by simp; omega)]
        rw [he]
        refine bulk_map _ _ _ (fun i hi => ?_)
        obtain ⟨_, _, e, he1, hw⟩ := hf i (List.mem_range.1 hi)
        rw [he1]
        exact hw
      omega
/-- a []byte, met anywhere -/
theorem open_8at {W : World} {base : Nat} {spare : Nat → Bool} {held : Bool} {v : Value} {n0 : Nat} {x0 : DataW H × List MemPlace} (hf : DataW.trod enc Try.prog W base spare held n0 23 [v] = some x0) :
    ∃ A c l, v = .slice A l.length c ∧ Sl8 W (.slice A l.length c) l ∧ l.length ≤ maxLen ∧ l.length + 1 ≤ Rows.uptoBulk x0.1 := by
  obtain ⟨A, c, l, hcs, hb, hd⟩ := trod_u8s tyU8 cells_u8 hf
  simp at hcs
  exact ⟨A, c, l, hcs, ⟨A, c, rfl, hb.weaken fun _ _ _ => trivial⟩, Nat.le_trans hb.1 hb.2.1, bulk_bytes hd⟩
end
end Go.Proofs.Ythamiglbifgepaa.Sep

namespace Go.Proofs.Ythamiglbifgepaa.Sep
open Go.RowKit
open Go.Proofs.Ythamiglbifgepaa.Mem (Dist Blk Chg below0)
open Go.ChangeShapes Go.WideShapes Go.ChangeAt
section
variable {H : Type} {enc : TypeId × Value → H} {W : World} {base b0 : Nat} {r : Reach} {spare : Nat → Bool} {held : Bool} {v : Value} {d : DataW H} {p : List MemPlace}
theorem sum_mem {l : List Nat} {n : Nat} (h : n ∈ l) : n ≤ l.sum := by
  induction l with
  | nil => cases h
  | cons x r ih =>
    rw [List.sum_cons]
    rcases List.mem_cons.1 h with rfl | h
    · omega
    · have := ih h; omega
theorem open_ptB {n : Nat} {cs : List Value} {x : DataW H × List MemPlace} (hcl : cs.length = 1) (h : DataW.trod enc Try.prog W base spare held n 23 cs = some x) : ∃ y : PtV, cs = encPt y ∧ Sl8 W y.v y.d ∧ y.d.length + 1 ≤ Rows.uptoBulk x.1 := by
  match cs, hcl with
  | [a], _ =>
    obtain ⟨A, c, l, rfl, hl, hl2, hl3⟩ := open_8at h
    exact ⟨⟨A, c, l⟩, rfl, hl, hl3⟩
/-- parts that came in, within the second form's bound -/
theorem open_ptsB (hval : Value.okWide Try.prog W r b0 25 v) (h : DataW.Trod enc Try.prog W base spare held 25 v d p) : ∃ l : List PtV, PtsRd W v l ∧ l.length ≤ 9223372036854775807 ∧ ∀ x, x ∈ l → x.d.length ≤ Rows.uptoBulk d := by
  obtain ⟨a0, len0, cap0, rfl⟩ := okWide_slice Try.underlying25 hval
  obtain ⟨fuel, hf⟩ := h
  obtain ⟨A, c, l, hv, hl, hr, ho, hw⟩ := open_slice_at okPt (by decide) Try.underlying25 k_u8s7 (ok := fun y : PtV => Sl8 W y.v y.d) (wt := fun y : PtV => y.d.length + 1) (fun n cs x hcl h => open_ptB hcl h) (x0 := (d, p)) hf
  have hm : maxLen ≤ 9223372036854775807 := by unfold maxLen; omega
  refine ⟨l, ⟨hr, ho⟩, by omega, fun x hx => ?_⟩
  have := sum_mem (List.mem_map_of_mem (f := fun y : PtV => y.d.length + 1) hx)
  simp only at hw
  omega
theorem trodAll_5 {P : Program} {t0 t1 t2 t3 t4 : TypeId} {args : Array Value} {ds : List (DataW H)} {ps : List MemPlace} (h : DataW.TrodAll enc P W base spare held [t0, t1, t2, t3, t4] args.toList ds ps) :
    ∃ v0 v1 v2 v3 v4 d0 d1 d2 d3 d4 p0 p1 p2 p3 p4, args = #[v0, v1, v2, v3, v4] ∧ ds = [d0, d1, d2, d3, d4] ∧ ps = p0 ++ p1 ++ p2 ++ p3 ++ p4 ∧ DataW.Trod enc P W base spare held t0 v0 d0 p0 ∧ DataW.Trod enc P W base spare held t1 v1 d1 p1 ∧ DataW.Trod enc P W base spare held t2 v2 d2 p2 ∧ DataW.Trod enc P W base spare held t3 v3 d3 p3 ∧ DataW.Trod enc P W base spare held t4 v4 d4 p4 := by
  obtain ⟨v0, vs0, d0, ds0, p0, q0, hargs, rfl, rfl, h0, r0⟩ := trodAll_cons h
  obtain ⟨v1, vs1, d1, ds1, p1, q1, rfl, rfl, rfl, h1, r1⟩ := trodAll_cons r0
  obtain ⟨v2, vs2, d2, ds2, p2, q2, rfl, rfl, rfl, h2, r2⟩ := trodAll_cons r1
  obtain ⟨v3, vs3, d3, ds3, p3, q3, rfl, rfl, rfl, h3, r3⟩ := trodAll_cons r2
  obtain ⟨v4, vs4, d4, ds4, p4, q4, rfl, rfl, rfl, h4, r4⟩ := trodAll_cons r3
  obtain ⟨rfl, rfl, rfl⟩ := trodAll_nil r4
  exact ⟨v0, v1, v2, v3, v4, d0, d1, d2, d3, d4, p0, p1, p2, p3, p4, by cases args; simp_all, rfl, by simp, h0, h1, h2, h3, h4⟩
end
end Go.Proofs.Ythamiglbifgepaa.Sep
