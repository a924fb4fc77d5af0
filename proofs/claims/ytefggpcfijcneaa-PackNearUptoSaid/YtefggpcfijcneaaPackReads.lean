/-
  Any bytes are read by any calls alike by the program and by the reference. No condition.
-/
import Derived.Test.YtefggpcfijcneaaKnown
import Derived.Test.YtefggpcfijcneaaLaw
import Derived.Test.YtefggpcfijcneaaReads
import Derived.SizedLaws
import Derived.Deep.Slices
namespace Go.Proofs.Ytefggpcfijcneaa.packReads
open Go.ChangeShapes Go.WideShapes Go.ChangeAt Go.RowKit

section
variable {H : Type} {enc : TypeId × Value → H}

theorem ask_field {W : World} {base n : Nat} {spare : Nat → Bool} {held : Bool} {cs : List Value} {ys : List (DataW H × List MemPlace)} (hl : cs.length = 4) (hy : ys.length = 4) (j : Nat) (hj : j < 4) {f : Field} (hc : Try.prog.cellsOf f.type = 1) (ho : f.offset = j)
    (h : DataW.trod enc Try.prog W base spare held n f.type ((cs.drop f.offset).take (Try.prog.cellsOf f.type)) = ys[j]?) : ∃ v y, cs[j]? = some v ∧ ys[j]? = some y ∧ DataW.trod enc Try.prog W base spare held n f.type [v] = some y := by
  rw [ho, hc] at h
  have e : (cs.drop j).take 1 = [cs[j]'(by omega)] := by
    rw [List.drop_eq_getElem_cons (by omega)]; rfl
  rw [e] at h
  exact ⟨_, _, List.getElem?_eq_getElem (by omega), List.getElem?_eq_getElem (by omega), h.trans (List.getElem?_eq_getElem (by omega))⟩

theorem open_ask {W : World} {base n : Nat} {spare : Nat → Bool} {held : Bool} {a : Addr} {cs : List Value} {x : DataW H × List MemPlace} (hc : W.cells? base a 4 = some cs) (h : DataW.trod enc Try.prog W base spare held n 56 cs = some x) :
    ∃ y : AskD, a = ⟨a.block, a.off, none⟩ ∧ a.block < W.heap.size ∧ AskAt W a.block a.off y := by
  obtain ⟨_, hcl, hat⟩ := World.cells?_some hc
  obtain ⟨ys, n', _, hx, _, hyl, hf⟩ := DataW.trod_struct Try.underlying56 h
  have hyl : ys.length = 4 := hyl
  obtain ⟨v0, y0, hv0, hy0, h0⟩ := ask_field hcl hyl 0 (by omega) (by kernel_rfl) rfl (hf 0 _ rfl)
  obtain ⟨v1, y1, hv1, hy1, h1⟩ := ask_field hcl hyl 1 (by omega) (by kernel_rfl) rfl (hf 1 _ rfl)
  obtain ⟨v2, y2, hv2, hy2, h2⟩ := ask_field hcl hyl 2 (by omega) (by kernel_rfl) rfl (hf 2 _ rfl)
  obtain ⟨v3, y3, hv3, hy3, h3⟩ := ask_field hcl hyl 3 (by omega) (by kernel_rfl) rfl (hf 3 _ rfl)
  obtain ⟨z0, e0, f0, w0⟩ := DataW.trod_int Try.underlying3 h0
  obtain ⟨z1, e1, f1, w1⟩ := DataW.trod_int Try.underlying5 h1
  obtain ⟨z2, e2, f2, w2⟩ := DataW.trod_int Try.underlying26 h2
  obtain ⟨z3, e3, f3, w3⟩ := DataW.trod_int Try.underlying3 h3
  cases e0; cases e1; cases e2; cases e3
  have b0 := wf_i64 w0
  have b1 := wf_u8 w1
  have b2 := wf_u64 w2
  have b3 := wf_i64 w3
  have c0 := (hat 0 (by omega)).trans hv0
  have c1 := (hat 1 (by omega)).trans hv1
  have c2 := (hat 2 (by omega)).trans hv2
  have c3 := (hat 3 (by omega)).trans hv3
  have hs : a = ⟨a.block, a.off, none⟩ := by
    have := c0
    rw [show a.add 0 = a by simp [Addr.add]] at this
    exact spot_none this
  have hlt := World.block_lt_of_cell? _ _ c0
  rw [hs, Addr.add_lit] at c0 c1 c2 c3 hlt
  refine ⟨⟨z0, UInt8.ofNat z1.toNat, z2.toNat, z3⟩, hs, hlt, ⟨b0.1, b0.2, by show z2.toNat < _; omega, b3.1, b3.2⟩, c0, ?_, ?_, c3⟩
  · rw [c1]
    simp only [UInt8.toNat_ofNat']
    congr 2
    omega
  · rw [c2]
    congr 2
    show z2 = ((z2.toNat : Nat) : Int)
    omega

/-- a []Ask that comes in -/
theorem open_asks {W : World} {base b0 : Nat} {r : Reach} {spare : Nat → Bool} {held : Bool} {v : Value} {d : DataW H} {p : List MemPlace} (hval : Value.okWide Try.prog W r b0 52 v) (h : DataW.Trod enc Try.prog W base spare held 52 v d p) :
    ∃ A c xs, v = .slice A xs.length c ∧ xs.length ≤ maxLen ∧ Asks (fun k => k < W.heap.size) W A xs := by
  have hC : Try.prog.cellsOf 56 = 4 := by kernel_rfl
  obtain ⟨a, len, cap, rfl⟩ := okWide_slice Try.underlying52 hval
  obtain ⟨fuel, hf⟩ := h
  rcases DataW.trod_slice Try.underlying52 hf with ⟨hcs, hx⟩ | ⟨a, len', cap', elems, rest, n, _, hcs, hx, _, hl, hm, hlen, hel, _, _⟩
  · simp [Value.cells] at hcs
    obtain ⟨rfl, rfl, rfl⟩ := hcs
    exact ⟨none, 0, [], rfl, Nat.zero_le _, fun h => absurd h (by simp)⟩
  · simp [Value.cells] at hcs
    obtain ⟨rfl, rfl, rfl⟩ := hcs
    rw [hC] at hel
    have each : ∀ i, i < len → ∃ y : AskD, a.add (i * 4) = ⟨a.block, a.off + i * 4, none⟩ ∧ a.block < W.heap.size ∧ AskAt W a.block (a.off + i * 4) y := by
      intro i hi
      have h1 := hel i hi
      rw [List.getElem?_eq_getElem (show i < elems.length by omega), Option.bind_eq_some_iff] at h1
      obtain ⟨cs', hcs, ht⟩ := h1
      obtain ⟨y, ha, hb, hy⟩ := open_ask hcs ht
      have e1 : (a.add (i * 4)).block = a.block := by unfold Addr.add; split <;> rfl
      have e2 : (a.add (i * 4)).off = a.off + i * 4 := by
        unfold Addr.add
        by_cases h0 : i * 4 = 0
        · rw [if_pos h0]; omega
        · rw [if_neg h0]
      rw [e1, e2] at ha hy
      rw [e1] at hb
      exact ⟨y, ha, hb, hy⟩
    have : Inhabited AskD := ⟨⟨0, 0, 0, 0⟩⟩
    obtain ⟨f, hf⟩ := Go.Deep.choose_lt each
    refine ⟨some a, cap, (List.range len).map f, by simp, by rw [List.length_map, List.length_range]; omega, fun hn => ?_⟩
    simp at hn
    have h0 := (hf 0 hn).1
    have ha : a = ⟨a.block, a.off, none⟩ := by
      rw [Nat.zero_mul] at h0
      simpa [Addr.add] using h0
    refine ⟨a.block, a.off, by rw [← ha], (hf 0 hn).2.1, (hf 0 hn).2.1, fun k x hk => ?_⟩
    have hkl := (List.getElem?_eq_some_iff.1 hk).1
    simp at hkl
    rw [List.getElem?_map, List.getElem?_range hkl] at hk
    simp only [Option.map_some, Option.some.injEq] at hk
    rw [← hk]
    exact (hf k hkl).2.2
end

theorem walk (w : World) (A : Option Addr) (c : Nat) (b : List UInt8) (Q : Option Addr) (cq : Nat) (xs : List AskD) (h : Bs (fun k => k < w.heap.size) w A c b) (hl : b.length ≤ 140737488355328)
    (hq : Asks (fun k => k < w.heap.size) w Q xs) (hlen : xs.length ≤ maxLen) :
    Calls Try.prog 5 #[.slice A b.length c, .slice Q xs.length cq] w fun e w' => e = .returned (.bool true) ∧ Below w.heap.size w w' := by
  have hC := fun W (hW : Below w.heap.size w W) => reads_any W A c b Q cq xs ((h.below hW (fun _ hk => hk)).weaken (fun _ hk _ => hk)) hl
    ((hq.mod (Mod.of_below hW Nil) (fun _ _ hf => hf)).grow hW.size) hlen
  have HC := hid hC
  clear hC
  go_enter Try.func5, Try.ntmps5
  go_wp2_with (first
    | (go_at_call 20; refine (known_any w).mono ?_; rintro e w1 ⟨rfl, hb1⟩)
    | (go_at_call 32; refine Calls.mono (HC.out w1 hb1) ?_; rintro e w2 ⟨rfl, hb2⟩))
  go_ret
  exact ⟨rfl, hb1.trans (hb2.mono hb1.size)⟩

theorem contract (H : Type) (enc : TypeId × Value → H) (W : World) (base : Nat) (args : Array Value) (ds gs : List (DataW H)) (before : List MemPlace)
    (hval : ∀ (j : Nat) t v, Try.f5.params[j]? = some t → args[j]? = some v → Value.okWide Try.prog W .any base t v)
    (hW : DataW.Whole enc Try.prog Try.f5.params.toList Rows.packReadsSpec.vars false W args.toList ds gs before)
    (hsized : (DataW.weightsEach Try.prog (Try.f5.params.toList ++ Rows.packReadsSpec.plain.varTypes Try.prog) (ds ++ gs)).all (· ≤ reachBytes) = true) :
    Calls Try.prog 5 args W fun e W' => ∃ v, e = .returned v ∧ Rows.packReadsSpec.post enc Try.prog Try.f5 false true false false W args v W' := by
  have hW' := hW
  obtain ⟨p, q, hA0, hV, rfl, hfz, hnd⟩ := hW
  have hA : DataW.TrodAll enc Try.prog W 0 (fun _ => true) true Try.f5.params.toList args.toList ds p := hA0
  rw [Try.params5] at hA hval hsized
  obtain ⟨v0, v1, d0, d1, p0, p1, rfl, rfl, rfl, h0, h1⟩ := trodAll_two hA
  obtain ⟨rfl, rfl⟩ := trodVars_none hV
  obtain ⟨A0, c0, l0, rfl, hb0, hd0⟩ := open_u8s tyU8 cells_u8 (hval 0 24 v0 rfl rfl) h0
  obtain ⟨A1, c1, xs1, rfl, hlen1, hL1⟩ := open_asks (hval 1 52 v1 rfl rfl) h1
  have hl : l0.length ≤ 140737488355328 := by
    rcases hd0 with ⟨_, rfl⟩ | ⟨es, sp, rfl, he⟩
    · simp
    · have := sized_slice hsized (j := 0) rfl rfl Try.underlying24
      rw [bytes_u8] at this
      have h2 : reachBytes = 140737488351232 := rfl
      omega
  refine (walk W A0 c0 l0 A1 c1 xs1 hb0 hl hL1 hlen1).mono fun e W' ⟨he, hbl⟩ => ⟨.bool true, he, ?_⟩
  exact law_post laidOut (by kernel_rfl) Try.underlying4 (readable_of (by kernel_rfl)) rfl rfl hW' hbl

set_option maxRecDepth 100000 in
theorem lifted (os : Os) (started : os.Started) (H : Type) (enc : TypeId × Value → H) :
    ReturnsInHanded {} Try.checked os 5 .any (Rows.packReadsSpec.pre6 enc Try.prog Try.f5 Rows.packReadsRow.domain false) (Rows.packReadsSpec.post enc Try.prog Try.f5 false true false false) := by
  refine returnsInHanded_of_change_sized (C := Try.checked) own started (by kernel_rfl) Try.func5
    (ChangeSpec.witness6 (enc := enc) (C := Try.checked) false ⟨#[], #[.slice none 0 0, .slice none 0 0], []⟩ 8 (by kernel_rfl) (by kernel_rfl) (by kernel_rfl) (by kernel_rfl)) ?_
  intro W base args ds gs before hval hW _ hsized _
  exact contract H enc W base args ds gs before hval hW hsized

theorem proved : Rows.PackReadsSaid :=
  OpenClaim.holds_of_wide 5 Try.f5 rfl rfl rfl rfl rfl rfl rfl ⟨rfl, rfl, rfl, rfl, rfl⟩ rfl rfl rfl rfl rfl (by kernel_rfl) Try.func5 (by kernel_rfl)
    (of_decide_eq_true (by kernel_rfl)) (by unfold Func.isWrapper; first | (rw [if_pos (by decide +kernel)]; kernel_rfl) | (rw [if_neg (by decide +kernel)]; exact ⟨rfl, rfl⟩))
    (fun os started H enc _ => lifted os started H enc)
end Go.Proofs.Ytefggpcfijcneaa.packReads
