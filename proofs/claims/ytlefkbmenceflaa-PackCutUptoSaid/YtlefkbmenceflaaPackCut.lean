/-
  What is laid and cut off ends too early, at whatever place. Where what comes in is of bulk at most 1048576.
-/
import Derived.Test.YtlefkbmenceflaaLaid
import Derived.Test.YtlefkbmenceflaaRead
import Derived.Test.YtlefkbmenceflaaReader
namespace Go.Proofs.Ytlefkbmenceflaa.packCut
open Go.ChangeShapes Go.WideShapes Go.ChangeAt Go.RowKit

theorem laidAll_drop {xs : List LayD} {k : Nat} {x : LayD} (h : xs[k]? = some x) : laidAll (xs.drop k) = x.bytes ++ laidAll (xs.drop (k + 1)) := by
  have hk := (List.getElem?_eq_some_iff.1 h).1
  rw [List.drop_eq_getElem_cons hk, (List.getElem?_eq_some_iff.1 h).2]
  rfl

set_option maxRecDepth 100000 in
set_option maxHeartbeats 4000000 in
theorem walk (w : World) (A : Option Addr) (c : Nat) (xs : List LayD) (y : Int) (h : Lays w w.heap.size A xs) (hlen : xs.length ≤ maxLen) (hw : weight xs ≤ 1048576) (hy1 : -9223372036854775808 ≤ y) (hy2 : y ≤ 9223372036854775807) :
    Calls Try.prog 8 #[.slice A xs.length c, .int .i64 y] w fun e w' => e = .returned (.bool true) ∧ Below w.heap.size w w' := by
  have hok := h.ok
  have hbl := laidAll_length hok hw
  have hC := laid_any w A c xs h hlen hw
  have hinv : ∀ k, k < (laidAll xs).length → CutInv (laidAll (xs.drop 0)) ((laidAll xs).take k) 0 := fun k hk => .inr ⟨rfl, k, hk, rfl⟩
  obtain ⟨L, hL⟩ : ∃ L, L = laidAll xs := ⟨_, rfl⟩
  rw [← hL] at hC hbl hinv
  have HL := hid hL
  have HC := hid hC
  have HI := hid hinv
  clear hL hC hinv
  have hLb : L.length ≤ 140737488355328 := by omega
  unfold maxLen at hlen
  by_cases hL0 : L.length = 0
  · have hL1 : L = [] := List.eq_nil_of_length_eq_zero hL0
    subst hL1
    go_enter Try.func8, Try.ntmps8
    go_wp2_with fail
    refine Calls.mono HC.out ?_; rintro e w1 ⟨v1, rfl, ho1, hb1⟩; obtain ⟨A1, c1, rfl, hs1⟩ := ho1.form
    go_wp2_with fail
    refine (known_any w1).mono ?_; rintro e w2 ⟨rfl, hb2⟩
    go_wp2_with fail
    go_ret
    exact ⟨rfl, (((Up.refl w).trans hb1).trans hb2).below⟩
  have hpos : 0 < L.length := by omega
  have hx3 := Int.emod_nonneg y (show (L.length : Int) ≠ 0 by omega)
  have hx4 := Int.emod_lt_of_pos y (show (0 : Int) < (L.length : Int) by omega)
  obtain ⟨m, hm⟩ : ∃ m : Nat, y % (L.length : Int) = (m : Int) := ⟨(y % (L.length : Int)).toNat, by omega⟩
  have hP1 : ∀ W, Calls Try.prog 23 #[.int .i64 y, .int .i64 (L.length : Int)] W fun e w' => e = .returned (.int .i64 (m : Int)) ∧ W = w' := fun W => by rw [← hm]; exact pick_any W y _ hy1 hy2 (by omega) (by omega)
  rw [hm] at hx4
  have hmL : m < L.length := by omega
  have hinv := HI.out m hmL
  have HP1 := hid hP1
  clear hx3 hx4 hm hP1 hL0 HI
  go_enter Try.func8, Try.ntmps8
  go_wp2_with fail
  refine Calls.mono HC.out ?_; rintro e w1 ⟨v1, rfl, ho1, hb1⟩; obtain ⟨A1, c1, rfl, hs1⟩ := ho1.form
  go_wp2_with fail
  refine (known_any w1).mono ?_; rintro e w2 ⟨rfl, hb2⟩
  have hU2 := ((Up.refl w).trans hb1).trans hb2
  have hs2 := hs1.old hb2
  obtain ⟨A3, hs3, hsl3⟩ := run_upto tyU8 hs2 m (by omega)
  have hlm : (L.take m).length = m := by rw [List.length_take]; omega
  have hC3 := newReader_any w2 A3 c1 (L.take m) hs3 (by omega)
  rw [hlm] at hC3 hsl3
  have HC3 := hid hC3
  clear hC3 hlm
  go_wp2_with fail
  refine Calls.mono (HP1.out _) ?_; rintro e w3 ⟨rfl, rfl⟩
  go_wp2_with fail
  refine Calls.mono HC3.out ?_; rintro e w4 ⟨p, rfl, hp4, hr4, hb4⟩
  go_wp2_with fail
  have hU4 := hU2.trans hb4
  have hpw : w.heap.size ≤ p := Nat.le_trans hU2.size hp4
  go_loopw [7, 35, 44, 48, 52] (fun i _ _ _ _ wr => ∃ (k : Nat) (l : List UInt8) (f : Nat), k ≤ xs.length ∧ i = .int .i64 k ∧ Rdr wr w2.heap.size p l f ∧ CutInv (laidAll (xs.drop k)) l f ∧ Up w.heap.size w wr) (fun i _ _ _ _ _ => xs.length - (intOf i).toNat)
  case atStart => exact ⟨0, _, _, Nat.zero_le _, rfl, hr4, hinv, hU4⟩
  case round =>
    clear hinv
    obtain ⟨k, l, f, hk, rfl, hrd, hinv, hU⟩ := hrel
    by_cases hlt : k < xs.length
    · obtain ⟨g, o, rfl, hg, hat⟩ := h (by omega)
      have hx : xs[k]? = some xs[k] := List.getElem?_eq_getElem hlt
      obtain ⟨x, hxx⟩ : ∃ x, x = xs[k] := ⟨_, rfl⟩
      rw [← hxx] at hx
      have hwt := weight_get hx
      obtain ⟨hxo, c0, c1, c2, c3, c4, hT⟩ := (hat k x hx).up hU.below hg
      clear hat hxx
      have htl : x.t.length ≤ 1048576 := by omega
      rw [laidAll_drop hx] at hinv
      obtain ⟨hx1, hx2, hx3, hx4, hx5⟩ := hxo
      have hP := pick_any wr x.what 4 hx1 hx2 (by omega) (by omega)
      have hq0 := Int.emod_nonneg x.what (show (4 : Int) ≠ 0 by omega)
      have hq4 := Int.emod_lt_of_pos x.what (show (0 : Int) < 4 by omega)
      have hbytes : x.bytes = if x.what % 4 = 0 then [x.b] else if x.what % 4 = 1 then vlay x.n else if x.what % 4 = 3 then vlay (zig x.i) else vlay x.t.length ++ x.t := rfl
      obtain ⟨q, hq⟩ : ∃ q, q = x.what % 4 := ⟨_, rfl⟩
      rw [← hq] at hP hq0 hq4 hbytes
      rw [hbytes] at hinv
      have hcB := readerByte_any wr _ p f 255 l hrd (by decide)
      have hcN := readerNum_any wr _ p f 18446744073709551615 l hrd (by decide)
      have hcI := readerInt_any wr _ p f l hrd
      have hcT := readerText_any wr _ p f (x.t.length : Int) l hrd (by omega) (by omega)
      have HP := hid hP
      have HB := hid hcB
      have HN := hid hcN
      have HII := hid hcI
      have HT := hid hcT
      clear hP hcB hcN hcI hcT hq hbytes hT hwt
      by_cases h0 : q = 0
      · subst h0
        rw [if_pos rfl] at hinv
        have hinv := cut_byte (most := 255) hinv (by have := UInt8.toNat_lt x.b; omega)
        clear hx3
        have HJ := hid hinv
        clear hinv
        go_wp2_with (first
          | (go_at_call 23; refine Calls.mono HP.out ?_; rintro e w' ⟨rfl, rfl⟩)
          | (go_at_call 13; refine Calls.mono HB.out ?_; rintro e w6 ⟨rfl, hr6, hm6⟩))
        have hU6 := hU.one hm6 hpw
        go_roundw
        case rel => exact ⟨k + 1, _, _, by omega, by go_num, hr6, HJ.out, hU6⟩
        case measure => simp [intOf]; omega
      by_cases h1 : q = 1
      · subst h1
        rw [if_neg (by decide), if_pos rfl] at hinv
        have hinv := cut_num (most := 18446744073709551615) hinv (by omega) hx3
        clear hx3
        have HJ := hid hinv
        clear hinv
        go_wp2_with (first
          | (go_at_call 23; refine Calls.mono HP.out ?_; rintro e w' ⟨rfl, rfl⟩)
          | (go_at_call 14; refine Calls.mono HN.out ?_; rintro e w6 ⟨rfl, hr6, hm6⟩))
        have hU6 := hU.one hm6 hpw
        go_roundw
        case rel => exact ⟨k + 1, _, _, by omega, by go_num, hr6, HJ.out, hU6⟩
        case measure => simp [intOf]; omega
      by_cases h3 : q = 3
      · subst h3
        rw [if_neg (by decide), if_neg (by decide), if_pos rfl] at hinv
        have hinv := cut_int hinv hx4 hx5
        clear hx3
        have HJ := hid hinv
        clear hinv
        go_wp2_with (first
          | (go_at_call 23; refine Calls.mono HP.out ?_; rintro e w' ⟨rfl, rfl⟩)
          | (go_at_call 15; refine Calls.mono HII.out ?_; rintro e w6 ⟨rfl, hr6, hm6⟩))
        have hU6 := hU.one hm6 hpw
        go_roundw
        case rel => exact ⟨k + 1, _, _, by omega, by go_num, hr6, HJ.out, hU6⟩
        case measure => simp [intOf]; omega
      have h2 : q = 2 := by omega
      · subst h2
        rw [if_neg (by decide), if_neg (by decide), if_neg (by decide)] at hinv
        have hinv := cut_text (most := (x.t.length : Int)) hinv (Int.le_refl _) (by omega)
        clear hx3
        have HJ := hid hinv
        clear hinv
        go_wp2_with (first
          | (go_at_call 23; refine Calls.mono HP.out ?_; rintro e w' ⟨rfl, rfl⟩)
          | (go_at_call 16; refine Calls.mono HT.out ?_; rintro e w6 ⟨v6, rfl, ho6, hr6, hm6⟩))
        have hU6 := hU.one hm6 hpw
        go_roundw
        case rel => exact ⟨k + 1, _, _, by omega, by go_num, hr6, HJ.out, hU6⟩
        case measure => simp [intOf]; omega
    · have hk' : xs.drop k = [] := List.drop_eq_nil_of_le (by omega)
      rw [hk'] at hinv
      have hend := CutInv.end_ hinv
      have hC := readerEnd_any wr _ p f l hrd
      rw [hend] at hC
      have HC5 := hid hC
      clear hC hk' hend hinv
      go_wp2_with (go_at_call 17; refine Calls.mono HC5.out ?_; rintro e w' ⟨rfl, rfl⟩)
      go_ret
      exact ⟨rfl, hU.below⟩
theorem contract (H : Type) (enc : TypeId × Value → H) (W : World) (base : Nat) (args : Array Value) (ds gs : List (DataW H)) (before : List MemPlace)
    (hval : ∀ (j : Nat) t v, Try.f8.params[j]? = some t → args[j]? = some v → Value.okWide Try.prog W .any base t v)
    (hW : DataW.Whole enc Try.prog Try.f8.params.toList Rows.packCutSpec.vars false W args.toList ds gs before)
    (hk : Rows.uptoSmall H (ds ++ gs) = true) :
    Calls Try.prog 8 args W fun e W' => ∃ v, e = .returned v ∧ Rows.packCutSpec.post enc Try.prog Try.f8 false true false false W args v W' := by
  have hW' := hW
  obtain ⟨p, q, hA0, hV, rfl, hfz, hnd⟩ := hW
  have hA : DataW.TrodAll enc Try.prog W 0 (fun _ => true) true Try.f8.params.toList args.toList ds p := hA0
  rw [Try.params8] at hA hval
  obtain ⟨v0, v1, d0, d1, p0, p1, rfl, rfl, rfl, h0, h1⟩ := trodAll_two hA
  obtain ⟨rfl, rfl⟩ := trodVars_none hV
  obtain ⟨A0, c0, xs0, rfl, hlen0, hL0, hw0⟩ := open_lays (hval 0 38 v0 rfl rfl) h0
  obtain ⟨x1, rfl, rfl, rfl, wx1⟩ := open_int Try.underlying3 (hval 1 3 v1 rfl rfl) h1
  have hx1 := wf_i64 wx1
  have hbd := bound hk
  simp only [List.append_nil, List.cons_append, List.nil_append, Rows.uptoBulkAll] at hbd
  refine (walk W A0 c0 xs0 x1 hL0 hlen0 (by omega) hx1.1 hx1.2).mono fun e W' ⟨he, hbl⟩ => ⟨.bool true, he, ?_⟩
  exact law_post laidOut (by kernel_rfl) Try.underlying4 (readable_of (by kernel_rfl)) rfl rfl hW' hbl

set_option maxRecDepth 100000 in
theorem lifted (os : Os) (started : os.Started) (H : Type) (enc : TypeId × Value → H) (F : Stop.Interp) :
    ReturnsInHanded {} Try.checked os 8 .any ((Rows.OpenSpec.upto Rows.packCutSpec).pre6 enc Try.prog Try.f8 Rows.packCutUptoRow.domain false) (((Rows.OpenSpec.upto Rows.packCutSpec).at F).post enc Try.prog Try.f8 false true false false) := by
  refine returnsInHanded_of_cond (C := Try.checked) (s := Rows.OpenSpec.upto Rows.packCutSpec) (k := Rows.uptoSmall) rfl own started (by kernel_rfl) Try.func8
    (OpenSpec.witness (enc := enc) (C := Try.checked) (s := Rows.OpenSpec.upto Rows.packCutSpec) (k := Rows.uptoSmall) rfl false ⟨#[], #[.slice none 0 0, .int .i64 0], []⟩ 8 (by kernel_rfl) (by kernel_rfl) (by kernel_rfl)
      (x := ([.nil, .lit (.int .i64 0)], [], [])) (by kernel_rfl) rfl (by kernel_rfl)) ?_
  intro W base args ds gs before hval hW _ hk _
  exact contract H enc W base args ds gs before hval hW hk

theorem proved : Rows.PackCutUptoSaid :=
  OpenClaim.holds_of_cond 8 Try.f8 rfl rfl rfl rfl rfl rfl rfl ⟨rfl, rfl, rfl, rfl, rfl⟩ rfl rfl rfl rfl rfl (by kernel_rfl) Try.func8 (by kernel_rfl)
    (of_decide_eq_true (by kernel_rfl)) (by unfold Func.isWrapper; first | (rw [if_pos (by decide +kernel)]; kernel_rfl) | (rw [if_neg (by decide +kernel)]; exact ⟨rfl, rfl⟩))
    (fun os started H enc _ F => lifted os started H enc F)
end Go.Proofs.Ytlefkbmenceflaa.packCut
