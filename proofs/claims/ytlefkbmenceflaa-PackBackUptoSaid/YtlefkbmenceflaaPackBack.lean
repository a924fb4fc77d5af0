/-
  What is laid is read by the same calls, and nothing is left. Where what comes in is of bulk at most 1048576.
-/
import Derived.Test.YtlefkbmenceflaaLaid
import Derived.Test.YtlefkbmenceflaaRead
import Derived.Test.YtlefkbmenceflaaReader
import Derived.Deep.RegionHeld3
import Derived.Deep.RegionWith
namespace Go.Proofs.Ytlefkbmenceflaa.packBack
open Go.ChangeShapes Go.WideShapes Go.ChangeAt Go.RowKit

theorem laidAll_drop {xs : List LayD} {k : Nat} {x : LayD} (h : xs[k]? = some x) : laidAll (xs.drop k) = x.bytes ++ laidAll (xs.drop (k + 1)) := by
  have hk := (List.getElem?_eq_some_iff.1 h).1
  rw [List.drop_eq_getElem_cons hk, (List.getElem?_eq_some_iff.1 h).2]
  rfl

set_option maxRecDepth 100000 in
set_option maxHeartbeats 4000000 in
theorem walk (w : World) (A : Option Addr) (c : Nat) (xs : List LayD) (h : Lays w w.heap.size A xs) (hlen : xs.length ≤ maxLen) (hw : weight xs ≤ 1048576) :
    Calls Try.prog 7 #[.slice A xs.length c] w fun e w' => e = .returned (.bool true) ∧ Below w.heap.size w w' := by
  have hok := h.ok
  have hbl := laidAll_length hok hw
  have hC := laid_any w A c xs h hlen hw
  have HC := hid hC
  clear hC
  unfold maxLen at hlen
  have hLb : (laidAll xs).length ≤ 140737488355328 := by omega
  go_enter Try.func7, Try.ntmps7
  go_wp2_with fail
  refine Calls.mono HC.out ?_; rintro e w1 ⟨v1, rfl, ho1, hb1⟩; obtain ⟨A1, c1, rfl, hs1⟩ := ho1.form
  have hC2 := newReader_any w1 A1 c1 _ hs1 hLb
  have HC2 := hid hC2
  clear hC2
  go_wp2_with fail
  refine Calls.mono HC2.out ?_; rintro e w2 ⟨p, rfl, hp2, hr2, hb2⟩
  go_wp2_with fail
  refine (known_any w2).mono ?_; rintro e w3 ⟨rfl, hb3⟩
  have hU1 := (Up.refl w).trans hb1
  have hU3 := (hU1.trans hb2).trans hb3
  have hr3 := hr2.mod (Mod.of_below hb3 Nil) (fun _ _ _ hf => hf) hp2
  have hpw : w.heap.size ≤ p := Nat.le_trans hU1.size hp2
  have hr3 : Rdr w3 w1.heap.size p (laidAll (xs.drop 0)) 0 := hr3
  go_wp2_with fail
  go_loopw [4, 25, 42, 57, 72] (fun i _ _ _ _ wr => ∃ k : Nat, k ≤ xs.length ∧ i = .int .i64 k ∧ Rdr wr w1.heap.size p (laidAll (xs.drop k)) 0 ∧ Up w.heap.size w wr) (fun i _ _ _ _ _ => xs.length - (intOf i).toNat)
  case atStart => exact ⟨0, Nat.zero_le _, rfl, hr3, hU3⟩
  case round =>
    obtain ⟨k, hk, rfl, hrd, hU⟩ := hrel
    by_cases hlt : k < xs.length
    · obtain ⟨g, o, rfl, hg, hat⟩ := h (by omega)
      have hx : xs[k]? = some xs[k] := List.getElem?_eq_getElem hlt
      obtain ⟨x, hxx⟩ : ∃ x, x = xs[k] := ⟨_, rfl⟩
      rw [← hxx] at hx
      have hwt := weight_get hx
      obtain ⟨hxo, c0, c1', c2, c3, c4, hT⟩ := (hat k x hx).up hU.below hg
      clear hat hxx
      have htl : x.t.length ≤ 1048576 := by omega
      rw [laidAll_drop hx] at hrd
      obtain ⟨R, hR⟩ : ∃ R, R = laidAll (xs.drop (k + 1)) := ⟨_, rfl⟩
      rw [← hR] at hrd
      have HR := hid hR
      clear hR
      obtain ⟨hx1, hx2, hx3, hx4, hx5⟩ := hxo
      have hP := pick_any wr x.what 4 hx1 hx2 (by omega) (by omega)
      have hq0 := Int.emod_nonneg x.what (show (4 : Int) ≠ 0 by omega)
      have hq4 := Int.emod_lt_of_pos x.what (show (0 : Int) < 4 by omega)
      have hbytes : x.bytes = if x.what % 4 = 0 then [x.b] else if x.what % 4 = 1 then vlay x.n else if x.what % 4 = 3 then vlay (zig x.i) else vlay x.t.length ++ x.t := rfl
      obtain ⟨q, hq⟩ : ∃ q, q = x.what % 4 := ⟨_, rfl⟩
      rw [← hq] at hP hq0 hq4 hbytes
      rw [hbytes] at hrd
      have hcB : ∀ W, Rdr W w1.heap.size p ([x.b] ++ R) 0 → Calls Try.prog 13 #[ptr p, .int .u8 (x.b.toNat : Int)] W fun e w' => e = .returned (.int .u8 (x.b.toNat : Int)) ∧ Rdr w' w1.heap.size p R 0 ∧ Mod (One p) W w' := by
        intro W hW
        have := readerByte_any W _ p 0 x.b.toNat _ hW (UInt8.toNat_lt _)
        rwa [List.singleton_append, rbyte_lay x.b.toNat x.b R (Nat.le_refl _)] at this
      have hcN : ∀ W, Rdr W w1.heap.size p (vlay x.n ++ R) 0 → Calls Try.prog 14 #[ptr p, .int .u64 (x.n : Int)] W fun e w' => e = .returned (.int .u64 (x.n : Int)) ∧ Rdr w' w1.heap.size p R 0 ∧ Mod (One p) W w' := by
        intro W hW
        have := readerNum_any W _ p 0 x.n _ hW hx3
        rwa [rnum_lay x.n x.n R (Nat.le_refl _) hx3] at this
      have hcI : ∀ W, Rdr W w1.heap.size p (vlay (zig x.i) ++ R) 0 → Calls Try.prog 15 #[ptr p] W fun e w' => e = .returned (.int .i64 x.i) ∧ Rdr w' w1.heap.size p R 0 ∧ Mod (One p) W w' := by
        intro W hW
        have := readerInt_any W _ p 0 _ hW
        rwa [rint_lay x.i R hx4 hx5] at this
      have hcT : ∀ W, Rdr W w1.heap.size p (vlay x.t.length ++ x.t ++ R) 0 → Calls Try.prog 16 #[ptr p, .int .i64 (x.t.length : Int)] W fun e w' => ∃ v', e = .returned v' ∧ Own 5 w' W.heap.size v' x.t ∧ Rdr w' w1.heap.size p R 0 ∧ Mod (One p) W w' := by
        intro W hW
        have := readerText_any W _ p 0 (x.t.length : Int) _ hW (by omega) (by omega)
        rwa [rtext_lay (x.t.length : Int) x.t R (Int.le_refl _) (by omega)] at this
      have HP := hid hP
      have HB := hid hcB
      have HN := hid hcN
      have HII := hid hcI
      have HT := hid hcT
      have HX3 := hid hx3
      have hgs : g < wr.heap.size := Nat.lt_of_lt_of_le hg hU.size
      have hgp : ¬ One p g := fun e => by unfold One at e; omega
      clear hP hcB hcN hcI hcT hq hbytes hwt hx3
      by_cases h0 : q = 0
      · subst h0
        rw [if_pos rfl] at hrd
        go_wp2_with (go_at_call 23; refine Calls.mono HP.out ?_; rintro e w' ⟨rfl, rfl⟩)
        go_region_held3 (fun W => W.cell? ⟨g, o + k * 5 + 1, none⟩ = some (.int .u8 (x.b.toNat : Int)))
          (first | exact c1' | exact (hm6.cell (p := ⟨g, o + k * 5 + 1, none⟩) hgs hgp).trans c1')
          (first | (go_at_call 13; refine Calls.mono (HB.out wr.drew hrd) ?_; rintro e w6 ⟨rfl, hr6, hm6⟩))
        go_wp2
        have hU6 : Up w.heap.size w w6 := (hU.drew).one hm6 hpw
        go_roundw
        case rel => exact ⟨k + 1, by omega, by go_num, by rw [← HR.out]; exact hr6, hU6⟩
        case measure => simp [intOf]; omega
      by_cases h1 : q = 1
      · subst h1
        rw [if_neg (by decide), if_pos rfl] at hrd
        go_wp2_with (go_at_call 23; refine Calls.mono HP.out ?_; rintro e w' ⟨rfl, rfl⟩)
        go_region_held3 (fun W => W.cell? ⟨g, o + k * 5 + 2, none⟩ = some (.int .u64 (x.n : Int)))
          (first | exact c2 | exact (hm6.cell (p := ⟨g, o + k * 5 + 2, none⟩) hgs hgp).trans c2)
          (first | (go_at_call 14; refine Calls.mono (HN.out wr.drew hrd) ?_; rintro e w6 ⟨rfl, hr6, hm6⟩))
        go_wp2
        have hU6 : Up w.heap.size w w6 := (hU.drew).one hm6 hpw
        go_roundw
        case rel => exact ⟨k + 1, by omega, by go_num, by rw [← HR.out]; exact hr6, hU6⟩
        case measure => simp [intOf]; omega
      by_cases h3 : q = 3
      · subst h3
        rw [if_neg (by decide), if_neg (by decide), if_pos rfl] at hrd
        go_wp2_with (go_at_call 23; refine Calls.mono HP.out ?_; rintro e w' ⟨rfl, rfl⟩)
        go_region_held3 (fun W => W.cell? ⟨g, o + k * 5 + 3, none⟩ = some (.int .i64 x.i))
          (first | exact c3 | exact (hm6.cell (p := ⟨g, o + k * 5 + 3, none⟩) hgs hgp).trans c3)
          (first | (go_at_call 15; refine Calls.mono (HII.out wr.drew hrd) ?_; rintro e w6 ⟨rfl, hr6, hm6⟩))
        go_wp2
        have hU6 : Up w.heap.size w w6 := (hU.drew).one hm6 hpw
        go_roundw
        case rel => exact ⟨k + 1, by omega, by go_num, by rw [← HR.out]; exact hr6, hU6⟩
        case measure => simp [intOf]; omega
      have h2 : q = 2 := by omega
      · subst h2
        rw [if_neg (by decide), if_neg (by decide), if_neg (by decide)] at hrd
        have rT : (convert 24 9 (.slice x.A x.t.length x.c)).run Try.prog wr.drew = .ok (.string ⟨x.t.toArray⟩) wr.drew := run_str (w := wr.drew) tyU8 tyStr hT
        go_wp2_with (go_at_call 23; refine Calls.mono HP.out ?_; rintro e w' ⟨rfl, rfl⟩)
        go_region_with (go_at_call 16; refine Calls.mono (HT.out wr.drew hrd) ?_; rintro e w6 ⟨v6, rfl, ho6, hr6, hm6⟩; have d4 := (hm6.cell (p := ⟨g, o + k * 5 + 4, none⟩) hgs hgp).trans c4; have rT6 := run_str tyU8 tyStr ((show Bs (fun k => k < w.heap.size) wr.drew x.A x.c x.t from hT).mod hm6 (fun j hj e => by unfold One at e; omega)); obtain ⟨A6, c6, rfl, hs6⟩ := ho6.form; have rV6 := run_str tyU8 tyStr hs6)
        all_goals
          go_wp2
          have hU6 : Up w.heap.size w w6 := (hU.drew).one hm6 hpw
          go_roundw
          case rel => exact ⟨k + 1, by omega, by go_num, by rw [← HR.out]; exact hr6, hU6⟩
          case measure => simp [intOf]; omega
    · have hk' : xs.drop k = [] := List.drop_eq_nil_of_le (by omega)
      rw [hk'] at hrd
      have hC := readerEnd_any wr _ p 0 _ hrd
      have HC5 := hid hC
      clear hC hk'
      go_wp2_with (go_at_call 17; refine Calls.mono HC5.out ?_; rintro e w' ⟨rfl, rfl⟩)
      go_ret
      exact ⟨rfl, hU.below⟩
theorem contract (H : Type) (enc : TypeId × Value → H) (W : World) (base : Nat) (args : Array Value) (ds gs : List (DataW H)) (before : List MemPlace)
    (hval : ∀ (j : Nat) t v, Try.f7.params[j]? = some t → args[j]? = some v → Value.okWide Try.prog W .any base t v)
    (hW : DataW.Whole enc Try.prog Try.f7.params.toList Rows.packBackSpec.vars false W args.toList ds gs before)
    (hk : Rows.uptoSmall H (ds ++ gs) = true) :
    Calls Try.prog 7 args W fun e W' => ∃ v, e = .returned v ∧ Rows.packBackSpec.post enc Try.prog Try.f7 false true false false W args v W' := by
  have hW' := hW
  obtain ⟨p, q, hA0, hV, rfl, hfz, hnd⟩ := hW
  have hA : DataW.TrodAll enc Try.prog W 0 (fun _ => true) true Try.f7.params.toList args.toList ds p := hA0
  rw [Try.params7] at hA hval
  obtain ⟨v0, vs0, d0, ds0, p0, q0, hargs, rfl, rfl, h0, r0⟩ := trodAll_cons hA
  obtain ⟨rfl, rfl, rfl⟩ := trodAll_nil r0
  obtain rfl : args = #[v0] := by cases args; simp_all
  obtain ⟨rfl, rfl⟩ := trodVars_none hV
  obtain ⟨A0, c0, xs0, rfl, hlen0, hL0, hw0⟩ := open_lays (hval 0 38 v0 rfl rfl) h0
  have hbd := bound hk
  simp only [List.append_nil, List.cons_append, List.nil_append, Rows.uptoBulkAll] at hbd
  refine (walk W A0 c0 xs0 hL0 hlen0 (by omega)).mono fun e W' ⟨he, hbl⟩ => ⟨.bool true, he, ?_⟩
  exact law_post laidOut (by kernel_rfl) Try.underlying4 (readable_of (by kernel_rfl)) rfl rfl hW' hbl

set_option maxRecDepth 100000 in
theorem lifted (os : Os) (started : os.Started) (H : Type) (enc : TypeId × Value → H) (F : Stop.Interp) :
    ReturnsInHanded {} Try.checked os 7 .any ((Rows.OpenSpec.upto Rows.packBackSpec).pre6 enc Try.prog Try.f7 Rows.packBackUptoRow.domain false) (((Rows.OpenSpec.upto Rows.packBackSpec).at F).post enc Try.prog Try.f7 false true false false) := by
  refine returnsInHanded_of_cond (C := Try.checked) (s := Rows.OpenSpec.upto Rows.packBackSpec) (k := Rows.uptoSmall) rfl own started (by kernel_rfl) Try.func7
    (OpenSpec.witness (enc := enc) (C := Try.checked) (s := Rows.OpenSpec.upto Rows.packBackSpec) (k := Rows.uptoSmall) rfl false ⟨#[], #[.slice none 0 0], []⟩ 8 (by kernel_rfl) (by kernel_rfl) (by kernel_rfl)
      (x := ([.nil], [], [])) (by kernel_rfl) rfl (by kernel_rfl)) ?_
  intro W base args ds gs before hval hW _ hk _
  exact contract H enc W base args ds gs before hval hW hk

theorem proved : Rows.PackBackUptoSaid :=
  OpenClaim.holds_of_cond 7 Try.f7 rfl rfl rfl rfl rfl rfl rfl ⟨rfl, rfl, rfl, rfl, rfl⟩ rfl rfl rfl rfl rfl (by kernel_rfl) Try.func7 (by kernel_rfl)
    (of_decide_eq_true (by kernel_rfl)) (by unfold Func.isWrapper; first | (rw [if_pos (by decide +kernel)]; kernel_rfl) | (rw [if_neg (by decide +kernel)]; exact ⟨rfl, rfl⟩))
    (fun os started H enc _ F => lifted os started H enc F)
end Go.Proofs.Ytlefkbmenceflaa.packBack
