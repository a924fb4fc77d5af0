/-
  What 'laid' lays: the bytes of each thing, one behind the other.
-/
import Derived.Test.YtefggpcfijcneaaLays
namespace Go.Proofs.Ytefggpcfijcneaa
open Go.ChangeShapes Go.WideShapes Go.ChangeAt Go.RowKit

def LayD.bytes (x : LayD) : List UInt8 :=
  if x.what % 4 = 0 then [x.b] else if x.what % 4 = 1 then vlay x.n else if x.what % 4 = 3 then vlay (zig x.i) else vlay x.t.length ++ x.t
def laidAll (xs : List LayD) : List UInt8 := xs.flatMap LayD.bytes

theorem LayAt.up {w wr : World} {B g o : Nat} {x : LayD} (h : LayAt w B g o x) (hb : Below B w wr) (hg : g < B) : LayAt wr B g o x := by
  obtain ⟨h0, h1, h2, h3, h4, h5, h6⟩ := h
  have hc : ∀ j, wr.cell? ⟨g, j, none⟩ = w.cell? ⟨g, j, none⟩ := fun j => hb.cell (p := ⟨g, j, none⟩) hg
  exact ⟨h0, (hc _).trans h1, (hc _).trans h2, (hc _).trans h3, (hc _).trans h4, (hc _).trans h5, h6.below hb (fun _ hk => hk)⟩
theorem LayD.bytes_length {x : LayD} (h : x.ok) (ht : x.t.length < 18446744073709551616) : x.bytes.length ≤ 2 * (x.t.length + 5) := by
  unfold LayD.bytes
  split
  · simp; omega
  · split
    · have := vlay_length x.n h.2.2.1; omega
    · split
      · have := vlay_length (zig x.i) (zig_lt _ h.2.2.2.1 h.2.2.2.2); omega
      · have := vlay_length x.t.length ht
        rw [List.length_append]; omega
theorem weight_take (xs : List LayD) (k : Nat) : weight (xs.take k) ≤ weight xs := by
  unfold weight
  rw [List.map_take]
  conv => rhs; rw [← List.take_append_drop k (xs.map fun x => x.t.length + 5)]
  rw [List.sum_append]
  omega
theorem weight_get {xs : List LayD} {k : Nat} {x : LayD} (h : xs[k]? = some x) : weight (xs.take k) + (x.t.length + 5) ≤ weight xs := by
  have hk := (List.getElem?_eq_some_iff.1 h).1
  have := weight_take xs (k + 1)
  rw [List.take_succ_eq_append_getElem hk] at this
  have hx : xs[k] = x := (List.getElem?_eq_some_iff.1 h).2
  unfold weight at this ⊢
  rw [List.map_append, List.sum_append, hx] at this
  simpa using this
theorem laidAll_lengthB : ∀ {xs : List LayD}, (∀ x ∈ xs, x.ok) → weight xs ≤ 8388608 → (laidAll xs).length ≤ 2 * weight xs
  | [], _, _ => by simp [laidAll]
  | x :: xs, h, hw => by
    have hw' : weight (x :: xs) = x.t.length + 5 + weight xs := by simp [weight]
    have h1 := LayD.bytes_length (h x List.mem_cons_self) (by omega)
    have h2 := laidAll_lengthB (xs := xs) (fun y hy => h y (List.mem_cons_of_mem _ hy)) (by omega)
    show (x.bytes ++ laidAll xs).length ≤ _
    rw [List.length_append]
    omega
theorem laidAll_length {xs : List LayD} (h : ∀ x ∈ xs, x.ok) (hw : weight xs ≤ 1048576) : (laidAll xs).length ≤ 2 * weight xs := laidAll_lengthB h (by omega)
theorem laidAll_take {xs : List LayD} {k : Nat} {x : LayD} (h : xs[k]? = some x) : laidAll (xs.take (k + 1)) = laidAll (xs.take k) ++ x.bytes := by
  have hk := (List.getElem?_eq_some_iff.1 h).1
  rw [List.take_succ_eq_append_getElem hk, (List.getElem?_eq_some_iff.1 h).2]
  unfold laidAll
  rw [List.flatMap_append]
  simp
theorem Lays.ok {w : World} {B : Nat} {A : Option Addr} {xs : List LayD} (h : Lays w B A xs) : ∀ x ∈ xs, x.ok := by
  intro x hx
  obtain ⟨k, hk⟩ := List.getElem?_of_mem hx
  obtain ⟨g, o, _, _, hh⟩ := h (List.length_pos_of_mem hx)
  exact (hh k x hk).1

set_option maxRecDepth 100000 in
set_option maxHeartbeats 2000000 in
theorem laid_anyB (w : World) (A : Option Addr) (c : Nat) (xs : List LayD) (h : Lays w w.heap.size A xs) (hlen : xs.length ≤ maxLen) (hw : weight xs ≤ 8388608) :
    Calls Try.prog 33 #[.slice A xs.length c] w fun e w' => ∃ v', e = .returned v' ∧ Own 5 w' w.heap.size v' (laidAll xs) ∧ Below w.heap.size w w' := by
  have hok := h.ok
  unfold maxLen at hlen
  go_enter Try.func33, Try.ntmps33
  go_wp2_with fail
  refine (newWriter_any _).mono ?_; rintro e w1 ⟨p, rfl, hp1, hw1, hb1⟩
  go_wp2_with fail
  go_loopw [4, 19, 27, 36, 45] (fun i _ _ _ _ wr => ∃ (k : Nat) (v : Value), k ≤ xs.length ∧ i = .int .i64 k ∧ Wtr wr p v (laidAll (xs.take k)) ∧ Up w.heap.size w wr ∧ ∀ j, Foot p v j → w.heap.size ≤ j) (fun i _ _ _ _ _ => xs.length - (intOf i).toNat)
  case atStart =>
    refine ⟨0, _, Nat.zero_le _, rfl, hw1, ⟨hb1, hb1.size⟩, ?_⟩
    rintro k (rfl | hk)
    · exact hp1
    · exact absurd hk At.none
  case round =>
    obtain ⟨k, v, hk, rfl, hwr, hU, hF⟩ := hrel
    by_cases hlt : k < xs.length
    · obtain ⟨g, o, rfl, hg, hat⟩ := h (by omega)
      have hx : xs[k]? = some xs[k] := List.getElem?_eq_getElem hlt
      obtain ⟨x, hxx⟩ : ∃ x, x = xs[k] := ⟨_, rfl⟩
      rw [← hxx] at hx
      have hL := (hat k x hx).up hU.below hg
      obtain ⟨hxo, c0, c1, c2, c3, c4, hT⟩ := hL
      clear hat hxx
      have hbl := laidAll_lengthB (xs := xs.take k) (fun y hy => hok y (List.mem_of_mem_take hy)) (by have := weight_take xs k; omega)
      have hwt := weight_get hx
      have hlt2 := laidAll_take hx
      obtain ⟨L, hLL⟩ : ∃ L, L = laidAll (xs.take k) := ⟨_, rfl⟩
      rw [← hLL] at hwr hbl hlt2
      have hLb : L.length + x.t.length + 10 ≤ 140737488355328 := by omega
      have hLb2 : L.length + 10 ≤ 140737488355328 := by omega
      have hLb3 : L.length + 1 ≤ 140737488355328 := by omega
      clear hbl hwt hLL
      obtain ⟨hx1, hx2, hx3, hx4, hx5⟩ := hxo
      have hP := pick_any wr x.what 4 hx1 hx2 (by omega) (by omega)
      have hq0 := Int.emod_nonneg x.what (show (4 : Int) ≠ 0 by omega)
      have hq4 := Int.emod_lt_of_pos x.what (show (0 : Int) < 4 by omega)
      have hbytes : x.bytes = if x.what % 4 = 0 then [x.b] else if x.what % 4 = 1 then vlay x.n else if x.what % 4 = 3 then vlay (zig x.i) else vlay x.t.length ++ x.t := rfl
      obtain ⟨q, hq⟩ : ∃ q, q = x.what % 4 := ⟨_, rfl⟩
      rw [← hq] at hP hq0 hq4 hbytes
      have hcB := writerByte_any wr p v L x.b hwr hLb3
      have hcN := writerNum_any wr p v L x.n hwr hx3 hLb2
      have hcI := writerInt_any wr p v L x.i hwr hx4 hx5 hLb2
      have hcT := writerText_any wr p v L x.A x.c x.t hwr hT (fun j hj hf => by have := hF j hf; omega) hLb
      have HP := hid hP
      have HB := hid hcB
      have HN := hid hcN
      have HI := hid hcI
      have HT := hid hcT
      have HL := hid hlt2
      have HX := hid hx3
      clear hP hcB hcN hcI hcT hlt2 hx3 hq hwr hT
      by_cases h0 : q = 0
      · subst h0
        rw [if_pos rfl] at hbytes
        have HY := hid hbytes
        clear hbytes
        go_wp2_with (first
          | (go_at_call 23; refine Calls.mono HP.out ?_; rintro e w' ⟨rfl, rfl⟩)
          | (go_at_call 24; refine Calls.mono HB.out ?_; rintro e w2 ⟨v2, rfl, hw2, hm2, ha2⟩))
        obtain ⟨hB2, hS2, hF2⟩ := foot_step hU.below hU.size hF hm2 ha2
        go_roundw
        case rel => exact ⟨k + 1, v2, by omega, by go_num, by rw [HL.out, HY.out]; first | exact hw2 | simpa using hw2, ⟨hB2, hS2⟩, hF2⟩
        case measure => simp [intOf]; omega
      by_cases h1 : q = 1
      · subst h1
        rw [if_neg (by decide), if_pos rfl] at hbytes
        have HY := hid hbytes
        clear hbytes
        go_wp2_with (first
          | (go_at_call 23; refine Calls.mono HP.out ?_; rintro e w' ⟨rfl, rfl⟩)
          | (go_at_call 25; refine Calls.mono HN.out ?_; rintro e w2 ⟨v2, rfl, hw2, hm2, ha2⟩))
        obtain ⟨hB2, hS2, hF2⟩ := foot_step hU.below hU.size hF hm2 ha2
        go_roundw
        case rel => exact ⟨k + 1, v2, by omega, by go_num, by rw [HL.out, HY.out]; first | exact hw2 | simpa using hw2, ⟨hB2, hS2⟩, hF2⟩
        case measure => simp [intOf]; omega
      by_cases h3 : q = 3
      · subst h3
        rw [if_neg (by decide), if_neg (by decide), if_pos rfl] at hbytes
        have HY := hid hbytes
        clear hbytes
        go_wp2_with (first
          | (go_at_call 23; refine Calls.mono HP.out ?_; rintro e w' ⟨rfl, rfl⟩)
          | (go_at_call 27; refine Calls.mono HI.out ?_; rintro e w2 ⟨v2, rfl, hw2, hm2, ha2⟩))
        obtain ⟨hB2, hS2, hF2⟩ := foot_step hU.below hU.size hF hm2 ha2
        go_roundw
        case rel => exact ⟨k + 1, v2, by omega, by go_num, by rw [HL.out, HY.out]; first | exact hw2 | simpa using hw2, ⟨hB2, hS2⟩, hF2⟩
        case measure => simp [intOf]; omega
      have h2 : q = 2 := by omega
      · subst h2
        rw [if_neg (by decide), if_neg (by decide), if_neg (by decide)] at hbytes
        have HY := hid hbytes
        clear hbytes
        go_wp2_with (first
          | (go_at_call 23; refine Calls.mono HP.out ?_; rintro e w' ⟨rfl, rfl⟩)
          | (go_at_call 29; refine Calls.mono HT.out ?_; rintro e w2 ⟨v2, rfl, hw2, hm2, ha2⟩))
        obtain ⟨hB2, hS2, hF2⟩ := foot_step hU.below hU.size hF hm2 ha2
        go_roundw
        case rel => exact ⟨k + 1, v2, by omega, by go_num, by rw [HL.out, HY.out]; first | exact hw2 | simpa using hw2, ⟨hB2, hS2⟩, hF2⟩
        case measure => simp [intOf]; omega
    · have hk' : xs.take k = xs := List.take_of_length_le (by omega)
      rw [hk'] at hwr
      have hbl := laidAll_lengthB hok hw
      have hC := writerBytes_any wr p v _ hwr (by omega)
      have HC := hid hC
      clear hC hk'
      go_wp2_with (go_at_call 31; refine Calls.mono HC.out ?_; rintro e w2 ⟨v2, rfl, ho2, hb2⟩)
      go_ret
      exact ⟨_, rfl, ho2.rebase (fun j hj => Nat.le_trans hU.size (ho2.lt j hj).1), (hU.trans hb2).below⟩
theorem laid_any (w : World) (A : Option Addr) (c : Nat) (xs : List LayD) (h : Lays w w.heap.size A xs) (hlen : xs.length ≤ maxLen) (hw : weight xs ≤ 1048576) :
    Calls Try.prog 33 #[.slice A xs.length c] w fun e w' => ∃ v', e = .returned v' ∧ Own 5 w' w.heap.size v' (laidAll xs) ∧ Below w.heap.size w w' :=
  laid_anyB w A c xs h hlen (by omega)
end Go.Proofs.Ytefggpcfijcneaa
