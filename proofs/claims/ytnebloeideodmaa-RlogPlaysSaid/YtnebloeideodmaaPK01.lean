/-
  Opn · RlX · RlQ · RlR
-/
import Derived.Test.YtnebloeideodmaaPC01
import Derived.Test.YtnebloeideodmaaPD04
import Derived.Test.YtnebloeideodmaaPE01
import Derived.Test.YtnebloeideodmaaPG03
import Derived.Test.YtnebloeideodmaaPJ01
set_option linter.unusedSimpArgs false
set_option linter.unusedVariables false
set_option maxRecDepth 100000
namespace Go.Proofs.Ytnebloeideodmaa.Sep
open Go.ChangeShapes Go.WideShapes Go.ChangeAt Go.RowKit
structure StepD where
  what : Int
  k : Int
  v : Int
  near : Bool
instance : Inhabited StepD := ⟨⟨0, 0, 0, false⟩⟩
def StepD.ok (x : StepD) : Prop := (-9223372036854775808 ≤ x.what ∧ x.what ≤ 9223372036854775807) ∧ (0 ≤ x.k ∧ x.k ≤ 18446744073709551615) ∧ (-9223372036854775808 ≤ x.v ∧ x.v ≤ 9223372036854775807)
section
variable {H : Type} {enc : TypeId × Value → H} {W : World} {base b0 : Nat} {r : Reach} {spare : Nat → Bool} {held : Bool} {v : Value} {d : DataW H} {p : List MemPlace}
end
end Go.Proofs.Ytnebloeideodmaa.Sep
namespace Go.Proofs.Ytnebloeideodmaa.Sep
open Go.ChangeShapes Go.WideShapes Go.ChangeAt Go.RowKit
section
variable {H : Type} {enc : TypeId × Value → H} {P : Program} {W : World} {α : Type} {k : Nat} {enc' : α → List Value} {l : List α} {A : Option Addr} {c n : Nat} {w : World}
theorem P3 {j : Nat} : DS k (.slice A n c) 0 j = .slice A j c := by
  cases A with
  | none => simp [DS]
  | some a => simp [DS, Addr.add]
theorem Cg.head (he : EncOf k enc') {j : Nat} (hj : j ≤ l.length) (h : Cg w k (.slice A l.length c) l.length (A6 enc' l)) : Cg w k (.slice A j c) (l.take j).length (A6 enc' (l.take j)) := by
  have hl : (l.take j).length = j := by rw [List.length_take]; omega
  obtain ⟨_, A', c', e, h3⟩ := h
  simp only [Value.slice.injEq] at e
  obtain ⟨rfl, _, rfl⟩ := e
  refine ⟨B1 he _, A, c, by rw [hl], ?_⟩
  rcases h3 with ⟨h4, h5⟩ | ⟨a, h4, h5⟩
  · exact .inl ⟨h4, by omega⟩
  · refine .inr ⟨a, h4, fun q x hx => h5 q x ?_⟩
    rw [← Gr he, List.getElem?_take] at hx
    split at hx
    · exact hx
    · cases hx
theorem Cg.tail (he : EncOf k enc') {i : Nat} (hi : i ≤ l.length) (hc : l.length ≤ c) (h : Cg w k (.slice A l.length c) l.length (A6 enc' l)) : Cg w k (DS k (.slice A l.length c) i l.length) (l.drop i).length (A6 enc' (l.drop i)) := by
  have hl : (l.drop i).length = l.length - i := List.length_drop ..
  obtain ⟨_, A', c', e, h3⟩ := h
  simp only [Value.slice.injEq] at e
  obtain ⟨rfl, _, rfl⟩ := e
  refine ⟨B1 he _, _, c - i, by simp only [DS]; rw [hl], ?_⟩
  rcases h3 with ⟨h4, h5⟩ | ⟨a, h4, h5⟩
  · subst h4
    exact .inl ⟨by split <;> rfl, by omega⟩
  · subst h4
    by_cases hci : c = i
    · refine .inr ⟨a, by rw [if_pos hci], fun q x hx => ?_⟩
      rw [List.drop_of_length_le (by omega)] at hx
      simp [A6] at hx
    · refine .inr ⟨a.add (i * k), by rw [if_neg hci]; rfl, fun q x hx => ?_⟩
      rw [← EW he, List.getElem?_drop] at hx
      have h6 := h5 _ x hx
      have hlt := (List.getElem?_eq_some_iff.1 hx).1
      obtain ⟨z, hz⟩ : ∃ z, (A6 enc' l)[0]? = some z := ⟨_, List.getElem?_eq_getElem (by omega)⟩
      have h0 := h5 0 z hz
      rw [show a.add 0 = a by simp [Addr.add]] at h0
      have ha := Rs h0
      rw [ha, Addr.add_lit] at h6
      rw [ha, Addr.add_lit, Addr.add_lit, Nat.add_assoc]
      exact h6
end
theorem Tq {X : Ass} {A : Option Addr} {c k : Nat} {l : List EntV} (h : Cx X (.slice A l.length c) l) (hk : k ≤ l.length) : Cx X (.slice A (l.take k).length c) (l.take k) := fun rs w h1 h2 => by
 have h3 := h rs w h1 h2
 refine ⟨?_, fun x hx => h3.2 x (List.mem_of_mem_take hx)⟩
 have := Cg.head Bd hk h3.1
 rw [show (l.take k).length = k by rw [List.length_take]; omega] at this ⊢
 exact this
def EB (A : Option Addr) (c k : Nat) : Option Addr := if c = k then A else A.map (·.add (k * 5))
theorem K4 {X : Ass} {A : Option Addr} {c k : Nat} {l : List EntV} (h : Cx X (.slice A l.length c) l) (hk : k ≤ l.length) (hc : l.length ≤ c) : Cx X (.slice (EB A c k) (l.drop k).length (c - k)) (l.drop k) := fun rs w h1 h2 => by
 have h3 := h rs w h1 h2
 refine ⟨?_, fun x hx => h3.2 x (List.mem_of_mem_drop hx)⟩
 have := Cg.tail Bd hk hc h3.1
 rw [show DS 5 (.slice A l.length c) k l.length = .slice (EB A c k) (l.drop k).length (c - k) by unfold DS EB; rw [List.length_drop]] at this
 exact this
theorem Gx {A : Option Addr} {c k : Nat} {l : List EntV} : DS 5 (.slice A l.length c) k l.length = .slice (EB A c k) (l.drop k).length (c - k) := by unfold DS EB; rw [List.length_drop]
end Go.Proofs.Ytnebloeideodmaa.Sep
namespace Go.Proofs.Ytnebloeideodmaa.Sep
open Go.RowKit
open Go.Proofs.Ytnebloeideodmaa.Mem (AM BA Chg Aq)
theorem Ih {P : Program} {F : FuncId} {args : Array Value} {val : Value} {g : Nat} {bi bt bc : Int} {es : List EntD} (h : ∀ (v : Value) (f : Nat), AV P F args [cell g 67 #[.int .u64 bi, .int .u64 bt, .int .i64 bc, v, .int .i64 (f : Int), .int .i64 (es.length : Int)]] (fun _ : Unit => val) (fun _ => [cell g 67 #[.int .u64 bi, .int .u64 bt, .int .i64 bc, v, .int .i64 (f : Int), .int .i64 (es.length : Int)]]) ) : AV P F args [Av g bi bt bc es] (fun _ : Unit => val) (fun _ => [Av g bi bt bc es]) :=
 HM fun v sl f _ => (h v f).frame (more := [As 32 5 encV v (sl), An dat sl])
theorem Se (g : Nat) (bi bt bc : Int) (es : List EntD) (hI : InvL bi bt es) (x : Int) (hx : 0 ≤ x ∧ x ≤ 18446744073709551615) (u : Nat) (hu : Dt bi es.length x = u) : AV Try.prog 36 #[.pointer (some ⟨g, 0, none⟩), .int .u64 x] [Av g bi bt bc es] (fun _ : Unit => .int .i64 (u : Int)) (fun _ => [Av g bi bt bc es]) :=
 Ih fun v f => Hk g bi bt bc v f es.length x hI.hi (by have := hI.len; have := hI.hi; omega) hx u hu
theorem I7 (g : Nat) (bi bt bc : Int) (es : List EntD) (hI : InvL bi bt es) (x y : Int) (hx : 0 ≤ x ∧ x ≤ 18446744073709551615) (b : Bool) (hb : CY bi bt es x y = b) : AV Try.prog 34 #[.pointer (some ⟨g, 0, none⟩), .int .u64 x, .int .u64 y] [Av g bi bt bc es] (fun _ : Unit => .bool b) (fun _ => [Av g bi bt bc es]) :=
 HM fun v sl f hR => WB g bi bt bc es hI v sl f hR x y hx b hb
theorem Mn (g : Nat) (bi bt bc : Int) (es : List EntD) (hI : InvL bi bt es) (x : Int) (hx : 0 ≤ x ∧ x ≤ 18446744073709551615) (p q : Int) (hc : Ez (bc, bi) (es.take (Dt bi es.length x)) = (p, q)) : AV Try.prog 38 #[.pointer (some ⟨g, 0, none⟩), .int .u64 x] [Av g bi bt bc es] (fun _ : Unit => .int .i64 p) (fun _ => [Av g bi bt bc es]) :=
 HM fun v sl f hR => NJ g bi bt bc es hI v sl f hR x hx p q hc
theorem WF (g : Nat) (bi bt bc : Int) (es : List EntD) (cv : Value) (e : EntD) (hs : (es.length + 1) * 56 ≤ 140737488351232) : AV Try.prog 61 #[.pointer (some ⟨g, 3, none⟩), cv] [Av g bi bt bc es, OO cv e] (fun _ : Unit => .tuple #[]) (fun _ => [Av g bi bt bc (es ++ [e])]) := fun w rs ⟨a, b, e1, h1, h2⟩ hr hd => by
 have h3 := h2.one'
 have hcv := h3.1
 have := R5 g bi bt bc es (FE e cv) hs w rs ⟨a, b, e1, h1, Am.one h3.2⟩ hr hd
 rw [NM] at this
 generalize hy : FE e cv = y at hcv
 have hye : y.e = e := by rw [← hy, NM]
 rw [hy] at this
 subst hye
 rw [hcv]
 exact this
def C0 (bi bt bc : Int) : Bool := BX bi && BX bt && CX bc && bc != 0
def CS (bi bt bc : Int) : Bool := (bi == 0 && (bt == 0 && bc == 0)) || C0 bi bt bc
theorem Ts (s : Int) : rs s = CX s := by
 unfold rs CX
 by_cases h0 : 0 ≤ s <;> by_cases h1 : s ≤ 254 <;> by_cases h2 : s % 2 = 0 <;> simp [h0, h1, h2, ge_iff_le]
theorem Sf {bi bt bc : Int} (h : CS bi bt bc = true) : (0 ≤ bi ∧ bi ≤ 72057594037927935) ∧ (0 ≤ bt ∧ bt ≤ 72057594037927935) ∧ (0 ≤ bc ∧ bc ≤ 254) := by
  unfold CS C0 at h
  rcases Bool.or_eq_true _ _ ▸ h with h | h
  · simp at h; omega
  · simp only [Bool.and_eq_true] at h
    obtain ⟨⟨⟨h1, h2⟩, h3⟩, _⟩ := h
    have := L8 h3
    unfold BX at h1 h2
    simp at h1 h2
    omega
theorem I8 (w : World) (s : Int) (h : -9223372036854775808 ≤ s ∧ s ≤ 9223372036854775807) (b : Bool) (hb : CX s = b) : Calls Try.prog 59 #[.int .i64 s] w fun e w' => e = .returned (.bool b) ∧ Below w.heap.size w w' := by
 obtain ⟨r, hr⟩ : ∃ r, bits .andNot .i64 s 254 = r := ⟨_, rfl⟩
 have hd : decide (r = 0) = b := by rw [← hb, ← Ts, ← hr]; exact Nm h.1 h.2
 refine Fw (args := [.int .i64 s]) 6 Try.func59 rfl rfl rfl (Af (Ag Ab rfl (Ae (Af (Ag Ab rfl (Ac rfl (.int .i64 r) (fun b w hb hH => Nn hr rfl rfl rfl hb) (Ac rfl (.bool b) (fun b w hb hH => AI rfl rfl rfl (congrArg some hd) hb) (Ag Ab rfl (Ae (Aw ?_))))))))))
 exact Ar (.tmp rfl) (fun w h => ⟨rfl, Aq h.up⟩) rfl
theorem Cb (w : World) (x : Int) (b : Bool) (hb : BX x = b) : Calls Try.prog 58 #[.int .u64 x] w fun e w' => e = .returned (.bool b) ∧ Below w.heap.size w w' := by
 unfold BX at hb
 refine Fw (args := [.int .u64 x]) 9 Try.func58 rfl rfl rfl (Af (Ag Ab rfl (Ae ?_)))
 rcases (show x < 1 ∨ (1 ≤ x ∧ x ≤ 72057594037927935) ∨ (1 ≤ x ∧ 72057594037927935 < x) by omega) with h1 | ⟨h1, h2⟩ | ⟨h1, h2⟩
 obtain rfl : b = false := by rw [← hb]; simp; omega
 refine Af (Ag Ab rfl (Ac rfl (.bool false) (fun b w hb hH => AI rfl rfl rfl (CP (by omega)) hb) (Ag Ab rfl (Ae (Aw ?_)))))
 exact Ar (.tmp rfl) (fun w h => ⟨rfl, Aq h.up⟩) rfl
 obtain rfl : b = true := by rw [← hb]; simp; omega
 refine Af (Ag Ab rfl (Ac rfl (.bool true) (fun b w hb hH => AI rfl rfl rfl (Bq (by omega)) hb) (Ag Ab rfl (Ac rfl (.bool true) (fun b w hb hH => AI rfl rfl rfl (Bu (by omega)) hb) (Ag Ab rfl (Ae (Aw ?_)))))))
 exact Ar (.tmp rfl) (fun w h => ⟨rfl, Aq h.up⟩) rfl
 obtain rfl : b = false := by rw [← hb]; simp; omega
 refine Af (Ag Ab rfl (Ac rfl (.bool true) (fun b w hb hH => AI rfl rfl rfl (Bq (by omega)) hb) (Ag Ab rfl (Ac rfl (.bool false) (fun b w hb hH => AI rfl rfl rfl (Bp (by omega)) hb) (Ag Ab rfl (Ae (Aw ?_)))))))
 exact Ar (.tmp rfl) (fun w h => ⟨rfl, Aq h.up⟩) rfl
theorem C1 (a b c d e f : Int) (z : Bool) (h : (a == d && (b == e && c == f)) = z) : Qu Try.prog 28 (.agg #[.int .u64 a, .int .u64 b, .int .i64 c]) (.agg #[.int .u64 d, .int .u64 e, .int .i64 f]) z := by
 have h1 := UK a b c d e f
 rwa [h] at h1
theorem Gy (w : World) (bi bt bc : Int) (hbc : -9223372036854775808 ≤ bc ∧ bc ≤ 9223372036854775807) (b : Bool) (hb : CS bi bt bc = b) : Calls Try.prog 29 #[.agg #[.int .u64 bi, .int .u64 bt, .int .i64 bc]] w fun e w' => e = .returned (.bool b) ∧ Below w.heap.size w w' := by
 refine Fw (args := [.agg #[.int .u64 bi, .int .u64 bt, .int .i64 bc]]) 26 Try.func29 rfl rfl rfl (Af (Ag Ab rfl (Al (post := fun g1 => [cell g1 28 #[.int .u64 bi, .int .u64 bt, .int .i64 bc]]) rfl (Co (cs := #[.int .u64 bi, .int .u64 bt, .int .i64 bc]) rfl rfl rfl) ?_))); rintro g1
 refine Ag Ab rfl (Ae ?_)
 obtain ⟨z, hz0⟩ : ∃ z, (bi == 0 && (bt == 0 && bc == 0)) = z := ⟨_, rfl⟩
 have hcs : (z = false ∧ BX bi = true ∧ BX bt = true ∧ ¬ bc = 0 ∧ CX bc = false) ∨ (z = false ∧ BX bi = true ∧ BX bt = true ∧ ¬ bc = 0 ∧ CX bc = true) ∨ (z = false ∧ BX bi = true ∧ BX bt = true ∧ bc = 0) ∨ (z = false ∧ BX bi = true ∧ BX bt = false) ∨ (z = false ∧ BX bi = false) ∨ z = true := by
  cases z <;> cases BX bi <;> cases BX bt <;> cases CX bc <;> by_cases h : bc = 0 <;> simp [h]
 rcases hcs with ⟨hz1, hn1, hn2, hn3, hn4⟩ | ⟨hz1, hn1, hn2, hn3, hn4⟩ | ⟨hz1, hn1, hn2, hn3⟩ | ⟨hz1, hn1, hn2⟩ | ⟨hz1, hn1⟩ | hz1
 have hz := hz0.trans hz1
 obtain rfl : b = false := by rw [← hb]; unfold CS C0; rw [hz]; simp [hn1, hn2, hn4, hz]
 refine Af (Ag Ab rfl (Ac rfl (.agg #[.int .u64 bi, .int .u64 bt, .int .i64 bc]) (fun b w hb hH => AD rfl rfl (Dd (cs := [.int .u64 bi, .int .u64 bt, .int .i64 bc]) Au rfl) (hH.row 0 rfl) hb) (Ac rfl (.agg #[.int .u64 0, .int .u64 0, .int .i64 0]) (fun b w hb hH => Bn rfl rfl (by kernel_rfl) hb) (Ac rfl (.bool false) (fun b w hb hH => Bl (C1 bi bt bc 0 0 0 false hz) rfl rfl rfl hb) (Ag Ab rfl (Ac rfl (.int .u64 bi) (fun b w hb hH => AD rfl rfl (AL Ai rfl) (hH.row 0 rfl) hb) (Al (post := fun _ => [cell g1 28 #[.int .u64 bi, .int .u64 bt, .int .i64 bc]]) rfl (AH (Aj Try.func58 (by kernel_rfl) rfl) (fun w hH => Cb w bi true hn1) rfl rfl rfl) ?_))))))); rintro ⟨⟩
 refine Ag Ab rfl (Ac rfl (.int .u64 bt) (fun b w hb hH => AD rfl rfl (AL Ai rfl) (hH.row 0 rfl) hb) (Al (post := fun _ => [cell g1 28 #[.int .u64 bi, .int .u64 bt, .int .i64 bc]]) rfl (AH (Aj Try.func58 (by kernel_rfl) rfl) (fun w hH => Cb w bt true hn2) rfl rfl rfl) ?_)); rintro ⟨⟩
 refine Ag Ab rfl (Ac rfl (.int .i64 bc) (fun b w hb hH => AD rfl rfl (AL AB rfl) (hH.row 0 rfl) hb) (Ac rfl (.bool true) (fun b w hb hH => AI rfl rfl rfl (DE hn3) hb) (Ag Ab rfl (Ac rfl (.int .i64 bc) (fun b w hb hH => AD rfl rfl (AL AB rfl) (hH.row 0 rfl) hb) (Al (post := fun _ => [cell g1 28 #[.int .u64 bi, .int .u64 bt, .int .i64 bc]]) rfl (AH (Aj Try.func59 (by kernel_rfl) rfl) (fun w hH => I8 w bc hbc false hn4) rfl rfl rfl) ?_))))); rintro ⟨⟩
 refine Ag Ab rfl (Ae (Aw ?_))
 exact Ar (.tmp rfl) (fun w h => ⟨rfl, Aq h.up⟩) rfl
 have hz := hz0.trans hz1
 obtain rfl : b = true := by rw [← hb]; unfold CS C0; simp [hn1, hn2, hn3, hn4]
 refine Af (Ag Ab rfl (Ac rfl (.agg #[.int .u64 bi, .int .u64 bt, .int .i64 bc]) (fun b w hb hH => AD rfl rfl (Dd (cs := [.int .u64 bi, .int .u64 bt, .int .i64 bc]) Au rfl) (hH.row 0 rfl) hb) (Ac rfl (.agg #[.int .u64 0, .int .u64 0, .int .i64 0]) (fun b w hb hH => Bn rfl rfl (by kernel_rfl) hb) (Ac rfl (.bool false) (fun b w hb hH => Bl (C1 bi bt bc 0 0 0 false hz) rfl rfl rfl hb) (Ag Ab rfl (Ac rfl (.int .u64 bi) (fun b w hb hH => AD rfl rfl (AL Ai rfl) (hH.row 0 rfl) hb) (Al (post := fun _ => [cell g1 28 #[.int .u64 bi, .int .u64 bt, .int .i64 bc]]) rfl (AH (Aj Try.func58 (by kernel_rfl) rfl) (fun w hH => Cb w bi true hn1) rfl rfl rfl) ?_))))))); rintro ⟨⟩
 refine Ag Ab rfl (Ac rfl (.int .u64 bt) (fun b w hb hH => AD rfl rfl (AL Ai rfl) (hH.row 0 rfl) hb) (Al (post := fun _ => [cell g1 28 #[.int .u64 bi, .int .u64 bt, .int .i64 bc]]) rfl (AH (Aj Try.func58 (by kernel_rfl) rfl) (fun w hH => Cb w bt true hn2) rfl rfl rfl) ?_)); rintro ⟨⟩
 refine Ag Ab rfl (Ac rfl (.int .i64 bc) (fun b w hb hH => AD rfl rfl (AL AB rfl) (hH.row 0 rfl) hb) (Ac rfl (.bool true) (fun b w hb hH => AI rfl rfl rfl (DE hn3) hb) (Ag Ab rfl (Ac rfl (.int .i64 bc) (fun b w hb hH => AD rfl rfl (AL AB rfl) (hH.row 0 rfl) hb) (Al (post := fun _ => [cell g1 28 #[.int .u64 bi, .int .u64 bt, .int .i64 bc]]) rfl (AH (Aj Try.func59 (by kernel_rfl) rfl) (fun w hH => I8 w bc hbc true hn4) rfl rfl rfl) ?_))))); rintro ⟨⟩
 refine Ag Ab rfl (Ae (Aw ?_))
 exact Ar (.tmp rfl) (fun w h => ⟨rfl, Aq h.up⟩) rfl
 have hz := hz0.trans hz1
 obtain rfl : b = false := by rw [← hb]; unfold CS C0; rw [hz, hn3]; simp
 refine Af (Ag Ab rfl (Ac rfl (.agg #[.int .u64 bi, .int .u64 bt, .int .i64 bc]) (fun b w hb hH => AD rfl rfl (Dd (cs := [.int .u64 bi, .int .u64 bt, .int .i64 bc]) Au rfl) (hH.row 0 rfl) hb) (Ac rfl (.agg #[.int .u64 0, .int .u64 0, .int .i64 0]) (fun b w hb hH => Bn rfl rfl (by kernel_rfl) hb) (Ac rfl (.bool false) (fun b w hb hH => Bl (C1 bi bt bc 0 0 0 false hz) rfl rfl rfl hb) (Ag Ab rfl (Ac rfl (.int .u64 bi) (fun b w hb hH => AD rfl rfl (AL Ai rfl) (hH.row 0 rfl) hb) (Al (post := fun _ => [cell g1 28 #[.int .u64 bi, .int .u64 bt, .int .i64 bc]]) rfl (AH (Aj Try.func58 (by kernel_rfl) rfl) (fun w hH => Cb w bi true hn1) rfl rfl rfl) ?_))))))); rintro ⟨⟩
 refine Ag Ab rfl (Ac rfl (.int .u64 bt) (fun b w hb hH => AD rfl rfl (AL Ai rfl) (hH.row 0 rfl) hb) (Al (post := fun _ => [cell g1 28 #[.int .u64 bi, .int .u64 bt, .int .i64 bc]]) rfl (AH (Aj Try.func58 (by kernel_rfl) rfl) (fun w hH => Cb w bt true hn2) rfl rfl rfl) ?_)); rintro ⟨⟩
 refine Ag Ab rfl (Ac rfl (.int .i64 bc) (fun b w hb hH => AD rfl rfl (AL AB rfl) (hH.row 0 rfl) hb) (Ac rfl (.bool false) (fun b w hb hH => AI rfl rfl rfl (BB (by omega)) hb) (Ag Ab rfl (Ae (Aw ?_)))))
 exact Ar (.tmp rfl) (fun w h => ⟨rfl, Aq h.up⟩) rfl
 have hz := hz0.trans hz1
 obtain rfl : b = false := by rw [← hb]; unfold CS C0; rw [hz, hn2]; simp
 refine Af (Ag Ab rfl (Ac rfl (.agg #[.int .u64 bi, .int .u64 bt, .int .i64 bc]) (fun b w hb hH => AD rfl rfl (Dd (cs := [.int .u64 bi, .int .u64 bt, .int .i64 bc]) Au rfl) (hH.row 0 rfl) hb) (Ac rfl (.agg #[.int .u64 0, .int .u64 0, .int .i64 0]) (fun b w hb hH => Bn rfl rfl (by kernel_rfl) hb) (Ac rfl (.bool false) (fun b w hb hH => Bl (C1 bi bt bc 0 0 0 false hz) rfl rfl rfl hb) (Ag Ab rfl (Ac rfl (.int .u64 bi) (fun b w hb hH => AD rfl rfl (AL Ai rfl) (hH.row 0 rfl) hb) (Al (post := fun _ => [cell g1 28 #[.int .u64 bi, .int .u64 bt, .int .i64 bc]]) rfl (AH (Aj Try.func58 (by kernel_rfl) rfl) (fun w hH => Cb w bi true hn1) rfl rfl rfl) ?_))))))); rintro ⟨⟩
 refine Ag Ab rfl (Ac rfl (.int .u64 bt) (fun b w hb hH => AD rfl rfl (AL Ai rfl) (hH.row 0 rfl) hb) (Al (post := fun _ => [cell g1 28 #[.int .u64 bi, .int .u64 bt, .int .i64 bc]]) rfl (AH (Aj Try.func58 (by kernel_rfl) rfl) (fun w hH => Cb w bt false hn2) rfl rfl rfl) ?_)); rintro ⟨⟩
 refine Ag Ab rfl (Ae (Aw ?_))
 exact Ar (.tmp rfl) (fun w h => ⟨rfl, Aq h.up⟩) rfl
 have hz := hz0.trans hz1
 obtain rfl : b = false := by rw [← hb]; unfold CS C0; rw [hz, hn1]; simp
 refine Af (Ag Ab rfl (Ac rfl (.agg #[.int .u64 bi, .int .u64 bt, .int .i64 bc]) (fun b w hb hH => AD rfl rfl (Dd (cs := [.int .u64 bi, .int .u64 bt, .int .i64 bc]) Au rfl) (hH.row 0 rfl) hb) (Ac rfl (.agg #[.int .u64 0, .int .u64 0, .int .i64 0]) (fun b w hb hH => Bn rfl rfl (by kernel_rfl) hb) (Ac rfl (.bool false) (fun b w hb hH => Bl (C1 bi bt bc 0 0 0 false hz) rfl rfl rfl hb) (Ag Ab rfl (Ac rfl (.int .u64 bi) (fun b w hb hH => AD rfl rfl (AL Ai rfl) (hH.row 0 rfl) hb) (Al (post := fun _ => [cell g1 28 #[.int .u64 bi, .int .u64 bt, .int .i64 bc]]) rfl (AH (Aj Try.func58 (by kernel_rfl) rfl) (fun w hH => Cb w bi false hn1) rfl rfl rfl) ?_))))))); rintro ⟨⟩
 refine Ag Ab rfl (Ae (Aw ?_))
 exact Ar (.tmp rfl) (fun w h => ⟨rfl, Aq h.up⟩) rfl
 have hz := hz0.trans hz1
 obtain rfl : b = true := by rw [← hb]; unfold CS; rw [hz]; rfl
 refine Af (Ag Ab rfl (Ac rfl (.agg #[.int .u64 bi, .int .u64 bt, .int .i64 bc]) (fun b w hb hH => AD rfl rfl (Dd (cs := [.int .u64 bi, .int .u64 bt, .int .i64 bc]) Au rfl) (hH.row 0 rfl) hb) (Ac rfl (.agg #[.int .u64 0, .int .u64 0, .int .i64 0]) (fun b w hb hH => Bn rfl rfl (by kernel_rfl) hb) (Ac rfl (.bool true) (fun b w hb hH => Bl (C1 bi bt bc 0 0 0 true hz) rfl rfl rfl hb) (Ag Ab rfl (Ae (Aw ?_)))))))
 exact Ar (.tmp rfl) (fun w h => ⟨rfl, Aq h.up⟩) rfl
end Go.Proofs.Ytnebloeideodmaa.Sep
namespace Go.Proofs.Ytnebloeideodmaa.Sep
open Go.RowKit
open Go.Proofs.Ytnebloeideodmaa.Mem (AM BA Chg Aq)
theorem F8 (X : Ass) (A : Option Addr) (c : Nat) (l : List EntV) (hX : Cx X (.slice A l.length c) l) (hl : l.length ≤ 9223372036854775807) (ix tm : Int) (h1 : 0 ≤ ix ∧ ix ≤ 18446744073709551615) (h2 : 0 ≤ tm ∧ tm ≤ 18446744073709551615) (b : Bool) (hb : BY ix tm (l.map (·.e)) = b) : AV Try.prog 30 #[.int .u64 ix, .int .u64 tm, .slice A l.length c] [X] (fun (_ : Unit) => .bool b) (fun (_ : Unit) => [X]) := by
  refine Bk (args := [.int .u64 ix, .int .u64 tm, .slice A l.length c]) 36 Try.func30 rfl rfl rfl ?_; intro w rs
  refine Af (Ag Ab rfl (Ae (Ax (Af (Ag Ab rfl (Ac rfl (.int .i64 (l.length : Int)) (fun b w hb hH => A8 (((hH.rdEs 0 rfl hX).1)) Try.underlying34 rfl rfl hb) (Ag Ab rfl (Ae (AN (Cw (α := Nat × Int × Int) (fun ⟨j, i, y⟩ => [(0, .int .u64 i), (1, .int .u64 y), (6, .bool false), (9, .slice A l.length c), (10, .int .i64 (l.length : Int)), (11, .int .i64 (j : Int))]) (fun ⟨j, i, y⟩ => [X]) (fun ⟨j, i, y⟩ => j ≤ l.length ∧ (0 ≤ i ∧ i ≤ 18446744073709551615) ∧ BY i y ((l.drop j).map (·.e)) = b) (fun ⟨j, i, y⟩ => l.length - j) (0, ix, tm) ⟨Nat.zero_le _, h1, hb⟩ ⟨rfl, rfl, rfl, rfl, rfl, rfl, trivial⟩ rfl ?_))))))))))
  rintro ⟨j, i, y⟩ hI
  refine AY.at_ (env' := [(0, .int .u64 i), (1, .int .u64 y), (6, .bool false), (9, .slice A l.length c), (10, .int .i64 (l.length : Int)), (11, .int .i64 (j : Int))]) (rs' := [X]) ⟨rfl, rfl, rfl, rfl, rfl, rfl, trivial⟩ rfl ?_
  have hI1 : j ≤ l.length := hI.1
  have hI2 : 0 ≤ i ∧ i ≤ 18446744073709551615 := hI.2.1
  have hI3 : BY i y ((l.drop j).map (·.e)) = b := hI.2.2
  rcases Nat.lt_or_ge j l.length with hn | hn
  · skip
    obtain ⟨x, hx⟩ : ∃ x, l[j]? = some x := ⟨_, List.getElem?_eq_getElem hn⟩
    have hm := List.mem_of_getElem? hx
    have hdr : (l.drop j).map (·.e) = x.e :: (l.drop (j + 1)).map (·.e) := by rw [List.drop_eq_getElem_cons hn, (List.getElem?_eq_some_iff.1 hx).2]; rfl
    obtain ⟨ai, hai, hai2⟩ := wrap_u64 (z := i + 1)
    refine Af (Ag Ab rfl (Ac rfl (.bool true) (fun b w hb hH => AI rfl rfl rfl (Bc (by omega)) hb) (Ae (Ax (AC rfl (AK (AJ (Ax (AN (Af (Ag Ab rfl (Ac rfl (AW (.slice A l.length c) (j * 5)) (fun b w hb hH => Bw Bd (((hH.rdEs 0 rfl hX).1)) Ak (j := j) hx rfl rfl rfl hb) (Ac rfl (.agg (encV x).toArray) (fun b w hb hH => DF Bd (by decide) (((hH.rdEs 0 rfl hX).1)) (j := j) hx Cl rfl rfl hb) (Al (post := fun g8 => [cell g8 32 #[.int .i64 0, .int .u64 0, .int .u64 0, .slice none 0 0, .int .i64 0], X]) rfl (B4 BK rfl) ?_)))))))))))))); rintro g8
    refine A5 (post := fun _ => [cell g8 32 #[.int .i64 x.e.k, .int .u64 x.e.t, .int .u64 x.e.i, x.v, .int .i64 x.e.c], X]) rfl rfl (AP 0 (v := .agg (encV x).toArray) #[.int .i64 x.e.k, .int .u64 x.e.t, .int .u64 x.e.i, x.v, .int .i64 x.e.c] Cl.2 rfl rfl rfl rfl rfl rfl rfl rfl rfl) ?_; rintro ⟨⟩
    refine Ae (Ax ?_)
    cases hr : BV x.e
    rotate_left
    have hr2 := (CJ hr).2.1
    by_cases he : x.e.i = i + 1
    rcases Int.lt_or_le x.e.t y with ht | ht
    obtain rfl : false = b := by rw [← hI3, hdr, BN]; rw [decide_eq_false (by omega : ¬ y ≤ x.e.t)]; simp
    refine Af (Ag Ab rfl (Ac rfl (.agg #[.int .i64 x.e.k, .int .u64 x.e.t, .int .u64 x.e.i, x.v, .int .i64 x.e.c]) (fun b w hb hH => AD rfl rfl (Dd (cs := [.int .i64 x.e.k, .int .u64 x.e.t, .int .u64 x.e.i, x.v, .int .i64 x.e.c]) Cl rfl) (hH.row 0 rfl) hb) (Al (post := fun _ => [cell g8 32 #[.int .i64 x.e.k, .int .u64 x.e.t, .int .u64 x.e.i, x.v, .int .i64 x.e.c], X]) rfl (AH (Aj Try.func60 (by kernel_rfl) rfl) (fun w hH => Fj w x ((hH.rdEs 1 rfl hX).2 x hm) true hr) rfl rfl rfl) ?_))); rintro ⟨⟩
    refine Ag Ab rfl (Ac rfl (.int .u64 x.e.i) (fun b w hb hH => AD rfl rfl (AL Ai rfl) (hH.row 0 rfl) hb) (Ag Ab rfl (Ac rfl (.int .u64 ai) (fun b w hb hH => Ay rfl rfl rfl rfl hai hb) (Ac rfl (.bool false) (fun b w hb hH => AI rfl rfl rfl (BB (by omega)) hb) (Ag Ab rfl (Ac rfl (.int .u64 x.e.t) (fun b w hb hH => AD rfl rfl (AL Ai rfl) (hH.row 0 rfl) hb) (Ag Ab rfl (Ac rfl (.bool true) (fun b w hb hH => AI rfl rfl rfl (Bc (by omega)) hb) (Ag Ab rfl ?_)))))))))
    refine Ae (AC rfl (Af (Ag Ab rfl (Ae (Aw (Cc (AA (Cc (Cc (AA (Cc ?_)))))))))))
    exact Ar (.tmp rfl) (fun w h => AG () rfl [1] rfl h CV) rfl
    refine Af (Ag Ab rfl (Ac rfl (.agg #[.int .i64 x.e.k, .int .u64 x.e.t, .int .u64 x.e.i, x.v, .int .i64 x.e.c]) (fun b w hb hH => AD rfl rfl (Dd (cs := [.int .i64 x.e.k, .int .u64 x.e.t, .int .u64 x.e.i, x.v, .int .i64 x.e.c]) Cl rfl) (hH.row 0 rfl) hb) (Al (post := fun _ => [cell g8 32 #[.int .i64 x.e.k, .int .u64 x.e.t, .int .u64 x.e.i, x.v, .int .i64 x.e.c], X]) rfl (AH (Aj Try.func60 (by kernel_rfl) rfl) (fun w hH => Fj w x ((hH.rdEs 1 rfl hX).2 x hm) true hr) rfl rfl rfl) ?_))); rintro ⟨⟩
    refine Ag Ab rfl (Ac rfl (.int .u64 x.e.i) (fun b w hb hH => AD rfl rfl (AL Ai rfl) (hH.row 0 rfl) hb) (Ag Ab rfl (Ac rfl (.int .u64 ai) (fun b w hb hH => Ay rfl rfl rfl rfl hai hb) (Ac rfl (.bool false) (fun b w hb hH => AI rfl rfl rfl (BB (by omega)) hb) (Ag Ab rfl (Ac rfl (.int .u64 x.e.t) (fun b w hb hH => AD rfl rfl (AL Ai rfl) (hH.row 0 rfl) hb) (Ag Ab rfl (Ac rfl (.bool false) (fun b w hb hH => AI rfl rfl rfl (Bf (by omega)) hb) (Ag Ab rfl ?_)))))))))
    refine Ae (Az rfl (AK (AJ ?_)))
    refine Bi 5 0 [⟨.quiet, [], fun _ => .pointer (some ⟨g8, 2, none⟩), []⟩, ⟨.quiet, [], fun _ => .int .u64 x.e.i, [0]⟩, ⟨.quiet, [], fun _ => .pointer (some ⟨g8, 1, none⟩), []⟩, ⟨.quiet, [], fun _ => .int .u64 x.e.t, [2]⟩, ⟨.quiet, [], fun _ => .int .u64 x.e.i, [1]⟩] [(1, .int .u64 y), (6, .bool false), (9, .slice A l.length c), (10, .int .i64 (l.length : Int)), (11, .int .i64 (j : Int)), (12, .bool true), (13, AW (.slice A l.length c) (j * 5)), (14, .agg (encV x).toArray), (8, .pointer (some ⟨g8, 0, none⟩)), (15, .agg #[.int .i64 x.e.k, .int .u64 x.e.t, .int .u64 x.e.i, x.v, .int .i64 x.e.c]), (16, .bool true), (17, .bool false), (18, .bool false), (19, .pointer (some ⟨g8, 2, none⟩)), (20, .int .u64 x.e.i), (21, .int .u64 i), (22, .int .u64 ai), (23, .bool false), (24, .bool false), (25, .bool false), (26, .pointer (some ⟨g8, 1, none⟩)), (27, .int .u64 x.e.t), (28, .int .u64 y), (29, .bool false), (30, .bool false)] (fun _ => [cell g8 32 #[.int .i64 x.e.k, .int .u64 x.e.t, .int .u64 x.e.i, x.v, .int .i64 x.e.c], X]) (by kernel_rfl) (by kernel_rfl) ⟨rfl, rfl, rfl, rfl, rfl, rfl, rfl, rfl, rfl, rfl, rfl, rfl, rfl, rfl, rfl, rfl, rfl, rfl, rfl, rfl, rfl, rfl, rfl, rfl, rfl, trivial⟩ rfl ?_ ?_
    refine Ad (by exact ⟨rfl, fun b w hH hb => Ah Ab rfl hb⟩) (Ad (by exact ⟨rfl, fun b w hH hb => AD rfl rfl (AL Ai rfl) (hH.row 0 rfl) hb⟩) (Ad (by exact ⟨rfl, fun b w hH hb => Ah Ab rfl hb⟩) (Ad (by exact ⟨rfl, fun b w hH hb => AD rfl rfl (AL Ai rfl) (hH.row 0 rfl) hb⟩) (Ad (by exact ⟨rfl, fun b w hH hb => Ah Ab rfl hb⟩) ?_))))
    exact Bx
    refine BM.keep (env' := [(1, .int .u64 y), (6, .bool false), (9, .slice A l.length c), (10, .int .i64 (l.length : Int)), (11, .int .i64 (j : Int)), (12, .bool true), (13, AW (.slice A l.length c) (j * 5)), (14, .agg (encV x).toArray), (8, .pointer (some ⟨g8, 0, none⟩)), (15, .agg #[.int .i64 x.e.k, .int .u64 x.e.t, .int .u64 x.e.i, x.v, .int .i64 x.e.c]), (16, .bool true), (17, .bool false), (18, .bool false), (19, .pointer (some ⟨g8, 2, none⟩)), (20, .int .u64 x.e.i), (21, .int .u64 i), (22, .int .u64 ai), (23, .bool false), (24, .bool false), (25, .bool false), (26, .pointer (some ⟨g8, 1, none⟩)), (27, .int .u64 x.e.t), (28, .int .u64 y), (29, .bool false), (30, .bool false), (31, .pointer (some ⟨g8, 2, none⟩)), (32, .int .u64 x.e.i), (33, .pointer (some ⟨g8, 1, none⟩)), (34, .int .u64 x.e.t), (0, .int .u64 x.e.i)]) ⟨rfl, rfl, rfl, rfl, rfl, rfl, rfl, rfl, rfl, rfl, rfl, rfl, rfl, rfl, rfl, rfl, rfl, rfl, rfl, rfl, rfl, rfl, rfl, rfl, rfl, rfl, rfl, rfl, rfl, rfl, trivial⟩ (Ag Ab rfl (AE (AU (AJ (AR (Ag Ab rfl (Ac rfl (.int .i64 ((j + 1 : Nat) : Int)) (fun b w hb hH => Ay rfl rfl rfl rfl (by rw [IntWalk.i64_in _ (by omega)]; omega) hb) (Ag Ab rfl (AE ?_)))))))))
    exact BS (j + 1, x.e.i, x.e.t) 1 ⟨hn, (by show 0 ≤ x.e.i ∧ x.e.i ≤ _; omega), (by rw [← hI3, hdr, BN, hr, decide_eq_true he, decide_eq_true ht]; rfl)⟩ (show l.length - (j + 1) < l.length - j by omega) ⟨rfl, rfl, rfl, rfl, rfl, rfl, trivial⟩ rfl
    obtain rfl : false = b := by rw [← hI3, hdr, BN]; rw [decide_eq_false he]; simp
    refine Af (Ag Ab rfl (Ac rfl (.agg #[.int .i64 x.e.k, .int .u64 x.e.t, .int .u64 x.e.i, x.v, .int .i64 x.e.c]) (fun b w hb hH => AD rfl rfl (Dd (cs := [.int .i64 x.e.k, .int .u64 x.e.t, .int .u64 x.e.i, x.v, .int .i64 x.e.c]) Cl rfl) (hH.row 0 rfl) hb) (Al (post := fun _ => [cell g8 32 #[.int .i64 x.e.k, .int .u64 x.e.t, .int .u64 x.e.i, x.v, .int .i64 x.e.c], X]) rfl (AH (Aj Try.func60 (by kernel_rfl) rfl) (fun w hH => Fj w x ((hH.rdEs 1 rfl hX).2 x hm) true hr) rfl rfl rfl) ?_))); rintro ⟨⟩
    refine Ag Ab rfl (Ac rfl (.int .u64 x.e.i) (fun b w hb hH => AD rfl rfl (AL Ai rfl) (hH.row 0 rfl) hb) (Ag Ab rfl (Ac rfl (.int .u64 ai) (fun b w hb hH => Ay rfl rfl rfl rfl hai hb) (Ac rfl (.bool true) (fun b w hb hH => AI rfl rfl rfl (DE (by omega)) hb) (Ag Ab rfl (Ae (AC rfl (Af (Ag Ab rfl (Ae (Aw (Cc (AA (Cc (Cc (AA (Cc ?_)))))))))))))))))
    exact Ar (.tmp rfl) (fun w h => AG () rfl [1] rfl h CV) rfl
    obtain rfl : false = b := by rw [← hI3, hdr, BN]; rw [hr]; rfl
    refine Af (Ag Ab rfl (Ac rfl (.agg #[.int .i64 x.e.k, .int .u64 x.e.t, .int .u64 x.e.i, x.v, .int .i64 x.e.c]) (fun b w hb hH => AD rfl rfl (Dd (cs := [.int .i64 x.e.k, .int .u64 x.e.t, .int .u64 x.e.i, x.v, .int .i64 x.e.c]) Cl rfl) (hH.row 0 rfl) hb) (Al (post := fun _ => [cell g8 32 #[.int .i64 x.e.k, .int .u64 x.e.t, .int .u64 x.e.i, x.v, .int .i64 x.e.c], X]) rfl (AH (Aj Try.func60 (by kernel_rfl) rfl) (fun w hH => Fj w x ((hH.rdEs 1 rfl hX).2 x hm) false hr) rfl rfl rfl) ?_))); rintro ⟨⟩
    refine Ag Ab rfl (Ae (AC rfl (Af (Ag Ab rfl (Ae (Aw (Cc (AA (Cc (Cc (AA (Cc ?_))))))))))))
    exact Ar (.tmp rfl) (fun w h => AG () rfl [1] rfl h CV) rfl
  obtain rfl : true = b := by rw [← hI3, List.drop_of_length_le hn]; rfl
  refine Af (Ag Ab rfl (Ac rfl (.bool false) (fun b w hb hH => AI rfl rfl rfl (Bf (by omega)) hb) (Ae (Ax (Az rfl (B6 (ES (ES (AQ (AJ (Af (Ag Ab rfl (Ae (Aw ?_))))))))))))))
  exact Ar (.tmp rfl) (fun w h => AG () rfl [0] rfl h CV) rfl
theorem P4 {g : Nat} {bi bt bc : Int} {es : List EntD} {l : List EntV} : ∀ rs, Am [Av g bi bt bc es] rs → Av g bi bt bc (es ++ (l.take 0).map (·.e)) rs := fun rs h => by
  rw [List.take_zero, List.map_nil, List.append_nil]; exact h.one'
theorem HN (g : Nat) (bi bt bc : Int) (es : List EntD) (X : Ass) (A : Option Addr) (c : Nat) (l : List EntV) (hX : Cx X (.slice A l.length c) l) (hl : l.length ≤ 9223372036854775807) (hd : ∀ x, x ∈ l → x.e.d.length ≤ 140737488351232) (hs : (es.length + l.length) * 56 ≤ 140737488351232) : AV Try.prog 31 #[.pointer (some ⟨g, 0, none⟩), .slice A l.length c] [Av g bi bt bc es, X] (fun (_ : Unit) => .tuple #[]) (fun (_ : Unit) => [Av g bi bt bc (es ++ l.map (·.e)), X]) := by
  refine Bk (args := [.pointer (some ⟨g, 0, none⟩), .slice A l.length c]) 19 Try.func31 rfl rfl rfl ?_; intro w rs
  refine Af (Ag Ab rfl (Ac rfl (.int .i64 (l.length : Int)) (fun b w hb hH => A8 (((hH.rdEs 1 rfl hX).1)) Try.underlying34 rfl rfl hb) (Ag Ab rfl (Ae (AN (Be [0] rfl (P4 (l := l)) rfl (Cw (α := Nat) (fun j => [(0, .pointer (some ⟨g, 0, none⟩)), (6, .slice A l.length c), (7, .int .i64 (l.length : Int)), (8, .int .i64 (j : Int))]) (fun j => [Av g bi bt bc (es ++ (l.take j).map (·.e)), X]) (fun j => j ≤ l.length) (fun j => l.length - j) 0 (Nat.zero_le _) ⟨rfl, rfl, rfl, rfl, trivial⟩ rfl ?_)))))))
  rintro j hI
  refine AY.at_ (env' := [(0, .pointer (some ⟨g, 0, none⟩)), (6, .slice A l.length c), (7, .int .i64 (l.length : Int)), (8, .int .i64 (j : Int))]) (rs' := [Av g bi bt bc (es ++ (l.take j).map (·.e)), X]) ⟨rfl, rfl, rfl, rfl, trivial⟩ rfl ?_
  have hI1 : j ≤ l.length := hI
  have hlj : (es ++ (l.take j).map (·.e)).length = es.length + j := by rw [List.length_append, List.length_map, List.length_take]; omega
  rcases Nat.lt_or_ge j l.length with hn | hn
  obtain ⟨x, hx⟩ : ∃ x, l[j]? = some x := ⟨_, List.getElem?_eq_getElem hn⟩
  have hm := List.mem_of_getElem? hx
  have htk : es ++ (l.take (j + 1)).map (·.e) = es ++ (l.take j).map (·.e) ++ [x.e] := by rw [List.take_add_one, hx, List.map_append, List.append_assoc]; rfl
  refine Af (Ag Ab rfl (Ac rfl (.bool true) (fun b w hb hH => AI rfl rfl rfl (Bc (by omega)) hb) (Ae (Ax (AC rfl (AK (AJ (Ax (AN (Af (Ag Ab rfl (Ac rfl (AW (.slice A l.length c) (j * 5)) (fun b w hb hH => Bw Bd (((hH.rdEs 1 rfl hX).1)) Ak (j := j) hx rfl rfl rfl hb) (Ac rfl (.agg (encV x).toArray) (fun b w hb hH => DF Bd (by decide) (((hH.rdEs 1 rfl hX).1)) (j := j) hx Cl rfl rfl hb) (Al (post := fun g5 => [cell g5 32 #[.int .i64 0, .int .u64 0, .int .u64 0, .slice none 0 0, .int .i64 0], Av g bi bt bc (es ++ (l.take j).map (·.e)), X]) rfl (B4 BK rfl) ?_)))))))))))))); rintro g5
  refine A5 (post := fun _ => [cell g5 32 #[.int .i64 x.e.k, .int .u64 x.e.t, .int .u64 x.e.i, x.v, .int .i64 x.e.c], Av g bi bt bc (es ++ (l.take j).map (·.e)), X]) rfl rfl (AP 0 (v := .agg (encV x).toArray) #[.int .i64 x.e.k, .int .u64 x.e.t, .int .u64 x.e.i, x.v, .int .i64 x.e.c] Cl.2 rfl rfl rfl rfl rfl rfl rfl rfl rfl) ?_; rintro ⟨⟩
  refine Ae (Ep 1 rfl ?_)
  refine Bi 6 2 [⟨.quiet, [none, none], fun _ => .pointer (some ⟨g, 0, none⟩), []⟩, ⟨.quiet, [none, none], fun _ => .pointer (some ⟨g, 0, none⟩), [0]⟩, ⟨.quiet, [none, none], fun _ => .pointer (some ⟨g, 3, none⟩), [1]⟩, ⟨.quiet, [none, none], fun _ => .agg #[.int .i64 x.e.k, .int .u64 x.e.t, .int .u64 x.e.i, x.v, .int .i64 x.e.c], []⟩, ⟨.act 0, [some false, some false], fun _ => undef, [3]⟩, ⟨.actv 1, [some true, some false], fun _ => .tuple #[], [2, 4]⟩] [(0, .pointer (some ⟨g, 0, none⟩)), (6, .slice A l.length c), (7, .int .i64 (l.length : Int)), (8, .int .i64 (j : Int)), (9, .bool true), (10, AW (.slice A l.length c) (j * 5)), (11, .agg (encV x).toArray), (5, .pointer (some ⟨g5, 0, none⟩))] (fun ρ => match ρ with | [rq0, rq1] => [Ct rq1 (fun _ => Dw) (Ct rq0 (fun cv => OO cv x.e) (Dw)), cell g5 32 #[.int .i64 x.e.k, .int .u64 x.e.t, .int .u64 x.e.i, x.v, .int .i64 x.e.c], Ct rq1 (fun _ => Av g bi bt bc (es ++ (l.take j).map (·.e) ++ [x.e])) (Av g bi bt bc (es ++ (l.take j).map (·.e))), X] | _ => []) (by kernel_rfl) (by kernel_rfl) ⟨rfl, rfl, rfl, rfl, rfl, rfl, rfl, rfl, trivial⟩ rfl ?_ ?_
  refine Ad (by intro r0_ r1_; exact ⟨rfl, fun b w hH hb => Ah Ab rfl hb⟩) (Ad (by intro r0_ r1_; exact ⟨rfl, fun b w hH hb => by exact BF rfl rfl hb⟩) (Ad (by intro r0_ r1_; exact ⟨rfl, fun b w hH hb => Ah Ab rfl hb⟩) (Ad (by intro r0_ r1_; exact ⟨rfl, fun b w hH hb => AD rfl rfl (Dd (cs := [.int .i64 x.e.k, .int .u64 x.e.t, .int .u64 x.e.i, x.v, .int .i64 x.e.c]) Cl rfl) (hH.row 1 rfl) hb⟩) (Ad (by exact ⟨rfl, AZ.s (Ao (os' := fun cv => [OO cv x.e, cell g5 32 #[.int .i64 x.e.k, .int .u64 x.e.t, .int .u64 x.e.i, x.v, .int .i64 x.e.c], Av g bi bt bc (es ++ (l.take j).map (·.e)), X]) [3, 0] 1 (Aj Try.func56 (by kernel_rfl) rfl) (Ml X x (fun rs w h1 h2 => (hX rs w h1 h2).2 x hm) (hd x hm)) rfl rfl rfl (fun _ => rfl) rfl rfl rfl) (fun _ => rfl)⟩) (Ad (by intro cv; exact ⟨rfl, AZ.su (Ao (os' := fun _ => [Dw, cell g5 32 #[.int .i64 x.e.k, .int .u64 x.e.t, .int .u64 x.e.i, x.v, .int .i64 x.e.c], Av g bi bt bc (es ++ (l.take j).map (·.e) ++ [x.e]), X]) [2, 0] 0 (Aj Try.func61 (by kernel_rfl) rfl) (WF g bi bt bc (es ++ (l.take j).map (·.e)) cv x.e (by omega)) rfl rfl rfl (fun _ => rfl) rfl rfl rfl) rfl⟩) ?_)))))
  exact Bx
  intro cv v1_
  refine BM.keep (env' := [(0, .pointer (some ⟨g, 0, none⟩)), (6, .slice A l.length c), (7, .int .i64 (l.length : Int)), (8, .int .i64 (j : Int)), (9, .bool true), (10, AW (.slice A l.length c) (j * 5)), (11, .agg (encV x).toArray), (5, .pointer (some ⟨g5, 0, none⟩)), (12, .pointer (some ⟨g, 0, none⟩)), (13, .pointer (some ⟨g, 0, none⟩)), (14, .pointer (some ⟨g, 3, none⟩)), (15, .agg #[.int .i64 x.e.k, .int .u64 x.e.t, .int .u64 x.e.i, x.v, .int .i64 x.e.c]), (16, cv)]) ⟨rfl, rfl, rfl, rfl, rfl, rfl, rfl, rfl, rfl, rfl, rfl, rfl, rfl, trivial⟩ (BM.leave [0] rfl rfl (AE (AU (AJ ?_))))
  rw [← htk]
  refine AR (Ag Ab rfl (Ac rfl (.int .i64 ((j + 1 : Nat) : Int)) (fun b w hb hH => Ay rfl rfl rfl rfl (by rw [IntWalk.i64_in _ (by omega)]; omega) hb) (Ag Ab rfl (AE ?_))))
  exact BS (j + 1) 1 hn (show l.length - (j + 1) < l.length - j by omega) ⟨rfl, rfl, rfl, rfl, trivial⟩ rfl
  obtain rfl : j = l.length := by omega
  refine Af (Ag Ab rfl (Ac rfl (.bool false) (fun b w hb hH => AI rfl rfl rfl (Bf (by omega)) hb) (Ae (Ax (Az rfl (B6 (ES (ES (AQ ?_)))))))))
  exact DJ  (fun w h => AG () rfl [0, 1] rfl h (fun z hz => ⟨z, .refl _, by rw [List.take_of_length_le (Nat.le_refl _)] at hz; exact hz⟩)) rfl
end Go.Proofs.Ytnebloeideodmaa.Sep
