/-
  Opn · RlX · RlQ · RlR
-/
import Derived.Test.YtnebloeideodmaaNC01
import Derived.Test.YtnebloeideodmaaND03
import Derived.Test.YtnebloeideodmaaNE01
import Derived.Test.YtnebloeideodmaaNG03
import Derived.Test.YtnebloeideodmaaNJ01
set_option linter.unusedSimpArgs false
set_option linter.unusedVariables false

namespace Go.Proofs.Ytnebloeideodmaa.Sep
open Go.ChangeShapes Go.WideShapes Go.ChangeAt Go.RowKit
/-- one step of a play -/
structure StepD where
  what : Int
  k : Int
  v : Int
  near : Bool
instance : Inhabited StepD := ⟨⟨0, 0, 0, false⟩⟩
def StepD.ok (x : StepD) : Prop := (-9223372036854775808 ≤ x.what ∧ x.what ≤ 9223372036854775807) ∧ (0 ≤ x.k ∧ x.k ≤ 18446744073709551615) ∧ (-9223372036854775808 ≤ x.v ∧ x.v ≤ 9223372036854775807)
section
variable {H : Type} {enc : TypeId × Value → H} {W : World} {base b0 : Nat} {r : Reach} {spare : Nat → Bool} {held : Bool} {v : Value} {d : DataW H} {p : List MemPlace}
end
end Go.Proofs.Ytnebloeideodmaa.Sep

namespace Go.Proofs.Ytnebloeideodmaa.Sep
open Go.ChangeShapes Go.WideShapes Go.ChangeAt Go.RowKit
section
variable {H : Type} {enc : TypeId × Value → H} {P : Program} {W : World} {α : Type} {k : Nat} {enc' : α → List Value} {l : List α} {A : Option Addr} {c n : Nat} {w : World}
theorem SlRd.head (he : EncOf k enc') {j : Nat} (hj : j ≤ l.length) (h : SlRd w k (.slice A l.length c) l.length (flat enc' l)) : SlRd w k (.slice A j c) (l.take j).length (flat enc' (l.take j)) := by
  have hl : (l.take j).length = j := by rw [List.length_take]; omega
  obtain ⟨_, A', c', e, h3⟩ := h
  simp only [Value.slice.injEq] at e
  obtain ⟨rfl, _, rfl⟩ := e
  refine ⟨flat_len he _, A, c, by rw [hl], ?_⟩
  rcases h3 with ⟨h4, h5⟩ | ⟨a, h4, h5⟩
  · exact .inl ⟨h4, by omega⟩
  · refine .inr ⟨a, h4, fun q x hx => h5 q x ?_⟩
    rw [← flat_take he, List.getElem?_take] at hx
    split at hx
    · exact hx
    · cases hx
theorem SlRd.tail (he : EncOf k enc') {i : Nat} (hi : i ≤ l.length) (hc : l.length ≤ c) (h : SlRd w k (.slice A l.length c) l.length (flat enc' l)) : SlRd w k (subv k (.slice A l.length c) i l.length) (l.drop i).length (flat enc' (l.drop i)) := by
  have hl : (l.drop i).length = l.length - i := List.length_drop ..
  obtain ⟨_, A', c', e, h3⟩ := h
  simp only [Value.slice.injEq] at e
  obtain ⟨rfl, _, rfl⟩ := e
  refine ⟨flat_len he _, _, c - i, by simp only [subv]; rw [hl], ?_⟩
  rcases h3 with ⟨h4, h5⟩ | ⟨a, h4, h5⟩
  · subst h4
    exact .inl ⟨by split <;> rfl, by omega⟩
  · subst h4
    by_cases hci : c = i
    · refine .inr ⟨a, by rw [if_pos hci], fun q x hx => ?_⟩
      rw [List.drop_of_length_le (by omega)] at hx
      simp [flat] at hx
    · refine .inr ⟨a.add (i * k), by rw [if_neg hci]; rfl, fun q x hx => ?_⟩
      rw [← flat_drop he, List.getElem?_drop] at hx
      have h6 := h5 _ x hx
      have hlt := (List.getElem?_eq_some_iff.1 hx).1
      obtain ⟨z, hz⟩ : ∃ z, (flat enc' l)[0]? = some z := ⟨_, List.getElem?_eq_getElem (by omega)⟩
      have h0 := h5 0 z hz
      rw [show a.add 0 = a by simp [Addr.add]] at h0
      have ha := spot0 h0
      rw [ha, Addr.add_lit] at h6
      rw [ha, Addr.add_lit, Addr.add_lit, Nat.add_assoc]
      exact h6
end

def lowA (A : Option Addr) (c k : Nat) : Option Addr := if c = k then A else A.map (·.add (k * 5))
theorem sub_lo5 {A : Option Addr} {c k : Nat} {l : List EntV} : subv 5 (.slice A l.length c) k l.length = .slice (lowA A c k) (l.drop k).length (c - k) := by unfold subv lowA; rw [List.length_drop]
end Go.Proofs.Ytnebloeideodmaa.Sep

namespace Go.Proofs.Ytnebloeideodmaa.Sep
open Go.RowKit
open Go.Proofs.Ytnebloeideodmaa.Mem (Dist Blk Chg below0)

theorem log_rd1 {P : Program} {F : FuncId} {args : Array Value} {val : Value} {g : Nat} {bi bt bc : Int} {es : List EntD} (h : ∀ (v : Value) (f : Nat), Does P F args [cell g 67 #[.int .u64 bi, .int .u64 bt, .int .i64 bc, v, .int .i64 (f : Int), .int .i64 (es.length : Int)]] (fun _ : Unit => val) (fun _ => [cell g 67 #[.int .u64 bi, .int .u64 bt, .int .i64 bc, v, .int .i64 (f : Int), .int .i64 (es.length : Int)]]) ) : Does P F args [LogD g bi bt bc es] (fun _ : Unit => val) (fun _ => [LogD g bi bt bc es]) :=
  log_rd fun v sl f _ => (h v f).frame (more := [Vec 32 5 encV v (sl), Each dat sl])
theorem confAt_D (g : Nat) (bi bt bc : Int) (es : List EntD) (hI : InvL bi bt es) (x : Int) (hx : 0 ≤ x ∧ x ≤ 18446744073709551615) (p q : Int) (hc : cfL (bc, bi) (es.take (upM bi es.length x)) = (p, q)) : Does Try.prog 38 #[.pointer (some ⟨g, 0, none⟩), .int .u64 x] [LogD g bi bt bc es] (fun _ : Unit => .int .i64 p) (fun _ => [LogD g bi bt bc es]) :=
  log_rd fun v sl f hR => confAt_any g bi bt bc es hI v sl f hR x hx p q hc
theorem add_v (g : Nat) (bi bt bc : Int) (es : List EntD) (cv : Value) (e : EntD) (hs : (es.length + 1) * 56 ≤ 140737488351232) : Does Try.prog 61 #[.pointer (some ⟨g, 3, none⟩), cv] [LogD g bi bt bc es, CpT cv e] (fun _ : Unit => .tuple #[]) (fun _ => [LogD g bi bt bc (es ++ [e])]) := fun w rs ⟨a, b, e1, h1, h2⟩ hr hd => by
  have h3 := h2.one'
  have hcv := h3.1
  have := add_does g bi bt bc es (entO e cv) hs w rs ⟨a, b, e1, h1, Parts.one h3.2⟩ hr hd
  rw [entO_e] at this
  generalize hy : entO e cv = y at hcv
  have hye : y.e = e := by rw [← hy, entO_e]
  rw [hy] at this
  subst hye
  rw [hcv]
  exact this
/-- may it be a log's base? -/
def baseQ (bi bt bc : Int) : Bool := numB bi && numB bt && setB bc && bc != 0
def baseR (bi bt bc : Int) : Bool := (bi == 0 && (bt == 0 && bc == 0)) || baseQ bi bt bc
theorem rs_setB (s : Int) : rs s = setB s := by
  unfold rs setB
  by_cases h0 : 0 ≤ s <;> by_cases h1 : s ≤ 254 <;> by_cases h2 : s % 2 = 0 <;> simp [h0, h1, h2, ge_iff_le]
theorem baseR_ok {bi bt bc : Int} (h : baseR bi bt bc = true) : (0 ≤ bi ∧ bi ≤ 72057594037927935) ∧ (0 ≤ bt ∧ bt ≤ 72057594037927935) ∧ (0 ≤ bc ∧ bc ≤ 254) := by
  unfold baseR baseQ at h
  rcases Bool.or_eq_true _ _ ▸ h with h | h
  · simp at h; omega
  · simp only [Bool.and_eq_true] at h
    obtain ⟨⟨⟨h1, h2⟩, h3⟩, _⟩ := h
    have := setB_iff h3
    unfold numB at h1 h2
    simp at h1 h2
    omega

set_option maxRecDepth 100000 in
theorem lright_any (w : World) (s : Int) (h : -9223372036854775808 ≤ s ∧ s ≤ 9223372036854775807) (b : Bool) (hb : setB s = b) : Calls Try.prog 59 #[.int .i64 s] w fun e w' => e = .returned (.bool b) ∧ Below w.heap.size w w' := by
  obtain ⟨r, hr⟩ : ∃ r, bits .andNot .i64 s 254 = r := ⟨_, rfl⟩
  have hd : decide (r = 0) = b := by rw [← hb, ← rs_setB, ← hr]; exact andn_right h.1 h.2
  refine d_in (args := [.int .i64 s]) 6 Try.func59 rfl rfl rfl ?_
  refine d_reg ?_
  refine h_q hflS rfl ?_
  refine h_done (d_reg ?_)
  refine h_q hflS rfl ?_
  refine h_val rfl (.int .i64 r) (fun b w hb hH => exec_andnI hr rfl rfl rfl hb) ?_
  refine h_val rfl (.bool b) (fun b w hb hH => exec_cmp rfl rfl rfl (congrArg some hd) hb) ?_
  refine h_q hflS rfl ?_
  refine h_done (d_ret ?_)
  exact f_fin1 (.tmp rfl) (fun w h => ⟨rfl, below0 h.up⟩) rfl

set_option maxRecDepth 100000 in
theorem lnumber_any (w : World) (x : Int) (b : Bool) (hb : numB x = b) : Calls Try.prog 58 #[.int .u64 x] w fun e w' => e = .returned (.bool b) ∧ Below w.heap.size w w' := by
  unfold numB at hb
  refine d_in (args := [.int .u64 x]) 9 Try.func58 rfl rfl rfl ?_
  refine d_reg ?_
  refine h_q hflS rfl ?_
  refine h_done ?_
  rcases (show x < 1 ∨ (1 ≤ x ∧ x ≤ 72057594037927935) ∨ (1 ≤ x ∧ 72057594037927935 < x) by omega) with h1 | ⟨h1, h2⟩ | ⟨h1, h2⟩
  · skip
    obtain rfl : b = false := by rw [← hb]; simp; omega
    refine d_reg ?_
    refine h_q hflS rfl ?_
    refine h_val rfl (.bool false) (fun b w hb hH => exec_cmp rfl rfl rfl (cmp_geq_f (by omega)) hb) ?_
    refine h_q hflS rfl ?_
    refine h_done (d_ret ?_)
    exact f_fin1 (.tmp rfl) (fun w h => ⟨rfl, below0 h.up⟩) rfl
  · skip
    obtain rfl : b = true := by rw [← hb]; simp; omega
    refine d_reg ?_
    refine h_q hflS rfl ?_
    refine h_val rfl (.bool true) (fun b w hb hH => exec_cmp rfl rfl rfl (cmp_geq_t (by omega)) hb) ?_
    refine h_q hflS rfl ?_
    refine h_val rfl (.bool true) (fun b w hb hH => exec_cmp rfl rfl rfl (cmp_leq_t (by omega)) hb) ?_
    refine h_q hflS rfl ?_
    refine h_done (d_ret ?_)
    exact f_fin1 (.tmp rfl) (fun w h => ⟨rfl, below0 h.up⟩) rfl
  · skip
    obtain rfl : b = false := by rw [← hb]; simp; omega
    refine d_reg ?_
    refine h_q hflS rfl ?_
    refine h_val rfl (.bool true) (fun b w hb hH => exec_cmp rfl rfl rfl (cmp_geq_t (by omega)) hb) ?_
    refine h_q hflS rfl ?_
    refine h_val rfl (.bool false) (fun b w hb hH => exec_cmp rfl rfl rfl (cmp_leq_f (by omega)) hb) ?_
    refine h_q hflS rfl ?_
    refine h_done (d_ret ?_)
    exact f_fin1 (.tmp rfl) (fun w h => ⟨rfl, below0 h.up⟩) rfl

theorem eqBaseP (a b c d e f : Int) (z : Bool) (h : (a == d && (b == e && c == f)) = z) : EqAt Try.prog 28 (.agg #[.int .u64 a, .int .u64 b, .int .i64 c]) (.agg #[.int .u64 d, .int .u64 e, .int .i64 f]) z := by
  have h1 := eqBase a b c d e f
  rwa [h] at h1

set_option maxRecDepth 100000 in
theorem baseR_any (w : World) (bi bt bc : Int) (hbc : -9223372036854775808 ≤ bc ∧ bc ≤ 9223372036854775807) (b : Bool) (hb : baseR bi bt bc = b) : Calls Try.prog 29 #[.agg #[.int .u64 bi, .int .u64 bt, .int .i64 bc]] w fun e w' => e = .returned (.bool b) ∧ Below w.heap.size w w' := by
  refine d_in (args := [.agg #[.int .u64 bi, .int .u64 bt, .int .i64 bc]]) 26 Try.func29 rfl rfl rfl ?_
  refine d_reg ?_
  refine h_q hflS rfl ?_
  refine h_act (post := fun g1 => [cell g1 28 #[.int .u64 bi, .int .u64 bt, .int .i64 bc]]) rfl (a_box (cs := #[.int .u64 bi, .int .u64 bt, .int .i64 bc]) rfl rfl rfl) ?_; rintro g1
  refine h_q hflS rfl ?_
  refine h_done ?_
  obtain ⟨z, hz0⟩ : ∃ z, (bi == 0 && (bt == 0 && bc == 0)) = z := ⟨_, rfl⟩
  have hcs : (z = false ∧ numB bi = true ∧ numB bt = true ∧ ¬ bc = 0 ∧ setB bc = false) ∨ (z = false ∧ numB bi = true ∧ numB bt = true ∧ ¬ bc = 0 ∧ setB bc = true) ∨ (z = false ∧ numB bi = true ∧ numB bt = true ∧ bc = 0) ∨ (z = false ∧ numB bi = true ∧ numB bt = false) ∨ (z = false ∧ numB bi = false) ∨ z = true := by
    cases z <;> cases numB bi <;> cases numB bt <;> cases setB bc <;> by_cases h : bc = 0 <;> simp [h]
  rcases hcs with ⟨hz1, hn1, hn2, hn3, hn4⟩ | ⟨hz1, hn1, hn2, hn3, hn4⟩ | ⟨hz1, hn1, hn2, hn3⟩ | ⟨hz1, hn1, hn2⟩ | ⟨hz1, hn1⟩ | hz1
  · skip
    have hz := hz0.trans hz1
    obtain rfl : b = false := by rw [← hb]; unfold baseR baseQ; rw [hz]; simp [hn1, hn2, hn4, hz]
    refine d_reg ?_
    refine h_q hflS rfl ?_
    refine h_val rfl (.agg #[.int .u64 bi, .int .u64 bt, .int .i64 bc]) (fun b w hb hH => exec_load rfl rfl (reads_agg (cs := [.int .u64 bi, .int .u64 bt, .int .i64 bc]) ty_api_Base rfl) (hH.row 0 rfl) hb) ?_
    refine h_val rfl (.agg #[.int .u64 0, .int .u64 0, .int .i64 0]) (fun b w hb hH => exec_build rfl rfl (by kernel_rfl) hb) ?_
    refine h_val rfl (.bool false) (fun b w hb hH => exec_eqs (eqBaseP bi bt bc 0 0 0 false hz) rfl rfl rfl hb) ?_
    refine h_q hflS rfl ?_
    refine h_val rfl (.int .u64 bi) (fun b w hb hH => exec_load rfl rfl (reads_one ty_uint64 rfl) (hH.row 0 rfl) hb) ?_
    refine h_act (post := fun _ => [cell g1 28 #[.int .u64 bi, .int .u64 bt, .int .i64 bc]]) rfl (a_call (ent_of Try.func58 (by kernel_rfl) rfl) (fun w hH => lnumber_any w bi true hn1) rfl rfl rfl) ?_; rintro ⟨⟩
    refine h_q hflS rfl ?_
    refine h_val rfl (.int .u64 bt) (fun b w hb hH => exec_load rfl rfl (reads_one ty_uint64 rfl) (hH.row 0 rfl) hb) ?_
    refine h_act (post := fun _ => [cell g1 28 #[.int .u64 bi, .int .u64 bt, .int .i64 bc]]) rfl (a_call (ent_of Try.func58 (by kernel_rfl) rfl) (fun w hH => lnumber_any w bt true hn2) rfl rfl rfl) ?_; rintro ⟨⟩
    refine h_q hflS rfl ?_
    refine h_val rfl (.int .i64 bc) (fun b w hb hH => exec_load rfl rfl (reads_one ty_int rfl) (hH.row 0 rfl) hb) ?_
    refine h_val rfl (.bool true) (fun b w hb hH => exec_cmp rfl rfl rfl (cmp_neq_t hn3) hb) ?_
    refine h_q hflS rfl ?_
    refine h_val rfl (.int .i64 bc) (fun b w hb hH => exec_load rfl rfl (reads_one ty_int rfl) (hH.row 0 rfl) hb) ?_
    refine h_act (post := fun _ => [cell g1 28 #[.int .u64 bi, .int .u64 bt, .int .i64 bc]]) rfl (a_call (ent_of Try.func59 (by kernel_rfl) rfl) (fun w hH => lright_any w bc hbc false hn4) rfl rfl rfl) ?_; rintro ⟨⟩
    refine h_q hflS rfl ?_
    refine h_done (d_ret ?_)
    exact f_fin1 (.tmp rfl) (fun w h => ⟨rfl, below0 h.up⟩) rfl
  · skip
    have hz := hz0.trans hz1
    obtain rfl : b = true := by rw [← hb]; unfold baseR baseQ; simp [hn1, hn2, hn3, hn4]
    refine d_reg ?_
    refine h_q hflS rfl ?_
    refine h_val rfl (.agg #[.int .u64 bi, .int .u64 bt, .int .i64 bc]) (fun b w hb hH => exec_load rfl rfl (reads_agg (cs := [.int .u64 bi, .int .u64 bt, .int .i64 bc]) ty_api_Base rfl) (hH.row 0 rfl) hb) ?_
    refine h_val rfl (.agg #[.int .u64 0, .int .u64 0, .int .i64 0]) (fun b w hb hH => exec_build rfl rfl (by kernel_rfl) hb) ?_
    refine h_val rfl (.bool false) (fun b w hb hH => exec_eqs (eqBaseP bi bt bc 0 0 0 false hz) rfl rfl rfl hb) ?_
    refine h_q hflS rfl ?_
    refine h_val rfl (.int .u64 bi) (fun b w hb hH => exec_load rfl rfl (reads_one ty_uint64 rfl) (hH.row 0 rfl) hb) ?_
    refine h_act (post := fun _ => [cell g1 28 #[.int .u64 bi, .int .u64 bt, .int .i64 bc]]) rfl (a_call (ent_of Try.func58 (by kernel_rfl) rfl) (fun w hH => lnumber_any w bi true hn1) rfl rfl rfl) ?_; rintro ⟨⟩
    refine h_q hflS rfl ?_
    refine h_val rfl (.int .u64 bt) (fun b w hb hH => exec_load rfl rfl (reads_one ty_uint64 rfl) (hH.row 0 rfl) hb) ?_
    refine h_act (post := fun _ => [cell g1 28 #[.int .u64 bi, .int .u64 bt, .int .i64 bc]]) rfl (a_call (ent_of Try.func58 (by kernel_rfl) rfl) (fun w hH => lnumber_any w bt true hn2) rfl rfl rfl) ?_; rintro ⟨⟩
    refine h_q hflS rfl ?_
    refine h_val rfl (.int .i64 bc) (fun b w hb hH => exec_load rfl rfl (reads_one ty_int rfl) (hH.row 0 rfl) hb) ?_
    refine h_val rfl (.bool true) (fun b w hb hH => exec_cmp rfl rfl rfl (cmp_neq_t hn3) hb) ?_
    refine h_q hflS rfl ?_
    refine h_val rfl (.int .i64 bc) (fun b w hb hH => exec_load rfl rfl (reads_one ty_int rfl) (hH.row 0 rfl) hb) ?_
    refine h_act (post := fun _ => [cell g1 28 #[.int .u64 bi, .int .u64 bt, .int .i64 bc]]) rfl (a_call (ent_of Try.func59 (by kernel_rfl) rfl) (fun w hH => lright_any w bc hbc true hn4) rfl rfl rfl) ?_; rintro ⟨⟩
    refine h_q hflS rfl ?_
    refine h_done (d_ret ?_)
    exact f_fin1 (.tmp rfl) (fun w h => ⟨rfl, below0 h.up⟩) rfl
  · skip
    have hz := hz0.trans hz1
    obtain rfl : b = false := by rw [← hb]; unfold baseR baseQ; rw [hz, hn3]; simp
    refine d_reg ?_
    refine h_q hflS rfl ?_
    refine h_val rfl (.agg #[.int .u64 bi, .int .u64 bt, .int .i64 bc]) (fun b w hb hH => exec_load rfl rfl (reads_agg (cs := [.int .u64 bi, .int .u64 bt, .int .i64 bc]) ty_api_Base rfl) (hH.row 0 rfl) hb) ?_
    refine h_val rfl (.agg #[.int .u64 0, .int .u64 0, .int .i64 0]) (fun b w hb hH => exec_build rfl rfl (by kernel_rfl) hb) ?_
    refine h_val rfl (.bool false) (fun b w hb hH => exec_eqs (eqBaseP bi bt bc 0 0 0 false hz) rfl rfl rfl hb) ?_
    refine h_q hflS rfl ?_
    refine h_val rfl (.int .u64 bi) (fun b w hb hH => exec_load rfl rfl (reads_one ty_uint64 rfl) (hH.row 0 rfl) hb) ?_
    refine h_act (post := fun _ => [cell g1 28 #[.int .u64 bi, .int .u64 bt, .int .i64 bc]]) rfl (a_call (ent_of Try.func58 (by kernel_rfl) rfl) (fun w hH => lnumber_any w bi true hn1) rfl rfl rfl) ?_; rintro ⟨⟩
    refine h_q hflS rfl ?_
    refine h_val rfl (.int .u64 bt) (fun b w hb hH => exec_load rfl rfl (reads_one ty_uint64 rfl) (hH.row 0 rfl) hb) ?_
    refine h_act (post := fun _ => [cell g1 28 #[.int .u64 bi, .int .u64 bt, .int .i64 bc]]) rfl (a_call (ent_of Try.func58 (by kernel_rfl) rfl) (fun w hH => lnumber_any w bt true hn2) rfl rfl rfl) ?_; rintro ⟨⟩
    refine h_q hflS rfl ?_
    refine h_val rfl (.int .i64 bc) (fun b w hb hH => exec_load rfl rfl (reads_one ty_int rfl) (hH.row 0 rfl) hb) ?_
    refine h_val rfl (.bool false) (fun b w hb hH => exec_cmp rfl rfl rfl (cmp_neq_f (by omega)) hb) ?_
    refine h_q hflS rfl ?_
    refine h_done (d_ret ?_)
    exact f_fin1 (.tmp rfl) (fun w h => ⟨rfl, below0 h.up⟩) rfl
  · skip
    have hz := hz0.trans hz1
    obtain rfl : b = false := by rw [← hb]; unfold baseR baseQ; rw [hz, hn2]; simp
    refine d_reg ?_
    refine h_q hflS rfl ?_
    refine h_val rfl (.agg #[.int .u64 bi, .int .u64 bt, .int .i64 bc]) (fun b w hb hH => exec_load rfl rfl (reads_agg (cs := [.int .u64 bi, .int .u64 bt, .int .i64 bc]) ty_api_Base rfl) (hH.row 0 rfl) hb) ?_
    refine h_val rfl (.agg #[.int .u64 0, .int .u64 0, .int .i64 0]) (fun b w hb hH => exec_build rfl rfl (by kernel_rfl) hb) ?_
    refine h_val rfl (.bool false) (fun b w hb hH => exec_eqs (eqBaseP bi bt bc 0 0 0 false hz) rfl rfl rfl hb) ?_
    refine h_q hflS rfl ?_
    refine h_val rfl (.int .u64 bi) (fun b w hb hH => exec_load rfl rfl (reads_one ty_uint64 rfl) (hH.row 0 rfl) hb) ?_
    refine h_act (post := fun _ => [cell g1 28 #[.int .u64 bi, .int .u64 bt, .int .i64 bc]]) rfl (a_call (ent_of Try.func58 (by kernel_rfl) rfl) (fun w hH => lnumber_any w bi true hn1) rfl rfl rfl) ?_; rintro ⟨⟩
    refine h_q hflS rfl ?_
    refine h_val rfl (.int .u64 bt) (fun b w hb hH => exec_load rfl rfl (reads_one ty_uint64 rfl) (hH.row 0 rfl) hb) ?_
    refine h_act (post := fun _ => [cell g1 28 #[.int .u64 bi, .int .u64 bt, .int .i64 bc]]) rfl (a_call (ent_of Try.func58 (by kernel_rfl) rfl) (fun w hH => lnumber_any w bt false hn2) rfl rfl rfl) ?_; rintro ⟨⟩
    refine h_q hflS rfl ?_
    refine h_done (d_ret ?_)
    exact f_fin1 (.tmp rfl) (fun w h => ⟨rfl, below0 h.up⟩) rfl
  · skip
    have hz := hz0.trans hz1
    obtain rfl : b = false := by rw [← hb]; unfold baseR baseQ; rw [hz, hn1]; simp
    refine d_reg ?_
    refine h_q hflS rfl ?_
    refine h_val rfl (.agg #[.int .u64 bi, .int .u64 bt, .int .i64 bc]) (fun b w hb hH => exec_load rfl rfl (reads_agg (cs := [.int .u64 bi, .int .u64 bt, .int .i64 bc]) ty_api_Base rfl) (hH.row 0 rfl) hb) ?_
    refine h_val rfl (.agg #[.int .u64 0, .int .u64 0, .int .i64 0]) (fun b w hb hH => exec_build rfl rfl (by kernel_rfl) hb) ?_
    refine h_val rfl (.bool false) (fun b w hb hH => exec_eqs (eqBaseP bi bt bc 0 0 0 false hz) rfl rfl rfl hb) ?_
    refine h_q hflS rfl ?_
    refine h_val rfl (.int .u64 bi) (fun b w hb hH => exec_load rfl rfl (reads_one ty_uint64 rfl) (hH.row 0 rfl) hb) ?_
    refine h_act (post := fun _ => [cell g1 28 #[.int .u64 bi, .int .u64 bt, .int .i64 bc]]) rfl (a_call (ent_of Try.func58 (by kernel_rfl) rfl) (fun w hH => lnumber_any w bi false hn1) rfl rfl rfl) ?_; rintro ⟨⟩
    refine h_q hflS rfl ?_
    refine h_done (d_ret ?_)
    exact f_fin1 (.tmp rfl) (fun w h => ⟨rfl, below0 h.up⟩) rfl
  · skip
    have hz := hz0.trans hz1
    obtain rfl : b = true := by rw [← hb]; unfold baseR; rw [hz]; rfl
    refine d_reg ?_
    refine h_q hflS rfl ?_
    refine h_val rfl (.agg #[.int .u64 bi, .int .u64 bt, .int .i64 bc]) (fun b w hb hH => exec_load rfl rfl (reads_agg (cs := [.int .u64 bi, .int .u64 bt, .int .i64 bc]) ty_api_Base rfl) (hH.row 0 rfl) hb) ?_
    refine h_val rfl (.agg #[.int .u64 0, .int .u64 0, .int .i64 0]) (fun b w hb hH => exec_build rfl rfl (by kernel_rfl) hb) ?_
    refine h_val rfl (.bool true) (fun b w hb hH => exec_eqs (eqBaseP bi bt bc 0 0 0 true hz) rfl rfl rfl hb) ?_
    refine h_q hflS rfl ?_
    refine h_done (d_ret ?_)
    exact f_fin1 (.tmp rfl) (fun w h => ⟨rfl, below0 h.up⟩) rfl
end Go.Proofs.Ytnebloeideodmaa.Sep

namespace Go.Proofs.Ytnebloeideodmaa.Sep
open Go.RowKit
open Go.Proofs.Ytnebloeideodmaa.Mem (Dist Blk Chg below0)

set_option maxRecDepth 100000 in
theorem follow_l (X : Ass) (A : Option Addr) (c : Nat) (l : List EntV) (hX : RdEs X (.slice A l.length c) l) (hl : l.length ≤ 9223372036854775807) (ix tm : Int) (h1 : 0 ≤ ix ∧ ix ≤ 18446744073709551615) (h2 : 0 ≤ tm ∧ tm ≤ 18446744073709551615) (b : Bool) (hb : folB ix tm (l.map (·.e)) = b) : Does Try.prog 30 #[.int .u64 ix, .int .u64 tm, .slice A l.length c] [X] (fun (_ : Unit) => .bool b) (fun (_ : Unit) => [X]) := by
  refine d_ins (args := [.int .u64 ix, .int .u64 tm, .slice A l.length c]) 36 Try.func30 rfl rfl rfl ?_; intro w rs
  refine d_reg ?_
  refine h_q hflS rfl ?_
  refine h_done (d_seq (d_reg ?_))
  refine h_q hflS rfl ?_
  refine h_val rfl (.int .i64 (l.length : Int)) (fun b w hb hH => e_slen (((hH.rdEs 0 rfl hX).1)) Try.underlying34 rfl rfl hb) ?_
  refine h_q hflS rfl ?_
  refine h_done (d_block ?_)
  refine d_loop (α := Nat × Int × Int) (fun ⟨j, i, y⟩ => [(0, .int .u64 i), (1, .int .u64 y), (6, .bool false), (9, .slice A l.length c), (10, .int .i64 (l.length : Int)), (11, .int .i64 (j : Int))]) (fun ⟨j, i, y⟩ => [X]) (fun ⟨j, i, y⟩ => j ≤ l.length ∧ (0 ≤ i ∧ i ≤ 18446744073709551615) ∧ folB i y ((l.drop j).map (·.e)) = b) (fun ⟨j, i, y⟩ => l.length - j) (0, ix, tm) ⟨Nat.zero_le _, h1, hb⟩ ⟨rfl, rfl, rfl, rfl, rfl, rfl, trivial⟩ rfl ?_
  rintro ⟨j, i, y⟩ hI
  refine WC2.at_ (env' := [(0, .int .u64 i), (1, .int .u64 y), (6, .bool false), (9, .slice A l.length c), (10, .int .i64 (l.length : Int)), (11, .int .i64 (j : Int))]) (rs' := [X]) ⟨rfl, rfl, rfl, rfl, rfl, rfl, trivial⟩ rfl ?_
  have hI1 : j ≤ l.length := hI.1
  have hI2 : 0 ≤ i ∧ i ≤ 18446744073709551615 := hI.2.1
  have hI3 : folB i y ((l.drop j).map (·.e)) = b := hI.2.2
  rcases Nat.lt_or_ge j l.length with hn | hn
  · skip
    obtain ⟨x, hx⟩ : ∃ x, l[j]? = some x := ⟨_, List.getElem?_eq_getElem hn⟩
    have hm := List.mem_of_getElem? hx
    have hdr : (l.drop j).map (·.e) = x.e :: (l.drop (j + 1)).map (·.e) := by rw [List.drop_eq_getElem_cons hn, (List.getElem?_eq_some_iff.1 hx).2]; rfl
    obtain ⟨ai, hai, hai2⟩ := wrap_u64 (z := i + 1)
    refine d_reg ?_
    refine h_q hflS rfl ?_
    refine h_val rfl (.bool true) (fun b w hb hH => exec_cmp rfl rfl rfl (cmp_lss_t (by omega)) hb) ?_
    refine h_done (d_seq (d_then rfl (d_skip (f_to (d_seq (d_block (d_reg ?_)))))))
    refine h_q hflS rfl ?_
    refine h_val rfl (elp (.slice A l.length c) (j * 5)) (fun b w hb hH => e_sidx okV (((hH.rdEs 0 rfl hX).1)) sl_api_Entry (j := j) hx rfl rfl rfl hb) ?_
    refine h_val rfl (.agg (encV x).toArray) (fun b w hb hH => e_sagg okV (by decide) (((hH.rdEs 0 rfl hX).1)) (j := j) hx ty_api_Entry rfl rfl hb) ?_
    refine h_act (post := fun g8 => [cell g8 32 #[.int .i64 0, .int .u64 0, .int .u64 0, .slice none 0 0, .int .i64 0], X]) rfl (a_alloc ze_api_Entry rfl) ?_; rintro g8
    refine h_acts (post := fun _ => [cell g8 32 #[.int .i64 x.e.k, .int .u64 x.e.t, .int .u64 x.e.i, x.v, .int .i64 x.e.c], X]) rfl rfl (a_store 0 (v := .agg (encV x).toArray) #[.int .i64 x.e.k, .int .u64 x.e.t, .int .u64 x.e.i, x.v, .int .i64 x.e.c] ty_api_Entry.2 rfl rfl rfl rfl rfl rfl rfl rfl rfl) ?_; rintro ⟨⟩
    refine h_done (d_seq ?_)
    cases hr : rightE x.e
    rotate_left
    have hr2 := (rightE_iff hr).2.1
    by_cases he : x.e.i = i + 1
    rcases Int.lt_or_le x.e.t y with ht | ht
    · skip
      obtain rfl : false = b := by rw [← hI3, hdr, folB_cons]; rw [decide_eq_false (by omega : ¬ y ≤ x.e.t)]; simp
      refine d_reg ?_
      refine h_q hflS rfl ?_
      refine h_val rfl (.agg #[.int .i64 x.e.k, .int .u64 x.e.t, .int .u64 x.e.i, x.v, .int .i64 x.e.c]) (fun b w hb hH => exec_load rfl rfl (reads_agg (cs := [.int .i64 x.e.k, .int .u64 x.e.t, .int .u64 x.e.i, x.v, .int .i64 x.e.c]) ty_api_Entry rfl) (hH.row 0 rfl) hb) ?_
      refine h_act (post := fun _ => [cell g8 32 #[.int .i64 x.e.k, .int .u64 x.e.t, .int .u64 x.e.i, x.v, .int .i64 x.e.c], X]) rfl (a_call (ent_of Try.func60 (by kernel_rfl) rfl) (fun w hH => rightE_any w x ((hH.rdEs 1 rfl hX).2 x hm) true hr) rfl rfl rfl) ?_; rintro ⟨⟩
      refine h_q hflS rfl ?_
      refine h_val rfl (.int .u64 x.e.i) (fun b w hb hH => exec_load rfl rfl (reads_one ty_uint64 rfl) (hH.row 0 rfl) hb) ?_
      refine h_q hflS rfl ?_
      refine h_val rfl (.int .u64 ai) (fun b w hb hH => exec_ar rfl rfl rfl rfl hai hb) ?_
      refine h_val rfl (.bool false) (fun b w hb hH => exec_cmp rfl rfl rfl (cmp_neq_f (by omega)) hb) ?_
      refine h_q hflS rfl ?_
      refine h_val rfl (.int .u64 x.e.t) (fun b w hb hH => exec_load rfl rfl (reads_one ty_uint64 rfl) (hH.row 0 rfl) hb) ?_
      refine h_q hflS rfl ?_
      refine h_val rfl (.bool true) (fun b w hb hH => exec_cmp rfl rfl rfl (cmp_lss_t (by omega)) hb) ?_
      refine h_q hflS rfl ?_
      refine h_done (d_then rfl (d_reg ?_))
      refine h_q hflS rfl ?_
      refine h_done (d_ret (f_then_ret (f_block_ret (f_then_ret (f_then_ret (f_block_ret (f_then_ret ?_)))))))
      exact f_fin1 (.tmp rfl) (fun w h => tells () rfl [1] rfl h same_parts) rfl
    · skip
      refine d_reg ?_
      refine h_q hflS rfl ?_
      refine h_val rfl (.agg #[.int .i64 x.e.k, .int .u64 x.e.t, .int .u64 x.e.i, x.v, .int .i64 x.e.c]) (fun b w hb hH => exec_load rfl rfl (reads_agg (cs := [.int .i64 x.e.k, .int .u64 x.e.t, .int .u64 x.e.i, x.v, .int .i64 x.e.c]) ty_api_Entry rfl) (hH.row 0 rfl) hb) ?_
      refine h_act (post := fun _ => [cell g8 32 #[.int .i64 x.e.k, .int .u64 x.e.t, .int .u64 x.e.i, x.v, .int .i64 x.e.c], X]) rfl (a_call (ent_of Try.func60 (by kernel_rfl) rfl) (fun w hH => rightE_any w x ((hH.rdEs 1 rfl hX).2 x hm) true hr) rfl rfl rfl) ?_; rintro ⟨⟩
      refine h_q hflS rfl ?_
      refine h_val rfl (.int .u64 x.e.i) (fun b w hb hH => exec_load rfl rfl (reads_one ty_uint64 rfl) (hH.row 0 rfl) hb) ?_
      refine h_q hflS rfl ?_
      refine h_val rfl (.int .u64 ai) (fun b w hb hH => exec_ar rfl rfl rfl rfl hai hb) ?_
      refine h_val rfl (.bool false) (fun b w hb hH => exec_cmp rfl rfl rfl (cmp_neq_f (by omega)) hb) ?_
      refine h_q hflS rfl ?_
      refine h_val rfl (.int .u64 x.e.t) (fun b w hb hH => exec_load rfl rfl (reads_one ty_uint64 rfl) (hH.row 0 rfl) hb) ?_
      refine h_q hflS rfl ?_
      refine h_val rfl (.bool false) (fun b w hb hH => exec_cmp rfl rfl rfl (cmp_lss_f (by omega)) hb) ?_
      refine h_q hflS rfl ?_
      refine h_done (d_else rfl (d_skip (f_to ?_)))
      refine d_parS 5 0 [⟨.quiet, [], fun _ => .pointer (some ⟨g8, 2, none⟩), []⟩, ⟨.quiet, [], fun _ => .int .u64 x.e.i, [0]⟩, ⟨.quiet, [], fun _ => .pointer (some ⟨g8, 1, none⟩), []⟩, ⟨.quiet, [], fun _ => .int .u64 x.e.t, [2]⟩, ⟨.quiet, [], fun _ => .int .u64 x.e.i, [1]⟩] [(1, .int .u64 y), (6, .bool false), (9, .slice A l.length c), (10, .int .i64 (l.length : Int)), (11, .int .i64 (j : Int)), (12, .bool true), (13, elp (.slice A l.length c) (j * 5)), (14, .agg (encV x).toArray), (8, .pointer (some ⟨g8, 0, none⟩)), (15, .agg #[.int .i64 x.e.k, .int .u64 x.e.t, .int .u64 x.e.i, x.v, .int .i64 x.e.c]), (16, .bool true), (17, .bool false), (18, .bool false), (19, .pointer (some ⟨g8, 2, none⟩)), (20, .int .u64 x.e.i), (21, .int .u64 i), (22, .int .u64 ai), (23, .bool false), (24, .bool false), (25, .bool false), (26, .pointer (some ⟨g8, 1, none⟩)), (27, .int .u64 x.e.t), (28, .int .u64 y), (29, .bool false), (30, .bool false)] (fun _ => [cell g8 32 #[.int .i64 x.e.k, .int .u64 x.e.t, .int .u64 x.e.i, x.v, .int .i64 x.e.c], X]) (by kernel_rfl) (by kernel_rfl) ⟨rfl, rfl, rfl, rfl, rfl, rfl, rfl, rfl, rfl, rfl, rfl, rfl, rfl, rfl, rfl, rfl, rfl, rfl, rfl, rfl, rfl, rfl, rfl, rfl, rfl, trivial⟩ rfl ?_ ?_
      · skip
        refine s_cons (by exact ⟨rfl, fun b w hH hb => exec_q1 hflS rfl hb⟩) ?_
        refine s_cons (by exact ⟨rfl, fun b w hH hb => exec_load rfl rfl (reads_one ty_uint64 rfl) (hH.row 0 rfl) hb⟩) ?_
        refine s_cons (by exact ⟨rfl, fun b w hH hb => exec_q1 hflS rfl hb⟩) ?_
        refine s_cons (by exact ⟨rfl, fun b w hH hb => exec_load rfl rfl (reads_one ty_uint64 rfl) (hH.row 0 rfl) hb⟩) ?_
        refine s_cons (by exact ⟨rfl, fun b w hH hb => exec_q1 hflS rfl hb⟩) ?_
        exact s_nil
      refine WL2.keep (env' := [(1, .int .u64 y), (6, .bool false), (9, .slice A l.length c), (10, .int .i64 (l.length : Int)), (11, .int .i64 (j : Int)), (12, .bool true), (13, elp (.slice A l.length c) (j * 5)), (14, .agg (encV x).toArray), (8, .pointer (some ⟨g8, 0, none⟩)), (15, .agg #[.int .i64 x.e.k, .int .u64 x.e.t, .int .u64 x.e.i, x.v, .int .i64 x.e.c]), (16, .bool true), (17, .bool false), (18, .bool false), (19, .pointer (some ⟨g8, 2, none⟩)), (20, .int .u64 x.e.i), (21, .int .u64 i), (22, .int .u64 ai), (23, .bool false), (24, .bool false), (25, .bool false), (26, .pointer (some ⟨g8, 1, none⟩)), (27, .int .u64 x.e.t), (28, .int .u64 y), (29, .bool false), (30, .bool false), (31, .pointer (some ⟨g8, 2, none⟩)), (32, .int .u64 x.e.i), (33, .pointer (some ⟨g8, 1, none⟩)), (34, .int .u64 x.e.t), (0, .int .u64 x.e.i)]) ⟨rfl, rfl, rfl, rfl, rfl, rfl, rfl, rfl, rfl, rfl, rfl, rfl, rfl, rfl, rfl, rfl, rfl, rfl, rfl, rfl, rfl, rfl, rfl, rfl, rfl, rfl, rfl, rfl, rfl, rfl, trivial⟩ ?_
      refine h_q hflS rfl ?_
      refine h_nil (f_block (f_to (d_reg1 ?_)))
      refine h_q hflS rfl ?_
      refine h_val rfl (.int .i64 ((j + 1 : Nat) : Int)) (fun b w hb hH => exec_ar rfl rfl rfl rfl (by rw [IntWalk.i64_in _ (by omega)]; omega) hb) ?_
      refine h_q hflS rfl ?_
      refine h_nil ?_
      exact f_again (j + 1, x.e.i, x.e.t) 1 ⟨hn, (by show 0 ≤ x.e.i ∧ x.e.i ≤ _; omega), (by rw [← hI3, hdr, folB_cons, hr, decide_eq_true he, decide_eq_true ht]; rfl)⟩ (show l.length - (j + 1) < l.length - j by omega) ⟨rfl, rfl, rfl, rfl, rfl, rfl, trivial⟩ rfl
    · skip
      obtain rfl : false = b := by rw [← hI3, hdr, folB_cons]; rw [decide_eq_false he]; simp
      refine d_reg ?_
      refine h_q hflS rfl ?_
      refine h_val rfl (.agg #[.int .i64 x.e.k, .int .u64 x.e.t, .int .u64 x.e.i, x.v, .int .i64 x.e.c]) (fun b w hb hH => exec_load rfl rfl (reads_agg (cs := [.int .i64 x.e.k, .int .u64 x.e.t, .int .u64 x.e.i, x.v, .int .i64 x.e.c]) ty_api_Entry rfl) (hH.row 0 rfl) hb) ?_
      refine h_act (post := fun _ => [cell g8 32 #[.int .i64 x.e.k, .int .u64 x.e.t, .int .u64 x.e.i, x.v, .int .i64 x.e.c], X]) rfl (a_call (ent_of Try.func60 (by kernel_rfl) rfl) (fun w hH => rightE_any w x ((hH.rdEs 1 rfl hX).2 x hm) true hr) rfl rfl rfl) ?_; rintro ⟨⟩
      refine h_q hflS rfl ?_
      refine h_val rfl (.int .u64 x.e.i) (fun b w hb hH => exec_load rfl rfl (reads_one ty_uint64 rfl) (hH.row 0 rfl) hb) ?_
      refine h_q hflS rfl ?_
      refine h_val rfl (.int .u64 ai) (fun b w hb hH => exec_ar rfl rfl rfl rfl hai hb) ?_
      refine h_val rfl (.bool true) (fun b w hb hH => exec_cmp rfl rfl rfl (cmp_neq_t (by omega)) hb) ?_
      refine h_q hflS rfl ?_
      refine h_done (d_then rfl (d_reg ?_))
      refine h_q hflS rfl ?_
      refine h_done (d_ret (f_then_ret (f_block_ret (f_then_ret (f_then_ret (f_block_ret (f_then_ret ?_)))))))
      exact f_fin1 (.tmp rfl) (fun w h => tells () rfl [1] rfl h same_parts) rfl
    · skip
      obtain rfl : false = b := by rw [← hI3, hdr, folB_cons]; rw [hr]; rfl
      refine d_reg ?_
      refine h_q hflS rfl ?_
      refine h_val rfl (.agg #[.int .i64 x.e.k, .int .u64 x.e.t, .int .u64 x.e.i, x.v, .int .i64 x.e.c]) (fun b w hb hH => exec_load rfl rfl (reads_agg (cs := [.int .i64 x.e.k, .int .u64 x.e.t, .int .u64 x.e.i, x.v, .int .i64 x.e.c]) ty_api_Entry rfl) (hH.row 0 rfl) hb) ?_
      refine h_act (post := fun _ => [cell g8 32 #[.int .i64 x.e.k, .int .u64 x.e.t, .int .u64 x.e.i, x.v, .int .i64 x.e.c], X]) rfl (a_call (ent_of Try.func60 (by kernel_rfl) rfl) (fun w hH => rightE_any w x ((hH.rdEs 1 rfl hX).2 x hm) false hr) rfl rfl rfl) ?_; rintro ⟨⟩
      refine h_q hflS rfl ?_
      refine h_done (d_then rfl (d_reg ?_))
      refine h_q hflS rfl ?_
      refine h_done (d_ret (f_then_ret (f_block_ret (f_then_ret (f_then_ret (f_block_ret (f_then_ret ?_)))))))
      exact f_fin1 (.tmp rfl) (fun w h => tells () rfl [1] rfl h same_parts) rfl
  · skip
    obtain rfl : true = b := by rw [← hI3, List.drop_of_length_le hn]; rfl
    refine d_reg ?_
    refine h_q hflS rfl ?_
    refine h_val rfl (.bool false) (fun b w hb hH => exec_cmp rfl rfl rfl (cmp_lss_f (by omega)) hb) ?_
    refine h_done (d_seq (d_else rfl (d_exit (f_then_exit (f_then_exit (f_block_exit (f_to (d_reg ?_))))))))
    refine h_q hflS rfl ?_
    refine h_done (d_ret ?_)
    exact f_fin1 (.tmp rfl) (fun w h => tells () rfl [0] rfl h same_parts) rfl

theorem add_start {g : Nat} {bi bt bc : Int} {es : List EntD} {l : List EntV} : ∀ rs, Parts [LogD g bi bt bc es] rs → LogD g bi bt bc (es ++ (l.take 0).map (·.e)) rs := fun rs h => by
  rw [List.take_zero, List.map_nil, List.append_nil]; exact h.one'

set_option maxRecDepth 100000 in
theorem ladd_does (g : Nat) (bi bt bc : Int) (es : List EntD) (X : Ass) (A : Option Addr) (c : Nat) (l : List EntV) (hX : RdEs X (.slice A l.length c) l) (hl : l.length ≤ 9223372036854775807) (hd : ∀ x, x ∈ l → x.e.d.length ≤ 140737488351232) (hs : (es.length + l.length) * 56 ≤ 140737488351232) : Does Try.prog 31 #[.pointer (some ⟨g, 0, none⟩), .slice A l.length c] [LogD g bi bt bc es, X] (fun (_ : Unit) => .tuple #[]) (fun (_ : Unit) => [LogD g bi bt bc (es ++ l.map (·.e)), X]) := by
  refine d_ins (args := [.pointer (some ⟨g, 0, none⟩), .slice A l.length c]) 19 Try.func31 rfl rfl rfl ?_; intro w rs
  refine d_reg ?_
  refine h_q hflS rfl ?_
  refine h_val rfl (.int .i64 (l.length : Int)) (fun b w hb hH => e_slen (((hH.rdEs 1 rfl hX).1)) Try.underlying34 rfl rfl hb) ?_
  refine h_q hflS rfl ?_
  refine h_done (d_block ?_)
  refine d_close [0] rfl (add_start (l := l)) rfl ?_
  refine d_loop (α := Nat) (fun j => [(0, .pointer (some ⟨g, 0, none⟩)), (6, .slice A l.length c), (7, .int .i64 (l.length : Int)), (8, .int .i64 (j : Int))]) (fun j => [LogD g bi bt bc (es ++ (l.take j).map (·.e)), X]) (fun j => j ≤ l.length) (fun j => l.length - j) 0 (Nat.zero_le _) ⟨rfl, rfl, rfl, rfl, trivial⟩ rfl ?_
  rintro j hI
  refine WC2.at_ (env' := [(0, .pointer (some ⟨g, 0, none⟩)), (6, .slice A l.length c), (7, .int .i64 (l.length : Int)), (8, .int .i64 (j : Int))]) (rs' := [LogD g bi bt bc (es ++ (l.take j).map (·.e)), X]) ⟨rfl, rfl, rfl, rfl, trivial⟩ rfl ?_
  have hI1 : j ≤ l.length := hI
  have hlj : (es ++ (l.take j).map (·.e)).length = es.length + j := by rw [List.length_append, List.length_map, List.length_take]; omega
  rcases Nat.lt_or_ge j l.length with hn | hn
  · skip
    obtain ⟨x, hx⟩ : ∃ x, l[j]? = some x := ⟨_, List.getElem?_eq_getElem hn⟩
    have hm := List.mem_of_getElem? hx
    have htk : es ++ (l.take (j + 1)).map (·.e) = es ++ (l.take j).map (·.e) ++ [x.e] := by rw [List.take_add_one, hx, List.map_append, List.append_assoc]; rfl
    refine d_reg ?_
    refine h_q hflS rfl ?_
    refine h_val rfl (.bool true) (fun b w hb hH => exec_cmp rfl rfl rfl (cmp_lss_t (by omega)) hb) ?_
    refine h_done (d_seq (d_then rfl (d_skip (f_to (d_seq (d_block (d_reg ?_)))))))
    refine h_q hflS rfl ?_
    refine h_val rfl (elp (.slice A l.length c) (j * 5)) (fun b w hb hH => e_sidx okV (((hH.rdEs 1 rfl hX).1)) sl_api_Entry (j := j) hx rfl rfl rfl hb) ?_
    refine h_val rfl (.agg (encV x).toArray) (fun b w hb hH => e_sagg okV (by decide) (((hH.rdEs 1 rfl hX).1)) (j := j) hx ty_api_Entry rfl rfl hb) ?_
    refine h_act (post := fun g5 => [cell g5 32 #[.int .i64 0, .int .u64 0, .int .u64 0, .slice none 0 0, .int .i64 0], LogD g bi bt bc (es ++ (l.take j).map (·.e)), X]) rfl (a_alloc ze_api_Entry rfl) ?_; rintro g5
    refine h_acts (post := fun _ => [cell g5 32 #[.int .i64 x.e.k, .int .u64 x.e.t, .int .u64 x.e.i, x.v, .int .i64 x.e.c], LogD g bi bt bc (es ++ (l.take j).map (·.e)), X]) rfl rfl (a_store 0 (v := .agg (encV x).toArray) #[.int .i64 x.e.k, .int .u64 x.e.t, .int .u64 x.e.i, x.v, .int .i64 x.e.c] ty_api_Entry.2 rfl rfl rfl rfl rfl rfl rfl rfl rfl) ?_; rintro ⟨⟩
    refine h_done ?_
    refine d_emps 1 rfl ?_
    refine d_parS 6 2 [⟨.quiet, [none, none], fun _ => .pointer (some ⟨g, 0, none⟩), []⟩, ⟨.quiet, [none, none], fun _ => .pointer (some ⟨g, 0, none⟩), [0]⟩, ⟨.quiet, [none, none], fun _ => .pointer (some ⟨g, 3, none⟩), [1]⟩, ⟨.quiet, [none, none], fun _ => .agg #[.int .i64 x.e.k, .int .u64 x.e.t, .int .u64 x.e.i, x.v, .int .i64 x.e.c], []⟩, ⟨.act 0, [some false, some false], fun _ => undef, [3]⟩, ⟨.actv 1, [some true, some false], fun _ => .tuple #[], [2, 4]⟩] [(0, .pointer (some ⟨g, 0, none⟩)), (6, .slice A l.length c), (7, .int .i64 (l.length : Int)), (8, .int .i64 (j : Int)), (9, .bool true), (10, elp (.slice A l.length c) (j * 5)), (11, .agg (encV x).toArray), (5, .pointer (some ⟨g5, 0, none⟩))] (fun ρ => match ρ with | [rq0, rq1] => [selS rq1 (fun _ => emp) (selS rq0 (fun cv => CpT cv x.e) (emp)), cell g5 32 #[.int .i64 x.e.k, .int .u64 x.e.t, .int .u64 x.e.i, x.v, .int .i64 x.e.c], selS rq1 (fun _ => LogD g bi bt bc (es ++ (l.take j).map (·.e) ++ [x.e])) (LogD g bi bt bc (es ++ (l.take j).map (·.e))), X] | _ => []) (by kernel_rfl) (by kernel_rfl) ⟨rfl, rfl, rfl, rfl, rfl, rfl, rfl, rfl, trivial⟩ rfl ?_ ?_
    · skip
      refine s_cons (by intro r0_ r1_; exact ⟨rfl, fun b w hH hb => exec_q1 hflS rfl hb⟩) ?_
      refine s_cons (by intro r0_ r1_; exact ⟨rfl, fun b w hH hb => by exact exec_nilCheck rfl rfl hb⟩) ?_
      refine s_cons (by intro r0_ r1_; exact ⟨rfl, fun b w hH hb => exec_q1 hflS rfl hb⟩) ?_
      refine s_cons (by intro r0_ r1_; exact ⟨rfl, fun b w hH hb => exec_load rfl rfl (reads_agg (cs := [.int .i64 x.e.k, .int .u64 x.e.t, .int .u64 x.e.i, x.v, .int .i64 x.e.c]) ty_api_Entry rfl) (hH.row 1 rfl) hb⟩) ?_
      refine s_cons (by exact ⟨rfl, Acts.s (a_does (os' := fun cv => [CpT cv x.e, cell g5 32 #[.int .i64 x.e.k, .int .u64 x.e.t, .int .u64 x.e.i, x.v, .int .i64 x.e.c], LogD g bi bt bc (es ++ (l.take j).map (·.e)), X]) [3, 0] 1 (ent_of Try.func56 (by kernel_rfl) rfl) (copied_v X x (fun rs w h1 h2 => (hX rs w h1 h2).2 x hm) (hd x hm)) rfl rfl rfl (fun _ => rfl) rfl rfl rfl) (fun _ => rfl)⟩) ?_
      refine s_cons (by intro cv; exact ⟨rfl, Acts.su (a_does (os' := fun _ => [emp, cell g5 32 #[.int .i64 x.e.k, .int .u64 x.e.t, .int .u64 x.e.i, x.v, .int .i64 x.e.c], LogD g bi bt bc (es ++ (l.take j).map (·.e) ++ [x.e]), X]) [2, 0] 0 (ent_of Try.func61 (by kernel_rfl) rfl) (add_v g bi bt bc (es ++ (l.take j).map (·.e)) cv x.e (by omega)) rfl rfl rfl (fun _ => rfl) rfl rfl rfl) rfl⟩) ?_
      exact s_nil
    intro cv v1_
    refine WL2.keep (env' := [(0, .pointer (some ⟨g, 0, none⟩)), (6, .slice A l.length c), (7, .int .i64 (l.length : Int)), (8, .int .i64 (j : Int)), (9, .bool true), (10, elp (.slice A l.length c) (j * 5)), (11, .agg (encV x).toArray), (5, .pointer (some ⟨g5, 0, none⟩)), (12, .pointer (some ⟨g, 0, none⟩)), (13, .pointer (some ⟨g, 0, none⟩)), (14, .pointer (some ⟨g, 3, none⟩)), (15, .agg #[.int .i64 x.e.k, .int .u64 x.e.t, .int .u64 x.e.i, x.v, .int .i64 x.e.c]), (16, cv)]) ⟨rfl, rfl, rfl, rfl, rfl, rfl, rfl, rfl, rfl, rfl, rfl, rfl, rfl, trivial⟩ ?_
    refine WL2.leave [0] rfl rfl ?_
    refine h_nil (f_block (f_to ?_))
    rw [← htk]
    refine d_reg1 ?_
    refine h_q hflS rfl ?_
    refine h_val rfl (.int .i64 ((j + 1 : Nat) : Int)) (fun b w hb hH => exec_ar rfl rfl rfl rfl (by rw [IntWalk.i64_in _ (by omega)]; omega) hb) ?_
    refine h_q hflS rfl ?_
    refine h_nil ?_
    exact f_again (j + 1) 1 hn (show l.length - (j + 1) < l.length - j by omega) ⟨rfl, rfl, rfl, rfl, trivial⟩ rfl
  · skip
    obtain rfl : j = l.length := by omega
    refine d_reg ?_
    refine h_q hflS rfl ?_
    refine h_val rfl (.bool false) (fun b w hb hH => exec_cmp rfl rfl rfl (cmp_lss_f (by omega)) hb) ?_
    refine h_done (d_seq (d_else rfl (d_exit (f_then_exit (f_then_exit (f_block_exit ?_))))))
    exact f_fin0n  (fun w h => tells () rfl [0, 1] rfl h (fun z hz => ⟨z, .refl _, by rw [List.take_of_length_le (Nat.le_refl _)] at hz; exact hz⟩)) rfl
end Go.Proofs.Ytnebloeideodmaa.Sep
