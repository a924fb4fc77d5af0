/-
  MbS
-/
import Derived.Test.YtmcdjniebkfagaaAR01
import Derived.Test.YtmcdjniebkfagaaAS01
set_option linter.unusedSimpArgs false
set_option linter.unusedVariables false

namespace Go.Proofs.Ytmcdjniebkfagaa.Sep
open Go.RowKit
open Go.Proofs.Ytmcdjniebkfagaa.Mem (Dist Blk Chg below0)

def okN (x : Int) : Bool := decide (1 ≤ x ∧ x ≤ 7)
def orN (l : List Int) : Nat := l.foldl (fun a x => a ||| 2 ^ x.toNat) 0
def setM (l : List Int) : Int × Int := if l.all okN then ((orN l : Nat), 0) else (0, 1)
theorem orN_bit : ∀ (l : List Int) (a k : Nat), (l.foldl (fun a x => a ||| 2 ^ x.toNat) a).testBit k = (a.testBit k || l.any fun x => decide (x.toNat = k))
  | [], a, k => by simp
  | x :: l, a, k => by
    rw [List.foldl_cons, orN_bit l, Nat.testBit_or, Nat.testBit_two_pow, List.any_cons, Bool.or_assoc]
theorem orN_mem {l m : List Int} (h : ∀ x, x ∈ l ↔ x ∈ m) : orN l = orN m := Nat.eq_of_testBit_eq fun k => by
  unfold orN
  rw [orN_bit, orN_bit]
  congr 1
  rw [Bool.eq_iff_iff, List.any_eq_true, List.any_eq_true]
  exact ⟨fun ⟨x, h1, h2⟩ => ⟨x, (h x).1 h1, h2⟩, fun ⟨x, h1, h2⟩ => ⟨x, (h x).2 h1, h2⟩⟩
theorem all_mem {l m : List Int} (h : ∀ x, x ∈ l ↔ x ∈ m) : l.all okN = m.all okN := by
  rw [Bool.eq_iff_iff, List.all_eq_true, List.all_eq_true]
  exact ⟨fun h1 x hx => h1 x ((h x).2 hx), fun h1 x hx => h1 x ((h x).1 hx)⟩
theorem setM_mem {l m : List Int} (h : ∀ x, x ∈ l ↔ x ∈ m) : setM l = setM m := by unfold setM; rw [orN_mem h, all_mem h]
def orAll : Bool := (List.range 128).all fun k => (List.range 7).all fun j => decide (bits .or .i64 ((2 * k : Nat) : Int) (2 ^ (j + 1)) = ((2 * k ||| 2 ^ (j + 1) : Nat) : Int)) && (decide ((2 * k ||| 2 ^ (j + 1) : Nat) ≤ 254) && decide ((2 * k ||| 2 ^ (j + 1) : Nat) % 2 = 0))
set_option maxRecDepth 1000000 in
theorem orAll_t : orAll = true := by kernel_rfl
theorem or_facts {a : Nat} {z x q : Int} (hz : ((a : Nat) : Int) = z) (hr : rs z = true) (hx : 1 ≤ x ∧ x ≤ 7) (hq : (2 : Int) ^ x.toNat = q) : bits .or .i64 z q = ((a ||| 2 ^ x.toNat : Nat) : Int) ∧ rs ((a ||| 2 ^ x.toNat : Nat) : Int) = true := by
  obtain ⟨k, j, hk, hj, e1, e2, e3⟩ := may_j (may_iff.2 ⟨hr, hx⟩)
  have := all_at (all_at orAll_t hk) hj
  have e4 : a = 2 * k := by omega
  rw [← e1, ← e4, ← e3, hq] at this
  simp only [Bool.and_eq_true, decide_eq_true_eq] at this
  exact ⟨this.1, rs_iff.2 (by omega)⟩
theorem orN_snoc {l : List Int} {x : Int} : orN (l ++ [x]) = orN l ||| 2 ^ x.toNat := by unfold orN; rw [List.foldl_append]; rfl
theorem take_snoc {l : List Int} {x : Int} {i : Nat} (h : l[i]? = some x) : l.take (i + 1) = l.take i ++ [x] := by rw [List.take_add_one, h]; rfl
theorem set_take {l : List Int} {x : Int} {i : Nat} (h : i < l.length) : (l.set i x).take (i + 1) = l.take i ++ [x] := by
  rw [List.take_add_one, List.getElem?_set_self h, List.take_set_of_le (Nat.le_refl i)]; rfl
theorem okN_iff {x : Int} : okN x = true ↔ 1 ≤ x ∧ x ≤ 7 := decide_eq_true_iff
/-- what the law has gathered of some nodes: which set they are, and is one wrong? -/
def Wt (l : List Int) (z : Int) (d : Bool) : Prop := rs z = true ∧ (∃ a : Nat, (a : Int) = z ∧ (d = false → orN l = a)) ∧ l.all okN = !d
theorem Wt.nil : Wt [] 0 false := ⟨rfl, ⟨0, rfl, fun _ => rfl⟩, rfl⟩
theorem Wt.good {l : List Int} {z x q y : Int} {d : Bool} (h : Wt l z d) (hx : 1 ≤ x ∧ x ≤ 7) (hq : (2 : Int) ^ x.toNat = q) (hy : bits .or .i64 z q = y) : Wt (l ++ [x]) y d := by
  obtain ⟨h1, ⟨a, h2, h3⟩, h4⟩ := h
  obtain ⟨h5, h6⟩ := or_facts h2 h1 hx hq
  rw [hy] at h5
  subst h5
  refine ⟨h6, ⟨_, rfl, fun hd => by rw [orN_snoc, h3 hd]⟩, ?_⟩
  rw [List.all_append, h4]
  simp [okN_iff.2 hx]
theorem Wt.bad {l : List Int} {z x : Int} {d : Bool} (h : Wt l z d) (hx : x < 1 ∨ 7 < x) : Wt (l ++ [x]) z true := by
  obtain ⟨h1, ⟨a, h2, h3⟩, h4⟩ := h
  refine ⟨h1, ⟨a, h2, fun hd => by cases hd⟩, ?_⟩
  rw [List.all_append]
  have : okN x = false := by unfold okN; simp; omega
  simp [this]
theorem Wt.set {l : List Int} {z : Int} {d : Bool} (h : Wt l z d) : setM l = if d then (0, 1) else (z, 0) := by
  obtain ⟨h1, ⟨a, h2, h3⟩, h4⟩ := h
  unfold setM
  rw [h4]
  cases d
  · simp; rw [h3 rfl]; exact h2
  · rfl
theorem swap_mem {l : List Int} {i j : Nat} {x y : Int} (hij : i ≠ j) (hi : l[i]? = some x) (hj : l[j]? = some y) (z : Int) : z ∈ (l.set i y).set j x ↔ z ∈ l := by
  have hil := (List.getElem?_eq_some_iff.1 hi).1
  have hjl := (List.getElem?_eq_some_iff.1 hj).1
  rw [List.mem_iff_getElem?, List.mem_iff_getElem?]
  have e : ∀ k, ((l.set i y).set j x)[k]? = if k = j then some x else if k = i then some y else l[k]? := fun k => by
    by_cases h1 : k = j
    · subst h1; rw [if_pos rfl, List.getElem?_set_self (by simpa using hjl)]
    · rw [if_neg h1, List.getElem?_set_ne (fun h => h1 h.symm)]
      by_cases h2 : k = i
      · subst h2; rw [if_pos rfl, List.getElem?_set_self hil]
      · rw [if_neg h2, List.getElem?_set_ne (fun h => h2 h.symm)]
  constructor
  · rintro ⟨k, hk⟩
    rw [e k] at hk
    split at hk
    · exact ⟨i, by rw [hi]; exact hk⟩
    · split at hk
      · exact ⟨j, by rw [hj]; exact hk⟩
      · exact ⟨k, hk⟩
  · rintro ⟨k, hk⟩
    by_cases h1 : k = i
    · subst h1; exact ⟨j, by rw [e, if_pos rfl, ← hi]; exact hk⟩
    · by_cases h2 : k = j
      · subst h2; exact ⟨i, by rw [e, if_neg hij, if_pos rfl, ← hj]; exact hk⟩
      · exact ⟨k, by rw [e, if_neg h2, if_neg h1]; exact hk⟩

set_option maxRecDepth 100000 in
theorem set_any (X : Ass) (nv : Value) (l : List Int) (hX : Rd X 1 encI nv l) (hl : l.length ≤ 9223372036854775807) (R : Int × Int) (hR : setM l = R) : Does Try.prog 12 #[nv] [X] (fun (_ : Unit) => .tuple #[.int .i64 R.1, .int .i64 R.2]) (fun (_ : Unit) => [X]) := by
  refine d_ins (args := [nv]) 23 Try.func12 rfl rfl rfl ?_; intro w rs
  refine d_reg ?_
  refine h_q hflS rfl ?_
  refine h_done (d_reg ?_)
  refine h_q hflS rfl ?_
  refine h_done (d_seq (d_reg ?_))
  refine h_q hflS rfl ?_
  refine h_val rfl (.int .i64 (l.length : Int)) (fun b w hb hH => e_rlen 0 hX Try.underlying34 rfl rfl rfl hH hb) ?_
  refine h_q hflS rfl ?_
  refine h_done (d_block ?_)
  refine d_loop (α := Nat × Int) (fun ⟨i, z⟩ => [(2, .int .i64 0), (3, .int .i64 0), (4, .int .i64 z), (7, nv), (8, .int .i64 (l.length : Int)), (9, .int .i64 ((i : Nat) : Int))]) (fun ⟨i, z⟩ => [X]) (fun ⟨i, z⟩ => i ≤ l.length ∧ Wt (l.take i) z false) (fun ⟨i, z⟩ => l.length - i) (0, 0) ⟨(Nat.zero_le _), Wt.nil⟩ ⟨rfl, rfl, rfl, rfl, rfl, rfl, trivial⟩ rfl ?_
  rintro ⟨i, z⟩ hI
  refine WC2.at_ (env' := [(2, .int .i64 0), (3, .int .i64 0), (4, .int .i64 z), (7, nv), (8, .int .i64 (l.length : Int)), (9, .int .i64 ((i : Nat) : Int))]) (rs' := [X]) ⟨rfl, rfl, rfl, rfl, rfl, rfl, trivial⟩ rfl ?_
  have hI1 : i ≤ l.length := hI.1
  have hI2 : Wt (l.take i) z false := hI.2
  have hz0 := rs_iff.1 hI2.1
  have hzi : -9223372036854775808 ≤ z ∧ z ≤ 9223372036854775807 := ⟨by omega, by omega⟩
  rcases Nat.lt_or_ge i l.length with hn | hn
  · skip
    obtain ⟨x, hx⟩ : ∃ x, l[i]? = some x := ⟨_, List.getElem?_eq_getElem hn⟩
    refine d_reg ?_
    refine h_q hflS rfl ?_
    refine h_val rfl (.bool true) (fun b w hb hH => exec_cmp rfl rfl rfl (cmp_lss_t (by omega)) hb) ?_
    refine h_done (d_seq (d_then rfl (d_skip (f_to (d_seq (d_block (d_reg ?_)))))))
    refine h_q hflS rfl ?_
    refine h_val rfl (elp' nv (i * 1)) (fun b w hb hH => e_ridx 0 hX sl_int rfl i hn rfl rfl rfl hH hb) ?_
    refine h_val rfl (.int .i64 x) (fun b w hb hH => e_rload1 0 hX ty_int okI rfl i (a := x) hx rfl rfl rfl hH hb) ?_
    refine h_q hflS rfl ?_
    refine h_done (d_seq ?_)
    by_cases hx7 : 1 ≤ x ∧ x ≤ 7
    · skip
      have hm : may z x = true := may_iff.2 ⟨hI2.1, hx7⟩
      obtain ⟨q, hq⟩ : ∃ q, (2 : Int) ^ x.toNat = q := ⟨_, rfl⟩
      obtain ⟨y, hy⟩ : ∃ y, bits .or .i64 z q = y := ⟨_, rfl⟩
      have hw := hI2.good hx7 hq hy
      rw [← take_snoc hx] at hw
      refine d_reg ?_
      refine h_q hflS rfl ?_
      refine h_act (post := fun _ => [X]) rfl (a_call (ent_of Try.func33 (by kernel_rfl) rfl) (fun w hH => may_any w z hzi x true hm) rfl rfl rfl) ?_; rintro ⟨⟩
      refine h_q hflS rfl ?_
      refine h_done (d_else rfl (d_skip (f_to (d_reg1 ?_))))
      refine h_q hflS rfl ?_
      refine h_val rfl (.int .i64 q) (fun b w hb hH => exec_shl7 hx7 hq rfl rfl rfl hb) ?_
      refine h_val rfl (.int .i64 y) (fun b w hb hH => exec_orI hy rfl rfl rfl hb) ?_
      refine h_q hflS rfl ?_
      refine h_nil (f_block (f_to (d_reg1 ?_)))
      refine h_q hflS rfl ?_
      refine h_val rfl (.int .i64 ((i + 1 : Nat) : Int)) (fun b w hb hH => exec_ar rfl rfl rfl rfl (by rw [IntWalk.i64_in _ (by omega)]; omega) hb) ?_
      refine h_q hflS rfl ?_
      refine h_nil ?_
      exact f_again (i + 1, y) 0 ⟨show i + 1 ≤ l.length by omega, hw⟩ (show l.length - (i + 1) < l.length - i by omega) ⟨rfl, rfl, rfl, rfl, rfl, rfl, trivial⟩ rfl
    · skip
      have hm : may z x = false := by cases h9 : may z x with
      | false => rfl
      | true => exact absurd (may_iff.1 h9).2 hx7
      have hxl := List.mem_of_getElem? hx
      obtain rfl : R = (0, 1) := by rw [← hR]; unfold setM; rw [if_neg (fun h9 => hx7 (okN_iff.1 (List.all_eq_true.1 h9 x hxl)))]
      refine d_reg ?_
      refine h_q hflS rfl ?_
      refine h_act (post := fun _ => [X]) rfl (a_call (ent_of Try.func33 (by kernel_rfl) rfl) (fun w hH => may_any w z hzi x false hm) rfl rfl rfl) ?_; rintro ⟨⟩
      refine h_q hflS rfl ?_
      refine h_done (d_then rfl (d_reg ?_))
      refine h_q hflS rfl ?_
      refine h_done (d_ret (f_then_ret (f_block_ret (f_then_ret (f_then_ret (f_block_ret (f_then_ret ?_)))))))
      exact f_fin2 (.tmp rfl) (.tmp rfl) (fun w h => tells (X := Unit) () rfl [0] rfl h same_parts) rfl
  · skip
    have hle : i = l.length := by omega
    rw [hle, List.take_length] at hI2
    obtain rfl : R = (z, 0) := by rw [← hR, hI2.set]; rfl
    refine d_reg ?_
    refine h_q hflS rfl ?_
    refine h_val rfl (.bool false) (fun b w hb hH => exec_cmp rfl rfl rfl (cmp_lss_f (by omega)) hb) ?_
    refine h_done (d_seq (d_else rfl (d_exit (f_then_exit (f_then_exit (f_block_exit (f_to (d_reg ?_))))))))
    refine h_q hflS rfl ?_
    refine h_done (d_ret ?_)
    exact f_fin2 (.tmp rfl) (.tmp rfl) (fun w h => tells (X := Unit) () rfl [0] rfl h same_parts) rfl

set_option maxHeartbeats 1000000 in
set_option maxRecDepth 100000 in
theorem of_true (w : World) (A : Option Addr) (c : Nat) (l : List Int) (is : Bool) (hl : SlRd w 1 (.slice A l.length c) l.length (flat encI l)) (hll : l.length ≤ 9223372036854775807) (hc : l.length ≤ c) (ho : ∀ y ∈ l, -9223372036854775808 ≤ y ∧ y ≤ 9223372036854775807) : Calls Try.prog 5 #[.slice A l.length c, .bool is] w fun e w' => e = .returned (.bool true) ∧ Below w.heap.size w w' := by
  obtain ⟨l2, hl2e⟩ : ∃ l2, l.take 20 = l2 := ⟨_, rfl⟩
  have hlen2 : l2.length = min 20 l.length := by rw [← hl2e, List.length_take]
  have hmn : (if (20 : Int) < (l.length : Int) then 20 else (l.length : Int)) = (l2.length : Int) := by split <;> omega
  have hl2 : SlRd w 1 (.slice A l2.length c) l2.length (flat encI l2) := by
    have h := SlRd.head okI (j := l2.length) (by omega) hl
    have e : l.take l2.length = l2 := by rw [hlen2, ← hl2e]; simp [List.take_eq_take_iff]
    rwa [e] at h
  have ho2 : ∀ y ∈ l2, -9223372036854775808 ≤ y ∧ y ≤ 9223372036854775807 := fun y hy => ho y (by rw [← hl2e] at hy; exact List.mem_of_mem_take hy)
  refine d_in (args := [.slice A l.length c, .bool is]) 124 Try.func5 rfl rfl rfl ?_
  refine d_reg ?_
  refine h_q hflS rfl ?_
  refine h_done (d_reg ?_)
  refine h_q hflS rfl ?_
  refine h_act (X := Value) (val := fun v : Value => v) (post := fun u1 => [Vec 3 1 encI u1 ([])]) rfl (by refine a_build0 (e := 3) (t := 34) (k := 1) (enc := encI) ?_ ?_; exact sl_int; exact rfl) ?_; rintro u1
  refine h_q hflS rfl ?_
  refine h_val rfl (.int .i64 (l.length : Int)) (fun b w hb hH => e_slen (arg_rd hl hH) Try.underlying34 rfl rfl hb) ?_
  refine h_val rfl (.int .i64 (l2.length : Int)) (fun b w hb hH => exec_builtin2 rfl rfl (fun cs => (fun w cs => run_min2 hmn _ _ w cs) w cs) hb) ?_
  refine h_val rfl (.slice A l2.length c) (fun b w hb hH => e_sub_hi (j := l2.length) sl_int subv_head (by omega) rfl rfl rfl hH hb) ?_
  refine h_act (post := fun u9 => [Vec 3 1 encI u9 l2]) rfl (a_append 0 sl_int okI rfl (l2) (fun w hH => arg_rd hl2 hH) (by simp; omega) rfl rfl rfl (List.nil_append _)) ?_; rintro u9
  refine h_q hflS rfl ?_
  refine h_done (d_reg ?_)
  refine h_q hflS rfl ?_
  refine h_done (d_reg ?_)
  refine h_q hflS rfl ?_
  refine h_done (d_seq (d_reg ?_))
  refine h_q hflS rfl ?_
  refine h_done (d_block ?_)
  refine d_loop (α := Nat × List Int × Int × Bool) (fun ⟨i, L, z, d⟩ => [(1, .bool is), (4, .bool false), (0, u9), (5, .int .i64 z), (6, .bool d), (7, .int .i64 ((i : Nat) : Int))]) (fun ⟨i, L, z, d⟩ => [Vec 3 1 encI u9 L]) (fun ⟨i, L, z, d⟩ => i ≤ L.length ∧ L.length ≤ 20 ∧ (∀ y ∈ L, -9223372036854775808 ≤ y ∧ y ≤ 9223372036854775807) ∧ Wt (L.take i) z d) (fun ⟨i, L, z, d⟩ => L.length - i) (0, l2, 0, false) ⟨(Nat.zero_le _), (show l2.length ≤ 20 by omega), ho2, Wt.nil⟩ ⟨rfl, rfl, rfl, rfl, rfl, rfl, trivial⟩ rfl ?_
  rintro ⟨i, L, z, d⟩ hI
  refine WC2.at_ (env' := [(1, .bool is), (4, .bool false), (0, u9), (5, .int .i64 z), (6, .bool d), (7, .int .i64 ((i : Nat) : Int))]) (rs' := [Vec 3 1 encI u9 L]) ⟨rfl, rfl, rfl, rfl, rfl, rfl, trivial⟩ rfl ?_
  have hI1 : i ≤ L.length := hI.1
  have hI2 : L.length ≤ 20 := hI.2.1
  have hI3 : ∀ y ∈ L, -9223372036854775808 ≤ y ∧ y ≤ 9223372036854775807 := hI.2.2.1
  have hI4 : Wt (L.take i) z d := hI.2.2.2
  refine d_seq ?_
  rcases Nat.lt_or_ge i L.length with hn | hn
  · skip
    obtain ⟨x, hx⟩ : ∃ x, L[i]? = some x := ⟨_, List.getElem?_eq_getElem hn⟩
    refine d_reg ?_
    refine h_q hflS rfl ?_
    refine h_val rfl (.int .i64 (L.length : Int)) (fun b w hb hH => e_vlen 0 Try.underlying34 rfl rfl rfl hH hb) ?_
    refine h_val rfl (.bool true) (fun b w hb hH => exec_cmp rfl rfl rfl (cmp_lss_t (by omega)) hb) ?_
    refine h_done (d_then rfl (d_skip (f_to (d_seq (d_block (d_seq ?_))))))
    cases is
    · skip
      refine d_reg ?_
      refine h_q hflS rfl ?_
      refine h_done (d_else rfl (d_skip (f_to ?_)))
      have hcs : x < 1 ∨ (1 ≤ x ∧ 7 < x) ∨ (1 ≤ x ∧ x ≤ 7) := by omega
      rcases hcs with h1 | ⟨h1, h2⟩ | hx7
      · skip
        have hw := hI4.bad (.inl h1)
        refine d_reg ?_
        refine h_q hflS rfl ?_
        refine h_val rfl (elp u9 (i * 1)) (fun b w hb hH => e_vidx 0 sl_int okI rfl i hn rfl rfl rfl hH hb) ?_
        refine h_val rfl (.int .i64 x) (fun b w hb hH => e_vload1 0 ty_int okI rfl i (a := x) hx rfl rfl rfl hH hb) ?_
        refine h_val rfl (.bool true) (fun b w hb hH => exec_cmp rfl rfl rfl (cmp_lss_t (by omega)) hb) ?_
        refine h_q hflS rfl ?_
        refine h_done (d_then rfl (d_reg1 ?_))
        refine h_q hflS rfl ?_
        refine h_nil (f_block (f_to (d_reg1 ?_)))
        refine h_q hflS rfl ?_
        refine h_val rfl (.int .i64 ((i + 1 : Nat) : Int)) (fun b w hb hH => exec_ar rfl rfl rfl rfl (by rw [IntWalk.i64_in _ (by omega)]; omega) hb) ?_
        refine h_q hflS rfl ?_
        refine h_nil ?_
        exact f_again (i + 1, L, z, true) 0 ⟨show i + 1 ≤ (L).length by omega, by show (L).length ≤ 20; omega, hI3, by show Wt (List.take (i + 1) (L)) z true; rw [take_snoc hx]; exact hw⟩ (show (L).length - (i + 1) < L.length - i by omega) ⟨rfl, rfl, rfl, rfl, rfl, rfl, trivial⟩ rfl
      · skip
        have hw := hI4.bad (.inr h2)
        refine d_reg ?_
        refine h_q hflS rfl ?_
        refine h_val rfl (elp u9 (i * 1)) (fun b w hb hH => e_vidx 0 sl_int okI rfl i hn rfl rfl rfl hH hb) ?_
        refine h_val rfl (.int .i64 x) (fun b w hb hH => e_vload1 0 ty_int okI rfl i (a := x) hx rfl rfl rfl hH hb) ?_
        refine h_val rfl (.bool false) (fun b w hb hH => exec_cmp rfl rfl rfl (cmp_lss_f (by omega)) hb) ?_
        refine h_q hflS rfl ?_
        refine h_val rfl (elp u9 (i * 1)) (fun b w hb hH => e_vidx 0 sl_int okI rfl i hn rfl rfl rfl hH hb) ?_
        refine h_val rfl (.int .i64 x) (fun b w hb hH => e_vload1 0 ty_int okI rfl i (a := x) hx rfl rfl rfl hH hb) ?_
        refine h_val rfl (.bool true) (fun b w hb hH => exec_cmp rfl rfl rfl (cmp_gtr_t (by omega)) hb) ?_
        refine h_q hflS rfl ?_
        refine h_done (d_then rfl (d_reg1 ?_))
        refine h_q hflS rfl ?_
        refine h_nil (f_block (f_to (d_reg1 ?_)))
        refine h_q hflS rfl ?_
        refine h_val rfl (.int .i64 ((i + 1 : Nat) : Int)) (fun b w hb hH => exec_ar rfl rfl rfl rfl (by rw [IntWalk.i64_in _ (by omega)]; omega) hb) ?_
        refine h_q hflS rfl ?_
        refine h_nil ?_
        exact f_again (i + 1, L, z, true) 0 ⟨show i + 1 ≤ (L).length by omega, by show (L).length ≤ 20; omega, hI3, by show Wt (List.take (i + 1) (L)) z true; rw [take_snoc hx]; exact hw⟩ (show (L).length - (i + 1) < L.length - i by omega) ⟨rfl, rfl, rfl, rfl, rfl, rfl, trivial⟩ rfl
      · skip
        obtain ⟨q, hq⟩ : ∃ q, (2 : Int) ^ (x).toNat = q := ⟨_, rfl⟩
        obtain ⟨y, hy⟩ : ∃ y, bits .or .i64 z q = y := ⟨_, rfl⟩
        have hw := hI4.good hx7 hq hy
        refine d_reg ?_
        refine h_q hflS rfl ?_
        refine h_val rfl (elp u9 (i * 1)) (fun b w hb hH => e_vidx 0 sl_int okI rfl i hn rfl rfl rfl hH hb) ?_
        refine h_val rfl (.int .i64 x) (fun b w hb hH => e_vload1 0 ty_int okI rfl i (a := x) hx rfl rfl rfl hH hb) ?_
        refine h_val rfl (.bool false) (fun b w hb hH => exec_cmp rfl rfl rfl (cmp_lss_f (by omega)) hb) ?_
        refine h_q hflS rfl ?_
        refine h_val rfl (elp u9 (i * 1)) (fun b w hb hH => e_vidx 0 sl_int okI rfl i hn rfl rfl rfl hH hb) ?_
        refine h_val rfl (.int .i64 x) (fun b w hb hH => e_vload1 0 ty_int okI rfl i (a := x) hx rfl rfl rfl hH hb) ?_
        refine h_val rfl (.bool false) (fun b w hb hH => exec_cmp rfl rfl rfl (cmp_gtr_f (by omega)) hb) ?_
        refine h_q hflS rfl ?_
        refine h_done (d_else rfl (d_reg1 ?_))
        refine h_q hflS rfl ?_
        refine h_val rfl (elp u9 (i * 1)) (fun b w hb hH => e_vidx 0 sl_int okI rfl i hn rfl rfl rfl hH hb) ?_
        refine h_val rfl (.int .i64 x) (fun b w hb hH => e_vload1 0 ty_int okI rfl i (a := x) hx rfl rfl rfl hH hb) ?_
        refine h_val rfl (.int .u64 x) (fun b w hb hH => exec_conv Try.underlying3 Try.underlying39 (IntWalk.u64_in _ (by omega)) rfl rfl hb) ?_
        refine h_val rfl (.int .i64 q) (fun b w hb hH => exec_shl7 hx7 hq rfl rfl rfl hb) ?_
        refine h_val rfl (.int .i64 y) (fun b w hb hH => exec_orI hy rfl rfl rfl hb) ?_
        refine h_q hflS rfl ?_
        refine h_nil (f_block (f_to (d_reg1 ?_)))
        refine h_q hflS rfl ?_
        refine h_val rfl (.int .i64 ((i + 1 : Nat) : Int)) (fun b w hb hH => exec_ar rfl rfl rfl rfl (by rw [IntWalk.i64_in _ (by omega)]; omega) hb) ?_
        refine h_q hflS rfl ?_
        refine h_nil ?_
        exact f_again (i + 1, L, y, d) 0 ⟨show i + 1 ≤ (L).length by omega, by show (L).length ≤ 20; omega, hI3, by show Wt (List.take (i + 1) (L)) y d; rw [take_snoc hx]; exact hw⟩ (show (L).length - (i + 1) < L.length - i by omega) ⟨rfl, rfl, rfl, rfl, rfl, rfl, trivial⟩ rfl
    · skip
      obtain ⟨q7, hq7⟩ : ∃ q, x % 7 = q := ⟨_, rfl⟩
      obtain ⟨e, he⟩ : ∃ e, 1 + q7 = e := ⟨_, rfl⟩
      have hx7 : 1 ≤ e ∧ e ≤ 7 := by omega
      have hxo := hI3 x (List.mem_of_getElem? hx)
      have hxs : (L.set i e)[i]? = some e := List.getElem?_set_self hn
      obtain ⟨q, hq⟩ : ∃ q, (2 : Int) ^ (e).toNat = q := ⟨_, rfl⟩
      obtain ⟨y, hy⟩ : ∃ y, bits .or .i64 z q = y := ⟨_, rfl⟩
      have hw := hI4.good hx7 hq hy
      refine d_reg ?_
      refine h_q hflS rfl ?_
      refine h_done (d_then rfl (d_reg1 ?_))
      refine h_q hflS rfl ?_
      refine h_val rfl (elp u9 (i * 1)) (fun b w hb hH => e_vidx 0 sl_int okI rfl i hn rfl rfl rfl hH hb) ?_
      refine h_val rfl (.int .i64 x) (fun b w hb hH => e_vload1 0 ty_int okI rfl i (a := x) hx rfl rfl rfl hH hb) ?_
      refine h_act (post := fun _ => [Vec 3 1 encI u9 L]) rfl (a_call (ent_of Try.func19 (by kernel_rfl) rfl) (fun w hH => pick w x 7 hxo (by decide) hq7) rfl rfl rfl) ?_; rintro ⟨⟩
      refine h_val rfl (.int .i64 e) (fun b w hb hH => exec_ar rfl rfl rfl rfl ((IntWalk.i64_in _ (by omega)).trans he) hb) ?_
      refine h_val rfl (elp u9 (i * 1)) (fun b w hb hH => e_vidx 0 sl_int okI rfl i hn rfl rfl rfl hH hb) ?_
      refine h_acts (post := fun _ => [Vec 3 1 encI u9 (L.set i e)]) rfl rfl (a_vstore1 0 ty_int okI rfl i (by omega) e rfl rfl rfl rfl rfl) ?_; rintro ⟨⟩
      refine h_nil (f_to (d_reg ?_))
      refine h_q hflS rfl ?_
      refine h_val rfl (elp u9 (i * 1)) (fun b w hb hH => e_vidx 0 sl_int okI rfl i (by rw [List.length_set]; exact hn) rfl rfl rfl hH hb) ?_
      refine h_val rfl (.int .i64 e) (fun b w hb hH => e_vload1 0 ty_int okI rfl i (a := e) hxs rfl rfl rfl hH hb) ?_
      refine h_val rfl (.bool false) (fun b w hb hH => exec_cmp rfl rfl rfl (cmp_lss_f (by omega)) hb) ?_
      refine h_q hflS rfl ?_
      refine h_val rfl (elp u9 (i * 1)) (fun b w hb hH => e_vidx 0 sl_int okI rfl i (by rw [List.length_set]; exact hn) rfl rfl rfl hH hb) ?_
      refine h_val rfl (.int .i64 e) (fun b w hb hH => e_vload1 0 ty_int okI rfl i (a := e) hxs rfl rfl rfl hH hb) ?_
      refine h_val rfl (.bool false) (fun b w hb hH => exec_cmp rfl rfl rfl (cmp_gtr_f (by omega)) hb) ?_
      refine h_q hflS rfl ?_
      refine h_done (d_else rfl (d_reg1 ?_))
      refine h_q hflS rfl ?_
      refine h_val rfl (elp u9 (i * 1)) (fun b w hb hH => e_vidx 0 sl_int okI rfl i (by rw [List.length_set]; exact hn) rfl rfl rfl hH hb) ?_
      refine h_val rfl (.int .i64 e) (fun b w hb hH => e_vload1 0 ty_int okI rfl i (a := e) hxs rfl rfl rfl hH hb) ?_
      refine h_val rfl (.int .u64 e) (fun b w hb hH => exec_conv Try.underlying3 Try.underlying39 (IntWalk.u64_in _ (by omega)) rfl rfl hb) ?_
      refine h_val rfl (.int .i64 q) (fun b w hb hH => exec_shl7 hx7 hq rfl rfl rfl hb) ?_
      refine h_val rfl (.int .i64 y) (fun b w hb hH => exec_orI hy rfl rfl rfl hb) ?_
      refine h_q hflS rfl ?_
      refine h_nil (f_block (f_to (d_reg1 ?_)))
      refine h_q hflS rfl ?_
      refine h_val rfl (.int .i64 ((i + 1 : Nat) : Int)) (fun b w hb hH => exec_ar rfl rfl rfl rfl (by rw [IntWalk.i64_in _ (by omega)]; omega) hb) ?_
      refine h_q hflS rfl ?_
      refine h_nil ?_
      exact f_again (i + 1, L.set i e, y, d) 0 ⟨show i + 1 ≤ (L.set i e).length by rw [List.length_set]; omega, by show (L.set i e).length ≤ 20; rw [List.length_set]; omega, fun y hy => (List.mem_or_eq_of_mem_set hy).elim (hI3 y) (fun e => by rw [e]; omega), by show Wt (List.take (i + 1) (L.set i e)) y d; rw [set_take hn]; exact hw⟩ (show (L.set i e).length - (i + 1) < L.length - i by rw [List.length_set]; omega) ⟨rfl, rfl, rfl, rfl, rfl, rfl, trivial⟩ rfl
  · skip
    have hle : i = L.length := by omega
    rw [hle, List.take_length] at hI4
    have hset0 := hI4.set
    refine d_reg ?_
    refine h_q hflS rfl ?_
    refine h_val rfl (.int .i64 (L.length : Int)) (fun b w hb hH => e_vlen 0 Try.underlying34 rfl rfl rfl hH hb) ?_
    refine h_val rfl (.bool false) (fun b w hb hH => exec_cmp rfl rfl rfl (cmp_lss_f (by omega)) hb) ?_
    refine h_done (d_else rfl (d_exit (f_then_exit (f_then_exit (f_block_exit (f_to ?_))))))
    cases d
    · skip
      have hset : setM L = (z, 0) := hset0
      refine WC2.fact 0 rfl (fun _ h => Vec.is h) ?_; rintro ⟨A9, c9, rfl⟩
      refine WC2.keep (env' := [(1, .bool is), (4, .bool false), (0, .slice A9 L.length c9), (5, .int .i64 z), (6, .bool false), (7, .int .i64 ((i : Nat) : Int)), (20, .int .i64 ((i : Nat) : Int)), (21, .slice A9 L.length c9), (22, .int .i64 (L.length : Int)), (23, .bool false)]) ⟨rfl, rfl, rfl, rfl, rfl, rfl, rfl, rfl, rfl, rfl, trivial⟩ ?_
      refine WC2.mid [Vec 3 1 encI (.slice A9 L.length c9) L] (.refl _) ?_
      refine d_reg ?_
      refine h_q hflS rfl ?_
      refine h_act (post := fun _ => [Vec 3 1 encI (.slice A9 L.length c9) L]) rfl (a_does (os' := fun _ => [Vec 3 1 encI (.slice A9 L.length c9) L]) [0] 0 (ent_of Try.func12 (by kernel_rfl) rfl) (set_any (Vec 3 1 encI (.slice A9 L.length c9) L) (.slice A9 L.length c9) L (fun rs w h1 h2 => h1.all okI h2) (by omega) (z, 0) hset) rfl rfl rfl (fun _ => rfl) rfl rfl rfl) ?_; rintro ⟨⟩
      refine h_q hflS rfl ?_
      refine h_done (d_seq (d_reg ?_))
      refine h_q hflS rfl ?_
      refine h_done (d_else rfl (d_skip (f_to (d_seq (d_reg ?_)))))
      refine h_q hflS rfl ?_
      refine h_done (d_block ?_)
      refine d_loop (α := Nat × List Int) (fun ⟨k, L2⟩ => [(4, .bool false), (0, .slice A9 L.length c9), (5, .int .i64 z), (8, .int .i64 z), (9, .int .i64 0), (10, .int .i64 ((k : Nat) : Int))]) (fun ⟨k, L2⟩ => [Vec 3 1 encI (.slice A9 L.length c9) L2]) (fun ⟨k, L2⟩ => L2.length = L.length ∧ ∀ y, y ∈ L2 ↔ y ∈ L) (fun ⟨k, L2⟩ => 20 - k) (0, L) ⟨rfl, fun _ => Iff.rfl⟩ ⟨rfl, rfl, rfl, rfl, rfl, rfl, trivial⟩ rfl ?_
      rintro ⟨k, L2⟩ hJ
      refine WC2.at_ (env' := [(4, .bool false), (0, .slice A9 L.length c9), (5, .int .i64 z), (8, .int .i64 z), (9, .int .i64 0), (10, .int .i64 ((k : Nat) : Int))]) (rs' := [Vec 3 1 encI (.slice A9 L.length c9) L2]) ⟨rfl, rfl, rfl, rfl, rfl, rfl, trivial⟩ rfl ?_
      have hJ1 : L2.length = L.length := hJ.1
      have hJ2 : ∀ y, y ∈ L2 ↔ y ∈ L := hJ.2
      refine d_seq ?_
      rcases Nat.lt_or_ge k (L2.length / 2) with hk | hk
      · skip
        obtain ⟨j, hj⟩ : ∃ j, k + j + 1 = L2.length := ⟨L2.length - 1 - k, by omega⟩
        obtain ⟨xi, hxi⟩ : ∃ x, L2[k]? = some x := ⟨_, List.getElem?_eq_getElem (by omega)⟩
        obtain ⟨xj, hxj⟩ : ∃ x, L2[j]? = some x := ⟨_, List.getElem?_eq_getElem (by omega)⟩
        have hki : k < L2.length := by omega
        have hji : j < L2.length := by omega
        have hmem := fun y => (swap_mem (by omega) hxi hxj y).trans (hJ2 y)
        refine d_reg ?_
        refine h_q hflS rfl ?_
        refine h_val rfl (.int .i64 (L.length : Int)) (fun b w hb hH => e_len sl_int rfl rfl hH hb) ?_
        refine h_val rfl (.int .i64 ((L.length / 2 : Nat) : Int)) (fun b w hb hH => exec_quoI8 (by decide) (by rw [Int.tdiv_eq_ediv_of_nonneg (by omega), IntWalk.i64_in _ (by omega)]; omega) rfl rfl rfl hb) ?_
        refine h_val rfl (.bool true) (fun b w hb hH => exec_cmp rfl rfl rfl (cmp_lss_t (by omega)) hb) ?_
        refine h_done (d_then rfl (d_skip (f_to (d_seq (d_block ?_)))))
        refine d_parS 23 6 [⟨.quiet, [none, none, none, none, none, none], fun _ => .slice A9 L.length c9, []⟩, ⟨.quiet, [none, none, none, none, none, none], fun _ => .int .i64 ((k : Nat) : Int), []⟩, ⟨.quiet, [none, none, none, none, none, none], fun _ => .slice A9 L.length c9, []⟩, ⟨.quiet, [none, none, none, none, none, none], fun _ => .slice A9 L.length c9, []⟩, ⟨.quiet, [none, none, none, none, none, none], fun _ => .int .i64 (L.length : Int), [3]⟩, ⟨.quiet, [none, none, none, none, none, none], fun _ => .int .i64 ((L.length : Int) - 1), [4]⟩, ⟨.quiet, [none, none, none, none, none, none], fun _ => .int .i64 ((k : Nat) : Int), []⟩, ⟨.quiet, [none, none, none, none, none, none], fun _ => .int .i64 (j : Int), [5, 6]⟩, ⟨.quiet, [none, none, none, none, none, none], fun _ => .slice A9 L.length c9, []⟩, ⟨.quiet, [none, none, none, none, none, none], fun _ => .slice A9 L.length c9, []⟩, ⟨.quiet, [none, none, none, none, none, none], fun _ => .int .i64 (L.length : Int), [9]⟩, ⟨.quiet, [none, none, none, none, none, none], fun _ => .int .i64 ((L.length : Int) - 1), [10]⟩, ⟨.quiet, [none, none, none, none, none, none], fun _ => .int .i64 ((k : Nat) : Int), []⟩, ⟨.quiet, [none, none, none, none, none, none], fun _ => .int .i64 (j : Int), [11, 12]⟩, ⟨.actv 0, [some false, some false, none, none, some false, some false], fun _ => elp (.slice A9 L.length c9) (j * 1), [8, 13]⟩, ⟨.actv 1, [some true, some false, none, none, some false, some false], fun _ => .int .i64 xj, [14]⟩, ⟨.quiet, [none, none, none, none, none, none], fun _ => .slice A9 L.length c9, []⟩, ⟨.quiet, [none, none, none, none, none, none], fun _ => .int .i64 ((k : Nat) : Int), []⟩, ⟨.actv 2, [none, none, some false, some false, some false, some false], fun _ => elp (.slice A9 L.length c9) (k * 1), [16, 17]⟩, ⟨.actv 3, [none, none, some true, some false, some false, some false], fun _ => .int .i64 xi, [18]⟩, ⟨.actv 4, [some true, some true, some true, some true, some false, some false], fun _ => elp (.slice A9 L.length c9) (k * 1), [0, 1]⟩, ⟨.actv 5, [some true, some true, some true, some true, some true, some false], fun _ => undef, [20, 15]⟩, ⟨.quiet, [some true, some true, some true, some true, some true, some true], fun _ => elp (.slice A9 L.length c9) (j * 1), [2, 7]⟩] [(4, .bool false), (0, .slice A9 L.length c9), (5, .int .i64 z), (8, .int .i64 z), (9, .int .i64 0), (10, .int .i64 ((k : Nat) : Int)), (71, .int .i64 ((k : Nat) : Int)), (72, .slice A9 L.length c9), (73, .int .i64 (L.length : Int)), (74, .int .i64 ((L.length / 2 : Nat) : Int)), (75, .bool true)] (fun ρ => match ρ with | [rq0, rq1, rq2, rq3, rq4, rq5] => [selS rq5 (fun _ => Vec 3 1 encI (.slice A9 L.length c9) (L2.set k xj)) (Vec 3 1 encI (.slice A9 L.length c9) L2)] | _ => []) (by kernel_rfl) (by kernel_rfl) ⟨rfl, rfl, rfl, rfl, rfl, rfl, rfl, rfl, rfl, rfl, rfl, trivial⟩ rfl ?_ ?_
        · skip
          refine s_cons (by intro r0_ r1_ r2_ r3_ r4_ r5_; exact ⟨rfl, fun b w hH hb => exec_q1 hflS rfl hb⟩) ?_
          refine s_cons (by intro r0_ r1_ r2_ r3_ r4_ r5_; exact ⟨rfl, fun b w hH hb => exec_q1 hflS rfl hb⟩) ?_
          refine s_cons (by intro r0_ r1_ r2_ r3_ r4_ r5_; exact ⟨rfl, fun b w hH hb => exec_q1 hflS rfl hb⟩) ?_
          refine s_cons (by intro r0_ r1_ r2_ r3_ r4_ r5_; exact ⟨rfl, fun b w hH hb => exec_q1 hflS rfl hb⟩) ?_
          refine s_cons (by intro r0_ r1_ r2_ r3_ r4_ r5_; exact ⟨rfl, fun b w hH hb => e_len sl_int rfl rfl hH hb⟩) ?_
          refine s_cons (by intro r0_ r1_ r2_ r3_ r4_ r5_; exact ⟨rfl, fun b w hH hb => exec_ar rfl rfl rfl rfl (IntWalk.i64_in _ (by omega)) hb⟩) ?_
          refine s_cons (by intro r0_ r1_ r2_ r3_ r4_ r5_; exact ⟨rfl, fun b w hH hb => exec_q1 hflS rfl hb⟩) ?_
          refine s_cons (by intro r0_ r1_ r2_ r3_ r4_ r5_; exact ⟨rfl, fun b w hH hb => exec_ar rfl rfl rfl rfl ((IntWalk.i64_in _ (by omega)).trans (by omega)) hb⟩) ?_
          refine s_cons (by intro r0_ r1_ r2_ r3_ r4_ r5_; exact ⟨rfl, fun b w hH hb => exec_q1 hflS rfl hb⟩) ?_
          refine s_cons (by intro r0_ r1_ r2_ r3_ r4_ r5_; exact ⟨rfl, fun b w hH hb => exec_q1 hflS rfl hb⟩) ?_
          refine s_cons (by intro r0_ r1_ r2_ r3_ r4_ r5_; exact ⟨rfl, fun b w hH hb => e_len sl_int rfl rfl hH hb⟩) ?_
          refine s_cons (by intro r0_ r1_ r2_ r3_ r4_ r5_; exact ⟨rfl, fun b w hH hb => exec_ar rfl rfl rfl rfl (IntWalk.i64_in _ (by omega)) hb⟩) ?_
          refine s_cons (by intro r0_ r1_ r2_ r3_ r4_ r5_; exact ⟨rfl, fun b w hH hb => exec_q1 hflS rfl hb⟩) ?_
          refine s_cons (by intro r0_ r1_ r2_ r3_ r4_ r5_; exact ⟨rfl, fun b w hH hb => exec_ar rfl rfl rfl rfl ((IntWalk.i64_in _ (by omega)).trans (by omega)) hb⟩) ?_
          refine s_cons (by intro r2_ r3_; exact ⟨rfl, Acts.su (a_quiet (elp (.slice A9 L.length c9) (j * 1)) (fun b w hH hb => e_vidx 0 sl_int okI rfl j hji rfl rfl rfl hH hb)) rfl⟩) ?_
          refine s_cons (by intro v0_ r2_ r3_; exact ⟨rfl, Acts.su (a_quiet (.int .i64 xj) (fun b w hH hb => e_vload1 0 ty_int okI rfl j (a := xj) hxj rfl rfl rfl hH hb)) rfl⟩) ?_
          refine s_cons (by intro r0_ r1_ r2_ r3_ r4_ r5_; exact ⟨rfl, fun b w hH hb => exec_q1 hflS rfl hb⟩) ?_
          refine s_cons (by intro r0_ r1_ r2_ r3_ r4_ r5_; exact ⟨rfl, fun b w hH hb => exec_q1 hflS rfl hb⟩) ?_
          refine s_cons (by intro r0_ r1_; exact ⟨rfl, Acts.su (a_quiet (elp (.slice A9 L.length c9) (k * 1)) (fun b w hH hb => e_vidx 0 sl_int okI rfl k hki rfl rfl rfl hH hb)) rfl⟩) ?_
          refine s_cons (by intro r0_ r1_ v2_; exact ⟨rfl, Acts.su (a_quiet (.int .i64 xi) (fun b w hH hb => e_vload1 0 ty_int okI rfl k (a := xi) hxi rfl rfl rfl hH hb)) rfl⟩) ?_
          refine s_cons (by intro v0_ v1_ v2_ v3_; exact ⟨rfl, Acts.su (a_quiet (elp (.slice A9 L.length c9) (k * 1)) (fun b w hH hb => e_vidx 0 sl_int okI rfl k hki rfl rfl rfl hH hb)) rfl⟩) ?_
          refine s_cons (by intro v0_ v1_ v2_ v3_ v4_; exact ⟨rfl, Acts.su (a_vstore1 0 ty_int okI rfl k (by omega) xj rfl rfl rfl rfl rfl) rfl⟩) ?_
          refine s_cons (by intro v0_ v1_ v2_ v3_ v4_ v5_; exact ⟨rfl, fun b w hH hb => e_vidx 0 sl_int okI rfl j (by rw [List.length_set]; exact hji) rfl rfl rfl hH hb⟩) ?_
          exact s_nil
        intro v0_ v1_ v2_ v3_ v4_ v5_
        refine WL2.keep (env' := [(4, .bool false), (0, .slice A9 L.length c9), (5, .int .i64 z), (8, .int .i64 z), (9, .int .i64 0), (10, .int .i64 ((k : Nat) : Int)), (71, .int .i64 ((k : Nat) : Int)), (72, .slice A9 L.length c9), (73, .int .i64 (L.length : Int)), (74, .int .i64 ((L.length / 2 : Nat) : Int)), (75, .bool true), (78, .slice A9 L.length c9), (79, .int .i64 ((k : Nat) : Int)), (80, .slice A9 L.length c9), (81, .slice A9 L.length c9), (82, .int .i64 (L.length : Int)), (83, .int .i64 ((L.length : Int) - 1)), (84, .int .i64 ((k : Nat) : Int)), (85, .int .i64 (j : Int)), (86, .slice A9 L.length c9), (87, .slice A9 L.length c9), (88, .int .i64 (L.length : Int)), (89, .int .i64 ((L.length : Int) - 1)), (90, .int .i64 ((k : Nat) : Int)), (91, .int .i64 (j : Int)), (92, elp (.slice A9 L.length c9) (j * 1)), (93, .int .i64 xj), (94, .slice A9 L.length c9), (95, .int .i64 ((k : Nat) : Int)), (96, elp (.slice A9 L.length c9) (k * 1)), (97, .int .i64 xi), (98, elp (.slice A9 L.length c9) (k * 1)), (99, elp (.slice A9 L.length c9) (j * 1))]) ⟨rfl, rfl, rfl, rfl, rfl, rfl, rfl, rfl, rfl, rfl, rfl, rfl, rfl, rfl, rfl, rfl, rfl, rfl, rfl, rfl, rfl, rfl, rfl, rfl, rfl, rfl, rfl, rfl, rfl, rfl, rfl, rfl, rfl, trivial⟩ ?_
        refine h_q hflS rfl ?_
        refine h_acts (post := fun _ => [Vec 3 1 encI (.slice A9 L.length c9) ((L2.set k xj).set j xi)]) rfl rfl (a_vstore1 0 ty_int okI rfl j (by rw [List.length_set]; omega) xi rfl rfl rfl rfl rfl) ?_; rintro ⟨⟩
        refine h_nil (f_block (f_to (d_reg1 ?_)))
        refine h_q hflS rfl ?_
        refine h_val rfl (.int .i64 ((k + 1 : Nat) : Int)) (fun b w hb hH => exec_ar rfl rfl rfl rfl (by rw [IntWalk.i64_in _ (by omega)]; omega) hb) ?_
        refine h_q hflS rfl ?_
        refine h_nil ?_
        exact f_again (k + 1, (L2.set k xj).set j xi) 0 ⟨by show ((L2.set k xj).set j xi).length = L.length; rw [List.length_set, List.length_set]; exact hJ1, hmem⟩ (show 20 - (k + 1) < 20 - k by omega) ⟨rfl, rfl, rfl, rfl, rfl, rfl, trivial⟩ rfl
      · skip
        have hset2 := (setM_mem hJ2).trans hset
        refine d_reg ?_
        refine h_q hflS rfl ?_
        refine h_val rfl (.int .i64 (L.length : Int)) (fun b w hb hH => e_len sl_int rfl rfl hH hb) ?_
        refine h_val rfl (.int .i64 ((L.length / 2 : Nat) : Int)) (fun b w hb hH => exec_quoI8 (by decide) (by rw [Int.tdiv_eq_ediv_of_nonneg (by omega), IntWalk.i64_in _ (by omega)]; omega) rfl rfl rfl hb) ?_
        refine h_val rfl (.bool false) (fun b w hb hH => exec_cmp rfl rfl rfl (cmp_lss_f (by omega)) hb) ?_
        refine h_done (d_else rfl (d_exit (f_then_exit (f_then_exit (f_block_exit (f_to (d_reg ?_)))))))
        refine h_q hflS rfl ?_
        refine h_act (post := fun _ => [Vec 3 1 encI (.slice A9 L.length c9) L2]) rfl (a_does (os' := fun _ => [Vec 3 1 encI (.slice A9 L.length c9) L2]) [0] 0 (ent_of Try.func12 (by kernel_rfl) rfl) (set_any (Vec 3 1 encI (.slice A9 L.length c9) L2) (.slice A9 L.length c9) L2 (fun rs w h1 h2 => h1.all okI h2) (by omega) (z, 0) hset2) rfl rfl rfl (fun _ => rfl) rfl rfl rfl) ?_; rintro ⟨⟩
        refine h_q hflS rfl ?_
        refine h_done (d_reg ?_)
        refine h_q hflS rfl ?_
        refine h_act (post := fun _ => [Vec 3 1 encI (.slice A9 L.length c9) L2]) rfl (a_call (ent_of Try.func14 (by kernel_rfl) rfl) (fun w hH => Run.known_calls w) rfl rfl rfl) ?_; rintro ⟨⟩
        refine h_q hflS rfl ?_
        refine h_val rfl (.bool true) (fun b w hb hH => exec_cmp rfl rfl rfl (cmp_eql_t rfl) hb) ?_
        refine h_q hflS rfl ?_
        refine h_val rfl (.bool true) (fun b w hb hH => exec_cmp rfl rfl rfl (cmp_eql_t rfl) hb) ?_
        refine h_q hflS rfl ?_
        refine h_val rfl (.bool true) (fun b w hb hH => exec_cmp rfl rfl rfl (cmp_eql_t rfl) hb) ?_
        refine h_q hflS rfl ?_
        refine h_val rfl (.bool true) (fun b w hb hH => exec_cmp rfl rfl rfl (cmp_eql_t rfl) hb) ?_
        refine h_q hflS rfl ?_
        refine h_done (d_ret ?_)
        exact f_fin1 (.tmp rfl) (fun w h => ⟨rfl, below0 h.up⟩) rfl
    · skip
      have hset : setM L = (0, 1) := hset0
      refine WC2.fact 0 rfl (fun _ h => Vec.is h) ?_; rintro ⟨A9, c9, rfl⟩
      refine WC2.keep (env' := [(1, .bool is), (4, .bool false), (0, .slice A9 L.length c9), (5, .int .i64 z), (6, .bool true), (7, .int .i64 ((i : Nat) : Int)), (20, .int .i64 ((i : Nat) : Int)), (21, .slice A9 L.length c9), (22, .int .i64 (L.length : Int)), (23, .bool false)]) ⟨rfl, rfl, rfl, rfl, rfl, rfl, rfl, rfl, rfl, rfl, trivial⟩ ?_
      refine WC2.mid [Vec 3 1 encI (.slice A9 L.length c9) L] (.refl _) ?_
      refine d_reg ?_
      refine h_q hflS rfl ?_
      refine h_act (post := fun _ => [Vec 3 1 encI (.slice A9 L.length c9) L]) rfl (a_does (os' := fun _ => [Vec 3 1 encI (.slice A9 L.length c9) L]) [0] 0 (ent_of Try.func12 (by kernel_rfl) rfl) (set_any (Vec 3 1 encI (.slice A9 L.length c9) L) (.slice A9 L.length c9) L (fun rs w h1 h2 => h1.all okI h2) (by omega) (0, 1) hset) rfl rfl rfl (fun _ => rfl) rfl rfl rfl) ?_; rintro ⟨⟩
      refine h_q hflS rfl ?_
      refine h_done (d_seq (d_reg ?_))
      refine h_q hflS rfl ?_
      refine h_done (d_then rfl (d_reg ?_))
      refine h_q hflS rfl ?_
      refine h_act (post := fun _ => [Vec 3 1 encI (.slice A9 L.length c9) L]) rfl (a_call (ent_of Try.func14 (by kernel_rfl) rfl) (fun w hH => Run.known_calls w) rfl rfl rfl) ?_; rintro ⟨⟩
      refine h_q hflS rfl ?_
      refine h_val rfl (.bool true) (fun b w hb hH => exec_cmp rfl rfl rfl (cmp_eql_t rfl) hb) ?_
      refine h_q hflS rfl ?_
      refine h_val rfl (.bool true) (fun b w hb hH => exec_cmp rfl rfl rfl (cmp_eql_t rfl) hb) ?_
      refine h_q hflS rfl ?_
      refine h_done (d_ret (f_then_ret ?_))
      exact f_fin1 (.tmp rfl) (fun w h => ⟨rfl, below0 h.up⟩) rfl
end Go.Proofs.Ytmcdjniebkfagaa.Sep
