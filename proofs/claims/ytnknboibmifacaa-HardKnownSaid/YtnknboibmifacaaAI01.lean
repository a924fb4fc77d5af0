/-
  SgA · SgB · SgM · TyS · SgC
-/
import Derived.Test.YtnknboibmifacaaAB01
import Derived.Test.YtnknboibmifacaaAB02
import Derived.Test.YtnknboibmifacaaAG01
import Derived.Test.YtnknboibmifacaaAH01
set_option linter.unusedSimpArgs false
set_option linter.unusedVariables false

namespace Go.Proofs.Ytnknboibmifacaa.Sep
open Go.RowKit
open Go.Proofs.Ytnknboibmifacaa.Mem (Dist Blk Chg below0)

theorem first_none {w : World} {y : List UInt8} {A : Option Addr} {c : Nat} (hn : nextF y = none) (hv : Sl8 w (.slice A y.length c) y) (hl : y.length ≤ 137438953472) : Calls Try.prog 51 #[.slice A y.length c] w fun e w' => e = .returned (.tuple #[fstP A c y, .bool false]) ∧ Below w.heap.size w w' := by
  have h := first_c w hv hl
  rwa [hn] at h
theorem fst_some {A : Option Addr} {c : Nat} {y x : List UInt8} (hn : nextF y = some x) : fstP A c y = .slice (if c = 8 then A else A.map (·.add 8)) x.length (c - 8) ∧ x = (y.drop 8).take x.length ∧ 8 + x.length ≤ y.length := by
  have hx := next_len hn
  unfold nextF at hn
  split at hn
  · rename_i h
    cases hn
    refine ⟨?_, ?_, hx.1⟩
    · unfold fstP
      rw [if_pos ⟨h.1, h.2.1, h.2.2.1⟩, List.length_take, List.length_drop, Nat.min_eq_left (by omega)]
    · rw [List.length_take, List.length_drop, Nat.min_eq_left (by omega)]
  · cases hn
theorem first_some {w : World} {y x : List UInt8} {A A8 : Option Addr} {c : Nat} (hn : nextF y = some x) (hA : (if c = 8 then A else A.map (·.add 8)) = A8) (hv : Sl8 w (.slice A y.length c) y) (hl : y.length ≤ 137438953472) : Calls Try.prog 51 #[.slice A y.length c] w fun e w' => e = .returned (.tuple #[.slice A8 x.length (c - 8), .bool true]) ∧ Below w.heap.size w w' := by
  have h := first_c w hv hl
  rwa [(fst_some hn).1, hn, hA] at h
theorem Rd8.first {X : Ass} {y x : List UInt8} {A : Option Addr} {c : Nat} (hX : Rd8 X (.slice A y.length c) y) (hn : nextF y = some x) : Rd8 X (.slice (if c = 8 then A else A.map (·.add 8)) x.length (c - 8)) x := fun rs w h1 h2 => by
  obtain ⟨_, h3, h4⟩ := fst_some (A := A) (c := c) hn
  have h5 := sl8_take (sl8_drop (hX rs w h1 h2) (i := 8) (by omega)) (k := x.length) (by rw [List.length_drop]; omega)
  rwa [← h3] at h5
theorem drop_next {ps q : List (List UInt8)} {x : List UInt8} {j : Nat} (h : x :: q = ps.drop j) : ps[j]? = some x ∧ q = ps.drop (j + 1) ∧ j < ps.length := by
  have h1 : ps[j]? = some x := by
    have := congrArg (·[0]?) h
    simpa using this.symm
  have hlt := (List.getElem?_eq_some_iff.1 h1).1
  refine ⟨h1, ?_, hlt⟩
  rw [List.drop_eq_getElem_cons hlt] at h
  exact (List.cons.inj h).2
theorem done_next {ps : List (List UInt8)} {j : Nat} (h : [] = ps.drop j) (hj : j ≤ ps.length) : j = ps.length := by
  have := congrArg List.length h
  rw [List.length_nil, List.length_drop] at this
  omega
theorem sub_lo {A : Option Addr} {c k : Nat} {l : List UInt8} : subv 1 (.slice A l.length c) k l.length = .slice (if c = k then A else A.map (·.add k)) (l.drop k).length (c - k) := by
  rw [List.length_drop]; exact sub_mid

set_option maxRecDepth 100000 in
theorem complete1 (k : Fn) (caps : Array Value) (g : Nat) (X : Ass) (T : Nat → Ass) {A0 : Option Addr} {c0 : Nat} {y : List UInt8} {ps : List (List UInt8)} (hX : Rd8 X (.slice A0 y.length c0) y) (hl : y.length ≤ 137438953472) (hr : (listL y).1 = ps) {N : Nat} (hN : ps.length = N) (hy : (∀ j A c x, ps[j]? = some x → Rd8 X (.slice A x.length c) x → DoesF Try.prog (.func k #[] caps) [.slice A x.length c] [T j, X] (fun _ : Unit => .bool true) (fun _ => [T (j + 1), X]))) : Does Try.prog 50 #[.func k #[] caps, .pointer (some ⟨g, 0, none⟩)] [T 0, X, cell g 50 #[.slice A0 y.length c0]] (fun (_ : Unit) => .tuple #[]) (fun (_ : Unit) => [T N, X, cell g 50 #[.slice A0 y.length c0]]) := by
  refine d_ins (args := [.func k #[] caps, .pointer (some ⟨g, 0, none⟩)]) 25 Try.func50 rfl rfl rfl ?_; intro w rs
  refine d_reg ?_
  refine h_q hflS rfl ?_
  refine h_val rfl (.slice A0 y.length c0) (fun b w hb hH => exec_load rfl rfl (reads_one ty_s_uint8 rfl) (hH.row 2 rfl) hb) ?_
  refine h_q hflS rfl ?_
  refine h_done (d_block ?_)
  refine d_loop (α := Nat × List UInt8 × Option Addr × Nat) (fun ⟨j, l, A, c⟩ => [(0, .func k #[] caps), (3, .slice A l.length c)]) (fun ⟨j, l, A, c⟩ => [T j, X, cell g 50 #[.slice A0 y.length c0]]) (fun ⟨j, l, A, c⟩ => j ≤ ps.length ∧ Rd8 X (.slice A l.length c) l ∧ (listL l).1 = ps.drop j ∧ l.length ≤ 137438953472) (fun ⟨j, l, A, c⟩ => ps.length - j) (0, y, A0, c0) ⟨Nat.zero_le _, hX, by rw [hr]; rfl, hl⟩ ⟨rfl, rfl, trivial⟩ rfl ?_
  rintro ⟨j, l, A, c⟩ hI
  refine WC2.at_ (env' := [(0, .func k #[] caps), (3, .slice A l.length c)]) (rs' := [T j, X, cell g 50 #[.slice A0 y.length c0]]) ⟨rfl, rfl, trivial⟩ rfl ?_
  have hI1 := hI.1
  have hXl : Rd8 X (.slice A l.length c) l := hI.2.1
  have hI3 : (listL l).1 = ps.drop j := hI.2.2.1
  have hI4 : l.length ≤ 137438953472 := hI.2.2.2
  clear hI
  refine d_block ?_
  rcases hn : nextF l with _ | x
  · skip
    rw [listL_none hn] at hI3
    obtain rfl : j = N := (done_next hI3 hI1).trans hN
    refine d_reg ?_
    refine h_q hflS rfl ?_
    refine h_act (post := fun _ => [T j, X, cell g 50 #[.slice A0 y.length c0]]) rfl (a_call (ent_of Try.func51 (by kernel_rfl) rfl) (fun w hH => first_none hn (hH.rd8 1 rfl hXl) hI4) rfl rfl rfl) ?_; rintro ⟨⟩
    refine h_q hflS rfl ?_
    refine h_done (d_seq (d_reg ?_))
    refine h_q hflS rfl ?_
    refine h_done (d_then rfl (d_ret (f_then_ret (f_block_ret (f_then_ret (f_block_ret ?_))))))
    exact f_fin0  (fun w h => tells () rfl [0, 1, 2] rfl h same_parts) rfl
  · skip
    obtain ⟨A8, hA8⟩ : ∃ A8, (if c = 8 then A else A.map (·.add 8)) = A8 := ⟨_, rfl⟩
    have hXx : Rd8 X (.slice A8 x.length (c - 8)) x := by have h3 := hXl.first hn; rwa [hA8] at h3
    have hx3 := (fst_some (A := A) (c := c) hn).2.2
    rw [listL_some hn] at hI3
    obtain ⟨hpj, hq, hjl⟩ := drop_next hI3
    have hyj := hy j A8 (c - 8) x hpj hXx
    obtain ⟨l1, hl1⟩ : ∃ l1, l.drop (8 + x.length) = l1 := ⟨_, rfl⟩
    obtain ⟨A1, hA1⟩ : ∃ A1, (if c = 8 + x.length then A else A.map (·.add (8 + x.length))) = A1 := ⟨_, rfl⟩
    obtain ⟨c1, hc1⟩ : ∃ c1, c - (8 + x.length) = c1 := ⟨_, rfl⟩
    have hs1 : subv 1 (.slice A l.length c) (8 + x.length) l.length = .slice A1 l1.length c1 := by rw [sub_lo, hl1, hA1, hc1]
    have hX1 : Rd8 X (.slice A1 l1.length c1) l1 := by have h3 := hXl.drop (k := 8 + x.length) (by omega); rwa [hl1, hA1, hc1] at h3
    have hl2 : l1.length ≤ 137438953472 := by rw [← hl1, List.length_drop]; omega
    rw [hl1] at hq
    refine d_reg ?_
    refine h_q hflS rfl ?_
    refine h_act (post := fun _ => [T j, X, cell g 50 #[.slice A0 y.length c0]]) rfl (a_call (ent_of Try.func51 (by kernel_rfl) rfl) (fun w hH => first_some hn hA8 (hH.rd8 1 rfl hXl) hI4) rfl rfl rfl) ?_; rintro ⟨⟩
    refine h_q hflS rfl ?_
    refine h_done (d_seq (d_seq ?_))
    refine d_regI (i_pre gf_w 5 (by rintro ⟨a, w, h⟩; first | exact h.elim | exact nomatch h.1 | (obtain ⟨_, h, _⟩ := h; exact nomatch h)) (by kernel_rfl) ?_)
    refine h_q hflS rfl ?_
    refine i_to ?_
    refine i_does (X := Unit) (post := fun _ => [T (j + 1), X]) (os' := fun _ => [T (j + 1), X, cell g 50 #[.slice A0 y.length c0]]) gf_w [0, 1] (hyj) rfl rfl rfl rfl rfl rfl (fun _ => rfl) ?_; rintro ⟨⟩
    refine i_rest gf_w (by rintro ⟨a, w, h⟩; first | exact h.elim | exact nomatch h.1 | (obtain ⟨_, h, _⟩ := h; exact nomatch h)) (by kernel_rfl) ?_
    refine h_q hflS rfl ?_
    refine h_nil (f_to (d_else rfl (d_skip (f_to (d_reg1 ?_)))))
    refine h_q hflS rfl ?_
    refine h_val rfl (.int .i64 (x.length : Int)) (fun b w hb hH => e_slen ((hH.rd8 1 rfl hXx).rd) Try.underlying50 rfl rfl hb) ?_
    refine h_val rfl (.int .i64 ((8 + x.length : Nat) : Int)) (fun b w hb hH => exec_ar rfl rfl rfl rfl (by rw [IntWalk.i64_in _ (by omega)]; omega) hb) ?_
    refine h_val rfl (.slice A1 l1.length c1) (fun b w hb hH => e_sub_lo (i := (8 + x.length)) sl_uint8 hs1 hx3 rfl rfl rfl hH hb) ?_
    refine h_q hflS rfl ?_
    refine h_nil (f_block ?_)
    exact f_again (j + 1, l1, A1, c1) 0 ⟨hjl, hX1, hq, hl2⟩ (show ps.length - (j + 1) < ps.length - j by omega) ⟨rfl, rfl, trivial⟩ rfl

set_option maxRecDepth 100000 in
theorem complete1S (k : Fn) (caps : Array Value) (g : Nat) (X : Ass) (T : Nat → Ass) (Z : Ass) {A0 : Option Addr} {c0 : Nat} {y : List UInt8} {ps : List (List UInt8)} (hX : Rd8 X (.slice A0 y.length c0) y) (hl : y.length ≤ 137438953472) (hr : (listL y).1 = ps) {N : Nat} (hN : N < ps.length) (hy : (∀ j A c x, ps[j]? = some x → j < N → Rd8 X (.slice A x.length c) x → DoesF Try.prog (.func k #[] caps) [.slice A x.length c] [T j, X] (fun _ : Unit => .bool true) (fun _ => [T (j + 1), X]))) (hz : (∀ j A c x, ps[j]? = some x → j = N → Rd8 X (.slice A x.length c) x → DoesF Try.prog (.func k #[] caps) [.slice A x.length c] [T j, X] (fun _ : Unit => .bool false) (fun _ => [Z, X]))) : Does Try.prog 50 #[.func k #[] caps, .pointer (some ⟨g, 0, none⟩)] [T 0, X, cell g 50 #[.slice A0 y.length c0]] (fun (_ : Unit) => .tuple #[]) (fun (_ : Unit) => [Z, X, cell g 50 #[.slice A0 y.length c0]]) := by
  refine d_ins (args := [.func k #[] caps, .pointer (some ⟨g, 0, none⟩)]) 25 Try.func50 rfl rfl rfl ?_; intro w rs
  refine d_reg ?_
  refine h_q hflS rfl ?_
  refine h_val rfl (.slice A0 y.length c0) (fun b w hb hH => exec_load rfl rfl (reads_one ty_s_uint8 rfl) (hH.row 2 rfl) hb) ?_
  refine h_q hflS rfl ?_
  refine h_done (d_block ?_)
  refine d_loop (α := Nat × List UInt8 × Option Addr × Nat) (fun ⟨j, l, A, c⟩ => [(0, .func k #[] caps), (3, .slice A l.length c)]) (fun ⟨j, l, A, c⟩ => [T j, X, cell g 50 #[.slice A0 y.length c0]]) (fun ⟨j, l, A, c⟩ => j ≤ N ∧ Rd8 X (.slice A l.length c) l ∧ (listL l).1 = ps.drop j ∧ l.length ≤ 137438953472) (fun ⟨j, l, A, c⟩ => ps.length - j) (0, y, A0, c0) ⟨Nat.zero_le _, hX, by rw [hr]; rfl, hl⟩ ⟨rfl, rfl, trivial⟩ rfl ?_
  rintro ⟨j, l, A, c⟩ hI
  refine WC2.at_ (env' := [(0, .func k #[] caps), (3, .slice A l.length c)]) (rs' := [T j, X, cell g 50 #[.slice A0 y.length c0]]) ⟨rfl, rfl, trivial⟩ rfl ?_
  have hI1 := hI.1
  have hXl : Rd8 X (.slice A l.length c) l := hI.2.1
  have hI3 : (listL l).1 = ps.drop j := hI.2.2.1
  have hI4 : l.length ≤ 137438953472 := hI.2.2.2
  clear hI
  refine d_block ?_
  rcases hn : nextF l with _ | x
  · exact absurd (done_next (by rw [listL_none hn] at hI3; exact hI3) (by omega)) (by omega)
  obtain ⟨A8, hA8⟩ : ∃ A8, (if c = 8 then A else A.map (·.add 8)) = A8 := ⟨_, rfl⟩
  have hXx : Rd8 X (.slice A8 x.length (c - 8)) x := by have h3 := hXl.first hn; rwa [hA8] at h3
  have hx3 := (fst_some (A := A) (c := c) hn).2.2
  rw [listL_some hn] at hI3
  obtain ⟨hpj, hq, hjl⟩ := drop_next hI3
  rcases Nat.lt_or_ge j N with hjN | hjN
  · skip
    have hyj := hy j A8 (c - 8) x hpj hjN hXx
    obtain ⟨l1, hl1⟩ : ∃ l1, l.drop (8 + x.length) = l1 := ⟨_, rfl⟩
    obtain ⟨A1, hA1⟩ : ∃ A1, (if c = 8 + x.length then A else A.map (·.add (8 + x.length))) = A1 := ⟨_, rfl⟩
    obtain ⟨c1, hc1⟩ : ∃ c1, c - (8 + x.length) = c1 := ⟨_, rfl⟩
    have hs1 : subv 1 (.slice A l.length c) (8 + x.length) l.length = .slice A1 l1.length c1 := by rw [sub_lo, hl1, hA1, hc1]
    have hX1 : Rd8 X (.slice A1 l1.length c1) l1 := by have h3 := hXl.drop (k := 8 + x.length) (by omega); rwa [hl1, hA1, hc1] at h3
    have hl2 : l1.length ≤ 137438953472 := by rw [← hl1, List.length_drop]; omega
    rw [hl1] at hq
    refine d_reg ?_
    refine h_q hflS rfl ?_
    refine h_act (post := fun _ => [T j, X, cell g 50 #[.slice A0 y.length c0]]) rfl (a_call (ent_of Try.func51 (by kernel_rfl) rfl) (fun w hH => first_some hn hA8 (hH.rd8 1 rfl hXl) hI4) rfl rfl rfl) ?_; rintro ⟨⟩
    refine h_q hflS rfl ?_
    refine h_done (d_seq (d_seq ?_))
    refine d_regI (i_pre gf_w 5 (by rintro ⟨a, w, h⟩; first | exact h.elim | exact nomatch h.1 | (obtain ⟨_, h, _⟩ := h; exact nomatch h)) (by kernel_rfl) ?_)
    refine h_q hflS rfl ?_
    refine i_to ?_
    refine i_does (X := Unit) (post := fun _ => [T (j + 1), X]) (os' := fun _ => [T (j + 1), X, cell g 50 #[.slice A0 y.length c0]]) gf_w [0, 1] (hyj) rfl rfl rfl rfl rfl rfl (fun _ => rfl) ?_; rintro ⟨⟩
    refine i_rest gf_w (by rintro ⟨a, w, h⟩; first | exact h.elim | exact nomatch h.1 | (obtain ⟨_, h, _⟩ := h; exact nomatch h)) (by kernel_rfl) ?_
    refine h_q hflS rfl ?_
    refine h_nil (f_to (d_else rfl (d_skip (f_to (d_reg1 ?_)))))
    refine h_q hflS rfl ?_
    refine h_val rfl (.int .i64 (x.length : Int)) (fun b w hb hH => e_slen ((hH.rd8 1 rfl hXx).rd) Try.underlying50 rfl rfl hb) ?_
    refine h_val rfl (.int .i64 ((8 + x.length : Nat) : Int)) (fun b w hb hH => exec_ar rfl rfl rfl rfl (by rw [IntWalk.i64_in _ (by omega)]; omega) hb) ?_
    refine h_val rfl (.slice A1 l1.length c1) (fun b w hb hH => e_sub_lo (i := (8 + x.length)) sl_uint8 hs1 hx3 rfl rfl rfl hH hb) ?_
    refine h_q hflS rfl ?_
    refine h_nil (f_block ?_)
    exact f_again (j + 1, l1, A1, c1) 0 ⟨hjN, hX1, hq, hl2⟩ (show ps.length - (j + 1) < ps.length - j by omega) ⟨rfl, rfl, trivial⟩ rfl
  · skip
    obtain rfl : j = N := by omega
    have hyj := hz j A8 (c - 8) x hpj rfl hXx
    refine d_reg ?_
    refine h_q hflS rfl ?_
    refine h_act (post := fun _ => [T j, X, cell g 50 #[.slice A0 y.length c0]]) rfl (a_call (ent_of Try.func51 (by kernel_rfl) rfl) (fun w hH => first_some hn hA8 (hH.rd8 1 rfl hXl) hI4) rfl rfl rfl) ?_; rintro ⟨⟩
    refine h_q hflS rfl ?_
    refine h_done (d_seq (d_seq ?_))
    refine d_regI (i_pre gf_w 5 (by rintro ⟨a, w, h⟩; first | exact h.elim | exact nomatch h.1 | (obtain ⟨_, h, _⟩ := h; exact nomatch h)) (by kernel_rfl) ?_)
    refine h_q hflS rfl ?_
    refine i_to ?_
    refine i_does (X := Unit) (post := fun _ => [Z, X]) (os' := fun _ => [Z, X, cell g 50 #[.slice A0 y.length c0]]) gf_w [0, 1] (hyj) rfl rfl rfl rfl rfl rfl (fun _ => rfl) ?_; rintro ⟨⟩
    refine i_rest gf_w (by rintro ⟨a, w, h⟩; first | exact h.elim | exact nomatch h.1 | (obtain ⟨_, h, _⟩ := h; exact nomatch h)) (by kernel_rfl) ?_
    refine h_q hflS rfl ?_
    refine h_nil (f_to (d_then rfl (d_ret (f_then_ret (f_block_ret (f_then_ret (f_block_ret ?_)))))))
    exact f_fin0  (fun w h => tells () rfl [0, 1, 2] rfl h same_parts) rfl

set_option maxRecDepth 100000 in
theorem complete_does {A0 : Option Addr} {n c0 : Nat} : Does Try.prog 45 #[.slice A0 n c0] [] (fun (g : Nat) => .func (.func 50) #[] #[.pointer (some ⟨g, 0, none⟩)]) (fun (g : Nat) => [cell g 50 #[.slice A0 n c0]]) := by
  refine d_ins (args := [.slice A0 n c0]) 4 Try.func45 rfl rfl rfl ?_; intro w rs
  refine d_reg ?_
  refine h_q hflS rfl ?_
  refine h_act (post := fun g => [cell g 50 #[.slice A0 n c0]]) rfl (a_box (cs := #[.slice A0 n c0]) rfl rfl rfl) ?_; rintro g
  refine h_q hflS rfl ?_
  refine h_done (d_reg ?_)
  refine h_q hflS rfl ?_
  refine h_val rfl (.func (.func 50) #[] #[.pointer (some ⟨g, 0, none⟩)]) (fun b w hb hH => e_func rfl rfl hb) ?_
  refine h_q hflS rfl ?_
  refine h_done (d_ret ?_)
  exact f_fin1 (.tmp rfl) (fun w h => tells g rfl [0] rfl h same_parts) rfl

set_option maxRecDepth 100000 in
theorem all_does {X : Ass} {v : Value} {y : List UInt8} (hX : Rd8 X v y) (hl : y.length ≤ 137438953472) : Does Try.prog 31 #[v] [X] (fun (x : Nat × Value) => .func (.func 44) #[] #[.pointer (some ⟨x.1, 0, none⟩)]) (fun (x : Nat × Value) => [X, cell x.1 50 #[x.2], Vec 5 1 encB x.2 y]) := by
  refine d_ins (args := [v]) 7 Try.func31 rfl rfl rfl ?_; intro w rs
  refine d_reg ?_
  refine h_q hflS rfl ?_
  refine h_done (d_reg ?_)
  refine h_q hflS rfl ?_
  refine h_act (post := fun v9 => [Vec 5 1 encB v9 y, X]) rfl (a_does (os' := fun v9 => [Vec 5 1 encB v9 y, X]) [0] 0 (ent_of Try.func29 (by kernel_rfl) rfl) (clone8 hX (by omega)) rfl rfl rfl (fun _ => rfl) rfl rfl rfl) ?_; rintro v9
  refine h_act (post := fun g => [cell g 50 #[.slice none 0 0], Vec 5 1 encB v9 y, X]) rfl (a_alloc ze_s_uint8 rfl) ?_; rintro g
  refine h_acts (post := fun _ => [cell g 50 #[v9], Vec 5 1 encB v9 y, X]) rfl rfl (a_storev 0 1 (v := v9) #[v9] ty_s_uint8.2 rfl (fun _ h => Vec.c1 h) rfl rfl rfl rfl rfl rfl rfl) ?_; rintro ⟨⟩
  refine h_done (d_reg ?_)
  refine h_q hflS rfl ?_
  refine h_val rfl (.func (.func 44) #[] #[.pointer (some ⟨g, 0, none⟩)]) (fun b w hb hH => e_func rfl rfl hb) ?_
  refine h_q hflS rfl ?_
  refine h_done (d_ret ?_)
  exact f_fin1 (.tmp rfl) (fun w h => tells (g, v9) rfl [2, 0, 1] rfl h same_parts) rfl
end Go.Proofs.Ytnknboibmifacaa.Sep

namespace Go.Proofs.Ytnknboibmifacaa.Sep
open Go.RowKit
open Go.Proofs.Ytnknboibmifacaa.Mem (Dist Blk Chg below0)

/-- the function that is told, and what it has made of what it was told -/
def AllI (gy : Nat) (f : Value) (X : Ass) : Ass := fun rs => Parts [cell gy 85 #[f], X] rs
theorem AllI.open_ {gy : Nat} {f : Value} {X : Ass} : ∀ rs, AllI gy f X rs → ∃ _ : Unit, Parts [cell gy 85 #[f], X] rs := fun _ h => ⟨(), h⟩
theorem allI_mk {gy : Nat} {f : Value} (X : Ass) : ∀ rs, Parts [cell gy 85 #[f], X] rs → AllI gy f X rs := fun _ h => h

set_option maxRecDepth 100000 in
theorem all1 (k : Fn) (caps : Array Value) (g : Nat) (T : Nat → Ass) {A0 : Option Addr} {c0 : Nat} {y : List UInt8} {ps : List (List UInt8)} {N : Nat} (hl : y.length ≤ 137438953472) (hr : (listL y).1 = ps) (hlen : ∀ x, x ∈ ps → x.length ≤ 65536) (hN : ps.length = N) (hyy : ∀ j x d, ps[j]? = some x → DoesF Try.prog (.func k #[] caps) [d] [T j, Vec 5 1 encB d x] (fun _ : Unit => .bool true) (fun _ : Unit => [T (j + 1)])) : Does Try.prog 44 #[.func k #[] caps, .pointer (some ⟨g, 0, none⟩)] [T 0, Vec 5 1 encB (.slice A0 y.length c0) y, cell g 50 #[.slice A0 y.length c0]] (fun (_ : Unit) => .tuple #[]) (fun (_ : Unit) => [T N, Vec 5 1 encB (.slice A0 y.length c0) y, cell g 50 #[.slice A0 y.length c0]]) := by
  refine d_insM (args := [.func k #[] caps, .pointer (some ⟨g, 0, none⟩)]) 14 Try.func44 rfl rfl rfl ?_; intro w rs
  refine d_reg ?_
  refine h_q hflS rfl ?_
  refine h_act (post := fun gy => [cell gy 85 #[.func k #[] caps], T 0, Vec 5 1 encB (.slice A0 y.length c0) y, cell g 50 #[.slice A0 y.length c0]]) rfl (a_box (cs := #[.func k #[] caps]) rfl rfl rfl) ?_; rintro gy
  refine h_done (d_seq (d_reg ?_))
  refine h_q hflS rfl ?_
  refine h_val rfl (.func k #[] caps) (fun b w hb hH => exec_load rfl rfl (reads_one ty_func_s_uint8_bool rfl) (hH.row 0 rfl) hb) ?_
  refine h_val rfl (.bool false) (fun b w hb hH => exec_vnil_eql Try.underlying85 rfl rfl rfl hb) ?_
  refine h_done (d_else rfl (d_skip (f_to ?_)))
  refine d_close [0, 1] rfl (allI_mk (T 0)) rfl ?_
  refine d_reg ?_
  refine h_q hflS rfl ?_
  refine h_val rfl (.slice A0 y.length c0) (fun b w hb hH => exec_load rfl rfl (reads_one ty_s_uint8 rfl) (hH.row 2 rfl) hb) ?_
  refine h_act (post := fun g2 => [cell g2 50 #[.slice A0 y.length c0], AllI gy (.func k #[] caps) (T 0), Vec 5 1 encB (.slice A0 y.length c0) y, cell g 50 #[.slice A0 y.length c0]]) rfl (a_does (os' := fun g2 => [cell g2 50 #[.slice A0 y.length c0], AllI gy (.func k #[] caps) (T 0), Vec 5 1 encB (.slice A0 y.length c0) y, cell g 50 #[.slice A0 y.length c0]]) [] 0 (ent_of Try.func45 (by kernel_rfl) rfl) (complete_does) rfl rfl rfl (fun _ => rfl) rfl rfl rfl) ?_; rintro g2
  refine h_done (d_block ?_)
  refine WC2.keep (env' := [(0, .func k #[] caps), (1, .pointer (some ⟨g, 0, none⟩)), (2, .pointer (some ⟨gy, 0, none⟩)), (4, .func k #[] caps), (5, .bool false), (6, .slice A0 y.length c0), (7, .func (.func 50) #[] #[.pointer (some ⟨g2, 0, none⟩)])]) ⟨rfl, rfl, rfl, rfl, rfl, rfl, rfl, trivial⟩ ?_
  refine WC2.mid [cell g2 50 #[.slice A0 y.length c0], AllI gy (.func k #[] caps) (T 0), Vec 5 1 encB (.slice A0 y.length c0) y, cell g 50 #[.slice A0 y.length c0]] (.refl _) ?_
  refine wp_rangeF (caps := [.pointer (some ⟨g2, 0, none⟩)]) (post := [AllI gy (.func k #[] caps) (T N), Vec 5 1 encB (.slice A0 y.length c0) y, cell g2 50 #[.slice A0 y.length c0]]) (os' := [AllI gy (.func k #[] caps) (T N), Vec 5 1 encB (.slice A0 y.length c0) y, cell g2 50 #[.slice A0 y.length c0], cell g 50 #[.slice A0 y.length c0]]) (.normal) [1, 2, 0] rfl (ent_of Try.func50 (by kernel_rfl) rfl) (fun L1 fn1 tm1 hf1 r1 k11 k12 k13 k14 k15 k16 => it_in (complete1 (.yield L1) #[] g2 (Vec 5 1 encB (.slice A0 y.length c0) y) (fun j => recI L1 r1 (AllI gy (.func k #[] caps) (T j))) rd8_vec hl hr hN ?_)) rfl rfl rfl ?_
  · skip
    intro j A c x hpj hXx
    have hxl : x.length ≤ 65536 := hlen x (List.mem_of_getElem? hpj)
    refine rd_in (doesF_round (n := 14) (env := [(8, .slice A x.length c), (0, .func k #[] caps), (1, .pointer (some ⟨g, 0, none⟩)), (2, .pointer (some ⟨gy, 0, none⟩)), (4, .func k #[] caps), (5, .bool false), (6, .slice A0 y.length c0), (7, .func (.func 50) #[] #[.pointer (some ⟨g2, 0, none⟩)])]) (.normal) k12 k11 (by rw [k14]; rfl) ?_ ?_)
    · rw [k14, k13]
      refine (congrArg (fun t => Fr 14 { tmps := t, defers := [] } _) (?_ : _ = (tm1.setIfInBounds 8 (.slice A x.length c)))).mpr (hf1.put (d := 8) (by decide) _)
      simp
    · intro w0 rs
      rw [k15]
      refine r_reg (by kernel_rfl) (by rintro ⟨a, w, h⟩; first | exact h.elim | exact nomatch h.1 | (obtain ⟨_, h, _⟩ := h; exact nomatch h)) ?_
      refine h_q hflS rfl ?_
      refine h_nil ?_
      refine r_begin 0 rfl k11 ?_
      rw [k16]
      refine r_open 1 rfl AllI.open_ (fun _ => rfl) ?_; rintro ⟨⟩
      refine r_block ?_
      refine r_seq ?_
      refine r_emps 1 rfl ?_
      refine r_parI 3 1 [⟨.quiet, [none], fun _ => .func k #[] caps, []⟩, ⟨.quiet, [none], fun _ => .slice A x.length c, []⟩, ⟨.act 0, [some false], fun _ => undef, [1]⟩] [(2, .pointer (some ⟨gy, 0, none⟩)), (3, .slice A x.length c)] (fun ρ => match ρ with | [r0] => [selS r0 (fun d1 => Vec 5 1 encB d1 x) (emp), cell gy 85 #[.func k #[] caps], T j, recT L1 (busyR r1), Vec 5 1 encB (.slice A0 y.length c0) y] | _ => []) (by kernel_rfl) (by kernel_rfl) (by kernel_rfl) ⟨rfl, rfl, trivial⟩ rfl ?_ ?_
      · skip
        refine s_cons (by intro r0_; exact ⟨rfl, fun b w hH hb => exec_load rfl rfl (reads_one ty_func_s_uint8_bool rfl) (hH.row 1 rfl) hb⟩) ?_
        refine s_cons (by intro r0_; exact ⟨rfl, fun b w hH hb => exec_q1 hflS rfl hb⟩) ?_
        refine s_cons (by exact ⟨rfl, Acts.s (a_does (os' := fun d1 => [Vec 5 1 encB d1 x, cell gy 85 #[.func k #[] caps], T j, recT L1 (busyR r1), Vec 5 1 encB (.slice A0 y.length c0) y]) [4, 0] 1 (ent_of Try.func29 (by kernel_rfl) rfl) (clone8 hXx (by omega)) rfl rfl rfl (fun _ => rfl) rfl rfl rfl) (fun _ => rfl)⟩) ?_
        exact s_nil
      intro d1
      refine WLI.keep (env' := [(9, .func k #[] caps), (11, d1)]) ⟨rfl, rfl, trivial⟩ ?_
      refine i_does (X := Unit) (post := fun _ => [T (j + 1)]) (os' := fun _ => [T (j + 1), cell gy 85 #[.func k #[] caps], recT L1 (busyR r1), Vec 5 1 encB (.slice A0 y.length c0) y]) gf_r [2, 0] (hyy j x d1 hpj) rfl rfl rfl rfl rfl rfl (fun _ => rfl) ?_; rintro ⟨⟩
      refine i_rest gf_r (by rintro ⟨a, w, h⟩; first | exact h.elim | exact nomatch h.1 | (obtain ⟨_, h, _⟩ := h; exact nomatch h)) (by kernel_rfl) ?_
      refine h_q hflS rfl ?_
      refine h_nil ?_
      refine r_to ?_
      refine r_else rfl ?_
      refine r_skip ?_
      refine f_block ?_
      refine f_close [1, 0] rfl (allI_mk (T (j + 1))) rfl ?_
      exact r_tell [1, 0, 2] rfl rfl
  intro D aT wT hD hD0 hd hF hH
  obtain ⟨_, hH⟩ := hp_open 0 rfl AllI.open_ hH
  exact m_fin0 (e := .normal) rfl (fun w' h => tells (X := Unit) (val := fun _ => .tuple #[]) (post := fun _ => [T N, Vec 5 1 encB (.slice A0 y.length c0) y, cell g 50 #[.slice A0 y.length c0]]) (os := [cell gy 85 #[.func k #[] caps], T N, Vec 5 1 encB (.slice A0 y.length c0) y, cell g2 50 #[.slice A0 y.length c0], cell g 50 #[.slice A0 y.length c0]]) () rfl [1, 2, 4] rfl h same_parts) (by simp) D aT wT hD hD0 hd hF hH

set_option maxRecDepth 100000 in
theorem all1S (k : Fn) (caps : Array Value) (g : Nat) (T : Nat → Ass) (Z : Ass) {A0 : Option Addr} {c0 : Nat} {y : List UInt8} {ps : List (List UInt8)} {N : Nat} (hl : y.length ≤ 137438953472) (hr : (listL y).1 = ps) (hlen : ∀ x, x ∈ ps → x.length ≤ 65536) (hN : N < ps.length) (hyy : ∀ j x d, ps[j]? = some x → j < N → DoesF Try.prog (.func k #[] caps) [d] [T j, Vec 5 1 encB d x] (fun _ : Unit => .bool true) (fun _ : Unit => [T (j + 1)])) (hzz : ∀ j x d, ps[j]? = some x → j = N → DoesF Try.prog (.func k #[] caps) [d] [T j, Vec 5 1 encB d x] (fun _ : Unit => .bool false) (fun _ : Unit => [Z])) : Does Try.prog 44 #[.func k #[] caps, .pointer (some ⟨g, 0, none⟩)] [T 0, Vec 5 1 encB (.slice A0 y.length c0) y, cell g 50 #[.slice A0 y.length c0]] (fun (_ : Unit) => .tuple #[]) (fun (_ : Unit) => [Z, Vec 5 1 encB (.slice A0 y.length c0) y, cell g 50 #[.slice A0 y.length c0]]) := by
  refine d_insM (args := [.func k #[] caps, .pointer (some ⟨g, 0, none⟩)]) 14 Try.func44 rfl rfl rfl ?_; intro w rs
  refine d_reg ?_
  refine h_q hflS rfl ?_
  refine h_act (post := fun gy => [cell gy 85 #[.func k #[] caps], T 0, Vec 5 1 encB (.slice A0 y.length c0) y, cell g 50 #[.slice A0 y.length c0]]) rfl (a_box (cs := #[.func k #[] caps]) rfl rfl rfl) ?_; rintro gy
  refine h_done (d_seq (d_reg ?_))
  refine h_q hflS rfl ?_
  refine h_val rfl (.func k #[] caps) (fun b w hb hH => exec_load rfl rfl (reads_one ty_func_s_uint8_bool rfl) (hH.row 0 rfl) hb) ?_
  refine h_val rfl (.bool false) (fun b w hb hH => exec_vnil_eql Try.underlying85 rfl rfl rfl hb) ?_
  refine h_done (d_else rfl (d_skip (f_to ?_)))
  refine d_close [0, 1] rfl (allI_mk (T 0)) rfl ?_
  refine d_reg ?_
  refine h_q hflS rfl ?_
  refine h_val rfl (.slice A0 y.length c0) (fun b w hb hH => exec_load rfl rfl (reads_one ty_s_uint8 rfl) (hH.row 2 rfl) hb) ?_
  refine h_act (post := fun g2 => [cell g2 50 #[.slice A0 y.length c0], AllI gy (.func k #[] caps) (T 0), Vec 5 1 encB (.slice A0 y.length c0) y, cell g 50 #[.slice A0 y.length c0]]) rfl (a_does (os' := fun g2 => [cell g2 50 #[.slice A0 y.length c0], AllI gy (.func k #[] caps) (T 0), Vec 5 1 encB (.slice A0 y.length c0) y, cell g 50 #[.slice A0 y.length c0]]) [] 0 (ent_of Try.func45 (by kernel_rfl) rfl) (complete_does) rfl rfl rfl (fun _ => rfl) rfl rfl rfl) ?_; rintro g2
  refine h_done (d_block ?_)
  refine WC2.keep (env' := [(0, .func k #[] caps), (1, .pointer (some ⟨g, 0, none⟩)), (2, .pointer (some ⟨gy, 0, none⟩)), (4, .func k #[] caps), (5, .bool false), (6, .slice A0 y.length c0), (7, .func (.func 50) #[] #[.pointer (some ⟨g2, 0, none⟩)])]) ⟨rfl, rfl, rfl, rfl, rfl, rfl, rfl, trivial⟩ ?_
  refine WC2.mid [cell g2 50 #[.slice A0 y.length c0], AllI gy (.func k #[] caps) (T 0), Vec 5 1 encB (.slice A0 y.length c0) y, cell g 50 #[.slice A0 y.length c0]] (.refl _) ?_
  refine wp_rangeF (caps := [.pointer (some ⟨g2, 0, none⟩)]) (post := [AllI gy (.func k #[] caps) Z, Vec 5 1 encB (.slice A0 y.length c0) y, cell g2 50 #[.slice A0 y.length c0]]) (os' := [AllI gy (.func k #[] caps) Z, Vec 5 1 encB (.slice A0 y.length c0) y, cell g2 50 #[.slice A0 y.length c0], cell g 50 #[.slice A0 y.length c0]]) (.ret) [1, 2, 0] rfl (ent_of Try.func50 (by kernel_rfl) rfl) (fun L1 fn1 tm1 hf1 r1 k11 k12 k13 k14 k15 k16 => it_in (complete1S (.yield L1) #[] g2 (Vec 5 1 encB (.slice A0 y.length c0) y) (fun j => recI L1 r1 (AllI gy (.func k #[] caps) (T j))) (recI L1 (finR .ret r1) (AllI gy (.func k #[] caps) Z)) rd8_vec hl hr hN ?_ ?_)) rfl rfl rfl ?_
  · skip
    intro j A c x hpj hjN hXx
    have hxl : x.length ≤ 65536 := hlen x (List.mem_of_getElem? hpj)
    refine rd_in (doesF_round (n := 14) (env := [(8, .slice A x.length c), (0, .func k #[] caps), (1, .pointer (some ⟨g, 0, none⟩)), (2, .pointer (some ⟨gy, 0, none⟩)), (4, .func k #[] caps), (5, .bool false), (6, .slice A0 y.length c0), (7, .func (.func 50) #[] #[.pointer (some ⟨g2, 0, none⟩)])]) (.normal) k12 k11 (by rw [k14]; rfl) ?_ ?_)
    · rw [k14, k13]
      refine (congrArg (fun t => Fr 14 { tmps := t, defers := [] } _) (?_ : _ = (tm1.setIfInBounds 8 (.slice A x.length c)))).mpr (hf1.put (d := 8) (by decide) _)
      simp
    · intro w0 rs
      rw [k15]
      refine r_reg (by kernel_rfl) (by rintro ⟨a, w, h⟩; first | exact h.elim | exact nomatch h.1 | (obtain ⟨_, h, _⟩ := h; exact nomatch h)) ?_
      refine h_q hflS rfl ?_
      refine h_nil ?_
      refine r_begin 0 rfl k11 ?_
      rw [k16]
      refine r_open 1 rfl AllI.open_ (fun _ => rfl) ?_; rintro ⟨⟩
      refine r_block ?_
      refine r_seq ?_
      refine r_emps 1 rfl ?_
      refine r_parI 3 1 [⟨.quiet, [none], fun _ => .func k #[] caps, []⟩, ⟨.quiet, [none], fun _ => .slice A x.length c, []⟩, ⟨.act 0, [some false], fun _ => undef, [1]⟩] [(2, .pointer (some ⟨gy, 0, none⟩)), (3, .slice A x.length c)] (fun ρ => match ρ with | [r0] => [selS r0 (fun d1 => Vec 5 1 encB d1 x) (emp), cell gy 85 #[.func k #[] caps], T j, recT L1 (busyR r1), Vec 5 1 encB (.slice A0 y.length c0) y] | _ => []) (by kernel_rfl) (by kernel_rfl) (by kernel_rfl) ⟨rfl, rfl, trivial⟩ rfl ?_ ?_
      · skip
        refine s_cons (by intro r0_; exact ⟨rfl, fun b w hH hb => exec_load rfl rfl (reads_one ty_func_s_uint8_bool rfl) (hH.row 1 rfl) hb⟩) ?_
        refine s_cons (by intro r0_; exact ⟨rfl, fun b w hH hb => exec_q1 hflS rfl hb⟩) ?_
        refine s_cons (by exact ⟨rfl, Acts.s (a_does (os' := fun d1 => [Vec 5 1 encB d1 x, cell gy 85 #[.func k #[] caps], T j, recT L1 (busyR r1), Vec 5 1 encB (.slice A0 y.length c0) y]) [4, 0] 1 (ent_of Try.func29 (by kernel_rfl) rfl) (clone8 hXx (by omega)) rfl rfl rfl (fun _ => rfl) rfl rfl rfl) (fun _ => rfl)⟩) ?_
        exact s_nil
      intro d1
      refine WLI.keep (env' := [(9, .func k #[] caps), (11, d1)]) ⟨rfl, rfl, trivial⟩ ?_
      refine i_does (X := Unit) (post := fun _ => [T (j + 1)]) (os' := fun _ => [T (j + 1), cell gy 85 #[.func k #[] caps], recT L1 (busyR r1), Vec 5 1 encB (.slice A0 y.length c0) y]) gf_r [2, 0] (hyy j x d1 hpj hjN) rfl rfl rfl rfl rfl rfl (fun _ => rfl) ?_; rintro ⟨⟩
      refine i_rest gf_r (by rintro ⟨a, w, h⟩; first | exact h.elim | exact nomatch h.1 | (obtain ⟨_, h, _⟩ := h; exact nomatch h)) (by kernel_rfl) ?_
      refine h_q hflS rfl ?_
      refine h_nil ?_
      refine r_to ?_
      refine r_else rfl ?_
      refine r_skip ?_
      refine f_block ?_
      refine f_close [1, 0] rfl (allI_mk (T (j + 1))) rfl ?_
      exact r_tell [1, 0, 2] rfl rfl
  · skip
    intro j A c x hpj hjN hXx
    have hxl : x.length ≤ 65536 := hlen x (List.mem_of_getElem? hpj)
    refine rd_in (doesF_round (n := 14) (env := [(8, .slice A x.length c), (0, .func k #[] caps), (1, .pointer (some ⟨g, 0, none⟩)), (2, .pointer (some ⟨gy, 0, none⟩)), (4, .func k #[] caps), (5, .bool false), (6, .slice A0 y.length c0), (7, .func (.func 50) #[] #[.pointer (some ⟨g2, 0, none⟩)])]) (.ret) k12 k11 (by rw [k14]; rfl) ?_ ?_)
    · rw [k14, k13]
      refine (congrArg (fun t => Fr 14 { tmps := t, defers := [] } _) (?_ : _ = (tm1.setIfInBounds 8 (.slice A x.length c)))).mpr (hf1.put (d := 8) (by decide) _)
      simp
    · intro w0 rs
      rw [k15]
      refine r_reg (by kernel_rfl) (by rintro ⟨a, w, h⟩; first | exact h.elim | exact nomatch h.1 | (obtain ⟨_, h, _⟩ := h; exact nomatch h)) ?_
      refine h_q hflS rfl ?_
      refine h_nil ?_
      refine r_begin 0 rfl k11 ?_
      rw [k16]
      refine r_open 1 rfl AllI.open_ (fun _ => rfl) ?_; rintro ⟨⟩
      refine r_block ?_
      refine r_seq ?_
      refine r_emps 1 rfl ?_
      refine r_parI 3 1 [⟨.quiet, [none], fun _ => .func k #[] caps, []⟩, ⟨.quiet, [none], fun _ => .slice A x.length c, []⟩, ⟨.act 0, [some false], fun _ => undef, [1]⟩] [(2, .pointer (some ⟨gy, 0, none⟩)), (3, .slice A x.length c)] (fun ρ => match ρ with | [r0] => [selS r0 (fun d1 => Vec 5 1 encB d1 x) (emp), cell gy 85 #[.func k #[] caps], T j, recT L1 (busyR r1), Vec 5 1 encB (.slice A0 y.length c0) y] | _ => []) (by kernel_rfl) (by kernel_rfl) (by kernel_rfl) ⟨rfl, rfl, trivial⟩ rfl ?_ ?_
      · skip
        refine s_cons (by intro r0_; exact ⟨rfl, fun b w hH hb => exec_load rfl rfl (reads_one ty_func_s_uint8_bool rfl) (hH.row 1 rfl) hb⟩) ?_
        refine s_cons (by intro r0_; exact ⟨rfl, fun b w hH hb => exec_q1 hflS rfl hb⟩) ?_
        refine s_cons (by exact ⟨rfl, Acts.s (a_does (os' := fun d1 => [Vec 5 1 encB d1 x, cell gy 85 #[.func k #[] caps], T j, recT L1 (busyR r1), Vec 5 1 encB (.slice A0 y.length c0) y]) [4, 0] 1 (ent_of Try.func29 (by kernel_rfl) rfl) (clone8 hXx (by omega)) rfl rfl rfl (fun _ => rfl) rfl rfl rfl) (fun _ => rfl)⟩) ?_
        exact s_nil
      intro d1
      refine WLI.keep (env' := [(9, .func k #[] caps), (11, d1)]) ⟨rfl, rfl, trivial⟩ ?_
      refine i_does (X := Unit) (post := fun _ => [Z]) (os' := fun _ => [Z, cell gy 85 #[.func k #[] caps], recT L1 (busyR r1), Vec 5 1 encB (.slice A0 y.length c0) y]) gf_r [2, 0] (hzz j x d1 hpj hjN) rfl rfl rfl rfl rfl rfl (fun _ => rfl) ?_; rintro ⟨⟩
      refine i_rest gf_r (by rintro ⟨a, w, h⟩; first | exact h.elim | exact nomatch h.1 | (obtain ⟨_, h, _⟩ := h; exact nomatch h)) (by kernel_rfl) ?_
      refine h_q hflS rfl ?_
      refine h_nil ?_
      refine r_to ?_
      refine r_then rfl ?_
      refine r_ret ?_
      refine f_block_ret ?_
      refine f_close [1, 0] rfl (allI_mk Z) rfl ?_
      exact r_tell [1, 0, 2] rfl rfl
  intro D aT wT hD hD0 hd hF hH
  obtain ⟨_, hH⟩ := hp_open 0 rfl AllI.open_ hH
  exact m_fin0 (e := .ret) rfl (fun w' h => tells (X := Unit) (val := fun _ => .tuple #[]) (post := fun _ => [Z, Vec 5 1 encB (.slice A0 y.length c0) y, cell g 50 #[.slice A0 y.length c0]]) (os := [cell gy 85 #[.func k #[] caps], Z, Vec 5 1 encB (.slice A0 y.length c0) y, cell g2 50 #[.slice A0 y.length c0], cell g 50 #[.slice A0 y.length c0]]) () rfl [1, 2, 4] rfl h same_parts) (by simp) D aT wT hD hD0 hd hF hH
end Go.Proofs.Ytnknboibmifacaa.Sep

namespace Go.Proofs.Ytnknboibmifacaa.Sep

/-- the bytes of so many frames -/
def sumF (ps : List (List UInt8)) : Nat := (ps.map fun x => 8 + x.length).sum
theorem sumF_take {ps : List (List UInt8)} {j : Nat} {x : List UInt8} (h : ps[j]? = some x) : sumF (ps.take (j + 1)) = sumF (ps.take j) + (8 + x.length) := by
  unfold sumF
  have hlt := (List.getElem?_eq_some_iff.1 h).1
  rw [List.take_add_one, h]
  simp
theorem sumF_le (ps : List (List UInt8)) (j : Nat) : sumF (ps.take j) ≤ sumF ps := by
  have h : sumF ps = sumF (ps.take j) + sumF (ps.drop j) := by
    unfold sumF
    rw [← List.sum_append, ← List.map_append, List.take_append_drop]
  omega
theorem sumF_cons (x : List UInt8) (ps : List (List UInt8)) : sumF (x :: ps) = 8 + x.length + sumF ps := by simp [sumF]
theorem list_sumF : ∀ (k : Nat) (b : List UInt8), (listF k b).2 = sumF (listF k b).1
  | 0, _ => rfl
  | k + 1, b => by
    simp only [listF]
    cases h : nextF b with
    | none => rfl
    | some x => rw [sumF_cons]; simp only [← list_sumF k]
end Go.Proofs.Ytnknboibmifacaa.Sep

namespace Go.Proofs.Ytnknboibmifacaa.Sep
open Go.RowKit
open Go.Proofs.Ytnknboibmifacaa.Mem (Dist Blk Chg below0)
end Go.Proofs.Ytnknboibmifacaa.Sep

namespace Go.Proofs.Ytnknboibmifacaa.Sep
open Go.RowKit
open Go.Proofs.Ytnknboibmifacaa.Mem (Dist Blk Chg below0)

theorem empty8 : ((frameL []).length : Int) = 8 := by rw [frame_len (by simp)]; rfl

section
variable {P : Program} {n : Nat} {B : Nat → Prop} {w0 w : World} {os : List Ass} {env : List (Nat × Value)} {o : Oper} {act : Act}
theorem e_vlen8 (i : Nat) {t e : TypeId} {v : Value} (hu : P.underlying t = some (.slice e)) (hi : os[i]? = some (Vec e 1 encB v (frameL []))) {x : Operand} (ho : o.op = .call { callee := .builtin .len, args := #[x], argTypes := #[t] }) (hx : evs env x = some v) (hH : Hp B w0 w os) (hF : Fr n act env) : (execOp act.eval o).run P w = .ok (.value (.int .i64 8)) w := by
  have h := e_vlen i hu hi ho hx hH hF
  rw [empty8] at h
  exact h
end

end Go.Proofs.Ytnknboibmifacaa.Sep
