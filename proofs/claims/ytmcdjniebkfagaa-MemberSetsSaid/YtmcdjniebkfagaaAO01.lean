/-
  MbX
-/
import Derived.Test.YtmcdjniebkfagaaAN01
set_option linter.unusedSimpArgs false
set_option linter.unusedVariables false

namespace Go.Proofs.Ytmcdjniebkfagaa.Sep
open Go.RowKit
open Go.Proofs.Ytmcdjniebkfagaa.Mem (Dist Blk Chg below0)

/-- the number of a node -/
def num (l : List Int) (n : Nat) : Int := (l[n]?).getD 0
theorem num_out {l : List Int} {n : Nat} (h : ¬ n < l.length) : num l n = 0 := by unfold num; rw [List.getElem?_eq_none (by omega)]; rfl
theorem num_in {l : List Int} {n : Nat} {x : Int} (h : l[n]? = some x) : num l n = x := by unfold num; rw [h]; rfl
/-- the numbers that a property has, as bits -/
def mk (p : Nat → Bool) : Nat → Nat
  | 0 => 0
  | n + 1 => mk p n + if p n then 2 ^ n else 0
theorem mk_lt (p : Nat → Bool) : ∀ n, mk p n < 2 ^ n
  | 0 => by show (0 : Nat) < 1; decide
  | n + 1 => by
    have ih := mk_lt p n
    unfold mk
    rw [Nat.pow_succ]
    split <;> omega
theorem mk_or (p : Nat → Bool) (n : Nat) : mk p n ||| 2 ^ n = mk p n + 2 ^ n := by
  have := Nat.two_pow_add_eq_or_of_lt (mk_lt p n) 1
  rw [Nat.mul_one] at this
  rw [Nat.or_comm, ← this, Nat.add_comm]
theorem mk_bit (p : Nat → Bool) : ∀ n k, (mk p n).testBit k = (decide (k < n) && p k)
  | 0, k => by simp [mk]
  | n + 1, k => by
    have ih := mk_bit p n k
    have hl := mk_lt p n
    unfold mk
    by_cases hp : p n = true
    · rw [if_pos hp, ← mk_or, Nat.testBit_or, ih, Nat.testBit_two_pow]
      by_cases hk : k = n
      · subst hk; simp [hp]
      · have : decide (n = k) = false := by simp; omega
        rw [this, Bool.or_false, show decide (k < n + 1) = decide (k < n) by rw [decide_eq_decide]; omega]
    · rw [if_neg hp, Nat.add_zero, ih]
      by_cases hk : k = n
      · subst hk; simp [hp]
      · rw [show decide (k < n + 1) = decide (k < n) by rw [decide_eq_decide]; omega]
theorem mk_bt (p : Nat → Bool) {n : Nat} (hn : n ≤ 8) (k : Nat) : bt ((mk p n : Nat) : Int) k = (decide (k < n) && p k) := by
  have h1 := mk_lt p n
  have h2 : (2 : Nat) ^ n ≤ 2 ^ 8 := Nat.pow_le_pow_right (by decide) hn
  unfold bt
  rw [show (((mk p n : Nat) : Int) % 256).toNat = mk p n by omega]
  exact mk_bit p n k
theorem mk_i64 (p : Nat → Bool) {n : Nat} (hn : n ≤ 8) : mk p n < 256 := Nat.lt_of_lt_of_le (mk_lt p n) (Nat.pow_le_pow_right (by decide) hn : (2 : Nat) ^ n ≤ 2 ^ 8)
theorem mk_yes {p : Nat → Bool} {n : Nat} {z q y : Int} (hz : ((mk p n : Nat) : Int) = z) (hn : 1 ≤ n) (hn7 : n ≤ 7) (hp : p n = true) (hq : (2 : Int) ^ ((n : Int)).toNat = q) (hy : ((mk p (n + 1) : Nat) : Int) = y) : bits .or .i64 z q = y := by
  subst hz; subst hq; subst hy
  have e : (2 : Int) ^ ((n : Int)).toNat = ((2 ^ n : Nat) : Int) := by simp
  have h1 := mk_i64 p (n := n) (by omega)
  have h2 : (2 : Nat) ^ n ≤ 2 ^ 7 := Nat.pow_le_pow_right (by decide) hn7
  have h3 : ∀ z : Nat, z < 256 → (BitVec.ofInt 64 (z : Int)).toNat = z := fun z hz => by rw [toNat_i64]; omega
  rw [e]
  show IntKind.i64.wrap ((BitVec.ofInt 64 ((mk p n : Nat) : Int) ||| BitVec.ofInt 64 ((2 ^ n : Nat) : Int)).toNat : Int) = _
  rw [BitVec.toNat_or, h3 _ (by omega), h3 _ (by omega), mk_or]
  conv => rhs; unfold mk
  rw [if_pos hp]
  exact i64_wrap (by omega)
theorem mk_no {p : Nat → Bool} {n : Nat} {z : Int} (hz : ((mk p n : Nat) : Int) = z) (hp : p n = false) : ((mk p (n + 1) : Nat) : Int) = z := by
  rw [← hz]
  unfold mk
  rw [hp]
  cases n <;> rfl
/-- those of a set whose number is so great -/
def rchP (s x : Int) (l : List Int) (k : Nat) : Bool := hs s (k : Int) && decide (x ≤ num l k)
def rch (s x : Int) (l : List Int) (n : Nat) : Nat := mk (rchP s x l) n
/-- the greatest that more than half have -/
def idxN (s : Int) (l : List Int) : Nat → Int
  | 0 => 0
  | n + 1 => if hs s (n : Int) = true ∧ idxN s l n < num l n ∧ mst s ((rch s (num l n) l 8 : Nat) : Int) = true then num l n else idxN s l n
theorem idxN_not {s : Int} {l : List Int} {n : Nat} (h : ¬ (hs s (n : Int) = true ∧ idxN s l n < num l n ∧ mst s ((rch s (num l n) l 8 : Nat) : Int) = true)) : idxN s l (n + 1) = idxN s l n := by
  conv => lhs; unfold idxN
  rw [if_neg h]
theorem idxN_yes {s : Int} {l : List Int} {n : Nat} (h : hs s (n : Int) = true ∧ idxN s l n < num l n ∧ mst s ((rch s (num l n) l 8 : Nat) : Int) = true) : idxN s l (n + 1) = num l n := by
  conv => lhs; unfold idxN
  rw [if_pos h]
theorem fact_in {p : Prop} {A : List Ass} {rs : List RowT} (hp : p) (h : Parts A rs) : Parts (fact p :: A) rs := ⟨[], rs, rfl, ⟨rfl, hp⟩, h⟩

set_option maxRecDepth 100000 in
theorem number_any (X : Ass) (mv : Value) (l : List Int) (hX : Rd X 1 encU mv l) (hl : l.length ≤ 9223372036854775807) (n : Nat) (x : Int) (hx : num l n = x) : Does Try.prog 36 #[mv, .int .i64 (n : Int)] [X] (fun (_ : Unit) => .int .u64 x) (fun (_ : Unit) => [X]) := by
  refine d_ins (args := [mv, .int .i64 (n : Int)]) 13 Try.func36 rfl rfl rfl ?_; intro w rs
  refine d_reg ?_
  refine h_q hflS rfl ?_
  refine h_done (d_seq ?_)
  rcases Nat.lt_or_ge n l.length with hn | hn
  · skip
    have hx2 : l[n]? = some x := by rw [← hx]; unfold num; rw [List.getElem?_eq_getElem hn]; rfl
    refine d_reg ?_
    refine h_q hflS rfl ?_
    refine h_val rfl (.int .i64 (l.length : Int)) (fun b w hb hH => e_rlen 0 hX Try.underlying41 rfl rfl rfl hH hb) ?_
    refine h_val rfl (.bool false) (fun b w hb hH => exec_cmp rfl rfl rfl (cmp_geq_f (by omega)) hb) ?_
    refine h_done (d_else rfl (d_skip (f_to (d_reg ?_))))
    refine h_q hflS rfl ?_
    refine h_val rfl (elp' mv (n * 1)) (fun b w hb hH => e_ridx 0 hX sl_uint64 rfl n hn rfl rfl rfl hH hb) ?_
    refine h_val rfl (.int .u64 x) (fun b w hb hH => e_rload1 0 hX ty_uint64 okU rfl n (a := x) hx2 rfl rfl rfl hH hb) ?_
    refine h_q hflS rfl ?_
    refine h_done (d_ret ?_)
    exact f_fin1 (.tmp rfl) (fun w h => tells () rfl [0] rfl h same_parts) rfl
  · skip
    obtain rfl : x = 0 := by rw [← hx]; exact num_out (by omega)
    refine d_reg ?_
    refine h_q hflS rfl ?_
    refine h_val rfl (.int .i64 (l.length : Int)) (fun b w hb hH => e_rlen 0 hX Try.underlying41 rfl rfl rfl hH hb) ?_
    refine h_val rfl (.bool true) (fun b w hb hH => exec_cmp rfl rfl rfl (cmp_geq_t (by omega)) hb) ?_
    refine h_done (d_then rfl (d_reg ?_))
    refine h_q hflS rfl ?_
    refine h_done (d_ret (f_then_ret ?_))
    exact f_fin1 (.tmp rfl) (fun w h => tells () rfl [0] rfl h same_parts) rfl

/-- what 'reached' has gathered of the nodes below n -/
def RcI (gv gx gm : Nat) (X : Ass) (mv : Value) (s x : Int) (l : List Int) (n : Nat) : Ass := fun rs => ∃ z : Int, ((rch s x l n : Nat) : Int) = z ∧ Parts [cell gv 3 #[.int .i64 z], cell gm 41 #[mv], cell gx 42 #[.int .u64 x], X] rs
theorem RcI.open_ {gv gx gm : Nat} {X : Ass} {mv : Value} {s x : Int} {l : List Int} {n : Nat} : ∀ rs, RcI gv gx gm X mv s x l n rs → ∃ z : Int, Parts [fact (((rch s x l n : Nat) : Int) = z), cell gv 3 #[.int .i64 z], cell gm 41 #[mv], cell gx 42 #[.int .u64 x], X] rs := fun _ ⟨z, hz, h⟩ => ⟨z, fact_in hz h⟩
theorem rcI_mk {gv gx gm : Nat} {X : Ass} {mv : Value} {s x : Int} {l : List Int} {n : Nat} {z : Int} (hz : ((rch s x l n : Nat) : Int) = z) : ∀ rs, Parts [cell gv 3 #[.int .i64 z], cell gm 41 #[mv], cell gx 42 #[.int .u64 x], X] rs → RcI gv gx gm X mv s x l n rs := fun _ h => ⟨z, hz, h⟩
theorem rcI_no {gv gx gm : Nat} {X : Ass} {mv : Value} {s x : Int} {l : List Int} {n : Nat} (h : hs s (n : Int) = false) : RcI gv gx gm X mv s x l (n + 1) = RcI gv gx gm X mv s x l n := by
  have : rch s x l (n + 1) = rch s x l n := by
    unfold rch
    conv => lhs; unfold mk
    rw [show rchP s x l n = false by unfold rchP; rw [h]; rfl]; simp
  unfold RcI; rw [this]
theorem rch_one {s x : Int} {l : List Int} : ((rch s x l 1 : Nat) : Int) = 0 := by
  have : rchP s x l 0 = false := by unfold rchP hs may; simp
  unfold rch mk
  rw [this]; rfl

set_option maxRecDepth 100000 in
theorem reached_any (X : Ass) (mv : Value) (l : List Int) (hX : Rd X 1 encU mv l) (hl : l.length ≤ 9223372036854775807) (hmv : mv.cells = #[mv]) (s : Int) (h : -9223372036854775808 ≤ s ∧ s ≤ 9223372036854775807) (x : Int) : Does Try.prog 37 #[.int .i64 s, .int .u64 x, mv] [X] (fun (_ : Unit) => .int .i64 ((rch s x l 8 : Nat) : Int)) (fun (_ : Unit) => [X]) := by
  refine d_insM (args := [.int .i64 s, .int .u64 x, mv]) 22 Try.func37 rfl rfl rfl ?_; intro w rs
  refine d_reg ?_
  refine h_q hflS rfl ?_
  refine h_act (post := fun gx => [cell gx 42 #[.int .u64 x], X]) rfl (a_box (cs := #[.int .u64 x]) rfl rfl rfl) ?_; rintro gx
  refine h_act (post := fun gm => [cell gm 41 #[mv], cell gx 42 #[.int .u64 x], X]) rfl (a_box (cs := #[mv]) rfl rfl hmv) ?_; rintro gm
  refine h_q hflS rfl ?_
  refine h_done (d_reg ?_)
  refine h_q hflS rfl ?_
  refine h_act (post := fun gv => [cell gv 3 #[.int .i64 0], cell gm 41 #[mv], cell gx 42 #[.int .u64 x], X]) rfl (a_alloc ze_int rfl) ?_; rintro gv
  refine h_acts (post := fun _ => [cell gv 3 #[.int .i64 0], cell gm 41 #[mv], cell gx 42 #[.int .u64 x], X]) rfl rfl (a_store 0 (v := .int .i64 0) #[.int .i64 0] ty_int.2 rfl rfl rfl rfl rfl rfl rfl rfl rfl) ?_; rintro ⟨⟩
  refine h_done (d_seq ?_)
  refine d_close [0, 1, 2, 3] rfl (rcI_mk (rch_one (s := s) (x := x) (l := l))) rfl ?_
  refine d_reg ?_
  refine h_q hflS rfl ?_
  refine h_act (post := fun g => [cell g 3 #[.int .i64 s], RcI gv gx gm X mv s x l 1]) rfl (a_does (os' := fun g => [cell g 3 #[.int .i64 s], RcI gv gx gm X mv s x l 1]) [] 0 (ent_of Try.func15 (by kernel_rfl) rfl) (all_any s h) rfl rfl rfl (fun _ => rfl) rfl rfl rfl) ?_; rintro g
  refine h_done (d_block ?_)
  refine WC2.keep (env' := [(0, .int .i64 s), (1, .int .u64 x), (2, mv), (4, .pointer (some ⟨gx, 0, none⟩)), (5, .pointer (some ⟨gm, 0, none⟩)), (6, .int .i64 0), (7, .pointer (some ⟨gv, 0, none⟩)), (9, .int .i64 s), (10, .func (.func 34) #[] #[.pointer (some ⟨g, 0, none⟩)])]) ⟨rfl, rfl, rfl, rfl, rfl, rfl, rfl, rfl, rfl, trivial⟩ ?_
  refine WC2.mid [cell g 3 #[.int .i64 s], RcI gv gx gm X mv s x l 1] (.refl _) ?_
  refine wp_rangeF (caps := [.pointer (some ⟨g, 0, none⟩)]) (post := [RcI gv gx gm X mv s x l 8, cell g 3 #[.int .i64 s]]) (os' := [RcI gv gx gm X mv s x l 8, cell g 3 #[.int .i64 s]]) (.normal) [1, 0] rfl (ent_of Try.func34 (by kernel_rfl) rfl) (fun L1 fn1 tm1 hf1 r1 k11 k12 k13 k14 k15 k16 => it_in (all1 (.yield L1) #[] g s h (fun n => recI L1 r1 (RcI gv gx gm X mv s x l n)) (fun n h1 h7 hb => by rw [rcI_no hb]) ?_)) rfl rfl rfl ?_
  · skip
    intro n h1 h7 hb
    refine rd_in (doesF_round (n := 22) (env := [(11, .int .i64 (n : Int)), (0, .int .i64 s), (1, .int .u64 x), (2, mv), (4, .pointer (some ⟨gx, 0, none⟩)), (5, .pointer (some ⟨gm, 0, none⟩)), (6, .int .i64 0), (7, .pointer (some ⟨gv, 0, none⟩)), (9, .int .i64 s), (10, .func (.func 34) #[] #[.pointer (some ⟨g, 0, none⟩)])]) (.normal) k12 k11 (by rw [k14]; rfl) ?_ ?_)
    · rw [k14, k13]
      refine (congrArg (fun t => Fr 22 { tmps := t, defers := [] } _) (?_ : _ = (tm1.setIfInBounds 11 (.int .i64 (n : Int))))).mpr (hf1.put (d := 11) (by decide) _)
      simp
    · intro w0 rs
      rw [k15]
      refine r_reg (by kernel_rfl) (by rintro ⟨a, w, h⟩; first | exact h.elim | exact nomatch h.1 | (obtain ⟨_, h, _⟩ := h; exact nomatch h)) ?_
      refine h_q hflS rfl ?_
      refine h_nil ?_
      refine r_begin 0 rfl k11 ?_
      rw [k16]
      refine r_open 1 rfl RcI.open_ (fun _ => rfl) ?_; rintro z
      refine WCR.fact 0 rfl (fun _ h => h.2) ?_; rintro hz
      refine WCR.leave [0] rfl rfl ?_
      obtain ⟨y, hy⟩ : ∃ y, num l n = y := ⟨_, rfl⟩
      refine r_block ?_
      rcases Int.lt_or_le y x with hyx | hyx
      · skip
        have hz2 : ((rch s x l (n + 1) : Nat) : Int) = z := mk_no hz (by unfold rchP; rw [hb, hy]; simp; omega)
        have hn7 : (1 : Int) ≤ (n : Int) ∧ (n : Int) ≤ 7 := by omega
        refine r_seq ?_
        refine r_parS (by rintro ⟨a, w, h⟩; first | exact h.elim | exact nomatch h.1 | (obtain ⟨_, h, _⟩ := h; exact nomatch h)) 5 1 [⟨.quiet, [none], fun _ => mv, []⟩, ⟨.quiet, [none], fun _ => .int .i64 (n : Int), []⟩, ⟨.actv 0, [some false], fun _ => .int .u64 y, [0, 1]⟩, ⟨.quiet, [none], fun _ => .int .u64 x, []⟩, ⟨.quiet, [some true], fun _ => .bool false, [2, 3]⟩] [(4, .pointer (some ⟨gx, 0, none⟩)), (5, .pointer (some ⟨gm, 0, none⟩)), (6, .int .i64 0), (7, .pointer (some ⟨gv, 0, none⟩)), (8, .int .i64 (n : Int))] (fun ρ => match ρ with | [rq0] => [cell gv 3 #[.int .i64 z], cell gm 41 #[mv], cell gx 42 #[.int .u64 x], X, recT L1 (busyR r1)] | _ => []) (by kernel_rfl) (by kernel_rfl) (by kernel_rfl) ⟨rfl, rfl, rfl, rfl, rfl, trivial⟩ rfl ?_ ?_
        · skip
          refine s_cons (by intro r0_; exact ⟨rfl, fun b w hH hb => exec_load rfl rfl (reads_one ty_s_uint64 rfl) (hH.row 1 rfl) hb⟩) ?_
          refine s_cons (by intro r0_; exact ⟨rfl, fun b w hH hb => exec_q1 hflS rfl hb⟩) ?_
          refine s_cons (by exact ⟨rfl, Acts.su (a_does (os' := fun _ => [cell gv 3 #[.int .i64 z], cell gm 41 #[mv], cell gx 42 #[.int .u64 x], X, recT L1 (busyR r1)]) [3] 0 (ent_of Try.func36 (by kernel_rfl) rfl) (number_any X mv l hX hl n y hy) rfl rfl rfl (fun _ => rfl) rfl rfl rfl) rfl⟩) ?_
          refine s_cons (by intro r0_; exact ⟨rfl, fun b w hH hb => exec_load rfl rfl (reads_one ty_uint64 rfl) (hH.row 2 rfl) hb⟩) ?_
          refine s_cons (by intro v0_; exact ⟨rfl, fun b w hH hb => exec_cmp rfl rfl rfl (cmp_geq_f (by omega)) hb⟩) ?_
          exact s_nil
        intro v0_
        refine WL2.keep (env' := [(6, .int .i64 0), (7, .pointer (some ⟨gv, 0, none⟩)), (8, .int .i64 (n : Int)), (16, .bool false)]) ⟨rfl, rfl, rfl, rfl, trivial⟩ ?_
        refine h_nil ?_
        refine r_to ?_
        refine r_else rfl ?_
        refine r_skip ?_
        refine f_block ?_
        refine f_close [0, 1, 2, 3] rfl (rcI_mk hz2) rfl ?_
        exact r_tell [1, 0] rfl rfl
      · skip
        obtain ⟨z2, hz2⟩ : ∃ z2, ((rch s x l (n + 1) : Nat) : Int) = z2 := ⟨_, rfl⟩
        obtain ⟨q, hq⟩ : ∃ q, (2 : Int) ^ ((n : Int)).toNat = q := ⟨_, rfl⟩
        have hor := mk_yes (p := rchP s x l) hz h1 h7 (by unfold rchP; rw [hb, hy]; simp; omega) hq hz2
        have hn7 : (1 : Int) ≤ (n : Int) ∧ (n : Int) ≤ 7 := by omega
        refine r_seq ?_
        refine r_parS (by rintro ⟨a, w, h⟩; first | exact h.elim | exact nomatch h.1 | (obtain ⟨_, h, _⟩ := h; exact nomatch h)) 5 1 [⟨.quiet, [none], fun _ => mv, []⟩, ⟨.quiet, [none], fun _ => .int .i64 (n : Int), []⟩, ⟨.actv 0, [some false], fun _ => .int .u64 y, [0, 1]⟩, ⟨.quiet, [none], fun _ => .int .u64 x, []⟩, ⟨.quiet, [some true], fun _ => .bool true, [2, 3]⟩] [(4, .pointer (some ⟨gx, 0, none⟩)), (5, .pointer (some ⟨gm, 0, none⟩)), (6, .int .i64 0), (7, .pointer (some ⟨gv, 0, none⟩)), (8, .int .i64 (n : Int))] (fun ρ => match ρ with | [rq0] => [cell gv 3 #[.int .i64 z], cell gm 41 #[mv], cell gx 42 #[.int .u64 x], X, recT L1 (busyR r1)] | _ => []) (by kernel_rfl) (by kernel_rfl) (by kernel_rfl) ⟨rfl, rfl, rfl, rfl, rfl, trivial⟩ rfl ?_ ?_
        · skip
          refine s_cons (by intro r0_; exact ⟨rfl, fun b w hH hb => exec_load rfl rfl (reads_one ty_s_uint64 rfl) (hH.row 1 rfl) hb⟩) ?_
          refine s_cons (by intro r0_; exact ⟨rfl, fun b w hH hb => exec_q1 hflS rfl hb⟩) ?_
          refine s_cons (by exact ⟨rfl, Acts.su (a_does (os' := fun _ => [cell gv 3 #[.int .i64 z], cell gm 41 #[mv], cell gx 42 #[.int .u64 x], X, recT L1 (busyR r1)]) [3] 0 (ent_of Try.func36 (by kernel_rfl) rfl) (number_any X mv l hX hl n y hy) rfl rfl rfl (fun _ => rfl) rfl rfl rfl) rfl⟩) ?_
          refine s_cons (by intro r0_; exact ⟨rfl, fun b w hH hb => exec_load rfl rfl (reads_one ty_uint64 rfl) (hH.row 2 rfl) hb⟩) ?_
          refine s_cons (by intro v0_; exact ⟨rfl, fun b w hH hb => exec_cmp rfl rfl rfl (cmp_geq_t (by omega)) hb⟩) ?_
          exact s_nil
        intro v0_
        refine WL2.keep (env' := [(6, .int .i64 0), (7, .pointer (some ⟨gv, 0, none⟩)), (8, .int .i64 (n : Int)), (16, .bool true)]) ⟨rfl, rfl, rfl, rfl, trivial⟩ ?_
        refine h_nil ?_
        refine r_to ?_
        refine r_then rfl ?_
        refine r_parS (by rintro ⟨a, w, h⟩; first | exact h.elim | exact nomatch h.1 | (obtain ⟨_, h, _⟩ := h; exact nomatch h)) 4 0 [⟨.quiet, [], fun _ => .int .i64 z, []⟩, ⟨.quiet, [], fun _ => .int .i64 (n : Int), []⟩, ⟨.quiet, [], fun _ => .int .i64 q, [1]⟩, ⟨.quiet, [], fun _ => .int .i64 z2, [0, 2]⟩] [(6, .int .i64 0), (7, .pointer (some ⟨gv, 0, none⟩)), (8, .int .i64 (n : Int))] (fun _ => [cell gv 3 #[.int .i64 z], cell gm 41 #[mv], cell gx 42 #[.int .u64 x], X, recT L1 (busyR r1)]) (by kernel_rfl) (by kernel_rfl) (by kernel_rfl) ⟨rfl, rfl, rfl, trivial⟩ rfl ?_ ?_
        · skip
          refine s_cons (by exact ⟨rfl, fun b w hH hb => exec_load rfl rfl (reads_one ty_int rfl) (hH.row 0 rfl) hb⟩) ?_
          refine s_cons (by exact ⟨rfl, fun b w hH hb => exec_q1 hflS rfl hb⟩) ?_
          refine s_cons (by exact ⟨rfl, fun b w hH hb => exec_shl7 hn7 hq rfl rfl rfl hb⟩) ?_
          refine s_cons (by exact ⟨rfl, fun b w hH hb => exec_orI hor rfl rfl rfl hb⟩) ?_
          exact s_nil
        refine WL2.keep (env' := [(6, .int .i64 0), (7, .pointer (some ⟨gv, 0, none⟩)), (20, .int .i64 z2)]) ⟨rfl, rfl, rfl, trivial⟩ ?_
        refine h_q hflS rfl ?_
        refine h_acts (post := fun _ => [cell gv 3 #[.int .i64 z2], cell gm 41 #[mv], cell gx 42 #[.int .u64 x], X, recT L1 (busyR r1)]) rfl rfl (a_store 0 (v := .int .i64 z2) #[.int .i64 z2] ty_int.2 rfl rfl rfl rfl rfl rfl rfl rfl rfl) ?_; rintro ⟨⟩
        refine h_nil (f_block ?_)
        refine f_close [0, 1, 2, 3] rfl (rcI_mk hz2) rfl ?_
        exact r_tell [1, 0] rfl rfl
  intro D aT wT hDm hD0 hdf hF hH
  obtain ⟨z, hH⟩ := hp_open 0 rfl RcI.open_ hH
  have hz := thing_is (p := (((rch s x l 8 : Nat) : Int) = z)) 0 rfl (fun _ h => h.2) hH
  refine t_to (env := [(6, .int .i64 0), (7, .pointer (some ⟨gv, 0, none⟩))]) (os := [fact (((rch s x l 8 : Nat) : Int) = z), cell gv 3 #[.int .i64 z], cell gm 41 #[mv], cell gx 42 #[.int .u64 x], X, cell g 3 #[.int .i64 s]]) ?_ aT wT hDm hD0 hdf (hF.keep ⟨rfl, rfl, trivial⟩) hH
  refine t_reg ?_
  refine t_val rfl (.int .i64 z) (fun b w hb hH => exec_load rfl rfl (reads_one ty_int rfl) (hH.row 1 rfl) hb) ?_
  refine t_val rfl (.int .i64 z) (fun b w hb hH => exec_q1 hflS rfl hb) ?_
  refine t_done ?_
  refine WCT.keep (env' := [(6, .int .i64 z)]) ⟨rfl, trivial⟩ ?_
  exact t_ret (fun a w hD hD0 hd hF hH => m_fin1 (os := [fact (((rch s x l 8 : Nat) : Int) = z), cell gv 3 #[.int .i64 z], cell gm 41 #[mv], cell gx 42 #[.int .u64 x], X, cell g 3 #[.int .i64 s]]) (.tmp rfl) rfl (fun w' h => tells (X := Unit) (val := fun _ => .int .i64 ((rch s x l 8 : Nat) : Int)) (post := fun _ => [X]) (os := [fact (((rch s x l 8 : Nat) : Int) = z), cell gv 3 #[.int .i64 z], cell gm 41 #[mv], cell gx 42 #[.int .u64 x], X, cell g 3 #[.int .i64 s]]) () (by rw [hz]) [4] rfl h same_parts) D a w hD hD0 hd hF hH)
end Go.Proofs.Ytmcdjniebkfagaa.Sep
