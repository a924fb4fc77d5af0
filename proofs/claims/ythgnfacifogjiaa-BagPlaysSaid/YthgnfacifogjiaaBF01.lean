/-
  BagA
-/
import Derived.Test.YthgnfacifogjiaaBD04
import Derived.Test.YthgnfacifogjiaaBD05
set_option linter.unusedSimpArgs false
set_option linter.unusedVariables false

namespace Go.Proofs.Ythgnfacifogjiaa.Sep
open Go.RowKit
open Go.Proofs.Ythgnfacifogjiaa.Mem (Dist Blk Chg below0)

/-! ## A bag over lists -/
section
variable {α : Type} {m k : Int} {l l1 : List α} {n n1 : Int} {x x1 d : α} {b1 : Bool} {i : Nat}
def putB (m : Int) (l : List α) (n : Int) (x : α) : List α × Int × Bool := if (l.length : Int) < m then (l ++ [x], n, true) else (l, n + 1, false)
def peekB (l : List α) (k : Int) (d : α) : α × Bool := if 0 ≤ k ∧ k < (l.length : Int) then ((l[k.toNat]?).getD d, true) else (d, false)
def takeB (l : List α) (k : Int) (d : α) : List α × α × Bool := if 0 ≤ k ∧ k < (l.length : Int) then (l.take k.toNat ++ l.drop (k.toNat + 1), (l[k.toNat]?).getD d, true) else (l, d, false)
def dblB (m : Int) (l : List α) (k : Int) : List α × Bool := if 0 ≤ k ∧ k < (l.length : Int) ∧ (l.length : Int) < m then (l ++ (l[k.toNat]?).toList, true) else (l, false)
theorem putB_t (h : (l.length : Int) < m) (hp : putB m l n x = (l1, n1, b1)) : l1 = l ++ [x] ∧ n = n1 ∧ b1 = true := by
  unfold putB at hp; rw [if_pos h] at hp; cases hp; exact ⟨rfl, rfl, rfl⟩
theorem putB_f (h : m ≤ (l.length : Int)) (hp : putB m l n x = (l1, n1, b1)) : l = l1 ∧ n1 = n + 1 ∧ b1 = false := by
  unfold putB at hp; rw [if_neg (by omega)] at hp; cases hp; exact ⟨rfl, rfl, rfl⟩
theorem idxB (h : 0 ≤ k ∧ k < (l.length : Int)) : ∃ (i : Nat) (x : α), k = (i : Int) ∧ i < l.length ∧ l[i]? = some x := by
  refine ⟨k.toNat, l[k.toNat]'(by omega), by omega, by omega, ?_⟩
  exact List.getElem?_eq_getElem _
theorem peekB_t (hx : l[i]? = some x) (hp : peekB l (i : Int) d = (x1, b1)) : x = x1 ∧ b1 = true := by
  have := (List.getElem?_eq_some_iff.1 hx).1
  unfold peekB at hp; rw [if_pos (by omega)] at hp; simp [hx] at hp; exact ⟨hp.1, hp.2⟩
theorem peekB_f (h : ¬ (0 ≤ k ∧ k < (l.length : Int))) (hp : peekB l k d = (x1, b1)) : x1 = d ∧ b1 = false := by
  unfold peekB at hp; rw [if_neg h] at hp; cases hp; exact ⟨rfl, rfl⟩
theorem takeB_t (hx : l[i]? = some x) (hp : takeB l (i : Int) d = (l1, x1, b1)) : l1 = l.take i ++ l.drop (i + 1) ∧ x = x1 ∧ b1 = true := by
  have := (List.getElem?_eq_some_iff.1 hx).1
  unfold takeB at hp; rw [if_pos (by omega)] at hp; simp [hx] at hp; exact ⟨hp.1.symm, hp.2.1, hp.2.2⟩
theorem takeB_f (h : ¬ (0 ≤ k ∧ k < (l.length : Int))) (hp : takeB l k d = (l1, x1, b1)) : l = l1 ∧ x1 = d ∧ b1 = false := by
  unfold takeB at hp; rw [if_neg h] at hp; cases hp; exact ⟨rfl, rfl, rfl⟩
theorem dblB_t (hx : l[i]? = some x) (hm : (l.length : Int) < m) (hp : dblB m l (i : Int) = (l1, b1)) : l1 = l ++ [x] ∧ b1 = true := by
  have := (List.getElem?_eq_some_iff.1 hx).1
  unfold dblB at hp; rw [if_pos (by omega)] at hp; simp [hx] at hp; exact ⟨hp.1.symm, hp.2⟩
theorem dblB_f (h : ¬ (0 ≤ k ∧ k < (l.length : Int) ∧ (l.length : Int) < m)) (hp : dblB m l k = (l1, b1)) : l = l1 ∧ b1 = false := by
  unfold dblB at hp; rw [if_neg h] at hp; cases hp; exact ⟨rfl, rfl⟩
/-- a bag as a thing -/
def BagT (B E : TypeId) (enc : α → List Value) (p : Nat) (m : Int) (l : List α) (n : Int) : Ass := fun rs => ∃ v : Value, Parts [cell p B #[.int .i64 m, v, .int .i64 n], Vec E 1 enc v l] rs
theorem BagT.open_ {B E : TypeId} {enc : α → List Value} {p : Nat} : ∀ rs, BagT B E enc p m l n rs → ∃ v : Value, Parts [cell p B #[.int .i64 m, v, .int .i64 n], Vec E 1 enc v l] rs := fun _ h => h
theorem bag_and {B E : TypeId} {enc : α → List Value} {p : Nat} {v : Value} {o : Ass} : ∀ {rs}, Parts [cell p B #[.int .i64 m, v, .int .i64 n], Vec E 1 enc v l, o] rs → Parts [BagT B E enc p m l n, o] rs := fun h => by
  obtain ⟨r1, r2, rfl, h1, r3, r4, rfl, h2, r5, r6, rfl, h3, h4⟩ := h
  cases h4
  exact ⟨r1 ++ r3, r5, by simp, ⟨v, r1, r3, by simp, h1, r3, [], by simp, h2, rfl⟩, r5, [], by simp, h3, rfl⟩
theorem BagT.mk_ {B E : TypeId} {enc : α → List Value} {p : Nat} {v : Value} : ∀ rs, Parts [cell p B #[.int .i64 m, v, .int .i64 n], Vec E 1 enc v l] rs → BagT B E enc p m l n rs := fun _ h => ⟨v, h⟩
end

theorem bag_new_int (m : Int) (g : Nat) (z : List RowT) (hz : Parts [cell g 52 #[.int .i64 m, .slice none 0 0, .int .i64 0]] z) : Parts [BagT 52 3 encI g m ([]) 0] z :=
  Parts.one ⟨.slice none 0 0, z, [], by simp, hz.one', [], [], rfl, nilVec _ _ _, rfl⟩

set_option maxRecDepth 100000 in
theorem new_int (m : Int) (hm : 1 ≤ m ∧ m ≤ 256) : Does Try.prog 7 #[.int .i64 m] [] (fun (g : Nat) => .tuple #[.pointer (some ⟨g, 0, none⟩), .int .i64 0]) (fun (g : Nat) => [BagT 52 3 encI g m ([]) 0]) := by
  refine d_ins (args := [.int .i64 m]) 13 Try.func7 rfl rfl rfl ?_; intro w rs
  refine d_reg ?_
  refine h_q hflS rfl ?_
  refine h_done (d_seq (d_reg ?_))
  refine h_q hflS rfl ?_
  refine h_val rfl (.bool false) (fun b w hb hH => exec_cmp rfl rfl rfl (cmp_lss_f (by omega)) hb) ?_
  refine h_q hflS rfl ?_
  refine h_val rfl (.bool false) (fun b w hb hH => exec_cmp rfl rfl rfl (cmp_gtr_f (by omega)) hb) ?_
  refine h_q hflS rfl ?_
  refine h_done (d_else rfl (d_skip (f_to (d_reg ?_))))
  refine h_q hflS rfl ?_
  refine h_val rfl (.agg #[.int .i64 m, .slice none 0 0, .int .i64 0]) (fun b w hb hH => exec_build rfl rfl (by kernel_rfl) hb) ?_
  refine h_act (post := fun g1 => [cell g1 52 #[.int .i64 m, .slice none 0 0, .int .i64 0]]) rfl (a_box (cs := #[.int .i64 m, .slice none 0 0, .int .i64 0]) rfl rfl rfl) ?_; rintro g1
  refine h_q hflS rfl ?_
  refine h_done (d_ret ?_)
  exact f_fin2 (.tmp rfl) (.tmp rfl) (fun w h => tells g1 rfl [0] rfl h (fun z hz => ⟨z, .refl _, bag_new_int m g1 z hz⟩)) rfl

set_option maxRecDepth 100000 in
theorem new_err_int (w : World) (m : Int) (hm : ¬ (1 ≤ m ∧ m ≤ 256)) : Calls Try.prog 7 #[.int .i64 m] w fun e w' => e = .returned (.tuple #[.pointer none, .int .i64 1]) ∧ Below w.heap.size w w' := by
  refine d_in (args := [.int .i64 m]) 13 Try.func7 rfl rfl rfl ?_
  refine d_reg ?_
  refine h_q hflS rfl ?_
  refine h_done (d_seq ?_)
  by_cases h1 : m < 1
  · skip
    refine d_reg ?_
    refine h_q hflS rfl ?_
    refine h_val rfl (.bool true) (fun b w hb hH => exec_cmp rfl rfl rfl (cmp_lss_t (by omega)) hb) ?_
    refine h_q hflS rfl ?_
    refine h_done (d_then rfl (d_reg ?_))
    refine h_q hflS rfl ?_
    refine h_done (d_ret (f_then_ret ?_))
    exact f_fin2 (.tmp rfl) (.tmp rfl) (fun w h => ⟨rfl, below0 h.up⟩) rfl
  · skip
    refine d_reg ?_
    refine h_q hflS rfl ?_
    refine h_val rfl (.bool false) (fun b w hb hH => exec_cmp rfl rfl rfl (cmp_lss_f (by omega)) hb) ?_
    refine h_q hflS rfl ?_
    refine h_val rfl (.bool true) (fun b w hb hH => exec_cmp rfl rfl rfl (cmp_gtr_t (by omega)) hb) ?_
    refine h_q hflS rfl ?_
    refine h_done (d_then rfl (d_reg ?_))
    refine h_q hflS rfl ?_
    refine h_done (d_ret (f_then_ret ?_))
    exact f_fin2 (.tmp rfl) (.tmp rfl) (fun w h => ⟨rfl, below0 h.up⟩) rfl

set_option maxRecDepth 100000 in
theorem full_t_int (p : Nat) (m : Int) (l : List (Int)) (n : Int) (hm : m ≤ 256) (hl : (l.length : Int) ≤ m) (h : m ≤ (l.length : Int)) : Does Try.prog 33 #[.pointer (some ⟨p, 0, none⟩)] [BagT 52 3 encI p m l n] (fun (_ : Unit) => .bool true) (fun (_ : Unit) => [BagT 52 3 encI p m l n]) := by
  refine d_ins (args := [.pointer (some ⟨p, 0, none⟩)]) 13 Try.func33 rfl rfl rfl ?_; intro w rs
  refine d_open 0 rfl BagT.open_ (fun _ => rfl) ?_; rintro bv
  refine WC2.keep (env' := [(0, .pointer (some ⟨p, 0, none⟩))]) ⟨rfl, trivial⟩ ?_
  refine WC2.mid [cell p 52 #[.int .i64 m, bv, .int .i64 n], Vec 3 1 encI bv l] (.refl _) ?_
  refine d_reg ?_
  refine h_q hflS rfl ?_
  refine h_done (d_seq ?_)
  refine d_parS 10 0 [⟨.quiet, [], fun _ => .pointer (some ⟨p, 0, none⟩), []⟩, ⟨.quiet, [], fun _ => .pointer (some ⟨p, 0, none⟩), [0]⟩, ⟨.quiet, [], fun _ => .pointer (some ⟨p, 1, none⟩), [1]⟩, ⟨.quiet, [], fun _ => bv, [2]⟩, ⟨.quiet, [], fun _ => .int .i64 (l.length : Int), [3]⟩, ⟨.quiet, [], fun _ => .pointer (some ⟨p, 0, none⟩), []⟩, ⟨.quiet, [], fun _ => .pointer (some ⟨p, 0, none⟩), [5]⟩, ⟨.quiet, [], fun _ => .pointer (some ⟨p, 0, none⟩), [6]⟩, ⟨.quiet, [], fun _ => .int .i64 m, [7]⟩, ⟨.quiet, [], fun _ => .bool true, [4, 8]⟩] [(0, .pointer (some ⟨p, 0, none⟩)), (2, .bool false)] (fun _ => [cell p 52 #[.int .i64 m, bv, .int .i64 n], Vec 3 1 encI bv l]) (by kernel_rfl) (by kernel_rfl) ⟨rfl, rfl, trivial⟩ rfl ?_ ?_
  · skip
    refine s_cons (by exact ⟨rfl, fun b w hH hb => exec_q1 hflS rfl hb⟩) ?_
    refine s_cons (by exact ⟨rfl, fun b w hH hb => by exact exec_nilCheck rfl rfl hb⟩) ?_
    refine s_cons (by exact ⟨rfl, fun b w hH hb => exec_q1 hflS rfl hb⟩) ?_
    refine s_cons (by exact ⟨rfl, fun b w hH hb => exec_load rfl rfl (reads_one ty_s_int rfl) (hH.row 0 rfl) hb⟩) ?_
    refine s_cons (by exact ⟨rfl, fun b w hH hb => e_vlen 1 Try.underlying37 rfl rfl rfl hH hb⟩) ?_
    refine s_cons (by exact ⟨rfl, fun b w hH hb => exec_q1 hflS rfl hb⟩) ?_
    refine s_cons (by exact ⟨rfl, fun b w hH hb => by exact exec_nilCheck rfl rfl hb⟩) ?_
    refine s_cons (by exact ⟨rfl, fun b w hH hb => exec_q1 hflS rfl hb⟩) ?_
    refine s_cons (by exact ⟨rfl, fun b w hH hb => exec_load rfl rfl (reads_one ty_int rfl) (hH.row 0 rfl) hb⟩) ?_
    refine s_cons (by exact ⟨rfl, fun b w hH hb => exec_cmp rfl rfl rfl (cmp_geq_t (by omega)) hb⟩) ?_
    exact s_nil
  refine WL2.keep (env' := [(2, .bool false), (12, .bool true)]) ⟨rfl, rfl, trivial⟩ ?_
  refine h_q hflS rfl ?_
  refine h_nil (f_to (d_ret ?_))
  exact f_fin1 (.tmp rfl) (fun w h => tells () rfl [0, 1] rfl h (fun z hz => ⟨z, .refl _, Parts.one (BagT.mk_ _ hz)⟩)) rfl

set_option maxRecDepth 100000 in
theorem full_f_int (p : Nat) (m : Int) (l : List (Int)) (n : Int) (hm : m ≤ 256) (hl : (l.length : Int) ≤ m) (h : (l.length : Int) < m) : Does Try.prog 33 #[.pointer (some ⟨p, 0, none⟩)] [BagT 52 3 encI p m l n] (fun (_ : Unit) => .bool false) (fun (_ : Unit) => [BagT 52 3 encI p m l n]) := by
  refine d_ins (args := [.pointer (some ⟨p, 0, none⟩)]) 13 Try.func33 rfl rfl rfl ?_; intro w rs
  refine d_open 0 rfl BagT.open_ (fun _ => rfl) ?_; rintro bv
  refine WC2.keep (env' := [(0, .pointer (some ⟨p, 0, none⟩))]) ⟨rfl, trivial⟩ ?_
  refine WC2.mid [cell p 52 #[.int .i64 m, bv, .int .i64 n], Vec 3 1 encI bv l] (.refl _) ?_
  refine d_reg ?_
  refine h_q hflS rfl ?_
  refine h_done (d_seq ?_)
  refine d_parS 10 0 [⟨.quiet, [], fun _ => .pointer (some ⟨p, 0, none⟩), []⟩, ⟨.quiet, [], fun _ => .pointer (some ⟨p, 0, none⟩), [0]⟩, ⟨.quiet, [], fun _ => .pointer (some ⟨p, 1, none⟩), [1]⟩, ⟨.quiet, [], fun _ => bv, [2]⟩, ⟨.quiet, [], fun _ => .int .i64 (l.length : Int), [3]⟩, ⟨.quiet, [], fun _ => .pointer (some ⟨p, 0, none⟩), []⟩, ⟨.quiet, [], fun _ => .pointer (some ⟨p, 0, none⟩), [5]⟩, ⟨.quiet, [], fun _ => .pointer (some ⟨p, 0, none⟩), [6]⟩, ⟨.quiet, [], fun _ => .int .i64 m, [7]⟩, ⟨.quiet, [], fun _ => .bool false, [4, 8]⟩] [(0, .pointer (some ⟨p, 0, none⟩)), (2, .bool false)] (fun _ => [cell p 52 #[.int .i64 m, bv, .int .i64 n], Vec 3 1 encI bv l]) (by kernel_rfl) (by kernel_rfl) ⟨rfl, rfl, trivial⟩ rfl ?_ ?_
  · skip
    refine s_cons (by exact ⟨rfl, fun b w hH hb => exec_q1 hflS rfl hb⟩) ?_
    refine s_cons (by exact ⟨rfl, fun b w hH hb => by exact exec_nilCheck rfl rfl hb⟩) ?_
    refine s_cons (by exact ⟨rfl, fun b w hH hb => exec_q1 hflS rfl hb⟩) ?_
    refine s_cons (by exact ⟨rfl, fun b w hH hb => exec_load rfl rfl (reads_one ty_s_int rfl) (hH.row 0 rfl) hb⟩) ?_
    refine s_cons (by exact ⟨rfl, fun b w hH hb => e_vlen 1 Try.underlying37 rfl rfl rfl hH hb⟩) ?_
    refine s_cons (by exact ⟨rfl, fun b w hH hb => exec_q1 hflS rfl hb⟩) ?_
    refine s_cons (by exact ⟨rfl, fun b w hH hb => by exact exec_nilCheck rfl rfl hb⟩) ?_
    refine s_cons (by exact ⟨rfl, fun b w hH hb => exec_q1 hflS rfl hb⟩) ?_
    refine s_cons (by exact ⟨rfl, fun b w hH hb => exec_load rfl rfl (reads_one ty_int rfl) (hH.row 0 rfl) hb⟩) ?_
    refine s_cons (by exact ⟨rfl, fun b w hH hb => exec_cmp rfl rfl rfl (cmp_geq_f (by omega)) hb⟩) ?_
    exact s_nil
  refine WL2.keep (env' := [(2, .bool false), (12, .bool false)]) ⟨rfl, rfl, trivial⟩ ?_
  refine h_q hflS rfl ?_
  refine h_nil (f_to (d_ret ?_))
  exact f_fin1 (.tmp rfl) (fun w h => tells () rfl [0, 1] rfl h (fun z hz => ⟨z, .refl _, Parts.one (BagT.mk_ _ hz)⟩)) rfl

set_option maxRecDepth 100000 in
theorem put_int (p : Nat) (m : Int) (l : List (Int)) (n : Int) (x : Int) (hm : m ≤ 256) (hl : (l.length : Int) ≤ m) (hn : -4611686018427387904 ≤ n ∧ n ≤ 4611686018427387904) (R1 : List (Int) × Int × Bool) (hp : putB m l n x = R1) : Does Try.prog 22 #[.pointer (some ⟨p, 0, none⟩), .int .i64 x] [BagT 52 3 encI p m l n] (fun (_ : Unit) => .bool R1.2.2) (fun (_ : Unit) => [BagT 52 3 encI p m R1.1 R1.2.1]) := by
  obtain ⟨L1, n1, b1⟩ := R1
  refine d_ins (args := [.pointer (some ⟨p, 0, none⟩), .int .i64 x]) 24 Try.func22 rfl rfl rfl ?_; intro w rs
  have hl34 : l.length ≤ 17179869184 := by omega
  refine d_reg ?_
  refine h_q hflS rfl ?_
  refine h_done (d_seq ?_)
  rcases Int.lt_or_le (l.length : Int) m with hf | hf
  · skip
    obtain ⟨rfl, rfl, rfl⟩ := putB_t hf hp
    refine d_reg ?_
    refine h_q hflS rfl ?_
    refine h_act (post := fun _ => [BagT 52 3 encI p m l n]) rfl (a_does (os' := fun _ => [BagT 52 3 encI p m l n]) [0] 0 (ent_of Try.func33 (by kernel_rfl) rfl) (full_f_int p m l n hm hl hf) rfl rfl rfl (fun _ => rfl) rfl rfl rfl) ?_; rintro ⟨⟩
    refine h_done (d_else rfl (d_skip (f_to ?_)))
    refine d_open 0 rfl BagT.open_ (fun _ => rfl) ?_; rintro bv
    refine WC2.keep (env' := [(0, .pointer (some ⟨p, 0, none⟩)), (1, .int .i64 x), (4, .bool false), (5, .pointer (some ⟨p, 0, none⟩)), (6, .bool false)]) ⟨rfl, rfl, rfl, rfl, rfl, trivial⟩ ?_
    refine WC2.mid [cell p 52 #[.int .i64 m, bv, .int .i64 n], Vec 3 1 encI bv l] (.refl _) ?_
    refine d_reg ?_
    refine h_q hflS rfl ?_
    refine h_val rfl (.pointer (some ⟨p, 0, none⟩)) (fun b w hb hH => by exact exec_nilCheck rfl rfl hb) ?_
    refine h_q hflS rfl ?_
    refine h_val rfl (bv) (fun b w hb hH => exec_load rfl rfl (reads_one ty_s_int rfl) (hH.row 0 rfl) hb) ?_
    refine h_q hflS rfl ?_
    refine h_act (X := Value) (val := fun v : Value => v) (post := fun u1 => [Vec 3 1 encI u1 ([x]), cell p 52 #[.int .i64 m, bv, .int .i64 n], Vec 3 1 encI bv l]) rfl (by refine a_build1 (e := 3) (t := 37) (enc := encI) (x := .tmp 19) (c := .int .i64 x) ?_ ?_ x ?_ ?_ ?_; exact sl_int; exact okI; exact rfl; exact rfl; exact rfl) ?_; rintro u1
    refine h_act (post := fun u2 => [Vec 3 1 encI u1 ([x]), cell p 52 #[.int .i64 m, bv, .int .i64 n], Vec 3 1 encI u2 (l ++ [x])]) rfl (a_append 2 sl_int okI rfl ([x]) (fun w hH => hH.vec 0 rfl okI) (by simp; omega) rfl rfl rfl rfl) ?_; rintro u2
    refine h_val rfl (.pointer (some ⟨p, 0, none⟩)) (fun b w hb hH => by exact exec_nilCheck rfl rfl hb) ?_
    refine h_q hflS rfl ?_
    refine h_acts (post := fun _ => [Vec 3 1 encI u1 ([x]), cell p 52 #[.int .i64 m, u2, .int .i64 n], Vec 3 1 encI u2 (l ++ [x])]) rfl rfl (a_storev 1 2 (v := u2) #[.int .i64 m, u2, .int .i64 n] ty_s_int.2 rfl (fun _ h => Vec.c1 h) rfl rfl rfl rfl rfl rfl rfl) ?_; rintro ⟨⟩
    refine h_done (d_reg ?_)
    refine h_q hflS rfl ?_
    refine h_done (d_ret ?_)
    exact f_fin1 (.tmp rfl) (fun w h => tells () rfl [1, 2] rfl h (fun z hz => ⟨z, .refl _, Parts.one (BagT.mk_ _ hz)⟩)) rfl
  · skip
    obtain ⟨rfl, rfl, rfl⟩ := putB_f hf hp
    refine d_reg ?_
    refine h_q hflS rfl ?_
    refine h_act (post := fun _ => [BagT 52 3 encI p m l n]) rfl (a_does (os' := fun _ => [BagT 52 3 encI p m l n]) [0] 0 (ent_of Try.func33 (by kernel_rfl) rfl) (full_t_int p m l n hm hl hf) rfl rfl rfl (fun _ => rfl) rfl rfl rfl) ?_; rintro ⟨⟩
    refine h_done (d_then rfl ?_)
    refine d_open 0 rfl BagT.open_ (fun _ => rfl) ?_; rintro bv
    refine WC2.keep (env' := [(0, .pointer (some ⟨p, 0, none⟩)), (1, .int .i64 x), (4, .bool false), (5, .pointer (some ⟨p, 0, none⟩)), (6, .bool true)]) ⟨rfl, rfl, rfl, rfl, rfl, trivial⟩ ?_
    refine WC2.mid [cell p 52 #[.int .i64 m, bv, .int .i64 n], Vec 3 1 encI bv l] (.refl _) ?_
    refine d_reg ?_
    refine h_q hflS rfl ?_
    refine h_val rfl (.pointer (some ⟨p, 0, none⟩)) (fun b w hb hH => by exact exec_nilCheck rfl rfl hb) ?_
    refine h_q hflS rfl ?_
    refine h_val rfl (.int .i64 n) (fun b w hb hH => exec_load rfl rfl (reads_one ty_int rfl) (hH.row 0 rfl) hb) ?_
    refine h_val rfl (.int .i64 (n + 1)) (fun b w hb hH => exec_ar rfl rfl rfl rfl (IntWalk.i64_in _ (by omega)) hb) ?_
    refine h_val rfl (.pointer (some ⟨p, 0, none⟩)) (fun b w hb hH => by exact exec_nilCheck rfl rfl hb) ?_
    refine h_q hflS rfl ?_
    refine h_acts (post := fun _ => [cell p 52 #[.int .i64 m, bv, .int .i64 (n + 1)], Vec 3 1 encI bv l]) rfl rfl (a_store 0 (v := .int .i64 (n + 1)) #[.int .i64 m, bv, .int .i64 (n + 1)] ty_int.2 rfl rfl rfl rfl rfl rfl rfl rfl rfl) ?_; rintro ⟨⟩
    refine h_done (d_reg ?_)
    refine h_q hflS rfl ?_
    refine h_done (d_ret (f_then_ret ?_))
    exact f_fin1 (.tmp rfl) (fun w h => tells () rfl [0, 1] rfl h (fun z hz => ⟨z, .refl _, Parts.one (BagT.mk_ _ hz)⟩)) rfl

set_option maxRecDepth 100000 in
theorem len_int (p : Nat) (m : Int) (l : List (Int)) (n : Int)  : Does Try.prog 24 #[.pointer (some ⟨p, 0, none⟩)] [BagT 52 3 encI p m l n] (fun (_ : Unit) => .int .i64 (l.length : Int)) (fun (_ : Unit) => [BagT 52 3 encI p m l n]) := by
  refine d_ins (args := [.pointer (some ⟨p, 0, none⟩)]) 8 Try.func24 rfl rfl rfl ?_; intro w rs
  refine d_open 0 rfl BagT.open_ (fun _ => rfl) ?_; rintro bv
  refine WC2.keep (env' := [(0, .pointer (some ⟨p, 0, none⟩))]) ⟨rfl, trivial⟩ ?_
  refine WC2.mid [cell p 52 #[.int .i64 m, bv, .int .i64 n], Vec 3 1 encI bv l] (.refl _) ?_
  refine d_reg ?_
  refine h_q hflS rfl ?_
  refine h_done (d_reg ?_)
  refine h_q hflS rfl ?_
  refine h_val rfl (.pointer (some ⟨p, 0, none⟩)) (fun b w hb hH => by exact exec_nilCheck rfl rfl hb) ?_
  refine h_q hflS rfl ?_
  refine h_val rfl (bv) (fun b w hb hH => exec_load rfl rfl (reads_one ty_s_int rfl) (hH.row 0 rfl) hb) ?_
  refine h_val rfl (.int .i64 (l.length : Int)) (fun b w hb hH => e_vlen 1 Try.underlying37 rfl rfl rfl hH hb) ?_
  refine h_q hflS rfl ?_
  refine h_done (d_ret ?_)
  exact f_fin1 (.tmp rfl) (fun w h => tells () rfl [0, 1] rfl h (fun z hz => ⟨z, .refl _, Parts.one (BagT.mk_ _ hz)⟩)) rfl

set_option maxRecDepth 100000 in
theorem lost_int (p : Nat) (m : Int) (l : List (Int)) (n : Int)  : Does Try.prog 25 #[.pointer (some ⟨p, 0, none⟩)] [BagT 52 3 encI p m l n] (fun (_ : Unit) => .int .i64 n) (fun (_ : Unit) => [BagT 52 3 encI p m l n]) := by
  refine d_ins (args := [.pointer (some ⟨p, 0, none⟩)]) 7 Try.func25 rfl rfl rfl ?_; intro w rs
  refine d_open 0 rfl BagT.open_ (fun _ => rfl) ?_; rintro bv
  refine WC2.keep (env' := [(0, .pointer (some ⟨p, 0, none⟩))]) ⟨rfl, trivial⟩ ?_
  refine WC2.mid [cell p 52 #[.int .i64 m, bv, .int .i64 n], Vec 3 1 encI bv l] (.refl _) ?_
  refine d_reg ?_
  refine h_q hflS rfl ?_
  refine h_done (d_reg ?_)
  refine h_q hflS rfl ?_
  refine h_val rfl (.pointer (some ⟨p, 0, none⟩)) (fun b w hb hH => by exact exec_nilCheck rfl rfl hb) ?_
  refine h_q hflS rfl ?_
  refine h_val rfl (.int .i64 n) (fun b w hb hH => exec_load rfl rfl (reads_one ty_int rfl) (hH.row 0 rfl) hb) ?_
  refine h_q hflS rfl ?_
  refine h_done (d_ret ?_)
  exact f_fin1 (.tmp rfl) (fun w h => tells () rfl [0, 1] rfl h (fun z hz => ⟨z, .refl _, Parts.one (BagT.mk_ _ hz)⟩)) rfl

set_option maxRecDepth 100000 in
theorem peek_int (p : Nat) (m : Int) (l : List (Int)) (n : Int) (k : Int) (R1 : Int × Bool) (hp : peekB l k 0 = R1) : Does Try.prog 20 #[.pointer (some ⟨p, 0, none⟩), .int .i64 k] [BagT 52 3 encI p m l n] (fun (_ : Unit) => .tuple #[.int .i64 R1.1, .bool R1.2]) (fun (_ : Unit) => [BagT 52 3 encI p m l n]) := by
  obtain ⟨x1, b1⟩ := R1
  refine d_ins (args := [.pointer (some ⟨p, 0, none⟩), .int .i64 k]) 25 Try.func20 rfl rfl rfl ?_; intro w rs
  refine d_open 0 rfl BagT.open_ (fun _ => rfl) ?_; rintro bv
  refine WC2.keep (env' := [(0, .pointer (some ⟨p, 0, none⟩)), (1, .int .i64 k)]) ⟨rfl, rfl, trivial⟩ ?_
  refine WC2.mid [cell p 52 #[.int .i64 m, bv, .int .i64 n], Vec 3 1 encI bv l] (.refl _) ?_
  refine d_reg ?_
  refine h_q hflS rfl ?_
  refine h_done (d_seq ?_)
  rcases Classical.em (0 ≤ k ∧ k < (l.length : Int)) with hk | hk
  · skip
    obtain ⟨i, x, rfl, hi, hx⟩ := idxB hk
    obtain ⟨rfl, rfl⟩ := peekB_t hx hp
    refine d_reg ?_
    refine h_q hflS rfl ?_
    refine h_val rfl (.bool false) (fun b w hb hH => exec_cmp rfl rfl rfl (cmp_lss_f (by omega)) hb) ?_
    refine h_q hflS rfl ?_
    refine h_val rfl (.pointer (some ⟨p, 0, none⟩)) (fun b w hb hH => by exact exec_nilCheck rfl rfl hb) ?_
    refine h_q hflS rfl ?_
    refine h_val rfl (bv) (fun b w hb hH => exec_load rfl rfl (reads_one ty_s_int rfl) (hH.row 0 rfl) hb) ?_
    refine h_val rfl (.int .i64 (l.length : Int)) (fun b w hb hH => e_vlen 1 Try.underlying37 rfl rfl rfl hH hb) ?_
    refine h_val rfl (.bool false) (fun b w hb hH => exec_cmp rfl rfl rfl (cmp_geq_f (by omega)) hb) ?_
    refine h_q hflS rfl ?_
    refine h_done (d_else rfl (d_skip (f_to (d_reg ?_))))
    refine h_q hflS rfl ?_
    refine h_val rfl (.pointer (some ⟨p, 0, none⟩)) (fun b w hb hH => by exact exec_nilCheck rfl rfl hb) ?_
    refine h_q hflS rfl ?_
    refine h_val rfl (bv) (fun b w hb hH => exec_load rfl rfl (reads_one ty_s_int rfl) (hH.row 0 rfl) hb) ?_
    refine h_q hflS rfl ?_
    refine h_val rfl (elp bv (i * 1)) (fun b w hb hH => e_vidx 1 sl_int okI rfl i hi rfl rfl rfl hH hb) ?_
    refine h_val rfl (.int .i64 x) (fun b w hb hH => e_vload1 1 ty_int okI rfl i (a := x) hx rfl rfl rfl hH hb) ?_
    refine h_q hflS rfl ?_
    refine h_done (d_ret ?_)
    exact f_fin2 (.tmp rfl) (.tmp rfl) (fun w h => tells () rfl [0, 1] rfl h (fun z hz => ⟨z, .refl _, Parts.one (BagT.mk_ _ hz)⟩)) rfl
  · skip
    obtain ⟨rfl, rfl⟩ := peekB_f hk hp
    rcases Int.lt_or_le k 0 with h1 | h1
    · skip
      refine d_reg ?_
      refine h_q hflS rfl ?_
      refine h_val rfl (.bool true) (fun b w hb hH => exec_cmp rfl rfl rfl (cmp_lss_t h1) hb) ?_
      refine h_q hflS rfl ?_
      refine h_done (d_then rfl (d_reg ?_))
      refine h_q hflS rfl ?_
      refine h_done (d_ret (f_then_ret ?_))
      exact f_fin2 (.tmp rfl) (.tmp rfl) (fun w h => tells () rfl [0, 1] rfl h (fun z hz => ⟨z, .refl _, Parts.one (BagT.mk_ _ hz)⟩)) rfl
    · skip
      refine d_reg ?_
      refine h_q hflS rfl ?_
      refine h_val rfl (.bool false) (fun b w hb hH => exec_cmp rfl rfl rfl (cmp_lss_f (by omega)) hb) ?_
      refine h_q hflS rfl ?_
      refine h_val rfl (.pointer (some ⟨p, 0, none⟩)) (fun b w hb hH => by exact exec_nilCheck rfl rfl hb) ?_
      refine h_q hflS rfl ?_
      refine h_val rfl (bv) (fun b w hb hH => exec_load rfl rfl (reads_one ty_s_int rfl) (hH.row 0 rfl) hb) ?_
      refine h_val rfl (.int .i64 (l.length : Int)) (fun b w hb hH => e_vlen 1 Try.underlying37 rfl rfl rfl hH hb) ?_
      refine h_val rfl (.bool true) (fun b w hb hH => exec_cmp rfl rfl rfl (cmp_geq_t (by omega)) hb) ?_
      refine h_q hflS rfl ?_
      refine h_done (d_then rfl (d_reg ?_))
      refine h_q hflS rfl ?_
      refine h_done (d_ret (f_then_ret ?_))
      exact f_fin2 (.tmp rfl) (.tmp rfl) (fun w h => tells () rfl [0, 1] rfl h (fun z hz => ⟨z, .refl _, Parts.one (BagT.mk_ _ hz)⟩)) rfl

set_option maxRecDepth 100000 in
theorem take_int (p : Nat) (m : Int) (l : List (Int)) (n : Int) (k : Int) (hm : m ≤ 256) (hl : (l.length : Int) ≤ m) (R1 : List (Int) × Int × Bool) (hp : takeB l k 0 = R1) : Does Try.prog 16 #[.pointer (some ⟨p, 0, none⟩), .int .i64 k] [BagT 52 3 encI p m l n] (fun (_ : Unit) => .tuple #[.int .i64 R1.2.1, .bool R1.2.2]) (fun (_ : Unit) => [BagT 52 3 encI p m R1.1 n]) := by
  obtain ⟨L1, x1, b1⟩ := R1
  refine d_ins (args := [.pointer (some ⟨p, 0, none⟩), .int .i64 k]) 26 Try.func16 rfl rfl rfl ?_; intro w rs
  have hl34 : l.length ≤ 17179869184 := by omega
  refine d_reg ?_
  refine h_q hflS rfl ?_
  refine h_done ?_
  rcases Classical.em (0 ≤ k ∧ k < (l.length : Int)) with hk | hk
  · skip
    obtain ⟨i, x, rfl, hi, hx⟩ := idxB hk
    have hq : peekB l (i : Int) 0 = (x, true) := by unfold peekB; rw [if_pos (by omega)]; simp [hx]
    obtain ⟨rfl, rfl, rfl⟩ := takeB_t hx hp
    refine d_reg ?_
    refine h_q hflS rfl ?_
    refine h_act (post := fun _ => [BagT 52 3 encI p m l n]) rfl (a_does (os' := fun _ => [BagT 52 3 encI p m l n]) [0] 0 (ent_of Try.func20 (by kernel_rfl) rfl) (peek_int p m l n (i : Int) (x, true) hq) rfl rfl rfl (fun _ => rfl) rfl rfl rfl) ?_; rintro ⟨⟩
    refine h_q hflS rfl ?_
    refine h_done (d_seq (d_reg ?_))
    refine h_q hflS rfl ?_
    refine h_done (d_then rfl ?_)
    refine d_open 0 rfl BagT.open_ (fun _ => rfl) ?_; rintro bv
    refine WC2.keep (env' := [(0, .pointer (some ⟨p, 0, none⟩)), (1, .int .i64 (i : Int)), (7, .pointer (some ⟨p, 0, none⟩)), (8, .int .i64 (i : Int)), (9, .tuple #[.int .i64 x, .bool true]), (6, .tuple #[.int .i64 x, .bool true]), (10, .int .i64 x), (11, .bool true), (4, .int .i64 x), (5, .bool true), (12, .bool true)]) ⟨rfl, rfl, rfl, rfl, rfl, rfl, rfl, rfl, rfl, rfl, rfl, trivial⟩ ?_
    refine WC2.mid [cell p 52 #[.int .i64 m, bv, .int .i64 n], Vec 3 1 encI bv l] (.refl _) ?_
    refine d_reg1 ?_
    refine h_q hflS rfl ?_
    refine h_val rfl (.pointer (some ⟨p, 0, none⟩)) (fun b w hb hH => by exact exec_nilCheck rfl rfl hb) ?_
    refine h_q hflS rfl ?_
    refine h_val rfl (bv) (fun b w hb hH => exec_load rfl rfl (reads_one ty_s_int rfl) (hH.row 0 rfl) hb) ?_
    refine h_q hflS rfl ?_
    refine h_val rfl (.int .i64 ((i + 1 : Nat) : Int)) (fun b w hb hH => exec_ar rfl rfl rfl rfl (by rw [IntWalk.i64_in _ (by omega)]; omega) hb) ?_
    refine h_act (post := fun u => [cell p 52 #[.int .i64 m, bv, .int .i64 n], Vec 3 1 encI u (l.take i ++ l.drop (i + 1))]) rfl (a_does (os' := fun u => [cell p 52 #[.int .i64 m, bv, .int .i64 n], Vec 3 1 encI u (l.take i ++ l.drop (i + 1))]) [1] 0 (ent_of Try.func32 (by kernel_rfl) rfl) (delete_int bv l i hi hl34) rfl rfl rfl (fun _ => rfl) rfl rfl rfl) ?_; rintro u
    refine h_val rfl (.pointer (some ⟨p, 0, none⟩)) (fun b w hb hH => by exact exec_nilCheck rfl rfl hb) ?_
    refine h_q hflS rfl ?_
    refine h_acts (post := fun _ => [cell p 52 #[.int .i64 m, u, .int .i64 n], Vec 3 1 encI u (l.take i ++ l.drop (i + 1))]) rfl rfl (a_storev 0 1 (v := u) #[.int .i64 m, u, .int .i64 n] ty_s_int.2 rfl (fun _ h => Vec.c1 h) rfl rfl rfl rfl rfl rfl rfl) ?_; rintro ⟨⟩
    refine h_nil (f_to (d_reg ?_))
    refine h_q hflS rfl ?_
    refine h_done (d_ret ?_)
    exact f_fin2 (.tmp rfl) (.tmp rfl) (fun w h => tells () rfl [0, 1] rfl h (fun z hz => ⟨z, .refl _, Parts.one (BagT.mk_ _ hz)⟩)) rfl
  · skip
    have hq : peekB l k 0 = (0, false) := by unfold peekB; rw [if_neg hk]
    obtain ⟨rfl, rfl, rfl⟩ := takeB_f hk hp
    refine d_reg ?_
    refine h_q hflS rfl ?_
    refine h_act (post := fun _ => [BagT 52 3 encI p m l n]) rfl (a_does (os' := fun _ => [BagT 52 3 encI p m l n]) [0] 0 (ent_of Try.func20 (by kernel_rfl) rfl) (peek_int p m l n k (0, false) hq) rfl rfl rfl (fun _ => rfl) rfl rfl rfl) ?_; rintro ⟨⟩
    refine h_q hflS rfl ?_
    refine h_done (d_seq (d_reg ?_))
    refine h_q hflS rfl ?_
    refine h_done (d_else rfl (d_skip (f_to (d_reg ?_))))
    refine h_q hflS rfl ?_
    refine h_done (d_ret ?_)
    exact f_fin2 (.tmp rfl) (.tmp rfl) (fun w h => tells () rfl [0] rfl h same_parts) rfl

set_option maxRecDepth 100000 in
theorem dbl_int (p : Nat) (m : Int) (l : List (Int)) (n : Int) (k : Int) (hm : m ≤ 256) (hl : (l.length : Int) ≤ m) (hn : -4611686018427387904 ≤ n ∧ n ≤ 4611686018427387904) (R1 : List (Int) × Bool) (hp : dblB m l k = R1) : Does Try.prog 18 #[.pointer (some ⟨p, 0, none⟩), .int .i64 k] [BagT 52 3 encI p m l n] (fun (_ : Unit) => .bool R1.2) (fun (_ : Unit) => [BagT 52 3 encI p m R1.1 n]) := by
  obtain ⟨L1, b1⟩ := R1
  refine d_ins (args := [.pointer (some ⟨p, 0, none⟩), .int .i64 k]) 24 Try.func18 rfl rfl rfl ?_; intro w rs
  refine d_reg ?_
  refine h_q hflS rfl ?_
  refine h_done ?_
  rcases Classical.em (0 ≤ k ∧ k < (l.length : Int)) with hk | hk
  · skip
    obtain ⟨i, x, rfl, hi, hx⟩ := idxB hk
    have hq : peekB l (i : Int) 0 = (x, true) := by unfold peekB; rw [if_pos (by omega)]; simp [hx]
    rcases Int.lt_or_le (l.length : Int) m with hf | hf
    · skip
      obtain ⟨rfl, rfl⟩ := dblB_t hx hf hp
      have hpu : putB m l n x = (l ++ [x], n, true) := by unfold putB; rw [if_pos hf]
      refine d_reg ?_
      refine h_q hflS rfl ?_
      refine h_act (post := fun _ => [BagT 52 3 encI p m l n]) rfl (a_does (os' := fun _ => [BagT 52 3 encI p m l n]) [0] 0 (ent_of Try.func20 (by kernel_rfl) rfl) (peek_int p m l n (i : Int) (x, true) hq) rfl rfl rfl (fun _ => rfl) rfl rfl rfl) ?_; rintro ⟨⟩
      refine h_q hflS rfl ?_
      refine h_done (d_reg ?_)
      refine h_q hflS rfl ?_
      refine h_act (post := fun _ => [BagT 52 3 encI p m l n]) rfl (a_does (os' := fun _ => [BagT 52 3 encI p m l n]) [0] 0 (ent_of Try.func33 (by kernel_rfl) rfl) (full_f_int p m l n hm hl hf) rfl rfl rfl (fun _ => rfl) rfl rfl rfl) ?_; rintro ⟨⟩
      refine h_q hflS rfl ?_
      refine h_act (post := fun _ => [BagT 52 3 encI p m (l ++ [x]) n]) rfl (a_does (os' := fun _ => [BagT 52 3 encI p m (l ++ [x]) n]) [0] 0 (ent_of Try.func22 (by kernel_rfl) rfl) (put_int p m l n x hm hl hn (l ++ [x], n, true) hpu) rfl rfl rfl (fun _ => rfl) rfl rfl rfl) ?_; rintro ⟨⟩
      refine h_q hflS rfl ?_
      refine h_done (d_ret ?_)
      exact f_fin1 (.tmp rfl) (fun w h => tells () rfl [0] rfl h same_parts) rfl
    · skip
      obtain ⟨rfl, rfl⟩ := dblB_f (by omega) hp
      refine d_reg ?_
      refine h_q hflS rfl ?_
      refine h_act (post := fun _ => [BagT 52 3 encI p m l n]) rfl (a_does (os' := fun _ => [BagT 52 3 encI p m l n]) [0] 0 (ent_of Try.func20 (by kernel_rfl) rfl) (peek_int p m l n (i : Int) (x, true) hq) rfl rfl rfl (fun _ => rfl) rfl rfl rfl) ?_; rintro ⟨⟩
      refine h_q hflS rfl ?_
      refine h_done (d_reg ?_)
      refine h_q hflS rfl ?_
      refine h_act (post := fun _ => [BagT 52 3 encI p m l n]) rfl (a_does (os' := fun _ => [BagT 52 3 encI p m l n]) [0] 0 (ent_of Try.func33 (by kernel_rfl) rfl) (full_t_int p m l n hm hl hf) rfl rfl rfl (fun _ => rfl) rfl rfl rfl) ?_; rintro ⟨⟩
      refine h_q hflS rfl ?_
      refine h_done (d_ret ?_)
      exact f_fin1 (.tmp rfl) (fun w h => tells () rfl [0] rfl h same_parts) rfl
  · skip
    have hq : peekB l k 0 = (0, false) := by unfold peekB; rw [if_neg hk]
    obtain ⟨rfl, rfl⟩ := dblB_f (by omega) hp
    refine d_reg ?_
    refine h_q hflS rfl ?_
    refine h_act (post := fun _ => [BagT 52 3 encI p m l n]) rfl (a_does (os' := fun _ => [BagT 52 3 encI p m l n]) [0] 0 (ent_of Try.func20 (by kernel_rfl) rfl) (peek_int p m l n k (0, false) hq) rfl rfl rfl (fun _ => rfl) rfl rfl rfl) ?_; rintro ⟨⟩
    refine h_q hflS rfl ?_
    refine h_done (d_reg ?_)
    refine h_q hflS rfl ?_
    refine h_done (d_ret ?_)
    exact f_fin1 (.tmp rfl) (fun w h => tells () rfl [0] rfl h same_parts) rfl

set_option maxRecDepth 100000 in
theorem all_int (p : Nat) (m : Int) (l : List (Int)) (n : Int) (hl34 : l.length ≤ 17179869184) : Does Try.prog 26 #[.pointer (some ⟨p, 0, none⟩)] [BagT 52 3 encI p m l n] (fun (u : Value) => u) (fun (u : Value) => [BagT 52 3 encI p m l n, Vec 3 1 encI u l]) := by
  refine d_ins (args := [.pointer (some ⟨p, 0, none⟩)]) 8 Try.func26 rfl rfl rfl ?_; intro w rs
  refine d_open 0 rfl BagT.open_ (fun _ => rfl) ?_; rintro bv
  refine WC2.keep (env' := [(0, .pointer (some ⟨p, 0, none⟩))]) ⟨rfl, trivial⟩ ?_
  refine WC2.mid [cell p 52 #[.int .i64 m, bv, .int .i64 n], Vec 3 1 encI bv l] (.refl _) ?_
  refine d_reg ?_
  refine h_q hflS rfl ?_
  refine h_done (d_reg ?_)
  refine h_q hflS rfl ?_
  refine h_val rfl (.pointer (some ⟨p, 0, none⟩)) (fun b w hb hH => by exact exec_nilCheck rfl rfl hb) ?_
  refine h_q hflS rfl ?_
  refine h_val rfl (bv) (fun b w hb hH => exec_load rfl rfl (reads_one ty_s_int rfl) (hH.row 0 rfl) hb) ?_
  refine h_act (post := fun u => [Vec 3 1 encI u l, cell p 52 #[.int .i64 m, bv, .int .i64 n], Vec 3 1 encI bv l]) rfl (a_does (os' := fun u => [Vec 3 1 encI u l, cell p 52 #[.int .i64 m, bv, .int .i64 n], Vec 3 1 encI bv l]) [1] 0 (ent_of Try.func34 (by kernel_rfl) rfl) (clone_int (Vec 3 1 encI bv l) bv l (fun rs w h1 h2 => h1.all okI h2) hl34) rfl rfl rfl (fun _ => rfl) rfl rfl rfl) ?_; rintro u
  refine h_q hflS rfl ?_
  refine h_done (d_ret ?_)
  exact f_fin1 (.tmp rfl) (fun w h => tells u rfl [1, 2, 0] rfl h (fun z hz => ⟨z, .refl _, bag_and hz⟩)) rfl

theorem bag_new_string (m : Int) (g : Nat) (z : List RowT) (hz : Parts [cell g 54 #[.int .i64 m, .slice none 0 0, .int .i64 0]] z) : Parts [BagT 54 9 encS g m ([]) 0] z :=
  Parts.one ⟨.slice none 0 0, z, [], by simp, hz.one', [], [], rfl, nilVec _ _ _, rfl⟩

set_option maxRecDepth 100000 in
theorem new_string (m : Int) (hm : 1 ≤ m ∧ m ≤ 256) : Does Try.prog 8 #[.int .i64 m] [] (fun (g : Nat) => .tuple #[.pointer (some ⟨g, 0, none⟩), .int .i64 0]) (fun (g : Nat) => [BagT 54 9 encS g m ([]) 0]) := by
  refine d_ins (args := [.int .i64 m]) 13 Try.func8 rfl rfl rfl ?_; intro w rs
  refine d_reg ?_
  refine h_q hflS rfl ?_
  refine h_done (d_seq (d_reg ?_))
  refine h_q hflS rfl ?_
  refine h_val rfl (.bool false) (fun b w hb hH => exec_cmp rfl rfl rfl (cmp_lss_f (by omega)) hb) ?_
  refine h_q hflS rfl ?_
  refine h_val rfl (.bool false) (fun b w hb hH => exec_cmp rfl rfl rfl (cmp_gtr_f (by omega)) hb) ?_
  refine h_q hflS rfl ?_
  refine h_done (d_else rfl (d_skip (f_to (d_reg ?_))))
  refine h_q hflS rfl ?_
  refine h_val rfl (.agg #[.int .i64 m, .slice none 0 0, .int .i64 0]) (fun b w hb hH => exec_build rfl rfl (by kernel_rfl) hb) ?_
  refine h_act (post := fun g1 => [cell g1 54 #[.int .i64 m, .slice none 0 0, .int .i64 0]]) rfl (a_box (cs := #[.int .i64 m, .slice none 0 0, .int .i64 0]) rfl rfl rfl) ?_; rintro g1
  refine h_q hflS rfl ?_
  refine h_done (d_ret ?_)
  exact f_fin2 (.tmp rfl) (.tmp rfl) (fun w h => tells g1 rfl [0] rfl h (fun z hz => ⟨z, .refl _, bag_new_string m g1 z hz⟩)) rfl

set_option maxRecDepth 100000 in
theorem full_t_string (p : Nat) (m : Int) (l : List (List UInt8)) (n : Int) (hm : m ≤ 256) (hl : (l.length : Int) ≤ m) (h : m ≤ (l.length : Int)) : Does Try.prog 31 #[.pointer (some ⟨p, 0, none⟩)] [BagT 54 9 encS p m l n] (fun (_ : Unit) => .bool true) (fun (_ : Unit) => [BagT 54 9 encS p m l n]) := by
  refine d_ins (args := [.pointer (some ⟨p, 0, none⟩)]) 13 Try.func31 rfl rfl rfl ?_; intro w rs
  refine d_open 0 rfl BagT.open_ (fun _ => rfl) ?_; rintro bv
  refine WC2.keep (env' := [(0, .pointer (some ⟨p, 0, none⟩))]) ⟨rfl, trivial⟩ ?_
  refine WC2.mid [cell p 54 #[.int .i64 m, bv, .int .i64 n], Vec 9 1 encS bv l] (.refl _) ?_
  refine d_reg ?_
  refine h_q hflS rfl ?_
  refine h_done (d_seq ?_)
  refine d_parS 10 0 [⟨.quiet, [], fun _ => .pointer (some ⟨p, 0, none⟩), []⟩, ⟨.quiet, [], fun _ => .pointer (some ⟨p, 0, none⟩), [0]⟩, ⟨.quiet, [], fun _ => .pointer (some ⟨p, 1, none⟩), [1]⟩, ⟨.quiet, [], fun _ => bv, [2]⟩, ⟨.quiet, [], fun _ => .int .i64 (l.length : Int), [3]⟩, ⟨.quiet, [], fun _ => .pointer (some ⟨p, 0, none⟩), []⟩, ⟨.quiet, [], fun _ => .pointer (some ⟨p, 0, none⟩), [5]⟩, ⟨.quiet, [], fun _ => .pointer (some ⟨p, 0, none⟩), [6]⟩, ⟨.quiet, [], fun _ => .int .i64 m, [7]⟩, ⟨.quiet, [], fun _ => .bool true, [4, 8]⟩] [(0, .pointer (some ⟨p, 0, none⟩)), (2, .bool false)] (fun _ => [cell p 54 #[.int .i64 m, bv, .int .i64 n], Vec 9 1 encS bv l]) (by kernel_rfl) (by kernel_rfl) ⟨rfl, rfl, trivial⟩ rfl ?_ ?_
  · skip
    refine s_cons (by exact ⟨rfl, fun b w hH hb => exec_q1 hflS rfl hb⟩) ?_
    refine s_cons (by exact ⟨rfl, fun b w hH hb => by exact exec_nilCheck rfl rfl hb⟩) ?_
    refine s_cons (by exact ⟨rfl, fun b w hH hb => exec_q1 hflS rfl hb⟩) ?_
    refine s_cons (by exact ⟨rfl, fun b w hH hb => exec_load rfl rfl (reads_one ty_s_string rfl) (hH.row 0 rfl) hb⟩) ?_
    refine s_cons (by exact ⟨rfl, fun b w hH hb => e_vlen 1 Try.underlying48 rfl rfl rfl hH hb⟩) ?_
    refine s_cons (by exact ⟨rfl, fun b w hH hb => exec_q1 hflS rfl hb⟩) ?_
    refine s_cons (by exact ⟨rfl, fun b w hH hb => by exact exec_nilCheck rfl rfl hb⟩) ?_
    refine s_cons (by exact ⟨rfl, fun b w hH hb => exec_q1 hflS rfl hb⟩) ?_
    refine s_cons (by exact ⟨rfl, fun b w hH hb => exec_load rfl rfl (reads_one ty_int rfl) (hH.row 0 rfl) hb⟩) ?_
    refine s_cons (by exact ⟨rfl, fun b w hH hb => exec_cmp rfl rfl rfl (cmp_geq_t (by omega)) hb⟩) ?_
    exact s_nil
  refine WL2.keep (env' := [(2, .bool false), (12, .bool true)]) ⟨rfl, rfl, trivial⟩ ?_
  refine h_q hflS rfl ?_
  refine h_nil (f_to (d_ret ?_))
  exact f_fin1 (.tmp rfl) (fun w h => tells () rfl [0, 1] rfl h (fun z hz => ⟨z, .refl _, Parts.one (BagT.mk_ _ hz)⟩)) rfl

set_option maxRecDepth 100000 in
theorem full_f_string (p : Nat) (m : Int) (l : List (List UInt8)) (n : Int) (hm : m ≤ 256) (hl : (l.length : Int) ≤ m) (h : (l.length : Int) < m) : Does Try.prog 31 #[.pointer (some ⟨p, 0, none⟩)] [BagT 54 9 encS p m l n] (fun (_ : Unit) => .bool false) (fun (_ : Unit) => [BagT 54 9 encS p m l n]) := by
  refine d_ins (args := [.pointer (some ⟨p, 0, none⟩)]) 13 Try.func31 rfl rfl rfl ?_; intro w rs
  refine d_open 0 rfl BagT.open_ (fun _ => rfl) ?_; rintro bv
  refine WC2.keep (env' := [(0, .pointer (some ⟨p, 0, none⟩))]) ⟨rfl, trivial⟩ ?_
  refine WC2.mid [cell p 54 #[.int .i64 m, bv, .int .i64 n], Vec 9 1 encS bv l] (.refl _) ?_
  refine d_reg ?_
  refine h_q hflS rfl ?_
  refine h_done (d_seq ?_)
  refine d_parS 10 0 [⟨.quiet, [], fun _ => .pointer (some ⟨p, 0, none⟩), []⟩, ⟨.quiet, [], fun _ => .pointer (some ⟨p, 0, none⟩), [0]⟩, ⟨.quiet, [], fun _ => .pointer (some ⟨p, 1, none⟩), [1]⟩, ⟨.quiet, [], fun _ => bv, [2]⟩, ⟨.quiet, [], fun _ => .int .i64 (l.length : Int), [3]⟩, ⟨.quiet, [], fun _ => .pointer (some ⟨p, 0, none⟩), []⟩, ⟨.quiet, [], fun _ => .pointer (some ⟨p, 0, none⟩), [5]⟩, ⟨.quiet, [], fun _ => .pointer (some ⟨p, 0, none⟩), [6]⟩, ⟨.quiet, [], fun _ => .int .i64 m, [7]⟩, ⟨.quiet, [], fun _ => .bool false, [4, 8]⟩] [(0, .pointer (some ⟨p, 0, none⟩)), (2, .bool false)] (fun _ => [cell p 54 #[.int .i64 m, bv, .int .i64 n], Vec 9 1 encS bv l]) (by kernel_rfl) (by kernel_rfl) ⟨rfl, rfl, trivial⟩ rfl ?_ ?_
  · skip
    refine s_cons (by exact ⟨rfl, fun b w hH hb => exec_q1 hflS rfl hb⟩) ?_
    refine s_cons (by exact ⟨rfl, fun b w hH hb => by exact exec_nilCheck rfl rfl hb⟩) ?_
    refine s_cons (by exact ⟨rfl, fun b w hH hb => exec_q1 hflS rfl hb⟩) ?_
    refine s_cons (by exact ⟨rfl, fun b w hH hb => exec_load rfl rfl (reads_one ty_s_string rfl) (hH.row 0 rfl) hb⟩) ?_
    refine s_cons (by exact ⟨rfl, fun b w hH hb => e_vlen 1 Try.underlying48 rfl rfl rfl hH hb⟩) ?_
    refine s_cons (by exact ⟨rfl, fun b w hH hb => exec_q1 hflS rfl hb⟩) ?_
    refine s_cons (by exact ⟨rfl, fun b w hH hb => by exact exec_nilCheck rfl rfl hb⟩) ?_
    refine s_cons (by exact ⟨rfl, fun b w hH hb => exec_q1 hflS rfl hb⟩) ?_
    refine s_cons (by exact ⟨rfl, fun b w hH hb => exec_load rfl rfl (reads_one ty_int rfl) (hH.row 0 rfl) hb⟩) ?_
    refine s_cons (by exact ⟨rfl, fun b w hH hb => exec_cmp rfl rfl rfl (cmp_geq_f (by omega)) hb⟩) ?_
    exact s_nil
  refine WL2.keep (env' := [(2, .bool false), (12, .bool false)]) ⟨rfl, rfl, trivial⟩ ?_
  refine h_q hflS rfl ?_
  refine h_nil (f_to (d_ret ?_))
  exact f_fin1 (.tmp rfl) (fun w h => tells () rfl [0, 1] rfl h (fun z hz => ⟨z, .refl _, Parts.one (BagT.mk_ _ hz)⟩)) rfl

set_option maxRecDepth 100000 in
theorem put_string (p : Nat) (m : Int) (l : List (List UInt8)) (n : Int) (x : List UInt8) (hm : m ≤ 256) (hl : (l.length : Int) ≤ m) (hn : -4611686018427387904 ≤ n ∧ n ≤ 4611686018427387904) (R1 : List (List UInt8) × Int × Bool) (hp : putB m l n x = R1) : Does Try.prog 11 #[.pointer (some ⟨p, 0, none⟩), .string (bs x)] [BagT 54 9 encS p m l n] (fun (_ : Unit) => .bool R1.2.2) (fun (_ : Unit) => [BagT 54 9 encS p m R1.1 R1.2.1]) := by
  obtain ⟨L1, n1, b1⟩ := R1
  refine d_ins (args := [.pointer (some ⟨p, 0, none⟩), .string (bs x)]) 24 Try.func11 rfl rfl rfl ?_; intro w rs
  have hl34 : l.length ≤ 17179869184 := by omega
  refine d_reg ?_
  refine h_q hflS rfl ?_
  refine h_done (d_seq ?_)
  rcases Int.lt_or_le (l.length : Int) m with hf | hf
  · skip
    obtain ⟨rfl, rfl, rfl⟩ := putB_t hf hp
    refine d_reg ?_
    refine h_q hflS rfl ?_
    refine h_act (post := fun _ => [BagT 54 9 encS p m l n]) rfl (a_does (os' := fun _ => [BagT 54 9 encS p m l n]) [0] 0 (ent_of Try.func31 (by kernel_rfl) rfl) (full_f_string p m l n hm hl hf) rfl rfl rfl (fun _ => rfl) rfl rfl rfl) ?_; rintro ⟨⟩
    refine h_done (d_else rfl (d_skip (f_to ?_)))
    refine d_open 0 rfl BagT.open_ (fun _ => rfl) ?_; rintro bv
    refine WC2.keep (env' := [(0, .pointer (some ⟨p, 0, none⟩)), (1, .string (bs x)), (4, .bool false), (5, .pointer (some ⟨p, 0, none⟩)), (6, .bool false)]) ⟨rfl, rfl, rfl, rfl, rfl, trivial⟩ ?_
    refine WC2.mid [cell p 54 #[.int .i64 m, bv, .int .i64 n], Vec 9 1 encS bv l] (.refl _) ?_
    refine d_reg ?_
    refine h_q hflS rfl ?_
    refine h_val rfl (.pointer (some ⟨p, 0, none⟩)) (fun b w hb hH => by exact exec_nilCheck rfl rfl hb) ?_
    refine h_q hflS rfl ?_
    refine h_val rfl (bv) (fun b w hb hH => exec_load rfl rfl (reads_one ty_s_string rfl) (hH.row 0 rfl) hb) ?_
    refine h_q hflS rfl ?_
    refine h_act (X := Value) (val := fun v : Value => v) (post := fun u1 => [Vec 9 1 encS u1 ([x]), cell p 54 #[.int .i64 m, bv, .int .i64 n], Vec 9 1 encS bv l]) rfl (by refine a_build1 (e := 9) (t := 48) (enc := encS) (x := .tmp 19) (c := .string (bs x)) ?_ ?_ x ?_ ?_ ?_; exact sl_string; exact okS; exact rfl; exact rfl; exact rfl) ?_; rintro u1
    refine h_act (post := fun u2 => [Vec 9 1 encS u1 ([x]), cell p 54 #[.int .i64 m, bv, .int .i64 n], Vec 9 1 encS u2 (l ++ [x])]) rfl (a_append 2 sl_string okS rfl ([x]) (fun w hH => hH.vec 0 rfl okS) (by simp; omega) rfl rfl rfl rfl) ?_; rintro u2
    refine h_val rfl (.pointer (some ⟨p, 0, none⟩)) (fun b w hb hH => by exact exec_nilCheck rfl rfl hb) ?_
    refine h_q hflS rfl ?_
    refine h_acts (post := fun _ => [Vec 9 1 encS u1 ([x]), cell p 54 #[.int .i64 m, u2, .int .i64 n], Vec 9 1 encS u2 (l ++ [x])]) rfl rfl (a_storev 1 2 (v := u2) #[.int .i64 m, u2, .int .i64 n] ty_s_string.2 rfl (fun _ h => Vec.c1 h) rfl rfl rfl rfl rfl rfl rfl) ?_; rintro ⟨⟩
    refine h_done (d_reg ?_)
    refine h_q hflS rfl ?_
    refine h_done (d_ret ?_)
    exact f_fin1 (.tmp rfl) (fun w h => tells () rfl [1, 2] rfl h (fun z hz => ⟨z, .refl _, Parts.one (BagT.mk_ _ hz)⟩)) rfl
  · skip
    obtain ⟨rfl, rfl, rfl⟩ := putB_f hf hp
    refine d_reg ?_
    refine h_q hflS rfl ?_
    refine h_act (post := fun _ => [BagT 54 9 encS p m l n]) rfl (a_does (os' := fun _ => [BagT 54 9 encS p m l n]) [0] 0 (ent_of Try.func31 (by kernel_rfl) rfl) (full_t_string p m l n hm hl hf) rfl rfl rfl (fun _ => rfl) rfl rfl rfl) ?_; rintro ⟨⟩
    refine h_done (d_then rfl ?_)
    refine d_open 0 rfl BagT.open_ (fun _ => rfl) ?_; rintro bv
    refine WC2.keep (env' := [(0, .pointer (some ⟨p, 0, none⟩)), (1, .string (bs x)), (4, .bool false), (5, .pointer (some ⟨p, 0, none⟩)), (6, .bool true)]) ⟨rfl, rfl, rfl, rfl, rfl, trivial⟩ ?_
    refine WC2.mid [cell p 54 #[.int .i64 m, bv, .int .i64 n], Vec 9 1 encS bv l] (.refl _) ?_
    refine d_reg ?_
    refine h_q hflS rfl ?_
    refine h_val rfl (.pointer (some ⟨p, 0, none⟩)) (fun b w hb hH => by exact exec_nilCheck rfl rfl hb) ?_
    refine h_q hflS rfl ?_
    refine h_val rfl (.int .i64 n) (fun b w hb hH => exec_load rfl rfl (reads_one ty_int rfl) (hH.row 0 rfl) hb) ?_
    refine h_val rfl (.int .i64 (n + 1)) (fun b w hb hH => exec_ar rfl rfl rfl rfl (IntWalk.i64_in _ (by omega)) hb) ?_
    refine h_val rfl (.pointer (some ⟨p, 0, none⟩)) (fun b w hb hH => by exact exec_nilCheck rfl rfl hb) ?_
    refine h_q hflS rfl ?_
    refine h_acts (post := fun _ => [cell p 54 #[.int .i64 m, bv, .int .i64 (n + 1)], Vec 9 1 encS bv l]) rfl rfl (a_store 0 (v := .int .i64 (n + 1)) #[.int .i64 m, bv, .int .i64 (n + 1)] ty_int.2 rfl rfl rfl rfl rfl rfl rfl rfl rfl) ?_; rintro ⟨⟩
    refine h_done (d_reg ?_)
    refine h_q hflS rfl ?_
    refine h_done (d_ret (f_then_ret ?_))
    exact f_fin1 (.tmp rfl) (fun w h => tells () rfl [0, 1] rfl h (fun z hz => ⟨z, .refl _, Parts.one (BagT.mk_ _ hz)⟩)) rfl

set_option maxRecDepth 100000 in
theorem len_string (p : Nat) (m : Int) (l : List (List UInt8)) (n : Int)  : Does Try.prog 14 #[.pointer (some ⟨p, 0, none⟩)] [BagT 54 9 encS p m l n] (fun (_ : Unit) => .int .i64 (l.length : Int)) (fun (_ : Unit) => [BagT 54 9 encS p m l n]) := by
  refine d_ins (args := [.pointer (some ⟨p, 0, none⟩)]) 8 Try.func14 rfl rfl rfl ?_; intro w rs
  refine d_open 0 rfl BagT.open_ (fun _ => rfl) ?_; rintro bv
  refine WC2.keep (env' := [(0, .pointer (some ⟨p, 0, none⟩))]) ⟨rfl, trivial⟩ ?_
  refine WC2.mid [cell p 54 #[.int .i64 m, bv, .int .i64 n], Vec 9 1 encS bv l] (.refl _) ?_
  refine d_reg ?_
  refine h_q hflS rfl ?_
  refine h_done (d_reg ?_)
  refine h_q hflS rfl ?_
  refine h_val rfl (.pointer (some ⟨p, 0, none⟩)) (fun b w hb hH => by exact exec_nilCheck rfl rfl hb) ?_
  refine h_q hflS rfl ?_
  refine h_val rfl (bv) (fun b w hb hH => exec_load rfl rfl (reads_one ty_s_string rfl) (hH.row 0 rfl) hb) ?_
  refine h_val rfl (.int .i64 (l.length : Int)) (fun b w hb hH => e_vlen 1 Try.underlying48 rfl rfl rfl hH hb) ?_
  refine h_q hflS rfl ?_
  refine h_done (d_ret ?_)
  exact f_fin1 (.tmp rfl) (fun w h => tells () rfl [0, 1] rfl h (fun z hz => ⟨z, .refl _, Parts.one (BagT.mk_ _ hz)⟩)) rfl

set_option maxRecDepth 100000 in
theorem lost_string (p : Nat) (m : Int) (l : List (List UInt8)) (n : Int)  : Does Try.prog 29 #[.pointer (some ⟨p, 0, none⟩)] [BagT 54 9 encS p m l n] (fun (_ : Unit) => .int .i64 n) (fun (_ : Unit) => [BagT 54 9 encS p m l n]) := by
  refine d_ins (args := [.pointer (some ⟨p, 0, none⟩)]) 7 Try.func29 rfl rfl rfl ?_; intro w rs
  refine d_open 0 rfl BagT.open_ (fun _ => rfl) ?_; rintro bv
  refine WC2.keep (env' := [(0, .pointer (some ⟨p, 0, none⟩))]) ⟨rfl, trivial⟩ ?_
  refine WC2.mid [cell p 54 #[.int .i64 m, bv, .int .i64 n], Vec 9 1 encS bv l] (.refl _) ?_
  refine d_reg ?_
  refine h_q hflS rfl ?_
  refine h_done (d_reg ?_)
  refine h_q hflS rfl ?_
  refine h_val rfl (.pointer (some ⟨p, 0, none⟩)) (fun b w hb hH => by exact exec_nilCheck rfl rfl hb) ?_
  refine h_q hflS rfl ?_
  refine h_val rfl (.int .i64 n) (fun b w hb hH => exec_load rfl rfl (reads_one ty_int rfl) (hH.row 0 rfl) hb) ?_
  refine h_q hflS rfl ?_
  refine h_done (d_ret ?_)
  exact f_fin1 (.tmp rfl) (fun w h => tells () rfl [0, 1] rfl h (fun z hz => ⟨z, .refl _, Parts.one (BagT.mk_ _ hz)⟩)) rfl

set_option maxRecDepth 100000 in
theorem peek_string (p : Nat) (m : Int) (l : List (List UInt8)) (n : Int) (k : Int) (R1 : List UInt8 × Bool) (hp : peekB l k [] = R1) : Does Try.prog 12 #[.pointer (some ⟨p, 0, none⟩), .int .i64 k] [BagT 54 9 encS p m l n] (fun (_ : Unit) => .tuple #[.string (bs R1.1), .bool R1.2]) (fun (_ : Unit) => [BagT 54 9 encS p m l n]) := by
  obtain ⟨x1, b1⟩ := R1
  refine d_ins (args := [.pointer (some ⟨p, 0, none⟩), .int .i64 k]) 25 Try.func12 rfl rfl rfl ?_; intro w rs
  refine d_open 0 rfl BagT.open_ (fun _ => rfl) ?_; rintro bv
  refine WC2.keep (env' := [(0, .pointer (some ⟨p, 0, none⟩)), (1, .int .i64 k)]) ⟨rfl, rfl, trivial⟩ ?_
  refine WC2.mid [cell p 54 #[.int .i64 m, bv, .int .i64 n], Vec 9 1 encS bv l] (.refl _) ?_
  refine d_reg ?_
  refine h_q hflS rfl ?_
  refine h_done (d_seq ?_)
  rcases Classical.em (0 ≤ k ∧ k < (l.length : Int)) with hk | hk
  · skip
    obtain ⟨i, x, rfl, hi, hx⟩ := idxB hk
    obtain ⟨rfl, rfl⟩ := peekB_t hx hp
    refine d_reg ?_
    refine h_q hflS rfl ?_
    refine h_val rfl (.bool false) (fun b w hb hH => exec_cmp rfl rfl rfl (cmp_lss_f (by omega)) hb) ?_
    refine h_q hflS rfl ?_
    refine h_val rfl (.pointer (some ⟨p, 0, none⟩)) (fun b w hb hH => by exact exec_nilCheck rfl rfl hb) ?_
    refine h_q hflS rfl ?_
    refine h_val rfl (bv) (fun b w hb hH => exec_load rfl rfl (reads_one ty_s_string rfl) (hH.row 0 rfl) hb) ?_
    refine h_val rfl (.int .i64 (l.length : Int)) (fun b w hb hH => e_vlen 1 Try.underlying48 rfl rfl rfl hH hb) ?_
    refine h_val rfl (.bool false) (fun b w hb hH => exec_cmp rfl rfl rfl (cmp_geq_f (by omega)) hb) ?_
    refine h_q hflS rfl ?_
    refine h_done (d_else rfl (d_skip (f_to (d_reg ?_))))
    refine h_q hflS rfl ?_
    refine h_val rfl (.pointer (some ⟨p, 0, none⟩)) (fun b w hb hH => by exact exec_nilCheck rfl rfl hb) ?_
    refine h_q hflS rfl ?_
    refine h_val rfl (bv) (fun b w hb hH => exec_load rfl rfl (reads_one ty_s_string rfl) (hH.row 0 rfl) hb) ?_
    refine h_q hflS rfl ?_
    refine h_val rfl (elp bv (i * 1)) (fun b w hb hH => e_vidx 1 sl_string okS rfl i hi rfl rfl rfl hH hb) ?_
    refine h_val rfl (.string (bs x)) (fun b w hb hH => e_vload1 1 ty_string okS rfl i (a := x) hx rfl rfl rfl hH hb) ?_
    refine h_q hflS rfl ?_
    refine h_done (d_ret ?_)
    exact f_fin2 (.tmp rfl) (.tmp rfl) (fun w h => tells () rfl [0, 1] rfl h (fun z hz => ⟨z, .refl _, Parts.one (BagT.mk_ _ hz)⟩)) rfl
  · skip
    obtain ⟨rfl, rfl⟩ := peekB_f hk hp
    rcases Int.lt_or_le k 0 with h1 | h1
    · skip
      refine d_reg ?_
      refine h_q hflS rfl ?_
      refine h_val rfl (.bool true) (fun b w hb hH => exec_cmp rfl rfl rfl (cmp_lss_t h1) hb) ?_
      refine h_q hflS rfl ?_
      refine h_done (d_then rfl (d_reg ?_))
      refine h_q hflS rfl ?_
      refine h_done (d_ret (f_then_ret ?_))
      exact f_fin2 (.tmp rfl) (.tmp rfl) (fun w h => tells () rfl [0, 1] rfl h (fun z hz => ⟨z, .refl _, Parts.one (BagT.mk_ _ hz)⟩)) rfl
    · skip
      refine d_reg ?_
      refine h_q hflS rfl ?_
      refine h_val rfl (.bool false) (fun b w hb hH => exec_cmp rfl rfl rfl (cmp_lss_f (by omega)) hb) ?_
      refine h_q hflS rfl ?_
      refine h_val rfl (.pointer (some ⟨p, 0, none⟩)) (fun b w hb hH => by exact exec_nilCheck rfl rfl hb) ?_
      refine h_q hflS rfl ?_
      refine h_val rfl (bv) (fun b w hb hH => exec_load rfl rfl (reads_one ty_s_string rfl) (hH.row 0 rfl) hb) ?_
      refine h_val rfl (.int .i64 (l.length : Int)) (fun b w hb hH => e_vlen 1 Try.underlying48 rfl rfl rfl hH hb) ?_
      refine h_val rfl (.bool true) (fun b w hb hH => exec_cmp rfl rfl rfl (cmp_geq_t (by omega)) hb) ?_
      refine h_q hflS rfl ?_
      refine h_done (d_then rfl (d_reg ?_))
      refine h_q hflS rfl ?_
      refine h_done (d_ret (f_then_ret ?_))
      exact f_fin2 (.tmp rfl) (.tmp rfl) (fun w h => tells () rfl [0, 1] rfl h (fun z hz => ⟨z, .refl _, Parts.one (BagT.mk_ _ hz)⟩)) rfl

set_option maxRecDepth 100000 in
theorem take_string (p : Nat) (m : Int) (l : List (List UInt8)) (n : Int) (k : Int) (hm : m ≤ 256) (hl : (l.length : Int) ≤ m) (R1 : List (List UInt8) × List UInt8 × Bool) (hp : takeB l k [] = R1) : Does Try.prog 10 #[.pointer (some ⟨p, 0, none⟩), .int .i64 k] [BagT 54 9 encS p m l n] (fun (_ : Unit) => .tuple #[.string (bs R1.2.1), .bool R1.2.2]) (fun (_ : Unit) => [BagT 54 9 encS p m R1.1 n]) := by
  obtain ⟨L1, x1, b1⟩ := R1
  refine d_ins (args := [.pointer (some ⟨p, 0, none⟩), .int .i64 k]) 26 Try.func10 rfl rfl rfl ?_; intro w rs
  have hl34 : l.length ≤ 17179869184 := by omega
  refine d_reg ?_
  refine h_q hflS rfl ?_
  refine h_done ?_
  rcases Classical.em (0 ≤ k ∧ k < (l.length : Int)) with hk | hk
  · skip
    obtain ⟨i, x, rfl, hi, hx⟩ := idxB hk
    have hq : peekB l (i : Int) [] = (x, true) := by unfold peekB; rw [if_pos (by omega)]; simp [hx]
    obtain ⟨rfl, rfl, rfl⟩ := takeB_t hx hp
    refine d_reg ?_
    refine h_q hflS rfl ?_
    refine h_act (post := fun _ => [BagT 54 9 encS p m l n]) rfl (a_does (os' := fun _ => [BagT 54 9 encS p m l n]) [0] 0 (ent_of Try.func12 (by kernel_rfl) rfl) (peek_string p m l n (i : Int) (x, true) hq) rfl rfl rfl (fun _ => rfl) rfl rfl rfl) ?_; rintro ⟨⟩
    refine h_q hflS rfl ?_
    refine h_done (d_seq (d_reg ?_))
    refine h_q hflS rfl ?_
    refine h_done (d_then rfl ?_)
    refine d_open 0 rfl BagT.open_ (fun _ => rfl) ?_; rintro bv
    refine WC2.keep (env' := [(0, .pointer (some ⟨p, 0, none⟩)), (1, .int .i64 (i : Int)), (7, .pointer (some ⟨p, 0, none⟩)), (8, .int .i64 (i : Int)), (9, .tuple #[.string (bs x), .bool true]), (6, .tuple #[.string (bs x), .bool true]), (10, .string (bs x)), (11, .bool true), (4, .string (bs x)), (5, .bool true), (12, .bool true)]) ⟨rfl, rfl, rfl, rfl, rfl, rfl, rfl, rfl, rfl, rfl, rfl, trivial⟩ ?_
    refine WC2.mid [cell p 54 #[.int .i64 m, bv, .int .i64 n], Vec 9 1 encS bv l] (.refl _) ?_
    refine d_reg1 ?_
    refine h_q hflS rfl ?_
    refine h_val rfl (.pointer (some ⟨p, 0, none⟩)) (fun b w hb hH => by exact exec_nilCheck rfl rfl hb) ?_
    refine h_q hflS rfl ?_
    refine h_val rfl (bv) (fun b w hb hH => exec_load rfl rfl (reads_one ty_s_string rfl) (hH.row 0 rfl) hb) ?_
    refine h_q hflS rfl ?_
    refine h_val rfl (.int .i64 ((i + 1 : Nat) : Int)) (fun b w hb hH => exec_ar rfl rfl rfl rfl (by rw [IntWalk.i64_in _ (by omega)]; omega) hb) ?_
    refine h_act (post := fun u => [cell p 54 #[.int .i64 m, bv, .int .i64 n], Vec 9 1 encS u (l.take i ++ l.drop (i + 1))]) rfl (a_does (os' := fun u => [cell p 54 #[.int .i64 m, bv, .int .i64 n], Vec 9 1 encS u (l.take i ++ l.drop (i + 1))]) [1] 0 (ent_of Try.func30 (by kernel_rfl) rfl) (delete_string bv l i hi hl34) rfl rfl rfl (fun _ => rfl) rfl rfl rfl) ?_; rintro u
    refine h_val rfl (.pointer (some ⟨p, 0, none⟩)) (fun b w hb hH => by exact exec_nilCheck rfl rfl hb) ?_
    refine h_q hflS rfl ?_
    refine h_acts (post := fun _ => [cell p 54 #[.int .i64 m, u, .int .i64 n], Vec 9 1 encS u (l.take i ++ l.drop (i + 1))]) rfl rfl (a_storev 0 1 (v := u) #[.int .i64 m, u, .int .i64 n] ty_s_string.2 rfl (fun _ h => Vec.c1 h) rfl rfl rfl rfl rfl rfl rfl) ?_; rintro ⟨⟩
    refine h_nil (f_to (d_reg ?_))
    refine h_q hflS rfl ?_
    refine h_done (d_ret ?_)
    exact f_fin2 (.tmp rfl) (.tmp rfl) (fun w h => tells () rfl [0, 1] rfl h (fun z hz => ⟨z, .refl _, Parts.one (BagT.mk_ _ hz)⟩)) rfl
  · skip
    have hq : peekB l k [] = ([], false) := by unfold peekB; rw [if_neg hk]
    obtain ⟨rfl, rfl, rfl⟩ := takeB_f hk hp
    refine d_reg ?_
    refine h_q hflS rfl ?_
    refine h_act (post := fun _ => [BagT 54 9 encS p m l n]) rfl (a_does (os' := fun _ => [BagT 54 9 encS p m l n]) [0] 0 (ent_of Try.func12 (by kernel_rfl) rfl) (peek_string p m l n k ([], false) hq) rfl rfl rfl (fun _ => rfl) rfl rfl rfl) ?_; rintro ⟨⟩
    refine h_q hflS rfl ?_
    refine h_done (d_seq (d_reg ?_))
    refine h_q hflS rfl ?_
    refine h_done (d_else rfl (d_skip (f_to (d_reg ?_))))
    refine h_q hflS rfl ?_
    refine h_done (d_ret ?_)
    exact f_fin2 (.tmp rfl) (.tmp rfl) (fun w h => tells () rfl [0] rfl h same_parts) rfl

set_option maxRecDepth 100000 in
theorem dbl_string (p : Nat) (m : Int) (l : List (List UInt8)) (n : Int) (k : Int) (hm : m ≤ 256) (hl : (l.length : Int) ≤ m) (hn : -4611686018427387904 ≤ n ∧ n ≤ 4611686018427387904) (R1 : List (List UInt8) × Bool) (hp : dblB m l k = R1) : Does Try.prog 13 #[.pointer (some ⟨p, 0, none⟩), .int .i64 k] [BagT 54 9 encS p m l n] (fun (_ : Unit) => .bool R1.2) (fun (_ : Unit) => [BagT 54 9 encS p m R1.1 n]) := by
  obtain ⟨L1, b1⟩ := R1
  refine d_ins (args := [.pointer (some ⟨p, 0, none⟩), .int .i64 k]) 24 Try.func13 rfl rfl rfl ?_; intro w rs
  refine d_reg ?_
  refine h_q hflS rfl ?_
  refine h_done ?_
  rcases Classical.em (0 ≤ k ∧ k < (l.length : Int)) with hk | hk
  · skip
    obtain ⟨i, x, rfl, hi, hx⟩ := idxB hk
    have hq : peekB l (i : Int) [] = (x, true) := by unfold peekB; rw [if_pos (by omega)]; simp [hx]
    rcases Int.lt_or_le (l.length : Int) m with hf | hf
    · skip
      obtain ⟨rfl, rfl⟩ := dblB_t hx hf hp
      have hpu : putB m l n x = (l ++ [x], n, true) := by unfold putB; rw [if_pos hf]
      refine d_reg ?_
      refine h_q hflS rfl ?_
      refine h_act (post := fun _ => [BagT 54 9 encS p m l n]) rfl (a_does (os' := fun _ => [BagT 54 9 encS p m l n]) [0] 0 (ent_of Try.func12 (by kernel_rfl) rfl) (peek_string p m l n (i : Int) (x, true) hq) rfl rfl rfl (fun _ => rfl) rfl rfl rfl) ?_; rintro ⟨⟩
      refine h_q hflS rfl ?_
      refine h_done (d_reg ?_)
      refine h_q hflS rfl ?_
      refine h_act (post := fun _ => [BagT 54 9 encS p m l n]) rfl (a_does (os' := fun _ => [BagT 54 9 encS p m l n]) [0] 0 (ent_of Try.func31 (by kernel_rfl) rfl) (full_f_string p m l n hm hl hf) rfl rfl rfl (fun _ => rfl) rfl rfl rfl) ?_; rintro ⟨⟩
      refine h_q hflS rfl ?_
      refine h_act (post := fun _ => [BagT 54 9 encS p m (l ++ [x]) n]) rfl (a_does (os' := fun _ => [BagT 54 9 encS p m (l ++ [x]) n]) [0] 0 (ent_of Try.func11 (by kernel_rfl) rfl) (put_string p m l n x hm hl hn (l ++ [x], n, true) hpu) rfl rfl rfl (fun _ => rfl) rfl rfl rfl) ?_; rintro ⟨⟩
      refine h_q hflS rfl ?_
      refine h_done (d_ret ?_)
      exact f_fin1 (.tmp rfl) (fun w h => tells () rfl [0] rfl h same_parts) rfl
    · skip
      obtain ⟨rfl, rfl⟩ := dblB_f (by omega) hp
      refine d_reg ?_
      refine h_q hflS rfl ?_
      refine h_act (post := fun _ => [BagT 54 9 encS p m l n]) rfl (a_does (os' := fun _ => [BagT 54 9 encS p m l n]) [0] 0 (ent_of Try.func12 (by kernel_rfl) rfl) (peek_string p m l n (i : Int) (x, true) hq) rfl rfl rfl (fun _ => rfl) rfl rfl rfl) ?_; rintro ⟨⟩
      refine h_q hflS rfl ?_
      refine h_done (d_reg ?_)
      refine h_q hflS rfl ?_
      refine h_act (post := fun _ => [BagT 54 9 encS p m l n]) rfl (a_does (os' := fun _ => [BagT 54 9 encS p m l n]) [0] 0 (ent_of Try.func31 (by kernel_rfl) rfl) (full_t_string p m l n hm hl hf) rfl rfl rfl (fun _ => rfl) rfl rfl rfl) ?_; rintro ⟨⟩
      refine h_q hflS rfl ?_
      refine h_done (d_ret ?_)
      exact f_fin1 (.tmp rfl) (fun w h => tells () rfl [0] rfl h same_parts) rfl
  · skip
    have hq : peekB l k [] = ([], false) := by unfold peekB; rw [if_neg hk]
    obtain ⟨rfl, rfl⟩ := dblB_f (by omega) hp
    refine d_reg ?_
    refine h_q hflS rfl ?_
    refine h_act (post := fun _ => [BagT 54 9 encS p m l n]) rfl (a_does (os' := fun _ => [BagT 54 9 encS p m l n]) [0] 0 (ent_of Try.func12 (by kernel_rfl) rfl) (peek_string p m l n k ([], false) hq) rfl rfl rfl (fun _ => rfl) rfl rfl rfl) ?_; rintro ⟨⟩
    refine h_q hflS rfl ?_
    refine h_done (d_reg ?_)
    refine h_q hflS rfl ?_
    refine h_done (d_ret ?_)
    exact f_fin1 (.tmp rfl) (fun w h => tells () rfl [0] rfl h same_parts) rfl

set_option maxRecDepth 100000 in
theorem all_string (p : Nat) (m : Int) (l : List (List UInt8)) (n : Int) (hl34 : l.length ≤ 17179869184) : Does Try.prog 28 #[.pointer (some ⟨p, 0, none⟩)] [BagT 54 9 encS p m l n] (fun (u : Value) => u) (fun (u : Value) => [BagT 54 9 encS p m l n, Vec 9 1 encS u l]) := by
  refine d_ins (args := [.pointer (some ⟨p, 0, none⟩)]) 8 Try.func28 rfl rfl rfl ?_; intro w rs
  refine d_open 0 rfl BagT.open_ (fun _ => rfl) ?_; rintro bv
  refine WC2.keep (env' := [(0, .pointer (some ⟨p, 0, none⟩))]) ⟨rfl, trivial⟩ ?_
  refine WC2.mid [cell p 54 #[.int .i64 m, bv, .int .i64 n], Vec 9 1 encS bv l] (.refl _) ?_
  refine d_reg ?_
  refine h_q hflS rfl ?_
  refine h_done (d_reg ?_)
  refine h_q hflS rfl ?_
  refine h_val rfl (.pointer (some ⟨p, 0, none⟩)) (fun b w hb hH => by exact exec_nilCheck rfl rfl hb) ?_
  refine h_q hflS rfl ?_
  refine h_val rfl (bv) (fun b w hb hH => exec_load rfl rfl (reads_one ty_s_string rfl) (hH.row 0 rfl) hb) ?_
  refine h_act (post := fun u => [Vec 9 1 encS u l, cell p 54 #[.int .i64 m, bv, .int .i64 n], Vec 9 1 encS bv l]) rfl (a_does (os' := fun u => [Vec 9 1 encS u l, cell p 54 #[.int .i64 m, bv, .int .i64 n], Vec 9 1 encS bv l]) [1] 0 (ent_of Try.func35 (by kernel_rfl) rfl) (clone_string (Vec 9 1 encS bv l) bv l (fun rs w h1 h2 => h1.all okS h2) hl34) rfl rfl rfl (fun _ => rfl) rfl rfl rfl) ?_; rintro u
  refine h_q hflS rfl ?_
  refine h_done (d_ret ?_)
  exact f_fin1 (.tmp rfl) (fun w h => tells u rfl [1, 2, 0] rfl h (fun z hz => ⟨z, .refl _, bag_and hz⟩)) rfl
end Go.Proofs.Ythgnfacifogjiaa.Sep
