/-
  TabY · TabK
-/
import Derived.Test.YtmlfgdedhhmkpaaD01
set_option linter.unusedSimpArgs false
set_option linter.unusedVariables false

namespace Go.Proofs.Ytmlfgdedhhmkpaa.Sep
open Go.RowKit
open Go.Proofs.Ytmlfgdedhhmkpaa.Mem (Dist Blk Chg below0)

set_option maxRecDepth 100000 in
theorem from_string_int (p : Nat) (k : List UInt8) : Does Try.prog 13 #[.pointer (some ⟨p, 0, none⟩), .string (bs k)] [] (fun (x : Nat × Nat) => .func (.func 38) #[] #[.pointer (some ⟨x.1, 0, none⟩), .pointer (some ⟨x.2, 0, none⟩)]) (fun (x : Nat × Nat) => [cell x.1 26 #[.pointer (some ⟨p, 0, none⟩)], cell x.2 9 #[.string (bs k)]]) := by
  refine d_ins (args := [.pointer (some ⟨p, 0, none⟩), .string (bs k)]) 6 Try.func13 rfl rfl rfl ?_; intro w rs
  refine d_reg ?_
  refine h_q hflS rfl ?_
  refine h_act (post := fun g1 => [cell g1 26 #[.pointer (some ⟨p, 0, none⟩)]]) rfl (a_box (cs := #[.pointer (some ⟨p, 0, none⟩)]) rfl rfl rfl) ?_; rintro g1
  refine h_act (post := fun g2 => [cell g2 9 #[.string (bs k)], cell g1 26 #[.pointer (some ⟨p, 0, none⟩)]]) rfl (a_box (cs := #[.string (bs k)]) rfl rfl rfl) ?_; rintro g2
  refine h_q hflS rfl ?_
  refine h_done (d_reg ?_)
  refine h_q hflS rfl ?_
  refine h_val rfl (.func (.func 38) #[] #[.pointer (some ⟨g1, 0, none⟩), .pointer (some ⟨g2, 0, none⟩)]) (fun b w hb hH => e_func rfl rfl hb) ?_
  refine h_q hflS rfl ?_
  refine h_done (d_ret ?_)
  exact f_fin1 (.tmp rfl) (fun w h => tells (g1, g2) rfl [1, 0] rfl h same_parts) rfl
end Go.Proofs.Ytmlfgdedhhmkpaa.Sep

namespace Go.Proofs.Ytmlfgdedhhmkpaa.Sep
open Go.RowKit
open Go.Proofs.Ytmlfgdedhhmkpaa.Mem (Dist Blk Chg below0)

/-- what remains of a division, of the sign of what is divided -/
theorem exec_remI {P : Program} {n : Nat} {env : List (Nat × Value)} {a : Act} {w : World} {o : Oper} {T T' : TypeId} {x y : Operand} {k : IntKind} {p q r : Int} (ho : o.op = .binOp .rem T x y T') (hx : evs env x = some (.int k p)) (hy : evs env y = some (.int k q)) (hq : q ≠ 0) (hr : p.tmod q = r) (hF : Fr n a env) : (execOp a.eval o).run P w = .ok (.value (.int k r)) w := by
  unfold execOp
  simp only [ho, hF.evs hx, hF.evs hy]
  simp [eqGuard, binOp, Op.intArith, Op.intDiv, hq, hr]
section
variable {κ : Type} [DecidableEq κ] {lt : κ → κ → Bool} {l K : List κ} {k : κ}
end

set_option maxRecDepth 100000 in
theorem pick (w : World) (a m : Int) (ha : -9223372036854775808 ≤ a ∧ a ≤ 9223372036854775807) (hm : 1 ≤ m ∧ m ≤ 9223372036854775807) {r : Int} (hr : a % m = r) : Calls Try.prog 23 #[.int .i64 a, .int .i64 m] w fun e w' => e = .returned (.int .i64 r) ∧ Below w.heap.size w w' := by
  have hlt := Int.emod_lt_of_pos a (show 0 < m by omega)
  have hge := Int.emod_nonneg a (show m ≠ 0 by omega)
  have ht : (0 ≤ a.tmod m ∧ a.tmod m = r) ∨ (a.tmod m < 0 ∧ a.tmod m + m = r) := by
    rw [Int.tmod_eq_emod, ← hr]
    split
    · left; omega
    · rename_i h
      right
      have hne : a % m ≠ 0 := fun e => h (.inr (Int.dvd_of_emod_eq_zero e))
      omega
  rw [hr] at hlt hge
  obtain ⟨t, htm⟩ : ∃ t, a.tmod m = t := ⟨_, rfl⟩
  rw [htm] at ht
  refine d_in (args := [.int .i64 a, .int .i64 m]) 14 Try.func23 rfl rfl rfl ?_
  refine d_reg ?_
  refine h_q hflS rfl ?_
  refine h_done (d_reg ?_)
  refine h_q hflS rfl ?_
  refine h_val rfl (.int .i64 t) (fun b w hb hH => exec_remI rfl rfl rfl (by omega) htm hb) ?_
  refine h_q hflS rfl ?_
  refine h_done (d_seq ?_)
  rcases ht with ⟨h1, h2⟩ | ⟨h1, h2⟩
  · skip
    subst h2
    refine d_reg ?_
    refine h_q hflS rfl ?_
    refine h_val rfl (.bool false) (fun b w hb hH => exec_cmp rfl rfl rfl (cmp_lss_f (by omega)) hb) ?_
    refine h_done (d_else rfl (d_skip (f_to (d_reg ?_))))
    refine h_q hflS rfl ?_
    refine h_done (d_ret ?_)
    exact f_fin1 (.tmp rfl) (fun w h => ⟨rfl, below0 h.up⟩) rfl
  · skip
    refine d_reg ?_
    refine h_q hflS rfl ?_
    refine h_val rfl (.bool true) (fun b w hb hH => exec_cmp rfl rfl rfl (cmp_lss_t (by omega)) hb) ?_
    refine h_done (d_then rfl (d_reg1 ?_))
    refine h_q hflS rfl ?_
    refine h_val rfl (.int .i64 r) (fun b w hb hH => exec_ar rfl rfl rfl rfl (by rw [IntWalk.i64_in _ (by omega)]; omega) hb) ?_
    refine h_q hflS rfl ?_
    refine h_nil (f_to (d_reg ?_))
    refine h_q hflS rfl ?_
    refine h_done (d_ret ?_)
    exact f_fin1 (.tmp rfl) (fun w h => ⟨rfl, below0 h.up⟩) rfl

set_option maxRecDepth 100000 in
theorem known_true (w : World)  : Calls Try.prog 11 #[] w fun e w' => e = .returned (.bool true) ∧ Below w.heap.size w w' := by
  refine d_in (args := []) 76 Try.func11 rfl rfl rfl ?_
  refine d_reg ?_
  refine h_q hflS rfl ?_
  refine h_done (d_reg ?_)
  refine h_q hflS rfl ?_
  refine h_act (post := fun g => [Tab 95 42 9 encU encS ltI g 2 ([]) ([])]) rfl (a_does (os' := fun g => [Tab 95 42 9 encU encS ltI g 2 ([]) ([])]) [] 0 (ent_of Try.func31 (by kernel_rfl) rfl) (new_uint64_string 2 (by decide)) rfl rfl rfl (fun _ => rfl) rfl rfl rfl) ?_; rintro g
  refine h_q hflS rfl ?_
  refine h_done (d_seq (d_reg ?_))
  refine h_q hflS rfl ?_
  refine h_val rfl (.bool false) (fun b w hb hH => exec_cmp rfl rfl rfl (cmp_neq_f (by decide)) hb) ?_
  refine h_q hflS rfl ?_
  refine h_val rfl (.bool false) (fun b w hb hH => exec_pnil_eql (by kernel_rfl) rfl rfl rfl hb) ?_
  refine h_q hflS rfl ?_
  refine h_done (d_else rfl (d_skip (f_to (d_reg ?_))))
  refine h_q hflS rfl ?_
  refine h_act (post := fun _ => [Tab 95 42 9 encU encS ltI g 2 ([5]) ([[97]])]) rfl (a_does (os' := fun _ => [Tab 95 42 9 encU encS ltI g 2 ([5]) ([[97]])]) [0] 0 (ent_of Try.func32 (by kernel_rfl) rfl) (put_uint64_string g 2 ([]) ([]) 5 ([97]) ([5], [[97]], true) (by decide)) rfl rfl rfl (fun _ => rfl) rfl rfl rfl) ?_; rintro ⟨⟩
  refine h_q hflS rfl ?_
  refine h_done (d_reg ?_)
  refine h_q hflS rfl ?_
  refine h_act (post := fun _ => [Tab 95 42 9 encU encS ltI g 2 ([3, 5]) ([[98], [97]])]) rfl (a_does (os' := fun _ => [Tab 95 42 9 encU encS ltI g 2 ([3, 5]) ([[98], [97]])]) [0] 0 (ent_of Try.func32 (by kernel_rfl) rfl) (put_uint64_string g 2 ([5]) ([[97]]) 3 ([98]) ([3, 5], [[98], [97]], true) (by decide)) rfl rfl rfl (fun _ => rfl) rfl rfl rfl) ?_; rintro ⟨⟩
  refine h_q hflS rfl ?_
  refine h_done (d_reg ?_)
  refine h_q hflS rfl ?_
  refine h_act (post := fun _ => [Tab 95 42 9 encU encS ltI g 2 ([3, 5]) ([[98], [97]])]) rfl (a_does (os' := fun _ => [Tab 95 42 9 encU encS ltI g 2 ([3, 5]) ([[98], [97]])]) [0] 0 (ent_of Try.func32 (by kernel_rfl) rfl) (put_uint64_string g 2 ([3, 5]) ([[98], [97]]) 9 ([99]) ([3, 5], [[98], [97]], false) (by decide)) rfl rfl rfl (fun _ => rfl) rfl rfl rfl) ?_; rintro ⟨⟩
  refine h_q hflS rfl ?_
  refine h_done (d_reg ?_)
  refine h_q hflS rfl ?_
  refine h_act (post := fun _ => [Tab 95 42 9 encU encS ltI g 2 ([3, 5]) ([[98], [100]])]) rfl (a_does (os' := fun _ => [Tab 95 42 9 encU encS ltI g 2 ([3, 5]) ([[98], [100]])]) [0] 0 (ent_of Try.func32 (by kernel_rfl) rfl) (put_uint64_string g 2 ([3, 5]) ([[98], [97]]) 5 ([100]) ([3, 5], [[98], [100]], true) (by decide)) rfl rfl rfl (fun _ => rfl) rfl rfl rfl) ?_; rintro ⟨⟩
  refine h_q hflS rfl ?_
  refine h_done (d_reg ?_)
  refine h_q hflS rfl ?_
  refine h_act (post := fun uk => [Vec 42 1 encU uk ([3, 5]), Tab 95 42 9 encU encS ltI g 2 ([3, 5]) ([[98], [100]])]) rfl (a_does (os' := fun uk => [Vec 42 1 encU uk ([3, 5]), Tab 95 42 9 encU encS ltI g 2 ([3, 5]) ([[98], [100]])]) [0] 0 (ent_of Try.func33 (by kernel_rfl) rfl) (keys_uint64_string g 2 ([3, 5]) ([[98], [100]])) rfl rfl rfl (fun _ => rfl) rfl rfl rfl) ?_; rintro uk
  refine h_q hflS rfl ?_
  refine h_done (d_reg ?_)
  refine h_q hflS rfl ?_
  refine h_act (post := fun uv => [Vec 9 1 encS uv ([[98], [100]]), Vec 42 1 encU uk ([3, 5]), Tab 95 42 9 encU encS ltI g 2 ([3, 5]) ([[98], [100]])]) rfl (a_does (os' := fun uv => [Vec 9 1 encS uv ([[98], [100]]), Vec 42 1 encU uk ([3, 5]), Tab 95 42 9 encU encS ltI g 2 ([3, 5]) ([[98], [100]])]) [1] 0 (ent_of Try.func34 (by kernel_rfl) rfl) (values_uint64_string g 2 ([3, 5]) ([[98], [100]])) rfl rfl rfl (fun _ => rfl) rfl rfl rfl) ?_; rintro uv
  refine h_q hflS rfl ?_
  refine h_done (d_reg ?_)
  refine h_q hflS rfl ?_
  refine h_val rfl (.int .i64 (([3, 5]).length : Int)) (fun b w hb hH => e_vlen 1 Try.underlying44 rfl rfl rfl hH hb) ?_
  refine h_val rfl (.bool true) (fun b w hb hH => exec_cmp rfl rfl rfl (cmp_eql_t rfl) hb) ?_
  refine h_q hflS rfl ?_
  refine h_val rfl (elp uk (0 * 1)) (fun b w hb hH => e_vidx 1 sl_uint64 okU rfl 0 (by decide) rfl rfl rfl hH hb) ?_
  refine h_val rfl (.int .u64 3) (fun b w hb hH => e_vload1 1 ty_uint64 okU rfl 0 (a := 3) rfl rfl rfl rfl hH hb) ?_
  refine h_val rfl (.bool true) (fun b w hb hH => exec_cmp rfl rfl rfl (cmp_eql_t (by decide)) hb) ?_
  refine h_q hflS rfl ?_
  refine h_val rfl (elp uk (1 * 1)) (fun b w hb hH => e_vidx 1 sl_uint64 okU rfl 1 (by decide) rfl rfl rfl hH hb) ?_
  refine h_val rfl (.int .u64 5) (fun b w hb hH => e_vload1 1 ty_uint64 okU rfl 1 (a := 5) rfl rfl rfl rfl hH hb) ?_
  refine h_val rfl (.bool true) (fun b w hb hH => exec_cmp rfl rfl rfl (cmp_eql_t (by decide)) hb) ?_
  refine h_q hflS rfl ?_
  refine h_val rfl (.int .i64 (([[98], [100]]).length : Int)) (fun b w hb hH => e_vlen 0 Try.underlying65 rfl rfl rfl hH hb) ?_
  refine h_val rfl (.bool true) (fun b w hb hH => exec_cmp rfl rfl rfl (cmp_eql_t rfl) hb) ?_
  refine h_q hflS rfl ?_
  refine h_val rfl (elp uv (0 * 1)) (fun b w hb hH => e_vidx 0 sl_string okS rfl 0 (by decide) rfl rfl rfl hH hb) ?_
  refine h_val rfl (.string (bs ([98]))) (fun b w hb hH => e_vload1 0 ty_string okS rfl 0 (a := [98]) rfl rfl rfl rfl hH hb) ?_
  refine h_val rfl (.bool true) (fun b w hb hH => exec_same rfl rfl rfl (by decide) hb) ?_
  refine h_q hflS rfl ?_
  refine h_val rfl (elp uv (1 * 1)) (fun b w hb hH => e_vidx 0 sl_string okS rfl 1 (by decide) rfl rfl rfl hH hb) ?_
  refine h_val rfl (.string (bs ([100]))) (fun b w hb hH => e_vload1 0 ty_string okS rfl 1 (a := [100]) rfl rfl rfl rfl hH hb) ?_
  refine h_val rfl (.bool true) (fun b w hb hH => exec_same rfl rfl rfl (by decide) hb) ?_
  refine h_q hflS rfl ?_
  refine h_done ?_
  refine WC2.keep (env' := [(0, .bool true)]) ⟨rfl, trivial⟩ ?_
  refine d_ret ?_
  exact f_fin1 (.tmp rfl) (fun w h => ⟨rfl, below0 h.up⟩) rfl
end Go.Proofs.Ytmlfgdedhhmkpaa.Sep
