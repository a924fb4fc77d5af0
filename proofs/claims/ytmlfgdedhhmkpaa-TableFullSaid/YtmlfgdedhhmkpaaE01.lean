/-
  TabY · TabK · TabF · Law · Opn
-/
import Derived.Test.YtmlfgdedhhmkpaaA01
import Derived.Test.YtmlfgdedhhmkpaaC01
import Derived.Test.YtmlfgdedhhmkpaaD01
import Derived.Test.YtmlfgdedhhmkpaaRows
import Derived.ProofKit
import Derived.OpenShut
import Derived.JoinedCond
set_option linter.unusedSimpArgs false
set_option linter.unusedVariables false

namespace Go.Proofs.Ytmlfgdedhhmkpaa.Sep
open Go.RowKit
open Go.Proofs.Ytmlfgdedhhmkpaa.Mem (Dist Blk Chg below0)

end Go.Proofs.Ytmlfgdedhhmkpaa.Sep

namespace Go.Proofs.Ytmlfgdedhhmkpaa.Sep
open Go.RowKit
open Go.Proofs.Ytmlfgdedhhmkpaa.Mem (Dist Blk Chg below0)

theorem neB (b c : Bool) : NeAt Try.prog 4 (.bool b) (.bool c) (b != c) := fun x y w => by
  cases b <;> cases c <;> go_simp
/-- what remains of a division, of the sign of what is divided -/
theorem exec_remI {P : Program} {n : Nat} {env : List (Nat × Value)} {a : Act} {w : World} {o : Oper} {T T' : TypeId} {x y : Operand} {k : IntKind} {p q r : Int} (ho : o.op = .binOp .rem T x y T') (hx : evs env x = some (.int k p)) (hy : evs env y = some (.int k q)) (hq : q ≠ 0) (hr : p.tmod q = r) (hF : Fr n a env) : (execOp a.eval o).run P w = .ok (.value (.int k r)) w := by
  unfold execOp
  simp only [ho, hF.evs hx, hF.evs hy]
  simp [eqGuard, binOp, Op.intArith, Op.intDiv, hq, hr]
section
variable {κ : Type} [DecidableEq κ] {lt : κ → κ → Bool} {l K : List κ} {k : κ}
theorem has_mem (o : Ord lt) (hS : Srt lt l) (h : k ∈ l) : has lt l k = true := by
  obtain ⟨i, hi⟩ := List.getElem?_of_mem h
  have hp : pos lt l k = i := pos_eq (Nat.le_of_lt (List.getElem?_eq_some_iff.1 hi).1) (fun q x hq hx => hS.lt_ hq hx hi) (fun x hx => by rw [hi] at hx; cases hx; exact o.irr k)
  exact has_t (by rw [hp]; exact hi)
theorem has_not (h : k ∉ l) : has lt l k = false := has_f fun x hx e => h (e ▸ List.mem_of_getElem? hx)
theorem mem_ins {κ : Type} {l : List κ} {k : κ} {q : Nat} {x : κ} : x ∈ ins l q k ↔ x = k ∨ x ∈ l := by
  have e : l.take q ++ l.drop q = l := List.take_append_drop q l
  unfold ins
  rw [List.mem_append, List.mem_cons]
  constructor
  · rintro (h | h | h)
    · exact .inr (List.mem_of_mem_take h)
    · exact .inl h
    · exact .inr (List.mem_of_mem_drop h)
  · rintro (h | h)
    · exact .inr (.inl h)
    · rw [← e, List.mem_append] at h
      exact h.imp id .inr
theorem mem_rem {κ : Type} {l : List κ} {q : Nat} {x : κ} (h : x ∈ rem l q) : x ∈ l := by
  unfold rem at h
  rw [List.mem_append] at h
  exact h.elim List.mem_of_mem_take List.mem_of_mem_drop
theorem not_rem (o : Ord lt) (hS : Srt lt l) (h : has lt l k = true) : k ∉ rem l (pos lt l k) := by
  have hk := has_iff.1 h
  intro hm
  unfold rem at hm
  rw [List.mem_append] at hm
  have irr : ∀ {i j : Nat}, i < j → l[i]? = some k → l[j]? = some k → False := fun hij h1 h2 => by
    have := hS.lt_ hij h1 h2
    rw [o.irr] at this; cases this
  rcases hm with hm | hm
  · obtain ⟨i, hi⟩ := List.getElem?_of_mem hm
    rw [List.getElem?_take] at hi
    split at hi
    · exact irr ‹_› hi hk
    · cases hi
  · obtain ⟨i, hi⟩ := List.getElem?_of_mem hm
    rw [List.getElem?_drop] at hi
    exact irr (by omega) hk hi
end

set_option maxRecDepth 100000 in
theorem pick (w : World) (a m : Int) (ha : -9223372036854775808 ≤ a ∧ a ≤ 9223372036854775807) (hm : 1 ≤ m ∧ m ≤ 9223372036854775807) {r : Int} (hr : a % m = r) : Calls Try.prog 23 #[.int .i64 a, .int .i64 m] w fun e w' => e = .returned (.int .i64 r) ∧ Below w.heap.size w w' := by
  have hlt := Int.emod_lt_of_pos a (show 0 < m by omega)
  have hge := Int.emod_nonneg a (show m ≠ 0 by omega)
  have ht : (0 ≤ a.tmod m ∧ a.tmod m = r) ∨ (a.tmod m < 0 ∧ a.tmod m + m = r) := by
    rw [Int.tmod_eq_emod, ← hr]
    split
    · left; omega
    · rename_i h
      right
      have hne : a % m ≠ 0 := fun e => h (.inr (Int.dvd_of_emod_eq_zero e))
      omega
  rw [hr] at hlt hge
  obtain ⟨t, htm⟩ : ∃ t, a.tmod m = t := ⟨_, rfl⟩
  rw [htm] at ht
  refine d_in (args := [.int .i64 a, .int .i64 m]) 14 Try.func23 rfl rfl rfl ?_
  refine d_reg ?_
  refine h_q hflS rfl ?_
  refine h_done (d_reg ?_)
  refine h_q hflS rfl ?_
  refine h_val rfl (.int .i64 t) (fun b w hb hH => exec_remI rfl rfl rfl (by omega) htm hb) ?_
  refine h_q hflS rfl ?_
  refine h_done (d_seq ?_)
  rcases ht with ⟨h1, h2⟩ | ⟨h1, h2⟩
  · skip
    subst h2
    refine d_reg ?_
    refine h_q hflS rfl ?_
    refine h_val rfl (.bool false) (fun b w hb hH => exec_cmp rfl rfl rfl (cmp_lss_f (by omega)) hb) ?_
    refine h_done (d_else rfl (d_skip (f_to (d_reg ?_))))
    refine h_q hflS rfl ?_
    refine h_done (d_ret ?_)
    exact f_fin1 (.tmp rfl) (fun w h => ⟨rfl, below0 h.up⟩) rfl
  · skip
    refine d_reg ?_
    refine h_q hflS rfl ?_
    refine h_val rfl (.bool true) (fun b w hb hH => exec_cmp rfl rfl rfl (cmp_lss_t (by omega)) hb) ?_
    refine h_done (d_then rfl (d_reg1 ?_))
    refine h_q hflS rfl ?_
    refine h_val rfl (.int .i64 r) (fun b w hb hH => exec_ar rfl rfl rfl rfl (by rw [IntWalk.i64_in _ (by omega)]; omega) hb) ?_
    refine h_q hflS rfl ?_
    refine h_nil (f_to (d_reg ?_))
    refine h_q hflS rfl ?_
    refine h_done (d_ret ?_)
    exact f_fin1 (.tmp rfl) (fun w h => ⟨rfl, below0 h.up⟩) rfl

set_option maxRecDepth 100000 in
theorem known_true (w : World)  : Calls Try.prog 11 #[] w fun e w' => e = .returned (.bool true) ∧ Below w.heap.size w w' := by
  refine d_in (args := []) 76 Try.func11 rfl rfl rfl ?_
  refine d_reg ?_
  refine h_q hflS rfl ?_
  refine h_done (d_reg ?_)
  refine h_q hflS rfl ?_
  refine h_act (post := fun g => [Tab 95 42 9 encU encS ltI g 2 ([]) ([])]) rfl (a_does (os' := fun g => [Tab 95 42 9 encU encS ltI g 2 ([]) ([])]) [] 0 (ent_of Try.func31 (by kernel_rfl) rfl) (new_uint64_string 2 (by decide)) rfl rfl rfl (fun _ => rfl) rfl rfl rfl) ?_; rintro g
  refine h_q hflS rfl ?_
  refine h_done (d_seq (d_reg ?_))
  refine h_q hflS rfl ?_
  refine h_val rfl (.bool false) (fun b w hb hH => exec_cmp rfl rfl rfl (cmp_neq_f (by decide)) hb) ?_
  refine h_q hflS rfl ?_
  refine h_val rfl (.bool false) (fun b w hb hH => exec_pnil_eql (by kernel_rfl) rfl rfl rfl hb) ?_
  refine h_q hflS rfl ?_
  refine h_done (d_else rfl (d_skip (f_to (d_reg ?_))))
  refine h_q hflS rfl ?_
  refine h_act (post := fun _ => [Tab 95 42 9 encU encS ltI g 2 ([5]) ([[97]])]) rfl (a_does (os' := fun _ => [Tab 95 42 9 encU encS ltI g 2 ([5]) ([[97]])]) [0] 0 (ent_of Try.func32 (by kernel_rfl) rfl) (put_uint64_string g 2 ([]) ([]) 5 ([97]) ([5], [[97]], true) (by decide)) rfl rfl rfl (fun _ => rfl) rfl rfl rfl) ?_; rintro ⟨⟩
  refine h_q hflS rfl ?_
  refine h_done (d_reg ?_)
  refine h_q hflS rfl ?_
  refine h_act (post := fun _ => [Tab 95 42 9 encU encS ltI g 2 ([3, 5]) ([[98], [97]])]) rfl (a_does (os' := fun _ => [Tab 95 42 9 encU encS ltI g 2 ([3, 5]) ([[98], [97]])]) [0] 0 (ent_of Try.func32 (by kernel_rfl) rfl) (put_uint64_string g 2 ([5]) ([[97]]) 3 ([98]) ([3, 5], [[98], [97]], true) (by decide)) rfl rfl rfl (fun _ => rfl) rfl rfl rfl) ?_; rintro ⟨⟩
  refine h_q hflS rfl ?_
  refine h_done (d_reg ?_)
  refine h_q hflS rfl ?_
  refine h_act (post := fun _ => [Tab 95 42 9 encU encS ltI g 2 ([3, 5]) ([[98], [97]])]) rfl (a_does (os' := fun _ => [Tab 95 42 9 encU encS ltI g 2 ([3, 5]) ([[98], [97]])]) [0] 0 (ent_of Try.func32 (by kernel_rfl) rfl) (put_uint64_string g 2 ([3, 5]) ([[98], [97]]) 9 ([99]) ([3, 5], [[98], [97]], false) (by decide)) rfl rfl rfl (fun _ => rfl) rfl rfl rfl) ?_; rintro ⟨⟩
  refine h_q hflS rfl ?_
  refine h_done (d_reg ?_)
  refine h_q hflS rfl ?_
  refine h_act (post := fun _ => [Tab 95 42 9 encU encS ltI g 2 ([3, 5]) ([[98], [100]])]) rfl (a_does (os' := fun _ => [Tab 95 42 9 encU encS ltI g 2 ([3, 5]) ([[98], [100]])]) [0] 0 (ent_of Try.func32 (by kernel_rfl) rfl) (put_uint64_string g 2 ([3, 5]) ([[98], [97]]) 5 ([100]) ([3, 5], [[98], [100]], true) (by decide)) rfl rfl rfl (fun _ => rfl) rfl rfl rfl) ?_; rintro ⟨⟩
  refine h_q hflS rfl ?_
  refine h_done (d_reg ?_)
  refine h_q hflS rfl ?_
  refine h_act (post := fun uk => [Vec 42 1 encU uk ([3, 5]), Tab 95 42 9 encU encS ltI g 2 ([3, 5]) ([[98], [100]])]) rfl (a_does (os' := fun uk => [Vec 42 1 encU uk ([3, 5]), Tab 95 42 9 encU encS ltI g 2 ([3, 5]) ([[98], [100]])]) [0] 0 (ent_of Try.func33 (by kernel_rfl) rfl) (keys_uint64_string g 2 ([3, 5]) ([[98], [100]])) rfl rfl rfl (fun _ => rfl) rfl rfl rfl) ?_; rintro uk
  refine h_q hflS rfl ?_
  refine h_done (d_reg ?_)
  refine h_q hflS rfl ?_
  refine h_act (post := fun uv => [Vec 9 1 encS uv ([[98], [100]]), Vec 42 1 encU uk ([3, 5]), Tab 95 42 9 encU encS ltI g 2 ([3, 5]) ([[98], [100]])]) rfl (a_does (os' := fun uv => [Vec 9 1 encS uv ([[98], [100]]), Vec 42 1 encU uk ([3, 5]), Tab 95 42 9 encU encS ltI g 2 ([3, 5]) ([[98], [100]])]) [1] 0 (ent_of Try.func34 (by kernel_rfl) rfl) (values_uint64_string g 2 ([3, 5]) ([[98], [100]])) rfl rfl rfl (fun _ => rfl) rfl rfl rfl) ?_; rintro uv
  refine h_q hflS rfl ?_
  refine h_done (d_reg ?_)
  refine h_q hflS rfl ?_
  refine h_val rfl (.int .i64 (([3, 5]).length : Int)) (fun b w hb hH => e_vlen 1 Try.underlying44 rfl rfl rfl hH hb) ?_
  refine h_val rfl (.bool true) (fun b w hb hH => exec_cmp rfl rfl rfl (cmp_eql_t rfl) hb) ?_
  refine h_q hflS rfl ?_
  refine h_val rfl (elp uk (0 * 1)) (fun b w hb hH => e_vidx 1 sl_uint64 okU rfl 0 (by decide) rfl rfl rfl hH hb) ?_
  refine h_val rfl (.int .u64 3) (fun b w hb hH => e_vload1 1 ty_uint64 okU rfl 0 (a := 3) rfl rfl rfl rfl hH hb) ?_
  refine h_val rfl (.bool true) (fun b w hb hH => exec_cmp rfl rfl rfl (cmp_eql_t (by decide)) hb) ?_
  refine h_q hflS rfl ?_
  refine h_val rfl (elp uk (1 * 1)) (fun b w hb hH => e_vidx 1 sl_uint64 okU rfl 1 (by decide) rfl rfl rfl hH hb) ?_
  refine h_val rfl (.int .u64 5) (fun b w hb hH => e_vload1 1 ty_uint64 okU rfl 1 (a := 5) rfl rfl rfl rfl hH hb) ?_
  refine h_val rfl (.bool true) (fun b w hb hH => exec_cmp rfl rfl rfl (cmp_eql_t (by decide)) hb) ?_
  refine h_q hflS rfl ?_
  refine h_val rfl (.int .i64 (([[98], [100]]).length : Int)) (fun b w hb hH => e_vlen 0 Try.underlying65 rfl rfl rfl hH hb) ?_
  refine h_val rfl (.bool true) (fun b w hb hH => exec_cmp rfl rfl rfl (cmp_eql_t rfl) hb) ?_
  refine h_q hflS rfl ?_
  refine h_val rfl (elp uv (0 * 1)) (fun b w hb hH => e_vidx 0 sl_string okS rfl 0 (by decide) rfl rfl rfl hH hb) ?_
  refine h_val rfl (.string (bs ([98]))) (fun b w hb hH => e_vload1 0 ty_string okS rfl 0 (a := [98]) rfl rfl rfl rfl hH hb) ?_
  refine h_val rfl (.bool true) (fun b w hb hH => exec_same rfl rfl rfl (by decide) hb) ?_
  refine h_q hflS rfl ?_
  refine h_val rfl (elp uv (1 * 1)) (fun b w hb hH => e_vidx 0 sl_string okS rfl 1 (by decide) rfl rfl rfl hH hb) ?_
  refine h_val rfl (.string (bs ([100]))) (fun b w hb hH => e_vload1 0 ty_string okS rfl 1 (a := [100]) rfl rfl rfl rfl hH hb) ?_
  refine h_val rfl (.bool true) (fun b w hb hH => exec_same rfl rfl rfl (by decide) hb) ?_
  refine h_q hflS rfl ?_
  refine h_done ?_
  refine WC2.keep (env' := [(0, .bool true)]) ⟨rfl, trivial⟩ ?_
  refine d_ret ?_
  exact f_fin1 (.tmp rfl) (fun w h => ⟨rfl, below0 h.up⟩) rfl
end Go.Proofs.Ytmlfgdedhhmkpaa.Sep

namespace Go.Proofs.Ytmlfgdedhhmkpaa.Sep
open Go.RowKit
open Go.Proofs.Ytmlfgdedhhmkpaa.Mem (Dist Blk Chg below0)

set_option maxRecDepth 100000 in
theorem full_true (w : World) (most drop : Int) (keys : Value) (l : List Int) (h1 : -9223372036854775808 ≤ most ∧ most ≤ 9223372036854775807) (h2 : -9223372036854775808 ≤ drop ∧ drop ≤ 9223372036854775807) (hl : SlRd w 1 keys l.length (flat encU l)) (hll : l.length ≤ 9223372036854775807) : Calls Try.prog 8 #[.int .i64 most, keys, .int .i64 drop] w fun e w' => e = .returned (.bool true) ∧ Below w.heap.size w w' := by
  obtain ⟨m, hm⟩ : ∃ m : Int, m = 1 + most % 40 := ⟨_, rfl⟩
  have hm1 : 1 ≤ m ∧ m ≤ 40 := by omega
  obtain ⟨r, hr⟩ : ∃ r, drop % m = r := ⟨_, rfl⟩
  have hr1 : 0 ≤ r ∧ r < m := by rw [← hr]; exact ⟨Int.emod_nonneg _ (by omega), Int.emod_lt_of_pos _ (by omega)⟩
  refine d_in (args := [.int .i64 most, keys, .int .i64 drop]) 101 Try.func8 rfl rfl rfl ?_
  refine d_reg ?_
  refine h_q hflS rfl ?_
  refine h_done (d_reg ?_)
  refine h_q hflS rfl ?_
  refine h_act (post := fun _ => []) rfl (a_call (ent_of Try.func23 (by kernel_rfl) rfl) (fun w hH => pick w most 40 h1 (by decide) rfl) rfl rfl rfl) ?_; rintro ⟨⟩
  refine h_val rfl (.int .i64 m) (fun b w hb hH => exec_ar rfl rfl rfl rfl (by rw [IntWalk.i64_in _ (by omega)]; omega) hb) ?_
  refine h_q hflS rfl ?_
  refine h_done (d_reg ?_)
  refine h_q hflS rfl ?_
  refine h_act (post := fun g => [Tab 85 42 3 encU encI ltI g m ([]) ([])]) rfl (a_does (os' := fun g => [Tab 85 42 3 encU encI ltI g m ([]) ([])]) [] 0 (ent_of Try.func17 (by kernel_rfl) rfl) (new_uint64_int m (by omega)) rfl rfl rfl (fun _ => rfl) rfl rfl rfl) ?_; rintro g
  refine h_q hflS rfl ?_
  refine h_done (d_seq (d_reg ?_))
  refine h_q hflS rfl ?_
  refine h_act (post := fun _ => [Tab 85 42 3 encU encI ltI g m ([]) ([])]) rfl (a_call (ent_of Try.func11 (by kernel_rfl) rfl) (fun w hH => known_true w) rfl rfl rfl) ?_; rintro ⟨⟩
  refine h_q hflS rfl ?_
  refine h_val rfl (.bool false) (fun b w hb hH => exec_cmp rfl rfl rfl (cmp_neq_f (by decide)) hb) ?_
  refine h_q hflS rfl ?_
  refine h_val rfl (.bool false) (fun b w hb hH => exec_pnil_eql (by kernel_rfl) rfl rfl rfl hb) ?_
  refine h_q hflS rfl ?_
  refine h_done (d_else rfl (d_skip (f_to (d_seq (d_reg ?_)))))
  refine h_q hflS rfl ?_
  refine h_done (d_block ?_)
  refine d_loop (α := Nat × List Int × List Int) (fun ⟨i, K, V⟩ => [(1, keys), (2, .int .i64 drop), (6, .bool false), (0, .int .i64 m), (7, .pointer (some ⟨g, 0, none⟩)), (9, .int .i64 ((i : Nat) : Int))]) (fun ⟨i, K, V⟩ => [Tab 85 42 3 encU encI ltI g m K V]) (fun ⟨i, K, V⟩ => K.length = i ∧ (i : Int) ≤ m ∧ ∀ x, x ∈ K ↔ 0 ≤ x ∧ x < 2 * (i : Int) ∧ x % 2 = 0) (fun ⟨i, K, V⟩ => 41 - i) (0, [], []) ⟨rfl, (show ((0 : Nat) : Int) ≤ m by omega), fun x => ⟨fun h => (by cases h), fun h => (by exfalso; have h1 : (0 : Int) ≤ x := h.1; have h2 : x < 2 * ((0 : Nat) : Int) := h.2.1; omega)⟩⟩ ⟨rfl, rfl, rfl, rfl, rfl, rfl, trivial⟩ rfl ?_
  rintro ⟨i, K, V⟩ hI
  refine WC2.at_ (env' := [(1, keys), (2, .int .i64 drop), (6, .bool false), (0, .int .i64 m), (7, .pointer (some ⟨g, 0, none⟩)), (9, .int .i64 ((i : Nat) : Int))]) (rs' := [Tab 85 42 3 encU encI ltI g m K V]) ⟨rfl, rfl, rfl, rfl, rfl, rfl, trivial⟩ rfl ?_
  have hI1 : K.length = i := hI.1
  have hI2 : (i : Int) ≤ m := hI.2.1
  refine d_seq ?_
  rcases Int.lt_or_le (i : Int) m with hn | hn
  · skip
    have hk : has ltI K (2 * (i : Int)) = false := has_not fun h => by have := (hI.2.2 _).1 h; omega
    obtain ⟨K2, hK2⟩ : ∃ K2, ins K (pos ltI K (2 * (i : Int))) (2 * (i : Int)) = K2 := ⟨_, rfl⟩
    obtain ⟨V2, hV2⟩ : ∃ V2, ins V (pos ltI K (2 * (i : Int))) (i : Int) = V2 := ⟨_, rfl⟩
    have hp : putT ltI m K V (2 * (i : Int)) (i : Int) = (K2, V2, true) := by unfold putT; rw [if_neg (by rw [hk]; decide), if_pos (by omega), hK2, hV2]
    refine d_reg ?_
    refine h_q hflS rfl ?_
    refine h_val rfl (.bool true) (fun b w hb hH => exec_cmp rfl rfl rfl (cmp_lss_t hn) hb) ?_
    refine h_done (d_then rfl (d_skip (f_to (d_seq (d_block (d_reg ?_))))))
    refine h_q hflS rfl ?_
    refine h_val rfl (.int .i64 (2 * (i : Int))) (fun b w hb hH => exec_ar rfl rfl rfl rfl (IntWalk.i64_in _ (by omega)) hb) ?_
    refine h_val rfl (.int .u64 (2 * (i : Int))) (fun b w hb hH => by exact exec_conv Try.underlying3 Try.underlying42 (IntWalk.u64_in _ (by omega)) rfl rfl hb) ?_
    refine h_q hflS rfl ?_
    refine h_act (post := fun _ => [Tab 85 42 3 encU encI ltI g m K2 V2]) rfl (a_does (os' := fun _ => [Tab 85 42 3 encU encI ltI g m K2 V2]) [0] 0 (ent_of Try.func25 (by kernel_rfl) rfl) (put_uint64_int g m K V (2 * (i : Int)) (i : Int) (K2, V2, true) hp) rfl rfl rfl (fun _ => rfl) rfl rfl rfl) ?_; rintro ⟨⟩
    refine h_q hflS rfl ?_
    refine h_done (d_else rfl (d_skip (f_block (f_to (d_reg1 ?_)))))
    refine h_q hflS rfl ?_
    refine h_val rfl (.int .i64 ((i + 1 : Nat) : Int)) (fun b w hb hH => exec_ar rfl rfl rfl rfl (by rw [IntWalk.i64_in _ (by omega)]; omega) hb) ?_
    refine h_q hflS rfl ?_
    refine h_nil ?_
    exact f_again (i + 1, _, _) 0 ⟨by rw [← hK2, ins_len, hI1], by omega, fun x => by rw [← hK2, mem_ins, hI.2.2]; constructor <;> intro h <;> omega⟩ (show 41 - (i + 1) < 41 - i by omega) ⟨rfl, rfl, rfl, rfl, rfl, rfl, trivial⟩ rfl
  · skip
    have hiM : (i : Int) = m := by omega
    refine d_reg ?_
    refine h_q hflS rfl ?_
    refine h_val rfl (.bool false) (fun b w hb hH => exec_cmp rfl rfl rfl (cmp_lss_f (by omega)) hb) ?_
    refine h_done (d_else rfl (d_exit (f_then_exit (f_then_exit (f_block_exit (f_to (d_seq ?_)))))))
    have hKm : (K.length : Int) = m := by omega
    refine WC2.fact 0 rfl Tab.ok ?_; rintro hT
    refine d_reg ?_
    refine h_q hflS rfl ?_
    refine h_done (d_block ?_)
    refine d_loop (α := Nat × List Int) (fun ⟨j, V2⟩ => [(1, keys), (2, .int .i64 drop), (6, .bool false), (0, .int .i64 m), (7, .pointer (some ⟨g, 0, none⟩)), (10, .int .i64 ((j : Nat) : Int))]) (fun ⟨j, V2⟩ => [Tab 85 42 3 encU encI ltI g m K V2]) (fun ⟨j, V2⟩ => j ≤ 50) (fun ⟨j, V2⟩ => 51 - j) (0, V) (show 0 ≤ 50 by decide) ⟨rfl, rfl, rfl, rfl, rfl, rfl, trivial⟩ rfl ?_
    rintro ⟨j, V2⟩ hJ
    refine WC2.at_ (env' := [(1, keys), (2, .int .i64 drop), (6, .bool false), (0, .int .i64 m), (7, .pointer (some ⟨g, 0, none⟩)), (10, .int .i64 ((j : Nat) : Int))]) (rs' := [Tab 85 42 3 encU encI ltI g m K V2]) ⟨rfl, rfl, rfl, rfl, rfl, rfl, trivial⟩ rfl ?_
    refine d_seq ?_
    have h3 : (j < l.length ∧ j < 50) ∨ ¬ j < l.length ∨ (j < l.length ∧ ¬ j < 50) := by omega
    rcases h3 with ⟨h4, h5⟩ | h4 | ⟨h4, h5⟩
    · skip
      obtain ⟨a, ha⟩ : ∃ a, l[j]? = some a := ⟨_, List.getElem?_eq_getElem h4⟩
      refine WC2.fact 0 rfl Tab.ok ?_; rintro hT2
      refine d_reg ?_
      refine h_q hflS rfl ?_
      refine h_val rfl (.int .i64 (l.length : Int)) (fun b w hb hH => e_slen (arg_rd hl hH) Try.underlying44 rfl rfl hb) ?_
      refine h_val rfl (.bool true) (fun b w hb hH => exec_cmp rfl rfl rfl (cmp_lss_t (by omega)) hb) ?_
      refine h_q hflS rfl ?_
      refine h_val rfl (.bool true) (fun b w hb hH => exec_cmp rfl rfl rfl (cmp_lss_t (by omega)) hb) ?_
      refine h_q hflS rfl ?_
      refine h_done (d_then rfl (d_skip (f_to (d_seq (d_block ?_)))))
      rcases Bool.eq_false_or_eq_true (has ltI K a) with hh | hh
      · skip
        obtain ⟨x, hx⟩ : ∃ x, V2[pos ltI K a]? = some x := ⟨_, List.getElem?_eq_getElem (show pos ltI K a < V2.length by rw [hT2.len]; exact has_lt hh)⟩
        have hg : getT ltI K V2 a 0 = (x, true) := getT_has hh hx
        obtain ⟨V3, hV3⟩ : ∃ V3, V2.set (pos ltI K a) 7 = V3 := ⟨_, rfl⟩
        have hp : putT ltI m K V2 a 7 = (K, V3, true) := by unfold putT; rw [if_pos hh, hV3]
        refine d_reg ?_
        refine h_q hflS rfl ?_
        refine h_val rfl (elp keys (j * 1)) (fun b w hb hH => e_sidx okU (arg_rd hl hH) sl_uint64 (j := j) ha rfl rfl rfl hb) ?_
        refine h_val rfl (.int .u64 a) (fun b w hb hH => e_sload okU (by decide) (arg_rd hl hH) (j := j) ha ty_uint64 (off := 0) rfl rfl rfl hb) ?_
        refine h_act (post := fun _ => [Tab 85 42 3 encU encI ltI g m K V2]) rfl (a_does (os' := fun _ => [Tab 85 42 3 encU encI ltI g m K V2]) [0] 0 (ent_of Try.func30 (by kernel_rfl) rfl) (get_uint64_int g m K V2 a (x, true) hg) rfl rfl rfl (fun _ => rfl) rfl rfl rfl) ?_; rintro ⟨⟩
        refine h_q hflS rfl ?_
        refine h_done (d_reg ?_)
        refine h_q hflS rfl ?_
        refine h_val rfl (elp keys (j * 1)) (fun b w hb hH => e_sidx okU (arg_rd hl hH) sl_uint64 (j := j) ha rfl rfl rfl hb) ?_
        refine h_val rfl (.int .u64 a) (fun b w hb hH => e_sload okU (by decide) (arg_rd hl hH) (j := j) ha ty_uint64 (off := 0) rfl rfl rfl hb) ?_
        refine h_act (post := fun _ => [Tab 85 42 3 encU encI ltI g m K V3]) rfl (a_does (os' := fun _ => [Tab 85 42 3 encU encI ltI g m K V3]) [0] 0 (ent_of Try.func25 (by kernel_rfl) rfl) (put_uint64_int g m K V2 a 7 (K, V3, true) hp) rfl rfl rfl (fun _ => rfl) rfl rfl rfl) ?_; rintro ⟨⟩
        refine h_q hflS rfl ?_
        refine h_val rfl (.bool false) (fun b w hb hH => exec_nes (neB true true) rfl rfl rfl hb) ?_
        refine h_q hflS rfl ?_
        refine h_act (post := fun _ => [Tab 85 42 3 encU encI ltI g m K V3]) rfl (a_does (os' := fun _ => [Tab 85 42 3 encU encI ltI g m K V3]) [0] 0 (ent_of Try.func19 (by kernel_rfl) rfl) (len_uint64_int g m K V3) rfl rfl rfl (fun _ => rfl) rfl rfl rfl) ?_; rintro ⟨⟩
        refine h_q hflS rfl ?_
        refine h_val rfl (.bool false) (fun b w hb hH => exec_cmp rfl rfl rfl (cmp_neq_f hKm) hb) ?_
        refine h_q hflS rfl ?_
        refine h_done (d_else rfl (d_skip (f_block (f_to (d_reg1 ?_)))))
        refine h_q hflS rfl ?_
        refine h_val rfl (.int .i64 ((j + 1 : Nat) : Int)) (fun b w hb hH => exec_ar rfl rfl rfl rfl (by rw [IntWalk.i64_in _ (by omega)]; omega) hb) ?_
        refine h_q hflS rfl ?_
        refine h_nil ?_
        exact f_again (j + 1, _) 0 (show j + 1 ≤ 50 by omega) (show 51 - (j + 1) < 51 - j by omega) ⟨rfl, rfl, rfl, rfl, rfl, rfl, trivial⟩ rfl
      · skip
        have hg : getT ltI K V2 a 0 = (0, false) := getT_not hh
        obtain ⟨V3, hV3⟩ : ∃ V3, V2 = V3 := ⟨_, rfl⟩
        have hp : putT ltI m K V2 a 7 = (K, V3, false) := by unfold putT; rw [if_neg (by rw [hh]; decide), if_neg (by omega), hV3]
        refine d_reg ?_
        refine h_q hflS rfl ?_
        refine h_val rfl (elp keys (j * 1)) (fun b w hb hH => e_sidx okU (arg_rd hl hH) sl_uint64 (j := j) ha rfl rfl rfl hb) ?_
        refine h_val rfl (.int .u64 a) (fun b w hb hH => e_sload okU (by decide) (arg_rd hl hH) (j := j) ha ty_uint64 (off := 0) rfl rfl rfl hb) ?_
        refine h_act (post := fun _ => [Tab 85 42 3 encU encI ltI g m K V2]) rfl (a_does (os' := fun _ => [Tab 85 42 3 encU encI ltI g m K V2]) [0] 0 (ent_of Try.func30 (by kernel_rfl) rfl) (get_uint64_int g m K V2 a (0, false) hg) rfl rfl rfl (fun _ => rfl) rfl rfl rfl) ?_; rintro ⟨⟩
        refine h_q hflS rfl ?_
        refine h_done (d_reg ?_)
        refine h_q hflS rfl ?_
        refine h_val rfl (elp keys (j * 1)) (fun b w hb hH => e_sidx okU (arg_rd hl hH) sl_uint64 (j := j) ha rfl rfl rfl hb) ?_
        refine h_val rfl (.int .u64 a) (fun b w hb hH => e_sload okU (by decide) (arg_rd hl hH) (j := j) ha ty_uint64 (off := 0) rfl rfl rfl hb) ?_
        refine h_act (post := fun _ => [Tab 85 42 3 encU encI ltI g m K V3]) rfl (a_does (os' := fun _ => [Tab 85 42 3 encU encI ltI g m K V3]) [0] 0 (ent_of Try.func25 (by kernel_rfl) rfl) (put_uint64_int g m K V2 a 7 (K, V3, false) hp) rfl rfl rfl (fun _ => rfl) rfl rfl rfl) ?_; rintro ⟨⟩
        refine h_q hflS rfl ?_
        refine h_val rfl (.bool false) (fun b w hb hH => exec_nes (neB false false) rfl rfl rfl hb) ?_
        refine h_q hflS rfl ?_
        refine h_act (post := fun _ => [Tab 85 42 3 encU encI ltI g m K V3]) rfl (a_does (os' := fun _ => [Tab 85 42 3 encU encI ltI g m K V3]) [0] 0 (ent_of Try.func19 (by kernel_rfl) rfl) (len_uint64_int g m K V3) rfl rfl rfl (fun _ => rfl) rfl rfl rfl) ?_; rintro ⟨⟩
        refine h_q hflS rfl ?_
        refine h_val rfl (.bool false) (fun b w hb hH => exec_cmp rfl rfl rfl (cmp_neq_f hKm) hb) ?_
        refine h_q hflS rfl ?_
        refine h_done (d_else rfl (d_skip (f_block (f_to (d_reg1 ?_)))))
        refine h_q hflS rfl ?_
        refine h_val rfl (.int .i64 ((j + 1 : Nat) : Int)) (fun b w hb hH => exec_ar rfl rfl rfl rfl (by rw [IntWalk.i64_in _ (by omega)]; omega) hb) ?_
        refine h_q hflS rfl ?_
        refine h_nil ?_
        exact f_again (j + 1, _) 0 (show j + 1 ≤ 50 by omega) (show 51 - (j + 1) < 51 - j by omega) ⟨rfl, rfl, rfl, rfl, rfl, rfl, trivial⟩ rfl
    · skip
      have hk := has_mem ordI hT.srt ((hI.2.2 (2 * r)).2 (by omega))
      obtain ⟨q, hq⟩ : ∃ q, pos ltI K (2 * r) = q := ⟨_, rfl⟩
      have hl1 := rem_len (has_lt hk)
      have hn1 := not_rem ordI hT.srt hk
      rw [hq] at hl1 hn1
      obtain ⟨K1, hK1⟩ : ∃ K1, rem K q = K1 := ⟨_, rfl⟩
      obtain ⟨V4, hV4⟩ : ∃ V4, rem V2 q = V4 := ⟨_, rfl⟩
      have hd : dropT ltI K V2 (2 * r) = (K1, V4, true) := by unfold dropT; rw [if_pos hk, hq, hK1, hV4]
      have hs1 : ∀ x, x ∈ K1 → x ∈ K := fun x h => mem_rem (by rw [hK1]; exact h)
      rw [hK1] at hl1 hn1
      have hk1 : has ltI K1 1 = false := has_not fun h => by have := (hI.2.2 1).1 (hs1 1 h); omega
      obtain ⟨K2, hK2⟩ : ∃ K2, ins K1 (pos ltI K1 1) 1 = K2 := ⟨_, rfl⟩
      obtain ⟨V5, hV5⟩ : ∃ V5, ins V4 (pos ltI K1 1) 9 = V5 := ⟨_, rfl⟩
      have hp1 : putT ltI m K1 V4 1 9 = (K2, V5, true) := by unfold putT; rw [if_neg (by rw [hk1]; decide), if_pos (by omega), hK2, hV5]
      have hl2 : K2.length = K1.length + 1 := by rw [← hK2]; exact ins_len _ _ _
      have hk2 : has ltI K2 (2 * r) = false := has_not fun h => by rw [← hK2] at h; exact (mem_ins.1 h).elim (by omega) hn1
      have hp2 : putT ltI m K2 V5 (2 * r) 1 = (K2, V5, false) := by unfold putT; rw [if_neg (by rw [hk2]; decide), if_neg (by omega)]
      refine d_reg ?_
      refine h_q hflS rfl ?_
      refine h_val rfl (.int .i64 (l.length : Int)) (fun b w hb hH => e_slen (arg_rd hl hH) Try.underlying44 rfl rfl hb) ?_
      refine h_val rfl (.bool false) (fun b w hb hH => exec_cmp rfl rfl rfl (cmp_lss_f (by omega)) hb) ?_
      refine h_q hflS rfl ?_
      refine h_done (d_else rfl (d_exit (f_then_exit (f_then_exit (f_block_exit (f_to (d_reg ?_)))))))
      refine h_q hflS rfl ?_
      refine h_act (post := fun _ => [Tab 85 42 3 encU encI ltI g m K V2]) rfl (a_call (ent_of Try.func23 (by kernel_rfl) rfl) (fun w hH => pick w drop m h2 (by omega) hr) rfl rfl rfl) ?_; rintro ⟨⟩
      refine h_val rfl (.int .i64 (2 * r)) (fun b w hb hH => exec_ar rfl rfl rfl rfl (IntWalk.i64_in _ (by omega)) hb) ?_
      refine h_val rfl (.int .u64 (2 * r)) (fun b w hb hH => by exact exec_conv Try.underlying3 Try.underlying42 (IntWalk.u64_in _ (by omega)) rfl rfl hb) ?_
      refine h_q hflS rfl ?_
      refine h_done (d_reg ?_)
      refine h_q hflS rfl ?_
      refine h_act (post := fun _ => [Tab 85 42 3 encU encI ltI g m K1 V4]) rfl (a_does (os' := fun _ => [Tab 85 42 3 encU encI ltI g m K1 V4]) [0] 0 (ent_of Try.func28 (by kernel_rfl) rfl) (drop_uint64_int g m K V2 (2 * r) (K1, V4, true) hd) rfl rfl rfl (fun _ => rfl) rfl rfl rfl) ?_; rintro ⟨⟩
      refine h_q hflS rfl ?_
      refine h_act (post := fun _ => [Tab 85 42 3 encU encI ltI g m K2 V5]) rfl (a_does (os' := fun _ => [Tab 85 42 3 encU encI ltI g m K2 V5]) [0] 0 (ent_of Try.func25 (by kernel_rfl) rfl) (put_uint64_int g m K1 V4 1 9 (K2, V5, true) hp1) rfl rfl rfl (fun _ => rfl) rfl rfl rfl) ?_; rintro ⟨⟩
      refine h_q hflS rfl ?_
      refine h_act (post := fun _ => [Tab 85 42 3 encU encI ltI g m K2 V5]) rfl (a_does (os' := fun _ => [Tab 85 42 3 encU encI ltI g m K2 V5]) [0] 0 (ent_of Try.func25 (by kernel_rfl) rfl) (put_uint64_int g m K2 V5 (2 * r) 1 (K2, V5, false) hp2) rfl rfl rfl (fun _ => rfl) rfl rfl rfl) ?_; rintro ⟨⟩
      refine h_q hflS rfl ?_
      refine h_act (post := fun _ => [Tab 85 42 3 encU encI ltI g m K2 V5]) rfl (a_does (os' := fun _ => [Tab 85 42 3 encU encI ltI g m K2 V5]) [0] 0 (ent_of Try.func19 (by kernel_rfl) rfl) (len_uint64_int g m K2 V5) rfl rfl rfl (fun _ => rfl) rfl rfl rfl) ?_; rintro ⟨⟩
      refine h_q hflS rfl ?_
      refine h_val rfl (.bool true) (fun b w hb hH => exec_cmp rfl rfl rfl (cmp_eql_t (by omega)) hb) ?_
      refine h_q hflS rfl ?_
      refine h_done (d_ret ?_)
      exact f_fin1 (.tmp rfl) (fun w h => ⟨rfl, below0 h.up⟩) rfl
    · skip
      have hk := has_mem ordI hT.srt ((hI.2.2 (2 * r)).2 (by omega))
      obtain ⟨q, hq⟩ : ∃ q, pos ltI K (2 * r) = q := ⟨_, rfl⟩
      have hl1 := rem_len (has_lt hk)
      have hn1 := not_rem ordI hT.srt hk
      rw [hq] at hl1 hn1
      obtain ⟨K1, hK1⟩ : ∃ K1, rem K q = K1 := ⟨_, rfl⟩
      obtain ⟨V4, hV4⟩ : ∃ V4, rem V2 q = V4 := ⟨_, rfl⟩
      have hd : dropT ltI K V2 (2 * r) = (K1, V4, true) := by unfold dropT; rw [if_pos hk, hq, hK1, hV4]
      have hs1 : ∀ x, x ∈ K1 → x ∈ K := fun x h => mem_rem (by rw [hK1]; exact h)
      rw [hK1] at hl1 hn1
      have hk1 : has ltI K1 1 = false := has_not fun h => by have := (hI.2.2 1).1 (hs1 1 h); omega
      obtain ⟨K2, hK2⟩ : ∃ K2, ins K1 (pos ltI K1 1) 1 = K2 := ⟨_, rfl⟩
      obtain ⟨V5, hV5⟩ : ∃ V5, ins V4 (pos ltI K1 1) 9 = V5 := ⟨_, rfl⟩
      have hp1 : putT ltI m K1 V4 1 9 = (K2, V5, true) := by unfold putT; rw [if_neg (by rw [hk1]; decide), if_pos (by omega), hK2, hV5]
      have hl2 : K2.length = K1.length + 1 := by rw [← hK2]; exact ins_len _ _ _
      have hk2 : has ltI K2 (2 * r) = false := has_not fun h => by rw [← hK2] at h; exact (mem_ins.1 h).elim (by omega) hn1
      have hp2 : putT ltI m K2 V5 (2 * r) 1 = (K2, V5, false) := by unfold putT; rw [if_neg (by rw [hk2]; decide), if_neg (by omega)]
      refine d_reg ?_
      refine h_q hflS rfl ?_
      refine h_val rfl (.int .i64 (l.length : Int)) (fun b w hb hH => e_slen (arg_rd hl hH) Try.underlying44 rfl rfl hb) ?_
      refine h_val rfl (.bool true) (fun b w hb hH => exec_cmp rfl rfl rfl (cmp_lss_t (by omega)) hb) ?_
      refine h_q hflS rfl ?_
      refine h_val rfl (.bool false) (fun b w hb hH => exec_cmp rfl rfl rfl (cmp_lss_f (by omega)) hb) ?_
      refine h_q hflS rfl ?_
      refine h_done (d_else rfl (d_exit (f_then_exit (f_then_exit (f_block_exit (f_to (d_reg ?_)))))))
      refine h_q hflS rfl ?_
      refine h_act (post := fun _ => [Tab 85 42 3 encU encI ltI g m K V2]) rfl (a_call (ent_of Try.func23 (by kernel_rfl) rfl) (fun w hH => pick w drop m h2 (by omega) hr) rfl rfl rfl) ?_; rintro ⟨⟩
      refine h_val rfl (.int .i64 (2 * r)) (fun b w hb hH => exec_ar rfl rfl rfl rfl (IntWalk.i64_in _ (by omega)) hb) ?_
      refine h_val rfl (.int .u64 (2 * r)) (fun b w hb hH => by exact exec_conv Try.underlying3 Try.underlying42 (IntWalk.u64_in _ (by omega)) rfl rfl hb) ?_
      refine h_q hflS rfl ?_
      refine h_done (d_reg ?_)
      refine h_q hflS rfl ?_
      refine h_act (post := fun _ => [Tab 85 42 3 encU encI ltI g m K1 V4]) rfl (a_does (os' := fun _ => [Tab 85 42 3 encU encI ltI g m K1 V4]) [0] 0 (ent_of Try.func28 (by kernel_rfl) rfl) (drop_uint64_int g m K V2 (2 * r) (K1, V4, true) hd) rfl rfl rfl (fun _ => rfl) rfl rfl rfl) ?_; rintro ⟨⟩
      refine h_q hflS rfl ?_
      refine h_act (post := fun _ => [Tab 85 42 3 encU encI ltI g m K2 V5]) rfl (a_does (os' := fun _ => [Tab 85 42 3 encU encI ltI g m K2 V5]) [0] 0 (ent_of Try.func25 (by kernel_rfl) rfl) (put_uint64_int g m K1 V4 1 9 (K2, V5, true) hp1) rfl rfl rfl (fun _ => rfl) rfl rfl rfl) ?_; rintro ⟨⟩
      refine h_q hflS rfl ?_
      refine h_act (post := fun _ => [Tab 85 42 3 encU encI ltI g m K2 V5]) rfl (a_does (os' := fun _ => [Tab 85 42 3 encU encI ltI g m K2 V5]) [0] 0 (ent_of Try.func25 (by kernel_rfl) rfl) (put_uint64_int g m K2 V5 (2 * r) 1 (K2, V5, false) hp2) rfl rfl rfl (fun _ => rfl) rfl rfl rfl) ?_; rintro ⟨⟩
      refine h_q hflS rfl ?_
      refine h_act (post := fun _ => [Tab 85 42 3 encU encI ltI g m K2 V5]) rfl (a_does (os' := fun _ => [Tab 85 42 3 encU encI ltI g m K2 V5]) [0] 0 (ent_of Try.func19 (by kernel_rfl) rfl) (len_uint64_int g m K2 V5) rfl rfl rfl (fun _ => rfl) rfl rfl rfl) ?_; rintro ⟨⟩
      refine h_q hflS rfl ?_
      refine h_val rfl (.bool true) (fun b w hb hH => exec_cmp rfl rfl rfl (cmp_eql_t (by omega)) hb) ?_
      refine h_q hflS rfl ?_
      refine h_done (d_ret ?_)
      exact f_fin1 (.tmp rfl) (fun w h => ⟨rfl, below0 h.up⟩) rfl
end Go.Proofs.Ytmlfgdedhhmkpaa.Sep

namespace Go.Proofs.Ytmlfgdedhhmkpaa
open Go.ChangeShapes Go.WideShapes Go.ChangeAt Go.RowKit

theorem own : ownKnob Try.prog.godebug = none := by kernel_rfl
theorem laidOut : laidOutB Try.prog = true := by kernel_rfl

section
variable {H : Type} {enc : TypeId × Value → H} {P : Program}

/-- what the arguments read as stays, where nothing that was there has changed -/
theorem trodAll_stays (hl : laidOutB P = true) {W W' : World} (hb : Below W.heap.size W W') :
    ∀ {ts : List TypeId} {vs : List Value} {ds : List (DataW H)} {ps : List MemPlace}, (∀ t ∈ ts, P.readableRec t = true ∧ t < P.types.size) → (∀ x ∈ ps, x.block < W.heap.size) →
      DataW.TrodAll enc P W 0 (fun _ => true) true ts vs ds ps → DataW.TrodAll enc P W' 0 (fun b => decide (b < W.heap.size)) true ts vs ds ps
  | [], vs, ds, ps, _, _, h => by
    obtain ⟨rfl, rfl, rfl⟩ := trodAll_nil h
    rfl
  | t :: ts, vs, ds, ps, ht, hp, h => by
    obtain ⟨v, vs1, d, ds1, a, b, rfl, rfl, rfl, h1, h2⟩ := trodAll_cons h
    obtain ⟨hr, hrow⟩ := ht t List.mem_cons_self
    exact ⟨a, b, Below.trod hl hr hrow h1 hb (fun x hx => hp x (List.mem_append_left _ hx)), trodAll_stays hl hb (fun t h => ht t (List.mem_cons_of_mem _ h)) (fun x hx => hp x (List.mem_append_right _ hx)) h2, rfl⟩

theorem law_post {f : Func} {s : ChangeSpec} {tb : TypeId} {W W' : World} {args : Array Value} {ds gs : List (DataW H)} {before : List MemPlace}
    (hl : laidOutB P = true) (hr : f.resultTypes = #[tb]) (htb : P.underlying tb = some .bool) (hread : ∀ t ∈ f.params.toList, P.readableRec t = true ∧ t < P.types.size)
    (hvars : s.vars = []) (hs : s.fn H ds = { results := [.lit (.bool true)], args := ds })
    (hW : DataW.Whole enc P f.params.toList s.vars false W args.toList ds gs before) (hb : Below W.heap.size W W') :
    s.post enc P f false true false false W args (.bool true) W' := by
  have hW' := hW
  obtain ⟨p, q, hA, hV, rfl, hfz, hnd⟩ := hW
  rw [hvars] at hV
  obtain ⟨rfl, rfl⟩ := trodVars_none hV
  have hlt : ∀ x ∈ p, x.block < W.heap.size := fun x hx => hW'.lt x (by simpa using hx)
  refine ⟨ds, [], p ++ [], [], p, [], hW', ?_, ?_, ?_, ?_, fun h => by cases h⟩
  · rw [List.append_nil, hs, hr]
    exact trodAll_cons_mk (shut_bool htb true) trodAll_mk0
  · rw [List.append_nil, hs]
    exact trodAll_stays hl hb hread hlt hA
  · rw [List.append_nil, hs, hvars]
    rfl
  · exact World.keptBut_mono (fun x hx => ⟨hx, .inr (.inl (by simpa using hx))⟩) (hb.frame (· ∈ p ++ []))
end

/-! ## Arguments, opened -/
section
variable {H : Type} {enc : TypeId × Value → H} {P : Program}

end


theorem wf_i64 {x : Int} (h : (Lit.int .i64 x).wf = true) : -9223372036854775808 ≤ x ∧ x ≤ 9223372036854775807 := by
  simpa [Lit.wf, IntKind.min, IntKind.max, IntKind.signed, IntKind.bits] using h
theorem wf_u64 {x : Int} (h : (Lit.int .u64 x).wf = true) : 0 ≤ x ∧ x ≤ 18446744073709551615 := by
  simpa [Lit.wf, IntKind.min, IntKind.max, IntKind.signed, IntKind.bits] using h
theorem readable_of {P : Program} {l : List TypeId} (h : l.all (fun t => P.readableRec t && decide (t < P.types.size)) = true) : ∀ t ∈ l, P.readableRec t = true ∧ t < P.types.size := by
  intro t ht
  have := List.all_eq_true.1 h t ht
  simpa using this
/-! ## The bound of the second form -/
theorem bound {H : Type} {l : List (DataW H)} (hk : Rows.uptoSmall H l = true) : Rows.uptoBulkAll l ≤ 1048576 := of_decide_eq_true hk
end Go.Proofs.Ytmlfgdedhhmkpaa

namespace Go.Proofs.Ytmlfgdedhhmkpaa.Sep
open Go.ChangeShapes Go.WideShapes Go.ChangeAt Go.RowKit
/-- one step of a play -/
structure StepD where
  what : Int
  k : Int
  v : Int
  near : Bool
instance : Inhabited StepD := ⟨⟨0, 0, 0, false⟩⟩
def StepD.ok (x : StepD) : Prop := (-9223372036854775808 ≤ x.what ∧ x.what ≤ 9223372036854775807) ∧ (0 ≤ x.k ∧ x.k ≤ 18446744073709551615) ∧ (-9223372036854775808 ≤ x.v ∧ x.v ≤ 9223372036854775807)
section
variable {H : Type} {enc : TypeId × Value → H} {W : World} {base b0 : Nat} {r : Reach} {spare : Nat → Bool} {held : Bool} {v : Value} {d : DataW H} {p : List MemPlace}
set_option maxRecDepth 100000 in
theorem open_u64s (hval : Value.okWide Try.prog W r b0 44 v) (h : DataW.Trod enc Try.prog W base spare held 44 v d p) : ∃ A c, ∃ l : List Int, v = .slice A l.length c ∧ l.length ≤ maxLen ∧ SlRd W 1 v l.length (flat encU l) ∧ ∀ y ∈ l, 0 ≤ y ∧ y ≤ 18446744073709551615 :=
  open_slice okU (by decide) Try.underlying44 (by kernel_rfl) (fun n cs x _ h => by
    obtain ⟨z, e, _, hw⟩ := DataW.trod_int Try.underlying42 h
    exact ⟨z, e, wf_u64 hw⟩) hval h
end
end Go.Proofs.Ytmlfgdedhhmkpaa.Sep
