/-
  TabY · TabK · TabW · Law · Opn
-/
import Derived.Test.YtmlfgdedhhmkpaaA01
import Derived.Test.YtmlfgdedhhmkpaaC01
import Derived.Test.YtmlfgdedhhmkpaaD01
import Derived.Test.YtmlfgdedhhmkpaaRows
import Derived.ProofKit
import Derived.OpenShut
import Derived.JoinedCond
set_option linter.unusedSimpArgs false
set_option linter.unusedVariables false

namespace Go.Proofs.Ytmlfgdedhhmkpaa.Sep
open Go.RowKit
open Go.Proofs.Ytmlfgdedhhmkpaa.Mem (Dist Blk Chg below0)

end Go.Proofs.Ytmlfgdedhhmkpaa.Sep

namespace Go.Proofs.Ytmlfgdedhhmkpaa.Sep
open Go.RowKit
open Go.Proofs.Ytmlfgdedhhmkpaa.Mem (Dist Blk Chg below0)

/-- what remains of a division, of the sign of what is divided -/
theorem exec_remI {P : Program} {n : Nat} {env : List (Nat × Value)} {a : Act} {w : World} {o : Oper} {T T' : TypeId} {x y : Operand} {k : IntKind} {p q r : Int} (ho : o.op = .binOp .rem T x y T') (hx : evs env x = some (.int k p)) (hy : evs env y = some (.int k q)) (hq : q ≠ 0) (hr : p.tmod q = r) (hF : Fr n a env) : (execOp a.eval o).run P w = .ok (.value (.int k r)) w := by
  unfold execOp
  simp only [ho, hF.evs hx, hF.evs hy]
  simp [eqGuard, binOp, Op.intArith, Op.intDiv, hq, hr]
section
variable {κ : Type} [DecidableEq κ] {lt : κ → κ → Bool} {l K : List κ} {k : κ}
end

set_option maxRecDepth 100000 in
theorem pick (w : World) (a m : Int) (ha : -9223372036854775808 ≤ a ∧ a ≤ 9223372036854775807) (hm : 1 ≤ m ∧ m ≤ 9223372036854775807) {r : Int} (hr : a % m = r) : Calls Try.prog 23 #[.int .i64 a, .int .i64 m] w fun e w' => e = .returned (.int .i64 r) ∧ Below w.heap.size w w' := by
  have hlt := Int.emod_lt_of_pos a (show 0 < m by omega)
  have hge := Int.emod_nonneg a (show m ≠ 0 by omega)
  have ht : (0 ≤ a.tmod m ∧ a.tmod m = r) ∨ (a.tmod m < 0 ∧ a.tmod m + m = r) := by
    rw [Int.tmod_eq_emod, ← hr]
    split
    · left; omega
    · rename_i h
      right
      have hne : a % m ≠ 0 := fun e => h (.inr (Int.dvd_of_emod_eq_zero e))
      omega
  rw [hr] at hlt hge
  obtain ⟨t, htm⟩ : ∃ t, a.tmod m = t := ⟨_, rfl⟩
  rw [htm] at ht
  refine d_in (args := [.int .i64 a, .int .i64 m]) 14 Try.func23 rfl rfl rfl ?_
  refine d_reg ?_
  refine h_q hflS rfl ?_
  refine h_done (d_reg ?_)
  refine h_q hflS rfl ?_
  refine h_val rfl (.int .i64 t) (fun b w hb hH => exec_remI rfl rfl rfl (by omega) htm hb) ?_
  refine h_q hflS rfl ?_
  refine h_done (d_seq ?_)
  rcases ht with ⟨h1, h2⟩ | ⟨h1, h2⟩
  · skip
    subst h2
    refine d_reg ?_
    refine h_q hflS rfl ?_
    refine h_val rfl (.bool false) (fun b w hb hH => exec_cmp rfl rfl rfl (cmp_lss_f (by omega)) hb) ?_
    refine h_done (d_else rfl (d_skip (f_to (d_reg ?_))))
    refine h_q hflS rfl ?_
    refine h_done (d_ret ?_)
    exact f_fin1 (.tmp rfl) (fun w h => ⟨rfl, below0 h.up⟩) rfl
  · skip
    refine d_reg ?_
    refine h_q hflS rfl ?_
    refine h_val rfl (.bool true) (fun b w hb hH => exec_cmp rfl rfl rfl (cmp_lss_t (by omega)) hb) ?_
    refine h_done (d_then rfl (d_reg1 ?_))
    refine h_q hflS rfl ?_
    refine h_val rfl (.int .i64 r) (fun b w hb hH => exec_ar rfl rfl rfl rfl (by rw [IntWalk.i64_in _ (by omega)]; omega) hb) ?_
    refine h_q hflS rfl ?_
    refine h_nil (f_to (d_reg ?_))
    refine h_q hflS rfl ?_
    refine h_done (d_ret ?_)
    exact f_fin1 (.tmp rfl) (fun w h => ⟨rfl, below0 h.up⟩) rfl

set_option maxRecDepth 100000 in
theorem known_true (w : World)  : Calls Try.prog 11 #[] w fun e w' => e = .returned (.bool true) ∧ Below w.heap.size w w' := by
  refine d_in (args := []) 76 Try.func11 rfl rfl rfl ?_
  refine d_reg ?_
  refine h_q hflS rfl ?_
  refine h_done (d_reg ?_)
  refine h_q hflS rfl ?_
  refine h_act (post := fun g => [Tab 95 42 9 encU encS ltI g 2 ([]) ([])]) rfl (a_does (os' := fun g => [Tab 95 42 9 encU encS ltI g 2 ([]) ([])]) [] 0 (ent_of Try.func31 (by kernel_rfl) rfl) (new_uint64_string 2 (by decide)) rfl rfl rfl (fun _ => rfl) rfl rfl rfl) ?_; rintro g
  refine h_q hflS rfl ?_
  refine h_done (d_seq (d_reg ?_))
  refine h_q hflS rfl ?_
  refine h_val rfl (.bool false) (fun b w hb hH => exec_cmp rfl rfl rfl (cmp_neq_f (by decide)) hb) ?_
  refine h_q hflS rfl ?_
  refine h_val rfl (.bool false) (fun b w hb hH => exec_pnil_eql (by kernel_rfl) rfl rfl rfl hb) ?_
  refine h_q hflS rfl ?_
  refine h_done (d_else rfl (d_skip (f_to (d_reg ?_))))
  refine h_q hflS rfl ?_
  refine h_act (post := fun _ => [Tab 95 42 9 encU encS ltI g 2 ([5]) ([[97]])]) rfl (a_does (os' := fun _ => [Tab 95 42 9 encU encS ltI g 2 ([5]) ([[97]])]) [0] 0 (ent_of Try.func32 (by kernel_rfl) rfl) (put_uint64_string g 2 ([]) ([]) 5 ([97]) ([5], [[97]], true) (by decide)) rfl rfl rfl (fun _ => rfl) rfl rfl rfl) ?_; rintro ⟨⟩
  refine h_q hflS rfl ?_
  refine h_done (d_reg ?_)
  refine h_q hflS rfl ?_
  refine h_act (post := fun _ => [Tab 95 42 9 encU encS ltI g 2 ([3, 5]) ([[98], [97]])]) rfl (a_does (os' := fun _ => [Tab 95 42 9 encU encS ltI g 2 ([3, 5]) ([[98], [97]])]) [0] 0 (ent_of Try.func32 (by kernel_rfl) rfl) (put_uint64_string g 2 ([5]) ([[97]]) 3 ([98]) ([3, 5], [[98], [97]], true) (by decide)) rfl rfl rfl (fun _ => rfl) rfl rfl rfl) ?_; rintro ⟨⟩
  refine h_q hflS rfl ?_
  refine h_done (d_reg ?_)
  refine h_q hflS rfl ?_
  refine h_act (post := fun _ => [Tab 95 42 9 encU encS ltI g 2 ([3, 5]) ([[98], [97]])]) rfl (a_does (os' := fun _ => [Tab 95 42 9 encU encS ltI g 2 ([3, 5]) ([[98], [97]])]) [0] 0 (ent_of Try.func32 (by kernel_rfl) rfl) (put_uint64_string g 2 ([3, 5]) ([[98], [97]]) 9 ([99]) ([3, 5], [[98], [97]], false) (by decide)) rfl rfl rfl (fun _ => rfl) rfl rfl rfl) ?_; rintro ⟨⟩
  refine h_q hflS rfl ?_
  refine h_done (d_reg ?_)
  refine h_q hflS rfl ?_
  refine h_act (post := fun _ => [Tab 95 42 9 encU encS ltI g 2 ([3, 5]) ([[98], [100]])]) rfl (a_does (os' := fun _ => [Tab 95 42 9 encU encS ltI g 2 ([3, 5]) ([[98], [100]])]) [0] 0 (ent_of Try.func32 (by kernel_rfl) rfl) (put_uint64_string g 2 ([3, 5]) ([[98], [97]]) 5 ([100]) ([3, 5], [[98], [100]], true) (by decide)) rfl rfl rfl (fun _ => rfl) rfl rfl rfl) ?_; rintro ⟨⟩
  refine h_q hflS rfl ?_
  refine h_done (d_reg ?_)
  refine h_q hflS rfl ?_
  refine h_act (post := fun uk => [Vec 42 1 encU uk ([3, 5]), Tab 95 42 9 encU encS ltI g 2 ([3, 5]) ([[98], [100]])]) rfl (a_does (os' := fun uk => [Vec 42 1 encU uk ([3, 5]), Tab 95 42 9 encU encS ltI g 2 ([3, 5]) ([[98], [100]])]) [0] 0 (ent_of Try.func33 (by kernel_rfl) rfl) (keys_uint64_string g 2 ([3, 5]) ([[98], [100]])) rfl rfl rfl (fun _ => rfl) rfl rfl rfl) ?_; rintro uk
  refine h_q hflS rfl ?_
  refine h_done (d_reg ?_)
  refine h_q hflS rfl ?_
  refine h_act (post := fun uv => [Vec 9 1 encS uv ([[98], [100]]), Vec 42 1 encU uk ([3, 5]), Tab 95 42 9 encU encS ltI g 2 ([3, 5]) ([[98], [100]])]) rfl (a_does (os' := fun uv => [Vec 9 1 encS uv ([[98], [100]]), Vec 42 1 encU uk ([3, 5]), Tab 95 42 9 encU encS ltI g 2 ([3, 5]) ([[98], [100]])]) [1] 0 (ent_of Try.func34 (by kernel_rfl) rfl) (values_uint64_string g 2 ([3, 5]) ([[98], [100]])) rfl rfl rfl (fun _ => rfl) rfl rfl rfl) ?_; rintro uv
  refine h_q hflS rfl ?_
  refine h_done (d_reg ?_)
  refine h_q hflS rfl ?_
  refine h_val rfl (.int .i64 (([3, 5]).length : Int)) (fun b w hb hH => e_vlen 1 Try.underlying44 rfl rfl rfl hH hb) ?_
  refine h_val rfl (.bool true) (fun b w hb hH => exec_cmp rfl rfl rfl (cmp_eql_t rfl) hb) ?_
  refine h_q hflS rfl ?_
  refine h_val rfl (elp uk (0 * 1)) (fun b w hb hH => e_vidx 1 sl_uint64 okU rfl 0 (by decide) rfl rfl rfl hH hb) ?_
  refine h_val rfl (.int .u64 3) (fun b w hb hH => e_vload1 1 ty_uint64 okU rfl 0 (a := 3) rfl rfl rfl rfl hH hb) ?_
  refine h_val rfl (.bool true) (fun b w hb hH => exec_cmp rfl rfl rfl (cmp_eql_t (by decide)) hb) ?_
  refine h_q hflS rfl ?_
  refine h_val rfl (elp uk (1 * 1)) (fun b w hb hH => e_vidx 1 sl_uint64 okU rfl 1 (by decide) rfl rfl rfl hH hb) ?_
  refine h_val rfl (.int .u64 5) (fun b w hb hH => e_vload1 1 ty_uint64 okU rfl 1 (a := 5) rfl rfl rfl rfl hH hb) ?_
  refine h_val rfl (.bool true) (fun b w hb hH => exec_cmp rfl rfl rfl (cmp_eql_t (by decide)) hb) ?_
  refine h_q hflS rfl ?_
  refine h_val rfl (.int .i64 (([[98], [100]]).length : Int)) (fun b w hb hH => e_vlen 0 Try.underlying65 rfl rfl rfl hH hb) ?_
  refine h_val rfl (.bool true) (fun b w hb hH => exec_cmp rfl rfl rfl (cmp_eql_t rfl) hb) ?_
  refine h_q hflS rfl ?_
  refine h_val rfl (elp uv (0 * 1)) (fun b w hb hH => e_vidx 0 sl_string okS rfl 0 (by decide) rfl rfl rfl hH hb) ?_
  refine h_val rfl (.string (bs ([98]))) (fun b w hb hH => e_vload1 0 ty_string okS rfl 0 (a := [98]) rfl rfl rfl rfl hH hb) ?_
  refine h_val rfl (.bool true) (fun b w hb hH => exec_same rfl rfl rfl (by decide) hb) ?_
  refine h_q hflS rfl ?_
  refine h_val rfl (elp uv (1 * 1)) (fun b w hb hH => e_vidx 0 sl_string okS rfl 1 (by decide) rfl rfl rfl hH hb) ?_
  refine h_val rfl (.string (bs ([100]))) (fun b w hb hH => e_vload1 0 ty_string okS rfl 1 (a := [100]) rfl rfl rfl rfl hH hb) ?_
  refine h_val rfl (.bool true) (fun b w hb hH => exec_same rfl rfl rfl (by decide) hb) ?_
  refine h_q hflS rfl ?_
  refine h_done ?_
  refine WC2.keep (env' := [(0, .bool true)]) ⟨rfl, trivial⟩ ?_
  refine d_ret ?_
  exact f_fin1 (.tmp rfl) (fun w h => ⟨rfl, below0 h.up⟩) rfl
end Go.Proofs.Ytmlfgdedhhmkpaa.Sep

namespace Go.Proofs.Ytmlfgdedhhmkpaa.Sep
open Go.RowKit
open Go.Proofs.Ytmlfgdedhhmkpaa.Mem (Dist Blk Chg below0)

/-- which entries a table has -/
def Ent {κ ν : Type} (K : List κ) (V : List ν) (k : κ) (x : ν) : Prop := ∃ p : Nat, K[p]? = some k ∧ V[p]? = some x
theorem ins_lo {α : Type} {l : List α} {q p : Nat} {x : α} (hq : q ≤ l.length) (h : p < q) : (ins l q x)[p]? = l[p]? := by
  unfold ins
  rw [List.getElem?_append_left (by rw [List.length_take]; omega), List.getElem?_take, if_pos h]
theorem ins_at {α : Type} {l : List α} {q : Nat} {x : α} (hq : q ≤ l.length) : (ins l q x)[q]? = some x := by
  unfold ins
  rw [List.getElem?_append_right (by rw [List.length_take]; omega), List.length_take, show q - min q l.length = 0 by omega]
  rfl
theorem ins_hi {α : Type} {l : List α} {q p : Nat} {x : α} (hq : q ≤ l.length) (h : q ≤ p) : (ins l q x)[p + 1]? = l[p]? := by
  unfold ins
  rw [List.getElem?_append_right (by rw [List.length_take]; omega), List.length_take, show p + 1 - min q l.length = (p - q) + 1 by omega, List.getElem?_cons_succ, List.getElem?_drop, show q + (p - q) = p by omega]
section
variable {κ ν : Type} [DecidableEq κ] {lt : κ → κ → Bool} {m : Int} {K K' : List κ} {V V' : List ν} {k : κ} {v : ν}
theorem ent_pos (o : Ord lt) (h : TOK lt m K V) {p : Nat} (hp : K[p]? = some k) : pos lt K k = p ∧ has lt K k = true := by
  have e : pos lt K k = p := pos_eq (Nat.le_of_lt (List.getElem?_eq_some_iff.1 hp).1) (fun q x hq hx => h.srt.lt_ hq hx hp) (fun x hx => by rw [hp] at hx; cases hx; exact o.irr k)
  exact ⟨e, has_t (by rw [e]; exact hp)⟩
theorem ent_get (o : Ord lt) (h : TOK lt m K V) {x d : ν} (he : Ent K V k x) : getT lt K V k d = (x, true) := by
  obtain ⟨p, h1, h2⟩ := he
  obtain ⟨e, hh⟩ := ent_pos o h h1
  exact getT_has hh (by rw [e]; exact h2)
/-- a Put that has room -/
theorem put_room (o : Ord lt) (h : TOK lt m K V) (hm : (K.length : Int) < m) : ∃ K' V', putT lt m K V k v = (K', V', true) ∧ K'.length ≤ K.length + 1 ∧ Ent K' V' k v ∧ ∀ c x, c ≠ k → Ent K V c x → Ent K' V' c x := by
  have hq := pos_le (lt := lt) (k := k) K
  rcases Bool.eq_false_or_eq_true (has lt K k) with hh | hh
  · refine ⟨K, V.set (pos lt K k) v, by unfold putT; rw [if_pos hh], by omega, ⟨pos lt K k, has_iff.1 hh, ?_⟩, ?_⟩
    · rw [List.getElem?_set_self (by rw [h.len]; exact has_lt hh)]
    · rintro c x hc ⟨p, h1, h2⟩
      refine ⟨p, h1, ?_⟩
      rw [List.getElem?_set_ne (fun e => hc ?_)]
      · exact h2
      · rw [← e, has_iff.1 hh] at h1
        exact (Option.some.inj h1).symm
  · refine ⟨ins K (pos lt K k) k, ins V (pos lt K k) v, by unfold putT; rw [if_neg (by rw [hh]; decide), if_pos hm], by rw [ins_len]; omega, ⟨pos lt K k, ins_at hq, ins_at (by rw [h.len]; exact hq)⟩, ?_⟩
    rintro c x hc ⟨p, h1, h2⟩
    rcases Nat.lt_or_ge p (pos lt K k) with hp | hp
    · exact ⟨p, (ins_lo hq hp).trans h1, (ins_lo (by rw [h.len]; exact hq) hp).trans h2⟩
    · exact ⟨p + 1, (ins_hi hq hp).trans h1, (ins_hi (by rw [h.len]; exact hq) hp).trans h2⟩
/-- what was put last under a key, of the first i -/
def lastW (ks : List κ) (vs : List ν) : Nat → κ → Option ν
  | 0, _ => none
  | i + 1, a => if ks[i]? = some a then vs[i]? else lastW ks vs i a
theorem lastW_in {ks : List κ} {vs : List ν} {i : Nat} {a : κ} {b : ν} (ha : ks[i]? = some a) (hb : vs[i]? = some b) : lastW ks vs (i + 1) a = some b := by
  unfold lastW
  rw [if_pos ha, hb]
theorem lastW_out {ks : List κ} {vs : List ν} {i : Nat} {a c : κ} (hc : ks[i]? = some c) (h : ¬ c = a) : lastW ks vs (i + 1) a = lastW ks vs i a := by
  conv => lhs; unfold lastW
  rw [if_neg (by rw [hc]; exact fun e => h (Option.some.inj e))]
end

set_option maxRecDepth 100000 in
theorem words_true (w : World) (keys vals : Value) (l0 : List (List UInt8)) (l1 : List Int) (hl0 : SlRd w 1 keys l0.length (flat encS l0)) (hl1 : SlRd w 1 vals l1.length (flat encI l1)) (hb0 : l0.length ≤ 9223372036854775807) (hb1 : l1.length ≤ 9223372036854775807) : Calls Try.prog 7 #[keys, vals] w fun e w' => e = .returned (.bool true) ∧ Below w.heap.size w w' := by
  obtain ⟨n, hn⟩ : ∃ n : Nat, n = min (min l0.length l1.length) 200 := ⟨_, rfl⟩
  have hn0 : n ≤ l0.length ∧ n ≤ l1.length ∧ n ≤ 200 := by omega
  refine d_in (args := [keys, vals]) 120 Try.func7 rfl rfl rfl ?_
  refine d_reg ?_
  refine h_q hflS rfl ?_
  refine h_done (d_reg ?_)
  refine h_q hflS rfl ?_
  refine h_act (post := fun g => [Tab 73 9 3 encS encI ltS g 4096 ([]) ([])]) rfl (a_does (os' := fun g => [Tab 73 9 3 encS encI ltS g 4096 ([]) ([])]) [] 0 (ent_of Try.func10 (by kernel_rfl) rfl) (new_string_int 4096 (by decide)) rfl rfl rfl (fun _ => rfl) rfl rfl rfl) ?_; rintro g
  refine h_q hflS rfl ?_
  refine h_done (d_seq (d_reg ?_))
  refine h_q hflS rfl ?_
  refine h_act (post := fun _ => [Tab 73 9 3 encS encI ltS g 4096 ([]) ([])]) rfl (a_call (ent_of Try.func11 (by kernel_rfl) rfl) (fun w hH => known_true w) rfl rfl rfl) ?_; rintro ⟨⟩
  refine h_q hflS rfl ?_
  refine h_val rfl (.bool false) (fun b w hb hH => exec_cmp rfl rfl rfl (cmp_neq_f (by decide)) hb) ?_
  refine h_q hflS rfl ?_
  refine h_val rfl (.bool false) (fun b w hb hH => exec_pnil_eql (by kernel_rfl) rfl rfl rfl hb) ?_
  refine h_q hflS rfl ?_
  refine h_done (d_else rfl (d_skip (f_to (d_reg ?_))))
  refine h_q hflS rfl ?_
  refine h_val rfl (.int .i64 (l0.length : Int)) (fun b w hb hH => e_slen (arg_rd hl0 hH) Try.underlying65 rfl rfl hb) ?_
  refine h_q hflS rfl ?_
  refine h_val rfl (.int .i64 (l1.length : Int)) (fun b w hb hH => e_slen (arg_rd hl1 hH) Try.underlying45 rfl rfl hb) ?_
  refine h_val rfl (.int .i64 ((min l0.length l1.length : Nat) : Int)) (fun b w hb hH => exec_builtin2 rfl rfl (fun cs => (fun w cs => run_min2 (by split <;> omega) _ _ w cs) w cs) hb) ?_
  refine h_val rfl (.int .i64 (n : Int)) (fun b w hb hH => exec_builtin2 rfl rfl (fun cs => (fun w cs => run_min2 (by split <;> omega) _ _ w cs) w cs) hb) ?_
  refine h_q hflS rfl ?_
  refine h_done (d_seq (d_reg ?_))
  refine h_q hflS rfl ?_
  refine h_done (d_block ?_)
  refine d_loop (α := Nat × List (List UInt8) × List Int) (fun ⟨i, K, V⟩ => [(0, keys), (1, vals), (4, .bool false), (5, .pointer (some ⟨g, 0, none⟩)), (7, .int .i64 (n : Int)), (8, .int .i64 ((i : Nat) : Int))]) (fun ⟨i, K, V⟩ => [Tab 73 9 3 encS encI ltS g 4096 K V]) (fun ⟨i, K, V⟩ => i ≤ n ∧ K.length ≤ i ∧ ∀ a x, lastW l0 l1 i a = some x → Ent K V a x) (fun ⟨i, K, V⟩ => n - i) (0, [], []) ⟨Nat.zero_le _, Nat.le_refl 0, fun a x h => by cases h⟩ ⟨rfl, rfl, rfl, rfl, rfl, rfl, trivial⟩ rfl ?_
  rintro ⟨i, K, V⟩ hI
  refine WC2.at_ (env' := [(0, keys), (1, vals), (4, .bool false), (5, .pointer (some ⟨g, 0, none⟩)), (7, .int .i64 (n : Int)), (8, .int .i64 ((i : Nat) : Int))]) (rs' := [Tab 73 9 3 encS encI ltS g 4096 K V]) ⟨rfl, rfl, rfl, rfl, rfl, rfl, trivial⟩ rfl ?_
  have hI1 : i ≤ n := hI.1
  have hI2 : K.length ≤ i := hI.2.1
  refine d_seq ?_
  rcases Nat.lt_or_ge i n with h3 | h3
  · skip
    obtain ⟨a, ha⟩ : ∃ a, l0[i]? = some a := ⟨_, List.getElem?_eq_getElem (by omega)⟩
    obtain ⟨bv, hbv⟩ : ∃ bv, l1[i]? = some bv := ⟨_, List.getElem?_eq_getElem (by omega)⟩
    refine WC2.fact 0 rfl Tab.ok ?_; rintro hT
    refine d_reg ?_
    refine h_q hflS rfl ?_
    refine h_val rfl (.bool true) (fun b w hb hH => exec_cmp rfl rfl rfl (cmp_lss_t (by omega)) hb) ?_
    refine h_done (d_then rfl (d_skip (f_to (d_seq (d_block ?_)))))
    obtain ⟨K2, V2, hp, hl2, he1, he2⟩ := put_room (k := a) (v := bv) ordS hT (by omega)
    refine d_seq ?_
    refine d_parS 11 1 [⟨.quiet, [none], fun _ => .pointer (some ⟨g, 0, none⟩), []⟩, ⟨.quiet, [none], fun _ => keys, []⟩, ⟨.quiet, [none], fun _ => .int .i64 ((i : Nat) : Int), []⟩, ⟨.quiet, [none], fun _ => elp keys (i * 1), [1, 2]⟩, ⟨.quiet, [none], fun _ => .string (bs a), [3]⟩, ⟨.quiet, [none], fun _ => vals, []⟩, ⟨.quiet, [none], fun _ => .int .i64 ((i : Nat) : Int), []⟩, ⟨.quiet, [none], fun _ => elp vals (i * 1), [5, 6]⟩, ⟨.quiet, [none], fun _ => .int .i64 bv, [7]⟩, ⟨.actv 0, [some false], fun _ => .bool true, [0, 4, 8]⟩, ⟨.quiet, [some true], fun _ => .bool false, [9]⟩] [(0, keys), (1, vals), (4, .bool false), (5, .pointer (some ⟨g, 0, none⟩)), (7, .int .i64 (n : Int)), (8, .int .i64 ((i : Nat) : Int)), (36, .int .i64 ((i : Nat) : Int)), (37, .int .i64 (n : Int)), (38, .bool true)] (fun ρ => match ρ with | [r0] => [selS r0 (fun _ => Tab 73 9 3 encS encI ltS g 4096 K2 V2) (Tab 73 9 3 encS encI ltS g 4096 K V)] | _ => []) (by kernel_rfl) (by kernel_rfl) ⟨rfl, rfl, rfl, rfl, rfl, rfl, rfl, rfl, rfl, trivial⟩ rfl ?_ ?_
    · skip
      refine s_cons (by intro r0_; exact ⟨rfl, fun b w hH hb => exec_q1 hflS rfl hb⟩) ?_
      refine s_cons (by intro r0_; exact ⟨rfl, fun b w hH hb => exec_q1 hflS rfl hb⟩) ?_
      refine s_cons (by intro r0_; exact ⟨rfl, fun b w hH hb => exec_q1 hflS rfl hb⟩) ?_
      refine s_cons (by intro r0_; exact ⟨rfl, fun b w hH hb => e_sidx okS (arg_rd hl0 hH) sl_string (j := i) ha rfl rfl rfl hb⟩) ?_
      refine s_cons (by intro r0_; exact ⟨rfl, fun b w hH hb => e_sload okS (by decide) (arg_rd hl0 hH) (j := i) ha ty_string (off := 0) rfl rfl rfl hb⟩) ?_
      refine s_cons (by intro r0_; exact ⟨rfl, fun b w hH hb => exec_q1 hflS rfl hb⟩) ?_
      refine s_cons (by intro r0_; exact ⟨rfl, fun b w hH hb => exec_q1 hflS rfl hb⟩) ?_
      refine s_cons (by intro r0_; exact ⟨rfl, fun b w hH hb => e_sidx okI (arg_rd hl1 hH) sl_int (j := i) hbv rfl rfl rfl hb⟩) ?_
      refine s_cons (by intro r0_; exact ⟨rfl, fun b w hH hb => e_sload okI (by decide) (arg_rd hl1 hH) (j := i) hbv ty_int (off := 0) rfl rfl rfl hb⟩) ?_
      refine s_cons (by exact ⟨rfl, Acts.su (a_does (os' := fun _ => [Tab 73 9 3 encS encI ltS g 4096 K2 V2]) [0] 0 (ent_of Try.func12 (by kernel_rfl) rfl) (put_string_int g 4096 K V a bv (K2, V2, true) hp) rfl rfl rfl (fun _ => rfl) rfl rfl rfl) rfl⟩) ?_
      refine s_cons (by intro v0_; exact ⟨rfl, fun b w hH hb => exec_q1 hflS rfl hb⟩) ?_
      exact s_nil
    intro v0_
    refine WL2.keep (env' := [(0, keys), (1, vals), (4, .bool false), (5, .pointer (some ⟨g, 0, none⟩)), (7, .int .i64 (n : Int)), (8, .int .i64 ((i : Nat) : Int)), (36, .int .i64 ((i : Nat) : Int)), (37, .int .i64 (n : Int)), (38, .bool true), (41, .pointer (some ⟨g, 0, none⟩)), (42, keys), (43, .int .i64 ((i : Nat) : Int)), (44, elp keys (i * 1)), (45, .string (bs a)), (46, vals), (47, .int .i64 ((i : Nat) : Int)), (48, elp vals (i * 1)), (49, .int .i64 bv), (50, .bool true), (51, .bool false)]) ⟨rfl, rfl, rfl, rfl, rfl, rfl, rfl, rfl, rfl, rfl, rfl, rfl, rfl, rfl, rfl, rfl, rfl, rfl, rfl, rfl, trivial⟩ ?_
    refine h_nil (f_to (d_else rfl (d_skip (f_block (f_to (d_reg1 ?_))))))
    refine h_q hflS rfl ?_
    refine h_val rfl (.int .i64 ((i + 1 : Nat) : Int)) (fun b w hb hH => exec_ar rfl rfl rfl rfl (by rw [IntWalk.i64_in _ (by omega)]; omega) hb) ?_
    refine h_q hflS rfl ?_
    refine h_nil ?_
    exact f_again (i + 1, K2, V2) 0 ⟨h3, Nat.le_trans hl2 (Nat.succ_le_succ hI2), fun c x hc => by
            by_cases e : a = c
            · subst e
              rw [lastW_in ha hbv] at hc
              cases hc
              exact he1
            · rw [lastW_out ha e] at hc
              exact he2 c x (fun e2 => e e2.symm) (hI.2.2 c x hc)⟩ (show n - (i + 1) < n - i by omega) ⟨rfl, rfl, rfl, rfl, rfl, rfl, trivial⟩ rfl
  · skip
    have hIn : ∀ a x, lastW l0 l1 n a = some x → Ent K V a x := fun a x h => hI.2.2 a x (by rw [show i = n by omega]; exact h)
    refine d_reg ?_
    refine h_q hflS rfl ?_
    refine h_val rfl (.bool false) (fun b w hb hH => exec_cmp rfl rfl rfl (cmp_lss_f (by omega)) hb) ?_
    refine h_done (d_else rfl (d_exit (f_then_exit (f_then_exit (f_block_exit (f_to (d_seq ?_)))))))
    refine WC2.fact 0 rfl Tab.ok ?_; rintro hT
    refine d_reg ?_
    refine h_q hflS rfl ?_
    refine h_done (d_block ?_)
    refine d_loop (α := Nat) (fun j => [(0, keys), (1, vals), (4, .bool false), (5, .pointer (some ⟨g, 0, none⟩)), (7, .int .i64 (n : Int)), (9, .int .i64 ((j : Nat) : Int))]) (fun j => [Tab 73 9 3 encS encI ltS g 4096 K V]) (fun j => j ≤ n) (fun j => n - j) 0 (Nat.zero_le _) ⟨rfl, rfl, rfl, rfl, rfl, rfl, trivial⟩ rfl ?_
    rintro j hJ
    refine WC2.at_ (env' := [(0, keys), (1, vals), (4, .bool false), (5, .pointer (some ⟨g, 0, none⟩)), (7, .int .i64 (n : Int)), (9, .int .i64 ((j : Nat) : Int))]) (rs' := [Tab 73 9 3 encS encI ltS g 4096 K V]) ⟨rfl, rfl, rfl, rfl, rfl, rfl, trivial⟩ rfl ?_
    refine d_seq ?_
    rcases Nat.lt_or_ge j n with h4 | h4
    · skip
      obtain ⟨a, ha⟩ : ∃ a, l0[j]? = some a := ⟨_, List.getElem?_eq_getElem (by omega)⟩
      obtain ⟨bv, hbv⟩ : ∃ bv, l1[j]? = some bv := ⟨_, List.getElem?_eq_getElem (by omega)⟩
      refine d_reg ?_
      refine h_q hflS rfl ?_
      refine h_val rfl (.bool true) (fun b w hb hH => exec_cmp rfl rfl rfl (cmp_lss_t (by omega)) hb) ?_
      refine h_done (d_then rfl (d_skip (f_to (d_seq (d_block (d_reg ?_))))))
      refine h_q hflS rfl ?_
      refine h_val rfl (elp vals (j * 1)) (fun b w hb hH => e_sidx okI (arg_rd hl1 hH) sl_int (j := j) hbv rfl rfl rfl hb) ?_
      refine h_val rfl (.int .i64 bv) (fun b w hb hH => e_sload okI (by decide) (arg_rd hl1 hH) (j := j) hbv ty_int (off := 0) rfl rfl rfl hb) ?_
      refine h_q hflS rfl ?_
      refine h_done (d_seq (d_reg ?_))
      refine h_q hflS rfl ?_
      refine h_val rfl (.int .i64 ((j + 1 : Nat) : Int)) (fun b w hb hH => exec_ar rfl rfl rfl rfl (by rw [IntWalk.i64_in _ (by omega)]; omega) hb) ?_
      refine h_q hflS rfl ?_
      refine h_done (d_block ?_)
      refine d_loop (α := Nat × Int) (fun ⟨k, u⟩ => [(0, keys), (1, vals), (4, .bool false), (5, .pointer (some ⟨g, 0, none⟩)), (7, .int .i64 (n : Int)), (9, .int .i64 ((j : Nat) : Int)), (52, .int .i64 ((j : Nat) : Int)), (53, .int .i64 (n : Int)), (54, .bool true), (57, vals), (58, .int .i64 ((j : Nat) : Int)), (59, elp vals (j * 1)), (60, .int .i64 bv), (10, .int .i64 u), (61, .int .i64 ((j : Nat) : Int)), (62, .int .i64 ((j + 1 : Nat) : Int)), (11, .int .i64 ((k : Nat) : Int))]) (fun ⟨k, u⟩ => [Tab 73 9 3 encS encI ltS g 4096 K V]) (fun ⟨k, u⟩ => k ≤ n ∧ lastW l0 l1 k a = some u) (fun ⟨k, u⟩ => n - k) (j + 1, bv) ⟨h4, lastW_in ha hbv⟩ ⟨rfl, rfl, rfl, rfl, rfl, rfl, rfl, rfl, rfl, rfl, rfl, rfl, rfl, rfl, rfl, rfl, rfl, trivial⟩ rfl ?_
      rintro ⟨k, u⟩ hJJ
      refine WC2.at_ (env' := [(0, keys), (1, vals), (4, .bool false), (5, .pointer (some ⟨g, 0, none⟩)), (7, .int .i64 (n : Int)), (9, .int .i64 ((j : Nat) : Int)), (52, .int .i64 ((j : Nat) : Int)), (53, .int .i64 (n : Int)), (54, .bool true), (57, vals), (58, .int .i64 ((j : Nat) : Int)), (59, elp vals (j * 1)), (60, .int .i64 bv), (10, .int .i64 u), (61, .int .i64 ((j : Nat) : Int)), (62, .int .i64 ((j + 1 : Nat) : Int)), (11, .int .i64 ((k : Nat) : Int))]) (rs' := [Tab 73 9 3 encS encI ltS g 4096 K V]) ⟨rfl, rfl, rfl, rfl, rfl, rfl, rfl, rfl, rfl, rfl, rfl, rfl, rfl, rfl, rfl, rfl, rfl, trivial⟩ rfl ?_
      have hJ1 : k ≤ n := hJJ.1
      have hJ2 : lastW l0 l1 k a = some u := hJJ.2
      refine d_seq ?_
      rcases Nat.lt_or_ge k n with h5 | h5
      · skip
        obtain ⟨c, hc⟩ : ∃ c, l0[k]? = some c := ⟨_, List.getElem?_eq_getElem (by omega)⟩
        obtain ⟨d, hd⟩ : ∃ d, l1[k]? = some d := ⟨_, List.getElem?_eq_getElem (by omega)⟩
        refine d_reg ?_
        refine h_q hflS rfl ?_
        refine h_val rfl (.bool true) (fun b w hb hH => exec_cmp rfl rfl rfl (cmp_lss_t (by omega)) hb) ?_
        refine h_done (d_then rfl (d_skip (f_to (d_seq (d_block ?_)))))
        by_cases he : c = a
        · skip
          refine d_seq ?_
          refine d_parS 9 0 [⟨.quiet, [], fun _ => keys, []⟩, ⟨.quiet, [], fun _ => .int .i64 ((k : Nat) : Int), []⟩, ⟨.quiet, [], fun _ => elp keys (k * 1), [0, 1]⟩, ⟨.quiet, [], fun _ => .string (bs c), [2]⟩, ⟨.quiet, [], fun _ => keys, []⟩, ⟨.quiet, [], fun _ => .int .i64 ((j : Nat) : Int), []⟩, ⟨.quiet, [], fun _ => elp keys (j * 1), [4, 5]⟩, ⟨.quiet, [], fun _ => .string (bs a), [6]⟩, ⟨.quiet, [], fun _ => .bool true, [3, 7]⟩] [(0, keys), (1, vals), (4, .bool false), (5, .pointer (some ⟨g, 0, none⟩)), (7, .int .i64 (n : Int)), (9, .int .i64 ((j : Nat) : Int)), (52, .int .i64 ((j : Nat) : Int)), (53, .int .i64 (n : Int)), (54, .bool true), (57, vals), (58, .int .i64 ((j : Nat) : Int)), (59, elp vals (j * 1)), (60, .int .i64 bv), (10, .int .i64 u), (61, .int .i64 ((j : Nat) : Int)), (62, .int .i64 ((j + 1 : Nat) : Int)), (11, .int .i64 ((k : Nat) : Int)), (63, .int .i64 ((k : Nat) : Int)), (64, .int .i64 (n : Int)), (65, .bool true)] (fun _ => [Tab 73 9 3 encS encI ltS g 4096 K V]) (by kernel_rfl) (by kernel_rfl) ⟨rfl, rfl, rfl, rfl, rfl, rfl, rfl, rfl, rfl, rfl, rfl, rfl, rfl, rfl, rfl, rfl, rfl, rfl, rfl, rfl, trivial⟩ rfl ?_ ?_
          · skip
            refine s_cons (by exact ⟨rfl, fun b w hH hb => exec_q1 hflS rfl hb⟩) ?_
            refine s_cons (by exact ⟨rfl, fun b w hH hb => exec_q1 hflS rfl hb⟩) ?_
            refine s_cons (by exact ⟨rfl, fun b w hH hb => e_sidx okS (arg_rd hl0 hH) sl_string (j := k) hc rfl rfl rfl hb⟩) ?_
            refine s_cons (by exact ⟨rfl, fun b w hH hb => e_sload okS (by decide) (arg_rd hl0 hH) (j := k) hc ty_string (off := 0) rfl rfl rfl hb⟩) ?_
            refine s_cons (by exact ⟨rfl, fun b w hH hb => exec_q1 hflS rfl hb⟩) ?_
            refine s_cons (by exact ⟨rfl, fun b w hH hb => exec_q1 hflS rfl hb⟩) ?_
            refine s_cons (by exact ⟨rfl, fun b w hH hb => e_sidx okS (arg_rd hl0 hH) sl_string (j := j) ha rfl rfl rfl hb⟩) ?_
            refine s_cons (by exact ⟨rfl, fun b w hH hb => e_sload okS (by decide) (arg_rd hl0 hH) (j := j) ha ty_string (off := 0) rfl rfl rfl hb⟩) ?_
            refine s_cons (by exact ⟨rfl, fun b w hH hb => exec_same rfl rfl rfl (by rw [he]; simp) hb⟩) ?_
            exact s_nil
          refine WL2.keep (env' := [(0, keys), (1, vals), (4, .bool false), (5, .pointer (some ⟨g, 0, none⟩)), (7, .int .i64 (n : Int)), (9, .int .i64 ((j : Nat) : Int)), (52, .int .i64 ((j : Nat) : Int)), (53, .int .i64 (n : Int)), (54, .bool true), (57, vals), (58, .int .i64 ((j : Nat) : Int)), (59, elp vals (j * 1)), (60, .int .i64 bv), (10, .int .i64 u), (61, .int .i64 ((j : Nat) : Int)), (62, .int .i64 ((j + 1 : Nat) : Int)), (11, .int .i64 ((k : Nat) : Int)), (63, .int .i64 ((k : Nat) : Int)), (64, .int .i64 (n : Int)), (65, .bool true), (68, keys), (69, .int .i64 ((k : Nat) : Int)), (70, elp keys (k * 1)), (71, .string (bs c)), (72, keys), (73, .int .i64 ((j : Nat) : Int)), (74, elp keys (j * 1)), (75, .string (bs a)), (76, .bool true)]) ⟨rfl, rfl, rfl, rfl, rfl, rfl, rfl, rfl, rfl, rfl, rfl, rfl, rfl, rfl, rfl, rfl, rfl, rfl, rfl, rfl, rfl, rfl, rfl, rfl, rfl, rfl, rfl, rfl, rfl, trivial⟩ ?_
          refine h_nil (f_to (d_then rfl (d_reg1 ?_)))
          refine h_q hflS rfl ?_
          refine h_val rfl (elp vals (k * 1)) (fun b w hb hH => e_sidx okI (arg_rd hl1 hH) sl_int (j := k) hd rfl rfl rfl hb) ?_
          refine h_val rfl (.int .i64 d) (fun b w hb hH => e_sload okI (by decide) (arg_rd hl1 hH) (j := k) hd ty_int (off := 0) rfl rfl rfl hb) ?_
          refine h_q hflS rfl ?_
          refine h_nil (f_block (f_to (d_reg1 ?_)))
          refine h_q hflS rfl ?_
          refine h_val rfl (.int .i64 ((k + 1 : Nat) : Int)) (fun b w hb hH => exec_ar rfl rfl rfl rfl (by rw [IntWalk.i64_in _ (by omega)]; omega) hb) ?_
          refine h_q hflS rfl ?_
          refine h_nil ?_
          exact f_again (k + 1, d) 0 ⟨h5, by rw [← he]; exact lastW_in hc hd⟩ (show n - (k + 1) < n - k by omega) ⟨rfl, rfl, rfl, rfl, rfl, rfl, rfl, rfl, rfl, rfl, rfl, rfl, rfl, rfl, rfl, rfl, rfl, trivial⟩ rfl
        · skip
          refine d_seq ?_
          refine d_parS 9 0 [⟨.quiet, [], fun _ => keys, []⟩, ⟨.quiet, [], fun _ => .int .i64 ((k : Nat) : Int), []⟩, ⟨.quiet, [], fun _ => elp keys (k * 1), [0, 1]⟩, ⟨.quiet, [], fun _ => .string (bs c), [2]⟩, ⟨.quiet, [], fun _ => keys, []⟩, ⟨.quiet, [], fun _ => .int .i64 ((j : Nat) : Int), []⟩, ⟨.quiet, [], fun _ => elp keys (j * 1), [4, 5]⟩, ⟨.quiet, [], fun _ => .string (bs a), [6]⟩, ⟨.quiet, [], fun _ => .bool false, [3, 7]⟩] [(0, keys), (1, vals), (4, .bool false), (5, .pointer (some ⟨g, 0, none⟩)), (7, .int .i64 (n : Int)), (9, .int .i64 ((j : Nat) : Int)), (52, .int .i64 ((j : Nat) : Int)), (53, .int .i64 (n : Int)), (54, .bool true), (57, vals), (58, .int .i64 ((j : Nat) : Int)), (59, elp vals (j * 1)), (60, .int .i64 bv), (10, .int .i64 u), (61, .int .i64 ((j : Nat) : Int)), (62, .int .i64 ((j + 1 : Nat) : Int)), (11, .int .i64 ((k : Nat) : Int)), (63, .int .i64 ((k : Nat) : Int)), (64, .int .i64 (n : Int)), (65, .bool true)] (fun _ => [Tab 73 9 3 encS encI ltS g 4096 K V]) (by kernel_rfl) (by kernel_rfl) ⟨rfl, rfl, rfl, rfl, rfl, rfl, rfl, rfl, rfl, rfl, rfl, rfl, rfl, rfl, rfl, rfl, rfl, rfl, rfl, rfl, trivial⟩ rfl ?_ ?_
          · skip
            refine s_cons (by exact ⟨rfl, fun b w hH hb => exec_q1 hflS rfl hb⟩) ?_
            refine s_cons (by exact ⟨rfl, fun b w hH hb => exec_q1 hflS rfl hb⟩) ?_
            refine s_cons (by exact ⟨rfl, fun b w hH hb => e_sidx okS (arg_rd hl0 hH) sl_string (j := k) hc rfl rfl rfl hb⟩) ?_
            refine s_cons (by exact ⟨rfl, fun b w hH hb => e_sload okS (by decide) (arg_rd hl0 hH) (j := k) hc ty_string (off := 0) rfl rfl rfl hb⟩) ?_
            refine s_cons (by exact ⟨rfl, fun b w hH hb => exec_q1 hflS rfl hb⟩) ?_
            refine s_cons (by exact ⟨rfl, fun b w hH hb => exec_q1 hflS rfl hb⟩) ?_
            refine s_cons (by exact ⟨rfl, fun b w hH hb => e_sidx okS (arg_rd hl0 hH) sl_string (j := j) ha rfl rfl rfl hb⟩) ?_
            refine s_cons (by exact ⟨rfl, fun b w hH hb => e_sload okS (by decide) (arg_rd hl0 hH) (j := j) ha ty_string (off := 0) rfl rfl rfl hb⟩) ?_
            refine s_cons (by exact ⟨rfl, fun b w hH hb => exec_same rfl rfl rfl (by simpa using he) hb⟩) ?_
            exact s_nil
          refine WL2.keep (env' := [(0, keys), (1, vals), (4, .bool false), (5, .pointer (some ⟨g, 0, none⟩)), (7, .int .i64 (n : Int)), (9, .int .i64 ((j : Nat) : Int)), (52, .int .i64 ((j : Nat) : Int)), (53, .int .i64 (n : Int)), (54, .bool true), (57, vals), (58, .int .i64 ((j : Nat) : Int)), (59, elp vals (j * 1)), (60, .int .i64 bv), (10, .int .i64 u), (61, .int .i64 ((j : Nat) : Int)), (62, .int .i64 ((j + 1 : Nat) : Int)), (11, .int .i64 ((k : Nat) : Int)), (63, .int .i64 ((k : Nat) : Int)), (64, .int .i64 (n : Int)), (65, .bool true), (68, keys), (69, .int .i64 ((k : Nat) : Int)), (70, elp keys (k * 1)), (71, .string (bs c)), (72, keys), (73, .int .i64 ((j : Nat) : Int)), (74, elp keys (j * 1)), (75, .string (bs a)), (76, .bool false)]) ⟨rfl, rfl, rfl, rfl, rfl, rfl, rfl, rfl, rfl, rfl, rfl, rfl, rfl, rfl, rfl, rfl, rfl, rfl, rfl, rfl, rfl, rfl, rfl, rfl, rfl, rfl, rfl, rfl, rfl, trivial⟩ ?_
          refine h_nil (f_to (d_else rfl (d_skip (f_block (f_to (d_reg1 ?_))))))
          refine h_q hflS rfl ?_
          refine h_val rfl (.int .i64 ((k + 1 : Nat) : Int)) (fun b w hb hH => exec_ar rfl rfl rfl rfl (by rw [IntWalk.i64_in _ (by omega)]; omega) hb) ?_
          refine h_q hflS rfl ?_
          refine h_nil ?_
          exact f_again (k + 1, u) 0 ⟨h5, by rw [lastW_out hc he]; exact hJ2⟩ (show n - (k + 1) < n - k by omega) ⟨rfl, rfl, rfl, rfl, rfl, rfl, rfl, rfl, rfl, rfl, rfl, rfl, rfl, rfl, rfl, rfl, rfl, trivial⟩ rfl
      · skip
        obtain rfl : k = n := by omega
        have hg : getT ltS K V a 0 = (u, true) := ent_get ordS hT (hIn a u hJ2)
        refine d_reg ?_
        refine h_q hflS rfl ?_
        refine h_val rfl (.bool false) (fun b w hb hH => exec_cmp rfl rfl rfl (cmp_lss_f (by omega)) hb) ?_
        refine h_done (d_else rfl (d_exit (f_then_exit (f_then_exit (f_block_exit (f_to (d_reg ?_)))))))
        refine h_q hflS rfl ?_
        refine h_val rfl (elp keys (j * 1)) (fun b w hb hH => e_sidx okS (arg_rd hl0 hH) sl_string (j := j) ha rfl rfl rfl hb) ?_
        refine h_val rfl (.string (bs a)) (fun b w hb hH => e_sload okS (by decide) (arg_rd hl0 hH) (j := j) ha ty_string (off := 0) rfl rfl rfl hb) ?_
        refine h_act (post := fun _ => [Tab 73 9 3 encS encI ltS g 4096 K V]) rfl (a_does (os' := fun _ => [Tab 73 9 3 encS encI ltS g 4096 K V]) [0] 0 (ent_of Try.func14 (by kernel_rfl) rfl) (get_string_int g 4096 K V a (u, true) hg) rfl rfl rfl (fun _ => rfl) rfl rfl rfl) ?_; rintro ⟨⟩
        refine h_q hflS rfl ?_
        refine h_done (d_reg ?_)
        refine h_q hflS rfl ?_
        refine h_val rfl (.bool false) (fun b w hb hH => exec_cmp rfl rfl rfl (cmp_neq_f (by simp)) hb) ?_
        refine h_q hflS rfl ?_
        refine h_done (d_else rfl (d_skip (f_block (f_to (d_reg1 ?_)))))
        refine h_q hflS rfl ?_
        refine h_val rfl (.int .i64 ((j + 1 : Nat) : Int)) (fun b w hb hH => exec_ar rfl rfl rfl rfl (by rw [IntWalk.i64_in _ (by omega)]; omega) hb) ?_
        refine h_q hflS rfl ?_
        refine h_nil ?_
        exact f_again (j + 1) 0 h4 (show k - (j + 1) < k - j by omega) ⟨rfl, rfl, rfl, rfl, rfl, rfl, trivial⟩ rfl
    · skip
      refine d_reg ?_
      refine h_q hflS rfl ?_
      refine h_val rfl (.bool false) (fun b w hb hH => exec_cmp rfl rfl rfl (cmp_lss_f (by omega)) hb) ?_
      refine h_done (d_else rfl (d_exit (f_then_exit (f_then_exit (f_block_exit (f_to (d_reg ?_)))))))
      refine h_q hflS rfl ?_
      refine h_act (post := fun uk => [Vec 9 1 encS uk K, Tab 73 9 3 encS encI ltS g 4096 K V]) rfl (a_does (os' := fun uk => [Vec 9 1 encS uk K, Tab 73 9 3 encS encI ltS g 4096 K V]) [0] 0 (ent_of Try.func29 (by kernel_rfl) rfl) (keys_string_int g 4096 K V) rfl rfl rfl (fun _ => rfl) rfl rfl rfl) ?_; rintro uk
      refine h_q hflS rfl ?_
      refine h_done (d_seq (d_reg ?_))
      refine h_q hflS rfl ?_
      refine h_done (d_block ?_)
      refine d_loop (α := Nat) (fun q => [(4, .bool false), (5, .pointer (some ⟨g, 0, none⟩)), (14, uk), (15, .int .i64 ((q + 1 : Nat) : Int))]) (fun q => [Vec 9 1 encS uk K, Tab 73 9 3 encS encI ltS g 4096 K V]) (fun q => True) (fun q => K.length - q) 0 trivial ⟨rfl, rfl, rfl, rfl, trivial⟩ rfl ?_
      rintro q _
      refine WC2.at_ (env' := [(4, .bool false), (5, .pointer (some ⟨g, 0, none⟩)), (14, uk), (15, .int .i64 ((q + 1 : Nat) : Int))]) (rs' := [Vec 9 1 encS uk K, Tab 73 9 3 encS encI ltS g 4096 K V]) ⟨rfl, rfl, rfl, rfl, trivial⟩ rfl ?_
      refine d_seq ?_
      rcases Nat.lt_or_ge (q + 1) K.length with h6 | h6
      · skip
        obtain ⟨x, hx⟩ : ∃ x, K[q]? = some x := ⟨_, List.getElem?_eq_getElem (by omega)⟩
        obtain ⟨y, hy⟩ : ∃ y, K[(q + 1)]? = some y := ⟨_, List.getElem?_eq_getElem (by omega)⟩
        have hxy : ltS x y = true := hT.srt.lt_ (Nat.lt_succ_self q) hx hy
        refine d_reg ?_
        refine h_q hflS rfl ?_
        refine h_val rfl (.int .i64 (K.length : Int)) (fun b w hb hH => e_vlen 0 Try.underlying65 rfl rfl rfl hH hb) ?_
        refine h_val rfl (.bool true) (fun b w hb hH => exec_cmp rfl rfl rfl (cmp_lss_t (by omega)) hb) ?_
        refine h_done (d_then rfl (d_skip (f_to (d_seq (d_block (d_seq ?_))))))
        refine d_parS 10 0 [⟨.quiet, [], fun _ => uk, []⟩, ⟨.quiet, [], fun _ => .int .i64 ((q + 1 : Nat) : Int), []⟩, ⟨.quiet, [], fun _ => .int .i64 ((q : Nat) : Int), [1]⟩, ⟨.quiet, [], fun _ => elp uk (q * 1), [0, 2]⟩, ⟨.quiet, [], fun _ => .string (bs x), [3]⟩, ⟨.quiet, [], fun _ => uk, []⟩, ⟨.quiet, [], fun _ => .int .i64 ((q + 1 : Nat) : Int), []⟩, ⟨.quiet, [], fun _ => elp uk ((q + 1) * 1), [5, 6]⟩, ⟨.quiet, [], fun _ => .string (bs y), [7]⟩, ⟨.quiet, [], fun _ => .bool false, [4, 8]⟩] [(4, .bool false), (5, .pointer (some ⟨g, 0, none⟩)), (14, uk), (15, .int .i64 ((q + 1 : Nat) : Int)), (99, .int .i64 ((q + 1 : Nat) : Int)), (100, uk), (101, .int .i64 (K.length : Int)), (102, .bool true)] (fun _ => [Vec 9 1 encS uk K, Tab 73 9 3 encS encI ltS g 4096 K V]) (by kernel_rfl) (by kernel_rfl) ⟨rfl, rfl, rfl, rfl, rfl, rfl, rfl, rfl, trivial⟩ rfl ?_ ?_
        · skip
          refine s_cons (by exact ⟨rfl, fun b w hH hb => exec_q1 hflS rfl hb⟩) ?_
          refine s_cons (by exact ⟨rfl, fun b w hH hb => exec_q1 hflS rfl hb⟩) ?_
          refine s_cons (by exact ⟨rfl, fun b w hH hb => exec_ar rfl rfl rfl rfl (by rw [IntWalk.i64_in _ (by omega)]; omega) hb⟩) ?_
          refine s_cons (by exact ⟨rfl, fun b w hH hb => e_vidx 0 sl_string okS rfl q (by omega) rfl rfl rfl hH hb⟩) ?_
          refine s_cons (by exact ⟨rfl, fun b w hH hb => e_vload1 0 ty_string okS rfl q (a := x) hx rfl rfl rfl hH hb⟩) ?_
          refine s_cons (by exact ⟨rfl, fun b w hH hb => exec_q1 hflS rfl hb⟩) ?_
          refine s_cons (by exact ⟨rfl, fun b w hH hb => exec_q1 hflS rfl hb⟩) ?_
          refine s_cons (by exact ⟨rfl, fun b w hH hb => e_vidx 0 sl_string okS rfl (q + 1) h6 rfl rfl rfl hH hb⟩) ?_
          refine s_cons (by exact ⟨rfl, fun b w hH hb => e_vload1 0 ty_string okS rfl (q + 1) (a := y) hy rfl rfl rfl hH hb⟩) ?_
          refine s_cons (by exact ⟨rfl, fun b w hH hb => (exec_sgeq rfl rfl rfl hb).trans (by rw [show Op.bytesLess x y = true from hxy]; rfl)⟩) ?_
          exact s_nil
        refine WL2.keep (env' := [(4, .bool false), (5, .pointer (some ⟨g, 0, none⟩)), (14, uk), (15, .int .i64 ((q + 1 : Nat) : Int)), (99, .int .i64 ((q + 1 : Nat) : Int)), (100, uk), (101, .int .i64 (K.length : Int)), (102, .bool true), (105, uk), (106, .int .i64 ((q + 1 : Nat) : Int)), (107, .int .i64 ((q : Nat) : Int)), (108, elp uk (q * 1)), (109, .string (bs x)), (110, uk), (111, .int .i64 ((q + 1 : Nat) : Int)), (112, elp uk ((q + 1) * 1)), (113, .string (bs y)), (114, .bool false)]) ⟨rfl, rfl, rfl, rfl, rfl, rfl, rfl, rfl, rfl, rfl, rfl, rfl, rfl, rfl, rfl, rfl, rfl, rfl, trivial⟩ ?_
        refine h_nil (f_to (d_else rfl (d_skip (f_block (f_to (d_reg1 ?_))))))
        refine h_q hflS rfl ?_
        refine h_val rfl (.int .i64 ((q + 1 + 1 : Nat) : Int)) (fun b w hb hH => exec_ar rfl rfl rfl rfl (by rw [IntWalk.i64_in _ (by omega)]; omega) hb) ?_
        refine h_q hflS rfl ?_
        refine h_nil ?_
        exact f_again (q + 1) 0 trivial (show K.length - (q + 1) < K.length - q by omega) ⟨rfl, rfl, rfl, rfl, trivial⟩ rfl
      · skip
        refine d_reg ?_
        refine h_q hflS rfl ?_
        refine h_val rfl (.int .i64 (K.length : Int)) (fun b w hb hH => e_vlen 0 Try.underlying65 rfl rfl rfl hH hb) ?_
        refine h_val rfl (.bool false) (fun b w hb hH => exec_cmp rfl rfl rfl (cmp_lss_f (by omega)) hb) ?_
        refine h_done (d_else rfl (d_exit (f_then_exit (f_then_exit (f_block_exit (f_to (d_reg ?_)))))))
        refine h_q hflS rfl ?_
        refine h_val rfl (.int .i64 (K.length : Int)) (fun b w hb hH => e_vlen 0 Try.underlying65 rfl rfl rfl hH hb) ?_
        refine h_q hflS rfl ?_
        refine h_act (post := fun _ => [Vec 9 1 encS uk K, Tab 73 9 3 encS encI ltS g 4096 K V]) rfl (a_does (os' := fun _ => [Vec 9 1 encS uk K, Tab 73 9 3 encS encI ltS g 4096 K V]) [1] 0 (ent_of Try.func16 (by kernel_rfl) rfl) (len_string_int g 4096 K V) rfl rfl rfl (fun _ => rfl) rfl rfl rfl) ?_; rintro ⟨⟩
        refine h_val rfl (.bool true) (fun b w hb hH => exec_cmp rfl rfl rfl (cmp_eql_t rfl) hb) ?_
        refine h_q hflS rfl ?_
        refine h_done (d_ret ?_)
        exact f_fin1 (.tmp rfl) (fun w h => ⟨rfl, below0 h.up⟩) rfl
end Go.Proofs.Ytmlfgdedhhmkpaa.Sep

namespace Go.Proofs.Ytmlfgdedhhmkpaa
open Go.ChangeShapes Go.WideShapes Go.ChangeAt Go.RowKit

theorem own : ownKnob Try.prog.godebug = none := by kernel_rfl
theorem laidOut : laidOutB Try.prog = true := by kernel_rfl

section
variable {H : Type} {enc : TypeId × Value → H} {P : Program}

/-- what the arguments read as stays, where nothing that was there has changed -/
theorem trodAll_stays (hl : laidOutB P = true) {W W' : World} (hb : Below W.heap.size W W') :
    ∀ {ts : List TypeId} {vs : List Value} {ds : List (DataW H)} {ps : List MemPlace}, (∀ t ∈ ts, P.readableRec t = true ∧ t < P.types.size) → (∀ x ∈ ps, x.block < W.heap.size) →
      DataW.TrodAll enc P W 0 (fun _ => true) true ts vs ds ps → DataW.TrodAll enc P W' 0 (fun b => decide (b < W.heap.size)) true ts vs ds ps
  | [], vs, ds, ps, _, _, h => by
    obtain ⟨rfl, rfl, rfl⟩ := trodAll_nil h
    rfl
  | t :: ts, vs, ds, ps, ht, hp, h => by
    obtain ⟨v, vs1, d, ds1, a, b, rfl, rfl, rfl, h1, h2⟩ := trodAll_cons h
    obtain ⟨hr, hrow⟩ := ht t List.mem_cons_self
    exact ⟨a, b, Below.trod hl hr hrow h1 hb (fun x hx => hp x (List.mem_append_left _ hx)), trodAll_stays hl hb (fun t h => ht t (List.mem_cons_of_mem _ h)) (fun x hx => hp x (List.mem_append_right _ hx)) h2, rfl⟩

theorem law_post {f : Func} {s : ChangeSpec} {tb : TypeId} {W W' : World} {args : Array Value} {ds gs : List (DataW H)} {before : List MemPlace}
    (hl : laidOutB P = true) (hr : f.resultTypes = #[tb]) (htb : P.underlying tb = some .bool) (hread : ∀ t ∈ f.params.toList, P.readableRec t = true ∧ t < P.types.size)
    (hvars : s.vars = []) (hs : s.fn H ds = { results := [.lit (.bool true)], args := ds })
    (hW : DataW.Whole enc P f.params.toList s.vars false W args.toList ds gs before) (hb : Below W.heap.size W W') :
    s.post enc P f false true false false W args (.bool true) W' := by
  have hW' := hW
  obtain ⟨p, q, hA, hV, rfl, hfz, hnd⟩ := hW
  rw [hvars] at hV
  obtain ⟨rfl, rfl⟩ := trodVars_none hV
  have hlt : ∀ x ∈ p, x.block < W.heap.size := fun x hx => hW'.lt x (by simpa using hx)
  refine ⟨ds, [], p ++ [], [], p, [], hW', ?_, ?_, ?_, ?_, fun h => by cases h⟩
  · rw [List.append_nil, hs, hr]
    exact trodAll_cons_mk (shut_bool htb true) trodAll_mk0
  · rw [List.append_nil, hs]
    exact trodAll_stays hl hb hread hlt hA
  · rw [List.append_nil, hs, hvars]
    rfl
  · exact World.keptBut_mono (fun x hx => ⟨hx, .inr (.inl (by simpa using hx))⟩) (hb.frame (· ∈ p ++ []))
end

/-! ## Arguments, opened -/
section
variable {H : Type} {enc : TypeId × Value → H} {P : Program}

end


theorem wf_i64 {x : Int} (h : (Lit.int .i64 x).wf = true) : -9223372036854775808 ≤ x ∧ x ≤ 9223372036854775807 := by
  simpa [Lit.wf, IntKind.min, IntKind.max, IntKind.signed, IntKind.bits] using h
theorem readable_of {P : Program} {l : List TypeId} (h : l.all (fun t => P.readableRec t && decide (t < P.types.size)) = true) : ∀ t ∈ l, P.readableRec t = true ∧ t < P.types.size := by
  intro t ht
  have := List.all_eq_true.1 h t ht
  simpa using this
/-! ## The bound of the second form -/
theorem bound {H : Type} {l : List (DataW H)} (hk : Rows.uptoSmall H l = true) : Rows.uptoBulkAll l ≤ 1048576 := of_decide_eq_true hk
end Go.Proofs.Ytmlfgdedhhmkpaa

namespace Go.Proofs.Ytmlfgdedhhmkpaa.Sep
open Go.ChangeShapes Go.WideShapes Go.ChangeAt Go.RowKit
/-- one step of a play -/
structure StepD where
  what : Int
  k : Int
  v : Int
  near : Bool
instance : Inhabited StepD := ⟨⟨0, 0, 0, false⟩⟩
def StepD.ok (x : StepD) : Prop := (-9223372036854775808 ≤ x.what ∧ x.what ≤ 9223372036854775807) ∧ (0 ≤ x.k ∧ x.k ≤ 18446744073709551615) ∧ (-9223372036854775808 ≤ x.v ∧ x.v ≤ 9223372036854775807)
section
variable {H : Type} {enc : TypeId × Value → H} {W : World} {base b0 : Nat} {r : Reach} {spare : Nat → Bool} {held : Bool} {v : Value} {d : DataW H} {p : List MemPlace}
set_option maxRecDepth 100000 in
theorem open_i64s (hval : Value.okWide Try.prog W r b0 45 v) (h : DataW.Trod enc Try.prog W base spare held 45 v d p) : ∃ A c, ∃ l : List Int, v = .slice A l.length c ∧ l.length ≤ maxLen ∧ SlRd W 1 v l.length (flat encI l) ∧ ∀ y ∈ l, -9223372036854775808 ≤ y ∧ y ≤ 9223372036854775807 :=
  open_slice okI (by decide) Try.underlying45 (by kernel_rfl) (fun n cs x _ h => by
    obtain ⟨z, e, _, hw⟩ := DataW.trod_int Try.underlying3 h
    exact ⟨z, e, wf_i64 hw⟩) hval h
set_option maxRecDepth 100000 in
theorem open_strs (hval : Value.okWide Try.prog W r b0 65 v) (h : DataW.Trod enc Try.prog W base spare held 65 v d p) : ∃ A c, ∃ l : List (List UInt8), v = .slice A l.length c ∧ l.length ≤ maxLen ∧ SlRd W 1 v l.length (flat encS l) ∧ ∀ y ∈ l, y.length ≤ 9223372036854775807 :=
  open_slice okS (by decide) Try.underlying65 (by kernel_rfl) (fun n cs x _ h => by
    obtain ⟨s, e, _, hw⟩ := DataW.trod_string Try.underlying9 h
    have hs : s = bs s.data.toList := by cases s; simp [bs]
    have h2 : s.size = s.data.toList.length := rfl
    have h3 : s.data.toList.length ≤ 9223372036854775807 := h2 ▸ hw
    exact ⟨s.data.toList, by rw [e, encS, ← hs], h3⟩) hval h
end
end Go.Proofs.Ytmlfgdedhhmkpaa.Sep
