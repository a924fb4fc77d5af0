/-
  TabY · TabK · Law · Opn · TabQ
-/
import Derived.Test.YtmlfgdedhhmkpaaA01
import Derived.Test.YtmlfgdedhhmkpaaC01
import Derived.Test.YtmlfgdedhhmkpaaD02
import Derived.Test.YtmlfgdedhhmkpaaD03
import Derived.Test.YtmlfgdedhhmkpaaRows
import Derived.ProofKit
import Derived.OpenShut
import Derived.JoinedCond
set_option linter.unusedSimpArgs false
set_option linter.unusedVariables false

namespace Go.Proofs.Ytmlfgdedhhmkpaa.Sep
open Go.RowKit
open Go.Proofs.Ytmlfgdedhhmkpaa.Mem (Dist Blk Chg below0)

end Go.Proofs.Ytmlfgdedhhmkpaa.Sep

namespace Go.Proofs.Ytmlfgdedhhmkpaa.Sep
open Go.RowKit
open Go.Proofs.Ytmlfgdedhhmkpaa.Mem (Dist Blk Chg below0)

theorem eqB (b c : Bool) : EqAt Try.prog 4 (.bool b) (.bool c) (b == c) := fun x y w => by
  cases b <;> cases c <;> go_simp
/-- what remains of a division, of the sign of what is divided -/
theorem exec_remI {P : Program} {n : Nat} {env : List (Nat × Value)} {a : Act} {w : World} {o : Oper} {T T' : TypeId} {x y : Operand} {k : IntKind} {p q r : Int} (ho : o.op = .binOp .rem T x y T') (hx : evs env x = some (.int k p)) (hy : evs env y = some (.int k q)) (hq : q ≠ 0) (hr : p.tmod q = r) (hF : Fr n a env) : (execOp a.eval o).run P w = .ok (.value (.int k r)) w := by
  unfold execOp
  simp only [ho, hF.evs hx, hF.evs hy]
  simp [eqGuard, binOp, Op.intArith, Op.intDiv, hq, hr]
theorem eqB_same (b : Bool) : EqAt Try.prog 4 (.bool b) (.bool b) true := by
  have h := eqB b b
  rwa [show (b == b) = true by simp] at h
section
variable {κ : Type} [DecidableEq κ] {lt : κ → κ → Bool} {l K : List κ} {k : κ}
end

set_option maxRecDepth 100000 in
theorem pick (w : World) (a m : Int) (ha : -9223372036854775808 ≤ a ∧ a ≤ 9223372036854775807) (hm : 1 ≤ m ∧ m ≤ 9223372036854775807) {r : Int} (hr : a % m = r) : Calls Try.prog 23 #[.int .i64 a, .int .i64 m] w fun e w' => e = .returned (.int .i64 r) ∧ Below w.heap.size w w' := by
  have hlt := Int.emod_lt_of_pos a (show 0 < m by omega)
  have hge := Int.emod_nonneg a (show m ≠ 0 by omega)
  have ht : (0 ≤ a.tmod m ∧ a.tmod m = r) ∨ (a.tmod m < 0 ∧ a.tmod m + m = r) := by
    rw [Int.tmod_eq_emod, ← hr]
    split
    · left; omega
    · rename_i h
      right
      have hne : a % m ≠ 0 := fun e => h (.inr (Int.dvd_of_emod_eq_zero e))
      omega
  rw [hr] at hlt hge
  obtain ⟨t, htm⟩ : ∃ t, a.tmod m = t := ⟨_, rfl⟩
  rw [htm] at ht
  refine d_in (args := [.int .i64 a, .int .i64 m]) 14 Try.func23 rfl rfl rfl ?_
  refine d_reg ?_
  refine h_q hflS rfl ?_
  refine h_done (d_reg ?_)
  refine h_q hflS rfl ?_
  refine h_val rfl (.int .i64 t) (fun b w hb hH => exec_remI rfl rfl rfl (by omega) htm hb) ?_
  refine h_q hflS rfl ?_
  refine h_done (d_seq ?_)
  rcases ht with ⟨h1, h2⟩ | ⟨h1, h2⟩
  · skip
    subst h2
    refine d_reg ?_
    refine h_q hflS rfl ?_
    refine h_val rfl (.bool false) (fun b w hb hH => exec_cmp rfl rfl rfl (cmp_lss_f (by omega)) hb) ?_
    refine h_done (d_else rfl (d_skip (f_to (d_reg ?_))))
    refine h_q hflS rfl ?_
    refine h_done (d_ret ?_)
    exact f_fin1 (.tmp rfl) (fun w h => ⟨rfl, below0 h.up⟩) rfl
  · skip
    refine d_reg ?_
    refine h_q hflS rfl ?_
    refine h_val rfl (.bool true) (fun b w hb hH => exec_cmp rfl rfl rfl (cmp_lss_t (by omega)) hb) ?_
    refine h_done (d_then rfl (d_reg1 ?_))
    refine h_q hflS rfl ?_
    refine h_val rfl (.int .i64 r) (fun b w hb hH => exec_ar rfl rfl rfl rfl (by rw [IntWalk.i64_in _ (by omega)]; omega) hb) ?_
    refine h_q hflS rfl ?_
    refine h_nil (f_to (d_reg ?_))
    refine h_q hflS rfl ?_
    refine h_done (d_ret ?_)
    exact f_fin1 (.tmp rfl) (fun w h => ⟨rfl, below0 h.up⟩) rfl

set_option maxRecDepth 100000 in
theorem known_true (w : World)  : Calls Try.prog 11 #[] w fun e w' => e = .returned (.bool true) ∧ Below w.heap.size w w' := by
  refine d_in (args := []) 76 Try.func11 rfl rfl rfl ?_
  refine d_reg ?_
  refine h_q hflS rfl ?_
  refine h_done (d_reg ?_)
  refine h_q hflS rfl ?_
  refine h_act (post := fun g => [Tab 95 42 9 encU encS ltI g 2 ([]) ([])]) rfl (a_does (os' := fun g => [Tab 95 42 9 encU encS ltI g 2 ([]) ([])]) [] 0 (ent_of Try.func31 (by kernel_rfl) rfl) (new_uint64_string 2 (by decide)) rfl rfl rfl (fun _ => rfl) rfl rfl rfl) ?_; rintro g
  refine h_q hflS rfl ?_
  refine h_done (d_seq (d_reg ?_))
  refine h_q hflS rfl ?_
  refine h_val rfl (.bool false) (fun b w hb hH => exec_cmp rfl rfl rfl (cmp_neq_f (by decide)) hb) ?_
  refine h_q hflS rfl ?_
  refine h_val rfl (.bool false) (fun b w hb hH => exec_pnil_eql (by kernel_rfl) rfl rfl rfl hb) ?_
  refine h_q hflS rfl ?_
  refine h_done (d_else rfl (d_skip (f_to (d_reg ?_))))
  refine h_q hflS rfl ?_
  refine h_act (post := fun _ => [Tab 95 42 9 encU encS ltI g 2 ([5]) ([[97]])]) rfl (a_does (os' := fun _ => [Tab 95 42 9 encU encS ltI g 2 ([5]) ([[97]])]) [0] 0 (ent_of Try.func32 (by kernel_rfl) rfl) (put_uint64_string g 2 ([]) ([]) 5 ([97]) ([5], [[97]], true) (by decide)) rfl rfl rfl (fun _ => rfl) rfl rfl rfl) ?_; rintro ⟨⟩
  refine h_q hflS rfl ?_
  refine h_done (d_reg ?_)
  refine h_q hflS rfl ?_
  refine h_act (post := fun _ => [Tab 95 42 9 encU encS ltI g 2 ([3, 5]) ([[98], [97]])]) rfl (a_does (os' := fun _ => [Tab 95 42 9 encU encS ltI g 2 ([3, 5]) ([[98], [97]])]) [0] 0 (ent_of Try.func32 (by kernel_rfl) rfl) (put_uint64_string g 2 ([5]) ([[97]]) 3 ([98]) ([3, 5], [[98], [97]], true) (by decide)) rfl rfl rfl (fun _ => rfl) rfl rfl rfl) ?_; rintro ⟨⟩
  refine h_q hflS rfl ?_
  refine h_done (d_reg ?_)
  refine h_q hflS rfl ?_
  refine h_act (post := fun _ => [Tab 95 42 9 encU encS ltI g 2 ([3, 5]) ([[98], [97]])]) rfl (a_does (os' := fun _ => [Tab 95 42 9 encU encS ltI g 2 ([3, 5]) ([[98], [97]])]) [0] 0 (ent_of Try.func32 (by kernel_rfl) rfl) (put_uint64_string g 2 ([3, 5]) ([[98], [97]]) 9 ([99]) ([3, 5], [[98], [97]], false) (by decide)) rfl rfl rfl (fun _ => rfl) rfl rfl rfl) ?_; rintro ⟨⟩
  refine h_q hflS rfl ?_
  refine h_done (d_reg ?_)
  refine h_q hflS rfl ?_
  refine h_act (post := fun _ => [Tab 95 42 9 encU encS ltI g 2 ([3, 5]) ([[98], [100]])]) rfl (a_does (os' := fun _ => [Tab 95 42 9 encU encS ltI g 2 ([3, 5]) ([[98], [100]])]) [0] 0 (ent_of Try.func32 (by kernel_rfl) rfl) (put_uint64_string g 2 ([3, 5]) ([[98], [97]]) 5 ([100]) ([3, 5], [[98], [100]], true) (by decide)) rfl rfl rfl (fun _ => rfl) rfl rfl rfl) ?_; rintro ⟨⟩
  refine h_q hflS rfl ?_
  refine h_done (d_reg ?_)
  refine h_q hflS rfl ?_
  refine h_act (post := fun uk => [Vec 42 1 encU uk ([3, 5]), Tab 95 42 9 encU encS ltI g 2 ([3, 5]) ([[98], [100]])]) rfl (a_does (os' := fun uk => [Vec 42 1 encU uk ([3, 5]), Tab 95 42 9 encU encS ltI g 2 ([3, 5]) ([[98], [100]])]) [0] 0 (ent_of Try.func33 (by kernel_rfl) rfl) (keys_uint64_string g 2 ([3, 5]) ([[98], [100]])) rfl rfl rfl (fun _ => rfl) rfl rfl rfl) ?_; rintro uk
  refine h_q hflS rfl ?_
  refine h_done (d_reg ?_)
  refine h_q hflS rfl ?_
  refine h_act (post := fun uv => [Vec 9 1 encS uv ([[98], [100]]), Vec 42 1 encU uk ([3, 5]), Tab 95 42 9 encU encS ltI g 2 ([3, 5]) ([[98], [100]])]) rfl (a_does (os' := fun uv => [Vec 9 1 encS uv ([[98], [100]]), Vec 42 1 encU uk ([3, 5]), Tab 95 42 9 encU encS ltI g 2 ([3, 5]) ([[98], [100]])]) [1] 0 (ent_of Try.func34 (by kernel_rfl) rfl) (values_uint64_string g 2 ([3, 5]) ([[98], [100]])) rfl rfl rfl (fun _ => rfl) rfl rfl rfl) ?_; rintro uv
  refine h_q hflS rfl ?_
  refine h_done (d_reg ?_)
  refine h_q hflS rfl ?_
  refine h_val rfl (.int .i64 (([3, 5]).length : Int)) (fun b w hb hH => e_vlen 1 Try.underlying44 rfl rfl rfl hH hb) ?_
  refine h_val rfl (.bool true) (fun b w hb hH => exec_cmp rfl rfl rfl (cmp_eql_t rfl) hb) ?_
  refine h_q hflS rfl ?_
  refine h_val rfl (elp uk (0 * 1)) (fun b w hb hH => e_vidx 1 sl_uint64 okU rfl 0 (by decide) rfl rfl rfl hH hb) ?_
  refine h_val rfl (.int .u64 3) (fun b w hb hH => e_vload1 1 ty_uint64 okU rfl 0 (a := 3) rfl rfl rfl rfl hH hb) ?_
  refine h_val rfl (.bool true) (fun b w hb hH => exec_cmp rfl rfl rfl (cmp_eql_t (by decide)) hb) ?_
  refine h_q hflS rfl ?_
  refine h_val rfl (elp uk (1 * 1)) (fun b w hb hH => e_vidx 1 sl_uint64 okU rfl 1 (by decide) rfl rfl rfl hH hb) ?_
  refine h_val rfl (.int .u64 5) (fun b w hb hH => e_vload1 1 ty_uint64 okU rfl 1 (a := 5) rfl rfl rfl rfl hH hb) ?_
  refine h_val rfl (.bool true) (fun b w hb hH => exec_cmp rfl rfl rfl (cmp_eql_t (by decide)) hb) ?_
  refine h_q hflS rfl ?_
  refine h_val rfl (.int .i64 (([[98], [100]]).length : Int)) (fun b w hb hH => e_vlen 0 Try.underlying65 rfl rfl rfl hH hb) ?_
  refine h_val rfl (.bool true) (fun b w hb hH => exec_cmp rfl rfl rfl (cmp_eql_t rfl) hb) ?_
  refine h_q hflS rfl ?_
  refine h_val rfl (elp uv (0 * 1)) (fun b w hb hH => e_vidx 0 sl_string okS rfl 0 (by decide) rfl rfl rfl hH hb) ?_
  refine h_val rfl (.string (bs ([98]))) (fun b w hb hH => e_vload1 0 ty_string okS rfl 0 (a := [98]) rfl rfl rfl rfl hH hb) ?_
  refine h_val rfl (.bool true) (fun b w hb hH => exec_same rfl rfl rfl (by decide) hb) ?_
  refine h_q hflS rfl ?_
  refine h_val rfl (elp uv (1 * 1)) (fun b w hb hH => e_vidx 0 sl_string okS rfl 1 (by decide) rfl rfl rfl hH hb) ?_
  refine h_val rfl (.string (bs ([100]))) (fun b w hb hH => e_vload1 0 ty_string okS rfl 1 (a := [100]) rfl rfl rfl rfl hH hb) ?_
  refine h_val rfl (.bool true) (fun b w hb hH => exec_same rfl rfl rfl (by decide) hb) ?_
  refine h_q hflS rfl ?_
  refine h_done ?_
  refine WC2.keep (env' := [(0, .bool true)]) ⟨rfl, trivial⟩ ?_
  refine d_ret ?_
  exact f_fin1 (.tmp rfl) (fun w h => ⟨rfl, below0 h.up⟩) rfl
end Go.Proofs.Ytmlfgdedhhmkpaa.Sep

namespace Go.Proofs.Ytmlfgdedhhmkpaa
open Go.ChangeShapes Go.WideShapes Go.ChangeAt Go.RowKit

theorem own : ownKnob Try.prog.godebug = none := by kernel_rfl
theorem laidOut : laidOutB Try.prog = true := by kernel_rfl

section
variable {H : Type} {enc : TypeId × Value → H} {P : Program}

/-- what the arguments read as stays, where nothing that was there has changed -/
theorem trodAll_stays (hl : laidOutB P = true) {W W' : World} (hb : Below W.heap.size W W') :
    ∀ {ts : List TypeId} {vs : List Value} {ds : List (DataW H)} {ps : List MemPlace}, (∀ t ∈ ts, P.readableRec t = true ∧ t < P.types.size) → (∀ x ∈ ps, x.block < W.heap.size) →
      DataW.TrodAll enc P W 0 (fun _ => true) true ts vs ds ps → DataW.TrodAll enc P W' 0 (fun b => decide (b < W.heap.size)) true ts vs ds ps
  | [], vs, ds, ps, _, _, h => by
    obtain ⟨rfl, rfl, rfl⟩ := trodAll_nil h
    rfl
  | t :: ts, vs, ds, ps, ht, hp, h => by
    obtain ⟨v, vs1, d, ds1, a, b, rfl, rfl, rfl, h1, h2⟩ := trodAll_cons h
    obtain ⟨hr, hrow⟩ := ht t List.mem_cons_self
    exact ⟨a, b, Below.trod hl hr hrow h1 hb (fun x hx => hp x (List.mem_append_left _ hx)), trodAll_stays hl hb (fun t h => ht t (List.mem_cons_of_mem _ h)) (fun x hx => hp x (List.mem_append_right _ hx)) h2, rfl⟩

theorem law_post {f : Func} {s : ChangeSpec} {tb : TypeId} {W W' : World} {args : Array Value} {ds gs : List (DataW H)} {before : List MemPlace}
    (hl : laidOutB P = true) (hr : f.resultTypes = #[tb]) (htb : P.underlying tb = some .bool) (hread : ∀ t ∈ f.params.toList, P.readableRec t = true ∧ t < P.types.size)
    (hvars : s.vars = []) (hs : s.fn H ds = { results := [.lit (.bool true)], args := ds })
    (hW : DataW.Whole enc P f.params.toList s.vars false W args.toList ds gs before) (hb : Below W.heap.size W W') :
    s.post enc P f false true false false W args (.bool true) W' := by
  have hW' := hW
  obtain ⟨p, q, hA, hV, rfl, hfz, hnd⟩ := hW
  rw [hvars] at hV
  obtain ⟨rfl, rfl⟩ := trodVars_none hV
  have hlt : ∀ x ∈ p, x.block < W.heap.size := fun x hx => hW'.lt x (by simpa using hx)
  refine ⟨ds, [], p ++ [], [], p, [], hW', ?_, ?_, ?_, ?_, fun h => by cases h⟩
  · rw [List.append_nil, hs, hr]
    exact trodAll_cons_mk (shut_bool htb true) trodAll_mk0
  · rw [List.append_nil, hs]
    exact trodAll_stays hl hb hread hlt hA
  · rw [List.append_nil, hs, hvars]
    rfl
  · exact World.keptBut_mono (fun x hx => ⟨hx, .inr (.inl (by simpa using hx))⟩) (hb.frame (· ∈ p ++ []))
end

/-! ## Arguments, opened -/
section
variable {H : Type} {enc : TypeId × Value → H} {P : Program}

end


theorem wf_i64 {x : Int} (h : (Lit.int .i64 x).wf = true) : -9223372036854775808 ≤ x ∧ x ≤ 9223372036854775807 := by
  simpa [Lit.wf, IntKind.min, IntKind.max, IntKind.signed, IntKind.bits] using h
theorem wf_u64 {x : Int} (h : (Lit.int .u64 x).wf = true) : 0 ≤ x ∧ x ≤ 18446744073709551615 := by
  simpa [Lit.wf, IntKind.min, IntKind.max, IntKind.signed, IntKind.bits] using h
theorem readable_of {P : Program} {l : List TypeId} (h : l.all (fun t => P.readableRec t && decide (t < P.types.size)) = true) : ∀ t ∈ l, P.readableRec t = true ∧ t < P.types.size := by
  intro t ht
  have := List.all_eq_true.1 h t ht
  simpa using this
/-! ## The bound of the second form -/
theorem bound {H : Type} {l : List (DataW H)} (hk : Rows.uptoSmall H l = true) : Rows.uptoBulkAll l ≤ 1048576 := of_decide_eq_true hk
end Go.Proofs.Ytmlfgdedhhmkpaa

namespace Go.Proofs.Ytmlfgdedhhmkpaa.Sep
open Go.ChangeShapes Go.WideShapes Go.ChangeAt Go.RowKit
/-- one step of a play -/
structure StepD where
  what : Int
  k : Int
  v : Int
  near : Bool
instance : Inhabited StepD := ⟨⟨0, 0, 0, false⟩⟩
def encT (x : StepD) : List Value := [.int .i64 x.what, .int .u64 x.k, .int .i64 x.v, .bool x.near]
theorem okT : EncOf 4 encT := ⟨fun _ => rfl, fun x v h => by unfold encT at h; simp at h; rcases h with rfl | rfl | rfl | rfl <;> rfl⟩
def StepD.ok (x : StepD) : Prop := (-9223372036854775808 ≤ x.what ∧ x.what ≤ 9223372036854775807) ∧ (0 ≤ x.k ∧ x.k ≤ 18446744073709551615) ∧ (-9223372036854775808 ≤ x.v ∧ x.v ≤ 9223372036854775807)
section
variable {H : Type} {enc : TypeId × Value → H} {W : World} {base b0 : Nat} {r : Reach} {spare : Nat → Bool} {held : Bool} {v : Value} {d : DataW H} {p : List MemPlace}
theorem fld1 {P : Program} {n j : Nat} {f : Field} {cs : List Value} {ys : List (DataW H × List MemPlace)} {a : Value} {y : DataW H × List MemPlace} (hc : P.cellsOf f.type = 1) (ho : f.offset = j) (h : DataW.trod enc P W base spare held n f.type ((cs.drop f.offset).take (P.cellsOf f.type)) = ys[j]?) (ha : cs[j]? = some a) (hy : ys[j]? = some y) : DataW.trod enc P W base spare held n f.type [a] = some y := by
  rw [ho, hc, hy] at h
  obtain ⟨hj, ha⟩ := List.getElem?_eq_some_iff.1 ha
  rw [List.drop_eq_getElem_cons hj, ha] at h
  exact h
set_option maxRecDepth 100000 in
theorem open_steps (hval : Value.okWide Try.prog W r b0 38 v) (h : DataW.Trod enc Try.prog W base spare held 38 v d p) : ∃ A c, ∃ l : List StepD, v = .slice A l.length c ∧ l.length ≤ maxLen ∧ SlRd W 4 v l.length (flat encT l) ∧ ∀ y ∈ l, y.ok :=
  open_slice okT (by decide) Try.underlying38 (by kernel_rfl) (fun n cs x hcl h => by
    obtain ⟨ys, n', _, hx, _, hyl, hf⟩ := DataW.trod_struct Try.underlying50 h
    have hyl : ys.length = 4 := hyl
    match cs, hcl with
    | [a0, a1, a2, a3], _ =>
      obtain ⟨y0, g0⟩ : ∃ y, ys[0]? = some y := ⟨_, List.getElem?_eq_getElem (by omega)⟩
      obtain ⟨y1, g1⟩ : ∃ y, ys[1]? = some y := ⟨_, List.getElem?_eq_getElem (by omega)⟩
      obtain ⟨y2, g2⟩ : ∃ y, ys[2]? = some y := ⟨_, List.getElem?_eq_getElem (by omega)⟩
      obtain ⟨y3, g3⟩ : ∃ y, ys[3]? = some y := ⟨_, List.getElem?_eq_getElem (by omega)⟩
      have h0 := fld1 (by kernel_rfl) rfl (hf 0 _ rfl) rfl g0
      have h1 := fld1 (by kernel_rfl) rfl (hf 1 _ rfl) rfl g1
      have h2 := fld1 (by kernel_rfl) rfl (hf 2 _ rfl) rfl g2
      have h3 := fld1 (by kernel_rfl) rfl (hf 3 _ rfl) rfl g3
      obtain ⟨z0, e0, _, w0⟩ := DataW.trod_int Try.underlying3 h0
      obtain ⟨z1, e1, _, w1⟩ := DataW.trod_int Try.underlying42 h1
      obtain ⟨z2, e2, _, w2⟩ := DataW.trod_int Try.underlying3 h2
      obtain ⟨z3, e3, _⟩ := DataW.trod_bool Try.underlying4 h3
      simp at e0 e1 e2 e3
      subst e0; subst e1; subst e2; subst e3
      exact ⟨⟨z0, z1, z2, z3⟩, rfl, wf_i64 w0, wf_u64 w1, wf_i64 w2⟩) hval h
end
end Go.Proofs.Ytmlfgdedhhmkpaa.Sep

namespace Go.Proofs.Ytmlfgdedhhmkpaa.Sep
open Go.RowKit
open Go.Proofs.Ytmlfgdedhhmkpaa.Mem (Dist Blk Chg below0)

set_option maxRecDepth 100000 in
theorem run_far (p r : Nat) (m : Int) (K V : List Int) (what k v : Int) (h1 : -9223372036854775808 ≤ what ∧ what ≤ 9223372036854775807) : Does Try.prog 18 #[.pointer (some ⟨p, 0, none⟩), .pointer (some ⟨r, 0, none⟩), .agg #[.int .i64 what, .int .u64 k, .int .i64 v, .bool false]] [Tab 85 42 3 encU encI ltI p m K V, Tab 47 42 3 encU encI ltI r m K V] (fun (y : List Int × List Int) => .bool true) (fun (y : List Int × List Int) => [Tab 85 42 3 encU encI ltI p m y.1 y.2, Tab 47 42 3 encU encI ltI r m y.1 y.2]) := by
  obtain ⟨r0, hr0⟩ : ∃ r0, what % 6 = r0 := ⟨_, rfl⟩
  refine d_ins (args := [.pointer (some ⟨p, 0, none⟩), .pointer (some ⟨r, 0, none⟩), .agg #[.int .i64 what, .int .u64 k, .int .i64 v, .bool false]]) 68 Try.func18 rfl rfl rfl ?_; intro w rs
  refine d_reg ?_
  refine h_q hflS rfl ?_
  refine h_act (post := fun g1 => [cell g1 50 #[.int .i64 what, .int .u64 k, .int .i64 v, .bool false], Tab 85 42 3 encU encI ltI p m K V, Tab 47 42 3 encU encI ltI r m K V]) rfl (a_box (cs := #[.int .i64 what, .int .u64 k, .int .i64 v, .bool false]) rfl rfl rfl) ?_; rintro g1
  refine h_q hflS rfl ?_
  refine h_done (d_seq (d_reg ?_))
  refine h_q hflS rfl ?_
  refine h_val rfl (.bool false) (fun b w hb hH => exec_load rfl rfl (reads_one ty_bool rfl) (hH.row 0 rfl) hb) ?_
  refine h_done (d_else rfl (d_skip (f_to (d_seq (d_reg ?_)))))
  refine h_q hflS rfl ?_
  refine h_val rfl (.int .i64 what) (fun b w hb hH => exec_load rfl rfl (reads_one ty_int rfl) (hH.row 0 rfl) hb) ?_
  refine h_act (post := fun _ => [cell g1 50 #[.int .i64 what, .int .u64 k, .int .i64 v, .bool false], Tab 85 42 3 encU encI ltI p m K V, Tab 47 42 3 encU encI ltI r m K V]) rfl (a_call (ent_of Try.func23 (by kernel_rfl) rfl) (fun w hH => pick w what 6 h1 (by decide) hr0) rfl rfl rfl) ?_; rintro ⟨⟩
  refine h_done (d_block ?_)
  have h3 : r0 = 4 ∨ (r0 ≠ 4 ∧ r0 = 5) ∨ (r0 ≠ 4 ∧ r0 ≠ 5) := by omega
  rcases h3 with h4 | ⟨h4, h5⟩ | ⟨h4, h5⟩
  · skip
    obtain ⟨⟨a, c⟩, hg⟩ : ∃ R, getT ltI K V k 0 = R := ⟨_, rfl⟩
    refine d_reg ?_
    refine h_q hflS rfl ?_
    refine h_val rfl (.bool true) (fun b w hb hH => exec_cmp rfl rfl rfl (cmp_eql_t h4) hb) ?_
    refine h_q hflS rfl ?_
    refine h_done (d_then rfl (d_reg ?_))
    refine h_q hflS rfl ?_
    refine h_val rfl (.int .u64 k) (fun b w hb hH => exec_load rfl rfl (reads_one ty_uint64 rfl) (hH.row 0 rfl) hb) ?_
    refine h_act (post := fun _ => [cell g1 50 #[.int .i64 what, .int .u64 k, .int .i64 v, .bool false], Tab 85 42 3 encU encI ltI p m K V, Tab 47 42 3 encU encI ltI r m K V]) rfl (a_does (os' := fun _ => [cell g1 50 #[.int .i64 what, .int .u64 k, .int .i64 v, .bool false], Tab 85 42 3 encU encI ltI p m K V, Tab 47 42 3 encU encI ltI r m K V]) [1] 0 (ent_of Try.func30 (by kernel_rfl) rfl) (get_uint64_int p m K V k (a, c) hg) rfl rfl rfl (fun _ => rfl) rfl rfl rfl) ?_; rintro ⟨⟩
    refine h_q hflS rfl ?_
    refine h_done (d_reg ?_)
    refine h_q hflS rfl ?_
    refine h_val rfl (.int .u64 k) (fun b w hb hH => exec_load rfl rfl (reads_one ty_uint64 rfl) (hH.row 0 rfl) hb) ?_
    refine h_act (post := fun _ => [cell g1 50 #[.int .i64 what, .int .u64 k, .int .i64 v, .bool false], Tab 85 42 3 encU encI ltI p m K V, Tab 47 42 3 encU encI ltI r m K V]) rfl (a_does (os' := fun _ => [cell g1 50 #[.int .i64 what, .int .u64 k, .int .i64 v, .bool false], Tab 85 42 3 encU encI ltI p m K V, Tab 47 42 3 encU encI ltI r m K V]) [2] 0 (ent_of Try.func42 (by kernel_rfl) rfl) (get_ref r m K V k (a, c) hg) rfl rfl rfl (fun _ => rfl) rfl rfl rfl) ?_; rintro ⟨⟩
    refine h_q hflS rfl ?_
    refine h_done (d_reg ?_)
    refine h_q hflS rfl ?_
    refine h_val rfl (.bool true) (fun b w hb hH => exec_cmp rfl rfl rfl (cmp_eql_t rfl) hb) ?_
    refine h_q hflS rfl ?_
    refine h_val rfl (.bool true) (fun b w hb hH => exec_eqs (eqB_same _) rfl rfl rfl hb) ?_
    refine h_q hflS rfl ?_
    refine h_done (d_ret (f_block_ret (f_then_ret ?_)))
    exact f_fin1 (.tmp rfl) (fun w h => tells (K, V) rfl [1, 2] rfl h same_parts) rfl
  · skip
    obtain ⟨⟨K1, V1, c⟩, hd⟩ : ∃ R, dropT ltI K V k = R := ⟨_, rfl⟩
    refine d_reg ?_
    refine h_q hflS rfl ?_
    refine h_val rfl (.bool false) (fun b w hb hH => exec_cmp rfl rfl rfl (cmp_eql_f (by omega)) hb) ?_
    refine h_q hflS rfl ?_
    refine h_done (d_else rfl (d_reg ?_))
    refine h_q hflS rfl ?_
    refine h_val rfl (.bool true) (fun b w hb hH => exec_cmp rfl rfl rfl (cmp_eql_t h5) hb) ?_
    refine h_q hflS rfl ?_
    refine h_done (d_then rfl (d_seq ?_))
    refine d_parS 9 2 [⟨.quiet, [none, none], fun _ => .pointer (some ⟨p, 0, none⟩), []⟩, ⟨.quiet, [none, none], fun _ => .pointer (some ⟨g1, 1, none⟩), []⟩, ⟨.quiet, [none, none], fun _ => .int .u64 k, [1]⟩, ⟨.actv 0, [some false, some false], fun _ => .bool c, [0, 2]⟩, ⟨.quiet, [none, none], fun _ => .pointer (some ⟨r, 0, none⟩), []⟩, ⟨.quiet, [none, none], fun _ => .pointer (some ⟨g1, 1, none⟩), []⟩, ⟨.quiet, [none, none], fun _ => .int .u64 k, [5]⟩, ⟨.actv 1, [some true, some false], fun _ => .bool c, [4, 6]⟩, ⟨.quiet, [some true, some true], fun _ => .bool true, [3, 7]⟩] [(0, .pointer (some ⟨p, 0, none⟩)), (1, .pointer (some ⟨r, 0, none⟩)), (5, .pointer (some ⟨g1, 0, none⟩)), (6, .bool false)] (fun ρ => match ρ with | [r0, r1] => [cell g1 50 #[.int .i64 what, .int .u64 k, .int .i64 v, .bool false], selS r0 (fun _ => Tab 85 42 3 encU encI ltI p m K1 V1) (Tab 85 42 3 encU encI ltI p m K V), selS r1 (fun _ => Tab 47 42 3 encU encI ltI r m K1 V1) (Tab 47 42 3 encU encI ltI r m K V)] | _ => []) (by kernel_rfl) (by kernel_rfl) ⟨rfl, rfl, rfl, rfl, trivial⟩ rfl ?_ ?_
    · skip
      refine s_cons (by intro r0_ r1_; exact ⟨rfl, fun b w hH hb => exec_q1 hflS rfl hb⟩) ?_
      refine s_cons (by intro r0_ r1_; exact ⟨rfl, fun b w hH hb => exec_q1 hflS rfl hb⟩) ?_
      refine s_cons (by intro r0_ r1_; exact ⟨rfl, fun b w hH hb => exec_load rfl rfl (reads_one ty_uint64 rfl) (hH.row 0 rfl) hb⟩) ?_
      refine s_cons (by exact ⟨rfl, Acts.su (a_does (os' := fun _ => [cell g1 50 #[.int .i64 what, .int .u64 k, .int .i64 v, .bool false], Tab 85 42 3 encU encI ltI p m K1 V1, Tab 47 42 3 encU encI ltI r m K V]) [1] 0 (ent_of Try.func28 (by kernel_rfl) rfl) (drop_uint64_int p m K V k (K1, V1, c) hd) rfl rfl rfl (fun _ => rfl) rfl rfl rfl) rfl⟩) ?_
      refine s_cons (by intro r0_ r1_; exact ⟨rfl, fun b w hH hb => exec_q1 hflS rfl hb⟩) ?_
      refine s_cons (by intro r0_ r1_; exact ⟨rfl, fun b w hH hb => exec_q1 hflS rfl hb⟩) ?_
      refine s_cons (by intro r0_ r1_; exact ⟨rfl, fun b w hH hb => exec_load rfl rfl (reads_one ty_uint64 rfl) (hH.row 0 rfl) hb⟩) ?_
      refine s_cons (by intro v0_; exact ⟨rfl, Acts.su (a_does (os' := fun _ => [cell g1 50 #[.int .i64 what, .int .u64 k, .int .i64 v, .bool false], Tab 85 42 3 encU encI ltI p m K1 V1, Tab 47 42 3 encU encI ltI r m K1 V1]) [2] 0 (ent_of Try.func43 (by kernel_rfl) rfl) (drop_ref r m K V k (K1, V1, c) hd) rfl rfl rfl (fun _ => rfl) rfl rfl rfl) rfl⟩) ?_
      refine s_cons (by intro v0_ v1_; exact ⟨rfl, fun b w hH hb => exec_eqs (eqB_same _) rfl rfl rfl hb⟩) ?_
      exact s_nil
    intro v0_ v1_
    refine WL2.keep (env' := [(0, .pointer (some ⟨p, 0, none⟩)), (1, .pointer (some ⟨r, 0, none⟩)), (5, .pointer (some ⟨g1, 0, none⟩)), (6, .bool false), (54, .bool true)]) ⟨rfl, rfl, rfl, rfl, rfl, trivial⟩ ?_
    refine h_q hflS rfl ?_
    refine h_nil (f_to (d_ret (f_block_ret (f_then_ret ?_))))
    exact f_fin1 (.tmp rfl) (fun w h => tells (K1, V1) rfl [1, 2] rfl h same_parts) rfl
  · skip
    obtain ⟨⟨K1, V1, c⟩, hp⟩ : ∃ R, putT ltI m K V k v = R := ⟨_, rfl⟩
    refine d_reg ?_
    refine h_q hflS rfl ?_
    refine h_val rfl (.bool false) (fun b w hb hH => exec_cmp rfl rfl rfl (cmp_eql_f (by omega)) hb) ?_
    refine h_q hflS rfl ?_
    refine h_done (d_else rfl (d_reg ?_))
    refine h_q hflS rfl ?_
    refine h_val rfl (.bool false) (fun b w hb hH => exec_cmp rfl rfl rfl (cmp_eql_f (by omega)) hb) ?_
    refine h_q hflS rfl ?_
    refine h_done (d_else rfl (d_skip (f_block (f_to (d_seq ?_)))))
    refine d_parS 13 2 [⟨.quiet, [none, none], fun _ => .pointer (some ⟨p, 0, none⟩), []⟩, ⟨.quiet, [none, none], fun _ => .pointer (some ⟨g1, 1, none⟩), []⟩, ⟨.quiet, [none, none], fun _ => .int .u64 k, [1]⟩, ⟨.quiet, [none, none], fun _ => .pointer (some ⟨g1, 2, none⟩), []⟩, ⟨.quiet, [none, none], fun _ => .int .i64 v, [3]⟩, ⟨.actv 0, [some false, some false], fun _ => .bool c, [0, 2, 4]⟩, ⟨.quiet, [none, none], fun _ => .pointer (some ⟨r, 0, none⟩), []⟩, ⟨.quiet, [none, none], fun _ => .pointer (some ⟨g1, 1, none⟩), []⟩, ⟨.quiet, [none, none], fun _ => .int .u64 k, [7]⟩, ⟨.quiet, [none, none], fun _ => .pointer (some ⟨g1, 2, none⟩), []⟩, ⟨.quiet, [none, none], fun _ => .int .i64 v, [9]⟩, ⟨.actv 1, [some true, some false], fun _ => .bool c, [6, 8, 10]⟩, ⟨.quiet, [some true, some true], fun _ => .bool true, [5, 11]⟩] [(0, .pointer (some ⟨p, 0, none⟩)), (1, .pointer (some ⟨r, 0, none⟩)), (5, .pointer (some ⟨g1, 0, none⟩)), (6, .bool false)] (fun ρ => match ρ with | [r0, r1] => [cell g1 50 #[.int .i64 what, .int .u64 k, .int .i64 v, .bool false], selS r0 (fun _ => Tab 85 42 3 encU encI ltI p m K1 V1) (Tab 85 42 3 encU encI ltI p m K V), selS r1 (fun _ => Tab 47 42 3 encU encI ltI r m K1 V1) (Tab 47 42 3 encU encI ltI r m K V)] | _ => []) (by kernel_rfl) (by kernel_rfl) ⟨rfl, rfl, rfl, rfl, trivial⟩ rfl ?_ ?_
    · skip
      refine s_cons (by intro r0_ r1_; exact ⟨rfl, fun b w hH hb => exec_q1 hflS rfl hb⟩) ?_
      refine s_cons (by intro r0_ r1_; exact ⟨rfl, fun b w hH hb => exec_q1 hflS rfl hb⟩) ?_
      refine s_cons (by intro r0_ r1_; exact ⟨rfl, fun b w hH hb => exec_load rfl rfl (reads_one ty_uint64 rfl) (hH.row 0 rfl) hb⟩) ?_
      refine s_cons (by intro r0_ r1_; exact ⟨rfl, fun b w hH hb => exec_q1 hflS rfl hb⟩) ?_
      refine s_cons (by intro r0_ r1_; exact ⟨rfl, fun b w hH hb => exec_load rfl rfl (reads_one ty_int rfl) (hH.row 0 rfl) hb⟩) ?_
      refine s_cons (by exact ⟨rfl, Acts.su (a_does (os' := fun _ => [cell g1 50 #[.int .i64 what, .int .u64 k, .int .i64 v, .bool false], Tab 85 42 3 encU encI ltI p m K1 V1, Tab 47 42 3 encU encI ltI r m K V]) [1] 0 (ent_of Try.func25 (by kernel_rfl) rfl) (put_uint64_int p m K V k v (K1, V1, c) hp) rfl rfl rfl (fun _ => rfl) rfl rfl rfl) rfl⟩) ?_
      refine s_cons (by intro r0_ r1_; exact ⟨rfl, fun b w hH hb => exec_q1 hflS rfl hb⟩) ?_
      refine s_cons (by intro r0_ r1_; exact ⟨rfl, fun b w hH hb => exec_q1 hflS rfl hb⟩) ?_
      refine s_cons (by intro r0_ r1_; exact ⟨rfl, fun b w hH hb => exec_load rfl rfl (reads_one ty_uint64 rfl) (hH.row 0 rfl) hb⟩) ?_
      refine s_cons (by intro r0_ r1_; exact ⟨rfl, fun b w hH hb => exec_q1 hflS rfl hb⟩) ?_
      refine s_cons (by intro r0_ r1_; exact ⟨rfl, fun b w hH hb => exec_load rfl rfl (reads_one ty_int rfl) (hH.row 0 rfl) hb⟩) ?_
      refine s_cons (by intro v0_; exact ⟨rfl, Acts.su (a_does (os' := fun _ => [cell g1 50 #[.int .i64 what, .int .u64 k, .int .i64 v, .bool false], Tab 85 42 3 encU encI ltI p m K1 V1, Tab 47 42 3 encU encI ltI r m K1 V1]) [2] 0 (ent_of Try.func44 (by kernel_rfl) rfl) (put_ref r m K V k v (K1, V1, c) hp) rfl rfl rfl (fun _ => rfl) rfl rfl rfl) rfl⟩) ?_
      refine s_cons (by intro v0_ v1_; exact ⟨rfl, fun b w hH hb => exec_eqs (eqB_same _) rfl rfl rfl hb⟩) ?_
      exact s_nil
    intro v0_ v1_
    refine WL2.keep (env' := [(6, .bool false), (67, .bool true)]) ⟨rfl, rfl, trivial⟩ ?_
    refine h_q hflS rfl ?_
    refine h_nil (f_to (d_ret ?_))
    exact f_fin1 (.tmp rfl) (fun w h => tells (K1, V1) rfl [1, 2] rfl h same_parts) rfl

set_option maxRecDepth 100000 in
theorem run_near (p r : Nat) (m : Int) (K V : List Int) (what k v : Int) (h1 : -9223372036854775808 ≤ what ∧ what ≤ 9223372036854775807) (k2 : Int) (hk2 : k.tmod 12 = k2) : Does Try.prog 18 #[.pointer (some ⟨p, 0, none⟩), .pointer (some ⟨r, 0, none⟩), .agg #[.int .i64 what, .int .u64 k, .int .i64 v, .bool true]] [Tab 85 42 3 encU encI ltI p m K V, Tab 47 42 3 encU encI ltI r m K V] (fun (y : List Int × List Int) => .bool true) (fun (y : List Int × List Int) => [Tab 85 42 3 encU encI ltI p m y.1 y.2, Tab 47 42 3 encU encI ltI r m y.1 y.2]) := by
  obtain ⟨r0, hr0⟩ : ∃ r0, what % 6 = r0 := ⟨_, rfl⟩
  refine d_ins (args := [.pointer (some ⟨p, 0, none⟩), .pointer (some ⟨r, 0, none⟩), .agg #[.int .i64 what, .int .u64 k, .int .i64 v, .bool true]]) 68 Try.func18 rfl rfl rfl ?_; intro w rs
  refine d_reg ?_
  refine h_q hflS rfl ?_
  refine h_act (post := fun g1 => [cell g1 50 #[.int .i64 what, .int .u64 k, .int .i64 v, .bool true], Tab 85 42 3 encU encI ltI p m K V, Tab 47 42 3 encU encI ltI r m K V]) rfl (a_box (cs := #[.int .i64 what, .int .u64 k, .int .i64 v, .bool true]) rfl rfl rfl) ?_; rintro g1
  refine h_q hflS rfl ?_
  refine h_done (d_seq (d_reg ?_))
  refine h_q hflS rfl ?_
  refine h_val rfl (.bool true) (fun b w hb hH => exec_load rfl rfl (reads_one ty_bool rfl) (hH.row 0 rfl) hb) ?_
  refine h_done (d_then rfl (d_reg1 ?_))
  refine h_q hflS rfl ?_
  refine h_val rfl (.int .u64 k) (fun b w hb hH => exec_load rfl rfl (reads_one ty_uint64 rfl) (hH.row 0 rfl) hb) ?_
  refine h_val rfl (.int .u64 k2) (fun b w hb hH => exec_remI rfl rfl rfl (by decide) hk2 hb) ?_
  refine h_q hflS rfl ?_
  refine h_acts (post := fun _ => [cell g1 50 #[.int .i64 what, .int .u64 k2, .int .i64 v, .bool true], Tab 85 42 3 encU encI ltI p m K V, Tab 47 42 3 encU encI ltI r m K V]) rfl rfl (a_store 0 (v := .int .u64 k2) #[.int .i64 what, .int .u64 k2, .int .i64 v, .bool true] ty_uint64.2 rfl rfl rfl rfl rfl rfl rfl rfl rfl) ?_; rintro ⟨⟩
  refine h_nil (f_to (d_seq (d_reg ?_)))
  refine h_q hflS rfl ?_
  refine h_val rfl (.int .i64 what) (fun b w hb hH => exec_load rfl rfl (reads_one ty_int rfl) (hH.row 0 rfl) hb) ?_
  refine h_act (post := fun _ => [cell g1 50 #[.int .i64 what, .int .u64 k2, .int .i64 v, .bool true], Tab 85 42 3 encU encI ltI p m K V, Tab 47 42 3 encU encI ltI r m K V]) rfl (a_call (ent_of Try.func23 (by kernel_rfl) rfl) (fun w hH => pick w what 6 h1 (by decide) hr0) rfl rfl rfl) ?_; rintro ⟨⟩
  refine h_done (d_block ?_)
  have h3 : r0 = 4 ∨ (r0 ≠ 4 ∧ r0 = 5) ∨ (r0 ≠ 4 ∧ r0 ≠ 5) := by omega
  rcases h3 with h4 | ⟨h4, h5⟩ | ⟨h4, h5⟩
  · skip
    obtain ⟨⟨a, c⟩, hg⟩ : ∃ R, getT ltI K V k2 0 = R := ⟨_, rfl⟩
    refine d_reg ?_
    refine h_q hflS rfl ?_
    refine h_val rfl (.bool true) (fun b w hb hH => exec_cmp rfl rfl rfl (cmp_eql_t h4) hb) ?_
    refine h_q hflS rfl ?_
    refine h_done (d_then rfl (d_reg ?_))
    refine h_q hflS rfl ?_
    refine h_val rfl (.int .u64 k2) (fun b w hb hH => exec_load rfl rfl (reads_one ty_uint64 rfl) (hH.row 0 rfl) hb) ?_
    refine h_act (post := fun _ => [cell g1 50 #[.int .i64 what, .int .u64 k2, .int .i64 v, .bool true], Tab 85 42 3 encU encI ltI p m K V, Tab 47 42 3 encU encI ltI r m K V]) rfl (a_does (os' := fun _ => [cell g1 50 #[.int .i64 what, .int .u64 k2, .int .i64 v, .bool true], Tab 85 42 3 encU encI ltI p m K V, Tab 47 42 3 encU encI ltI r m K V]) [1] 0 (ent_of Try.func30 (by kernel_rfl) rfl) (get_uint64_int p m K V k2 (a, c) hg) rfl rfl rfl (fun _ => rfl) rfl rfl rfl) ?_; rintro ⟨⟩
    refine h_q hflS rfl ?_
    refine h_done (d_reg ?_)
    refine h_q hflS rfl ?_
    refine h_val rfl (.int .u64 k2) (fun b w hb hH => exec_load rfl rfl (reads_one ty_uint64 rfl) (hH.row 0 rfl) hb) ?_
    refine h_act (post := fun _ => [cell g1 50 #[.int .i64 what, .int .u64 k2, .int .i64 v, .bool true], Tab 85 42 3 encU encI ltI p m K V, Tab 47 42 3 encU encI ltI r m K V]) rfl (a_does (os' := fun _ => [cell g1 50 #[.int .i64 what, .int .u64 k2, .int .i64 v, .bool true], Tab 85 42 3 encU encI ltI p m K V, Tab 47 42 3 encU encI ltI r m K V]) [2] 0 (ent_of Try.func42 (by kernel_rfl) rfl) (get_ref r m K V k2 (a, c) hg) rfl rfl rfl (fun _ => rfl) rfl rfl rfl) ?_; rintro ⟨⟩
    refine h_q hflS rfl ?_
    refine h_done (d_reg ?_)
    refine h_q hflS rfl ?_
    refine h_val rfl (.bool true) (fun b w hb hH => exec_cmp rfl rfl rfl (cmp_eql_t rfl) hb) ?_
    refine h_q hflS rfl ?_
    refine h_val rfl (.bool true) (fun b w hb hH => exec_eqs (eqB_same _) rfl rfl rfl hb) ?_
    refine h_q hflS rfl ?_
    refine h_done (d_ret (f_block_ret (f_then_ret ?_)))
    exact f_fin1 (.tmp rfl) (fun w h => tells (K, V) rfl [1, 2] rfl h same_parts) rfl
  · skip
    obtain ⟨⟨K1, V1, c⟩, hd⟩ : ∃ R, dropT ltI K V k2 = R := ⟨_, rfl⟩
    refine d_reg ?_
    refine h_q hflS rfl ?_
    refine h_val rfl (.bool false) (fun b w hb hH => exec_cmp rfl rfl rfl (cmp_eql_f (by omega)) hb) ?_
    refine h_q hflS rfl ?_
    refine h_done (d_else rfl (d_reg ?_))
    refine h_q hflS rfl ?_
    refine h_val rfl (.bool true) (fun b w hb hH => exec_cmp rfl rfl rfl (cmp_eql_t h5) hb) ?_
    refine h_q hflS rfl ?_
    refine h_done (d_then rfl (d_seq ?_))
    refine d_parS 9 2 [⟨.quiet, [none, none], fun _ => .pointer (some ⟨p, 0, none⟩), []⟩, ⟨.quiet, [none, none], fun _ => .pointer (some ⟨g1, 1, none⟩), []⟩, ⟨.quiet, [none, none], fun _ => .int .u64 k2, [1]⟩, ⟨.actv 0, [some false, some false], fun _ => .bool c, [0, 2]⟩, ⟨.quiet, [none, none], fun _ => .pointer (some ⟨r, 0, none⟩), []⟩, ⟨.quiet, [none, none], fun _ => .pointer (some ⟨g1, 1, none⟩), []⟩, ⟨.quiet, [none, none], fun _ => .int .u64 k2, [5]⟩, ⟨.actv 1, [some true, some false], fun _ => .bool c, [4, 6]⟩, ⟨.quiet, [some true, some true], fun _ => .bool true, [3, 7]⟩] [(0, .pointer (some ⟨p, 0, none⟩)), (1, .pointer (some ⟨r, 0, none⟩)), (5, .pointer (some ⟨g1, 0, none⟩)), (6, .bool false)] (fun ρ => match ρ with | [r0, r1] => [cell g1 50 #[.int .i64 what, .int .u64 k2, .int .i64 v, .bool true], selS r0 (fun _ => Tab 85 42 3 encU encI ltI p m K1 V1) (Tab 85 42 3 encU encI ltI p m K V), selS r1 (fun _ => Tab 47 42 3 encU encI ltI r m K1 V1) (Tab 47 42 3 encU encI ltI r m K V)] | _ => []) (by kernel_rfl) (by kernel_rfl) ⟨rfl, rfl, rfl, rfl, trivial⟩ rfl ?_ ?_
    · skip
      refine s_cons (by intro r0_ r1_; exact ⟨rfl, fun b w hH hb => exec_q1 hflS rfl hb⟩) ?_
      refine s_cons (by intro r0_ r1_; exact ⟨rfl, fun b w hH hb => exec_q1 hflS rfl hb⟩) ?_
      refine s_cons (by intro r0_ r1_; exact ⟨rfl, fun b w hH hb => exec_load rfl rfl (reads_one ty_uint64 rfl) (hH.row 0 rfl) hb⟩) ?_
      refine s_cons (by exact ⟨rfl, Acts.su (a_does (os' := fun _ => [cell g1 50 #[.int .i64 what, .int .u64 k2, .int .i64 v, .bool true], Tab 85 42 3 encU encI ltI p m K1 V1, Tab 47 42 3 encU encI ltI r m K V]) [1] 0 (ent_of Try.func28 (by kernel_rfl) rfl) (drop_uint64_int p m K V k2 (K1, V1, c) hd) rfl rfl rfl (fun _ => rfl) rfl rfl rfl) rfl⟩) ?_
      refine s_cons (by intro r0_ r1_; exact ⟨rfl, fun b w hH hb => exec_q1 hflS rfl hb⟩) ?_
      refine s_cons (by intro r0_ r1_; exact ⟨rfl, fun b w hH hb => exec_q1 hflS rfl hb⟩) ?_
      refine s_cons (by intro r0_ r1_; exact ⟨rfl, fun b w hH hb => exec_load rfl rfl (reads_one ty_uint64 rfl) (hH.row 0 rfl) hb⟩) ?_
      refine s_cons (by intro v0_; exact ⟨rfl, Acts.su (a_does (os' := fun _ => [cell g1 50 #[.int .i64 what, .int .u64 k2, .int .i64 v, .bool true], Tab 85 42 3 encU encI ltI p m K1 V1, Tab 47 42 3 encU encI ltI r m K1 V1]) [2] 0 (ent_of Try.func43 (by kernel_rfl) rfl) (drop_ref r m K V k2 (K1, V1, c) hd) rfl rfl rfl (fun _ => rfl) rfl rfl rfl) rfl⟩) ?_
      refine s_cons (by intro v0_ v1_; exact ⟨rfl, fun b w hH hb => exec_eqs (eqB_same _) rfl rfl rfl hb⟩) ?_
      exact s_nil
    intro v0_ v1_
    refine WL2.keep (env' := [(0, .pointer (some ⟨p, 0, none⟩)), (1, .pointer (some ⟨r, 0, none⟩)), (5, .pointer (some ⟨g1, 0, none⟩)), (6, .bool false), (54, .bool true)]) ⟨rfl, rfl, rfl, rfl, rfl, trivial⟩ ?_
    refine h_q hflS rfl ?_
    refine h_nil (f_to (d_ret (f_block_ret (f_then_ret ?_))))
    exact f_fin1 (.tmp rfl) (fun w h => tells (K1, V1) rfl [1, 2] rfl h same_parts) rfl
  · skip
    obtain ⟨⟨K1, V1, c⟩, hp⟩ : ∃ R, putT ltI m K V k2 v = R := ⟨_, rfl⟩
    refine d_reg ?_
    refine h_q hflS rfl ?_
    refine h_val rfl (.bool false) (fun b w hb hH => exec_cmp rfl rfl rfl (cmp_eql_f (by omega)) hb) ?_
    refine h_q hflS rfl ?_
    refine h_done (d_else rfl (d_reg ?_))
    refine h_q hflS rfl ?_
    refine h_val rfl (.bool false) (fun b w hb hH => exec_cmp rfl rfl rfl (cmp_eql_f (by omega)) hb) ?_
    refine h_q hflS rfl ?_
    refine h_done (d_else rfl (d_skip (f_block (f_to (d_seq ?_)))))
    refine d_parS 13 2 [⟨.quiet, [none, none], fun _ => .pointer (some ⟨p, 0, none⟩), []⟩, ⟨.quiet, [none, none], fun _ => .pointer (some ⟨g1, 1, none⟩), []⟩, ⟨.quiet, [none, none], fun _ => .int .u64 k2, [1]⟩, ⟨.quiet, [none, none], fun _ => .pointer (some ⟨g1, 2, none⟩), []⟩, ⟨.quiet, [none, none], fun _ => .int .i64 v, [3]⟩, ⟨.actv 0, [some false, some false], fun _ => .bool c, [0, 2, 4]⟩, ⟨.quiet, [none, none], fun _ => .pointer (some ⟨r, 0, none⟩), []⟩, ⟨.quiet, [none, none], fun _ => .pointer (some ⟨g1, 1, none⟩), []⟩, ⟨.quiet, [none, none], fun _ => .int .u64 k2, [7]⟩, ⟨.quiet, [none, none], fun _ => .pointer (some ⟨g1, 2, none⟩), []⟩, ⟨.quiet, [none, none], fun _ => .int .i64 v, [9]⟩, ⟨.actv 1, [some true, some false], fun _ => .bool c, [6, 8, 10]⟩, ⟨.quiet, [some true, some true], fun _ => .bool true, [5, 11]⟩] [(0, .pointer (some ⟨p, 0, none⟩)), (1, .pointer (some ⟨r, 0, none⟩)), (5, .pointer (some ⟨g1, 0, none⟩)), (6, .bool false)] (fun ρ => match ρ with | [r0, r1] => [cell g1 50 #[.int .i64 what, .int .u64 k2, .int .i64 v, .bool true], selS r0 (fun _ => Tab 85 42 3 encU encI ltI p m K1 V1) (Tab 85 42 3 encU encI ltI p m K V), selS r1 (fun _ => Tab 47 42 3 encU encI ltI r m K1 V1) (Tab 47 42 3 encU encI ltI r m K V)] | _ => []) (by kernel_rfl) (by kernel_rfl) ⟨rfl, rfl, rfl, rfl, trivial⟩ rfl ?_ ?_
    · skip
      refine s_cons (by intro r0_ r1_; exact ⟨rfl, fun b w hH hb => exec_q1 hflS rfl hb⟩) ?_
      refine s_cons (by intro r0_ r1_; exact ⟨rfl, fun b w hH hb => exec_q1 hflS rfl hb⟩) ?_
      refine s_cons (by intro r0_ r1_; exact ⟨rfl, fun b w hH hb => exec_load rfl rfl (reads_one ty_uint64 rfl) (hH.row 0 rfl) hb⟩) ?_
      refine s_cons (by intro r0_ r1_; exact ⟨rfl, fun b w hH hb => exec_q1 hflS rfl hb⟩) ?_
      refine s_cons (by intro r0_ r1_; exact ⟨rfl, fun b w hH hb => exec_load rfl rfl (reads_one ty_int rfl) (hH.row 0 rfl) hb⟩) ?_
      refine s_cons (by exact ⟨rfl, Acts.su (a_does (os' := fun _ => [cell g1 50 #[.int .i64 what, .int .u64 k2, .int .i64 v, .bool true], Tab 85 42 3 encU encI ltI p m K1 V1, Tab 47 42 3 encU encI ltI r m K V]) [1] 0 (ent_of Try.func25 (by kernel_rfl) rfl) (put_uint64_int p m K V k2 v (K1, V1, c) hp) rfl rfl rfl (fun _ => rfl) rfl rfl rfl) rfl⟩) ?_
      refine s_cons (by intro r0_ r1_; exact ⟨rfl, fun b w hH hb => exec_q1 hflS rfl hb⟩) ?_
      refine s_cons (by intro r0_ r1_; exact ⟨rfl, fun b w hH hb => exec_q1 hflS rfl hb⟩) ?_
      refine s_cons (by intro r0_ r1_; exact ⟨rfl, fun b w hH hb => exec_load rfl rfl (reads_one ty_uint64 rfl) (hH.row 0 rfl) hb⟩) ?_
      refine s_cons (by intro r0_ r1_; exact ⟨rfl, fun b w hH hb => exec_q1 hflS rfl hb⟩) ?_
      refine s_cons (by intro r0_ r1_; exact ⟨rfl, fun b w hH hb => exec_load rfl rfl (reads_one ty_int rfl) (hH.row 0 rfl) hb⟩) ?_
      refine s_cons (by intro v0_; exact ⟨rfl, Acts.su (a_does (os' := fun _ => [cell g1 50 #[.int .i64 what, .int .u64 k2, .int .i64 v, .bool true], Tab 85 42 3 encU encI ltI p m K1 V1, Tab 47 42 3 encU encI ltI r m K1 V1]) [2] 0 (ent_of Try.func44 (by kernel_rfl) rfl) (put_ref r m K V k2 v (K1, V1, c) hp) rfl rfl rfl (fun _ => rfl) rfl rfl rfl) rfl⟩) ?_
      refine s_cons (by intro v0_ v1_; exact ⟨rfl, fun b w hH hb => exec_eqs (eqB_same _) rfl rfl rfl hb⟩) ?_
      exact s_nil
    intro v0_ v1_
    refine WL2.keep (env' := [(6, .bool false), (67, .bool true)]) ⟨rfl, rfl, trivial⟩ ?_
    refine h_q hflS rfl ?_
    refine h_nil (f_to (d_ret ?_))
    exact f_fin1 (.tmp rfl) (fun w h => tells (K1, V1) rfl [1, 2] rfl h same_parts) rfl

theorem run_any (p r : Nat) (m : Int) (K V : List Int) (x : StepD) (h1 : -9223372036854775808 ≤ x.what ∧ x.what ≤ 9223372036854775807) : Does Try.prog 18 #[.pointer (some ⟨p, 0, none⟩), .pointer (some ⟨r, 0, none⟩), .agg (encT x).toArray] [Tab 85 42 3 encU encI ltI p m K V, Tab 47 42 3 encU encI ltI r m K V] (fun (y : List Int × List Int) => .bool true) (fun (y : List Int × List Int) => [Tab 85 42 3 encU encI ltI p m y.1 y.2, Tab 47 42 3 encU encI ltI r m y.1 y.2]) := by
  obtain ⟨what, k, v, near⟩ := x
  cases near with
  | false => exact run_far p r m K V what k v h1
  | true => exact run_near p r m K V what k v h1 _ rfl
/-- what a step has found, as a value -/
def codeY (x : List Int × List Int × Value × Value) : Value := .tuple #[.tuple (x.1.map fun z => Value.int .i64 z).toArray, .tuple (x.2.1.map fun z => Value.int .i64 z).toArray, x.2.2.1, x.2.2.2]
def intOf (v : Value) : Option Int := match v with | .int _ z => some z | _ => none
def intsY (v : Value) : List Int := match v with | .tuple l => l.toList.filterMap intOf | _ => []
def decL (l : List Value) : List Int × List Int × Value × Value := match l with | [a, b, c, d] => (intsY a, intsY b, c, d) | _ => ([], [], undef, undef)
def decY (v : Value) : List Int × List Int × Value × Value := match v with | .tuple l => decL l.toList | _ => ([], [], undef, undef)
theorem ints_map : ∀ l : List Int, (l.map fun z => Value.int .i64 z).filterMap intOf = l
  | [] => rfl
  | x :: r => by
    have h : intOf (.int .i64 x) = some x := rfl
    rw [List.map_cons, List.filterMap_cons_some h, ints_map r]
theorem decY_code (x : List Int × List Int × Value × Value) : decY (codeY x) = x := by
  obtain ⟨a, b, c, d⟩ := x
  show (List.filterMap intOf (a.map fun z => Value.int .i64 z), List.filterMap intOf (b.map fun z => Value.int .i64 z), c, d) = (a, b, c, d)
  rw [ints_map, ints_map]
theorem run_open (p r : Nat) (m : Int) (K V : List Int) (kv vv : Value) (x : StepD) (h1 : -9223372036854775808 ≤ x.what ∧ x.what ≤ 9223372036854775807) : Does Try.prog 18 #[.pointer (some ⟨p, 0, none⟩), .pointer (some ⟨r, 0, none⟩), .agg (encT x).toArray] [Tab 85 42 3 encU encI ltI p m K V, cell r 47 #[.int .i64 m, kv, vv], Vec 42 1 encU kv K, Vec 3 1 encI vv V] (fun (_ : Value) => .bool true) (fun (y : Value) => [Tab 85 42 3 encU encI ltI p m ((decY y).1) ((decY y).2.1), cell r 47 #[.int .i64 m, (decY y).2.2.1, (decY y).2.2.2], Vec 42 1 encU ((decY y).2.2.1) ((decY y).1), Vec 3 1 encI ((decY y).2.2.2) ((decY y).2.1)]) := by
  have h2 := (run_any p r m K V x h1).imp (pre' := [Tab 85 42 3 encU encI ltI p m K V, cell r 47 #[.int .i64 m, kv, vv], Vec 42 1 encU kv K, Vec 3 1 encI vv V]) (fun rs hz => by
    obtain ⟨a, b, e, hT, c, d, e2, hc, f, g, e3, hk, hv⟩ := hz
    exact ⟨rs, .refl _, ⟨a, b, e, hT, Parts.one (Tab.mk_ (Tab.ok _ hT) ⟨c, d, e2, hc, f, g, e3, hk, hv⟩)⟩⟩)
  intro w rs hz hr hd
  refine (h2 w rs hz hr hd).mono ?_
  rintro e w' ⟨⟨K1, V1⟩, he, y, ⟨a, b, e1, hT, hR⟩, hc⟩
  obtain ⟨kv1, vv1, hz1, hk⟩ := hR.one'
  refine ⟨codeY (K1, V1, kv1, vv1), he, y, ?_, hc⟩
  dsimp only
  rw [decY_code]
  exact ⟨a, b, e1, hT, hz1⟩
end Go.Proofs.Ytmlfgdedhhmkpaa.Sep
