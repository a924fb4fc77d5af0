/-
  TabY · Und · TabU · TabK · Law · Opn
-/
import Derived.Test.YtmlfgdedhhmkpaaA01
import Derived.Test.YtmlfgdedhhmkpaaC01
import Derived.Test.YtmlfgdedhhmkpaaD01
import Derived.Test.YtmlfgdedhhmkpaaRows
import Derived.ProofKit
import Derived.OpenShut
import Derived.JoinedCond
set_option linter.unusedSimpArgs false
set_option linter.unusedVariables false

namespace Go.Proofs.Ytmlfgdedhhmkpaa.Sep
open Go.RowKit
open Go.Proofs.Ytmlfgdedhhmkpaa.Mem (Dist Blk Chg below0)

set_option maxRecDepth 100000 in
theorem all_uint64_int (p : Nat) : Does Try.prog 26 #[.pointer (some ⟨p, 0, none⟩)] [] (fun (g : Nat) => .func (.func 51) #[] #[.pointer (some ⟨g, 0, none⟩)]) (fun (g : Nat) => [cell g 39 #[.pointer (some ⟨p, 0, none⟩)]]) := by
  refine d_ins (args := [.pointer (some ⟨p, 0, none⟩)]) 4 Try.func26 rfl rfl rfl ?_; intro w rs
  refine d_reg ?_
  refine h_q hflS rfl ?_
  refine h_act (post := fun g1 => [cell g1 39 #[.pointer (some ⟨p, 0, none⟩)]]) rfl (a_box (cs := #[.pointer (some ⟨p, 0, none⟩)]) rfl rfl rfl) ?_; rintro g1
  refine h_q hflS rfl ?_
  refine h_done (d_reg ?_)
  refine h_q hflS rfl ?_
  refine h_val rfl (.func (.func 51) #[] #[.pointer (some ⟨g1, 0, none⟩)]) (fun b w hb hH => e_func rfl rfl hb) ?_
  refine h_q hflS rfl ?_
  refine h_done (d_ret ?_)
  exact f_fin1 (.tmp rfl) (fun w h => tells g1 rfl [0] rfl h same_parts) rfl

end Go.Proofs.Ytmlfgdedhhmkpaa.Sep

namespace Go.Proofs.Ytmlfgdedhhmkpaa.Sep
open Go.RowKit
open Go.Proofs.Ytmlfgdedhhmkpaa.Mem (Dist Blk Chg)
def DoesU {X : Type} (u : World) (P : Program) (F : FuncId) (args : Array Value) (pre : List Ass) (val : X → Value) (post : X → List Ass) : Prop :=
  ∀ w rs, Below u.heap.size u w → (∀ x ∈ rs, u.heap.size ≤ x.1) → Parts pre rs → RowsOf w rs → Dist rs → Calls P F args w fun e w' => ∃ x, e = .returned (val x) ∧ ∃ rs', Parts (post x) rs' ∧ Chg w w' rs rs'
section
variable {P : Program} {B : Nat → Prop} {u w0 w w' : World} {os : List Ass}
theorem Hp.give2 (h : Hp B w0 w os) (ids : List Nat) (hn : ids.Nodup) : ∃ x, (∀ r ∈ x, r.1 < w0.heap.size → B r.1) ∧ Parts (selA ids os) x ∧ RowsOf w x ∧ Dist x ∧ ∀ (post : List Ass) (y : List RowT) (w' : World), Parts post y → Chg w w' x y → Hp B w0 w' (post ++ rstA ids os) := by
  obtain ⟨rs, h1, h2⟩ := h.perm (perm_sel (os := os) hn).symm
  obtain ⟨a, b, e, h3, h4⟩ := h1.split
  subst e
  have hd := dist_iff.1 h2.apart
  rw [List.map_append] at hd
  exact ⟨a, fun r hr => h2.own r (by simp [hr]), h3, rows_iff.2 fun z hz => h2.rows.mem z (by simp [hz]), dist_iff.2 (List.nodup_append.1 hd).1, fun post y w' hy hch => ⟨y ++ b, hy.app h4, hp_chg h2 hch⟩⟩
theorem DoesU.pad {X : Type} {F : FuncId} {args : Array Value} {pre : List Ass} {val : X → Value} {post : X → List Ass} (h : DoesU u P F args pre val post) (k : Nat) : DoesU u P F args (pre ++ List.replicate k emp) val post := fun w rs hu hs h1 h2 h3 => by
  obtain ⟨a, b, e, ha, hb⟩ := h1.split
  have := parts_emp.1 hb
  subst this
  rw [List.append_nil] at e
  subst e
  exact h w _ hu hs ha h2 h3
theorem DoesU.calls {X : Type} {F : FuncId} {vs : List Value} {pre : List Ass} {val : X → Value} {post : X → List Ass} (hU : Below u.heap.size u w0) (hS : ∀ k, B k → u.heap.size ≤ k) (ids : List Nat) (hc : DoesU u P F vs.toArray pre val post) (hp : selA ids os = pre) (hn : ids.Nodup) (h : Hp B w0 w os) : Calls P F vs.toArray w fun e w' => ∃ x, e = .returned (val x) ∧ Hp B w0 w' (post x ++ rstA ids os) := by
  subst hp
  have hm : Below u.heap.size w0 w := h.up.below hU.size hS
  obtain ⟨x, h0, h1, h2, h3, h4⟩ := h.give2 ids hn
  refine (hc w x (hU.trans hm) (fun r hr => ?_) h1 h2 h3).mono fun e w' ⟨v, he, y, hy, hch⟩ => ⟨v, he, h4 _ y w' hy hch⟩
  by_cases hlt : r.1 < w0.heap.size
  · exact hS _ (h0 r hr hlt)
  · have := hU.size
    omega
/-- what came in, as it was -/
theorem arg_rdU {k m : Nat} {a : Value} {ys : List Value} (h : SlRd u k a m ys) (hU : Below u.heap.size u w0) (hS : ∀ k, B k → u.heap.size ≤ k) (hH : Hp B w0 w os) : SlRd w k a m ys := by
  obtain ⟨h1, A, c, e, hA⟩ := h
  refine ⟨h1, A, c, e, hA.imp id fun ⟨a, ha, hc⟩ => ⟨a, ha, fun j x hx => ?_⟩⟩
  have h0 := hc j x hx
  have hb := World.block_lt_of_cell? _ _ h0
  have hm : Below u.heap.size w0 w := hH.up.below hU.size hS
  rw [(hU.trans hm).cell hb]
  exact h0
variable {Q : Exit → Act → World → Prop} {n : Nat} {env : List (Nat × Value)} {o : Oper}
theorem a_doesU {X : Type} {F : FuncId} {f : Operand} {args : Array Operand} {ats : Array TypeId} {vs : List Value} {pre : List Ass} {val : X → Value} {post : X → List Ass} {os' : X → List Ass} (hU : Below u.heap.size u w0) (hS : ∀ k, B k → u.heap.size ≤ k) (ids : List Nat) (pads : Nat) (hE : Ent P F) (hc : DoesU u P F vs.toArray pre val post) (hp : selA ids os = pre ++ List.replicate pads emp) (hn : nodupB ids = true) (hb : (ids.all fun i => Nat.blt i os.length) = true) (he : ∀ x, (post x).drop ids.length ++ replA ids (padTo ids.length (post x)) os = os' x) (ho : o.op = .call { callee := .value f, args := args, argTypes := ats }) (hf : evs env f = some (.func (.func F) #[] #[])) (hx : evl env args.toList = some vs) :
    Acts P Q n env B w0 os o val os' := fun b w hH hb' K hK => by
  unfold Oper.wp
  rw [exec_call hE ho hf hx hb', Oper.upon_enter]
  refine (DoesU.calls hU hS ids (hc.pad pads) hp (nodupB_iff hn) hH).mono ?_
  rintro e w' ⟨x, rfl, hq⟩
  refine hK x w' (he x ▸ Hp.imp hq fun rs h => ?_)
  obtain ⟨a, c, e, ha, hc'⟩ := h.split
  obtain ⟨a', p, ha'⟩ := padTo_parts (k := ids.length) ha
  have h2 := Parts.app ha' hc'
  rw [List.append_assoc] at h2
  obtain ⟨r2, p2, h3⟩ := h2.perm ((repl_perm (xs := post x) (nodupB_iff hn) hb).append_left _)
  exact ⟨r2, e ▸ (p.append_right c).trans p2, h3⟩
theorem a_doescU {X : Type} {F : FuncId} {f : Operand} {args : Array Operand} {ats : Array TypeId} {vs caps : List Value} {pre : List Ass} {val : X → Value} {post : X → List Ass} {os' : X → List Ass} (hU : Below u.heap.size u w0) (hS : ∀ k, B k → u.heap.size ≤ k) (ids : List Nat) (pads : Nat) (hE : Ent P F) (hc : DoesU u P F (vs ++ caps).toArray pre val post) (hp : selA ids os = pre ++ List.replicate pads emp) (hn : nodupB ids = true) (hb : (ids.all fun i => Nat.blt i os.length) = true) (he : ∀ x, (post x).drop ids.length ++ replA ids (padTo ids.length (post x)) os = os' x) (ho : o.op = .call { callee := .value f, args := args, argTypes := ats }) (hf : evs env f = some (.func (.func F) #[] caps.toArray)) (hx : evl env args.toList = some vs) :
    Acts P Q n env B w0 os o val os' := fun b w hH hb' K hK => by
  unfold Oper.wp
  rw [exec_callc hE ho hf hx hb', Oper.upon_enter]
  refine (DoesU.calls hU hS ids (hc.pad pads) hp (nodupB_iff hn) hH).mono ?_
  rintro e w' ⟨x, rfl, hq⟩
  refine hK x w' (he x ▸ Hp.imp hq fun rs h => ?_)
  obtain ⟨a, c, e, ha, hc'⟩ := h.split
  obtain ⟨a', p, ha'⟩ := padTo_parts (k := ids.length) ha
  have h2 := Parts.app ha' hc'
  rw [List.append_assoc] at h2
  obtain ⟨r2, p2, h3⟩ := h2.perm ((repl_perm (xs := post x) (nodupB_iff hn) hb).append_left _)
  exact ⟨r2, e ▸ (p.append_right c).trans p2, h3⟩
theorem d_insU {X : Type} {fn : Func} {f : FuncId} {c : Code} {args : List Value} {pre : List Ass} {val : X → Value} {post : X → List Ass} (n : Nat) (hf : P.funcs[f]? = some fn) (hb : fn.body = some c) (hn : fn.ntmps = n) (hs : Nat.ble args.length n = true)
    (h : ∀ (w : World) (rs : List RowT), Below u.heap.size u w → (∀ k, Blk rs k → u.heap.size ≤ k) → WC2 P (bodyPost P fn fun e w' => ∃ x, e = .returned (val x) ∧ ∃ rs', Parts (post x) rs' ∧ Chg w w' rs rs') n (argEnv 0 args) (Blk rs) w pre c) : DoesU u P f args.toArray pre val post :=
  fun w rs hU hS h1 h2 h3 => calls_in n hf hb hn (Nat.le_of_ble_eq_true hs) fun a hF => h w rs hU (fun k ⟨x, hx, e⟩ => e ▸ hS x hx) a w hF (Hp.given h1 h2 h3)
end
end Go.Proofs.Ytmlfgdedhhmkpaa.Sep

namespace Go.Proofs.Ytmlfgdedhhmkpaa.Sep
open Go.RowKit
open Go.Proofs.Ytmlfgdedhhmkpaa.Mem (Dist Blk Chg below0)

set_option maxRecDepth 100000 in
theorem tellU_uint64_int (u : World) (p : Nat) (m : Int) (K : List (Int)) (V : List (Int)) (at_ : Nat) (ha : at_ ≤ K.length) (F : FuncId) (caps : List Value) (hE : Ent Try.prog F) (R : Ass) (Inv : Nat → Ass) (c : Nat → Bool) (N : Nat) (hN : at_ + N ≤ K.length) (hI0 : ∀ rs, Parts [Tab 85 42 3 encU encI ltI p m K V, R] rs → Inv 0 rs) (hc : ∀ j, j + 1 < N → c j = true) (hs : at_ + N < K.length → 0 < N ∧ c (N - 1) = false) (hy : ∀ j a b, j < N → (K.drop at_)[j]? = some a → (V.drop at_)[j]? = some b → DoesU u Try.prog F (([.int .u64 a, .int .i64 b] : List Value) ++ caps).toArray [Inv j] (fun _ : Unit => .bool (c j)) (fun _ : Unit => [Inv (j + 1)])) : DoesU u Try.prog 52 #[.pointer (some ⟨p, 0, none⟩), .int .i64 (at_ : Int), .func (.func F) #[] caps.toArray] [Tab 85 42 3 encU encI ltI p m K V, R] (fun (_ : Unit) => .tuple #[]) (fun (_ : Unit) => [Inv N]) := by
  refine d_insU (args := [.pointer (some ⟨p, 0, none⟩), .int .i64 (at_ : Int), .func (.func F) #[] caps.toArray]) 42 Try.func52 rfl rfl rfl ?_; intro w rs hU hS
  refine WC2.fact 0 rfl Tab.ok ?_; rintro hT
  have hVK := hT.len
  have hKm := hT.le
  have hm4 := hT.lim
  refine d_seq (d_reg ?_)
  refine h_q hflS rfl ?_
  refine h_val rfl (.bool false) (fun b w hb hH => exec_fnil_eql Try.underlying59 rfl rfl rfl hb) ?_
  refine h_done (d_else rfl (d_skip (f_to ?_)))
  refine d_open 0 rfl Tab.open_ (fun _ => rfl) ?_; rintro ⟨⟨kv, vv⟩, hT0⟩
  refine WC2.keep (env' := [(0, .pointer (some ⟨p, 0, none⟩)), (1, .int .i64 (at_ : Int)), (2, .func (.func F) #[] caps.toArray), (10, .func (.func F) #[] caps.toArray), (11, .bool false)]) ⟨rfl, rfl, rfl, rfl, rfl, trivial⟩ ?_
  refine WC2.mid [cell p 85 #[.int .i64 m, kv, vv], Vec 42 1 encU kv K, Vec 3 1 encI vv V, R] (.refl _) ?_
  refine d_seq ?_
  refine d_emps 2 rfl ?_
  refine d_parS 14 2 [⟨.quiet, [none, none], fun _ => .pointer (some ⟨p, 0, none⟩), []⟩, ⟨.quiet, [none, none], fun _ => .pointer (some ⟨p, 0, none⟩), [0]⟩, ⟨.quiet, [none, none], fun _ => .pointer (some ⟨p, 1, none⟩), [1]⟩, ⟨.quiet, [none, none], fun _ => kv, [2]⟩, ⟨.quiet, [none, none], fun _ => .int .i64 (at_ : Int), []⟩, ⟨.quiet, [none, none], fun _ => subv 1 kv at_ K.length, [3, 4]⟩, ⟨.act 0, [some false, some false], fun _ => undef, [5]⟩, ⟨.quiet, [none, none], fun _ => .pointer (some ⟨p, 0, none⟩), []⟩, ⟨.quiet, [none, none], fun _ => .pointer (some ⟨p, 0, none⟩), [7]⟩, ⟨.quiet, [none, none], fun _ => .pointer (some ⟨p, 2, none⟩), [8]⟩, ⟨.quiet, [none, none], fun _ => vv, [9]⟩, ⟨.quiet, [none, none], fun _ => .int .i64 (at_ : Int), []⟩, ⟨.quiet, [none, none], fun _ => subv 1 vv at_ V.length, [10, 11]⟩, ⟨.act 1, [some true, some false], fun _ => undef, [12]⟩] [(0, .pointer (some ⟨p, 0, none⟩)), (1, .int .i64 (at_ : Int)), (2, .func (.func F) #[] caps.toArray)] (fun ρ => match ρ with | [r0, r1] => [selS r1 (fun uv => Vec 3 1 encI uv (V.drop at_)) (emp), selS r0 (fun uk => Vec 42 1 encU uk (K.drop at_)) (emp), cell p 85 #[.int .i64 m, kv, vv], Vec 42 1 encU kv K, Vec 3 1 encI vv V, R] | _ => []) (by kernel_rfl) (by kernel_rfl) ⟨rfl, rfl, rfl, trivial⟩ rfl ?_ ?_
  · skip
    refine s_cons (by intro r0_ r1_; exact ⟨rfl, fun b w hH hb => exec_q1 hflS rfl hb⟩) ?_
    refine s_cons (by intro r0_ r1_; exact ⟨rfl, fun b w hH hb => by exact exec_nilCheck rfl rfl hb⟩) ?_
    refine s_cons (by intro r0_ r1_; exact ⟨rfl, fun b w hH hb => exec_q1 hflS rfl hb⟩) ?_
    refine s_cons (by intro r0_ r1_; exact ⟨rfl, fun b w hH hb => exec_load rfl rfl (reads_one ty_s_uint64 rfl) (hH.row 2 rfl) hb⟩) ?_
    refine s_cons (by intro r0_ r1_; exact ⟨rfl, fun b w hH hb => exec_q1 hflS rfl hb⟩) ?_
    refine s_cons (by intro r0_ r1_; exact ⟨rfl, fun b w hH hb => e_vsub_lo 3 (a := at_) sl_uint64 rfl ha rfl rfl rfl hH hb⟩) ?_
    refine s_cons (by exact ⟨rfl, Acts.s (a_does (os' := fun uk => [emp, Vec 42 1 encU uk (K.drop at_), cell p 85 #[.int .i64 m, kv, vv], Vec 42 1 encU kv K, Vec 3 1 encI vv V, R]) [3, 1] 1 (ent_of Try.func45 (by kernel_rfl) rfl) (clone_uint64 (Vec 42 1 encU kv K) (subv 1 kv at_ K.length) (K.drop at_) (rd_sub okU (by omega) (Nat.le_refl _) (by simp)) (by simp; omega)) rfl rfl rfl (fun _ => rfl) rfl rfl rfl) (fun _ => rfl)⟩) ?_
    refine s_cons (by intro r0_ r1_; exact ⟨rfl, fun b w hH hb => exec_q1 hflS rfl hb⟩) ?_
    refine s_cons (by intro r0_ r1_; exact ⟨rfl, fun b w hH hb => by exact exec_nilCheck rfl rfl hb⟩) ?_
    refine s_cons (by intro r0_ r1_; exact ⟨rfl, fun b w hH hb => exec_q1 hflS rfl hb⟩) ?_
    refine s_cons (by intro r0_ r1_; exact ⟨rfl, fun b w hH hb => exec_load rfl rfl (reads_one ty_s_int rfl) (hH.row 2 rfl) hb⟩) ?_
    refine s_cons (by intro r0_ r1_; exact ⟨rfl, fun b w hH hb => exec_q1 hflS rfl hb⟩) ?_
    refine s_cons (by intro r0_ r1_; exact ⟨rfl, fun b w hH hb => e_vsub_lo 4 (a := at_) sl_int rfl (by omega) rfl rfl rfl hH hb⟩) ?_
    refine s_cons (by intro uk; exact ⟨rfl, Acts.s (a_does (os' := fun uv => [Vec 3 1 encI uv (V.drop at_), Vec 42 1 encU uk (K.drop at_), cell p 85 #[.int .i64 m, kv, vv], Vec 42 1 encU kv K, Vec 3 1 encI vv V, R]) [4, 0] 1 (ent_of Try.func46 (by kernel_rfl) rfl) (clone_int (Vec 3 1 encI vv V) (subv 1 vv at_ V.length) (V.drop at_) (rd_sub okI (by omega) (Nat.le_refl _) (by simp)) (by simp; omega)) rfl rfl rfl (fun _ => rfl) rfl rfl rfl) (fun _ => rfl)⟩) ?_
    exact s_nil
  intro uk uv
  refine WL2.keep (env' := [(2, .func (.func F) #[] caps.toArray), (18, uk), (25, uv)]) ⟨rfl, rfl, rfl, trivial⟩ ?_
  refine h_q hflS rfl ?_
  refine h_nil (f_to ?_)
  refine d_close [2, 3, 4] rfl (fun rs hz => Tab.mk_ hT hz) rfl ?_
  refine d_close [0, 3] rfl hI0 rfl ?_
  have hdl : (K.drop at_).length = K.length - at_ := by simp
  have hdl2 : (V.drop at_).length = V.length - at_ := by simp
  refine d_reg ?_
  refine h_q hflS rfl ?_
  refine h_val rfl (.int .i64 ((K.drop at_).length : Int)) (fun b w hb hH => e_vlen 2 Try.underlying44 rfl rfl rfl hH hb) ?_
  refine h_q hflS rfl ?_
  refine h_done (d_block ?_)
  refine d_loop (α := Nat) (fun j => [(2, .func (.func F) #[] caps.toArray), (7, uv), (26, uk), (27, .int .i64 ((K.drop at_).length : Int)), (28, .int .i64 ((j : Nat) : Int))]) (fun j => [Inv j, Vec 3 1 encI uv (V.drop at_), Vec 42 1 encU uk (K.drop at_)]) (fun j => j ≤ (K.drop at_).length ∧ j ≤ N ∧ ∀ i, i < j → c i = true) (fun j => (K.drop at_).length - j) 0 ⟨Nat.zero_le _, Nat.zero_le _, fun i hi => absurd hi (Nat.not_lt_zero _)⟩ ⟨rfl, rfl, rfl, rfl, rfl, trivial⟩ rfl ?_
  rintro j hI
  refine WC2.at_ (env' := [(2, .func (.func F) #[] caps.toArray), (7, uv), (26, uk), (27, .int .i64 ((K.drop at_).length : Int)), (28, .int .i64 ((j : Nat) : Int))]) (rs' := [Inv j, Vec 3 1 encI uv (V.drop at_), Vec 42 1 encU uk (K.drop at_)]) ⟨rfl, rfl, rfl, rfl, rfl, trivial⟩ rfl ?_
  have hI1 := hI.1
  have hI2 := hI.2.1
  rcases Nat.lt_or_ge j (K.drop at_).length with hn | hn
  · skip
    have hjN : j < N := by
        rcases Nat.lt_or_ge j N with h | h
        · exact h
        · obtain rfl : j = N := by omega
          obtain ⟨h0, h1⟩ := hs (by omega)
          rw [hI.2.2 (j - 1) (by omega)] at h1; cases h1
    obtain ⟨x, hx⟩ : ∃ x, (K.drop at_)[j]? = some x := ⟨_, List.getElem?_eq_getElem hn⟩
    obtain ⟨y, hy2⟩ : ∃ y, (V.drop at_)[j]? = some y := ⟨_, List.getElem?_eq_getElem (show j < (V.drop at_).length by omega)⟩
    have hyj := hy j x y hjN hx hy2
    refine d_reg ?_
    refine h_q hflS rfl ?_
    refine h_val rfl (.bool true) (fun b w hb hH => exec_cmp rfl rfl rfl (cmp_lss_t (by omega)) hb) ?_
    refine h_done (d_seq (d_then rfl (d_skip (f_to (d_seq (d_block (d_reg ?_)))))))
    refine h_q hflS rfl ?_
    refine h_val rfl (elp uk (j * 1)) (fun b w hb hH => e_vidx 2 sl_uint64 okU rfl j hn rfl rfl rfl hH hb) ?_
    refine h_val rfl (.int .u64 x) (fun b w hb hH => e_vload1 2 ty_uint64 okU rfl j (a := x) hx rfl rfl rfl hH hb) ?_
    refine h_q hflS rfl ?_
    refine h_done ?_
    rcases Bool.eq_false_or_eq_true (c j) with hcj | hcj
    · skip
      rw [hcj] at hyj
      refine d_reg ?_
      refine h_q hflS rfl ?_
      refine h_val rfl (elp uv (j * 1)) (fun b w hb hH => e_vidx 1 sl_int okI rfl j (by omega) rfl rfl rfl hH hb) ?_
      refine h_val rfl (.int .i64 y) (fun b w hb hH => e_vload1 1 ty_int okI rfl j (a := y) hy2 rfl rfl rfl hH hb) ?_
      refine h_act (post := fun _ => [Inv (j + 1), Vec 3 1 encI uv (V.drop at_), Vec 42 1 encU uk (K.drop at_)]) rfl (a_doescU hU hS (os' := fun _ => [Inv (j + 1), Vec 3 1 encI uv (V.drop at_), Vec 42 1 encU uk (K.drop at_)]) (vs := [.int .u64 x, .int .i64 y]) (caps := caps) [0] 0 hE (hyj) rfl rfl rfl (fun _ => rfl) rfl rfl rfl) ?_; rintro ⟨⟩
      refine h_q hflS rfl ?_
      refine h_done (d_else rfl (d_skip (f_block (f_to (d_reg1 ?_)))))
      refine h_q hflS rfl ?_
      refine h_val rfl (.int .i64 ((j + 1 : Nat) : Int)) (fun b w hb hH => exec_ar rfl rfl rfl rfl (by rw [IntWalk.i64_in _ (by omega)]; omega) hb) ?_
      refine h_q hflS rfl ?_
      refine h_nil ?_
      exact f_again (j + 1) 0 ⟨hn, hjN, fun i hi => by
            rcases Nat.lt_or_ge i j with h | h
            · exact hI.2.2 i h
            · obtain rfl : i = j := by omega
              exact hcj⟩ (by omega) ⟨rfl, rfl, rfl, rfl, rfl, trivial⟩ rfl
    · skip
      rw [hcj] at hyj
      refine d_reg ?_
      refine h_q hflS rfl ?_
      refine h_val rfl (elp uv (j * 1)) (fun b w hb hH => e_vidx 1 sl_int okI rfl j (by omega) rfl rfl rfl hH hb) ?_
      refine h_val rfl (.int .i64 y) (fun b w hb hH => e_vload1 1 ty_int okI rfl j (a := y) hy2 rfl rfl rfl hH hb) ?_
      refine h_act (post := fun _ => [Inv (j + 1), Vec 3 1 encI uv (V.drop at_), Vec 42 1 encU uk (K.drop at_)]) rfl (a_doescU hU hS (os' := fun _ => [Inv (j + 1), Vec 3 1 encI uv (V.drop at_), Vec 42 1 encU uk (K.drop at_)]) (vs := [.int .u64 x, .int .i64 y]) (caps := caps) [0] 0 hE (hyj) rfl rfl rfl (fun _ => rfl) rfl rfl rfl) ?_; rintro ⟨⟩
      refine h_q hflS rfl ?_
      refine h_done (d_then rfl (d_ret (f_block_ret (f_then_ret (f_then_ret (f_block_ret ?_))))))
      exact f_fin0  (fun w h => tells () rfl [0] rfl h (fun z hz => ⟨z, .refl _, by
            have e : j + 1 = N := by
              rcases Nat.lt_or_ge (j + 1) N with h | h
              · rw [hc j h] at hcj; cases hcj
              · omega
            rw [← e]; exact hz⟩)) rfl
  · skip
    obtain rfl : j = N := by omega
    refine d_reg ?_
    refine h_q hflS rfl ?_
    refine h_val rfl (.bool false) (fun b w hb hH => exec_cmp rfl rfl rfl (cmp_lss_f (by omega)) hb) ?_
    refine h_done (d_seq (d_else rfl (d_exit (f_then_exit (f_then_exit (f_block_exit ?_))))))
    exact f_fin0n  (fun w h => tells () rfl [0] rfl h same_parts) rfl

set_option maxRecDepth 100000 in
theorem all1U_uint64_int (u : World) (p : Nat) (m : Int) (K : List (Int)) (V : List (Int)) (g : Nat) (F : FuncId) (caps : List Value) (hE : Ent Try.prog F) (R : Ass) (Inv : Nat → Ass) (c : Nat → Bool) (N : Nat) (hN : 0 + N ≤ K.length) (hI0 : ∀ rs, Parts [Tab 85 42 3 encU encI ltI p m K V, R] rs → Inv 0 rs) (hc : ∀ j, j + 1 < N → c j = true) (hs : 0 + N < K.length → 0 < N ∧ c (N - 1) = false) (hy : ∀ j a b, j < N → (K.drop 0)[j]? = some a → (V.drop 0)[j]? = some b → DoesU u Try.prog F (([.int .u64 a, .int .i64 b] : List Value) ++ caps).toArray [Inv j] (fun _ : Unit => .bool (c j)) (fun _ : Unit => [Inv (j + 1)])) : DoesU u Try.prog 51 #[.func (.func F) #[] caps.toArray, .pointer (some ⟨g, 0, none⟩)] [cell g 39 #[.pointer (some ⟨p, 0, none⟩)], Tab 85 42 3 encU encI ltI p m K V, R] (fun (_ : Unit) => .tuple #[]) (fun (_ : Unit) => [cell g 39 #[.pointer (some ⟨p, 0, none⟩)], Inv N]) := by
  refine d_insU (args := [.func (.func F) #[] caps.toArray, .pointer (some ⟨g, 0, none⟩)]) 6 Try.func51 rfl rfl rfl ?_; intro w rs hU hS
  refine d_reg1 ?_
  refine h_q hflS rfl ?_
  refine h_val rfl (.pointer (some ⟨p, 0, none⟩)) (fun b w hb hH => exec_load rfl rfl (reads_one ty_p_table_Table_of_uint64_int rfl) (hH.row 0 rfl) hb) ?_
  refine h_q hflS rfl ?_
  refine h_act (post := fun _ => [cell g 39 #[.pointer (some ⟨p, 0, none⟩)], Inv N, emp]) rfl (a_doesU hU hS (os' := fun _ => [cell g 39 #[.pointer (some ⟨p, 0, none⟩)], Inv N, emp]) [1, 2] 0 (ent_of Try.func52 (by kernel_rfl) rfl) (tellU_uint64_int u p m K V 0 (Nat.zero_le _) F caps hE R Inv c N hN hI0 hc hs hy) rfl rfl rfl (fun _ => rfl) rfl rfl rfl) ?_; rintro ⟨⟩
  refine WL2.leave [2] rfl rfl ?_
  refine h_nil ?_
  exact f_fin0n  (fun w h => tells () rfl [0, 1] rfl h same_parts) rfl
end Go.Proofs.Ytmlfgdedhhmkpaa.Sep

namespace Go.Proofs.Ytmlfgdedhhmkpaa.Sep
open Go.RowKit
open Go.Proofs.Ytmlfgdedhhmkpaa.Mem (Dist Blk Chg below0)

/-- what remains of a division, of the sign of what is divided -/
theorem exec_remI {P : Program} {n : Nat} {env : List (Nat × Value)} {a : Act} {w : World} {o : Oper} {T T' : TypeId} {x y : Operand} {k : IntKind} {p q r : Int} (ho : o.op = .binOp .rem T x y T') (hx : evs env x = some (.int k p)) (hy : evs env y = some (.int k q)) (hq : q ≠ 0) (hr : p.tmod q = r) (hF : Fr n a env) : (execOp a.eval o).run P w = .ok (.value (.int k r)) w := by
  unfold execOp
  simp only [ho, hF.evs hx, hF.evs hy]
  simp [eqGuard, binOp, Op.intArith, Op.intDiv, hq, hr]
section
variable {κ : Type} [DecidableEq κ] {lt : κ → κ → Bool} {l K : List κ} {k : κ}
end

set_option maxRecDepth 100000 in
theorem pick (w : World) (a m : Int) (ha : -9223372036854775808 ≤ a ∧ a ≤ 9223372036854775807) (hm : 1 ≤ m ∧ m ≤ 9223372036854775807) {r : Int} (hr : a % m = r) : Calls Try.prog 23 #[.int .i64 a, .int .i64 m] w fun e w' => e = .returned (.int .i64 r) ∧ Below w.heap.size w w' := by
  have hlt := Int.emod_lt_of_pos a (show 0 < m by omega)
  have hge := Int.emod_nonneg a (show m ≠ 0 by omega)
  have ht : (0 ≤ a.tmod m ∧ a.tmod m = r) ∨ (a.tmod m < 0 ∧ a.tmod m + m = r) := by
    rw [Int.tmod_eq_emod, ← hr]
    split
    · left; omega
    · rename_i h
      right
      have hne : a % m ≠ 0 := fun e => h (.inr (Int.dvd_of_emod_eq_zero e))
      omega
  rw [hr] at hlt hge
  obtain ⟨t, htm⟩ : ∃ t, a.tmod m = t := ⟨_, rfl⟩
  rw [htm] at ht
  refine d_in (args := [.int .i64 a, .int .i64 m]) 14 Try.func23 rfl rfl rfl ?_
  refine d_reg ?_
  refine h_q hflS rfl ?_
  refine h_done (d_reg ?_)
  refine h_q hflS rfl ?_
  refine h_val rfl (.int .i64 t) (fun b w hb hH => exec_remI rfl rfl rfl (by omega) htm hb) ?_
  refine h_q hflS rfl ?_
  refine h_done (d_seq ?_)
  rcases ht with ⟨h1, h2⟩ | ⟨h1, h2⟩
  · skip
    subst h2
    refine d_reg ?_
    refine h_q hflS rfl ?_
    refine h_val rfl (.bool false) (fun b w hb hH => exec_cmp rfl rfl rfl (cmp_lss_f (by omega)) hb) ?_
    refine h_done (d_else rfl (d_skip (f_to (d_reg ?_))))
    refine h_q hflS rfl ?_
    refine h_done (d_ret ?_)
    exact f_fin1 (.tmp rfl) (fun w h => ⟨rfl, below0 h.up⟩) rfl
  · skip
    refine d_reg ?_
    refine h_q hflS rfl ?_
    refine h_val rfl (.bool true) (fun b w hb hH => exec_cmp rfl rfl rfl (cmp_lss_t (by omega)) hb) ?_
    refine h_done (d_then rfl (d_reg1 ?_))
    refine h_q hflS rfl ?_
    refine h_val rfl (.int .i64 r) (fun b w hb hH => exec_ar rfl rfl rfl rfl (by rw [IntWalk.i64_in _ (by omega)]; omega) hb) ?_
    refine h_q hflS rfl ?_
    refine h_nil (f_to (d_reg ?_))
    refine h_q hflS rfl ?_
    refine h_done (d_ret ?_)
    exact f_fin1 (.tmp rfl) (fun w h => ⟨rfl, below0 h.up⟩) rfl

set_option maxRecDepth 100000 in
theorem known_true (w : World)  : Calls Try.prog 11 #[] w fun e w' => e = .returned (.bool true) ∧ Below w.heap.size w w' := by
  refine d_in (args := []) 76 Try.func11 rfl rfl rfl ?_
  refine d_reg ?_
  refine h_q hflS rfl ?_
  refine h_done (d_reg ?_)
  refine h_q hflS rfl ?_
  refine h_act (post := fun g => [Tab 95 42 9 encU encS ltI g 2 ([]) ([])]) rfl (a_does (os' := fun g => [Tab 95 42 9 encU encS ltI g 2 ([]) ([])]) [] 0 (ent_of Try.func31 (by kernel_rfl) rfl) (new_uint64_string 2 (by decide)) rfl rfl rfl (fun _ => rfl) rfl rfl rfl) ?_; rintro g
  refine h_q hflS rfl ?_
  refine h_done (d_seq (d_reg ?_))
  refine h_q hflS rfl ?_
  refine h_val rfl (.bool false) (fun b w hb hH => exec_cmp rfl rfl rfl (cmp_neq_f (by decide)) hb) ?_
  refine h_q hflS rfl ?_
  refine h_val rfl (.bool false) (fun b w hb hH => exec_pnil_eql (by kernel_rfl) rfl rfl rfl hb) ?_
  refine h_q hflS rfl ?_
  refine h_done (d_else rfl (d_skip (f_to (d_reg ?_))))
  refine h_q hflS rfl ?_
  refine h_act (post := fun _ => [Tab 95 42 9 encU encS ltI g 2 ([5]) ([[97]])]) rfl (a_does (os' := fun _ => [Tab 95 42 9 encU encS ltI g 2 ([5]) ([[97]])]) [0] 0 (ent_of Try.func32 (by kernel_rfl) rfl) (put_uint64_string g 2 ([]) ([]) 5 ([97]) ([5], [[97]], true) (by decide)) rfl rfl rfl (fun _ => rfl) rfl rfl rfl) ?_; rintro ⟨⟩
  refine h_q hflS rfl ?_
  refine h_done (d_reg ?_)
  refine h_q hflS rfl ?_
  refine h_act (post := fun _ => [Tab 95 42 9 encU encS ltI g 2 ([3, 5]) ([[98], [97]])]) rfl (a_does (os' := fun _ => [Tab 95 42 9 encU encS ltI g 2 ([3, 5]) ([[98], [97]])]) [0] 0 (ent_of Try.func32 (by kernel_rfl) rfl) (put_uint64_string g 2 ([5]) ([[97]]) 3 ([98]) ([3, 5], [[98], [97]], true) (by decide)) rfl rfl rfl (fun _ => rfl) rfl rfl rfl) ?_; rintro ⟨⟩
  refine h_q hflS rfl ?_
  refine h_done (d_reg ?_)
  refine h_q hflS rfl ?_
  refine h_act (post := fun _ => [Tab 95 42 9 encU encS ltI g 2 ([3, 5]) ([[98], [97]])]) rfl (a_does (os' := fun _ => [Tab 95 42 9 encU encS ltI g 2 ([3, 5]) ([[98], [97]])]) [0] 0 (ent_of Try.func32 (by kernel_rfl) rfl) (put_uint64_string g 2 ([3, 5]) ([[98], [97]]) 9 ([99]) ([3, 5], [[98], [97]], false) (by decide)) rfl rfl rfl (fun _ => rfl) rfl rfl rfl) ?_; rintro ⟨⟩
  refine h_q hflS rfl ?_
  refine h_done (d_reg ?_)
  refine h_q hflS rfl ?_
  refine h_act (post := fun _ => [Tab 95 42 9 encU encS ltI g 2 ([3, 5]) ([[98], [100]])]) rfl (a_does (os' := fun _ => [Tab 95 42 9 encU encS ltI g 2 ([3, 5]) ([[98], [100]])]) [0] 0 (ent_of Try.func32 (by kernel_rfl) rfl) (put_uint64_string g 2 ([3, 5]) ([[98], [97]]) 5 ([100]) ([3, 5], [[98], [100]], true) (by decide)) rfl rfl rfl (fun _ => rfl) rfl rfl rfl) ?_; rintro ⟨⟩
  refine h_q hflS rfl ?_
  refine h_done (d_reg ?_)
  refine h_q hflS rfl ?_
  refine h_act (post := fun uk => [Vec 42 1 encU uk ([3, 5]), Tab 95 42 9 encU encS ltI g 2 ([3, 5]) ([[98], [100]])]) rfl (a_does (os' := fun uk => [Vec 42 1 encU uk ([3, 5]), Tab 95 42 9 encU encS ltI g 2 ([3, 5]) ([[98], [100]])]) [0] 0 (ent_of Try.func33 (by kernel_rfl) rfl) (keys_uint64_string g 2 ([3, 5]) ([[98], [100]])) rfl rfl rfl (fun _ => rfl) rfl rfl rfl) ?_; rintro uk
  refine h_q hflS rfl ?_
  refine h_done (d_reg ?_)
  refine h_q hflS rfl ?_
  refine h_act (post := fun uv => [Vec 9 1 encS uv ([[98], [100]]), Vec 42 1 encU uk ([3, 5]), Tab 95 42 9 encU encS ltI g 2 ([3, 5]) ([[98], [100]])]) rfl (a_does (os' := fun uv => [Vec 9 1 encS uv ([[98], [100]]), Vec 42 1 encU uk ([3, 5]), Tab 95 42 9 encU encS ltI g 2 ([3, 5]) ([[98], [100]])]) [1] 0 (ent_of Try.func34 (by kernel_rfl) rfl) (values_uint64_string g 2 ([3, 5]) ([[98], [100]])) rfl rfl rfl (fun _ => rfl) rfl rfl rfl) ?_; rintro uv
  refine h_q hflS rfl ?_
  refine h_done (d_reg ?_)
  refine h_q hflS rfl ?_
  refine h_val rfl (.int .i64 (([3, 5]).length : Int)) (fun b w hb hH => e_vlen 1 Try.underlying44 rfl rfl rfl hH hb) ?_
  refine h_val rfl (.bool true) (fun b w hb hH => exec_cmp rfl rfl rfl (cmp_eql_t rfl) hb) ?_
  refine h_q hflS rfl ?_
  refine h_val rfl (elp uk (0 * 1)) (fun b w hb hH => e_vidx 1 sl_uint64 okU rfl 0 (by decide) rfl rfl rfl hH hb) ?_
  refine h_val rfl (.int .u64 3) (fun b w hb hH => e_vload1 1 ty_uint64 okU rfl 0 (a := 3) rfl rfl rfl rfl hH hb) ?_
  refine h_val rfl (.bool true) (fun b w hb hH => exec_cmp rfl rfl rfl (cmp_eql_t (by decide)) hb) ?_
  refine h_q hflS rfl ?_
  refine h_val rfl (elp uk (1 * 1)) (fun b w hb hH => e_vidx 1 sl_uint64 okU rfl 1 (by decide) rfl rfl rfl hH hb) ?_
  refine h_val rfl (.int .u64 5) (fun b w hb hH => e_vload1 1 ty_uint64 okU rfl 1 (a := 5) rfl rfl rfl rfl hH hb) ?_
  refine h_val rfl (.bool true) (fun b w hb hH => exec_cmp rfl rfl rfl (cmp_eql_t (by decide)) hb) ?_
  refine h_q hflS rfl ?_
  refine h_val rfl (.int .i64 (([[98], [100]]).length : Int)) (fun b w hb hH => e_vlen 0 Try.underlying65 rfl rfl rfl hH hb) ?_
  refine h_val rfl (.bool true) (fun b w hb hH => exec_cmp rfl rfl rfl (cmp_eql_t rfl) hb) ?_
  refine h_q hflS rfl ?_
  refine h_val rfl (elp uv (0 * 1)) (fun b w hb hH => e_vidx 0 sl_string okS rfl 0 (by decide) rfl rfl rfl hH hb) ?_
  refine h_val rfl (.string (bs ([98]))) (fun b w hb hH => e_vload1 0 ty_string okS rfl 0 (a := [98]) rfl rfl rfl rfl hH hb) ?_
  refine h_val rfl (.bool true) (fun b w hb hH => exec_same rfl rfl rfl (by decide) hb) ?_
  refine h_q hflS rfl ?_
  refine h_val rfl (elp uv (1 * 1)) (fun b w hb hH => e_vidx 0 sl_string okS rfl 1 (by decide) rfl rfl rfl hH hb) ?_
  refine h_val rfl (.string (bs ([100]))) (fun b w hb hH => e_vload1 0 ty_string okS rfl 1 (a := [100]) rfl rfl rfl rfl hH hb) ?_
  refine h_val rfl (.bool true) (fun b w hb hH => exec_same rfl rfl rfl (by decide) hb) ?_
  refine h_q hflS rfl ?_
  refine h_done ?_
  refine WC2.keep (env' := [(0, .bool true)]) ⟨rfl, trivial⟩ ?_
  refine d_ret ?_
  exact f_fin1 (.tmp rfl) (fun w h => ⟨rfl, below0 h.up⟩) rfl
end Go.Proofs.Ytmlfgdedhhmkpaa.Sep

namespace Go.Proofs.Ytmlfgdedhhmkpaa
open Go.ChangeShapes Go.WideShapes Go.ChangeAt Go.RowKit

theorem own : ownKnob Try.prog.godebug = none := by kernel_rfl
theorem laidOut : laidOutB Try.prog = true := by kernel_rfl

section
variable {H : Type} {enc : TypeId × Value → H} {P : Program}

/-- what the arguments read as stays, where nothing that was there has changed -/
theorem trodAll_stays (hl : laidOutB P = true) {W W' : World} (hb : Below W.heap.size W W') :
    ∀ {ts : List TypeId} {vs : List Value} {ds : List (DataW H)} {ps : List MemPlace}, (∀ t ∈ ts, P.readableRec t = true ∧ t < P.types.size) → (∀ x ∈ ps, x.block < W.heap.size) →
      DataW.TrodAll enc P W 0 (fun _ => true) true ts vs ds ps → DataW.TrodAll enc P W' 0 (fun b => decide (b < W.heap.size)) true ts vs ds ps
  | [], vs, ds, ps, _, _, h => by
    obtain ⟨rfl, rfl, rfl⟩ := trodAll_nil h
    rfl
  | t :: ts, vs, ds, ps, ht, hp, h => by
    obtain ⟨v, vs1, d, ds1, a, b, rfl, rfl, rfl, h1, h2⟩ := trodAll_cons h
    obtain ⟨hr, hrow⟩ := ht t List.mem_cons_self
    exact ⟨a, b, Below.trod hl hr hrow h1 hb (fun x hx => hp x (List.mem_append_left _ hx)), trodAll_stays hl hb (fun t h => ht t (List.mem_cons_of_mem _ h)) (fun x hx => hp x (List.mem_append_right _ hx)) h2, rfl⟩

theorem law_post {f : Func} {s : ChangeSpec} {tb : TypeId} {W W' : World} {args : Array Value} {ds gs : List (DataW H)} {before : List MemPlace}
    (hl : laidOutB P = true) (hr : f.resultTypes = #[tb]) (htb : P.underlying tb = some .bool) (hread : ∀ t ∈ f.params.toList, P.readableRec t = true ∧ t < P.types.size)
    (hvars : s.vars = []) (hs : s.fn H ds = { results := [.lit (.bool true)], args := ds })
    (hW : DataW.Whole enc P f.params.toList s.vars false W args.toList ds gs before) (hb : Below W.heap.size W W') :
    s.post enc P f false true false false W args (.bool true) W' := by
  have hW' := hW
  obtain ⟨p, q, hA, hV, rfl, hfz, hnd⟩ := hW
  rw [hvars] at hV
  obtain ⟨rfl, rfl⟩ := trodVars_none hV
  have hlt : ∀ x ∈ p, x.block < W.heap.size := fun x hx => hW'.lt x (by simpa using hx)
  refine ⟨ds, [], p ++ [], [], p, [], hW', ?_, ?_, ?_, ?_, fun h => by cases h⟩
  · rw [List.append_nil, hs, hr]
    exact trodAll_cons_mk (shut_bool htb true) trodAll_mk0
  · rw [List.append_nil, hs]
    exact trodAll_stays hl hb hread hlt hA
  · rw [List.append_nil, hs, hvars]
    rfl
  · exact World.keptBut_mono (fun x hx => ⟨hx, .inr (.inl (by simpa using hx))⟩) (hb.frame (· ∈ p ++ []))
end

/-! ## Arguments, opened -/
section
variable {H : Type} {enc : TypeId × Value → H} {P : Program}

end


theorem wf_i64 {x : Int} (h : (Lit.int .i64 x).wf = true) : -9223372036854775808 ≤ x ∧ x ≤ 9223372036854775807 := by
  simpa [Lit.wf, IntKind.min, IntKind.max, IntKind.signed, IntKind.bits] using h
theorem wf_u64 {x : Int} (h : (Lit.int .u64 x).wf = true) : 0 ≤ x ∧ x ≤ 18446744073709551615 := by
  simpa [Lit.wf, IntKind.min, IntKind.max, IntKind.signed, IntKind.bits] using h
theorem readable_of {P : Program} {l : List TypeId} (h : l.all (fun t => P.readableRec t && decide (t < P.types.size)) = true) : ∀ t ∈ l, P.readableRec t = true ∧ t < P.types.size := by
  intro t ht
  have := List.all_eq_true.1 h t ht
  simpa using this
/-! ## The bound of the second form -/
theorem bound {H : Type} {l : List (DataW H)} (hk : Rows.uptoSmall H l = true) : Rows.uptoBulkAll l ≤ 1048576 := of_decide_eq_true hk
end Go.Proofs.Ytmlfgdedhhmkpaa

namespace Go.Proofs.Ytmlfgdedhhmkpaa.Sep
open Go.ChangeShapes Go.WideShapes Go.ChangeAt Go.RowKit
/-- one step of a play -/
structure StepD where
  what : Int
  k : Int
  v : Int
  near : Bool
instance : Inhabited StepD := ⟨⟨0, 0, 0, false⟩⟩
def encT (x : StepD) : List Value := [.int .i64 x.what, .int .u64 x.k, .int .i64 x.v, .bool x.near]
theorem okT : EncOf 4 encT := ⟨fun _ => rfl, fun x v h => by unfold encT at h; simp at h; rcases h with rfl | rfl | rfl | rfl <;> rfl⟩
def StepD.ok (x : StepD) : Prop := (-9223372036854775808 ≤ x.what ∧ x.what ≤ 9223372036854775807) ∧ (0 ≤ x.k ∧ x.k ≤ 18446744073709551615) ∧ (-9223372036854775808 ≤ x.v ∧ x.v ≤ 9223372036854775807)
section
variable {H : Type} {enc : TypeId × Value → H} {W : World} {base b0 : Nat} {r : Reach} {spare : Nat → Bool} {held : Bool} {v : Value} {d : DataW H} {p : List MemPlace}
theorem fld1 {P : Program} {n j : Nat} {f : Field} {cs : List Value} {ys : List (DataW H × List MemPlace)} {a : Value} {y : DataW H × List MemPlace} (hc : P.cellsOf f.type = 1) (ho : f.offset = j) (h : DataW.trod enc P W base spare held n f.type ((cs.drop f.offset).take (P.cellsOf f.type)) = ys[j]?) (ha : cs[j]? = some a) (hy : ys[j]? = some y) : DataW.trod enc P W base spare held n f.type [a] = some y := by
  rw [ho, hc, hy] at h
  obtain ⟨hj, ha⟩ := List.getElem?_eq_some_iff.1 ha
  rw [List.drop_eq_getElem_cons hj, ha] at h
  exact h
set_option maxRecDepth 100000 in
theorem open_steps (hval : Value.okWide Try.prog W r b0 38 v) (h : DataW.Trod enc Try.prog W base spare held 38 v d p) : ∃ A c, ∃ l : List StepD, v = .slice A l.length c ∧ l.length ≤ maxLen ∧ SlRd W 4 v l.length (flat encT l) ∧ ∀ y ∈ l, y.ok :=
  open_slice okT (by decide) Try.underlying38 (by kernel_rfl) (fun n cs x hcl h => by
    obtain ⟨ys, n', _, hx, _, hyl, hf⟩ := DataW.trod_struct Try.underlying50 h
    have hyl : ys.length = 4 := hyl
    match cs, hcl with
    | [a0, a1, a2, a3], _ =>
      obtain ⟨y0, g0⟩ : ∃ y, ys[0]? = some y := ⟨_, List.getElem?_eq_getElem (by omega)⟩
      obtain ⟨y1, g1⟩ : ∃ y, ys[1]? = some y := ⟨_, List.getElem?_eq_getElem (by omega)⟩
      obtain ⟨y2, g2⟩ : ∃ y, ys[2]? = some y := ⟨_, List.getElem?_eq_getElem (by omega)⟩
      obtain ⟨y3, g3⟩ : ∃ y, ys[3]? = some y := ⟨_, List.getElem?_eq_getElem (by omega)⟩
      have h0 := fld1 (by kernel_rfl) rfl (hf 0 _ rfl) rfl g0
      have h1 := fld1 (by kernel_rfl) rfl (hf 1 _ rfl) rfl g1
      have h2 := fld1 (by kernel_rfl) rfl (hf 2 _ rfl) rfl g2
      have h3 := fld1 (by kernel_rfl) rfl (hf 3 _ rfl) rfl g3
      obtain ⟨z0, e0, _, w0⟩ := DataW.trod_int Try.underlying3 h0
      obtain ⟨z1, e1, _, w1⟩ := DataW.trod_int Try.underlying42 h1
      obtain ⟨z2, e2, _, w2⟩ := DataW.trod_int Try.underlying3 h2
      obtain ⟨z3, e3, _⟩ := DataW.trod_bool Try.underlying4 h3
      simp at e0 e1 e2 e3
      subst e0; subst e1; subst e2; subst e3
      exact ⟨⟨z0, z1, z2, z3⟩, rfl, wf_i64 w0, wf_u64 w1, wf_i64 w2⟩) hval h
end
end Go.Proofs.Ytmlfgdedhhmkpaa.Sep
