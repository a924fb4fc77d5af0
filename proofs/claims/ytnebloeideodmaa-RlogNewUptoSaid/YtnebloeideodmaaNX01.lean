/-
  RlAk
-/
import Derived.Test.YtnebloeideodmaaNW01
set_option linter.unusedSimpArgs false
set_option linter.unusedVariables false

namespace Go.Proofs.Ytnebloeideodmaa.Sep
open Go.RowKit
open Go.Proofs.Ytnebloeideodmaa.Mem (Dist Blk Chg below0)

/-- a new log, of which the results are a letter -/
def tupV (v : Value) (i : Nat) : Value := match v with | .tuple vs => vs.getD i undef | _ => undef
def NwT (nv : Value) (bi bt bc : Int) (es : List EntD) : Ass := fun rs => ∃ g : Nat, nv = .tuple #[.pointer (some ⟨g, 0, none⟩), .int .i64 0] ∧ LogD g bi bt bc es rs
theorem NwT.open_ {nv : Value} {bi bt bc : Int} {es : List EntD} : ∀ rs, NwT nv bi bt bc es rs → ∃ x : { g : Nat // nv = .tuple #[.pointer (some ⟨g, 0, none⟩), .int .i64 0] }, Parts [LogD x.1 bi bt bc es] rs := fun _ ⟨g, h, hr⟩ => ⟨⟨g, h⟩, Parts.one hr⟩
theorem e_nw {P : Program} {B : Nat → Prop} {w0 w : World} {os : List Ass} {n : Nat} {env : List (Nat × Value)} {o : Oper} {act : Act} {nv : Value} {bi bt bc : Int} {es : List EntD} (i : Nat) {k : Nat} (hk : k < 2) (hi : os[i]? = some (NwT nv bi bt bc es)) {x : Operand} (ho : o.op = .extract x k) (hx : evs env x = some nv) (hH : Hp B w0 w os) (hF : Fr n act env) : (execOp act.eval o).run P w = .ok (.value (tupV nv k)) w := by
  obtain ⟨rs, ⟨g, hv, _⟩, _⟩ := hH.thing i hi
  subst hv
  unfold execOp
  simp only [ho, hF.evs hx]
  rcases (show k = 0 ∨ k = 1 by omega) with rfl | rfl <;> rfl
theorem new_w (bi bt bc : Int) (hbi : 0 ≤ bi ∧ bi ≤ 18446744073709551615) (hbt : 0 ≤ bt ∧ bt ≤ 18446744073709551615) (hbc : -9223372036854775808 ≤ bc ∧ bc ≤ 9223372036854775807) (cp : Value) (es : List EntD) (hd : ∀ e, e ∈ es → e.d.length ≤ 140737488351232) (hs : es.length * 56 ≤ 140737488351232) (h : baseR bi bt bc = true) (h2 : folB bi bt es = true) : Does Try.prog 8 #[.agg #[.int .u64 bi, .int .u64 bt, .int .i64 bc], cp] [EnT cp es] (fun nv : Value => nv) (fun nv => [NwT nv bi bt bc es, EnT cp es]) := fun w rs hp hr hd' => by
  obtain ⟨L, hL, hE⟩ := hp.one'
  obtain ⟨⟨A, c⟩, hv⟩ := ents_is rs hE
  subst hv
  refine (lnew_v bi bt bc hbi hbt hbc (EnE A c L) A c L enE_rd (fun x hx => hd x.e (by rw [← hL]; exact List.mem_map.2 ⟨x, hx, rfl⟩)) (by rw [← hL, List.length_map] at hs; exact hs) es hL h h2 w rs (Parts.one hE) hr hd').mono ?_
  rintro e w' ⟨g, he, rs', ⟨a, b, e1, h3, h4⟩, hc⟩
  exact ⟨_, he, rs', ⟨a, b, e1, ⟨g, rfl, h3⟩, Parts.one ⟨L, hL, h4.one'⟩⟩, hc⟩
theorem new_n (bi bt bc : Int) (hbi : 0 ≤ bi ∧ bi ≤ 18446744073709551615) (hbt : 0 ≤ bt ∧ bt ≤ 18446744073709551615) (hbc : -9223372036854775808 ≤ bc ∧ bc ≤ 9223372036854775807) (cp : Value) (es : List EntD) (hd : ∀ e, e ∈ es → e.d.length ≤ 140737488351232) (hs : es.length * 56 ≤ 140737488351232) (h : (baseR bi bt bc && folB bi bt es) = false) : Does Try.prog 8 #[.agg #[.int .u64 bi, .int .u64 bt, .int .i64 bc], cp] [EnT cp es] (fun _ : Unit => .tuple #[.pointer none, .int .i64 1]) (fun _ => [EnT cp es]) := fun w rs hp hr hd' => by
  obtain ⟨L, hL, hE⟩ := hp.one'
  obtain ⟨⟨A, c⟩, hv⟩ := ents_is rs hE
  subst hv
  refine (new_no bi bt bc hbi hbt hbc (EnE A c L) A c L enE_rd (fun x hx => hd x.e (by rw [← hL]; exact List.mem_map.2 ⟨x, hx, rfl⟩)) (by rw [← hL, List.length_map] at hs; exact hs) (by rw [hL]; exact h) w rs (Parts.one hE) hr hd').mono ?_
  rintro e w' ⟨u, he, rs', h4, hc⟩
  exact ⟨u, he, rs', Parts.one ⟨L, hL, h4.one'⟩, hc⟩
theorem hd_es {l : List EntV} {es : List EntD} (h : ∀ x, x ∈ l → x.e.d.length ≤ 140737488351232) (he : l.map (·.e) = es) (e : EntD) (h2 : e ∈ es) : e.d.length ≤ 140737488351232 := by
  rw [← he] at h2
  obtain ⟨x, hx, rfl⟩ := List.mem_map.1 h2
  exact h x hx
theorem base_new {bi bt bc : Int} {es : List EntD} (h : (baseR bi bt bc && folB bi bt es) = true) : InvL bi bt es := by
  simp only [Bool.and_eq_true] at h
  have := baseR_ok h.1
  exact ⟨this.1, this.2.1, h.2⟩

theorem exec_pnil2_neq {P : Program} {n : Nat} {env : List (Nat × Value)} {a : Act} {w : World} {o : Oper} {T T' : TypeId} (hT : P.underlying T = some (.pointer (P.pointee T))) {x y : Operand} (ho : o.op = .binOp .neq T x y T') (hx : evs env x = some (.pointer none)) (hy : evs env y = some (.pointer none)) (hF : Fr n a env) : (execOp a.eval o).run P w = .ok (.value (.bool false)) w := by
  unfold execOp
  simp only [ho, hF.evs hx, hF.evs hy]
  simp [eqGuard, run_neq_pointer_nil w T none hT]

set_option maxRecDepth 100000 in
set_option maxHeartbeats 1000000 in
theorem new_law (X : Ass) (A : Option Addr) (c : Nat) (l : List EntV) (hX : RdEs X (.slice A l.length c) l) (hok : ∀ x, x ∈ l → x.e.ok) (hd : ∀ x, x ∈ l → x.e.d.length ≤ 140737488351232) (hlen : l.length ≤ 1048576) (bi bt bc : Int) (hbi : 0 ≤ bi ∧ bi ≤ 18446744073709551615) (hbt : 0 ≤ bt ∧ bt ≤ 18446744073709551615) (hbc : -9223372036854775808 ≤ bc ∧ bc ≤ 9223372036854775807) (near : Bool) : Does Try.prog 4 #[.agg #[.int .u64 bi, .int .u64 bt, .int .i64 bc], .slice A l.length c, .bool near] [X] (fun (_ : Unit) => .bool true) (fun (_ : Unit) => [X]) := by
  obtain ⟨es, hes⟩ : ∃ es, l.map (·.e) = es := ⟨_, rfl⟩
  have hesl : es.length = l.length := by rw [← hes, List.length_map]
  refine d_ins (args := [.agg #[.int .u64 bi, .int .u64 bt, .int .i64 bc], .slice A l.length c, .bool near]) 72 Try.func4 rfl rfl rfl ?_; intro w rs
  refine d_reg ?_
  refine h_q hflS rfl ?_
  refine h_act (post := fun g3 => [cell g3 28 #[.int .u64 bi, .int .u64 bt, .int .i64 bc], X]) rfl (a_box (cs := #[.int .u64 bi, .int .u64 bt, .int .i64 bc]) rfl rfl rfl) ?_; rintro g3
  refine h_q hflS rfl ?_
  refine h_done (d_seq ?_)
  cases near
  · skip
    refine d_reg ?_
    refine h_q hflS rfl ?_
    refine h_done (d_else rfl (d_skip (f_to ?_)))
    cases hq : (baseR bi bt bc && folB bi bt es)
    · skip
      refine d_seq ?_
      refine d_emps 1 rfl ?_
      refine d_parS 8 2 [⟨.quiet, [none, none], fun _ => .agg #[.int .u64 bi, .int .u64 bt, .int .i64 bc], []⟩, ⟨.quiet, [none, none], fun _ => .slice A l.length c, []⟩, ⟨.act 0, [some false, some false], fun _ => undef, [1]⟩, ⟨.actv 1, [some true, some false], fun _ => .tuple #[.pointer none, .int .i64 1], [0, 2]⟩, ⟨.quiet, [some true, some true], fun _ => .tuple #[.pointer none, .int .i64 1], [3]⟩, ⟨.quiet, [some true, some true], fun _ => .pointer none, [4]⟩, ⟨.quiet, [some true, some true], fun _ => .int .i64 1, [4]⟩, ⟨.quiet, [some true, some true], fun _ => .pointer none, [5]⟩] [(1, .slice A l.length c), (3, .pointer (some ⟨g3, 0, none⟩)), (6, .bool false)] (fun ρ => match ρ with | [rq0, rq1] => [selS rq0 (fun cp => EnT cp es) (emp), cell g3 28 #[.int .u64 bi, .int .u64 bt, .int .i64 bc], X] | _ => []) (by kernel_rfl) (by kernel_rfl) ⟨rfl, rfl, rfl, trivial⟩ rfl ?_ ?_
      · skip
        refine s_cons (by intro r0_ r1_; exact ⟨rfl, fun b w hH hb => exec_load rfl rfl (reads_agg (cs := [.int .u64 bi, .int .u64 bt, .int .i64 bc]) ty_api_Base rfl) (hH.row 1 rfl) hb⟩) ?_
        refine s_cons (by intro r0_ r1_; exact ⟨rfl, fun b w hH hb => exec_q1 hflS rfl hb⟩) ?_
        refine s_cons (by exact ⟨rfl, Acts.s (a_makes (os' := fun cp => [EnT cp es, cell g3 28 #[.int .u64 bi, .int .u64 bt, .int .i64 bc], X]) [0] 1 (ent_of Try.func21 (by kernel_rfl) rfl) (fun w hH => copies_v w (.slice A l.length c) l (hH.rdEs 2 rfl hX) (by omega) hd es hes) rfl rfl rfl (fun _ => rfl) rfl rfl rfl) (fun _ => rfl)⟩) ?_
        refine s_cons (by intro cp; exact ⟨rfl, Acts.su (a_does (os' := fun _ => [EnT cp es, cell g3 28 #[.int .u64 bi, .int .u64 bt, .int .i64 bc], X]) [0] 0 (ent_of Try.func8 (by kernel_rfl) rfl) (new_n bi bt bc (by omega) (by omega) (by omega) cp es (hd_es hd hes) (by omega) hq) rfl rfl rfl (fun _ => rfl) rfl rfl rfl) rfl⟩) ?_
        refine s_cons (by intro cp v1_; exact ⟨rfl, fun b w hH hb => exec_q1 hflS rfl hb⟩) ?_
        refine s_cons (by intro cp v1_; exact ⟨rfl, fun b w hH hb => exec_q1 hflS rfl hb⟩) ?_
        refine s_cons (by intro cp v1_; exact ⟨rfl, fun b w hH hb => exec_q1 hflS rfl hb⟩) ?_
        refine s_cons (by intro cp v1_; exact ⟨rfl, fun b w hH hb => exec_q1 hflS rfl hb⟩) ?_
        exact s_nil
      intro cp v1_
      refine WL2.keep (env' := [(1, .slice A l.length c), (3, .pointer (some ⟨g3, 0, none⟩)), (6, .bool false), (35, .int .i64 1), (7, .pointer none)]) ⟨rfl, rfl, rfl, rfl, rfl, trivial⟩ ?_
      refine h_q hflS rfl ?_
      refine h_nil (f_to (d_reg ?_))
      refine h_q hflS rfl ?_
      refine h_val rfl (.agg #[.int .u64 bi, .int .u64 bt, .int .i64 bc]) (fun b w hb hH => exec_load rfl rfl (reads_agg (cs := [.int .u64 bi, .int .u64 bt, .int .i64 bc]) ty_api_Base rfl) (hH.row 1 rfl) hb) ?_
      refine h_q hflS rfl ?_
      refine h_act (post := fun _ => [EnT cp es, cell g3 28 #[.int .u64 bi, .int .u64 bt, .int .i64 bc], X]) rfl (a_does (os' := fun _ => [EnT cp es, cell g3 28 #[.int .u64 bi, .int .u64 bt, .int .i64 bc], X]) [2] 0 (ent_of Try.func22 (by kernel_rfl) rfl) (r_new_no bi bt bc (by omega) (by omega) (by omega) X A c l hX hd (by omega) (by rw [hes]; exact hq)) rfl rfl rfl (fun _ => rfl) rfl rfl rfl) ?_; rintro ⟨⟩
      refine h_q hflS rfl ?_
      refine h_done (d_seq (d_reg ?_))
      refine h_q hflS rfl ?_
      refine h_act (post := fun _ => [EnT cp es, cell g3 28 #[.int .u64 bi, .int .u64 bt, .int .i64 bc], X]) rfl (a_call (ent_of Try.func11 (by kernel_rfl) rfl) (fun w hH => Run.known_calls w) rfl rfl rfl) ?_; rintro ⟨⟩
      refine h_q hflS rfl ?_
      refine h_val rfl (.bool true) (fun b w hb hH => exec_pnil2_eql (by kernel_rfl) rfl rfl rfl hb) ?_
      refine h_q hflS rfl ?_
      refine h_val rfl (.bool true) (fun b w hb hH => exec_pnil2_eql (by kernel_rfl) rfl rfl rfl hb) ?_
      refine h_val rfl (.bool false) (fun b w hb hH => exec_nes (neB_same true) rfl rfl rfl hb) ?_
      refine h_q hflS rfl ?_
      refine h_val rfl (.bool true) (fun b w hb hH => exec_pnil2_eql (by kernel_rfl) rfl rfl rfl hb) ?_
      refine h_q hflS rfl ?_
      refine h_val rfl (.bool false) (fun b w hb hH => exec_cmp rfl rfl rfl (cmp_neq_f (by omega)) hb) ?_
      refine h_q hflS rfl ?_
      refine h_val rfl (.bool false) (fun b w hb hH => exec_pnil2_neq (by kernel_rfl) rfl rfl rfl hb) ?_
      refine h_q hflS rfl ?_
      refine h_done (d_else rfl (d_skip (f_to (d_reg ?_))))
      refine h_q hflS rfl ?_
      refine h_val rfl (.bool true) (fun b w hb hH => exec_pnil2_eql (by kernel_rfl) rfl rfl rfl hb) ?_
      refine h_q hflS rfl ?_
      refine h_done (d_ret ?_)
      exact f_fin1 (.tmp rfl) (fun w h => tells () rfl [2] rfl h same_parts) rfl
    · skip
      have hq1 := (Bool.and_eq_true _ _ ▸ hq).1
      have hq2 := (Bool.and_eq_true _ _ ▸ hq).2
      refine d_seq ?_
      refine d_emps 2 rfl ?_
      refine d_parS 8 2 [⟨.quiet, [none, none], fun _ => .agg #[.int .u64 bi, .int .u64 bt, .int .i64 bc], []⟩, ⟨.quiet, [none, none], fun _ => .slice A l.length c, []⟩, ⟨.act 0, [some false, some false], fun _ => undef, [1]⟩, ⟨.act 1, [some true, some false], fun _ => undef, [0, 2]⟩, ⟨.quiet, [some true, some true], fun ρ => match ρ with | [_, some nv] => nv | _ => undef, [3]⟩, ⟨.quiet, [some true, some true], fun ρ => match ρ with | [_, some nv] => (tupV nv 0) | _ => undef, [4]⟩, ⟨.quiet, [some true, some true], fun ρ => match ρ with | [_, some nv] => (tupV nv 1) | _ => undef, [4]⟩, ⟨.quiet, [some true, some true], fun ρ => match ρ with | [_, some nv] => (tupV nv 0) | _ => undef, [5]⟩] [(1, .slice A l.length c), (3, .pointer (some ⟨g3, 0, none⟩)), (6, .bool false)] (fun ρ => match ρ with | [rq0, rq1] => [selS rq1 (fun nv => selS rq0 (fun cp => EnT cp es) (emp)) (emp), selS rq1 (fun nv => NwT nv bi bt bc es) (selS rq0 (fun cp => EnT cp es) (emp)), cell g3 28 #[.int .u64 bi, .int .u64 bt, .int .i64 bc], X] | _ => []) (by kernel_rfl) (by kernel_rfl) ⟨rfl, rfl, rfl, trivial⟩ rfl ?_ ?_
      · skip
        refine s_cons (by intro r0_ r1_; exact ⟨rfl, fun b w hH hb => exec_load rfl rfl (reads_agg (cs := [.int .u64 bi, .int .u64 bt, .int .i64 bc]) ty_api_Base rfl) (hH.row 2 rfl) hb⟩) ?_
        refine s_cons (by intro r0_ r1_; exact ⟨rfl, fun b w hH hb => exec_q1 hflS rfl hb⟩) ?_
        refine s_cons (by exact ⟨rfl, Acts.s (a_makes (os' := fun cp => [emp, EnT cp es, cell g3 28 #[.int .u64 bi, .int .u64 bt, .int .i64 bc], X]) [1] 1 (ent_of Try.func21 (by kernel_rfl) rfl) (fun w hH => copies_v w (.slice A l.length c) l (hH.rdEs 3 rfl hX) (by omega) hd es hes) rfl rfl rfl (fun _ => rfl) rfl rfl rfl) (fun _ => rfl)⟩) ?_
        refine s_cons (by intro cp; exact ⟨rfl, Acts.s (a_does (os' := fun nv => [EnT cp es, NwT nv bi bt bc es, cell g3 28 #[.int .u64 bi, .int .u64 bt, .int .i64 bc], X]) [1, 0] 1 (ent_of Try.func8 (by kernel_rfl) rfl) (new_w bi bt bc (by omega) (by omega) (by omega) cp es (hd_es hd hes) (by omega) hq1 hq2) rfl rfl rfl (fun _ => rfl) rfl rfl rfl) (fun _ => rfl)⟩) ?_
        refine s_cons (by intro cp nv; exact ⟨rfl, fun b w hH hb => exec_q1 hflS rfl hb⟩) ?_
        refine s_cons (by intro cp nv; exact ⟨rfl, fun b w hH hb => e_nw 1 (by decide) rfl rfl rfl hH hb⟩) ?_
        refine s_cons (by intro cp nv; exact ⟨rfl, fun b w hH hb => e_nw 1 (by decide) rfl rfl rfl hH hb⟩) ?_
        refine s_cons (by intro cp nv; exact ⟨rfl, fun b w hH hb => exec_q1 hflS rfl hb⟩) ?_
        exact s_nil
      intro cp nv
      refine WL2.keep (env' := [(1, .slice A l.length c), (3, .pointer (some ⟨g3, 0, none⟩)), (6, .bool false), (35, (tupV nv 1)), (7, (tupV nv 0))]) ⟨rfl, rfl, rfl, rfl, rfl, trivial⟩ ?_
      refine h_q hflS rfl ?_
      refine h_nil (f_to ?_)
      refine d_open 1 rfl NwT.open_ (fun _ => rfl) ?_; rintro ⟨g, hnv⟩
      have hnv : nv = .tuple #[.pointer (some ⟨g, 0, none⟩), .int .i64 0] := hnv
      subst hnv
      refine WC2.keep (env' := [(1, .slice A l.length c), (3, .pointer (some ⟨g3, 0, none⟩)), (6, .bool false), (35, .int .i64 0), (7, .pointer (some ⟨g, 0, none⟩)), (8, .int .i64 0)]) ⟨rfl, rfl, rfl, rfl, rfl, rfl, trivial⟩ ?_
      refine WC2.mid [LogD g bi bt bc es, EnT cp es, cell g3 28 #[.int .u64 bi, .int .u64 bt, .int .i64 bc], X] (.refl _) ?_
      refine d_reg ?_
      refine h_q hflS rfl ?_
      refine h_val rfl (.agg #[.int .u64 bi, .int .u64 bt, .int .i64 bc]) (fun b w hb hH => exec_load rfl rfl (reads_agg (cs := [.int .u64 bi, .int .u64 bt, .int .i64 bc]) ty_api_Base rfl) (hH.row 2 rfl) hb) ?_
      refine h_q hflS rfl ?_
      refine h_act (post := fun gq => [X, LogD g bi bt bc es, EnT cp es, cell g3 28 #[.int .u64 bi, .int .u64 bt, .int .i64 bc], RfT gq bi bt bc es]) rfl (a_does (os' := fun gq => [X, LogD g bi bt bc es, EnT cp es, cell g3 28 #[.int .u64 bi, .int .u64 bt, .int .i64 bc], RfT gq bi bt bc es]) [3] 0 (ent_of Try.func22 (by kernel_rfl) rfl) (lrnew_v bi bt bc (by omega) (by omega) (by omega) X A c l hX hd (by omega) es hes hq1 hq2) rfl rfl rfl (fun _ => rfl) rfl rfl rfl) ?_; rintro gq
      refine h_q hflS rfl ?_
      refine h_done (d_seq (d_reg ?_))
      refine h_q hflS rfl ?_
      refine h_act (post := fun _ => [X, LogD g bi bt bc es, EnT cp es, cell g3 28 #[.int .u64 bi, .int .u64 bt, .int .i64 bc], RfT gq bi bt bc es]) rfl (a_call (ent_of Try.func11 (by kernel_rfl) rfl) (fun w hH => Run.known_calls w) rfl rfl rfl) ?_; rintro ⟨⟩
      refine h_q hflS rfl ?_
      refine h_val rfl (.bool false) (fun b w hb hH => exec_pnil_eql (by kernel_rfl) rfl rfl rfl hb) ?_
      refine h_q hflS rfl ?_
      refine h_val rfl (.bool false) (fun b w hb hH => exec_pnil_eql (by kernel_rfl) rfl rfl rfl hb) ?_
      refine h_val rfl (.bool false) (fun b w hb hH => exec_nes (neB_same false) rfl rfl rfl hb) ?_
      refine h_q hflS rfl ?_
      refine h_val rfl (.bool false) (fun b w hb hH => exec_pnil_eql (by kernel_rfl) rfl rfl rfl hb) ?_
      refine h_q hflS rfl ?_
      refine h_val rfl (.bool true) (fun b w hb hH => exec_pnil_neq (by kernel_rfl) rfl rfl rfl hb) ?_
      refine h_q hflS rfl ?_
      refine h_val rfl (.bool false) (fun b w hb hH => exec_cmp rfl rfl rfl (cmp_neq_f (by omega)) hb) ?_
      refine h_q hflS rfl ?_
      refine h_done (d_else rfl (d_skip (f_to (d_reg ?_))))
      refine h_q hflS rfl ?_
      refine h_val rfl (.bool false) (fun b w hb hH => exec_pnil_eql (by kernel_rfl) rfl rfl rfl hb) ?_
      refine h_q hflS rfl ?_
      refine h_val rfl (.agg #[.int .i64 0, .int .u64 0, .int .u64 0, .slice none 0 0, .int .u64 0, .int .u64 0, .int .i64 0, .bool false, .int .i64 0]) (fun b w hb hH => exec_build rfl rfl (by kernel_rfl) hb) ?_
      refine h_act (post := fun _ => [X, LogD g bi bt bc es, EnT cp es, cell g3 28 #[.int .u64 bi, .int .u64 bt, .int .i64 bc], RfT gq bi bt bc es]) rfl (a_does (os' := fun _ => [X, LogD g bi bt bc es, EnT cp es, cell g3 28 #[.int .u64 bi, .int .u64 bt, .int .i64 bc], RfT gq bi bt bc es]) [1, 4] 0 (ent_of Try.func23 (by kernel_rfl) rfl) (same_log g gq bi bt bc (by omega) es (base_new hq) (by omega) 0 0 0 (by decide) (by decide) none 0 0 0 0 0 false 0 (by decide)) rfl rfl rfl (fun _ => rfl) rfl rfl rfl) ?_; rintro ⟨⟩
      refine h_q hflS rfl ?_
      refine h_done (d_ret ?_)
      exact f_fin1 (.tmp rfl) (fun w h => tells () rfl [0] rfl h same_parts) rfl
  · skip
    obtain ⟨ci, hci⟩ : ∃ r, bi % 50 = r := ⟨_, rfl⟩
    obtain ⟨ct, hct⟩ : ∃ r, bt % 5 = r := ⟨_, rfl⟩
    obtain ⟨cc, hcc⟩ : ∃ r, bc % 128 = r := ⟨_, rfl⟩
    have hci1 : 0 ≤ ci ∧ ci < 50 := by omega
    have hct1 : 0 ≤ ct ∧ ct < 5 := by omega
    have hcc1 : 0 ≤ cc ∧ cc < 128 := by omega
    obtain ⟨en, hen⟩ : ∃ r, handL ci (max 1 ct) ((l.take 8).map (·.e)) = r := ⟨_, rfl⟩
    have henl : en.length ≤ 8 := by rw [← hen, handL_len, List.length_map, List.length_take]; omega
    refine d_reg ?_
    refine h_q hflS rfl ?_
    refine h_done (d_then rfl (d_seq ?_))
    refine d_parS 11 2 [⟨.quiet, [none, none], fun _ => .pointer (some ⟨g3, 0, none⟩), []⟩, ⟨.quiet, [none, none], fun _ => .int .u64 bi, [0]⟩, ⟨.quiet, [none, none], fun _ => .int .u64 ci, [1]⟩, ⟨.quiet, [none, none], fun _ => .pointer (some ⟨g3, 1, none⟩), []⟩, ⟨.quiet, [none, none], fun _ => .int .u64 bt, [3]⟩, ⟨.quiet, [none, none], fun _ => .int .u64 ct, [4]⟩, ⟨.quiet, [none, none], fun _ => .pointer (some ⟨g3, 2, none⟩), []⟩, ⟨.quiet, [none, none], fun _ => .int .i64 bc, [6]⟩, ⟨.actv 0, [some false, some false], fun _ => .int .i64 cc, [7]⟩, ⟨.quiet, [some true, none], fun _ => .int .i64 (2 * cc), [8]⟩, ⟨.actv 1, [some true, some false], fun _ => .agg #[.int .u64 ci, .int .u64 ct, .int .i64 (2 * cc)], [2, 5, 9]⟩] [(1, .slice A l.length c), (3, .pointer (some ⟨g3, 0, none⟩)), (6, .bool false)] (fun ρ => match ρ with | [rq0, rq1] => [cell g3 28 #[.int .u64 bi, .int .u64 bt, .int .i64 bc], X] | _ => []) (by kernel_rfl) (by kernel_rfl) ⟨rfl, rfl, rfl, trivial⟩ rfl ?_ ?_
    · skip
      refine s_cons (by intro r0_ r1_; exact ⟨rfl, fun b w hH hb => exec_q1 hflS rfl hb⟩) ?_
      refine s_cons (by intro r0_ r1_; exact ⟨rfl, fun b w hH hb => exec_load rfl rfl (reads_one ty_uint64 rfl) (hH.row 0 rfl) hb⟩) ?_
      refine s_cons (by intro r0_ r1_; exact ⟨rfl, fun b w hH hb => exec_remI rfl rfl rfl (by decide) ((Int.tmod_eq_emod_of_nonneg hbi.1).trans hci) hb⟩) ?_
      refine s_cons (by intro r0_ r1_; exact ⟨rfl, fun b w hH hb => exec_q1 hflS rfl hb⟩) ?_
      refine s_cons (by intro r0_ r1_; exact ⟨rfl, fun b w hH hb => exec_load rfl rfl (reads_one ty_uint64 rfl) (hH.row 0 rfl) hb⟩) ?_
      refine s_cons (by intro r0_ r1_; exact ⟨rfl, fun b w hH hb => exec_remI rfl rfl rfl (by decide) ((Int.tmod_eq_emod_of_nonneg hbt.1).trans hct) hb⟩) ?_
      refine s_cons (by intro r0_ r1_; exact ⟨rfl, fun b w hH hb => exec_q1 hflS rfl hb⟩) ?_
      refine s_cons (by intro r0_ r1_; exact ⟨rfl, fun b w hH hb => exec_load rfl rfl (reads_one ty_int rfl) (hH.row 0 rfl) hb⟩) ?_
      refine s_cons (by exact ⟨rfl, Acts.su (a_call (ent_of Try.func19 (by kernel_rfl) rfl) (fun w hH => pick w bc 128 hbc (by decide) hcc) rfl rfl rfl) rfl⟩) ?_
      refine s_cons (by intro v0_ r1_; exact ⟨rfl, fun b w hH hb => exec_ar rfl rfl rfl rfl (by rw [IntWalk.i64_in _ (by omega)]) hb⟩) ?_
      refine s_cons (by intro v0_; exact ⟨rfl, Acts.su (a_call (ent_of Try.func9 (by kernel_rfl) rfl) (fun w hH => lbase_any w ci ct (2 * cc)) rfl rfl rfl) rfl⟩) ?_
      exact s_nil
    intro v0_ v1_
    refine WL2.keep (env' := [(1, .slice A l.length c), (3, .pointer (some ⟨g3, 0, none⟩)), (6, .bool false), (21, .agg #[.int .u64 ci, .int .u64 ct, .int .i64 (2 * cc)])]) ⟨rfl, rfl, rfl, rfl, trivial⟩ ?_
    refine h_q hflS rfl ?_
    refine h_acts (post := fun _ => [cell g3 28 #[.int .u64 ci, .int .u64 ct, .int .i64 (2 * cc)], X]) rfl rfl (a_store 0 (v := .agg #[.int .u64 ci, .int .u64 ct, .int .i64 (2 * cc)]) #[.int .u64 ci, .int .u64 ct, .int .i64 (2 * cc)] ty_api_Base.2 rfl rfl rfl rfl rfl rfl rfl rfl rfl) ?_; rintro ⟨⟩
    refine h_nil (f_to (d_reg1 ?_))
    refine h_q hflS rfl ?_
    refine h_val rfl (.int .u64 ci) (fun b w hb hH => exec_load rfl rfl (reads_one ty_uint64 rfl) (hH.row 0 rfl) hb) ?_
    refine h_q hflS rfl ?_
    refine h_val rfl (.int .u64 ct) (fun b w hb hH => exec_load rfl rfl (reads_one ty_uint64 rfl) (hH.row 0 rfl) hb) ?_
    refine h_val rfl (.int .u64 (max 1 ct)) (fun b w hb hH => exec_builtin2 rfl rfl (fun cs => (fun w cs => run_max2 (by omega) _ _ w cs) w cs) hb) ?_
    refine h_q hflS rfl ?_
    refine h_act (post := fun hn9 => [EnT hn9 en, cell g3 28 #[.int .u64 ci, .int .u64 ct, .int .i64 (2 * cc)], X]) rfl (a_makes (os' := fun hn9 => [EnT hn9 en, cell g3 28 #[.int .u64 ci, .int .u64 ct, .int .i64 (2 * cc)], X]) [] 0 (ent_of Try.func20 (by kernel_rfl) rfl) (fun w hH => hand_v w l (.slice A l.length c) (hH.rdEs 1 rfl hX) hok ci (max 1 ct) 8 (by omega) (by omega) (by decide) en hen) rfl rfl rfl (fun _ => rfl) rfl rfl rfl) ?_; rintro hn9
    refine h_q hflS rfl ?_
    refine h_nil (f_to ?_)
    refine d_open 0 rfl EnT.openE (fun _ => rfl) ?_; rintro ⟨⟨A0, c0, L0⟩, hv0, hL0, hc0⟩
    have hv0 : hn9 = .slice A0 L0.length c0 := hv0
    have hL0 : L0.map (·.e) = en := hL0
    have hc0 : L0.length ≤ c0 := hc0
    have hl0 : L0.length = en.length := by rw [← hL0, List.length_map]
    subst hv0
    refine WC2.keep (env' := [(3, .pointer (some ⟨g3, 0, none⟩)), (6, .bool false), (21, .agg #[.int .u64 ci, .int .u64 ct, .int .i64 (2 * cc)]), (22, .pointer (some ⟨g3, 0, none⟩)), (23, .int .u64 ci), (24, .pointer (some ⟨g3, 1, none⟩)), (25, .int .u64 ct), (26, .int .u64 (max 1 ct)), (27, .slice A l.length c), (28, .slice A0 L0.length c0), (1, .slice A0 L0.length c0)]) ⟨rfl, rfl, rfl, rfl, rfl, rfl, rfl, rfl, rfl, rfl, rfl, trivial⟩ ?_
    refine WC2.mid [EnE A0 c0 L0, cell g3 28 #[.int .u64 ci, .int .u64 ct, .int .i64 (2 * cc)], X] (.refl _) ?_
    have hd0 := hand_map_d (by rw [hL0, ← hen])
    cases hq : (baseR ci ct (2 * cc) && folB ci ct en)
    · skip
      refine d_seq ?_
      refine d_emps 1 rfl ?_
      refine d_parS 8 2 [⟨.quiet, [none, none], fun _ => .agg #[.int .u64 ci, .int .u64 ct, .int .i64 (2 * cc)], []⟩, ⟨.quiet, [none, none], fun _ => .slice A0 L0.length c0, []⟩, ⟨.act 0, [some false, some false], fun _ => undef, [1]⟩, ⟨.actv 1, [some true, some false], fun _ => .tuple #[.pointer none, .int .i64 1], [0, 2]⟩, ⟨.quiet, [some true, some true], fun _ => .tuple #[.pointer none, .int .i64 1], [3]⟩, ⟨.quiet, [some true, some true], fun _ => .pointer none, [4]⟩, ⟨.quiet, [some true, some true], fun _ => .int .i64 1, [4]⟩, ⟨.quiet, [some true, some true], fun _ => .pointer none, [5]⟩] [(3, .pointer (some ⟨g3, 0, none⟩)), (6, .bool false), (1, .slice A0 L0.length c0)] (fun ρ => match ρ with | [rq0, rq1] => [selS rq0 (fun cp => EnT cp en) (emp), EnE A0 c0 L0, cell g3 28 #[.int .u64 ci, .int .u64 ct, .int .i64 (2 * cc)], X] | _ => []) (by kernel_rfl) (by kernel_rfl) ⟨rfl, rfl, rfl, trivial⟩ rfl ?_ ?_
      · skip
        refine s_cons (by intro r0_ r1_; exact ⟨rfl, fun b w hH hb => exec_load rfl rfl (reads_agg (cs := [.int .u64 ci, .int .u64 ct, .int .i64 (2 * cc)]) ty_api_Base rfl) (hH.row 2 rfl) hb⟩) ?_
        refine s_cons (by intro r0_ r1_; exact ⟨rfl, fun b w hH hb => exec_q1 hflS rfl hb⟩) ?_
        refine s_cons (by exact ⟨rfl, Acts.s (a_makes (os' := fun cp => [EnT cp en, EnE A0 c0 L0, cell g3 28 #[.int .u64 ci, .int .u64 ct, .int .i64 (2 * cc)], X]) [0] 1 (ent_of Try.func21 (by kernel_rfl) rfl) (fun w hH => copies_v w (.slice A0 L0.length c0) L0 (hH.rdEs 1 rfl enE_rd) (by omega) hd0 en hL0) rfl rfl rfl (fun _ => rfl) rfl rfl rfl) (fun _ => rfl)⟩) ?_
        refine s_cons (by intro cp; exact ⟨rfl, Acts.su (a_does (os' := fun _ => [EnT cp en, EnE A0 c0 L0, cell g3 28 #[.int .u64 ci, .int .u64 ct, .int .i64 (2 * cc)], X]) [0] 0 (ent_of Try.func8 (by kernel_rfl) rfl) (new_n ci ct (2 * cc) (by omega) (by omega) (by omega) cp en (hd_es hd0 hL0) (by omega) hq) rfl rfl rfl (fun _ => rfl) rfl rfl rfl) rfl⟩) ?_
        refine s_cons (by intro cp v1_; exact ⟨rfl, fun b w hH hb => exec_q1 hflS rfl hb⟩) ?_
        refine s_cons (by intro cp v1_; exact ⟨rfl, fun b w hH hb => exec_q1 hflS rfl hb⟩) ?_
        refine s_cons (by intro cp v1_; exact ⟨rfl, fun b w hH hb => exec_q1 hflS rfl hb⟩) ?_
        refine s_cons (by intro cp v1_; exact ⟨rfl, fun b w hH hb => exec_q1 hflS rfl hb⟩) ?_
        exact s_nil
      intro cp v1_
      refine WL2.keep (env' := [(3, .pointer (some ⟨g3, 0, none⟩)), (6, .bool false), (1, .slice A0 L0.length c0), (35, .int .i64 1), (7, .pointer none)]) ⟨rfl, rfl, rfl, rfl, rfl, trivial⟩ ?_
      refine h_q hflS rfl ?_
      refine h_nil (f_to (d_reg ?_))
      refine h_q hflS rfl ?_
      refine h_val rfl (.agg #[.int .u64 ci, .int .u64 ct, .int .i64 (2 * cc)]) (fun b w hb hH => exec_load rfl rfl (reads_agg (cs := [.int .u64 ci, .int .u64 ct, .int .i64 (2 * cc)]) ty_api_Base rfl) (hH.row 2 rfl) hb) ?_
      refine h_q hflS rfl ?_
      refine h_act (post := fun _ => [EnT cp en, EnE A0 c0 L0, cell g3 28 #[.int .u64 ci, .int .u64 ct, .int .i64 (2 * cc)], X]) rfl (a_does (os' := fun _ => [EnT cp en, EnE A0 c0 L0, cell g3 28 #[.int .u64 ci, .int .u64 ct, .int .i64 (2 * cc)], X]) [1] 0 (ent_of Try.func22 (by kernel_rfl) rfl) (r_new_no ci ct (2 * cc) (by omega) (by omega) (by omega) (EnE A0 c0 L0) A0 c0 L0 enE_rd hd0 (by omega) (by rw [hL0]; exact hq)) rfl rfl rfl (fun _ => rfl) rfl rfl rfl) ?_; rintro ⟨⟩
      refine h_q hflS rfl ?_
      refine h_done (d_seq (d_reg ?_))
      refine h_q hflS rfl ?_
      refine h_act (post := fun _ => [EnT cp en, EnE A0 c0 L0, cell g3 28 #[.int .u64 ci, .int .u64 ct, .int .i64 (2 * cc)], X]) rfl (a_call (ent_of Try.func11 (by kernel_rfl) rfl) (fun w hH => Run.known_calls w) rfl rfl rfl) ?_; rintro ⟨⟩
      refine h_q hflS rfl ?_
      refine h_val rfl (.bool true) (fun b w hb hH => exec_pnil2_eql (by kernel_rfl) rfl rfl rfl hb) ?_
      refine h_q hflS rfl ?_
      refine h_val rfl (.bool true) (fun b w hb hH => exec_pnil2_eql (by kernel_rfl) rfl rfl rfl hb) ?_
      refine h_val rfl (.bool false) (fun b w hb hH => exec_nes (neB_same true) rfl rfl rfl hb) ?_
      refine h_q hflS rfl ?_
      refine h_val rfl (.bool true) (fun b w hb hH => exec_pnil2_eql (by kernel_rfl) rfl rfl rfl hb) ?_
      refine h_q hflS rfl ?_
      refine h_val rfl (.bool false) (fun b w hb hH => exec_cmp rfl rfl rfl (cmp_neq_f (by omega)) hb) ?_
      refine h_q hflS rfl ?_
      refine h_val rfl (.bool false) (fun b w hb hH => exec_pnil2_neq (by kernel_rfl) rfl rfl rfl hb) ?_
      refine h_q hflS rfl ?_
      refine h_done (d_else rfl (d_skip (f_to (d_reg ?_))))
      refine h_q hflS rfl ?_
      refine h_val rfl (.bool true) (fun b w hb hH => exec_pnil2_eql (by kernel_rfl) rfl rfl rfl hb) ?_
      refine h_q hflS rfl ?_
      refine h_done (d_ret ?_)
      exact f_fin1 (.tmp rfl) (fun w h => tells () rfl [3] rfl h same_parts) rfl
    · skip
      have hq1 := (Bool.and_eq_true _ _ ▸ hq).1
      have hq2 := (Bool.and_eq_true _ _ ▸ hq).2
      refine d_seq ?_
      refine d_emps 2 rfl ?_
      refine d_parS 8 2 [⟨.quiet, [none, none], fun _ => .agg #[.int .u64 ci, .int .u64 ct, .int .i64 (2 * cc)], []⟩, ⟨.quiet, [none, none], fun _ => .slice A0 L0.length c0, []⟩, ⟨.act 0, [some false, some false], fun _ => undef, [1]⟩, ⟨.act 1, [some true, some false], fun _ => undef, [0, 2]⟩, ⟨.quiet, [some true, some true], fun ρ => match ρ with | [_, some nv] => nv | _ => undef, [3]⟩, ⟨.quiet, [some true, some true], fun ρ => match ρ with | [_, some nv] => (tupV nv 0) | _ => undef, [4]⟩, ⟨.quiet, [some true, some true], fun ρ => match ρ with | [_, some nv] => (tupV nv 1) | _ => undef, [4]⟩, ⟨.quiet, [some true, some true], fun ρ => match ρ with | [_, some nv] => (tupV nv 0) | _ => undef, [5]⟩] [(3, .pointer (some ⟨g3, 0, none⟩)), (6, .bool false), (1, .slice A0 L0.length c0)] (fun ρ => match ρ with | [rq0, rq1] => [selS rq1 (fun nv => selS rq0 (fun cp => EnT cp en) (emp)) (emp), selS rq1 (fun nv => NwT nv ci ct (2 * cc) en) (selS rq0 (fun cp => EnT cp en) (emp)), EnE A0 c0 L0, cell g3 28 #[.int .u64 ci, .int .u64 ct, .int .i64 (2 * cc)], X] | _ => []) (by kernel_rfl) (by kernel_rfl) ⟨rfl, rfl, rfl, trivial⟩ rfl ?_ ?_
      · skip
        refine s_cons (by intro r0_ r1_; exact ⟨rfl, fun b w hH hb => exec_load rfl rfl (reads_agg (cs := [.int .u64 ci, .int .u64 ct, .int .i64 (2 * cc)]) ty_api_Base rfl) (hH.row 3 rfl) hb⟩) ?_
        refine s_cons (by intro r0_ r1_; exact ⟨rfl, fun b w hH hb => exec_q1 hflS rfl hb⟩) ?_
        refine s_cons (by exact ⟨rfl, Acts.s (a_makes (os' := fun cp => [emp, EnT cp en, EnE A0 c0 L0, cell g3 28 #[.int .u64 ci, .int .u64 ct, .int .i64 (2 * cc)], X]) [1] 1 (ent_of Try.func21 (by kernel_rfl) rfl) (fun w hH => copies_v w (.slice A0 L0.length c0) L0 (hH.rdEs 2 rfl enE_rd) (by omega) hd0 en hL0) rfl rfl rfl (fun _ => rfl) rfl rfl rfl) (fun _ => rfl)⟩) ?_
        refine s_cons (by intro cp; exact ⟨rfl, Acts.s (a_does (os' := fun nv => [EnT cp en, NwT nv ci ct (2 * cc) en, EnE A0 c0 L0, cell g3 28 #[.int .u64 ci, .int .u64 ct, .int .i64 (2 * cc)], X]) [1, 0] 1 (ent_of Try.func8 (by kernel_rfl) rfl) (new_w ci ct (2 * cc) (by omega) (by omega) (by omega) cp en (hd_es hd0 hL0) (by omega) hq1 hq2) rfl rfl rfl (fun _ => rfl) rfl rfl rfl) (fun _ => rfl)⟩) ?_
        refine s_cons (by intro cp nv; exact ⟨rfl, fun b w hH hb => exec_q1 hflS rfl hb⟩) ?_
        refine s_cons (by intro cp nv; exact ⟨rfl, fun b w hH hb => e_nw 1 (by decide) rfl rfl rfl hH hb⟩) ?_
        refine s_cons (by intro cp nv; exact ⟨rfl, fun b w hH hb => e_nw 1 (by decide) rfl rfl rfl hH hb⟩) ?_
        refine s_cons (by intro cp nv; exact ⟨rfl, fun b w hH hb => exec_q1 hflS rfl hb⟩) ?_
        exact s_nil
      intro cp nv
      refine WL2.keep (env' := [(3, .pointer (some ⟨g3, 0, none⟩)), (6, .bool false), (1, .slice A0 L0.length c0), (35, (tupV nv 1)), (7, (tupV nv 0))]) ⟨rfl, rfl, rfl, rfl, rfl, trivial⟩ ?_
      refine h_q hflS rfl ?_
      refine h_nil (f_to ?_)
      refine d_open 1 rfl NwT.open_ (fun _ => rfl) ?_; rintro ⟨g, hnv⟩
      have hnv : nv = .tuple #[.pointer (some ⟨g, 0, none⟩), .int .i64 0] := hnv
      subst hnv
      refine WC2.keep (env' := [(3, .pointer (some ⟨g3, 0, none⟩)), (6, .bool false), (1, .slice A0 L0.length c0), (35, .int .i64 0), (7, .pointer (some ⟨g, 0, none⟩)), (8, .int .i64 0)]) ⟨rfl, rfl, rfl, rfl, rfl, rfl, trivial⟩ ?_
      refine WC2.mid [LogD g ci ct (2 * cc) en, EnT cp en, EnE A0 c0 L0, cell g3 28 #[.int .u64 ci, .int .u64 ct, .int .i64 (2 * cc)], X] (.refl _) ?_
      refine d_reg ?_
      refine h_q hflS rfl ?_
      refine h_val rfl (.agg #[.int .u64 ci, .int .u64 ct, .int .i64 (2 * cc)]) (fun b w hb hH => exec_load rfl rfl (reads_agg (cs := [.int .u64 ci, .int .u64 ct, .int .i64 (2 * cc)]) ty_api_Base rfl) (hH.row 3 rfl) hb) ?_
      refine h_q hflS rfl ?_
      refine h_act (post := fun gq => [EnE A0 c0 L0, LogD g ci ct (2 * cc) en, EnT cp en, RfT gq ci ct (2 * cc) en, cell g3 28 #[.int .u64 ci, .int .u64 ct, .int .i64 (2 * cc)], X]) rfl (a_does (os' := fun gq => [EnE A0 c0 L0, LogD g ci ct (2 * cc) en, EnT cp en, RfT gq ci ct (2 * cc) en, cell g3 28 #[.int .u64 ci, .int .u64 ct, .int .i64 (2 * cc)], X]) [2] 0 (ent_of Try.func22 (by kernel_rfl) rfl) (lrnew_v ci ct (2 * cc) (by omega) (by omega) (by omega) (EnE A0 c0 L0) A0 c0 L0 enE_rd hd0 (by omega) en hL0 hq1 hq2) rfl rfl rfl (fun _ => rfl) rfl rfl rfl) ?_; rintro gq
      refine h_q hflS rfl ?_
      refine h_done (d_seq (d_reg ?_))
      refine h_q hflS rfl ?_
      refine h_act (post := fun _ => [EnE A0 c0 L0, LogD g ci ct (2 * cc) en, EnT cp en, RfT gq ci ct (2 * cc) en, cell g3 28 #[.int .u64 ci, .int .u64 ct, .int .i64 (2 * cc)], X]) rfl (a_call (ent_of Try.func11 (by kernel_rfl) rfl) (fun w hH => Run.known_calls w) rfl rfl rfl) ?_; rintro ⟨⟩
      refine h_q hflS rfl ?_
      refine h_val rfl (.bool false) (fun b w hb hH => exec_pnil_eql (by kernel_rfl) rfl rfl rfl hb) ?_
      refine h_q hflS rfl ?_
      refine h_val rfl (.bool false) (fun b w hb hH => exec_pnil_eql (by kernel_rfl) rfl rfl rfl hb) ?_
      refine h_val rfl (.bool false) (fun b w hb hH => exec_nes (neB_same false) rfl rfl rfl hb) ?_
      refine h_q hflS rfl ?_
      refine h_val rfl (.bool false) (fun b w hb hH => exec_pnil_eql (by kernel_rfl) rfl rfl rfl hb) ?_
      refine h_q hflS rfl ?_
      refine h_val rfl (.bool true) (fun b w hb hH => exec_pnil_neq (by kernel_rfl) rfl rfl rfl hb) ?_
      refine h_q hflS rfl ?_
      refine h_val rfl (.bool false) (fun b w hb hH => exec_cmp rfl rfl rfl (cmp_neq_f (by omega)) hb) ?_
      refine h_q hflS rfl ?_
      refine h_done (d_else rfl (d_skip (f_to (d_reg ?_))))
      refine h_q hflS rfl ?_
      refine h_val rfl (.bool false) (fun b w hb hH => exec_pnil_eql (by kernel_rfl) rfl rfl rfl hb) ?_
      refine h_q hflS rfl ?_
      refine h_val rfl (.agg #[.int .i64 0, .int .u64 0, .int .u64 0, .slice none 0 0, .int .u64 0, .int .u64 0, .int .i64 0, .bool false, .int .i64 0]) (fun b w hb hH => exec_build rfl rfl (by kernel_rfl) hb) ?_
      refine h_act (post := fun _ => [EnE A0 c0 L0, LogD g ci ct (2 * cc) en, EnT cp en, RfT gq ci ct (2 * cc) en, cell g3 28 #[.int .u64 ci, .int .u64 ct, .int .i64 (2 * cc)], X]) rfl (a_does (os' := fun _ => [EnE A0 c0 L0, LogD g ci ct (2 * cc) en, EnT cp en, RfT gq ci ct (2 * cc) en, cell g3 28 #[.int .u64 ci, .int .u64 ct, .int .i64 (2 * cc)], X]) [1, 3] 0 (ent_of Try.func23 (by kernel_rfl) rfl) (same_log g gq ci ct (2 * cc) (by omega) en (base_new hq) (by omega) 0 0 0 (by decide) (by decide) none 0 0 0 0 0 false 0 (by decide)) rfl rfl rfl (fun _ => rfl) rfl rfl rfl) ?_; rintro ⟨⟩
      refine h_q hflS rfl ?_
      refine h_done (d_ret ?_)
      exact f_fin1 (.tmp rfl) (fun w h => tells () rfl [5] rfl h same_parts) rfl
end Go.Proofs.Ytnebloeideodmaa.Sep
