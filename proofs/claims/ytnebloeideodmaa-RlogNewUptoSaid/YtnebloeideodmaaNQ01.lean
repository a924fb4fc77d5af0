/-
  RpcU · RpcH1 · RlAe
-/
import Derived.Test.YtnebloeideodmaaNG03
import Derived.Test.YtnebloeideodmaaNM01
set_option linter.unusedSimpArgs false
set_option linter.unusedVariables false

namespace Go.Proofs.Ytnebloeideodmaa.Sep
open Go.RowKit
open Go.Proofs.Ytnebloeideodmaa.Mem (Dist Blk Chg below0)

theorem sub_take {A : Option Addr} {n c j : Nat} : subv 1 (.slice A n c) 0 j = .slice A j c := by
  rw [sub_mid]
  cases A with
  | none => simp
  | some a =>
    have : a.add 0 = a := by obtain ⟨b, o, q⟩ := a; cases q <;> simp [Addr.add]
    simp [this]
end Go.Proofs.Ytnebloeideodmaa.Sep

namespace Go.Proofs.Ytnebloeideodmaa.Sep
open Go.RowKit
open Go.Proofs.Ytnebloeideodmaa.Mem (Dist Blk Chg below0)

/-- the entry that the hand makes of one -/
def handE (ix tm : Int) (e : EntD) : EntD := ⟨e.c % 3, max 1 (tm + e.k % 8 / 6), ix + 1, if e.c % 3 = 1 then 1 :: e.d.take 30 else [], if e.c % 3 = 2 then 2 * (1 + e.t % 200 % 31) else 0⟩
theorem take_min {l : List UInt8} (n : Nat) : ((l.take n).length : Int) = min (l.length : Int) (n : Int) := by
  rw [List.length_take]; omega
theorem Sl8.takesA {w : World} {A : Option Addr} {c : Nat} {l : List UInt8} (k : Nat) (h : Sl8 w (.slice A l.length c) l) : Sl8 w (.slice A (l.take k).length c) (l.take k) := by
  rcases Nat.lt_or_ge l.length k with hk | hk
  · rw [List.take_of_length_le (by omega)]; exact h
  · exact h.takes hk

end Go.Proofs.Ytnebloeideodmaa.Sep

namespace Go.Proofs.Ytnebloeideodmaa.Sep
open Go.RowKit
open Go.Proofs.Ytnebloeideodmaa.Mem (Dist Blk Chg below0)

theorem exec_quoI9 {P : Program} {n : Nat} {env : List (Nat × Value)} {a : Act} {w : World} {o : Oper} {T T' : TypeId} {x y : Operand} {k : IntKind} {p q r : Int} (hq : q ≠ 0) (hr : k.wrap (p.tdiv q) = r) (ho : o.op = .binOp .quo T x y T') (hx : evs env x = some (.int k p)) (hy : evs env y = some (.int k q)) (hF : Fr n a env) : (execOp a.eval o).run P w = .ok (.value (.int k r)) w := by
  unfold execOp
  simp only [ho, hF.evs hx, hF.evs hy]
  simp [eqGuard, binOp, Op.intArith, Op.intDiv, hq, hr]
def tmS (tm : Int) (l : List EntD) : Int := tm + (l.map fun e => e.k % 8 / 6).sum
def handL : Int → Int → List EntD → List EntD
  | _, _, [] => []
  | ix, tm, e :: r => handE ix tm e :: handL (ix + 1) (tm + e.k % 8 / 6) r
theorem tmS_push (tm : Int) (l : List EntD) (e : EntD) : tmS tm (l ++ [e]) = tmS tm l + e.k % 8 / 6 := by
  unfold tmS
  rw [List.map_append, List.sum_append]
  simp only [List.map_cons, List.map_nil, List.sum_cons, List.sum_nil]
  omega
theorem handL_push : ∀ (l : List EntD) (ix tm : Int) (e : EntD), handL ix tm (l ++ [e]) = handL ix tm l ++ [handE (ix + (l.length : Int)) (tmS tm l) e]
  | [], ix, tm, e => by simp [handL, tmS]
  | x :: r, ix, tm, e => by
    show handE ix tm x :: handL (ix + 1) (tm + x.k % 8 / 6) (r ++ [e]) = handE ix tm x :: (handL (ix + 1) (tm + x.k % 8 / 6) r ++ _)
    rw [handL_push r]
    congr 3
    have h1 : ix + 1 + (r.length : Int) = ix + ((x :: r).length : Int) := by rw [List.length_cons]; push_cast; omega
    have h2 : tmS (tm + x.k % 8 / 6) r = tmS tm (x :: r) := by
      unfold tmS
      simp only [List.map_cons, List.sum_cons]
      omega
    rw [h1, h2]
theorem handL_len : ∀ (l : List EntD) (ix tm : Int), (handL ix tm l).length = l.length
  | [], _, _ => rfl
  | x :: r, ix, tm => by simp [handL, handL_len r]
/-- what stands where so many have been made -/
structure HandI (ix tm : Int) (l : List EntV) (m j : Nat) (a b : Int) (o : EsV) : Prop where
  jl : j ≤ l.length
  jm : j ≤ m
  ea : a = ix + (j : Int)
  eb : b = tmS tm ((l.take j).map (·.e))
  b2 : 0 ≤ b ∧ b ≤ 1152921504606846976 + (j : Int)
  eo : o.l.map (·.e) = handL ix tm ((l.take j).map (·.e))
theorem HandI.len {ix tm : Int} {l : List EntV} {m j : Nat} {a b : Int} {o : EsV} (h : HandI ix tm l m j a b o) : o.l.length = j := by
  have h1 := congrArg List.length h.eo
  rw [handL_len, List.length_map, List.length_map, List.length_take] at h1
  have := h.jl
  omega
theorem hand_next {ix tm : Int} {l : List EntV} {m j : Nat} {a b : Int} {o : EsV} {x : EntV} (h : HandI ix tm l m j a b o) (hx : l[j]? = some x) (hjl : j < l.length) (hjm : j < m) {ev2 : Value} {y : EntV} (hy : y.e = handE a b x.e) : HandI ix tm l m (j + 1) (a + 1) (b + x.e.k % 8 / 6) (⟨ev2, o.l ++ [y]⟩ : EsV) := by
  have hk0 := Int.emod_nonneg x.e.k (show (8 : Int) ≠ 0 by decide)
  have hk8 := Int.emod_lt_of_pos x.e.k (show (0 : Int) < 8 by decide)
  have h2 := h.b2
  have h3 := h.ea
  have ht : (l.take (j + 1)).map (·.e) = (l.take j).map (·.e) ++ [x.e] := by rw [List.take_add_one, hx, List.map_append]; rfl
  refine ⟨hjl, hjm, by push_cast; omega, by rw [ht, tmS_push, ← h.eb], by push_cast; omega, ?_⟩
  show (o.l ++ [y]).map (·.e) = _
  rw [List.map_append, h.eo, ht, handL_push, ← h.eb, List.length_map, List.length_take, Nat.min_eq_left (Nat.le_of_lt hjl), ← h.ea]
  show _ ++ [y.e] = _
  rw [hy]
theorem hand_end {ix tm : Int} {l : List EntV} {m j : Nat} {a b : Int} {o : EsV} (h : HandI ix tm l m j a b o) (hj : l.length ≤ j ∨ m ≤ j) : o.l.map (·.e) = handL ix tm ((l.take m).map (·.e)) := by
  have h1 := h.jl
  have h2 := h.jm
  rw [h.eo]
  rcases hj with hj | hj
  · rw [List.take_of_length_le hj, List.take_of_length_le (by omega)]
  · rw [show j = m by omega]

set_option maxRecDepth 100000 in
theorem hand_any (u : World) (l : List EntV) (v : Value) (hv : EntsRd u v l) (hok : ∀ x, x ∈ l → x.e.ok) (ix tm : Int) (m : Nat) (h1 : 0 ≤ ix ∧ ix ≤ 1152921504606846976) (h2 : 0 ≤ tm ∧ tm ≤ 1152921504606846976) (hm : m ≤ 1000) : DoesU u Try.prog 20 #[.int .u64 ix, .int .u64 tm, v, .int .i64 (m : Int)] [] (fun (y : EsV) => y.v) (fun (y : EsV) => [Ents 32 y.v y.l, fact (y.l.map (·.e) = handL ix tm ((l.take m).map (·.e)))]) := by
  refine d_insU (args := [.int .u64 ix, .int .u64 tm, v, .int .i64 (m : Int)]) 83 Try.func20 rfl rfl rfl ?_; intro w rs hU hS
  refine d_reg ?_
  refine h_q hflS rfl ?_
  refine h_done (d_reg ?_)
  refine h_q hflS rfl ?_
  refine h_done (d_seq (d_reg ?_))
  refine h_q hflS rfl ?_
  refine h_done (d_block ?_)
  refine d_nilvec 32 5 encV ?_
  refine d_new (t := Each (fun x : EntV => Vec 5 1 encB x.v x.e.d) ([])) (each_nil) ?_
  refine d_close [1, 0] rfl ents_close rfl ?_
  refine WC2.keep (env' := [(0, .int .u64 ix), (1, .int .u64 tm), (2, v), (3, .int .i64 (m : Int)), (8, .slice none 0 0), (9, .slice none 0 0), (10, .int .i64 0)]) ⟨rfl, rfl, rfl, rfl, rfl, rfl, rfl, trivial⟩ ?_
  refine WC2.mid [Ents 32 (.slice none 0 0) ([])] (.refl _) ?_
  refine d_loop (α := Nat × Int × Int × EsV) (fun ⟨j, aq, bq, o⟩ => [(0, .int .u64 aq), (1, .int .u64 bq), (2, v), (3, .int .i64 (m : Int)), (8, .slice none 0 0), (9, o.v), (10, .int .i64 (j : Int))]) (fun ⟨j, aq, bq, o⟩ => [Ents 32 o.v o.l]) (fun ⟨j, aq, bq, o⟩ => HandI ix tm l m j aq bq o) (fun ⟨j, aq, bq, o⟩ => l.length - j) (0, ix, tm, (⟨.slice none 0 0, []⟩ : EsV)) ⟨Nat.zero_le _, Nat.zero_le _, by simp, by simp [tmS], ⟨h2.1, by omega⟩, rfl⟩ ⟨rfl, rfl, rfl, rfl, rfl, rfl, rfl, trivial⟩ rfl ?_
  rintro ⟨j, aq, bq, o⟩ hI
  refine WC2.at_ (env' := [(0, .int .u64 aq), (1, .int .u64 bq), (2, v), (3, .int .i64 (m : Int)), (8, .slice none 0 0), (9, o.v), (10, .int .i64 (j : Int))]) (rs' := [Ents 32 o.v o.l]) ⟨rfl, rfl, rfl, rfl, rfl, rfl, rfl, trivial⟩ rfl ?_
  refine d_seq ?_
  rcases (show (j < l.length ∧ j < m) ∨ l.length ≤ j ∨ (j < l.length ∧ m ≤ j) by omega) with ⟨hjl, hjm⟩ | hjl | ⟨hjl, hjm⟩
  · skip
    have hol : o.l.length = j := hI.len
    obtain ⟨hI1, hI2, hI3, hI4, hI5, hI6⟩ := id hI
    obtain ⟨x, hx0⟩ : ∃ x, l[j]? = some x := ⟨_, List.getElem?_eq_getElem hjl⟩
    have hxm := List.mem_of_getElem? hx0
    have hx := hv.2 x hxm
    have ho := hok x hxm
    have hk0 := Int.emod_nonneg x.e.k (show (8 : Int) ≠ 0 by decide)
    have hk8 := Int.emod_lt_of_pos x.e.k (show (0 : Int) < 8 by decide)
    have ht0 := ho.t
    have ht31 := Int.emod_nonneg (x.e.t % 200) (show (31 : Int) ≠ 0 by decide)
    have ht32 := Int.emod_lt_of_pos (x.e.t % 200) (show (0 : Int) < 31 by decide)
    have ht20 := Int.emod_nonneg x.e.t (show (200 : Int) ≠ 0 by decide)
    have ht21 := Int.emod_lt_of_pos x.e.t (show (0 : Int) < 200 by decide)
    have hc0 := Int.emod_nonneg x.e.c (show (3 : Int) ≠ 0 by decide)
    have hc3 := Int.emod_lt_of_pos x.e.c (show (0 : Int) < 3 by decide)
    obtain ⟨kd, hkd⟩ : ∃ kd, x.e.c % 3 = kd := ⟨_, rfl⟩
    rw [hkd] at hc0 hc3
    have hnext := fun {ev2 : Value} {y : EntV} (hy : y.e = handE aq bq x.e) => hand_next hI hx0 hjl hjm (ev2 := ev2) hy
    refine d_reg ?_
    refine h_q hflS rfl ?_
    refine h_val rfl (.int .i64 (l.length : Int)) (fun b w hb hH => e_slen ((argEs hv hU hS hH).1) Try.underlying34 rfl rfl hb) ?_
    refine h_val rfl (.bool true) (fun b w hb hH => exec_cmp rfl rfl rfl (cmp_lss_t (by omega)) hb) ?_
    refine h_q hflS rfl ?_
    refine h_val rfl (.bool true) (fun b w hb hH => exec_cmp rfl rfl rfl (cmp_lss_t (by omega)) hb) ?_
    refine h_q hflS rfl ?_
    refine h_done (d_then rfl (d_skip (f_to (d_seq (d_block (d_reg ?_))))))
    refine h_q hflS rfl ?_
    refine h_val rfl (.int .u64 (aq + 1)) (fun b w hb hH => exec_ar rfl rfl rfl rfl (IntWalk.u64_in _ (by omega)) hb) ?_
    refine h_q hflS rfl ?_
    refine h_done (d_reg ?_)
    refine h_q hflS rfl ?_
    refine h_val rfl (elp v (j * 5)) (fun b w hb hH => e_sidx okV ((argEs hv hU hS hH).1) sl_api_Entry (j := j) hx0 rfl rfl rfl hb) ?_
    refine h_val rfl (elp v (j * 5 + 0)) (fun b w hb hH => e_sfield okV (by decide) ((argEs hv hU hS hH).1) (j := j) hx0 fd_api_Entry_0 rfl rfl hb) ?_
    refine h_val rfl (.int .i64 x.e.k) (fun b w hb hH => e_sload okV (by decide) ((argEs hv hU hS hH).1) (j := j) hx0 ty_int (off := 0) rfl rfl rfl hb) ?_
    refine h_act (post := fun _ => [Ents 32 o.v o.l]) rfl (a_call (ent_of Try.func19 (by kernel_rfl) rfl) (fun w hH => pick w x.e.k 8 ho.k (by decide) rfl) rfl rfl rfl) ?_; rintro ⟨⟩
    refine h_val rfl (.int .i64 (x.e.k % 8 / 6)) (fun b w hb hH => exec_quoI9 (by decide) (by rw [Int.tdiv_eq_ediv_of_nonneg hk0, IntWalk.i64_in _ (by omega)]) rfl rfl rfl hb) ?_
    refine h_val rfl (.int .u64 (x.e.k % 8 / 6)) (fun b w hb hH => exec_conv Try.underlying3 Try.underlying26 (IntWalk.u64_in _ (by omega)) rfl rfl hb) ?_
    refine h_val rfl (.int .u64 (bq + x.e.k % 8 / 6)) (fun b w hb hH => exec_ar rfl rfl rfl rfl (IntWalk.u64_in _ (by omega)) hb) ?_
    refine h_q hflS rfl ?_
    refine h_done (d_reg ?_)
    refine h_q hflS rfl ?_
    refine h_val rfl (elp v (j * 5)) (fun b w hb hH => e_sidx okV ((argEs hv hU hS hH).1) sl_api_Entry (j := j) hx0 rfl rfl rfl hb) ?_
    refine h_val rfl (elp v (j * 5 + 4)) (fun b w hb hH => e_sfield okV (by decide) ((argEs hv hU hS hH).1) (j := j) hx0 fd_api_Entry_4 rfl rfl hb) ?_
    refine h_val rfl (.int .i64 x.e.c) (fun b w hb hH => e_sload okV (by decide) ((argEs hv hU hS hH).1) (j := j) hx0 ty_int (off := 4) rfl rfl rfl hb) ?_
    refine h_act (post := fun _ => [Ents 32 o.v o.l]) rfl (a_call (ent_of Try.func19 (by kernel_rfl) rfl) (fun w hH => pick w x.e.c 3 ho.c (by decide) hkd) rfl rfl rfl) ?_; rintro ⟨⟩
    refine h_q hflS rfl ?_
    refine h_val rfl (.int .u64 (max 1 (bq + x.e.k % 8 / 6))) (fun b w hb hH => exec_builtin2 rfl rfl (fun cs => (fun w cs => run_max2 (by first | rfl | decide | (split <;> omega)) _ _ w cs) w cs) hb) ?_
    refine h_q hflS rfl ?_
    refine h_val rfl (.agg #[.int .i64 kd, .int .u64 (max 1 (bq + x.e.k % 8 / 6)), .int .u64 (aq + 1), .slice none 0 0, .int .i64 0]) (fun b w hb hH => exec_build rfl rfl (by kernel_rfl) hb) ?_
    refine h_act (post := fun g11 => [cell g11 32 #[.int .i64 0, .int .u64 0, .int .u64 0, .slice none 0 0, .int .i64 0], Ents 32 o.v o.l]) rfl (a_alloc ze_api_Entry rfl) ?_; rintro g11
    refine h_acts (post := fun _ => [cell g11 32 #[.int .i64 kd, .int .u64 (max 1 (bq + x.e.k % 8 / 6)), .int .u64 (aq + 1), .slice none 0 0, .int .i64 0], Ents 32 o.v o.l]) rfl rfl (a_store 0 (v := .agg #[.int .i64 kd, .int .u64 (max 1 (bq + x.e.k % 8 / 6)), .int .u64 (aq + 1), .slice none 0 0, .int .i64 0]) #[.int .i64 kd, .int .u64 (max 1 (bq + x.e.k % 8 / 6)), .int .u64 (aq + 1), .slice none 0 0, .int .i64 0] ty_api_Entry.2 rfl rfl rfl rfl rfl rfl rfl rfl rfl) ?_; rintro ⟨⟩
    refine h_done (d_seq ?_)
    have hk : kd = 0 ∨ kd = 1 ∨ kd = 2 := by omega
    rcases hk with rfl | rfl | rfl
    · skip
      refine d_reg ?_
      refine h_q hflS rfl ?_
      refine h_val rfl (.int .i64 0) (fun b w hb hH => exec_load rfl rfl (reads_one ty_int rfl) (hH.row 0 rfl) hb) ?_
      refine h_done (d_block (d_reg ?_))
      refine h_q hflS rfl ?_
      refine h_val rfl (.bool false) (fun b w hb hH => exec_cmp rfl rfl rfl (cmp_eql_f (by decide)) hb) ?_
      refine h_q hflS rfl ?_
      refine h_done (d_else rfl (d_reg ?_))
      refine h_q hflS rfl ?_
      refine h_val rfl (.bool false) (fun b w hb hH => exec_cmp rfl rfl rfl (cmp_eql_f (by decide)) hb) ?_
      refine h_q hflS rfl ?_
      refine h_done (d_else rfl (d_skip (f_block (f_to ?_))))
      refine d_nilvec 5 1 encB ?_
      refine d_open 2 rfl ents_open (fun _ => rfl) ?_; rintro ⟨⟩
      refine d_reg1 ?_
      refine h_q hflS rfl ?_
      refine h_val rfl (.agg #[.int .i64 0, .int .u64 (max 1 (bq + x.e.k % 8 / 6)), .int .u64 (aq + 1), .slice none 0 0, .int .i64 0]) (fun b w hb hH => exec_load rfl rfl (reads_agg (cs := [.int .i64 0, .int .u64 (max 1 (bq + x.e.k % 8 / 6)), .int .u64 (aq + 1), .slice none 0 0, .int .i64 0]) ty_api_Entry rfl) (hH.row 3 rfl) hb) ?_
      refine h_act (X := Value) (val := fun v : Value => v) (post := fun b80 => [Vec 32 5 encV b80 ([(⟨⟨0, max 1 (bq + x.e.k % 8 / 6), aq + 1, [], 0⟩, none, 0⟩ : EntV)]), Vec 32 5 encV o.v o.l, Each (fun x : EntV => Vec 5 1 encB x.v x.e.d) o.l, Vec 5 1 encB (.slice none 0 0) ([]), cell g11 32 #[.int .i64 0, .int .u64 (max 1 (bq + x.e.k % 8 / 6)), .int .u64 (aq + 1), .slice none 0 0, .int .i64 0]]) rfl (by refine a_buildK (e := 32) (t := 34) (k := 5) (enc := encV) (x := .tmp 79) (c := .agg #[.int .i64 0, .int .u64 (max 1 (bq + x.e.k % 8 / 6)), .int .u64 (aq + 1), .slice none 0 0, .int .i64 0]) ?_ ?_ ?_ (⟨⟨0, max 1 (bq + x.e.k % 8 / 6), aq + 1, [], 0⟩, none, 0⟩ : EntV) ?_ ?_ ?_; exact sl_api_Entry; exact (by decide); exact okV; exact rfl; exact rfl; exact rfl) ?_; rintro b80
      refine h_act (post := fun ev2 => [Vec 32 5 encV b80 ([(⟨⟨0, max 1 (bq + x.e.k % 8 / 6), aq + 1, [], 0⟩, none, 0⟩ : EntV)]), Vec 32 5 encV ev2 (o.l ++ [(⟨⟨0, max 1 (bq + x.e.k % 8 / 6), aq + 1, [], 0⟩, none, 0⟩ : EntV)]), Each (fun x : EntV => Vec 5 1 encB x.v x.e.d) o.l, Vec 5 1 encB (.slice none 0 0) ([]), cell g11 32 #[.int .i64 0, .int .u64 (max 1 (bq + x.e.k % 8 / 6)), .int .u64 (aq + 1), .slice none 0 0, .int .i64 0]]) rfl (a_appendK (nb := 56) 1 sl_api_Entry okV (by kernel_rfl) (by decide) rfl ([(⟨⟨0, max 1 (bq + x.e.k % 8 / 6), aq + 1, [], 0⟩, none, 0⟩ : EntV)]) (fun w hH => hH.vec 0 rfl okV) (by simp only [List.length_cons, List.length_nil]; omega) rfl rfl rfl rfl) ?_; rintro ev2
      refine h_q hflS rfl ?_
      refine h_nil (f_block (f_to ?_))
      refine WC2.leave [0, 4] rfl rfl ?_
      refine d_close [0, 1, 2] rfl (ents_push (l := o.l) (x := (⟨⟨0, max 1 (bq + x.e.k % 8 / 6), aq + 1, [], 0⟩, none, 0⟩ : EntV))) rfl ?_
      refine WC2.keep (env' := [(2, v), (3, .int .i64 (m : Int)), (8, .slice none 0 0), (10, .int .i64 (j : Int)), (12, .int .i64 (j : Int)), (13, v), (14, .int .i64 (l.length : Int)), (15, .bool true), (16, .bool true), (17, .int .i64 (j : Int)), (18, .int .i64 (m : Int)), (19, .bool true), (20, .bool true), (23, .int .u64 aq), (24, .int .u64 (aq + 1)), (0, .int .u64 (aq + 1)), (25, .int .u64 bq), (26, v), (27, .int .i64 (j : Int)), (28, elp v (j * 5)), (29, elp v (j * 5 + 0)), (30, .int .i64 x.e.k), (31, .int .i64 (x.e.k % 8)), (32, .int .i64 (x.e.k % 8 / 6)), (33, .int .u64 (x.e.k % 8 / 6)), (34, .int .u64 (bq + x.e.k % 8 / 6)), (1, .int .u64 (bq + x.e.k % 8 / 6)), (35, v), (36, .int .i64 (j : Int)), (37, elp v (j * 5)), (38, elp v (j * 5 + 4)), (39, .int .i64 x.e.c), (40, .int .i64 0), (41, .int .u64 (bq + x.e.k % 8 / 6)), (42, .int .u64 (max 1 (bq + x.e.k % 8 / 6))), (43, .int .u64 (aq + 1)), (44, .agg #[.int .i64 0, .int .u64 (max 1 (bq + x.e.k % 8 / 6)), .int .u64 (aq + 1), .slice none 0 0, .int .i64 0]), (11, .pointer (some ⟨g11, 0, none⟩)), (45, .pointer (some ⟨g11, 0, none⟩)), (46, .int .i64 0), (48, .bool false), (47, .bool false), (66, .bool false), (65, .bool false), (78, o.v), (79, .agg #[.int .i64 0, .int .u64 (max 1 (bq + x.e.k % 8 / 6)), .int .u64 (aq + 1), .slice none 0 0, .int .i64 0]), (80, b80), (81, ev2), (9, ev2)]) ⟨rfl, rfl, rfl, rfl, rfl, rfl, rfl, rfl, rfl, rfl, rfl, rfl, rfl, rfl, rfl, rfl, rfl, rfl, rfl, rfl, rfl, rfl, rfl, rfl, rfl, rfl, rfl, rfl, rfl, rfl, rfl, rfl, rfl, rfl, rfl, rfl, rfl, rfl, rfl, rfl, rfl, rfl, rfl, rfl, rfl, rfl, rfl, rfl, rfl, trivial⟩ ?_
      refine WC2.mid [Ents 32 ev2 (o.l ++ [(⟨⟨0, max 1 (bq + x.e.k % 8 / 6), aq + 1, [], 0⟩, none, 0⟩ : EntV)])] (.refl _) ?_
      refine d_reg1 ?_
      refine h_q hflS rfl ?_
      refine h_val rfl (.int .i64 ((j + 1 : Nat) : Int)) (fun b w hb hH => exec_ar rfl rfl rfl rfl (by rw [IntWalk.i64_in _ (by omega)]; omega) hb) ?_
      refine h_q hflS rfl ?_
      refine h_nil ?_
      exact f_again (j + 1, aq + 1, bq + x.e.k % 8 / 6, (⟨ev2, o.l ++ [(⟨⟨0, max 1 (bq + x.e.k % 8 / 6), aq + 1, [], 0⟩, none, 0⟩ : EntV)]⟩ : EsV)) 0 (hnext (ev2 := ev2) (y := (⟨⟨0, max 1 (bq + x.e.k % 8 / 6), aq + 1, [], 0⟩, none, 0⟩ : EntV)) (by simp [handE, hkd])) (show l.length - (j + 1) < l.length - j by omega) ⟨rfl, rfl, rfl, rfl, rfl, rfl, rfl, trivial⟩ rfl
    · skip
      refine d_reg ?_
      refine h_q hflS rfl ?_
      refine h_val rfl (.int .i64 1) (fun b w hb hH => exec_load rfl rfl (reads_one ty_int rfl) (hH.row 0 rfl) hb) ?_
      refine h_done (d_block (d_reg ?_))
      refine h_q hflS rfl ?_
      refine h_val rfl (.bool true) (fun b w hb hH => exec_cmp rfl rfl rfl (cmp_eql_t (by decide)) hb) ?_
      refine h_q hflS rfl ?_
      refine h_done (d_then rfl ?_)
      refine d_emps 1 rfl ?_
      refine d_parS 16 2 [⟨.act 0, [some false, some false], fun _ => undef, []⟩, ⟨.quiet, [none, none], fun _ => v, []⟩, ⟨.quiet, [none, none], fun _ => .int .i64 (j : Int), []⟩, ⟨.quiet, [none, none], fun _ => elp v (j * 5), [1, 2]⟩, ⟨.quiet, [none, none], fun _ => elp v (j * 5 + 3), [3]⟩, ⟨.quiet, [none, none], fun _ => x.v, [4]⟩, ⟨.quiet, [none, none], fun _ => v, []⟩, ⟨.quiet, [none, none], fun _ => .int .i64 (j : Int), []⟩, ⟨.quiet, [none, none], fun _ => elp v (j * 5), [6, 7]⟩, ⟨.quiet, [none, none], fun _ => elp v (j * 5 + 3), [8]⟩, ⟨.quiet, [none, none], fun _ => x.v, [9]⟩, ⟨.quiet, [none, none], fun _ => .int .i64 (x.e.d.length : Int), [10]⟩, ⟨.quiet, [none, none], fun _ => .int .i64 ((x.e.d.take 30).length : Int), [11]⟩, ⟨.quiet, [none, none], fun _ => .slice x.A (x.e.d.take 30).length x.c, [5, 12]⟩, ⟨.act 1, [some true, some false], fun _ => undef, [0, 13]⟩, ⟨.quiet, [some true, some true], fun _ => .pointer (some ⟨g11, 3, none⟩), []⟩] [(2, v), (3, .int .i64 (m : Int)), (8, .slice none 0 0), (9, o.v), (10, .int .i64 (j : Int)), (12, .int .i64 (j : Int)), (13, v), (14, .int .i64 (l.length : Int)), (15, .bool true), (16, .bool true), (17, .int .i64 (j : Int)), (18, .int .i64 (m : Int)), (19, .bool true), (20, .bool true), (23, .int .u64 aq), (24, .int .u64 (aq + 1)), (0, .int .u64 (aq + 1)), (25, .int .u64 bq), (26, v), (27, .int .i64 (j : Int)), (28, elp v (j * 5)), (29, elp v (j * 5 + 0)), (30, .int .i64 x.e.k), (31, .int .i64 (x.e.k % 8)), (32, .int .i64 (x.e.k % 8 / 6)), (33, .int .u64 (x.e.k % 8 / 6)), (34, .int .u64 (bq + x.e.k % 8 / 6)), (1, .int .u64 (bq + x.e.k % 8 / 6)), (35, v), (36, .int .i64 (j : Int)), (37, elp v (j * 5)), (38, elp v (j * 5 + 4)), (39, .int .i64 x.e.c), (40, .int .i64 1), (41, .int .u64 (bq + x.e.k % 8 / 6)), (42, .int .u64 (max 1 (bq + x.e.k % 8 / 6))), (43, .int .u64 (aq + 1)), (44, .agg #[.int .i64 1, .int .u64 (max 1 (bq + x.e.k % 8 / 6)), .int .u64 (aq + 1), .slice none 0 0, .int .i64 0]), (11, .pointer (some ⟨g11, 0, none⟩)), (45, .pointer (some ⟨g11, 0, none⟩)), (46, .int .i64 1), (48, .bool true), (47, .bool true)] (fun ρ => match ρ with | [rq0, rq1] => [selS rq1 (fun d1 => Vec 5 1 encB d1 (1 :: x.e.d.take 30)) (selS rq0 (fun d0 => Vec 5 1 encB d0 ([(1 : UInt8)])) (emp)), cell g11 32 #[.int .i64 1, .int .u64 (max 1 (bq + x.e.k % 8 / 6)), .int .u64 (aq + 1), .slice none 0 0, .int .i64 0], Ents 32 o.v o.l] | _ => []) (by kernel_rfl) (by kernel_rfl) ⟨rfl, rfl, rfl, rfl, rfl, rfl, rfl, rfl, rfl, rfl, rfl, rfl, rfl, rfl, rfl, rfl, rfl, rfl, rfl, rfl, rfl, rfl, rfl, rfl, rfl, rfl, rfl, rfl, rfl, rfl, rfl, rfl, rfl, rfl, rfl, rfl, rfl, rfl, rfl, rfl, rfl, rfl, rfl, trivial⟩ rfl ?_ ?_
      · skip
        refine s_cons (by exact ⟨rfl, Acts.s (Acts.place (val := fun d0 : Value => d0) (t := fun d0 => Vec 5 1 encB d0 ([(1 : UInt8)])) (os' := fun d0 => [Vec 5 1 encB d0 ([(1 : UInt8)]), cell g11 32 #[.int .i64 1, .int .u64 (max 1 (bq + x.e.k % 8 / 6)), .int .u64 (aq + 1), .slice none 0 0, .int .i64 0], Ents 32 o.v o.l]) 0 rfl (by refine a_build1 (e := 5) (t := 30) (enc := encB) (x := .const (Value.int IntKind.u8 1)) (c := .int .u8 (((1 : UInt8)).toNat : Int)) ?_ ?_ (1 : UInt8) ?_ ?_ ?_; exact sl_uint8; exact okB; exact rfl; exact rfl; exact rfl) (fun _ => rfl)) (fun _ => rfl)⟩) ?_
        refine s_cons (by intro r0_ r1_; exact ⟨rfl, fun b w hH hb => exec_q1 hflS rfl hb⟩) ?_
        refine s_cons (by intro r0_ r1_; exact ⟨rfl, fun b w hH hb => exec_q1 hflS rfl hb⟩) ?_
        refine s_cons (by intro r0_ r1_; exact ⟨rfl, fun b w hH hb => e_sidx okV ((argEs hv hU hS hH).1) sl_api_Entry (j := j) hx0 rfl rfl rfl hb⟩) ?_
        refine s_cons (by intro r0_ r1_; exact ⟨rfl, fun b w hH hb => e_sfield okV (by decide) ((argEs hv hU hS hH).1) (j := j) hx0 fd_api_Entry_3 rfl rfl hb⟩) ?_
        refine s_cons (by intro r0_ r1_; exact ⟨rfl, fun b w hH hb => e_sload okV (by decide) ((argEs hv hU hS hH).1) (j := j) hx0 ty_s_uint8 (off := 3) rfl rfl rfl hb⟩) ?_
        refine s_cons (by intro r0_ r1_; exact ⟨rfl, fun b w hH hb => exec_q1 hflS rfl hb⟩) ?_
        refine s_cons (by intro r0_ r1_; exact ⟨rfl, fun b w hH hb => exec_q1 hflS rfl hb⟩) ?_
        refine s_cons (by intro r0_ r1_; exact ⟨rfl, fun b w hH hb => e_sidx okV ((argEs hv hU hS hH).1) sl_api_Entry (j := j) hx0 rfl rfl rfl hb⟩) ?_
        refine s_cons (by intro r0_ r1_; exact ⟨rfl, fun b w hH hb => e_sfield okV (by decide) ((argEs hv hU hS hH).1) (j := j) hx0 fd_api_Entry_3 rfl rfl hb⟩) ?_
        refine s_cons (by intro r0_ r1_; exact ⟨rfl, fun b w hH hb => e_sload okV (by decide) ((argEs hv hU hS hH).1) (j := j) hx0 ty_s_uint8 (off := 3) rfl rfl rfl hb⟩) ?_
        refine s_cons (by intro r0_ r1_; exact ⟨rfl, fun b w hH hb => e_slen ((arg8 hx hU hS hH).rd) Try.underlying30 rfl rfl hb⟩) ?_
        refine s_cons (by intro r0_ r1_; exact ⟨rfl, fun b w hH hb => exec_builtin2 rfl rfl (fun cs => (fun w cs => run_min2 (by rw [take_min]; split <;> omega) _ _ w cs) w cs) hb⟩) ?_
        refine s_cons (by intro r0_ r1_; exact ⟨rfl, fun b w hH hb => e_sub_hi (A := x.A) (sn := x.e.d.length) (c := x.c) (j := (x.e.d.take 30).length) sl_uint8 sub_take (by have := sl8_cap hx; rw [List.length_take]; omega) rfl rfl rfl hH hb⟩) ?_
        refine s_cons (by intro d0; exact ⟨rfl, Acts.s (a_append8 0 sl_uint8 (by kernel_rfl) rfl (x.e.d.take 30) (fun w hH => (Sl8.takesA 30 (arg8 hx hU hS hH)).rd) (by simp only [List.length_cons, List.length_nil, List.length_take]; omega) rfl rfl rfl rfl) (fun _ => rfl)⟩) ?_
        refine s_cons (by intro d0 d1; exact ⟨rfl, fun b w hH hb => exec_q1 hflS rfl hb⟩) ?_
        exact s_nil
      intro d0 d1
      refine WL2.keep (env' := [(2, v), (3, .int .i64 (m : Int)), (8, .slice none 0 0), (9, o.v), (10, .int .i64 (j : Int)), (12, .int .i64 (j : Int)), (13, v), (14, .int .i64 (l.length : Int)), (15, .bool true), (16, .bool true), (17, .int .i64 (j : Int)), (18, .int .i64 (m : Int)), (19, .bool true), (20, .bool true), (23, .int .u64 aq), (24, .int .u64 (aq + 1)), (0, .int .u64 (aq + 1)), (25, .int .u64 bq), (26, v), (27, .int .i64 (j : Int)), (28, elp v (j * 5)), (29, elp v (j * 5 + 0)), (30, .int .i64 x.e.k), (31, .int .i64 (x.e.k % 8)), (32, .int .i64 (x.e.k % 8 / 6)), (33, .int .u64 (x.e.k % 8 / 6)), (34, .int .u64 (bq + x.e.k % 8 / 6)), (1, .int .u64 (bq + x.e.k % 8 / 6)), (35, v), (36, .int .i64 (j : Int)), (37, elp v (j * 5)), (38, elp v (j * 5 + 4)), (39, .int .i64 x.e.c), (40, .int .i64 1), (41, .int .u64 (bq + x.e.k % 8 / 6)), (42, .int .u64 (max 1 (bq + x.e.k % 8 / 6))), (43, .int .u64 (aq + 1)), (44, .agg #[.int .i64 1, .int .u64 (max 1 (bq + x.e.k % 8 / 6)), .int .u64 (aq + 1), .slice none 0 0, .int .i64 0]), (11, .pointer (some ⟨g11, 0, none⟩)), (45, .pointer (some ⟨g11, 0, none⟩)), (46, .int .i64 1), (48, .bool true), (47, .bool true), (49, d0), (50, v), (51, .int .i64 (j : Int)), (52, elp v (j * 5)), (53, elp v (j * 5 + 3)), (54, x.v), (55, v), (56, .int .i64 (j : Int)), (57, elp v (j * 5)), (58, elp v (j * 5 + 3)), (59, x.v), (60, .int .i64 (x.e.d.length : Int)), (61, .int .i64 ((x.e.d.take 30).length : Int)), (62, .slice x.A (x.e.d.take 30).length x.c), (63, d1), (64, .pointer (some ⟨g11, 3, none⟩))]) ⟨rfl, rfl, rfl, rfl, rfl, rfl, rfl, rfl, rfl, rfl, rfl, rfl, rfl, rfl, rfl, rfl, rfl, rfl, rfl, rfl, rfl, rfl, rfl, rfl, rfl, rfl, rfl, rfl, rfl, rfl, rfl, rfl, rfl, rfl, rfl, rfl, rfl, rfl, rfl, rfl, rfl, rfl, rfl, rfl, rfl, rfl, rfl, rfl, rfl, rfl, rfl, rfl, rfl, rfl, rfl, rfl, rfl, rfl, rfl, trivial⟩ ?_
      refine h_q hflS rfl ?_
      refine h_acts (post := fun _ => [Vec 5 1 encB d1 (1 :: x.e.d.take 30), cell g11 32 #[.int .i64 1, .int .u64 (max 1 (bq + x.e.k % 8 / 6)), .int .u64 (aq + 1), d1, .int .i64 0], Ents 32 o.v o.l]) rfl rfl (a_storev 1 0 (v := d1) #[.int .i64 1, .int .u64 (max 1 (bq + x.e.k % 8 / 6)), .int .u64 (aq + 1), d1, .int .i64 0] ty_s_uint8.2 rfl (fun _ h => Vec.c1 h) rfl rfl rfl rfl rfl rfl rfl) ?_; rintro ⟨⟩
      refine h_nil (f_block (f_to ?_))
      refine WC2.fact 0 rfl (fun _ h => Vec.is h) ?_; rintro ⟨A3, c3, rfl⟩
      refine WC2.keep (env' := [(2, v), (3, .int .i64 (m : Int)), (8, .slice none 0 0), (9, o.v), (10, .int .i64 (j : Int)), (12, .int .i64 (j : Int)), (13, v), (14, .int .i64 (l.length : Int)), (15, .bool true), (16, .bool true), (17, .int .i64 (j : Int)), (18, .int .i64 (m : Int)), (19, .bool true), (20, .bool true), (23, .int .u64 aq), (24, .int .u64 (aq + 1)), (0, .int .u64 (aq + 1)), (25, .int .u64 bq), (26, v), (27, .int .i64 (j : Int)), (28, elp v (j * 5)), (29, elp v (j * 5 + 0)), (30, .int .i64 x.e.k), (31, .int .i64 (x.e.k % 8)), (32, .int .i64 (x.e.k % 8 / 6)), (33, .int .u64 (x.e.k % 8 / 6)), (34, .int .u64 (bq + x.e.k % 8 / 6)), (1, .int .u64 (bq + x.e.k % 8 / 6)), (35, v), (36, .int .i64 (j : Int)), (37, elp v (j * 5)), (38, elp v (j * 5 + 4)), (39, .int .i64 x.e.c), (40, .int .i64 1), (41, .int .u64 (bq + x.e.k % 8 / 6)), (42, .int .u64 (max 1 (bq + x.e.k % 8 / 6))), (43, .int .u64 (aq + 1)), (44, .agg #[.int .i64 1, .int .u64 (max 1 (bq + x.e.k % 8 / 6)), .int .u64 (aq + 1), .slice none 0 0, .int .i64 0]), (11, .pointer (some ⟨g11, 0, none⟩)), (45, .pointer (some ⟨g11, 0, none⟩)), (46, .int .i64 1), (48, .bool true), (47, .bool true), (49, d0), (50, v), (51, .int .i64 (j : Int)), (52, elp v (j * 5)), (53, elp v (j * 5 + 3)), (54, x.v), (55, v), (56, .int .i64 (j : Int)), (57, elp v (j * 5)), (58, elp v (j * 5 + 3)), (59, x.v), (60, .int .i64 (x.e.d.length : Int)), (61, .int .i64 ((x.e.d.take 30).length : Int)), (62, .slice x.A (x.e.d.take 30).length x.c), (63, .slice A3 (1 :: x.e.d.take 30).length c3), (64, .pointer (some ⟨g11, 3, none⟩))]) ⟨rfl, rfl, rfl, rfl, rfl, rfl, rfl, rfl, rfl, rfl, rfl, rfl, rfl, rfl, rfl, rfl, rfl, rfl, rfl, rfl, rfl, rfl, rfl, rfl, rfl, rfl, rfl, rfl, rfl, rfl, rfl, rfl, rfl, rfl, rfl, rfl, rfl, rfl, rfl, rfl, rfl, rfl, rfl, rfl, rfl, rfl, rfl, rfl, rfl, rfl, rfl, rfl, rfl, rfl, rfl, rfl, rfl, rfl, rfl, trivial⟩ ?_
      refine WC2.mid [Vec 5 1 encB (.slice A3 (1 :: x.e.d.take 30).length c3) (1 :: x.e.d.take 30), cell g11 32 #[.int .i64 1, .int .u64 (max 1 (bq + x.e.k % 8 / 6)), .int .u64 (aq + 1), .slice A3 (1 :: x.e.d.take 30).length c3, .int .i64 0], Ents 32 o.v o.l] (.refl _) ?_
      refine d_open 2 rfl ents_open (fun _ => rfl) ?_; rintro ⟨⟩
      refine d_reg1 ?_
      refine h_q hflS rfl ?_
      refine h_val rfl (.agg #[.int .i64 1, .int .u64 (max 1 (bq + x.e.k % 8 / 6)), .int .u64 (aq + 1), .slice A3 (1 :: x.e.d.take 30).length c3, .int .i64 0]) (fun b w hb hH => exec_load rfl rfl (reads_agg (cs := [.int .i64 1, .int .u64 (max 1 (bq + x.e.k % 8 / 6)), .int .u64 (aq + 1), .slice A3 (1 :: x.e.d.take 30).length c3, .int .i64 0]) ty_api_Entry rfl) (hH.row 3 rfl) hb) ?_
      refine h_act (X := Value) (val := fun v : Value => v) (post := fun b80 => [Vec 32 5 encV b80 ([(⟨⟨1, max 1 (bq + x.e.k % 8 / 6), aq + 1, 1 :: x.e.d.take 30, 0⟩, A3, c3⟩ : EntV)]), Vec 32 5 encV o.v o.l, Each (fun x : EntV => Vec 5 1 encB x.v x.e.d) o.l, Vec 5 1 encB (.slice A3 (1 :: x.e.d.take 30).length c3) (1 :: x.e.d.take 30), cell g11 32 #[.int .i64 1, .int .u64 (max 1 (bq + x.e.k % 8 / 6)), .int .u64 (aq + 1), .slice A3 (1 :: x.e.d.take 30).length c3, .int .i64 0]]) rfl (by refine a_buildK (e := 32) (t := 34) (k := 5) (enc := encV) (x := .tmp 79) (c := .agg #[.int .i64 1, .int .u64 (max 1 (bq + x.e.k % 8 / 6)), .int .u64 (aq + 1), .slice A3 (1 :: x.e.d.take 30).length c3, .int .i64 0]) ?_ ?_ ?_ (⟨⟨1, max 1 (bq + x.e.k % 8 / 6), aq + 1, 1 :: x.e.d.take 30, 0⟩, A3, c3⟩ : EntV) ?_ ?_ ?_; exact sl_api_Entry; exact (by decide); exact okV; exact rfl; exact rfl; exact rfl) ?_; rintro b80
      refine h_act (post := fun ev2 => [Vec 32 5 encV b80 ([(⟨⟨1, max 1 (bq + x.e.k % 8 / 6), aq + 1, 1 :: x.e.d.take 30, 0⟩, A3, c3⟩ : EntV)]), Vec 32 5 encV ev2 (o.l ++ [(⟨⟨1, max 1 (bq + x.e.k % 8 / 6), aq + 1, 1 :: x.e.d.take 30, 0⟩, A3, c3⟩ : EntV)]), Each (fun x : EntV => Vec 5 1 encB x.v x.e.d) o.l, Vec 5 1 encB (.slice A3 (1 :: x.e.d.take 30).length c3) (1 :: x.e.d.take 30), cell g11 32 #[.int .i64 1, .int .u64 (max 1 (bq + x.e.k % 8 / 6)), .int .u64 (aq + 1), .slice A3 (1 :: x.e.d.take 30).length c3, .int .i64 0]]) rfl (a_appendK (nb := 56) 1 sl_api_Entry okV (by kernel_rfl) (by decide) rfl ([(⟨⟨1, max 1 (bq + x.e.k % 8 / 6), aq + 1, 1 :: x.e.d.take 30, 0⟩, A3, c3⟩ : EntV)]) (fun w hH => hH.vec 0 rfl okV) (by simp only [List.length_cons, List.length_nil]; omega) rfl rfl rfl rfl) ?_; rintro ev2
      refine h_q hflS rfl ?_
      refine h_nil (f_block (f_to ?_))
      refine WC2.leave [0, 4] rfl rfl ?_
      refine d_close [0, 1, 2] rfl (ents_push (l := o.l) (x := (⟨⟨1, max 1 (bq + x.e.k % 8 / 6), aq + 1, 1 :: x.e.d.take 30, 0⟩, A3, c3⟩ : EntV))) rfl ?_
      refine WC2.keep (env' := [(2, v), (3, .int .i64 (m : Int)), (8, .slice none 0 0), (10, .int .i64 (j : Int)), (12, .int .i64 (j : Int)), (13, v), (14, .int .i64 (l.length : Int)), (15, .bool true), (16, .bool true), (17, .int .i64 (j : Int)), (18, .int .i64 (m : Int)), (19, .bool true), (20, .bool true), (23, .int .u64 aq), (24, .int .u64 (aq + 1)), (0, .int .u64 (aq + 1)), (25, .int .u64 bq), (26, v), (27, .int .i64 (j : Int)), (28, elp v (j * 5)), (29, elp v (j * 5 + 0)), (30, .int .i64 x.e.k), (31, .int .i64 (x.e.k % 8)), (32, .int .i64 (x.e.k % 8 / 6)), (33, .int .u64 (x.e.k % 8 / 6)), (34, .int .u64 (bq + x.e.k % 8 / 6)), (1, .int .u64 (bq + x.e.k % 8 / 6)), (35, v), (36, .int .i64 (j : Int)), (37, elp v (j * 5)), (38, elp v (j * 5 + 4)), (39, .int .i64 x.e.c), (40, .int .i64 1), (41, .int .u64 (bq + x.e.k % 8 / 6)), (42, .int .u64 (max 1 (bq + x.e.k % 8 / 6))), (43, .int .u64 (aq + 1)), (44, .agg #[.int .i64 1, .int .u64 (max 1 (bq + x.e.k % 8 / 6)), .int .u64 (aq + 1), .slice none 0 0, .int .i64 0]), (11, .pointer (some ⟨g11, 0, none⟩)), (45, .pointer (some ⟨g11, 0, none⟩)), (46, .int .i64 1), (48, .bool true), (47, .bool true), (49, d0), (50, v), (51, .int .i64 (j : Int)), (52, elp v (j * 5)), (53, elp v (j * 5 + 3)), (54, x.v), (55, v), (56, .int .i64 (j : Int)), (57, elp v (j * 5)), (58, elp v (j * 5 + 3)), (59, x.v), (60, .int .i64 (x.e.d.length : Int)), (61, .int .i64 ((x.e.d.take 30).length : Int)), (62, .slice x.A (x.e.d.take 30).length x.c), (63, .slice A3 (1 :: x.e.d.take 30).length c3), (64, .pointer (some ⟨g11, 3, none⟩)), (78, o.v), (79, .agg #[.int .i64 1, .int .u64 (max 1 (bq + x.e.k % 8 / 6)), .int .u64 (aq + 1), .slice A3 (1 :: x.e.d.take 30).length c3, .int .i64 0]), (80, b80), (81, ev2), (9, ev2)]) ⟨rfl, rfl, rfl, rfl, rfl, rfl, rfl, rfl, rfl, rfl, rfl, rfl, rfl, rfl, rfl, rfl, rfl, rfl, rfl, rfl, rfl, rfl, rfl, rfl, rfl, rfl, rfl, rfl, rfl, rfl, rfl, rfl, rfl, rfl, rfl, rfl, rfl, rfl, rfl, rfl, rfl, rfl, rfl, rfl, rfl, rfl, rfl, rfl, rfl, rfl, rfl, rfl, rfl, rfl, rfl, rfl, rfl, rfl, rfl, rfl, rfl, rfl, rfl, trivial⟩ ?_
      refine WC2.mid [Ents 32 ev2 (o.l ++ [(⟨⟨1, max 1 (bq + x.e.k % 8 / 6), aq + 1, 1 :: x.e.d.take 30, 0⟩, A3, c3⟩ : EntV)])] (.refl _) ?_
      refine d_reg1 ?_
      refine h_q hflS rfl ?_
      refine h_val rfl (.int .i64 ((j + 1 : Nat) : Int)) (fun b w hb hH => exec_ar rfl rfl rfl rfl (by rw [IntWalk.i64_in _ (by omega)]; omega) hb) ?_
      refine h_q hflS rfl ?_
      refine h_nil ?_
      exact f_again (j + 1, aq + 1, bq + x.e.k % 8 / 6, (⟨ev2, o.l ++ [(⟨⟨1, max 1 (bq + x.e.k % 8 / 6), aq + 1, 1 :: x.e.d.take 30, 0⟩, A3, c3⟩ : EntV)]⟩ : EsV)) 0 (hnext (ev2 := ev2) (y := (⟨⟨1, max 1 (bq + x.e.k % 8 / 6), aq + 1, 1 :: x.e.d.take 30, 0⟩, A3, c3⟩ : EntV)) (by simp [handE, hkd])) (show l.length - (j + 1) < l.length - j by omega) ⟨rfl, rfl, rfl, rfl, rfl, rfl, rfl, trivial⟩ rfl
    · skip
      refine d_reg ?_
      refine h_q hflS rfl ?_
      refine h_val rfl (.int .i64 2) (fun b w hb hH => exec_load rfl rfl (reads_one ty_int rfl) (hH.row 0 rfl) hb) ?_
      refine h_done (d_block (d_reg ?_))
      refine h_q hflS rfl ?_
      refine h_val rfl (.bool false) (fun b w hb hH => exec_cmp rfl rfl rfl (cmp_eql_f (by decide)) hb) ?_
      refine h_q hflS rfl ?_
      refine h_done (d_else rfl (d_reg ?_))
      refine h_q hflS rfl ?_
      refine h_val rfl (.bool true) (fun b w hb hH => exec_cmp rfl rfl rfl (cmp_eql_t (by decide)) hb) ?_
      refine h_q hflS rfl ?_
      refine h_done (d_then rfl (d_reg1 ?_))
      refine h_q hflS rfl ?_
      refine h_val rfl (elp v (j * 5)) (fun b w hb hH => e_sidx okV ((argEs hv hU hS hH).1) sl_api_Entry (j := j) hx0 rfl rfl rfl hb) ?_
      refine h_val rfl (elp v (j * 5 + 1)) (fun b w hb hH => e_sfield okV (by decide) ((argEs hv hU hS hH).1) (j := j) hx0 fd_api_Entry_1 rfl rfl hb) ?_
      refine h_val rfl (.int .u64 x.e.t) (fun b w hb hH => e_sload okV (by decide) ((argEs hv hU hS hH).1) (j := j) hx0 ty_uint64 (off := 1) rfl rfl rfl hb) ?_
      refine h_val rfl (.int .u64 (x.e.t % 200)) (fun b w hb hH => exec_remI rfl rfl rfl (by decide) (Int.tmod_eq_emod_of_nonneg ho.t.1) hb) ?_
      refine h_val rfl (.int .i64 (x.e.t % 200)) (fun b w hb hH => exec_conv Try.underlying26 Try.underlying3 (IntWalk.i64_in _ (by omega)) rfl rfl hb) ?_
      refine h_act (post := fun _ => [cell g11 32 #[.int .i64 2, .int .u64 (max 1 (bq + x.e.k % 8 / 6)), .int .u64 (aq + 1), .slice none 0 0, .int .i64 0], Ents 32 o.v o.l]) rfl (a_call (ent_of Try.func19 (by kernel_rfl) rfl) (fun w hH => pick w (x.e.t % 200) 31 ⟨by omega, by omega⟩ (by decide) rfl) rfl rfl rfl) ?_; rintro ⟨⟩
      refine h_val rfl (.int .i64 (1 + x.e.t % 200 % 31)) (fun b w hb hH => exec_ar rfl rfl rfl rfl (IntWalk.i64_in _ (by omega)) hb) ?_
      refine h_val rfl (.int .i64 (2 * (1 + x.e.t % 200 % 31))) (fun b w hb hH => exec_ar rfl rfl rfl rfl (IntWalk.i64_in _ (by omega)) hb) ?_
      refine h_q hflS rfl ?_
      refine h_acts (post := fun _ => [cell g11 32 #[.int .i64 2, .int .u64 (max 1 (bq + x.e.k % 8 / 6)), .int .u64 (aq + 1), .slice none 0 0, .int .i64 (2 * (1 + x.e.t % 200 % 31))], Ents 32 o.v o.l]) rfl rfl (a_store 0 (v := .int .i64 (2 * (1 + x.e.t % 200 % 31))) #[.int .i64 2, .int .u64 (max 1 (bq + x.e.k % 8 / 6)), .int .u64 (aq + 1), .slice none 0 0, .int .i64 (2 * (1 + x.e.t % 200 % 31))] ty_int.2 rfl rfl rfl rfl rfl rfl rfl rfl rfl) ?_; rintro ⟨⟩
      refine h_nil (f_block (f_to ?_))
      refine d_nilvec 5 1 encB ?_
      refine d_open 2 rfl ents_open (fun _ => rfl) ?_; rintro ⟨⟩
      refine d_reg1 ?_
      refine h_q hflS rfl ?_
      refine h_val rfl (.agg #[.int .i64 2, .int .u64 (max 1 (bq + x.e.k % 8 / 6)), .int .u64 (aq + 1), .slice none 0 0, .int .i64 (2 * (1 + x.e.t % 200 % 31))]) (fun b w hb hH => exec_load rfl rfl (reads_agg (cs := [.int .i64 2, .int .u64 (max 1 (bq + x.e.k % 8 / 6)), .int .u64 (aq + 1), .slice none 0 0, .int .i64 (2 * (1 + x.e.t % 200 % 31))]) ty_api_Entry rfl) (hH.row 3 rfl) hb) ?_
      refine h_act (X := Value) (val := fun v : Value => v) (post := fun b80 => [Vec 32 5 encV b80 ([(⟨⟨2, max 1 (bq + x.e.k % 8 / 6), aq + 1, [], 2 * (1 + x.e.t % 200 % 31)⟩, none, 0⟩ : EntV)]), Vec 32 5 encV o.v o.l, Each (fun x : EntV => Vec 5 1 encB x.v x.e.d) o.l, Vec 5 1 encB (.slice none 0 0) ([]), cell g11 32 #[.int .i64 2, .int .u64 (max 1 (bq + x.e.k % 8 / 6)), .int .u64 (aq + 1), .slice none 0 0, .int .i64 (2 * (1 + x.e.t % 200 % 31))]]) rfl (by refine a_buildK (e := 32) (t := 34) (k := 5) (enc := encV) (x := .tmp 79) (c := .agg #[.int .i64 2, .int .u64 (max 1 (bq + x.e.k % 8 / 6)), .int .u64 (aq + 1), .slice none 0 0, .int .i64 (2 * (1 + x.e.t % 200 % 31))]) ?_ ?_ ?_ (⟨⟨2, max 1 (bq + x.e.k % 8 / 6), aq + 1, [], 2 * (1 + x.e.t % 200 % 31)⟩, none, 0⟩ : EntV) ?_ ?_ ?_; exact sl_api_Entry; exact (by decide); exact okV; exact rfl; exact rfl; exact rfl) ?_; rintro b80
      refine h_act (post := fun ev2 => [Vec 32 5 encV b80 ([(⟨⟨2, max 1 (bq + x.e.k % 8 / 6), aq + 1, [], 2 * (1 + x.e.t % 200 % 31)⟩, none, 0⟩ : EntV)]), Vec 32 5 encV ev2 (o.l ++ [(⟨⟨2, max 1 (bq + x.e.k % 8 / 6), aq + 1, [], 2 * (1 + x.e.t % 200 % 31)⟩, none, 0⟩ : EntV)]), Each (fun x : EntV => Vec 5 1 encB x.v x.e.d) o.l, Vec 5 1 encB (.slice none 0 0) ([]), cell g11 32 #[.int .i64 2, .int .u64 (max 1 (bq + x.e.k % 8 / 6)), .int .u64 (aq + 1), .slice none 0 0, .int .i64 (2 * (1 + x.e.t % 200 % 31))]]) rfl (a_appendK (nb := 56) 1 sl_api_Entry okV (by kernel_rfl) (by decide) rfl ([(⟨⟨2, max 1 (bq + x.e.k % 8 / 6), aq + 1, [], 2 * (1 + x.e.t % 200 % 31)⟩, none, 0⟩ : EntV)]) (fun w hH => hH.vec 0 rfl okV) (by simp only [List.length_cons, List.length_nil]; omega) rfl rfl rfl rfl) ?_; rintro ev2
      refine h_q hflS rfl ?_
      refine h_nil (f_block (f_to ?_))
      refine WC2.leave [0, 4] rfl rfl ?_
      refine d_close [0, 1, 2] rfl (ents_push (l := o.l) (x := (⟨⟨2, max 1 (bq + x.e.k % 8 / 6), aq + 1, [], 2 * (1 + x.e.t % 200 % 31)⟩, none, 0⟩ : EntV))) rfl ?_
      refine WC2.keep (env' := [(2, v), (3, .int .i64 (m : Int)), (8, .slice none 0 0), (10, .int .i64 (j : Int)), (12, .int .i64 (j : Int)), (13, v), (14, .int .i64 (l.length : Int)), (15, .bool true), (16, .bool true), (17, .int .i64 (j : Int)), (18, .int .i64 (m : Int)), (19, .bool true), (20, .bool true), (23, .int .u64 aq), (24, .int .u64 (aq + 1)), (0, .int .u64 (aq + 1)), (25, .int .u64 bq), (26, v), (27, .int .i64 (j : Int)), (28, elp v (j * 5)), (29, elp v (j * 5 + 0)), (30, .int .i64 x.e.k), (31, .int .i64 (x.e.k % 8)), (32, .int .i64 (x.e.k % 8 / 6)), (33, .int .u64 (x.e.k % 8 / 6)), (34, .int .u64 (bq + x.e.k % 8 / 6)), (1, .int .u64 (bq + x.e.k % 8 / 6)), (35, v), (36, .int .i64 (j : Int)), (37, elp v (j * 5)), (38, elp v (j * 5 + 4)), (39, .int .i64 x.e.c), (40, .int .i64 2), (41, .int .u64 (bq + x.e.k % 8 / 6)), (42, .int .u64 (max 1 (bq + x.e.k % 8 / 6))), (43, .int .u64 (aq + 1)), (44, .agg #[.int .i64 2, .int .u64 (max 1 (bq + x.e.k % 8 / 6)), .int .u64 (aq + 1), .slice none 0 0, .int .i64 0]), (11, .pointer (some ⟨g11, 0, none⟩)), (45, .pointer (some ⟨g11, 0, none⟩)), (46, .int .i64 2), (48, .bool false), (47, .bool false), (66, .bool true), (65, .bool true), (67, v), (68, .int .i64 (j : Int)), (69, elp v (j * 5)), (70, elp v (j * 5 + 1)), (71, .int .u64 x.e.t), (72, .int .u64 (x.e.t % 200)), (73, .int .i64 (x.e.t % 200)), (74, .int .i64 (x.e.t % 200 % 31)), (75, .int .i64 (1 + x.e.t % 200 % 31)), (76, .int .i64 (2 * (1 + x.e.t % 200 % 31))), (77, .pointer (some ⟨g11, 4, none⟩)), (78, o.v), (79, .agg #[.int .i64 2, .int .u64 (max 1 (bq + x.e.k % 8 / 6)), .int .u64 (aq + 1), .slice none 0 0, .int .i64 (2 * (1 + x.e.t % 200 % 31))]), (80, b80), (81, ev2), (9, ev2)]) ⟨rfl, rfl, rfl, rfl, rfl, rfl, rfl, rfl, rfl, rfl, rfl, rfl, rfl, rfl, rfl, rfl, rfl, rfl, rfl, rfl, rfl, rfl, rfl, rfl, rfl, rfl, rfl, rfl, rfl, rfl, rfl, rfl, rfl, rfl, rfl, rfl, rfl, rfl, rfl, rfl, rfl, rfl, rfl, rfl, rfl, rfl, rfl, rfl, rfl, rfl, rfl, rfl, rfl, rfl, rfl, rfl, rfl, rfl, rfl, rfl, trivial⟩ ?_
      refine WC2.mid [Ents 32 ev2 (o.l ++ [(⟨⟨2, max 1 (bq + x.e.k % 8 / 6), aq + 1, [], 2 * (1 + x.e.t % 200 % 31)⟩, none, 0⟩ : EntV)])] (.refl _) ?_
      refine d_reg1 ?_
      refine h_q hflS rfl ?_
      refine h_val rfl (.int .i64 ((j + 1 : Nat) : Int)) (fun b w hb hH => exec_ar rfl rfl rfl rfl (by rw [IntWalk.i64_in _ (by omega)]; omega) hb) ?_
      refine h_q hflS rfl ?_
      refine h_nil ?_
      exact f_again (j + 1, aq + 1, bq + x.e.k % 8 / 6, (⟨ev2, o.l ++ [(⟨⟨2, max 1 (bq + x.e.k % 8 / 6), aq + 1, [], 2 * (1 + x.e.t % 200 % 31)⟩, none, 0⟩ : EntV)]⟩ : EsV)) 0 (hnext (ev2 := ev2) (y := (⟨⟨2, max 1 (bq + x.e.k % 8 / 6), aq + 1, [], 2 * (1 + x.e.t % 200 % 31)⟩, none, 0⟩ : EntV)) (by simp [handE, hkd])) (show l.length - (j + 1) < l.length - j by omega) ⟨rfl, rfl, rfl, rfl, rfl, rfl, rfl, trivial⟩ rfl
  · skip
    have hjN : l.length ≤ j ∨ m ≤ j := .inl hjl
    refine d_reg ?_
    refine h_q hflS rfl ?_
    refine h_val rfl (.int .i64 (l.length : Int)) (fun b w hb hH => e_slen ((argEs hv hU hS hH).1) Try.underlying34 rfl rfl hb) ?_
    refine h_val rfl (.bool false) (fun b w hb hH => exec_cmp rfl rfl rfl (cmp_lss_f (by omega)) hb) ?_
    refine h_q hflS rfl ?_
    refine h_done (d_else rfl (d_exit (f_then_exit (f_then_exit (f_block_exit (f_to (d_reg ?_)))))))
    refine h_q hflS rfl ?_
    refine h_done (d_ret ?_)
    exact f_fin1 (.tmp rfl) (fun w h => tells o rfl [0] rfl h (fun z hz => ⟨z, .refl _, fact_add (xs := [_]) (hand_end hI hjN) hz⟩)) rfl
  · skip
    have hjN : l.length ≤ j ∨ m ≤ j := .inr hjm
    refine d_reg ?_
    refine h_q hflS rfl ?_
    refine h_val rfl (.int .i64 (l.length : Int)) (fun b w hb hH => e_slen ((argEs hv hU hS hH).1) Try.underlying34 rfl rfl hb) ?_
    refine h_val rfl (.bool true) (fun b w hb hH => exec_cmp rfl rfl rfl (cmp_lss_t (by omega)) hb) ?_
    refine h_q hflS rfl ?_
    refine h_val rfl (.bool false) (fun b w hb hH => exec_cmp rfl rfl rfl (cmp_lss_f (by omega)) hb) ?_
    refine h_q hflS rfl ?_
    refine h_done (d_else rfl (d_exit (f_then_exit (f_then_exit (f_block_exit (f_to (d_reg ?_)))))))
    refine h_q hflS rfl ?_
    refine h_done (d_ret ?_)
    exact f_fin1 (.tmp rfl) (fun w h => tells o rfl [0] rfl h (fun z hz => ⟨z, .refl _, fact_add (xs := [_]) (hand_end hI hjN) hz⟩)) rfl

theorem hand_v (u : World) (l : List EntV) (v : Value) (hv : EntsRd u v l) (hok : ∀ x, x ∈ l → x.e.ok) (ix tm : Int) (m : Nat) (h1 : 0 ≤ ix ∧ ix ≤ 1152921504606846976) (h2 : 0 ≤ tm ∧ tm ≤ 1152921504606846976) (hm : m ≤ 1000) (es : List EntD) (he : handL ix tm ((l.take m).map (·.e)) = es) : DoesU u Try.prog 20 #[.int .u64 ix, .int .u64 tm, v, .int .i64 (m : Int)] [] (fun cv : Value => cv) (fun cv => [EnT cv es]) := fun w rs a b hp hr hd' => by
  subst he
  refine (hand_any u l v hv hok ix tm m h1 h2 hm w rs a b hp hr hd').mono ?_
  rintro e w' ⟨x, hx, rs', ⟨p, q, e1, h1, h2⟩, hc⟩
  obtain ⟨p2, q2, e2, ⟨h3, h4⟩, h5⟩ := h2
  subst h3
  have h5 : q2 = [] := h5
  subst h5
  have : q = [] := by simpa using e2
  subst this
  exact ⟨_, hx, rs', ⟨p, [], e1, ⟨x.l, h4, h1⟩, rfl⟩, hc⟩
end Go.Proofs.Ytnebloeideodmaa.Sep
