/-
  Bld · RpcD · May · Opz · RpcO · RpcE0 · RpcE · RpcF1 · RpcG · RpcH · RpcI · RpcJ · CmdS · RpcK · RpcL · RpcT · RlM · RlH
-/
import Derived.Test.YtnebloeideodmaaNC01
import Derived.Test.YtnebloeideodmaaND03
import Derived.Test.YtnebloeideodmaaND04
import Derived.Test.YtnebloeideodmaaNG01
import Derived.Test.YtnebloeideodmaaNG02
import Derived.SizedLaws
import Derived.Lib.AppendStr
set_option linter.unusedSimpArgs false
set_option linter.unusedVariables false

namespace Go.Proofs.Ytnebloeideodmaa.Sep
open Go.RowKit
open Go.Proofs.Ytnebloeideodmaa.Mem (Dist Blk Chg)
theorem fold_set : ∀ (ys : List Value) (n : Nat) (cs : Array Value), n + ys.length ≤ cs.size →
    ((ys.zipIdx n).foldl (fun (cs : Array Value) (p : Value × Nat) => cs.setIfInBounds p.2 p.1) cs).toList = cs.toList.take n ++ ys ++ cs.toList.drop (n + ys.length)
  | [], n, cs, _ => by simp
  | y :: ys, n, cs, h => by
    have hl : (y :: ys).length = ys.length + 1 := rfl
    have hn : n < cs.toList.length := by rw [Array.length_toList]; omega
    rw [List.zipIdx_cons, List.foldl_cons, fold_set ys (n + 1) _ (by rw [Array.size_setIfInBounds]; omega), Array.toList_setIfInBounds]
    have e1 : (cs.toList.set n y).take (n + 1) = cs.toList.take n ++ [y] := by
      rw [List.set_eq_take_append_cons_drop, if_pos hn, List.take_append, List.length_take, Nat.min_eq_left (by omega), List.take_of_length_le (by rw [List.length_take]; omega), show n + 1 - n = 1 by omega]
      rfl
    have e2 : (cs.toList.set n y).drop (n + 1 + ys.length) = cs.toList.drop (n + (ys.length + 1)) := by
      rw [List.drop_set, if_pos (by omega)]
      congr 1
      omega
    rw [e1, e2, hl]
    simp
variable {P : Program} {Q : Exit → Act → World → Prop} {n : Nat} {B : Nat → Prop} {w0 : World} {os : List Ass} {env : List (Nat × Value)} {o : Oper}
variable {t e : TypeId} {k : Nat} {α : Type} {enc : α → List Value}
theorem fill_one {v : Value} {cells : Array Value} (h : v.cells.size = cells.size) (hk : v.cells.size = k) : Instr.fill (fun i => some (i * k, k)) cells [(0, v)] = some v.cells := by
  have h1 : ¬ ((v.cells.size ≠ k || 0 * k + v.cells.size > cells.size) = true) := by simp [hk]; omega
  have h2 : (v.cells.zipIdx.foldl (fun (cs : Array Value) (p : Value × Nat) => cs.setIfInBounds (0 * k + p.2) p.1) cells) = v.cells := by
    have hf : (fun (cs : Array Value) (p : Value × Nat) => cs.setIfInBounds (0 * k + p.2) p.1) = fun cs p => cs.setIfInBounds p.2 p.1 := by
      funext cs p
      rw [Nat.zero_mul, Nat.zero_add]
    rw [hf, ← Array.foldl_toList, Array.toList_zipIdx]
    apply Array.toList_inj.1
    rw [fold_set _ 0 _ (by rw [Array.length_toList]; omega), Array.length_toList]
    simp [h]
  unfold Instr.fill
  simp only
  rw [if_neg h1]
  exact congrArg some h2
theorem run_buildK (hT : SliceT P t e k) (hk : k ≤ 4096) {x : Value} (hx : x.cells.size = k) (w : World) : (Instr.buildSlice t 1 #[(0, x)]).run P w = .ok (.slice (some ⟨w.heap.size, 0, none⟩) 1 1) (w.alloc (.cells x.cells e)) := by
  obtain ⟨inf, z, hinf, hz, hsz, _, hzs, _⟩ := hT.inf
  have hp := hT.pos
  have hf : Instr.fill (fun i => some (i * k, k)) ((Array.range k).map (fun j => z.cells[j % z.cells.size]!)) [(0, x)] = some x.cells := fill_one (by simp [hx]) hx
  have h1 : ¬ 1 * k > 2 ^ 24 := by omega
  have h2 : ¬ 1 * k = 0 := by omega
  simp only [Instr.buildSlice, run_underlying hT.ht, hT.sizeOf, Sem.run_bind, Sem.run_pure, Result.andThen_ok, if_neg h1, if_neg h2, zeroValue, typeInfo, hinf, hz]
  simp [newRow, zeroValue, typeInfo, hinf, hz, h1, h2]
  rw [hf]
  simp
theorem a_buildK (hT : SliceT P t e k) (hk : k ≤ 4096) (he : EncOf k enc) {x : Operand} {c : Value} (a : α) (hc : c.cells.toList = enc a) (ho : o.op = .buildSlice t 1 #[(0, x)]) (hx : evs env x = some c) : Acts P Q n env B w0 os o (fun v : Value => v) (fun v => Vec e k enc v [a] :: os) := fun b w hH hF K hK => by
  have hsz : c.cells.size = k := by rw [← he.len a, ← hc, Array.length_toList]
  have hrun : (execOp b.eval o).run P w = .ok (.value (.slice (some ⟨w.heap.size, 0, none⟩) 1 1)) (w.alloc (.cells c.cells e)) := by
    unfold execOp
    simp [ho, hF.evs hx, Sem.run_bind, run_buildK hT hk hsz]
  refine a_val (w0 := w) b hrun (hK _ _ ?_)
  have := hH.new e c.cells
  obtain ⟨rs, ⟨r1, r2, e1, h1, h2⟩, h3⟩ := this
  unfold cell at h1
  exact ⟨rs, ⟨r1, r2, e1, .inr ⟨w.heap.size, 1, c.cells, rfl, Nat.le_refl _, by unfold maxLen; omega, by simp [hsz], by rw [hc]; simp only [flat, List.flatMap_cons, List.flatMap_nil, List.append_nil, List.length_cons, List.length_nil, Nat.zero_add, Nat.one_mul]; exact List.take_of_length_le (by rw [he.len]; exact Nat.le_refl _), h1⟩, h2⟩, h3⟩
end Go.Proofs.Ytnebloeideodmaa.Sep

namespace Go.Proofs.Ytnebloeideodmaa.Sep
open Go.RowKit
open Go.Proofs.Ytnebloeideodmaa.Mem (Dist Blk Chg below0)

section
variable {P : Program} {ops : Array Oper} {Q : Exit → Act → World → Prop} {n : Nat} {env : List (Nat × Value)} {B : Nat → Prop} {w0 : World} {os : List Ass} {t : Ass}
theorem new_thing (h : t []) : ∀ rs, Parts os rs → ∃ _ : Unit, ∃ rs', rs.Perm rs' ∧ Parts (t :: os) rs' := fun rs hr => ⟨(), rs, .refl _, [], rs, rfl, h, hr⟩
theorem d_new (h0 : t []) {c : Code} (h : WC2 P Q n env B w0 (t :: os) c) : WC2 P Q n env B w0 os c := WC2.via (fun _ : Unit => _) (new_thing h0) fun _ => h
theorem fact_add {xs : List Ass} {p : Prop} (hp : p) {z : List RowT} (h : Parts xs z) : Parts (xs ++ [fact p]) z := by
  have := Parts.app h (show Parts [fact p] [] from ⟨[], [], rfl, ⟨rfl, hp⟩, rfl⟩)
  rwa [List.append_nil] at this
end
/-- entries and where they lie -/
structure EsV where
  v : Value
  l : List EntV

set_option maxRecDepth 100000 in
theorem samee_true (w : World) (x y : EntV) (hx : Sl8 w x.v x.e.d) (hy : Sl8 w y.v y.e.d) (h : x.e = y.e) : Calls Try.prog 54 #[.agg #[.int .i64 x.e.k, .int .u64 x.e.t, .int .u64 x.e.i, x.v, .int .i64 x.e.c], .agg #[.int .i64 y.e.k, .int .u64 y.e.t, .int .u64 y.e.i, y.v, .int .i64 y.e.c]] w fun e w' => e = .returned (.bool true) ∧ Below w.heap.size w w' := by
  refine d_in (args := [.agg #[.int .i64 x.e.k, .int .u64 x.e.t, .int .u64 x.e.i, x.v, .int .i64 x.e.c], .agg #[.int .i64 y.e.k, .int .u64 y.e.t, .int .u64 y.e.i, y.v, .int .i64 y.e.c]]) 40 Try.func54 rfl rfl rfl ?_
  refine d_reg ?_
  refine h_q hflS rfl ?_
  refine h_act (post := fun gx => [cell gx 32 #[.int .i64 x.e.k, .int .u64 x.e.t, .int .u64 x.e.i, x.v, .int .i64 x.e.c]]) rfl (a_box (cs := #[.int .i64 x.e.k, .int .u64 x.e.t, .int .u64 x.e.i, x.v, .int .i64 x.e.c]) rfl rfl rfl) ?_; rintro gx
  refine h_act (post := fun gy => [cell gy 32 #[.int .i64 y.e.k, .int .u64 y.e.t, .int .u64 y.e.i, y.v, .int .i64 y.e.c], cell gx 32 #[.int .i64 x.e.k, .int .u64 x.e.t, .int .u64 x.e.i, x.v, .int .i64 x.e.c]]) rfl (a_box (cs := #[.int .i64 y.e.k, .int .u64 y.e.t, .int .u64 y.e.i, y.v, .int .i64 y.e.c]) rfl rfl rfl) ?_; rintro gy
  refine h_q hflS rfl ?_
  refine h_done (d_reg ?_)
  refine h_q hflS rfl ?_
  refine h_val rfl (.int .i64 x.e.k) (fun b w hb hH => exec_load rfl rfl (reads_one ty_int rfl) (hH.row 1 rfl) hb) ?_
  refine h_q hflS rfl ?_
  refine h_val rfl (.int .i64 y.e.k) (fun b w hb hH => exec_load rfl rfl (reads_one ty_int rfl) (hH.row 0 rfl) hb) ?_
  refine h_val rfl (.bool true) (fun b w hb hH => exec_cmp rfl rfl rfl (cmp_eql_t (by rw [h])) hb) ?_
  refine h_q hflS rfl ?_
  refine h_val rfl (.int .u64 x.e.t) (fun b w hb hH => exec_load rfl rfl (reads_one ty_uint64 rfl) (hH.row 1 rfl) hb) ?_
  refine h_q hflS rfl ?_
  refine h_val rfl (.int .u64 y.e.t) (fun b w hb hH => exec_load rfl rfl (reads_one ty_uint64 rfl) (hH.row 0 rfl) hb) ?_
  refine h_val rfl (.bool true) (fun b w hb hH => exec_cmp rfl rfl rfl (cmp_eql_t (by rw [h])) hb) ?_
  refine h_q hflS rfl ?_
  refine h_val rfl (.int .u64 x.e.i) (fun b w hb hH => exec_load rfl rfl (reads_one ty_uint64 rfl) (hH.row 1 rfl) hb) ?_
  refine h_q hflS rfl ?_
  refine h_val rfl (.int .u64 y.e.i) (fun b w hb hH => exec_load rfl rfl (reads_one ty_uint64 rfl) (hH.row 0 rfl) hb) ?_
  refine h_val rfl (.bool true) (fun b w hb hH => exec_cmp rfl rfl rfl (cmp_eql_t (by rw [h])) hb) ?_
  refine h_q hflS rfl ?_
  refine h_val rfl (x.v) (fun b w hb hH => exec_load rfl rfl (reads_one ty_s_uint8 rfl) (hH.row 1 rfl) hb) ?_
  refine h_val rfl (.string (bs x.e.d)) (fun b w hb hH => exec_str8 Try.underlying30 Try.underlying5 (by kernel_rfl) Try.underlying9 (arg80 hx hH) rfl rfl hb) ?_
  refine h_q hflS rfl ?_
  refine h_val rfl (y.v) (fun b w hb hH => exec_load rfl rfl (reads_one ty_s_uint8 rfl) (hH.row 0 rfl) hb) ?_
  refine h_val rfl (.string (bs y.e.d)) (fun b w hb hH => exec_str8 Try.underlying30 Try.underlying5 (by kernel_rfl) Try.underlying9 (arg80 hy hH) rfl rfl hb) ?_
  refine h_val rfl (.bool true) (fun b w hb hH => exec_same rfl rfl rfl (by rw [h]; simp) hb) ?_
  refine h_q hflS rfl ?_
  refine h_val rfl (.int .i64 x.e.c) (fun b w hb hH => exec_load rfl rfl (reads_one ty_int rfl) (hH.row 1 rfl) hb) ?_
  refine h_q hflS rfl ?_
  refine h_val rfl (.int .i64 y.e.c) (fun b w hb hH => exec_load rfl rfl (reads_one ty_int rfl) (hH.row 0 rfl) hb) ?_
  refine h_val rfl (.bool true) (fun b w hb hH => exec_cmp rfl rfl rfl (cmp_eql_t (by rw [h])) hb) ?_
  refine h_q hflS rfl ?_
  refine h_done (d_ret ?_)
  exact f_fin1 (.tmp rfl) (fun w h => ⟨rfl, below0 h.up⟩) rfl

set_option maxRecDepth 100000 in
theorem copye_does (u : World) (v : Value) (l : List EntV) (hv : EntsRd u v l) (hl : l.length * 56 ≤ 140737488351232) (hd : ∀ x, x ∈ l → x.e.d.length ≤ 140737488351232) : DoesU u Try.prog 39 #[v] [] (fun (x : EsV) => x.v) (fun (x : EsV) => [Ents 32 x.v x.l, fact (x.l.map (·.e) = l.map (·.e))]) := by
  refine d_insU (args := [v]) 29 Try.func39 rfl rfl rfl ?_; intro w rs hU hS
  refine d_reg ?_
  refine h_q hflS rfl ?_
  refine h_done (d_reg ?_)
  refine h_q hflS rfl ?_
  refine h_done (d_seq (d_reg ?_))
  refine h_q hflS rfl ?_
  refine h_done (d_block ?_)
  refine d_new (t := Ents 32 (.slice none 0 0) ([])) (entsT_nil) ?_
  refine d_loop (α := Nat × List EntV × Value) (fun ⟨i, L, ev⟩ => [(0, v), (2, .slice none 0 0), (3, ev), (4, .int .i64 ((i : Nat) : Int))]) (fun ⟨i, L, ev⟩ => [Ents 32 ev L]) (fun ⟨i, L, ev⟩ => i ≤ l.length ∧ L.map (·.e) = (l.take i).map (·.e)) (fun ⟨i, L, ev⟩ => l.length - i) (0, [], .slice none 0 0) ⟨Nat.zero_le _, rfl⟩ ⟨rfl, rfl, rfl, rfl, trivial⟩ rfl ?_
  rintro ⟨i, L, ev⟩ hI
  refine WC2.at_ (env' := [(0, v), (2, .slice none 0 0), (3, ev), (4, .int .i64 ((i : Nat) : Int))]) (rs' := [Ents 32 ev L]) ⟨rfl, rfl, rfl, rfl, trivial⟩ rfl ?_
  have hI1 : i ≤ l.length := hI.1
  have hI2 : L.map (·.e) = (l.take i).map (·.e) := hI.2
  have hLl : L.length = i := by have := congrArg List.length hI2; rw [List.length_map, List.length_map, List.length_take] at this; omega
  refine d_seq ?_
  rcases Nat.lt_or_ge i l.length with hi | hi
  · skip
    obtain ⟨x, hx⟩ : ∃ x, l[i]? = some x := ⟨_, List.getElem?_eq_getElem hi⟩
    have hm := List.mem_of_getElem? hx
    have hdx := hd x hm
    refine d_reg ?_
    refine h_q hflS rfl ?_
    refine h_val rfl (.int .i64 (l.length : Int)) (fun b w hb hH => e_slen ((argEs hv hU hS hH).1) Try.underlying34 rfl rfl hb) ?_
    refine h_val rfl (.bool true) (fun b w hb hH => exec_cmp rfl rfl rfl (cmp_lss_t (by omega)) hb) ?_
    refine h_done (d_then rfl (d_skip (f_to (d_seq (d_block ?_)))))
    refine d_open 0 rfl ents_open (fun _ => rfl) ?_; rintro ⟨⟩
    refine d_reg ?_
    refine h_q hflS rfl ?_
    refine h_val rfl (elp v (i * 5)) (fun b w hb hH => e_sidx okV ((argEs hv hU hS hH).1) sl_api_Entry (j := i) hx rfl rfl rfl hb) ?_
    refine h_val rfl (.agg (encV x).toArray) (fun b w hb hH => e_sagg okV (by decide) ((argEs hv hU hS hH).1) (j := i) hx ty_api_Entry rfl rfl hb) ?_
    refine h_act (post := fun g5 => [cell g5 32 #[.int .i64 0, .int .u64 0, .int .u64 0, .slice none 0 0, .int .i64 0], Vec 32 5 encV ev L, Each (fun x : EntV => Vec 5 1 encB x.v x.e.d) L]) rfl (a_alloc ze_api_Entry rfl) ?_; rintro g5
    refine h_acts (post := fun _ => [cell g5 32 #[.int .i64 x.e.k, .int .u64 x.e.t, .int .u64 x.e.i, x.v, .int .i64 x.e.c], Vec 32 5 encV ev L, Each (fun x : EntV => Vec 5 1 encB x.v x.e.d) L]) rfl rfl (a_store 0 (v := .agg (encV x).toArray) #[.int .i64 x.e.k, .int .u64 x.e.t, .int .u64 x.e.i, x.v, .int .i64 x.e.c] ty_api_Entry.2 rfl rfl rfl rfl rfl rfl rfl rfl rfl) ?_; rintro ⟨⟩
    refine h_done (d_reg ?_)
    refine h_q hflS rfl ?_
    refine h_act (X := Value) (val := fun v : Value => v) (post := fun d0 => [Vec 5 1 encB d0 ([]), cell g5 32 #[.int .i64 x.e.k, .int .u64 x.e.t, .int .u64 x.e.i, x.v, .int .i64 x.e.c], Vec 32 5 encV ev L, Each (fun x : EntV => Vec 5 1 encB x.v x.e.d) L]) rfl (by refine a_build0 (e := 5) (t := 30) (k := 1) (enc := encB) ?_ ?_; exact sl_uint8; exact rfl) ?_; rintro d0
    refine h_q hflS rfl ?_
    refine h_val rfl (elp v (i * 5)) (fun b w hb hH => e_sidx okV ((argEs hv hU hS hH).1) sl_api_Entry (j := i) hx rfl rfl rfl hb) ?_
    refine h_val rfl (elp v (i * 5 + 3)) (fun b w hb hH => e_sfield okV (by decide) ((argEs hv hU hS hH).1) (j := i) hx fd_api_Entry_3 rfl rfl hb) ?_
    refine h_val rfl (x.v) (fun b w hb hH => e_sload okV (by decide) ((argEs hv hU hS hH).1) (j := i) hx ty_s_uint8 (off := 3) rfl rfl rfl hb) ?_
    refine h_act (post := fun d1 => [Vec 5 1 encB d1 x.e.d, cell g5 32 #[.int .i64 x.e.k, .int .u64 x.e.t, .int .u64 x.e.i, x.v, .int .i64 x.e.c], Vec 32 5 encV ev L, Each (fun x : EntV => Vec 5 1 encB x.v x.e.d) L]) rfl (a_append8 0 sl_uint8 (by kernel_rfl) rfl (x.e.d) (fun w hH => (arg8 (hv.2 x hm) hU hS hH).rd) (by simp only [List.length_nil]; omega) rfl rfl rfl (List.nil_append _)) ?_; rintro d1
    refine h_q hflS rfl ?_
    refine h_acts (post := fun _ => [Vec 5 1 encB d1 x.e.d, cell g5 32 #[.int .i64 x.e.k, .int .u64 x.e.t, .int .u64 x.e.i, d1, .int .i64 x.e.c], Vec 32 5 encV ev L, Each (fun x : EntV => Vec 5 1 encB x.v x.e.d) L]) rfl rfl (a_storev 1 0 (v := d1) #[.int .i64 x.e.k, .int .u64 x.e.t, .int .u64 x.e.i, d1, .int .i64 x.e.c] ty_s_uint8.2 rfl (fun _ h => Vec.c1 h) rfl rfl rfl rfl rfl rfl rfl) ?_; rintro ⟨⟩
    refine h_done ?_
    refine WC2.fact 0 rfl (fun _ h => Vec.is h) ?_; rintro ⟨A3, c3, rfl⟩
    refine WC2.keep (env' := [(0, v), (2, .slice none 0 0), (3, ev), (4, .int .i64 ((i : Nat) : Int)), (6, .int .i64 ((i : Nat) : Int)), (7, v), (8, .int .i64 (l.length : Int)), (9, .bool true), (12, v), (13, .int .i64 ((i : Nat) : Int)), (14, elp v (i * 5)), (15, .agg (encV x).toArray), (5, .pointer (some ⟨g5, 0, none⟩)), (16, d0), (17, v), (18, .int .i64 ((i : Nat) : Int)), (19, elp v (i * 5)), (20, elp v (i * 5 + 3)), (21, x.v), (22, .slice A3 x.e.d.length c3), (23, .pointer (some ⟨g5, 3, none⟩))]) ⟨rfl, rfl, rfl, rfl, rfl, rfl, rfl, rfl, rfl, rfl, rfl, rfl, rfl, rfl, rfl, rfl, rfl, rfl, rfl, rfl, rfl, trivial⟩ ?_
    refine WC2.mid [Vec 5 1 encB (.slice A3 x.e.d.length c3) x.e.d, cell g5 32 #[.int .i64 x.e.k, .int .u64 x.e.t, .int .u64 x.e.i, .slice A3 x.e.d.length c3, .int .i64 x.e.c], Vec 32 5 encV ev L, Each (fun x : EntV => Vec 5 1 encB x.v x.e.d) L] (.refl _) ?_
    refine d_reg1 ?_
    refine h_q hflS rfl ?_
    refine h_val rfl (.agg #[.int .i64 x.e.k, .int .u64 x.e.t, .int .u64 x.e.i, .slice A3 x.e.d.length c3, .int .i64 x.e.c]) (fun b w hb hH => exec_load rfl rfl (reads_agg (cs := [.int .i64 x.e.k, .int .u64 x.e.t, .int .u64 x.e.i, .slice A3 x.e.d.length c3, .int .i64 x.e.c]) ty_api_Entry rfl) (hH.row 1 rfl) hb) ?_
    refine h_act (X := Value) (val := fun v : Value => v) (post := fun u1 => [Vec 32 5 encV u1 ([(⟨x.e, A3, c3⟩ : EntV)]), Vec 5 1 encB (.slice A3 x.e.d.length c3) x.e.d, cell g5 32 #[.int .i64 x.e.k, .int .u64 x.e.t, .int .u64 x.e.i, .slice A3 x.e.d.length c3, .int .i64 x.e.c], Vec 32 5 encV ev L, Each (fun x : EntV => Vec 5 1 encB x.v x.e.d) L]) rfl (by refine a_buildK (e := 32) (t := 34) (k := 5) (enc := encV) (x := .tmp 25) (c := .agg #[.int .i64 x.e.k, .int .u64 x.e.t, .int .u64 x.e.i, .slice A3 x.e.d.length c3, .int .i64 x.e.c]) ?_ ?_ ?_ (⟨x.e, A3, c3⟩ : EntV) ?_ ?_ ?_; exact sl_api_Entry; exact (by decide); exact okV; exact rfl; exact rfl; exact rfl) ?_; rintro u1
    refine h_act (post := fun ev2 => [Vec 32 5 encV u1 ([(⟨x.e, A3, c3⟩ : EntV)]), Vec 5 1 encB (.slice A3 x.e.d.length c3) x.e.d, cell g5 32 #[.int .i64 x.e.k, .int .u64 x.e.t, .int .u64 x.e.i, .slice A3 x.e.d.length c3, .int .i64 x.e.c], Vec 32 5 encV ev2 (L ++ [(⟨x.e, A3, c3⟩ : EntV)]), Each (fun x : EntV => Vec 5 1 encB x.v x.e.d) L]) rfl (a_appendK (nb := 56) 3 sl_api_Entry okV (by kernel_rfl) (by decide) rfl ([(⟨x.e, A3, c3⟩ : EntV)]) (fun w hH => hH.vec 0 rfl okV) (by simp only [List.length_cons, List.length_nil]; omega) rfl rfl rfl rfl) ?_; rintro ev2
    refine h_q hflS rfl ?_
    refine h_nil (f_block (f_to ?_))
    refine WC2.leave [0, 2] rfl rfl ?_
    refine d_close [1, 2, 0] rfl ents_push rfl ?_
    refine d_reg1 ?_
    refine h_q hflS rfl ?_
    refine h_val rfl (.int .i64 ((i + 1 : Nat) : Int)) (fun b w hb hH => exec_ar rfl rfl rfl rfl (by rw [IntWalk.i64_in _ (by omega)]; omega) hb) ?_
    refine h_q hflS rfl ?_
    refine h_nil ?_
    exact f_again (i + 1, L ++ [(⟨x.e, A3, c3⟩ : EntV)], ev2) 0 ⟨hi, by rw [List.map_append, hI2, List.take_add_one, hx, List.map_append]; rfl⟩ (show l.length - (i + 1) < l.length - i by omega) ⟨rfl, rfl, rfl, rfl, trivial⟩ rfl
  · skip
    refine d_reg ?_
    refine h_q hflS rfl ?_
    refine h_val rfl (.int .i64 (l.length : Int)) (fun b w hb hH => e_slen ((argEs hv hU hS hH).1) Try.underlying34 rfl rfl hb) ?_
    refine h_val rfl (.bool false) (fun b w hb hH => exec_cmp rfl rfl rfl (cmp_lss_f (by omega)) hb) ?_
    refine h_done (d_else rfl (d_exit (f_then_exit (f_then_exit (f_block_exit (f_to (d_reg ?_)))))))
    refine h_q hflS rfl ?_
    refine h_done (d_ret ?_)
    exact f_fin1 (.tmp rfl) (fun w h => tells (⟨ev, L⟩ : EsV) rfl [0] rfl h (fun z hz => ⟨z, .refl _, fact_add (xs := [_]) (show L.map (·.e) = l.map (·.e) by rw [hI2, List.take_of_length_le hi]) hz⟩)) rfl
end Go.Proofs.Ytnebloeideodmaa.Sep

namespace Go.Proofs.Ytnebloeideodmaa.Sep
open Go.RowKit
open Go.Proofs.Ytnebloeideodmaa.Mem (Dist Blk Chg)
section
variable {P : Program} {ops : Array Oper} {Q : Exit → Act → World → Prop} {n : Nat} {jobs : List Job} {env env0 : List (Nat × Value)} {B : Nat → Prop} {w0 w : World} {rs os : List Ass} {o : Oper} {deps : List Nat} {kk d : Nat} {v : Value} {rest : List Oper}
end
end Go.Proofs.Ytnebloeideodmaa.Sep

namespace Go.Proofs.Ytnebloeideodmaa.Sep
open Go.ChangeShapes Go.WideShapes Go.ChangeAt Go.RowKit
section
variable {H : Type} {enc : TypeId × Value → H} {P : Program}
/-- no slice or string in it is greater than memory may be -/
def SizedD (P : Program) (t : TypeId) (d : DataW H) : Prop := ∀ n ∈ d.weights P t, n ≤ reachBytes
theorem SizedD.field {t : TypeId} {fs : Array Field} {parts : List (DataW H)} {j : Nat} {f : Field} {d : DataW H} (h : SizedD P t (.agg parts)) (hu : P.underlying t = some (.struct fs)) (hf : fs[j]? = some f) (hd : parts[j]? = some d) : SizedD P f.type d := fun n hn => by
  refine h n ?_
  have hm := DataW.weights_mem_each (P := P) (ts := fs.toList.map (·.type)) (ds := parts) (j := j) (t := f.type) (d := d) (by simp [hf]) hd n hn
  simpa [DataW.weights, hu] using hm
theorem SizedD.len {t e : TypeId} {es sp : List (DataW H)} (h : SizedD P t (.slice es sp)) (hu : P.underlying t = some (.slice e)) : es.length * P.bytesOf e ≤ reachBytes := by
  have := h ((es.length + sp.length) * P.bytesOf e) (by simp [DataW.weights, hu])
  exact Nat.le_trans (Nat.mul_le_mul_right _ (Nat.le_add_right _ _)) this
theorem weights_all {e : TypeId} : ∀ {es : List (DataW H)} {j : Nat} {d : DataW H}, es[j]? = some d → ∀ n ∈ d.weights P e, n ∈ DataW.weightsAll P e es
  | [], _, _, h, _, _ => by simp at h
  | d0 :: r, 0, d, h, n, hn => by
    simp only [List.getElem?_cons_zero, Option.some.injEq] at h
    subst h
    simp only [DataW.weightsAll, List.mem_append]
    exact .inl hn
  | d0 :: r, j + 1, d, h, n, hn => by
    simp only [List.getElem?_cons_succ] at h
    simp only [DataW.weightsAll, List.mem_append]
    exact .inr (weights_all h n hn)
theorem SizedD.elem {t e : TypeId} {es sp : List (DataW H)} (h : SizedD P t (.slice es sp)) (hu : P.underlying t = some (.slice e)) {j : Nat} {d : DataW H} (hd : es[j]? = some d) : SizedD P e d := fun n hn => by
  refine h n ?_
  have := weights_all (P := P) hd n hn
  simp [DataW.weights, hu, this]
end
end Go.Proofs.Ytnebloeideodmaa.Sep

namespace Go.Proofs.Ytnebloeideodmaa.Sep
open Go.ChangeShapes Go.WideShapes Go.ChangeAt Go.RowKit
/-- a struct's field of one cell -/
structure F1 (f : Field) (t : TypeId) (o : Nat) : Prop where
  t : f.type = t
  o : f.offset = o
section
variable {H : Type} {enc : TypeId × Value → H} {W : World} {base b0 : Nat} {r : Reach} {spare : Nat → Bool} {held : Bool} {v : Value} {d : DataW H} {p : List MemPlace}
theorem fldF {P : Program} {n j k off : Nat} {f : Field} {t : TypeId} {cs zs : List Value} {ys : List (DataW H × List MemPlace)} {y : DataW H × List MemPlace} (hF : F1 f t off) (hc : P.cellsOf t = k) (h : DataW.trod enc P W base spare held n f.type ((cs.drop f.offset).take (P.cellsOf f.type)) = ys[j]?) (ha : (cs.drop off).take k = zs) (hy : ys[j]? = some y) : DataW.trod enc P W base spare held n t zs = some y := by
  rw [hF.t, hF.o, hc, ha, hy] at h
  exact h
/-! ## An entry -/
def EntOk (W : World) (x : EntV) : Prop := x.e.ok ∧ Sl8 W x.v x.e.d ∧ x.e.d.length ≤ 140737488351232
theorem k_int : Try.prog.cellsOf 3 = 1 := by kernel_rfl
theorem k_u64 : Try.prog.cellsOf 26 = 1 := by kernel_rfl
theorem k_u8s : Try.prog.cellsOf 30 = 1 := by kernel_rfl
instance : Inhabited EntV := ⟨⟨.zero, none, 0⟩⟩
/-! ## A message -/
structure BaseT (tb : TypeId) (f0 f1 f2 : Field) : Prop where
  hu : Try.prog.underlying tb = some (.struct #[f0, f1, f2])
  h0 : F1 f0 26 0
  h1 : F1 f1 26 1
  h2 : F1 f2 3 2
theorem open_base {tb : TypeId} {f0 f1 f2 : Field} (hE : BaseT tb f0 f1 f2) {n : Nat} {a0 a1 a2 : Value} {x : DataW H × List MemPlace} (h : DataW.trod enc Try.prog W base spare held n tb [a0, a1, a2] = some x) : ∃ z0 z1 z2, a0 = .int .u64 z0 ∧ a1 = .int .u64 z1 ∧ a2 = .int .i64 z2 ∧ U64 z0 ∧ U64 z1 ∧ I64 z2 := by
  obtain ⟨ys, n', _, hx, _, hyl, hf⟩ := DataW.trod_struct hE.hu h
  have hyl : ys.length = 3 := hyl
  obtain ⟨y0, g0⟩ : ∃ y, ys[0]? = some y := ⟨_, List.getElem?_eq_getElem (by omega)⟩
  obtain ⟨y1, g1⟩ : ∃ y, ys[1]? = some y := ⟨_, List.getElem?_eq_getElem (by omega)⟩
  obtain ⟨y2, g2⟩ : ∃ y, ys[2]? = some y := ⟨_, List.getElem?_eq_getElem (by omega)⟩
  have h0 := fldF hE.h0 k_u64 (hf 0 _ rfl) (zs := [a0]) rfl g0
  have h1 := fldF hE.h1 k_u64 (hf 1 _ rfl) (zs := [a1]) rfl g1
  have h2 := fldF hE.h2 k_int (hf 2 _ rfl) (zs := [a2]) rfl g2
  obtain ⟨z0, e0, _, w0⟩ := DataW.trod_int Try.underlying26 h0
  obtain ⟨z1, e1, _, w1⟩ := DataW.trod_int Try.underlying26 h1
  obtain ⟨z2, e2, _, w2⟩ := DataW.trod_int Try.underlying3 h2
  simp at e0 e1 e2
  subst e0; subst e1; subst e2
  exact ⟨z0, z1, z2, rfl, rfl, rfl, wf_u64 w0, wf_u64 w1, wf_i64 w2⟩
/-- a message, and where its entries and its bytes lie -/
structure MsgV where
  m : MsgD
  es : List EntV
  EA : Option Addr
  ec : Nat
  A : Option Addr
  c : Nat
def MsgV.ev (x : MsgV) : Value := .slice x.EA x.es.length x.ec
def MsgV.dv (x : MsgV) : Value := .slice x.A x.m.d.length x.c
def MsgV.cells (x : MsgV) : List Value := cellsM x.m.k x.m.a x.m.b x.m.t x.m.i x.m.lt x.ev x.m.co x.m.rf x.m.bi x.m.bt x.m.bc x.m.o x.dv x.m.la
structure MsgOk (W : World) (x : MsgV) : Prop where
  ok : x.m.ok
  es : x.m.es = x.es.map (·.e)
  rd : EntsRd W x.ev x.es
  le : x.es.length * 56 ≤ 140737488351232
  each : ∀ y ∈ x.es, EntOk W y
  d : Sl8 W x.dv x.m.d
  dl : x.m.d.length ≤ 140737488351232
theorem EntOk.below {u w : World} {x : EntV} (h : EntOk u x) (hb : Below u.heap.size u w) : EntOk w x := ⟨h.1, h.2.1.below hb, h.2.2⟩
theorem MsgOk.below {u w : World} {x : MsgV} (h : MsgOk u x) (hb : Below u.heap.size u w) : MsgOk w x := ⟨h.ok, h.es, h.rd.below hb, h.le, fun y hy => (h.each y hy).below hb, h.d.below hb, h.dl⟩
end
end Go.Proofs.Ytnebloeideodmaa.Sep

namespace Go.Proofs.Ytnebloeideodmaa.Sep
open Go.RowKit
open Go.Proofs.Ytnebloeideodmaa.Mem (Dist Blk Chg below0)

theorem neBase (a b c d e f : Int) (z : Bool) (h : (!(a == d && (b == e && c == f))) = z) : NeAt Try.prog 28 (.agg #[.int .u64 a, .int .u64 b, .int .i64 c]) (.agg #[.int .u64 d, .int .u64 e, .int .i64 f]) z := fun x y w => by
  subst h
  go_simp
  by_cases h1 : a = d <;> by_cases h2 : b = e <;> by_cases h3 : c = f <;> simp [h1, h2, h3]
theorem wrap_u64 {z : Int} : ∃ r : Int, IntKind.u64.wrap z = r ∧ r = z % 18446744073709551616 := ⟨_, rfl, by rw [IntKind.wrap_u64]⟩
end Go.Proofs.Ytnebloeideodmaa.Sep

namespace Go.Proofs.Ytnebloeideodmaa.Sep
open Go.RowKit
open Go.Proofs.Ytnebloeideodmaa.Mem (Dist Blk Chg below0)

end Go.Proofs.Ytnebloeideodmaa.Sep

namespace Go.Proofs.Ytnebloeideodmaa.Sep
open Go.RowKit
open Go.Proofs.Ytnebloeideodmaa.Mem (Dist Blk Chg below0)

end Go.Proofs.Ytnebloeideodmaa.Sep

namespace Go.Proofs.Ytnebloeideodmaa.Sep
open Go.RowKit
open Go.Proofs.Ytnebloeideodmaa.Mem (Dist Blk Chg below0)

end Go.Proofs.Ytnebloeideodmaa.Sep

namespace Go.Proofs.Ytnebloeideodmaa.Sep
open Go.RowKit
open Go.Proofs.Ytnebloeideodmaa.Mem (Dist Blk Chg below0)

end Go.Proofs.Ytnebloeideodmaa.Sep

namespace Go.Proofs.Ytnebloeideodmaa.Sep
open Go.RowKit
open Go.Proofs.Ytnebloeideodmaa.Mem (Dist Blk Chg below0)

end Go.Proofs.Ytnebloeideodmaa.Sep

namespace Go.Proofs.Ytnebloeideodmaa.Sep
open Go.RowKit
open Go.Proofs.Ytnebloeideodmaa.Mem (Dist Blk Chg below0)

end Go.Proofs.Ytnebloeideodmaa.Sep

namespace Go.Proofs.Ytnebloeideodmaa.Sep
open Go.RowKit
open Go.Proofs.Ytnebloeideodmaa.Mem (Dist Blk Chg below0)
section
variable {Q : Exit → Act → World → Prop} {n : Nat} {B : Nat → Prop} {w0 : World} {os : List Ass} {env : List (Nat × Value)} {o : Oper} {v : Value} {l m : List UInt8}
end
section
variable {P : Program} {n : Nat} {w : World} {env : List (Nat × Value)} {o : Oper} {a : Act}
end
/-! ## Two ways come together, where a value is a letter -/
section
variable {P : Program} {Q : Exit → Act → World → Prop} {n : Nat} {B : Nat → Prop} {w0 : World} {rs : List Ass} {env : List (Nat × Value)}
end
end Go.Proofs.Ytnebloeideodmaa.Sep

namespace Go.Proofs.Ytnebloeideodmaa.Sep
open Go.RowKit
open Go.Proofs.Ytnebloeideodmaa.Mem (Dist Blk Chg below0)

end Go.Proofs.Ytnebloeideodmaa.Sep

namespace Go.Proofs.Ytnebloeideodmaa.Sep
open Go.RowKit
open Go.Proofs.Ytnebloeideodmaa.Mem (Dist Blk Chg below0)

/-- what reading entries comes to, and where they lie -/
structure REX where
  EA : Option Addr
  ec : Nat
  es : List EntV
  en : Nat
  l : List UInt8
  f : Nat
def REX.v (x : REX) : Value := .slice x.EA x.es.length x.ec
theorem Ents.is {te : TypeId} {v : Value} {l : List EntV} : ∀ rs, Ents te v l rs → ∃ A c, v = .slice A l.length c := fun _ h => by
  obtain ⟨a, b, e, h1, _⟩ := h
  exact h1.is

end Go.Proofs.Ytnebloeideodmaa.Sep

namespace Go.Proofs.Ytnebloeideodmaa.Sep
open Go.RowKit
open Go.Proofs.Ytnebloeideodmaa.Mem (Dist Blk Chg below0)

theorem argE0 {w0 w : World} {os : List Ass} {v : Value} {l : List EntV} (h : EntsRd w0 v l) (hH : Hp Nil w0 w os) : EntsRd w v l := h.below (hH.up.below (Nat.le_refl _) (fun _ h => h.elim))

set_option maxRecDepth 100000 in
theorem samees_true (w : World) (v v2 : Value) (l l2 : List EntV) (hv : EntsRd w v l) (hv2 : EntsRd w v2 l2) (h : l.map (·.e) = l2.map (·.e)) (hle : l.length ≤ 9223372036854775807) : Calls Try.prog 25 #[v, v2] w fun e w' => e = .returned (.bool true) ∧ Below w.heap.size w w' := by
  have hln : l.length = l2.length := by have := congrArg List.length h; simpa using this
  refine d_in (args := [v, v2]) 27 Try.func25 rfl rfl rfl ?_
  refine d_reg ?_
  refine h_q hflS rfl ?_
  refine h_done (d_seq (d_reg ?_))
  refine h_q hflS rfl ?_
  refine h_val rfl (.int .i64 (l.length : Int)) (fun b w hb hH => e_slen ((argE0 hv hH).1) Try.underlying34 rfl rfl hb) ?_
  refine h_q hflS rfl ?_
  refine h_val rfl (.int .i64 (l2.length : Int)) (fun b w hb hH => e_slen ((argE0 hv2 hH).1) Try.underlying34 rfl rfl hb) ?_
  refine h_val rfl (.bool false) (fun b w hb hH => exec_cmp rfl rfl rfl (cmp_neq_f (by omega)) hb) ?_
  refine h_done (d_else rfl (d_skip (f_to (d_seq (d_reg ?_)))))
  refine h_q hflS rfl ?_
  refine h_done (d_block ?_)
  refine d_loop (α := Nat) (fun j => [(0, v), (1, v2), (4, .bool false), (5, .int .i64 ((j : Nat) : Int))]) (fun j => []) (fun j => j ≤ l.length) (fun j => l.length - j) 0 (Nat.zero_le _) ⟨rfl, rfl, rfl, rfl, trivial⟩ rfl ?_
  rintro j hI
  refine WC2.at_ (env' := [(0, v), (1, v2), (4, .bool false), (5, .int .i64 ((j : Nat) : Int))]) (rs' := []) ⟨rfl, rfl, rfl, rfl, trivial⟩ rfl ?_
  refine d_seq ?_
  rcases Nat.lt_or_ge j l.length with hj | hj
  · skip
    obtain ⟨x, hx⟩ : ∃ x, l[j]? = some x := ⟨_, List.getElem?_eq_getElem hj⟩
    obtain ⟨y, hy⟩ : ∃ y, l2[j]? = some y := ⟨_, List.getElem?_eq_getElem (by omega)⟩
    have hmx := List.mem_of_getElem? hx
    have hmy := List.mem_of_getElem? hy
    have hxy : x.e = y.e := by
        have h1 := congrArg (fun z => z[j]?) h
        simp only [List.getElem?_map, hx, hy, Option.map_some] at h1
        exact Option.some.inj h1
    refine d_reg ?_
    refine h_q hflS rfl ?_
    refine h_val rfl (.int .i64 (l.length : Int)) (fun b w hb hH => e_slen ((argE0 hv hH).1) Try.underlying34 rfl rfl hb) ?_
    refine h_val rfl (.bool true) (fun b w hb hH => exec_cmp rfl rfl rfl (cmp_lss_t (by omega)) hb) ?_
    refine h_done (d_then rfl (d_skip (f_to (d_seq (d_block (d_seq ?_))))))
    refine d_parS 10 1 [⟨.quiet, [none], fun _ => v, []⟩, ⟨.quiet, [none], fun _ => .int .i64 ((j : Nat) : Int), []⟩, ⟨.quiet, [none], fun _ => elp v (j * 5), [0, 1]⟩, ⟨.quiet, [none], fun _ => .agg (encV x).toArray, [2]⟩, ⟨.quiet, [none], fun _ => v2, []⟩, ⟨.quiet, [none], fun _ => .int .i64 ((j : Nat) : Int), []⟩, ⟨.quiet, [none], fun _ => elp v2 (j * 5), [4, 5]⟩, ⟨.quiet, [none], fun _ => .agg (encV y).toArray, [6]⟩, ⟨.actv 0, [some false], fun _ => .bool true, [3, 7]⟩, ⟨.quiet, [some true], fun _ => .bool false, [8]⟩] [(0, v), (1, v2), (4, .bool false), (5, .int .i64 ((j : Nat) : Int)), (11, .int .i64 ((j : Nat) : Int)), (12, v), (13, .int .i64 (l.length : Int)), (14, .bool true)] (fun ρ => match ρ with | [r0] => [] | _ => []) (by kernel_rfl) (by kernel_rfl) ⟨rfl, rfl, rfl, rfl, rfl, rfl, rfl, rfl, trivial⟩ rfl ?_ ?_
    · skip
      refine s_cons (by intro r0_; exact ⟨rfl, fun b w hH hb => exec_q1 hflS rfl hb⟩) ?_
      refine s_cons (by intro r0_; exact ⟨rfl, fun b w hH hb => exec_q1 hflS rfl hb⟩) ?_
      refine s_cons (by intro r0_; exact ⟨rfl, fun b w hH hb => e_sidx okV ((argE0 hv hH).1) sl_api_Entry (j := j) hx rfl rfl rfl hb⟩) ?_
      refine s_cons (by intro r0_; exact ⟨rfl, fun b w hH hb => e_sagg okV (by decide) ((argE0 hv hH).1) (j := j) hx ty_api_Entry rfl rfl hb⟩) ?_
      refine s_cons (by intro r0_; exact ⟨rfl, fun b w hH hb => exec_q1 hflS rfl hb⟩) ?_
      refine s_cons (by intro r0_; exact ⟨rfl, fun b w hH hb => exec_q1 hflS rfl hb⟩) ?_
      refine s_cons (by intro r0_; exact ⟨rfl, fun b w hH hb => e_sidx okV ((argE0 hv2 hH).1) sl_api_Entry (j := j) hy rfl rfl rfl hb⟩) ?_
      refine s_cons (by intro r0_; exact ⟨rfl, fun b w hH hb => e_sagg okV (by decide) ((argE0 hv2 hH).1) (j := j) hy ty_api_Entry rfl rfl hb⟩) ?_
      refine s_cons (by exact ⟨rfl, Acts.su (a_call (ent_of Try.func54 (by kernel_rfl) rfl) (fun w hH => samee_true w x y ((argE0 hv hH).2 x hmx) ((argE0 hv2 hH).2 y hmy) hxy) rfl rfl rfl) rfl⟩) ?_
      refine s_cons (by intro v0_; exact ⟨rfl, fun b w hH hb => exec_q1 hflS rfl hb⟩) ?_
      exact s_nil
    intro v0_
    refine WL2.keep (env' := [(0, v), (1, v2), (4, .bool false), (5, .int .i64 ((j : Nat) : Int)), (11, .int .i64 ((j : Nat) : Int)), (12, v), (13, .int .i64 (l.length : Int)), (14, .bool true), (17, v), (18, .int .i64 ((j : Nat) : Int)), (19, elp v (j * 5)), (20, .agg (encV x).toArray), (21, v2), (22, .int .i64 ((j : Nat) : Int)), (23, elp v2 (j * 5)), (24, .agg (encV y).toArray), (25, .bool true), (26, .bool false)]) ⟨rfl, rfl, rfl, rfl, rfl, rfl, rfl, rfl, rfl, rfl, rfl, rfl, rfl, rfl, rfl, rfl, rfl, rfl, trivial⟩ ?_
    refine h_nil (f_to (d_else rfl (d_skip (f_block (f_to (d_reg1 ?_))))))
    refine h_q hflS rfl ?_
    refine h_val rfl (.int .i64 ((j + 1 : Nat) : Int)) (fun b w hb hH => exec_ar rfl rfl rfl rfl (by rw [IntWalk.i64_in _ (by omega)]; omega) hb) ?_
    refine h_q hflS rfl ?_
    refine h_nil ?_
    exact f_again (j + 1) 0 hj (show l.length - (j + 1) < l.length - j by omega) ⟨rfl, rfl, rfl, rfl, trivial⟩ rfl
  · skip
    refine d_reg ?_
    refine h_q hflS rfl ?_
    refine h_val rfl (.int .i64 (l.length : Int)) (fun b w hb hH => e_slen ((argE0 hv hH).1) Try.underlying34 rfl rfl hb) ?_
    refine h_val rfl (.bool false) (fun b w hb hH => exec_cmp rfl rfl rfl (cmp_lss_f (by omega)) hb) ?_
    refine h_done (d_else rfl (d_exit (f_then_exit (f_then_exit (f_block_exit (f_to (d_reg ?_)))))))
    refine h_q hflS rfl ?_
    refine h_done (d_ret ?_)
    exact f_fin1 (.tmp rfl) (fun w h => ⟨rfl, below0 h.up⟩) rfl

end Go.Proofs.Ytnebloeideodmaa.Sep

namespace Go.Proofs.Ytnebloeideodmaa.Sep
open Go.RowKit
open Go.Proofs.Ytnebloeideodmaa.Mem (Dist Blk Chg below0)

/-! ## A ring -/
def zeroV : EntV := ⟨⟨0, 0, 0, [], 0⟩, none, 0⟩
def slotI (f N k : Nat) : Nat := if f + k < N then f + k else f + k - N
theorem slotI_lt {f N k : Nat} (hf : f < N) (hk : k < N) : slotI f N k < N := by unfold slotI; split <;> omega
theorem slotI_mod {f N k : Nat} (hf : f < N) (hk : k ≤ N) : ((f : Int) + (k : Int)).tmod (N : Int) = ((slotI f N k : Nat) : Int) := by
  rw [Int.tmod_eq_emod_of_nonneg (by omega)]
  unfold slotI
  split
  · rw [Int.emod_eq_of_lt (by omega) (by omega)]; push_cast; rfl
  · rw [← Int.sub_emod_right, Int.emod_eq_of_lt (by omega) (by omega)]; omega
theorem slotI_ne {f N k j : Nat} (hf : f < N) (hk : k < N) (hj : j < N) (h : k ≠ j) : slotI f N k ≠ slotI f N j := by
  unfold slotI; split <;> split <;> omega
theorem slotI_succ {f N k : Nat} (hf : f < N) (hk : k + 1 < N) : slotI (slotI f N 1) N k = slotI f N (k + 1) := by
  unfold slotI; split <;> split <;> split <;> omega
structure RingD (sl : List EntV) (f : Nat) (es : List EntD) : Prop where
  le : es.length ≤ sl.length
  sz : sl.length ≤ 5026338869833
  ff : (sl.length = 0 ∧ f = 0) ∨ f < sl.length
  at_ : ∀ (k : Nat) (e : EntD), es[k]? = some e → ∃ x, sl[slotI f sl.length k]? = some x ∧ x.e = e
theorem ring_none : RingD [] 0 [] := ⟨Nat.le_refl _, Nat.zero_le _, .inl ⟨rfl, rfl⟩, fun k e h => by simp at h⟩
theorem RingD.lt {sl : List EntV} {f k : Nat} {es : List EntD} (h : RingD sl f es) (hk : k < es.length) : f < sl.length := by
  have := h.le
  rcases h.ff with h | h <;> omega
theorem RingD.add {sl : List EntV} {f : Nat} {es : List EntD} (h : RingD sl f es) (hn : es.length < sl.length) {x : EntV} {e : EntD} (hx : x.e = e) : RingD (sl.set (slotI f sl.length es.length) x) f (es ++ [e]) := by
  have hf : f < sl.length := by rcases h.ff with h | h <;> omega
  refine ⟨by rw [List.length_set, List.length_append]; exact hn, by rw [List.length_set]; exact h.sz, by rw [List.length_set]; exact .inr hf, fun k y hy => ?_⟩
  rw [List.length_set]
  rcases Nat.lt_or_ge k es.length with hk | hk
  · rw [List.getElem?_append_left hk] at hy
    rw [List.getElem?_set_ne (slotI_ne hf hn (by omega) (by omega))]
    exact h.at_ k y hy
  · have hk2 : k = es.length := by
      have := (List.getElem?_eq_some_iff.1 hy).1
      rw [List.length_append, List.length_singleton] at this; omega
    subst hk2
    rw [List.getElem?_append_right (Nat.le_refl _), Nat.sub_self] at hy
    obtain rfl : e = y := Option.some.inj hy
    exact ⟨x, by rw [List.getElem?_set_self (slotI_lt hf hn)], hx⟩
theorem RingD.cut {sl : List EntV} {f m : Nat} {es : List EntD} (h : RingD sl f es) (hm : m + 1 = es.length) {x : EntV} : RingD (sl.set (slotI f sl.length m) x) f (es.take m) := by
  have hf : f < sl.length := h.lt (k := m) (by omega)
  have hle := h.le
  refine ⟨by rw [List.length_set, List.length_take]; omega, by rw [List.length_set]; exact h.sz, by rw [List.length_set]; exact .inr hf, fun k y hy => ?_⟩
  rw [List.length_set]
  rw [List.getElem?_take] at hy
  split at hy
  · rw [List.getElem?_set_ne (slotI_ne hf (by omega) (by omega) (by omega))]
    exact h.at_ k y hy
  · cases hy
theorem RingD.drop {sl : List EntV} {f : Nat} {es : List EntD} (h : RingD sl f es) (hm : 0 < es.length) {x : EntV} : RingD (sl.set (slotI f sl.length 0) x) (slotI f sl.length 1) (es.drop 1) := by
  have hf : f < sl.length := h.lt hm
  have hle := h.le
  have h1 : slotI f sl.length 1 < sl.length := by unfold slotI; split <;> omega
  refine ⟨by rw [List.length_set, List.length_drop]; omega, by rw [List.length_set]; exact h.sz, by rw [List.length_set]; exact .inr h1, fun k y hy => ?_⟩
  rw [List.length_set]
  rw [List.getElem?_drop] at hy
  have hk := (List.getElem?_eq_some_iff.1 hy).1
  rw [slotI_succ hf (by omega), List.getElem?_set_ne (slotI_ne hf (by omega) (by omega) (by omega)), Nat.add_comm k 1]
  exact h.at_ (1 + k) y hy
def rotL (sl : List EntV) (f : Nat) : List EntV := sl.drop f ++ sl.take f
theorem rotL_len {sl : List EntV} {f : Nat} : (rotL sl f).length = sl.length := by unfold rotL; rw [List.length_append, List.length_drop, List.length_take]; omega
theorem rotL_at {sl : List EntV} {f k : Nat} (hf : f < sl.length) (hk : k < sl.length) : (rotL sl f)[k]? = sl[slotI f sl.length k]? := by
  unfold rotL slotI
  split
  · rw [List.getElem?_append_left (by rw [List.length_drop]; omega), List.getElem?_drop]
  · rw [List.getElem?_append_right (by rw [List.length_drop]; omega), List.length_drop, List.getElem?_take, if_pos (by omega)]
    congr 1; omega
theorem RingD.grow {sl : List EntV} {f : Nat} {es : List EntD} (h : RingD sl f es) (hn : es.length = sl.length) (hs : 2 * es.length + 1 ≤ 5026338869833) : RingD (rotL sl f ++ List.replicate (sl.length + 1) zeroV) 0 es := by
  refine ⟨by rw [List.length_append, rotL_len]; omega, by rw [List.length_append, rotL_len, List.length_replicate]; omega, .inr (by rw [List.length_append, List.length_replicate]; omega), fun k e he => ?_⟩
  have hk := (List.getElem?_eq_some_iff.1 he).1
  obtain ⟨x, hx, hxe⟩ := h.at_ k e he
  refine ⟨x, ?_, hxe⟩
  rw [List.length_append, rotL_len, List.length_replicate]
  have : slotI 0 (sl.length + (sl.length + 1)) k = k := by unfold slotI; split <;> omega
  rw [this, List.getElem?_append_left (by rw [rotL_len]; omega), rotL_at (h.lt hk) (by omega), hx]

/-! ## A log -/
/-- may entries stand behind an index and a term? -/
def folB : Int → Int → List EntD → Bool
  | _, _, [] => true
  | i, t, e :: r => rightE e && (decide (e.i = i + 1) && (decide (t ≤ e.t) && folB e.i e.t r))
theorem folB_cons {i t : Int} {e : EntD} {r : List EntD} : folB i t (e :: r) = (rightE e && (decide (e.i = i + 1) && (decide (t ≤ e.t) && folB e.i e.t r))) := rfl
structure InvL (bi bt : Int) (es : List EntD) : Prop where
  hi : 0 ≤ bi ∧ bi ≤ 72057594037927935
  ht : 0 ≤ bt ∧ bt ≤ 72057594037927935
  hf : folB bi bt es = true
/-- the term at the last entry -/
def ltm : Int → List EntD → Int
  | t, [] => t
  | _, e :: r => ltm e.t r
theorem ltm_push : ∀ {l : List EntD} {t : Int} {e : EntD}, ltm t (l ++ [e]) = e.t
  | [], _, _ => rfl
  | x :: r, t, e => by rw [List.cons_append]; show ltm x.t (r ++ [e]) = _; exact ltm_push
theorem ltm_at {l : List EntD} {t : Int} {n : Nat} {e : EntD} (hl : l.length = n + 1) (h : l[n]? = some e) : ltm t l = e.t := by
  have : l = l.take n ++ [e] := by
    have h1 := List.take_add_one (l := l) (i := n)
    rw [h, List.take_of_length_le (by omega)] at h1
    exact h1
  rw [this]; exact ltm_push
theorem fol_at : ∀ {es : List EntD} {i t : Int} {k : Nat} {e : EntD}, folB i t es = true → es[k]? = some e → e.i = i + 1 + (k : Int) ∧ rightE e = true ∧ t ≤ e.t
  | [], _, _, _, _, _, h => by simp at h
  | x :: r, i, t, k, e, h, hk => by
    rw [folB_cons] at h
    simp only [Bool.and_eq_true, decide_eq_true_eq] at h
    obtain ⟨h1, h2, h3, h4⟩ := h
    cases k with
    | zero =>
      obtain rfl : x = e := by simpa using hk
      exact ⟨by rw [h2]; simp, h1, h3⟩
    | succ k =>
      have hk' : r[k]? = some e := by simpa using hk
      obtain ⟨h5, h6, h7⟩ := fol_at h4 hk'
      exact ⟨by rw [h5, h2]; push_cast; omega, h6, by omega⟩
theorem fol_len {es : List EntD} {i t : Int} (h : folB i t es = true) (hi : 0 ≤ i ∧ i ≤ 72057594037927935) : i + (es.length : Int) ≤ 72057594037927935 := by
  cases hl : es.length with
  | zero => simp; exact hi.2
  | succ n =>
    obtain ⟨e, he⟩ : ∃ e, es[n]? = some e := ⟨_, List.getElem?_eq_getElem (by omega)⟩
    obtain ⟨h1, h2, _⟩ := fol_at h he
    have := (rightE_iff h2).2.1
    push_cast; omega
theorem InvL.at_ {bi bt : Int} {es : List EntD} (h : InvL bi bt es) {k : Nat} {e : EntD} (he : es[k]? = some e) : e.i = bi + 1 + (k : Int) ∧ rightE e = true ∧ bt ≤ e.t ∧ (1 ≤ e.t ∧ e.t ≤ 72057594037927935) := by
  obtain ⟨h1, h2, h3⟩ := fol_at h.hf he
  exact ⟨h1, h2, h3, (rightE_iff h2).1⟩
theorem InvL.len {bi bt : Int} {es : List EntD} (h : InvL bi bt es) : bi + (es.length : Int) ≤ 72057594037927935 := fol_len h.hf h.hi
/-- the term at an index, and whether there is one -/
def termM (bi bt : Int) (es : List EntD) (x : Int) : Int × Bool :=
  if x = bi then (bt, true) else if x < bi then (0, false) else match es[(x - bi - 1).toNat]? with
    | some e => (e.t, true)
    | none => (0, false)
theorem termM_base {bi bt : Int} {es : List EntD} : termM bi bt es bi = (bt, true) := by unfold termM; rw [if_pos rfl]
theorem termM_off {bi bt : Int} {es : List EntD} {x : Int} (h : x < bi ∨ bi + (es.length : Int) < x) : termM bi bt es x = (0, false) := by
  unfold termM
  rw [if_neg (by omega)]
  rcases h with h | h
  · rw [if_pos h]
  · rw [if_neg (by omega), List.getElem?_eq_none (by omega)]
theorem termM_at {bi bt : Int} {es : List EntD} {x : Int} {k : Nat} {e : EntD} (hx : x = bi + 1 + (k : Int)) (h : es[k]? = some e) : termM bi bt es x = (e.t, true) := by
  unfold termM
  rw [if_neg (by omega), if_neg (by omega), show (x - bi - 1).toNat = k by omega, h]
theorem termM_last {bi bt : Int} {es : List EntD} : termM bi bt es (bi + (es.length : Int)) = (ltm bt es, true) := by
  cases hl : es.length with
  | zero => rw [List.length_eq_zero_iff.1 hl]; simp [termM_base, ltm]
  | succ n =>
    obtain ⟨e, he⟩ : ∃ e, es[n]? = some e := ⟨_, List.getElem?_eq_getElem (by omega)⟩
    rw [termM_at (k := n) (e := e) (by push_cast; omega) he, ltm_at hl he]
/-- how many entries there are up to an index -/
def upM (bi : Int) (n : Nat) (x : Int) : Nat := min (x - bi).toNat n
theorem upM_le {bi x : Int} {n : Nat} : upM bi n x ≤ n := Nat.min_le_right _ _
/-- the members that entries tell last, and where -/
def cfL : Int × Int → List EntD → Int × Int
  | s, [] => s
  | s, e :: r => cfL (if e.k = 2 then (e.c, e.i) else s) r
theorem cfL_push : ∀ {l : List EntD} {s : Int × Int} {e : EntD}, cfL s (l ++ [e]) = if e.k = 2 then (e.c, e.i) else cfL s l
  | [], _, _ => rfl
  | x :: r, s, e => by rw [List.cons_append]; show cfL _ (r ++ [e]) = _; rw [cfL_push]; rfl
theorem cfL_take {l : List EntD} {s : Int × Int} {n : Nat} {e : EntD} (h : l[n]? = some e) : cfL s (l.take (n + 1)) = if e.k = 2 then (e.c, e.i) else cfL s (l.take n) := by
  rw [List.take_add_one, h]
  exact cfL_push
end Go.Proofs.Ytnebloeideodmaa.Sep

namespace Go.Proofs.Ytnebloeideodmaa.Sep
open Go.RowKit
open Go.Proofs.Ytnebloeideodmaa.Mem (Dist Blk Chg below0)

/-- an entry's bytes -/
def dat (x : EntV) : Ass := Vec 5 1 encB x.v x.e.d
theorem dat_zero : dat zeroV [] := nilVec _ _ _
structure RgV where
  v : Value
  sl : List EntV
  f : Nat
def LogD (g : Nat) (bi bt bc : Int) (es : List EntD) : Ass := fun rs => ∃ x : RgV, Parts [cell g 67 #[.int .u64 bi, .int .u64 bt, .int .i64 bc, x.v, .int .i64 (x.f : Int), .int .i64 (es.length : Int)], Vec 32 5 encV x.v x.sl, Each dat x.sl, fact (RingD x.sl x.f es)] rs
theorem LogD.open_ {g : Nat} {bi bt bc : Int} {es : List EntD} : ∀ rs, LogD g bi bt bc es rs → ∃ x : RgV, Parts [cell g 67 #[.int .u64 bi, .int .u64 bt, .int .i64 bc, x.v, .int .i64 (x.f : Int), .int .i64 (es.length : Int)], Vec 32 5 encV x.v x.sl, Each dat x.sl, fact (RingD x.sl x.f es)] rs := fun _ h => h
theorem LogD.mk {g : Nat} {bi bt bc : Int} {v : Value} {sl : List EntV} {f : Nat} {es : List EntD} {n : Nat} (hn : es.length = n) (h : RingD sl f es) : ∀ rs, Parts [cell g 67 #[.int .u64 bi, .int .u64 bt, .int .i64 bc, v, .int .i64 (f : Int), .int .i64 (n : Int)], Vec 32 5 encV v sl, Each dat sl] rs → LogD g bi bt bc es rs := fun rs hr => by
  subst hn
  exact ⟨⟨v, sl, f⟩, fact_add (xs := [_, _, _]) h hr⟩
/-- an element's bytes taken out; another's put in its place -/
theorem dat_out {sl : List EntV} {j : Nat} {x : EntV} (hj : sl[j]? = some x) : ∀ rs, Each dat sl rs → ∃ _ : Unit, Parts [Each dat (sl.take j), dat x, Each dat (sl.drop (j + 1))] rs := each_open hj
theorem dat_in {sl : List EntV} {j : Nat} {y : EntV} (hj : j < sl.length) : ∀ rs, Parts [Each dat (sl.take j), dat y, Each dat (sl.drop (j + 1))] rs → Each dat (sl.set j y) rs := fun rs h => by
  rw [← each_set hj]; exact each_back _ h
theorem each_perm {α : Type} {f : α → Ass} {a b : List α} : ∀ rs, Each f (a ++ b) rs → ∃ rs', rs.Perm rs' ∧ Each f (b ++ a) rs' := fun rs h => by
  unfold Each at h ⊢
  rw [List.map_append] at h
  obtain ⟨p, q, rfl, h1, h2⟩ := h.split
  exact ⟨q ++ p, List.perm_append_comm, by rw [List.map_append]; exact Parts.app h2 h1⟩
theorem each_more {α : Type} {f : α → Ass} {a b : List α} (h0 : ∀ x ∈ b, f x []) : ∀ rs, Each f a rs → Each f (a ++ b) rs := fun rs h => by
  induction b generalizing a with
  | nil => simpa using h
  | cons x r ih =>
    have h1 : Each f (a ++ [x]) rs := by
      have := h.push (h0 x (by simp))
      simpa using this
    have := ih (fun y hy => h0 y (by simp [hy])) h1
    simpa using this
theorem rot_zero {sl : List EntV} {f m : Nat} : ∀ rs, Each dat sl rs → ∃ rs', rs.Perm rs' ∧ Each dat (rotL sl f ++ List.replicate m zeroV) rs' := fun rs h => by
  rw [← List.take_append_drop f sl] at h
  obtain ⟨rs', p, h1⟩ := each_perm _ h
  exact ⟨rs', p, each_more (fun x hx => by rw [List.eq_of_mem_replicate hx]; exact dat_zero) _ h1⟩
theorem d_perm {P : Program} {Q : Exit → Act → World → Prop} {n : Nat} {env : List (Nat × Value)} {B : Nat → Prop} {w0 : World} {os : List Ass} {c : Code} {t t' : Ass} (i : Nat) (hi : os[i]? = some t) (hp : ∀ rs, t rs → ∃ rs', rs.Perm rs' ∧ t' rs') (h : WC2 P Q n env B w0 (os.set i t') c) : WC2 P Q n env B w0 os c := by
  refine WC2.via (fun _ : Unit => os.set i t') (fun rs hr => ?_) fun _ => h
  obtain ⟨a, x, b, e, h3, h4⟩ := Parts.at_ hr hi
  subst e
  obtain ⟨x', p, h5⟩ := hp _ h3
  exact ⟨(), a ++ (x' ++ b), (p.append_right b).append_left a, h4 _ x' h5⟩
section
variable {P : Program} {B : Nat → Prop} {w0 w : World} {os : List Ass} {n : Nat} {env : List (Nat × Value)} {o : Oper} {act : Act} {e : TypeId} {k : Nat} {α : Type} {enc : α → List Value} {v : Value} {l : List α}
/-- the address of a slice's element is none of nil -/
theorem e_vnil (i : Nat) (hi : os[i]? = some (Vec e k enc v l)) {j : Nat} (hj : j < l.length) {x : Operand} (ho : o.op = .nilCheck x) (hx : evs env x = some (elp v (j * k))) (hH : Hp B w0 w os) (hF : Fr n act env) : (execOp act.eval o).run P w = .ok (.value (elp v (j * k))) w := by
  obtain ⟨rs, hv, _⟩ := hH.thing i hi
  rcases hv with ⟨_, h2, _⟩ | ⟨g, c, cs, h2, _⟩
  · subst h2; exact absurd hj (Nat.not_lt_zero _)
  · subst h2
    have : elp (.slice (some ⟨g, 0, none⟩) l.length c) (j * k) = .pointer (some ⟨g, j * k, none⟩) := by simp [elp]
    rw [this] at hx ⊢
    exact exec_nilCheck ho hx hF
end
section
variable {P : Program} {Q : Exit → Act → World → Prop} {n : Nat} {B : Nat → Prop} {w w0 : World} {os : List Ass} {env : List (Nat × Value)} {o : Oper} {t e ty : TypeId} {rs : List RowT}
def zcs : Array Value := #[.int .i64 0, .int .u64 0, .int .u64 0, .slice none 0 0, .int .i64 0]
theorem zeros_flat : ∀ N : Nat, (List.range (N * 5)).map (fun i => zcs[i % 5]!) = flat encV (List.replicate N zeroV)
  | 0 => rfl
  | N + 1 => by
    rw [show (N + 1) * 5 = N * 5 + 1 + 1 + 1 + 1 + 1 by omega]
    simp only [List.range_succ, List.map_append, List.map_cons, List.map_nil, List.append_assoc, zeros_flat N, List.replicate_succ', flat_app]
    congr 1
    rw [show N * 5 % 5 = 0 by omega, show (N * 5 + 1) % 5 = 1 by omega, show (N * 5 + 1 + 1) % 5 = 2 by omega, show (N * 5 + 1 + 1 + 1) % 5 = 3 by omega, show (N * 5 + 1 + 1 + 1 + 1) % 5 = 4 by omega]
    rfl
theorem run_mkroom (hT : SliceT P t e 5) (hb : (P.info? e).map (fun i => i.bytes) = some 56) (hz : ∀ w, (zeroValue e).run P w = .ok (.agg zcs) w) {N : Nat} (hN : 1 ≤ N ∧ N * 56 ≤ 281474976710656) (w : World) : (Instr.makeSlice t (.int .i64 0) (.int .i64 (N : Int))).run P w = .ok (.slice (some ⟨w.heap.size, 0, none⟩) 0 N) (w.alloc (.cells (flat encV (List.replicate N zeroV)).toArray e)) := by
  obtain ⟨inf, z, hinf, hzz, hk, _, hzs, _⟩ := hT.inf
  have hb1 : inf.bytes = 56 := by simpa [hinf] using hb
  have h1 : IntKind.i64.wrap (N : Int) = (N : Int) := IntWalk.i64_in _ (by omega)
  have h2 : ¬ ((N : Int) < 0) := by omega
  have h3 : ¬ ((281474976710656 : Int) < 56 * (N : Int)) := by omega
  have hw0 : IntKind.i64.wrap 0 = 0 := by decide
  have h0 : N * 5 ≠ 0 := by omega
  have hm : (Array.range (N * 5)).map (fun i => zcs[i % 5]!) = (flat encV (List.replicate N zeroV)).toArray := by
    rw [← zeros_flat]
    apply Array.ext'
    simp [Array.toList_range]
  have hr : ∀ w, (askRoom (N * 56)).run P w = .ok () w := fun w => by
    unfold askRoom; split
    · rfl
    · rfl
  have hzc : (Value.agg zcs).cells = zcs := by rfl
  have hzs5 : zcs.size = 5 := rfl
  simp [Instr.makeSlice, run_underlying hT.ht, asInt, asIntOf, typeInfo, hinf, hb1, h1, h2, h3, hw0, hr, hT.sizeOf, hz, h0, newRow, Sem.run_bind, hzc, hzs5]
  simp [hm, Sem.run]
/-- a slice of no entries with room for so many: the row is all of them, zero -/
theorem a_mkroom (hT : SliceT P t e 5) (hb : (P.info? e).map (fun i => i.bytes) = some 56) (hz : ∀ w, (zeroValue e).run P w = .ok (.agg zcs) w) {N : Nat} (hN : 1 ≤ N ∧ N * 56 ≤ 281474976710656) {x y : Operand} (ho : o.op = .makeSlice t x y) (hx : evs env x = some (.int .i64 0)) (hy : evs env y = some (.int .i64 (N : Int))) : Acts P Q n env B w0 os o (fun g : Nat => .slice (some ⟨g, 0, none⟩) 0 N) (fun g => Vec e 5 encV (.slice (some ⟨g, 0, none⟩) N N) (List.replicate N zeroV) :: os) := fun b w hH hF K hK => by
  have hrun : (execOp b.eval o).run P w = .ok (.value (.slice (some ⟨w.heap.size, 0, none⟩) 0 N)) (w.alloc (.cells (flat encV (List.replicate N zeroV)).toArray e)) := by
    unfold execOp
    simp [ho, hF.evs hx, hF.evs hy, Sem.run_bind, run_mkroom hT hb hz hN]
  refine a_val (w0 := w) b hrun (hK w.heap.size _ ?_)
  have := hH.new e (flat encV (List.replicate N zeroV)).toArray
  obtain ⟨rs, ⟨r1, r2, e1, h1, h2⟩, h3⟩ := this
  unfold cell at h1
  refine ⟨rs, ⟨r1, r2, e1, .inr ⟨w.heap.size, N, (flat encV (List.replicate N zeroV)).toArray, by rw [List.length_replicate], by rw [List.length_replicate]; exact Nat.le_refl _, by unfold maxLen; omega, ?_, ?_, h1⟩, h2⟩, h3⟩
  · rw [List.size_toArray, flat_len okV, List.length_replicate]
  · rw [List.length_replicate, List.take_of_length_le (by simp [flat_len okV])]
/-- append where there is room -/
theorem a_appendRoom (i : Nat) {α : Type} {k : Nat} {enc : α → List Value} (hk : 0 < k) (hT : SliceT P t e k) (he : EncOf k enc) {g N j : Nat} {L : List α} (hi : os[i]? = some (Vec e k enc (.slice (some ⟨g, 0, none⟩) N N) L)) (hL : L.length = N) (hj : j < N) (x : α) {u : Value} (hu : ∀ w, Hp B w0 w os → SlRd w k u 1 (flat enc [x])) {y z : Operand} (ho : o.op = .call { callee := .builtin .append, args := #[y, z], argTypes := #[t, t] }) (hx : evs env y = some (.slice (some ⟨g, 0, none⟩) j N)) (hy : evs env z = some u) :
    Acts P Q n env B w0 os o (fun _ : Unit => .slice (some ⟨g, 0, none⟩) (j + 1) N) (fun _ => os.set i (Vec e k enc (.slice (some ⟨g, 0, none⟩) N N) (L.set j x))) := fun act w hH hF K hK => by
  obtain ⟨rs, hv, hr⟩ := hH.thing i hi
  obtain ⟨hul, A, c, rfl, hA⟩ := hu w hH
  have hxk : (flat enc [x]).length = k := by rw [flat_len he]; simp
  rcases hA with ⟨rfl, hm⟩ | ⟨a, rfl, hcells⟩
  · cases hm
  rcases hv with ⟨h1, h2, _⟩ | ⟨g', cap, cs, h1, h2, h3, h4, h5, h6⟩
  · subst h2; simp at hL; omega
  simp only [Value.slice.injEq, Option.some.injEq, Addr.mk.injEq] at h1
  obtain ⟨⟨rfl, _, _⟩, _, rfl⟩ := h1
  subst h6
  obtain ⟨inf, zv, hinf, hzz, hks, _, hzs, _⟩ := hT.inf
  have hg : w.heap[g]? = some (.cells cs e (0, 0)) := hr.1
  have hNk : j * k + k ≤ N * k := by
    have := Nat.mul_le_mul_right k (show j + 1 ≤ N by omega)
    rwa [Nat.add_mul, Nat.one_mul] at this
  have hrun := run_append_room (P := P) w t o.type e inf hT.ht hinf g j N cs hg a 1 c (flat enc [x]) (by rw [hks, hxk]; omega) hcells (flat_one he [x]) (by omega) (by rw [hks, hxk, h4]; exact hNk)
  rw [hks, hxk] at hrun
  obtain ⟨w2, hw2⟩ : ∃ w2, w.setRow g (cs.toList.take (j * k) ++ flat enc [x] ++ cs.toList.drop (j * k + k)).toArray = w2 := ⟨_, rfl⟩
  rw [hw2] at hrun
  refine a_val (w0 := w) act (exec_bi ho (vs := [.slice (some ⟨g, 0, none⟩) j N, .slice (some a) 1 c]) (by simp [evl, hx, hy]) (fun cs => ?_) hF) (hK () w2 ?_)
  · simp only [builtin, Sem.run_bind, Sem.run_pure, Result.andThen_ok, hrun]
  · subst hw2
    refine hH.turn i hi fun y hy hry _ => ?_
    rcases hy with ⟨h0, _, _⟩ | ⟨g2, cap2, cs2, h0, h02, h03, h04, h05, h06⟩
    · simp at h0
    · simp only [Value.slice.injEq, Option.some.injEq, Addr.mk.injEq] at h0
      obtain ⟨⟨rfl, _, _⟩, _, rfl⟩ := h0
      subst h06
      have hcs : cs2 = cs := by
        have e1 : w.heap[g]? = some (.cells cs2 e (0, 0)) := hry.1
        rw [hg] at e1
        simpa using e1.symm
      subst hcs
      have hcl : cs2.toList = flat enc L := by
        rw [← h05, hL, List.take_of_length_le (by simp [h04])]
      have hfl : (flat enc [x]) = enc x := by simp [flat]
      have hnew : cs2.toList.take (j * k) ++ flat enc [x] ++ cs2.toList.drop (j * k + k) = flat enc (L.set j x) := by
        rw [hcl, hfl]; exact flat_set he (by omega) x
      rw [hnew]
      have hflat : (flat enc (L.set j x)).length = N * k := by rw [flat_len he, List.length_set, hL]
      refine ⟨[(g, tyR e, (flat enc (L.set j x)).toArray)], .inr ⟨g, N, _, by rw [List.length_set, hL], by rw [List.length_set, hL]; exact Nat.le_refl _, h03, by simpa using hflat, ?_, rfl⟩, ⟨⟨rfl, rfl, rfl, ?_, fun p hp hb => ?_⟩, ⟨setRow_heap w g cs2 _ e _ hg, trivial⟩, ⟨(fun _ h => by cases h), trivial⟩, fun y hy _ => ?_⟩⟩
      · rw [List.length_set, hL, List.take_of_length_le (by simp [hflat])]
      · simp [World.setRow]
      · refine setRow_other w g p _ fun ee => hb ⟨(g, tyR e, cs2), by simp, ee.symm⟩
      · have : y = (g, tyR e, (flat enc (L.set j x)).toArray) := by simpa using hy
        subst this
        exact ⟨(g, tyR e, cs2), by simp, rfl⟩
end
end Go.Proofs.Ytnebloeideodmaa.Sep
