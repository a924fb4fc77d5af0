/-
  App · Bld · RpcD · May · Opz · RpcO · RpcE0 · RpcE · RpcF1 · RpcG · RpcH · RpcI · RpcJ · CmdS · RpcK · RpcL · RpcT · RlM
-/
import Derived.Test.YtnebloeideodmaaOC01
import Derived.Test.YtnebloeideodmaaOD03
import Derived.Test.YtnebloeideodmaaOD04
import Derived.Test.YtnebloeideodmaaOG01
import Derived.SizedLaws
import Derived.Lib.AppendStr
set_option linter.unusedSimpArgs false
set_option linter.unusedVariables false

namespace Go.Proofs.Ytnebloeideodmaa.Sep
open Go.RowKit
open Go.Proofs.Ytnebloeideodmaa.Mem (Dist Blk Chg)
section
variable {P : Program} {t e ty : TypeId} {k : Nat} {α : Type} {enc : α → List Value} {v u : Value} {l m : List α} {w w' : World} {rs : List RowT}
theorem run_appendK {nb : Nat} (hT : SliceT P t e k) (hb : (P.info? e).map (fun i => i.bytes) = some nb) (hb1 : 1 ≤ nb) (he : EncOf k enc) (h : Vec e k enc v l rs) (hr : RowsOf w rs) (hd : Dist rs) (hu : SlRd w k u m.length (flat enc m)) (hlen : (l.length + m.length) * nb ≤ 140737488355328) :
    ∃ v' w', (Builtin.append_ #[t, t] ty #[v, u]).run P w = .ok v' w' ∧ ∃ rs', Vec e k enc v' (l ++ m) rs' ∧ Chg w w' rs rs' := by
  obtain ⟨i, z, hi, hz, hk, hby, hzs, _⟩ := hT.inf
  have hbn : i.bytes = nb := by simpa [hi] using hb
  have hl1 : l.length + m.length ≤ 140737488355328 := Nat.le_trans (Nat.le_mul_of_pos_right _ hb1) hlen
  obtain ⟨hul, A, c, rfl, hA⟩ := hu
  have hu1 := flat_one he m
  rcases hA with ⟨rfl, hm⟩ | ⟨a, rfl, hcells⟩
  · have hm' : m = [] := List.length_eq_zero_iff.1 hm
    subst hm'
    refine ⟨v, w, ?_, rs, by simpa using h, ⟨Mod.refl _ _, hr, hd, fun x hx _ => ⟨x, hx, rfl⟩⟩⟩
    rcases h with ⟨h1, h2, h3⟩ | ⟨g, c', cs, h1, h2, h3, h4, h5, h6⟩
    · subst h1
      simp [Builtin.append_, run_underlying hT.ht, sizeOf, typeInfo, hi, Builtin.lenOf, Builtin.firstCells]
    · subst h1
      simp [Builtin.append_, run_underlying hT.ht, sizeOf, typeInfo, hi, Builtin.lenOf, Builtin.firstCells, h2, storeCells]
  · have hown : w.ownsRow 0 e k v l.length (flat enc l) := by
      refine ⟨flat_len he l, ?_⟩
      rcases h with ⟨h1, h2, h3⟩ | ⟨g, c', cs, h1, h2, h3, h4, h5, h6⟩
      · exact .inl ⟨h1, by rw [h2]; rfl⟩
      · subst h6
        exact .inr ⟨g, c', cs, h1, Nat.zero_le _, hr.1, h2, h3, h4, h5⟩
    obtain ⟨v', w', hrun, h2, h3, _, h5⟩ := run_append_own_at (P := P) w 0 t ty e i z k i.bytes hT.ht hi hz hk rfl hzs hT.pos v l.length (flat enc l) hown a m.length c (flat enc m) hul hcells hu1 (by unfold maxLen; omega)
      (by rw [hbn]; omega) (Nat.zero_le _)
    refine ⟨v', w', hrun, ?_⟩
    have hm : Mod (At v) w w' := Mod.of_grown h3 (fun k hk => hk)
    have hmB : Mod (Blk rs) w w' := hm.weaken fun j _ hj => by
      rcases h with ⟨h1, _, _⟩ | ⟨g, c', cs, h1, _, _, _, _, h6⟩
      · subst h1; unfold At at hj; simp [Value.ownBlock] at hj
      · subst h1; subst h6
        unfold At at hj
        simp [Value.ownBlock] at hj
        exact ⟨(g, tyR e, cs), by simp, hj⟩
    rcases h2.2 with ⟨h1, hn⟩ | ⟨g, c', cs, h1, _, hrow, hle, hmx, hsz, htk⟩
    · have : l ++ m = [] := List.length_eq_zero_iff.1 (by rw [List.length_append]; exact hn)
      exact ⟨[], .inl ⟨h1, this, rfl⟩, ⟨hmB, trivial, trivial, fun x hx => by simp at hx⟩⟩
    · refine ⟨[(g, tyR e, cs)], .inr ⟨g, c', cs, by rw [h1, List.length_append], by rw [List.length_append]; exact hle, hmx, hsz, by rw [List.length_append, flat_app]; exact htk, rfl⟩, ⟨hmB, ⟨hrow, trivial⟩, ⟨(fun _ h => by cases h), trivial⟩, fun x hx hlt => ?_⟩⟩
      have : x = (g, tyR e, cs) := by simpa using hx
      subst this
      rcases h5 with h5 | h5
      · subst h1
        rcases h with ⟨h1, _, _⟩ | ⟨g', c'', cs', h1, _, _, _, _, h6⟩
        · subst h1; simp [Value.ownBlock] at h5
        · subst h1; subst h6
          simp [Value.ownBlock] at h5
          exact ⟨(g', tyR e, cs'), by simp, h5.symm⟩
      · subst h1
        simp [Value.ownBlock] at h5
        exact absurd hlt (by show ¬ g < w.heap.size; omega)
variable {Q : Exit → Act → World → Prop} {n : Nat} {B : Nat → Prop} {w0 : World} {os : List Ass} {env : List (Nat × Value)} {o : Oper}
theorem a_appendK {nb : Nat} (i : Nat) (hT : SliceT P t e k) (he : EncOf k enc) (hb : (P.info? e).map (fun i => i.bytes) = some nb) (hb1 : 1 ≤ nb) (hi : os[i]? = some (Vec e k enc v l)) (m : List α) (hu : ∀ w, Hp B w0 w os → SlRd w k u m.length (flat enc m)) (hlen : (l.length + m.length) * nb ≤ 140737488355328) {x y : Operand} (ho : o.op = .call { callee := .builtin .append, args := #[x, y], argTypes := #[t, t] }) (hx : evs env x = some v) (hy : evs env y = some u) {r : List α} (hr : l ++ m = r) :
    Acts P Q n env B w0 os o (fun v : Value => v) (fun v' => os.set i (Vec e k enc v' r)) := fun act w hH hF K hK => by
  subst hr
  have hH' := hH
  obtain ⟨rs0, hp, hm⟩ := hH
  obtain ⟨a, z, b, e1, hz, hbb⟩ := hp.at_ hi
  subst e1
  have p : (a ++ (z ++ b)).Perm (z ++ (a ++ b)) := by rw [← List.append_assoc, ← List.append_assoc]; exact List.perm_append_comm.append_right b
  have h5 := hp_perm hm p
  have hd := dist_iff.1 h5.apart
  rw [List.map_append] at hd
  obtain ⟨v', w', hr, y', hy', hc⟩ := run_appendK (P := P) (ty := o.type) hT hb hb1 he hz (rows_iff.2 fun z hz => h5.rows.mem z (by simp [hz])) (dist_iff.2 (List.nodup_append.1 hd).1) (hu w hH') hlen
  have p' : (y' ++ (a ++ b)).Perm (a ++ (y' ++ b)) := by rw [← List.append_assoc, ← List.append_assoc]; exact List.perm_append_comm.append_right b
  refine a_val (w0 := w) act (exec_bi ho (vs := [v, u]) (by simp [evl, hx, hy]) (fun cs => ?_) hF) (hK v' w' ⟨_, hbb _ y' hy', hp_perm (hp_chg h5 hc) p'⟩)
  simp only [builtin, Sem.run_bind, Sem.run_pure, Result.andThen_ok, hr]
end
end Go.Proofs.Ytnebloeideodmaa.Sep

namespace Go.Proofs.Ytnebloeideodmaa.Sep
open Go.RowKit
open Go.Proofs.Ytnebloeideodmaa.Mem (Dist Blk Chg)
theorem fold_set : ∀ (ys : List Value) (n : Nat) (cs : Array Value), n + ys.length ≤ cs.size →
    ((ys.zipIdx n).foldl (fun (cs : Array Value) (p : Value × Nat) => cs.setIfInBounds p.2 p.1) cs).toList = cs.toList.take n ++ ys ++ cs.toList.drop (n + ys.length)
  | [], n, cs, _ => by simp
  | y :: ys, n, cs, h => by
    have hl : (y :: ys).length = ys.length + 1 := rfl
    have hn : n < cs.toList.length := by rw [Array.length_toList]; omega
    rw [List.zipIdx_cons, List.foldl_cons, fold_set ys (n + 1) _ (by rw [Array.size_setIfInBounds]; omega), Array.toList_setIfInBounds]
    have e1 : (cs.toList.set n y).take (n + 1) = cs.toList.take n ++ [y] := by
      rw [List.set_eq_take_append_cons_drop, if_pos hn, List.take_append, List.length_take, Nat.min_eq_left (by omega), List.take_of_length_le (by rw [List.length_take]; omega), show n + 1 - n = 1 by omega]
      rfl
    have e2 : (cs.toList.set n y).drop (n + 1 + ys.length) = cs.toList.drop (n + (ys.length + 1)) := by
      rw [List.drop_set, if_pos (by omega)]
      congr 1
      omega
    rw [e1, e2, hl]
    simp
variable {P : Program} {Q : Exit → Act → World → Prop} {n : Nat} {B : Nat → Prop} {w0 : World} {os : List Ass} {env : List (Nat × Value)} {o : Oper}
variable {t e : TypeId} {k : Nat} {α : Type} {enc : α → List Value}
theorem fill_one {v : Value} {cells : Array Value} (h : v.cells.size = cells.size) (hk : v.cells.size = k) : Instr.fill (fun i => some (i * k, k)) cells [(0, v)] = some v.cells := by
  have h1 : ¬ ((v.cells.size ≠ k || 0 * k + v.cells.size > cells.size) = true) := by simp [hk]; omega
  have h2 : (v.cells.zipIdx.foldl (fun (cs : Array Value) (p : Value × Nat) => cs.setIfInBounds (0 * k + p.2) p.1) cells) = v.cells := by
    have hf : (fun (cs : Array Value) (p : Value × Nat) => cs.setIfInBounds (0 * k + p.2) p.1) = fun cs p => cs.setIfInBounds p.2 p.1 := by
      funext cs p
      rw [Nat.zero_mul, Nat.zero_add]
    rw [hf, ← Array.foldl_toList, Array.toList_zipIdx]
    apply Array.toList_inj.1
    rw [fold_set _ 0 _ (by rw [Array.length_toList]; omega), Array.length_toList]
    simp [h]
  unfold Instr.fill
  simp only
  rw [if_neg h1]
  exact congrArg some h2
theorem run_buildK (hT : SliceT P t e k) (hk : k ≤ 4096) {x : Value} (hx : x.cells.size = k) (w : World) : (Instr.buildSlice t 1 #[(0, x)]).run P w = .ok (.slice (some ⟨w.heap.size, 0, none⟩) 1 1) (w.alloc (.cells x.cells e)) := by
  obtain ⟨inf, z, hinf, hz, hsz, _, hzs, _⟩ := hT.inf
  have hp := hT.pos
  have hf : Instr.fill (fun i => some (i * k, k)) ((Array.range k).map (fun j => z.cells[j % z.cells.size]!)) [(0, x)] = some x.cells := fill_one (by simp [hx]) hx
  have h1 : ¬ 1 * k > 2 ^ 24 := by omega
  have h2 : ¬ 1 * k = 0 := by omega
  simp only [Instr.buildSlice, run_underlying hT.ht, hT.sizeOf, Sem.run_bind, Sem.run_pure, Result.andThen_ok, if_neg h1, if_neg h2, zeroValue, typeInfo, hinf, hz]
  simp [newRow, zeroValue, typeInfo, hinf, hz, h1, h2]
  rw [hf]
  simp
theorem a_buildK (hT : SliceT P t e k) (hk : k ≤ 4096) (he : EncOf k enc) {x : Operand} {c : Value} (a : α) (hc : c.cells.toList = enc a) (ho : o.op = .buildSlice t 1 #[(0, x)]) (hx : evs env x = some c) : Acts P Q n env B w0 os o (fun v : Value => v) (fun v => Vec e k enc v [a] :: os) := fun b w hH hF K hK => by
  have hsz : c.cells.size = k := by rw [← he.len a, ← hc, Array.length_toList]
  have hrun : (execOp b.eval o).run P w = .ok (.value (.slice (some ⟨w.heap.size, 0, none⟩) 1 1)) (w.alloc (.cells c.cells e)) := by
    unfold execOp
    simp [ho, hF.evs hx, Sem.run_bind, run_buildK hT hk hsz]
  refine a_val (w0 := w) b hrun (hK _ _ ?_)
  have := hH.new e c.cells
  obtain ⟨rs, ⟨r1, r2, e1, h1, h2⟩, h3⟩ := this
  unfold cell at h1
  exact ⟨rs, ⟨r1, r2, e1, .inr ⟨w.heap.size, 1, c.cells, rfl, Nat.le_refl _, by unfold maxLen; omega, by simp [hsz], by rw [hc]; simp only [flat, List.flatMap_cons, List.flatMap_nil, List.append_nil, List.length_cons, List.length_nil, Nat.zero_add, Nat.one_mul]; exact List.take_of_length_le (by rw [he.len]; exact Nat.le_refl _), h1⟩, h2⟩, h3⟩
end Go.Proofs.Ytnebloeideodmaa.Sep

namespace Go.Proofs.Ytnebloeideodmaa.Sep
open Go.RowKit
open Go.Proofs.Ytnebloeideodmaa.Mem (Dist Blk Chg below0)

section
variable {P : Program} {ops : Array Oper} {Q : Exit → Act → World → Prop} {n : Nat} {env : List (Nat × Value)} {B : Nat → Prop} {w0 : World} {os : List Ass} {t : Ass}
theorem new_thing (h : t []) : ∀ rs, Parts os rs → ∃ _ : Unit, ∃ rs', rs.Perm rs' ∧ Parts (t :: os) rs' := fun rs hr => ⟨(), rs, .refl _, [], rs, rfl, h, hr⟩
theorem d_new (h0 : t []) {c : Code} (h : WC2 P Q n env B w0 (t :: os) c) : WC2 P Q n env B w0 os c := WC2.via (fun _ : Unit => _) (new_thing h0) fun _ => h
theorem fact_add {xs : List Ass} {p : Prop} (hp : p) {z : List RowT} (h : Parts xs z) : Parts (xs ++ [fact p]) z := by
  have := Parts.app h (show Parts [fact p] [] from ⟨[], [], rfl, ⟨rfl, hp⟩, rfl⟩)
  rwa [List.append_nil] at this
end
/-- entries and where they lie -/
structure EsV where
  v : Value
  l : List EntV

set_option maxRecDepth 100000 in
theorem samee_true (w : World) (x y : EntV) (hx : Sl8 w x.v x.e.d) (hy : Sl8 w y.v y.e.d) (h : x.e = y.e) : Calls Try.prog 54 #[.agg #[.int .i64 x.e.k, .int .u64 x.e.t, .int .u64 x.e.i, x.v, .int .i64 x.e.c], .agg #[.int .i64 y.e.k, .int .u64 y.e.t, .int .u64 y.e.i, y.v, .int .i64 y.e.c]] w fun e w' => e = .returned (.bool true) ∧ Below w.heap.size w w' := by
  refine d_in (args := [.agg #[.int .i64 x.e.k, .int .u64 x.e.t, .int .u64 x.e.i, x.v, .int .i64 x.e.c], .agg #[.int .i64 y.e.k, .int .u64 y.e.t, .int .u64 y.e.i, y.v, .int .i64 y.e.c]]) 40 Try.func54 rfl rfl rfl ?_
  refine d_reg ?_
  refine h_q hflS rfl ?_
  refine h_act (post := fun gx => [cell gx 32 #[.int .i64 x.e.k, .int .u64 x.e.t, .int .u64 x.e.i, x.v, .int .i64 x.e.c]]) rfl (a_box (cs := #[.int .i64 x.e.k, .int .u64 x.e.t, .int .u64 x.e.i, x.v, .int .i64 x.e.c]) rfl rfl rfl) ?_; rintro gx
  refine h_act (post := fun gy => [cell gy 32 #[.int .i64 y.e.k, .int .u64 y.e.t, .int .u64 y.e.i, y.v, .int .i64 y.e.c], cell gx 32 #[.int .i64 x.e.k, .int .u64 x.e.t, .int .u64 x.e.i, x.v, .int .i64 x.e.c]]) rfl (a_box (cs := #[.int .i64 y.e.k, .int .u64 y.e.t, .int .u64 y.e.i, y.v, .int .i64 y.e.c]) rfl rfl rfl) ?_; rintro gy
  refine h_q hflS rfl ?_
  refine h_done (d_reg ?_)
  refine h_q hflS rfl ?_
  refine h_val rfl (.int .i64 x.e.k) (fun b w hb hH => exec_load rfl rfl (reads_one ty_int rfl) (hH.row 1 rfl) hb) ?_
  refine h_q hflS rfl ?_
  refine h_val rfl (.int .i64 y.e.k) (fun b w hb hH => exec_load rfl rfl (reads_one ty_int rfl) (hH.row 0 rfl) hb) ?_
  refine h_val rfl (.bool true) (fun b w hb hH => exec_cmp rfl rfl rfl (cmp_eql_t (by rw [h])) hb) ?_
  refine h_q hflS rfl ?_
  refine h_val rfl (.int .u64 x.e.t) (fun b w hb hH => exec_load rfl rfl (reads_one ty_uint64 rfl) (hH.row 1 rfl) hb) ?_
  refine h_q hflS rfl ?_
  refine h_val rfl (.int .u64 y.e.t) (fun b w hb hH => exec_load rfl rfl (reads_one ty_uint64 rfl) (hH.row 0 rfl) hb) ?_
  refine h_val rfl (.bool true) (fun b w hb hH => exec_cmp rfl rfl rfl (cmp_eql_t (by rw [h])) hb) ?_
  refine h_q hflS rfl ?_
  refine h_val rfl (.int .u64 x.e.i) (fun b w hb hH => exec_load rfl rfl (reads_one ty_uint64 rfl) (hH.row 1 rfl) hb) ?_
  refine h_q hflS rfl ?_
  refine h_val rfl (.int .u64 y.e.i) (fun b w hb hH => exec_load rfl rfl (reads_one ty_uint64 rfl) (hH.row 0 rfl) hb) ?_
  refine h_val rfl (.bool true) (fun b w hb hH => exec_cmp rfl rfl rfl (cmp_eql_t (by rw [h])) hb) ?_
  refine h_q hflS rfl ?_
  refine h_val rfl (x.v) (fun b w hb hH => exec_load rfl rfl (reads_one ty_s_uint8 rfl) (hH.row 1 rfl) hb) ?_
  refine h_val rfl (.string (bs x.e.d)) (fun b w hb hH => exec_str8 Try.underlying30 Try.underlying5 (by kernel_rfl) Try.underlying9 (arg80 hx hH) rfl rfl hb) ?_
  refine h_q hflS rfl ?_
  refine h_val rfl (y.v) (fun b w hb hH => exec_load rfl rfl (reads_one ty_s_uint8 rfl) (hH.row 0 rfl) hb) ?_
  refine h_val rfl (.string (bs y.e.d)) (fun b w hb hH => exec_str8 Try.underlying30 Try.underlying5 (by kernel_rfl) Try.underlying9 (arg80 hy hH) rfl rfl hb) ?_
  refine h_val rfl (.bool true) (fun b w hb hH => exec_same rfl rfl rfl (by rw [h]; simp) hb) ?_
  refine h_q hflS rfl ?_
  refine h_val rfl (.int .i64 x.e.c) (fun b w hb hH => exec_load rfl rfl (reads_one ty_int rfl) (hH.row 1 rfl) hb) ?_
  refine h_q hflS rfl ?_
  refine h_val rfl (.int .i64 y.e.c) (fun b w hb hH => exec_load rfl rfl (reads_one ty_int rfl) (hH.row 0 rfl) hb) ?_
  refine h_val rfl (.bool true) (fun b w hb hH => exec_cmp rfl rfl rfl (cmp_eql_t (by rw [h])) hb) ?_
  refine h_q hflS rfl ?_
  refine h_done (d_ret ?_)
  exact f_fin1 (.tmp rfl) (fun w h => ⟨rfl, below0 h.up⟩) rfl

set_option maxRecDepth 100000 in
theorem copye_does (u : World) (v : Value) (l : List EntV) (hv : EntsRd u v l) (hl : l.length * 56 ≤ 140737488351232) (hd : ∀ x, x ∈ l → x.e.d.length ≤ 140737488351232) : DoesU u Try.prog 39 #[v] [] (fun (x : EsV) => x.v) (fun (x : EsV) => [Ents 32 x.v x.l, fact (x.l.map (·.e) = l.map (·.e))]) := by
  refine d_insU (args := [v]) 29 Try.func39 rfl rfl rfl ?_; intro w rs hU hS
  refine d_reg ?_
  refine h_q hflS rfl ?_
  refine h_done (d_reg ?_)
  refine h_q hflS rfl ?_
  refine h_done (d_seq (d_reg ?_))
  refine h_q hflS rfl ?_
  refine h_done (d_block ?_)
  refine d_new (t := Ents 32 (.slice none 0 0) ([])) (entsT_nil) ?_
  refine d_loop (α := Nat × List EntV × Value) (fun ⟨i, L, ev⟩ => [(0, v), (2, .slice none 0 0), (3, ev), (4, .int .i64 ((i : Nat) : Int))]) (fun ⟨i, L, ev⟩ => [Ents 32 ev L]) (fun ⟨i, L, ev⟩ => i ≤ l.length ∧ L.map (·.e) = (l.take i).map (·.e)) (fun ⟨i, L, ev⟩ => l.length - i) (0, [], .slice none 0 0) ⟨Nat.zero_le _, rfl⟩ ⟨rfl, rfl, rfl, rfl, trivial⟩ rfl ?_
  rintro ⟨i, L, ev⟩ hI
  refine WC2.at_ (env' := [(0, v), (2, .slice none 0 0), (3, ev), (4, .int .i64 ((i : Nat) : Int))]) (rs' := [Ents 32 ev L]) ⟨rfl, rfl, rfl, rfl, trivial⟩ rfl ?_
  have hI1 : i ≤ l.length := hI.1
  have hI2 : L.map (·.e) = (l.take i).map (·.e) := hI.2
  have hLl : L.length = i := by have := congrArg List.length hI2; rw [List.length_map, List.length_map, List.length_take] at this; omega
  refine d_seq ?_
  rcases Nat.lt_or_ge i l.length with hi | hi
  · skip
    obtain ⟨x, hx⟩ : ∃ x, l[i]? = some x := ⟨_, List.getElem?_eq_getElem hi⟩
    have hm := List.mem_of_getElem? hx
    have hdx := hd x hm
    refine d_reg ?_
    refine h_q hflS rfl ?_
    refine h_val rfl (.int .i64 (l.length : Int)) (fun b w hb hH => e_slen ((argEs hv hU hS hH).1) Try.underlying34 rfl rfl hb) ?_
    refine h_val rfl (.bool true) (fun b w hb hH => exec_cmp rfl rfl rfl (cmp_lss_t (by omega)) hb) ?_
    refine h_done (d_then rfl (d_skip (f_to (d_seq (d_block ?_)))))
    refine d_open 0 rfl ents_open (fun _ => rfl) ?_; rintro ⟨⟩
    refine d_reg ?_
    refine h_q hflS rfl ?_
    refine h_val rfl (elp v (i * 5)) (fun b w hb hH => e_sidx okV ((argEs hv hU hS hH).1) sl_api_Entry (j := i) hx rfl rfl rfl hb) ?_
    refine h_val rfl (.agg (encV x).toArray) (fun b w hb hH => e_sagg okV (by decide) ((argEs hv hU hS hH).1) (j := i) hx ty_api_Entry rfl rfl hb) ?_
    refine h_act (post := fun g5 => [cell g5 32 #[.int .i64 0, .int .u64 0, .int .u64 0, .slice none 0 0, .int .i64 0], Vec 32 5 encV ev L, Each (fun x : EntV => Vec 5 1 encB x.v x.e.d) L]) rfl (a_alloc ze_api_Entry rfl) ?_; rintro g5
    refine h_acts (post := fun _ => [cell g5 32 #[.int .i64 x.e.k, .int .u64 x.e.t, .int .u64 x.e.i, x.v, .int .i64 x.e.c], Vec 32 5 encV ev L, Each (fun x : EntV => Vec 5 1 encB x.v x.e.d) L]) rfl rfl (a_store 0 (v := .agg (encV x).toArray) #[.int .i64 x.e.k, .int .u64 x.e.t, .int .u64 x.e.i, x.v, .int .i64 x.e.c] ty_api_Entry.2 rfl rfl rfl rfl rfl rfl rfl rfl rfl) ?_; rintro ⟨⟩
    refine h_done (d_reg ?_)
    refine h_q hflS rfl ?_
    refine h_act (X := Value) (val := fun v : Value => v) (post := fun d0 => [Vec 5 1 encB d0 ([]), cell g5 32 #[.int .i64 x.e.k, .int .u64 x.e.t, .int .u64 x.e.i, x.v, .int .i64 x.e.c], Vec 32 5 encV ev L, Each (fun x : EntV => Vec 5 1 encB x.v x.e.d) L]) rfl (by refine a_build0 (e := 5) (t := 30) (k := 1) (enc := encB) ?_ ?_; exact sl_uint8; exact rfl) ?_; rintro d0
    refine h_q hflS rfl ?_
    refine h_val rfl (elp v (i * 5)) (fun b w hb hH => e_sidx okV ((argEs hv hU hS hH).1) sl_api_Entry (j := i) hx rfl rfl rfl hb) ?_
    refine h_val rfl (elp v (i * 5 + 3)) (fun b w hb hH => e_sfield okV (by decide) ((argEs hv hU hS hH).1) (j := i) hx fd_api_Entry_3 rfl rfl hb) ?_
    refine h_val rfl (x.v) (fun b w hb hH => e_sload okV (by decide) ((argEs hv hU hS hH).1) (j := i) hx ty_s_uint8 (off := 3) rfl rfl rfl hb) ?_
    refine h_act (post := fun d1 => [Vec 5 1 encB d1 x.e.d, cell g5 32 #[.int .i64 x.e.k, .int .u64 x.e.t, .int .u64 x.e.i, x.v, .int .i64 x.e.c], Vec 32 5 encV ev L, Each (fun x : EntV => Vec 5 1 encB x.v x.e.d) L]) rfl (a_append8 0 sl_uint8 (by kernel_rfl) rfl (x.e.d) (fun w hH => (arg8 (hv.2 x hm) hU hS hH).rd) (by simp only [List.length_nil]; omega) rfl rfl rfl (List.nil_append _)) ?_; rintro d1
    refine h_q hflS rfl ?_
    refine h_acts (post := fun _ => [Vec 5 1 encB d1 x.e.d, cell g5 32 #[.int .i64 x.e.k, .int .u64 x.e.t, .int .u64 x.e.i, d1, .int .i64 x.e.c], Vec 32 5 encV ev L, Each (fun x : EntV => Vec 5 1 encB x.v x.e.d) L]) rfl rfl (a_storev 1 0 (v := d1) #[.int .i64 x.e.k, .int .u64 x.e.t, .int .u64 x.e.i, d1, .int .i64 x.e.c] ty_s_uint8.2 rfl (fun _ h => Vec.c1 h) rfl rfl rfl rfl rfl rfl rfl) ?_; rintro ⟨⟩
    refine h_done ?_
    refine WC2.fact 0 rfl (fun _ h => Vec.is h) ?_; rintro ⟨A3, c3, rfl⟩
    refine WC2.keep (env' := [(0, v), (2, .slice none 0 0), (3, ev), (4, .int .i64 ((i : Nat) : Int)), (6, .int .i64 ((i : Nat) : Int)), (7, v), (8, .int .i64 (l.length : Int)), (9, .bool true), (12, v), (13, .int .i64 ((i : Nat) : Int)), (14, elp v (i * 5)), (15, .agg (encV x).toArray), (5, .pointer (some ⟨g5, 0, none⟩)), (16, d0), (17, v), (18, .int .i64 ((i : Nat) : Int)), (19, elp v (i * 5)), (20, elp v (i * 5 + 3)), (21, x.v), (22, .slice A3 x.e.d.length c3), (23, .pointer (some ⟨g5, 3, none⟩))]) ⟨rfl, rfl, rfl, rfl, rfl, rfl, rfl, rfl, rfl, rfl, rfl, rfl, rfl, rfl, rfl, rfl, rfl, rfl, rfl, rfl, rfl, trivial⟩ ?_
    refine WC2.mid [Vec 5 1 encB (.slice A3 x.e.d.length c3) x.e.d, cell g5 32 #[.int .i64 x.e.k, .int .u64 x.e.t, .int .u64 x.e.i, .slice A3 x.e.d.length c3, .int .i64 x.e.c], Vec 32 5 encV ev L, Each (fun x : EntV => Vec 5 1 encB x.v x.e.d) L] (.refl _) ?_
    refine d_reg1 ?_
    refine h_q hflS rfl ?_
    refine h_val rfl (.agg #[.int .i64 x.e.k, .int .u64 x.e.t, .int .u64 x.e.i, .slice A3 x.e.d.length c3, .int .i64 x.e.c]) (fun b w hb hH => exec_load rfl rfl (reads_agg (cs := [.int .i64 x.e.k, .int .u64 x.e.t, .int .u64 x.e.i, .slice A3 x.e.d.length c3, .int .i64 x.e.c]) ty_api_Entry rfl) (hH.row 1 rfl) hb) ?_
    refine h_act (X := Value) (val := fun v : Value => v) (post := fun u1 => [Vec 32 5 encV u1 ([(⟨x.e, A3, c3⟩ : EntV)]), Vec 5 1 encB (.slice A3 x.e.d.length c3) x.e.d, cell g5 32 #[.int .i64 x.e.k, .int .u64 x.e.t, .int .u64 x.e.i, .slice A3 x.e.d.length c3, .int .i64 x.e.c], Vec 32 5 encV ev L, Each (fun x : EntV => Vec 5 1 encB x.v x.e.d) L]) rfl (by refine a_buildK (e := 32) (t := 34) (k := 5) (enc := encV) (x := .tmp 25) (c := .agg #[.int .i64 x.e.k, .int .u64 x.e.t, .int .u64 x.e.i, .slice A3 x.e.d.length c3, .int .i64 x.e.c]) ?_ ?_ ?_ (⟨x.e, A3, c3⟩ : EntV) ?_ ?_ ?_; exact sl_api_Entry; exact (by decide); exact okV; exact rfl; exact rfl; exact rfl) ?_; rintro u1
    refine h_act (post := fun ev2 => [Vec 32 5 encV u1 ([(⟨x.e, A3, c3⟩ : EntV)]), Vec 5 1 encB (.slice A3 x.e.d.length c3) x.e.d, cell g5 32 #[.int .i64 x.e.k, .int .u64 x.e.t, .int .u64 x.e.i, .slice A3 x.e.d.length c3, .int .i64 x.e.c], Vec 32 5 encV ev2 (L ++ [(⟨x.e, A3, c3⟩ : EntV)]), Each (fun x : EntV => Vec 5 1 encB x.v x.e.d) L]) rfl (a_appendK (nb := 56) 3 sl_api_Entry okV (by kernel_rfl) (by decide) rfl ([(⟨x.e, A3, c3⟩ : EntV)]) (fun w hH => hH.vec 0 rfl okV) (by simp only [List.length_cons, List.length_nil]; omega) rfl rfl rfl rfl) ?_; rintro ev2
    refine h_q hflS rfl ?_
    refine h_nil (f_block (f_to ?_))
    refine WC2.leave [0, 2] rfl rfl ?_
    refine d_close [1, 2, 0] rfl ents_push rfl ?_
    refine d_reg1 ?_
    refine h_q hflS rfl ?_
    refine h_val rfl (.int .i64 ((i + 1 : Nat) : Int)) (fun b w hb hH => exec_ar rfl rfl rfl rfl (by rw [IntWalk.i64_in _ (by omega)]; omega) hb) ?_
    refine h_q hflS rfl ?_
    refine h_nil ?_
    exact f_again (i + 1, L ++ [(⟨x.e, A3, c3⟩ : EntV)], ev2) 0 ⟨hi, by rw [List.map_append, hI2, List.take_add_one, hx, List.map_append]; rfl⟩ (show l.length - (i + 1) < l.length - i by omega) ⟨rfl, rfl, rfl, rfl, trivial⟩ rfl
  · skip
    refine d_reg ?_
    refine h_q hflS rfl ?_
    refine h_val rfl (.int .i64 (l.length : Int)) (fun b w hb hH => e_slen ((argEs hv hU hS hH).1) Try.underlying34 rfl rfl hb) ?_
    refine h_val rfl (.bool false) (fun b w hb hH => exec_cmp rfl rfl rfl (cmp_lss_f (by omega)) hb) ?_
    refine h_done (d_else rfl (d_exit (f_then_exit (f_then_exit (f_block_exit (f_to (d_reg ?_)))))))
    refine h_q hflS rfl ?_
    refine h_done (d_ret ?_)
    exact f_fin1 (.tmp rfl) (fun w h => tells (⟨ev, L⟩ : EsV) rfl [0] rfl h (fun z hz => ⟨z, .refl _, fact_add (xs := [_]) (show L.map (·.e) = l.map (·.e) by rw [hI2, List.take_of_length_le hi]) hz⟩)) rfl
end Go.Proofs.Ytnebloeideodmaa.Sep

namespace Go.Proofs.Ytnebloeideodmaa.Sep
open Go.RowKit
open Go.Proofs.Ytnebloeideodmaa.Mem (Dist Blk Chg)
section
variable {P : Program} {ops : Array Oper} {Q : Exit → Act → World → Prop} {n : Nat} {jobs : List Job} {env env0 : List (Nat × Value)} {B : Nat → Prop} {w0 w : World} {rs os : List Ass} {o : Oper} {deps : List Nat} {kk d : Nat} {v : Value} {rest : List Oper}
end
end Go.Proofs.Ytnebloeideodmaa.Sep

namespace Go.Proofs.Ytnebloeideodmaa.Sep
open Go.ChangeShapes Go.WideShapes Go.ChangeAt Go.RowKit
section
variable {H : Type} {enc : TypeId × Value → H} {P : Program}
/-- no slice or string in it is greater than memory may be -/
def SizedD (P : Program) (t : TypeId) (d : DataW H) : Prop := ∀ n ∈ d.weights P t, n ≤ reachBytes
theorem sized_arg {ts : List TypeId} {ds : List (DataW H)} (h : (DataW.weightsEach P ts ds).all (· ≤ reachBytes) = true) {j : Nat} {t : TypeId} {d : DataW H} (ht : ts[j]? = some t) (hd : ds[j]? = some d) : SizedD P t d := fun n hn => by
  have := List.all_eq_true.1 h n (DataW.weights_mem_each ht hd n hn)
  simpa using this
theorem SizedD.field {t : TypeId} {fs : Array Field} {parts : List (DataW H)} {j : Nat} {f : Field} {d : DataW H} (h : SizedD P t (.agg parts)) (hu : P.underlying t = some (.struct fs)) (hf : fs[j]? = some f) (hd : parts[j]? = some d) : SizedD P f.type d := fun n hn => by
  refine h n ?_
  have hm := DataW.weights_mem_each (P := P) (ts := fs.toList.map (·.type)) (ds := parts) (j := j) (t := f.type) (d := d) (by simp [hf]) hd n hn
  simpa [DataW.weights, hu] using hm
theorem SizedD.len {t e : TypeId} {es sp : List (DataW H)} (h : SizedD P t (.slice es sp)) (hu : P.underlying t = some (.slice e)) : es.length * P.bytesOf e ≤ reachBytes := by
  have := h ((es.length + sp.length) * P.bytesOf e) (by simp [DataW.weights, hu])
  exact Nat.le_trans (Nat.mul_le_mul_right _ (Nat.le_add_right _ _)) this
theorem weights_all {e : TypeId} : ∀ {es : List (DataW H)} {j : Nat} {d : DataW H}, es[j]? = some d → ∀ n ∈ d.weights P e, n ∈ DataW.weightsAll P e es
  | [], _, _, h, _, _ => by simp at h
  | d0 :: r, 0, d, h, n, hn => by
    simp only [List.getElem?_cons_zero, Option.some.injEq] at h
    subst h
    simp only [DataW.weightsAll, List.mem_append]
    exact .inl hn
  | d0 :: r, j + 1, d, h, n, hn => by
    simp only [List.getElem?_cons_succ] at h
    simp only [DataW.weightsAll, List.mem_append]
    exact .inr (weights_all h n hn)
theorem SizedD.elem {t e : TypeId} {es sp : List (DataW H)} (h : SizedD P t (.slice es sp)) (hu : P.underlying t = some (.slice e)) {j : Nat} {d : DataW H} (hd : es[j]? = some d) : SizedD P e d := fun n hn => by
  refine h n ?_
  have := weights_all (P := P) hd n hn
  simp [DataW.weights, hu, this]
theorem open_slice_s {α : Type} [Inhabited α] {k : Nat} {enc' : α → List Value} {ok : α → Prop} {t e : TypeId} (he : EncOf k enc') (hk : 0 < k) (hu : P.underlying t = some (.slice e)) (hC : P.cellsOf e = k) {W : World} {base : Nat} {spare : Nat → Bool} {held : Bool} {v : Value} {n0 : Nat} {x0 : DataW H × List MemPlace}
    (hel : ∀ (n : Nat) (cs : List Value) (x : DataW H × List MemPlace), cs.length = k → DataW.trod enc P W base spare held n e cs = some x → SizedD P e x.1 → ∃ y : α, cs = enc' y ∧ ok y)
    (hf : DataW.trod enc P W base spare held n0 t [v] = some x0) (hs : SizedD P t x0.1) : ∃ A c, ∃ l : List α, v = .slice A l.length c ∧ l.length * P.bytesOf e ≤ reachBytes ∧ SlRd W k v l.length (flat enc' l) ∧ ∀ y ∈ l, ok y := by
  rcases DataW.trod_slice hu hf with ⟨hcs, hx⟩ | ⟨a, len, cap, elems, rest, n, _, hcs, hx, _, hl, hm, hlen, hels, _, _⟩
  · simp at hcs
    subst hcs
    exact ⟨none, 0, [], rfl, by simp, ⟨by simp [flat], none, 0, rfl, .inl ⟨rfl, rfl⟩⟩, fun y hy => by cases hy⟩
  · simp at hcs
    subst hcs
    rw [hC] at hels
    rw [(Prod.mk.inj hx).1] at hs
    have hsl := hs.len hu
    rw [List.length_map] at hsl
    have each : ∀ i, i < len → ∃ y : α, ok y ∧ ∀ j x, (enc' y)[j]? = some x → W.cell? ((a.add (i * k)).add j) = some x := by
      intro i hi
      have h1 := hels i hi
      rw [List.getElem?_eq_getElem (show i < elems.length by omega), Option.bind_eq_some_iff] at h1
      obtain ⟨cs', hcs, ht⟩ := h1
      obtain ⟨_, hcl, hat⟩ := World.cells?_some hcs
      obtain ⟨y, rfl, hy⟩ := hel _ _ _ hcl ht (hs.elem hu (j := i) (by rw [List.getElem?_map, List.getElem?_eq_getElem (show i < elems.length by omega)]; rfl))
      exact ⟨y, hy, fun j x hj => (hat j (by rw [← hcl]; exact (List.getElem?_eq_some_iff.1 hj).1)).trans hj⟩
    obtain ⟨f, hf⟩ := Go.Deep.choose_lt each
    have hll : ((List.range len).map f).length = len := by simp
    have hat : ∀ {i : Nat} {y : α}, ((List.range len).map f)[i]? = some y → i < len ∧ y = f i := by
      intro i y hi
      have hil : i < len := by have := (List.getElem?_eq_some_iff.1 hi).1; simpa using this
      rw [List.getElem?_map, List.getElem?_range hil] at hi
      simp only [Option.map_some, Option.some.injEq] at hi
      exact ⟨hil, hi.symm⟩
    refine ⟨some a, cap, (List.range len).map f, by rw [hll], by rw [hll]; rw [show elems.length = len by omega] at hsl; exact hsl, ?_, ?_⟩
    · rw [hll]
      refine ⟨by rw [flat_len he, hll], some a, cap, rfl, .inr ⟨a, rfl, fun q x hq => ?_⟩⟩
      obtain ⟨y, hy, hyx⟩ := flat_pick he hk hq
      obtain ⟨hil, rfl⟩ := hat hy
      have hc := (hf (q / k) hil).2 (q % k) x hyx
      have ha : a = ⟨a.block, a.off, none⟩ := by
        obtain ⟨z, hz⟩ : ∃ z, (enc' (f 0))[0]? = some z := ⟨_, List.getElem?_eq_getElem (by have := he.len (f 0); omega)⟩
        have h0 := (hf 0 (Nat.lt_of_le_of_lt (Nat.zero_le _) hil)).2 0 _ hz
        rw [Nat.zero_mul, show (a.add 0).add 0 = a by simp [Addr.add]] at h0
        exact spot0 h0
      rw [ha, Addr.add_lit, Addr.add_lit] at hc
      rw [ha, Addr.add_lit]
      have e1 : a.off + q / k * k + q % k = a.off + q := by rw [Nat.add_assoc, Nat.mul_comm]; congr 1; exact Nat.div_add_mod q k
      rw [e1] at hc
      exact hc
    · intro y hy
      obtain ⟨i, hi⟩ := List.getElem?_of_mem hy
      obtain ⟨hil, rfl⟩ := hat hi
      exact (hf i hil).1
/-- a []byte, met anywhere -/
theorem open_8s {W : World} {base : Nat} {spare : Nat → Bool} {held : Bool} {v : Value} {n0 : Nat} {x0 : DataW H × List MemPlace} (hf : DataW.trod enc Try.prog W base spare held n0 30 [v] = some x0) (hs : SizedD Try.prog 30 x0.1) :
    ∃ A c l, v = .slice A l.length c ∧ Sl8 W (.slice A l.length c) l ∧ l.length ≤ reachBytes := by
  obtain ⟨A, c, l, hcs, hb, hd⟩ := trod_u8s tyU8 cells_u8 hf
  simp at hcs
  refine ⟨A, c, l, hcs, ⟨A, c, rfl, hb.weaken fun _ _ _ => trivial⟩, ?_⟩
  rcases hd with ⟨_, rfl⟩ | ⟨es, sp, e, he⟩
  · simp
  · rw [e] at hs
    have := hs.len Try.underlying30
    rw [bytes_u8] at this
    omega
end
end Go.Proofs.Ytnebloeideodmaa.Sep

namespace Go.Proofs.Ytnebloeideodmaa.Sep
open Go.ChangeShapes Go.WideShapes Go.ChangeAt Go.RowKit
/-- a struct's field of one cell -/
structure F1 (f : Field) (t : TypeId) (o : Nat) : Prop where
  t : f.type = t
  o : f.offset = o
section
variable {H : Type} {enc : TypeId × Value → H} {W : World} {base b0 : Nat} {r : Reach} {spare : Nat → Bool} {held : Bool} {v : Value} {d : DataW H} {p : List MemPlace}
theorem fldF {P : Program} {n j k off : Nat} {f : Field} {t : TypeId} {cs zs : List Value} {ys : List (DataW H × List MemPlace)} {y : DataW H × List MemPlace} (hF : F1 f t off) (hc : P.cellsOf t = k) (h : DataW.trod enc P W base spare held n f.type ((cs.drop f.offset).take (P.cellsOf f.type)) = ys[j]?) (ha : (cs.drop off).take k = zs) (hy : ys[j]? = some y) : DataW.trod enc P W base spare held n t zs = some y := by
  rw [hF.t, hF.o, hc, ha, hy] at h
  exact h
theorem sizedF {P : Program} {t t' : TypeId} {fs : Array Field} {ys : List (DataW H × List MemPlace)} {x : DataW H × List MemPlace} {j off : Nat} {f : Field} {y : DataW H × List MemPlace} {zs : List MemPlace} (hs : SizedD P t x.1) (hx : x = (.agg (ys.map (·.1)), zs)) (hu : P.underlying t = some (.struct fs)) (hf : fs[j]? = some f) (hF : F1 f t' off) (hy : ys[j]? = some y) : SizedD P t' y.1 := by
  subst hx
  have := SizedD.field hs hu hf (d := y.1) (by rw [List.getElem?_map, hy]; rfl)
  rwa [hF.t] at this
theorem b_sized {n : Nat} (h : n ≤ reachBytes) : n ≤ 140737488351232 := h

/-! ## An entry -/
structure EntT (te : TypeId) (f0 f1 f2 f3 f4 : Field) : Prop where
  hu : Try.prog.underlying te = some (.struct #[f0, f1, f2, f3, f4])
  h0 : F1 f0 3 0
  h1 : F1 f1 26 1
  h2 : F1 f2 26 2
  h3 : F1 f3 30 3
  h4 : F1 f4 3 4
def EntOk (W : World) (x : EntV) : Prop := x.e.ok ∧ Sl8 W x.v x.e.d ∧ x.e.d.length ≤ 140737488351232
theorem k_int : Try.prog.cellsOf 3 = 1 := by kernel_rfl
theorem k_u64 : Try.prog.cellsOf 26 = 1 := by kernel_rfl
theorem k_u8s : Try.prog.cellsOf 30 = 1 := by kernel_rfl
set_option maxRecDepth 100000 in
theorem open_ent {te : TypeId} {f0 f1 f2 f3 f4 : Field} (hE : EntT te f0 f1 f2 f3 f4) {n : Nat} {cs : List Value} {x : DataW H × List MemPlace} (hcl : cs.length = 5) (h : DataW.trod enc Try.prog W base spare held n te cs = some x) (hs : SizedD Try.prog te x.1) : ∃ y : EntV, cs = encV y ∧ EntOk W y := by
  obtain ⟨ys, n', _, hx, _, hyl, hf⟩ := DataW.trod_struct hE.hu h
  have hyl : ys.length = 5 := hyl
  match cs, hcl with
  | [a0, a1, a2, a3, a4], _ =>
    obtain ⟨y0, g0⟩ : ∃ y, ys[0]? = some y := ⟨_, List.getElem?_eq_getElem (by omega)⟩
    obtain ⟨y1, g1⟩ : ∃ y, ys[1]? = some y := ⟨_, List.getElem?_eq_getElem (by omega)⟩
    obtain ⟨y2, g2⟩ : ∃ y, ys[2]? = some y := ⟨_, List.getElem?_eq_getElem (by omega)⟩
    obtain ⟨y3, g3⟩ : ∃ y, ys[3]? = some y := ⟨_, List.getElem?_eq_getElem (by omega)⟩
    obtain ⟨y4, g4⟩ : ∃ y, ys[4]? = some y := ⟨_, List.getElem?_eq_getElem (by omega)⟩
    have h0 := fldF hE.h0 k_int (hf 0 _ rfl) (zs := [a0]) rfl g0
    have h1 := fldF hE.h1 k_u64 (hf 1 _ rfl) (zs := [a1]) rfl g1
    have h2 := fldF hE.h2 k_u64 (hf 2 _ rfl) (zs := [a2]) rfl g2
    have h3 := fldF hE.h3 k_u8s (hf 3 _ rfl) (zs := [a3]) rfl g3
    have h4 := fldF hE.h4 k_int (hf 4 _ rfl) (zs := [a4]) rfl g4
    have s3 := sizedF hs hx hE.hu (j := 3) rfl hE.h3 g3
    obtain ⟨z0, e0, _, w0⟩ := DataW.trod_int Try.underlying3 h0
    obtain ⟨z1, e1, _, w1⟩ := DataW.trod_int Try.underlying26 h1
    obtain ⟨z2, e2, _, w2⟩ := DataW.trod_int Try.underlying26 h2
    obtain ⟨A, c, l, rfl, hl, hl2⟩ := open_8s h3 s3
    obtain ⟨z4, e4, _, w4⟩ := DataW.trod_int Try.underlying3 h4
    simp at e0 e1 e2 e4
    subst e0; subst e1; subst e2; subst e4
    have hl3 := b_sized hl2
    exact ⟨⟨⟨z0, z1, z2, l, z4⟩, A, c⟩, rfl, ⟨wf_i64 w0, wf_u64 w1, wf_u64 w2, by show l.length ≤ _; omega, wf_i64 w4⟩, hl, hl3⟩
instance : Inhabited EntV := ⟨⟨.zero, none, 0⟩⟩
theorem open_ents {te ts : TypeId} {f0 f1 f2 f3 f4 : Field} (hE : EntT te f0 f1 f2 f3 f4) (hT : Try.prog.underlying ts = some (.slice te)) (hC : Try.prog.cellsOf te = 5) (hB : Try.prog.bytesOf te = 56) {n : Nat} {x : DataW H × List MemPlace} (h : DataW.trod enc Try.prog W base spare held n ts [v] = some x) (hs : SizedD Try.prog ts x.1) :
    ∃ A c, ∃ l : List EntV, v = .slice A l.length c ∧ l.length * 56 ≤ 140737488351232 ∧ EntsRd W v l ∧ ∀ y ∈ l, EntOk W y := by
  obtain ⟨A, c, l, hv, hl, hr, ho⟩ := open_slice_s okV (by decide) hT hC (ok := EntOk W) (fun n cs x hcl h hs => open_ent hE hcl h hs) h hs
  rw [hB] at hl
  exact ⟨A, c, l, hv, b_sized hl, ⟨hr, fun x hx => (ho x hx).2.1⟩, ho⟩

/-! ## A message -/
/-- a message, and where its entries and its bytes lie -/
structure MsgV where
  m : MsgD
  es : List EntV
  EA : Option Addr
  ec : Nat
  A : Option Addr
  c : Nat
def MsgV.ev (x : MsgV) : Value := .slice x.EA x.es.length x.ec
def MsgV.dv (x : MsgV) : Value := .slice x.A x.m.d.length x.c
def MsgV.cells (x : MsgV) : List Value := cellsM x.m.k x.m.a x.m.b x.m.t x.m.i x.m.lt x.ev x.m.co x.m.rf x.m.bi x.m.bt x.m.bc x.m.o x.dv x.m.la
structure MsgOk (W : World) (x : MsgV) : Prop where
  ok : x.m.ok
  es : x.m.es = x.es.map (·.e)
  rd : EntsRd W x.ev x.es
  le : x.es.length * 56 ≤ 140737488351232
  each : ∀ y ∈ x.es, EntOk W y
  d : Sl8 W x.dv x.m.d
  dl : x.m.d.length ≤ 140737488351232
theorem EntOk.below {u w : World} {x : EntV} (h : EntOk u x) (hb : Below u.heap.size u w) : EntOk w x := ⟨h.1, h.2.1.below hb, h.2.2⟩
theorem MsgOk.below {u w : World} {x : MsgV} (h : MsgOk u x) (hb : Below u.heap.size u w) : MsgOk w x := ⟨h.ok, h.es, h.rd.below hb, h.le, fun y hy => (h.each y hy).below hb, h.d.below hb, h.dl⟩
end
end Go.Proofs.Ytnebloeideodmaa.Sep

namespace Go.Proofs.Ytnebloeideodmaa.Sep
open Go.RowKit
open Go.Proofs.Ytnebloeideodmaa.Mem (Dist Blk Chg below0)

theorem wrap_u64 {z : Int} : ∃ r : Int, IntKind.u64.wrap z = r ∧ r = z % 18446744073709551616 := ⟨_, rfl, by rw [IntKind.wrap_u64]⟩
end Go.Proofs.Ytnebloeideodmaa.Sep

namespace Go.Proofs.Ytnebloeideodmaa.Sep
open Go.RowKit
open Go.Proofs.Ytnebloeideodmaa.Mem (Dist Blk Chg below0)

end Go.Proofs.Ytnebloeideodmaa.Sep

namespace Go.Proofs.Ytnebloeideodmaa.Sep
open Go.RowKit
open Go.Proofs.Ytnebloeideodmaa.Mem (Dist Blk Chg below0)

end Go.Proofs.Ytnebloeideodmaa.Sep

namespace Go.Proofs.Ytnebloeideodmaa.Sep
open Go.RowKit
open Go.Proofs.Ytnebloeideodmaa.Mem (Dist Blk Chg below0)

end Go.Proofs.Ytnebloeideodmaa.Sep

namespace Go.Proofs.Ytnebloeideodmaa.Sep
open Go.RowKit
open Go.Proofs.Ytnebloeideodmaa.Mem (Dist Blk Chg below0)

end Go.Proofs.Ytnebloeideodmaa.Sep

namespace Go.Proofs.Ytnebloeideodmaa.Sep
open Go.RowKit
open Go.Proofs.Ytnebloeideodmaa.Mem (Dist Blk Chg below0)

end Go.Proofs.Ytnebloeideodmaa.Sep

namespace Go.Proofs.Ytnebloeideodmaa.Sep
open Go.RowKit
open Go.Proofs.Ytnebloeideodmaa.Mem (Dist Blk Chg below0)

end Go.Proofs.Ytnebloeideodmaa.Sep

namespace Go.Proofs.Ytnebloeideodmaa.Sep
open Go.RowKit
open Go.Proofs.Ytnebloeideodmaa.Mem (Dist Blk Chg below0)
section
variable {Q : Exit → Act → World → Prop} {n : Nat} {B : Nat → Prop} {w0 : World} {os : List Ass} {env : List (Nat × Value)} {o : Oper} {v : Value} {l m : List UInt8}
end
section
variable {P : Program} {n : Nat} {w : World} {env : List (Nat × Value)} {o : Oper} {a : Act}
end
/-! ## Two ways come together, where a value is a letter -/
section
variable {P : Program} {Q : Exit → Act → World → Prop} {n : Nat} {B : Nat → Prop} {w0 : World} {rs : List Ass} {env : List (Nat × Value)}
end
end Go.Proofs.Ytnebloeideodmaa.Sep

namespace Go.Proofs.Ytnebloeideodmaa.Sep
open Go.RowKit
open Go.Proofs.Ytnebloeideodmaa.Mem (Dist Blk Chg below0)

end Go.Proofs.Ytnebloeideodmaa.Sep

namespace Go.Proofs.Ytnebloeideodmaa.Sep
open Go.RowKit
open Go.Proofs.Ytnebloeideodmaa.Mem (Dist Blk Chg below0)

/-- what reading entries comes to, and where they lie -/
structure REX where
  EA : Option Addr
  ec : Nat
  es : List EntV
  en : Nat
  l : List UInt8
  f : Nat
def REX.v (x : REX) : Value := .slice x.EA x.es.length x.ec
theorem Ents.is {te : TypeId} {v : Value} {l : List EntV} : ∀ rs, Ents te v l rs → ∃ A c, v = .slice A l.length c := fun _ h => by
  obtain ⟨a, b, e, h1, _⟩ := h
  exact h1.is

end Go.Proofs.Ytnebloeideodmaa.Sep

namespace Go.Proofs.Ytnebloeideodmaa.Sep
open Go.RowKit
open Go.Proofs.Ytnebloeideodmaa.Mem (Dist Blk Chg below0)

theorem argE0 {w0 w : World} {os : List Ass} {v : Value} {l : List EntV} (h : EntsRd w0 v l) (hH : Hp Nil w0 w os) : EntsRd w v l := h.below (hH.up.below (Nat.le_refl _) (fun _ h => h.elim))

set_option maxRecDepth 100000 in
theorem samees_true (w : World) (v v2 : Value) (l l2 : List EntV) (hv : EntsRd w v l) (hv2 : EntsRd w v2 l2) (h : l.map (·.e) = l2.map (·.e)) (hle : l.length ≤ 9223372036854775807) : Calls Try.prog 25 #[v, v2] w fun e w' => e = .returned (.bool true) ∧ Below w.heap.size w w' := by
  have hln : l.length = l2.length := by have := congrArg List.length h; simpa using this
  refine d_in (args := [v, v2]) 27 Try.func25 rfl rfl rfl ?_
  refine d_reg ?_
  refine h_q hflS rfl ?_
  refine h_done (d_seq (d_reg ?_))
  refine h_q hflS rfl ?_
  refine h_val rfl (.int .i64 (l.length : Int)) (fun b w hb hH => e_slen ((argE0 hv hH).1) Try.underlying34 rfl rfl hb) ?_
  refine h_q hflS rfl ?_
  refine h_val rfl (.int .i64 (l2.length : Int)) (fun b w hb hH => e_slen ((argE0 hv2 hH).1) Try.underlying34 rfl rfl hb) ?_
  refine h_val rfl (.bool false) (fun b w hb hH => exec_cmp rfl rfl rfl (cmp_neq_f (by omega)) hb) ?_
  refine h_done (d_else rfl (d_skip (f_to (d_seq (d_reg ?_)))))
  refine h_q hflS rfl ?_
  refine h_done (d_block ?_)
  refine d_loop (α := Nat) (fun j => [(0, v), (1, v2), (4, .bool false), (5, .int .i64 ((j : Nat) : Int))]) (fun j => []) (fun j => j ≤ l.length) (fun j => l.length - j) 0 (Nat.zero_le _) ⟨rfl, rfl, rfl, rfl, trivial⟩ rfl ?_
  rintro j hI
  refine WC2.at_ (env' := [(0, v), (1, v2), (4, .bool false), (5, .int .i64 ((j : Nat) : Int))]) (rs' := []) ⟨rfl, rfl, rfl, rfl, trivial⟩ rfl ?_
  refine d_seq ?_
  rcases Nat.lt_or_ge j l.length with hj | hj
  · skip
    obtain ⟨x, hx⟩ : ∃ x, l[j]? = some x := ⟨_, List.getElem?_eq_getElem hj⟩
    obtain ⟨y, hy⟩ : ∃ y, l2[j]? = some y := ⟨_, List.getElem?_eq_getElem (by omega)⟩
    have hmx := List.mem_of_getElem? hx
    have hmy := List.mem_of_getElem? hy
    have hxy : x.e = y.e := by
        have h1 := congrArg (fun z => z[j]?) h
        simp only [List.getElem?_map, hx, hy, Option.map_some] at h1
        exact Option.some.inj h1
    refine d_reg ?_
    refine h_q hflS rfl ?_
    refine h_val rfl (.int .i64 (l.length : Int)) (fun b w hb hH => e_slen ((argE0 hv hH).1) Try.underlying34 rfl rfl hb) ?_
    refine h_val rfl (.bool true) (fun b w hb hH => exec_cmp rfl rfl rfl (cmp_lss_t (by omega)) hb) ?_
    refine h_done (d_then rfl (d_skip (f_to (d_seq (d_block (d_seq ?_))))))
    refine d_parS 10 1 [⟨.quiet, [none], fun _ => v, []⟩, ⟨.quiet, [none], fun _ => .int .i64 ((j : Nat) : Int), []⟩, ⟨.quiet, [none], fun _ => elp v (j * 5), [0, 1]⟩, ⟨.quiet, [none], fun _ => .agg (encV x).toArray, [2]⟩, ⟨.quiet, [none], fun _ => v2, []⟩, ⟨.quiet, [none], fun _ => .int .i64 ((j : Nat) : Int), []⟩, ⟨.quiet, [none], fun _ => elp v2 (j * 5), [4, 5]⟩, ⟨.quiet, [none], fun _ => .agg (encV y).toArray, [6]⟩, ⟨.actv 0, [some false], fun _ => .bool true, [3, 7]⟩, ⟨.quiet, [some true], fun _ => .bool false, [8]⟩] [(0, v), (1, v2), (4, .bool false), (5, .int .i64 ((j : Nat) : Int)), (11, .int .i64 ((j : Nat) : Int)), (12, v), (13, .int .i64 (l.length : Int)), (14, .bool true)] (fun ρ => match ρ with | [r0] => [] | _ => []) (by kernel_rfl) (by kernel_rfl) ⟨rfl, rfl, rfl, rfl, rfl, rfl, rfl, rfl, trivial⟩ rfl ?_ ?_
    · skip
      refine s_cons (by intro r0_; exact ⟨rfl, fun b w hH hb => exec_q1 hflS rfl hb⟩) ?_
      refine s_cons (by intro r0_; exact ⟨rfl, fun b w hH hb => exec_q1 hflS rfl hb⟩) ?_
      refine s_cons (by intro r0_; exact ⟨rfl, fun b w hH hb => e_sidx okV ((argE0 hv hH).1) sl_api_Entry (j := j) hx rfl rfl rfl hb⟩) ?_
      refine s_cons (by intro r0_; exact ⟨rfl, fun b w hH hb => e_sagg okV (by decide) ((argE0 hv hH).1) (j := j) hx ty_api_Entry rfl rfl hb⟩) ?_
      refine s_cons (by intro r0_; exact ⟨rfl, fun b w hH hb => exec_q1 hflS rfl hb⟩) ?_
      refine s_cons (by intro r0_; exact ⟨rfl, fun b w hH hb => exec_q1 hflS rfl hb⟩) ?_
      refine s_cons (by intro r0_; exact ⟨rfl, fun b w hH hb => e_sidx okV ((argE0 hv2 hH).1) sl_api_Entry (j := j) hy rfl rfl rfl hb⟩) ?_
      refine s_cons (by intro r0_; exact ⟨rfl, fun b w hH hb => e_sagg okV (by decide) ((argE0 hv2 hH).1) (j := j) hy ty_api_Entry rfl rfl hb⟩) ?_
      refine s_cons (by exact ⟨rfl, Acts.su (a_call (ent_of Try.func54 (by kernel_rfl) rfl) (fun w hH => samee_true w x y ((argE0 hv hH).2 x hmx) ((argE0 hv2 hH).2 y hmy) hxy) rfl rfl rfl) rfl⟩) ?_
      refine s_cons (by intro v0_; exact ⟨rfl, fun b w hH hb => exec_q1 hflS rfl hb⟩) ?_
      exact s_nil
    intro v0_
    refine WL2.keep (env' := [(0, v), (1, v2), (4, .bool false), (5, .int .i64 ((j : Nat) : Int)), (11, .int .i64 ((j : Nat) : Int)), (12, v), (13, .int .i64 (l.length : Int)), (14, .bool true), (17, v), (18, .int .i64 ((j : Nat) : Int)), (19, elp v (j * 5)), (20, .agg (encV x).toArray), (21, v2), (22, .int .i64 ((j : Nat) : Int)), (23, elp v2 (j * 5)), (24, .agg (encV y).toArray), (25, .bool true), (26, .bool false)]) ⟨rfl, rfl, rfl, rfl, rfl, rfl, rfl, rfl, rfl, rfl, rfl, rfl, rfl, rfl, rfl, rfl, rfl, rfl, trivial⟩ ?_
    refine h_nil (f_to (d_else rfl (d_skip (f_block (f_to (d_reg1 ?_))))))
    refine h_q hflS rfl ?_
    refine h_val rfl (.int .i64 ((j + 1 : Nat) : Int)) (fun b w hb hH => exec_ar rfl rfl rfl rfl (by rw [IntWalk.i64_in _ (by omega)]; omega) hb) ?_
    refine h_q hflS rfl ?_
    refine h_nil ?_
    exact f_again (j + 1) 0 hj (show l.length - (j + 1) < l.length - j by omega) ⟨rfl, rfl, rfl, rfl, trivial⟩ rfl
  · skip
    refine d_reg ?_
    refine h_q hflS rfl ?_
    refine h_val rfl (.int .i64 (l.length : Int)) (fun b w hb hH => e_slen ((argE0 hv hH).1) Try.underlying34 rfl rfl hb) ?_
    refine h_val rfl (.bool false) (fun b w hb hH => exec_cmp rfl rfl rfl (cmp_lss_f (by omega)) hb) ?_
    refine h_done (d_else rfl (d_exit (f_then_exit (f_then_exit (f_block_exit (f_to (d_reg ?_)))))))
    refine h_q hflS rfl ?_
    refine h_done (d_ret ?_)
    exact f_fin1 (.tmp rfl) (fun w h => ⟨rfl, below0 h.up⟩) rfl

end Go.Proofs.Ytnebloeideodmaa.Sep

namespace Go.Proofs.Ytnebloeideodmaa.Sep
open Go.RowKit
open Go.Proofs.Ytnebloeideodmaa.Mem (Dist Blk Chg below0)

/-! ## A ring -/
def zeroV : EntV := ⟨⟨0, 0, 0, [], 0⟩, none, 0⟩
def slotI (f N k : Nat) : Nat := if f + k < N then f + k else f + k - N
theorem slotI_lt {f N k : Nat} (hf : f < N) (hk : k < N) : slotI f N k < N := by unfold slotI; split <;> omega
theorem slotI_mod {f N k : Nat} (hf : f < N) (hk : k ≤ N) : ((f : Int) + (k : Int)).tmod (N : Int) = ((slotI f N k : Nat) : Int) := by
  rw [Int.tmod_eq_emod_of_nonneg (by omega)]
  unfold slotI
  split
  · rw [Int.emod_eq_of_lt (by omega) (by omega)]; push_cast; rfl
  · rw [← Int.sub_emod_right, Int.emod_eq_of_lt (by omega) (by omega)]; omega
theorem slotI_ne {f N k j : Nat} (hf : f < N) (hk : k < N) (hj : j < N) (h : k ≠ j) : slotI f N k ≠ slotI f N j := by
  unfold slotI; split <;> split <;> omega
theorem slotI_succ {f N k : Nat} (hf : f < N) (hk : k + 1 < N) : slotI (slotI f N 1) N k = slotI f N (k + 1) := by
  unfold slotI; split <;> split <;> split <;> omega
structure RingD (sl : List EntV) (f : Nat) (es : List EntD) : Prop where
  le : es.length ≤ sl.length
  sz : sl.length ≤ 5026338869833
  ff : (sl.length = 0 ∧ f = 0) ∨ f < sl.length
  at_ : ∀ (k : Nat) (e : EntD), es[k]? = some e → ∃ x, sl[slotI f sl.length k]? = some x ∧ x.e = e
theorem ring_none : RingD [] 0 [] := ⟨Nat.le_refl _, Nat.zero_le _, .inl ⟨rfl, rfl⟩, fun k e h => by simp at h⟩
theorem RingD.lt {sl : List EntV} {f k : Nat} {es : List EntD} (h : RingD sl f es) (hk : k < es.length) : f < sl.length := by
  have := h.le
  rcases h.ff with h | h <;> omega
theorem RingD.add {sl : List EntV} {f : Nat} {es : List EntD} (h : RingD sl f es) (hn : es.length < sl.length) {x : EntV} {e : EntD} (hx : x.e = e) : RingD (sl.set (slotI f sl.length es.length) x) f (es ++ [e]) := by
  have hf : f < sl.length := by rcases h.ff with h | h <;> omega
  refine ⟨by rw [List.length_set, List.length_append]; exact hn, by rw [List.length_set]; exact h.sz, by rw [List.length_set]; exact .inr hf, fun k y hy => ?_⟩
  rw [List.length_set]
  rcases Nat.lt_or_ge k es.length with hk | hk
  · rw [List.getElem?_append_left hk] at hy
    rw [List.getElem?_set_ne (slotI_ne hf hn (by omega) (by omega))]
    exact h.at_ k y hy
  · have hk2 : k = es.length := by
      have := (List.getElem?_eq_some_iff.1 hy).1
      rw [List.length_append, List.length_singleton] at this; omega
    subst hk2
    rw [List.getElem?_append_right (Nat.le_refl _), Nat.sub_self] at hy
    obtain rfl : e = y := Option.some.inj hy
    exact ⟨x, by rw [List.getElem?_set_self (slotI_lt hf hn)], hx⟩
theorem RingD.cut {sl : List EntV} {f m : Nat} {es : List EntD} (h : RingD sl f es) (hm : m + 1 = es.length) {x : EntV} : RingD (sl.set (slotI f sl.length m) x) f (es.take m) := by
  have hf : f < sl.length := h.lt (k := m) (by omega)
  have hle := h.le
  refine ⟨by rw [List.length_set, List.length_take]; omega, by rw [List.length_set]; exact h.sz, by rw [List.length_set]; exact .inr hf, fun k y hy => ?_⟩
  rw [List.length_set]
  rw [List.getElem?_take] at hy
  split at hy
  · rw [List.getElem?_set_ne (slotI_ne hf (by omega) (by omega) (by omega))]
    exact h.at_ k y hy
  · cases hy
theorem RingD.drop {sl : List EntV} {f : Nat} {es : List EntD} (h : RingD sl f es) (hm : 0 < es.length) {x : EntV} : RingD (sl.set (slotI f sl.length 0) x) (slotI f sl.length 1) (es.drop 1) := by
  have hf : f < sl.length := h.lt hm
  have hle := h.le
  have h1 : slotI f sl.length 1 < sl.length := by unfold slotI; split <;> omega
  refine ⟨by rw [List.length_set, List.length_drop]; omega, by rw [List.length_set]; exact h.sz, by rw [List.length_set]; exact .inr h1, fun k y hy => ?_⟩
  rw [List.length_set]
  rw [List.getElem?_drop] at hy
  have hk := (List.getElem?_eq_some_iff.1 hy).1
  rw [slotI_succ hf (by omega), List.getElem?_set_ne (slotI_ne hf (by omega) (by omega) (by omega)), Nat.add_comm k 1]
  exact h.at_ (1 + k) y hy
def rotL (sl : List EntV) (f : Nat) : List EntV := sl.drop f ++ sl.take f
theorem rotL_len {sl : List EntV} {f : Nat} : (rotL sl f).length = sl.length := by unfold rotL; rw [List.length_append, List.length_drop, List.length_take]; omega
theorem rotL_at {sl : List EntV} {f k : Nat} (hf : f < sl.length) (hk : k < sl.length) : (rotL sl f)[k]? = sl[slotI f sl.length k]? := by
  unfold rotL slotI
  split
  · rw [List.getElem?_append_left (by rw [List.length_drop]; omega), List.getElem?_drop]
  · rw [List.getElem?_append_right (by rw [List.length_drop]; omega), List.length_drop, List.getElem?_take, if_pos (by omega)]
    congr 1; omega
theorem RingD.grow {sl : List EntV} {f : Nat} {es : List EntD} (h : RingD sl f es) (hn : es.length = sl.length) (hs : 2 * es.length + 1 ≤ 5026338869833) : RingD (rotL sl f ++ List.replicate (sl.length + 1) zeroV) 0 es := by
  refine ⟨by rw [List.length_append, rotL_len]; omega, by rw [List.length_append, rotL_len, List.length_replicate]; omega, .inr (by rw [List.length_append, List.length_replicate]; omega), fun k e he => ?_⟩
  have hk := (List.getElem?_eq_some_iff.1 he).1
  obtain ⟨x, hx, hxe⟩ := h.at_ k e he
  refine ⟨x, ?_, hxe⟩
  rw [List.length_append, rotL_len, List.length_replicate]
  have : slotI 0 (sl.length + (sl.length + 1)) k = k := by unfold slotI; split <;> omega
  rw [this, List.getElem?_append_left (by rw [rotL_len]; omega), rotL_at (h.lt hk) (by omega), hx]

/-! ## A log -/
/-- may entries stand behind an index and a term? -/
def folB : Int → Int → List EntD → Bool
  | _, _, [] => true
  | i, t, e :: r => rightE e && (decide (e.i = i + 1) && (decide (t ≤ e.t) && folB e.i e.t r))
theorem folB_cons {i t : Int} {e : EntD} {r : List EntD} : folB i t (e :: r) = (rightE e && (decide (e.i = i + 1) && (decide (t ≤ e.t) && folB e.i e.t r))) := rfl
structure InvL (bi bt : Int) (es : List EntD) : Prop where
  hi : 0 ≤ bi ∧ bi ≤ 72057594037927935
  ht : 0 ≤ bt ∧ bt ≤ 72057594037927935
  hf : folB bi bt es = true
theorem fol_at : ∀ {es : List EntD} {i t : Int} {k : Nat} {e : EntD}, folB i t es = true → es[k]? = some e → e.i = i + 1 + (k : Int) ∧ rightE e = true ∧ t ≤ e.t
  | [], _, _, _, _, _, h => by simp at h
  | x :: r, i, t, k, e, h, hk => by
    rw [folB_cons] at h
    simp only [Bool.and_eq_true, decide_eq_true_eq] at h
    obtain ⟨h1, h2, h3, h4⟩ := h
    cases k with
    | zero =>
      obtain rfl : x = e := by simpa using hk
      exact ⟨by rw [h2]; simp, h1, h3⟩
    | succ k =>
      have hk' : r[k]? = some e := by simpa using hk
      obtain ⟨h5, h6, h7⟩ := fol_at h4 hk'
      exact ⟨by rw [h5, h2]; push_cast; omega, h6, by omega⟩
theorem fol_len {es : List EntD} {i t : Int} (h : folB i t es = true) (hi : 0 ≤ i ∧ i ≤ 72057594037927935) : i + (es.length : Int) ≤ 72057594037927935 := by
  cases hl : es.length with
  | zero => simp; exact hi.2
  | succ n =>
    obtain ⟨e, he⟩ : ∃ e, es[n]? = some e := ⟨_, List.getElem?_eq_getElem (by omega)⟩
    obtain ⟨h1, h2, _⟩ := fol_at h he
    have := (rightE_iff h2).2.1
    push_cast; omega
theorem InvL.at_ {bi bt : Int} {es : List EntD} (h : InvL bi bt es) {k : Nat} {e : EntD} (he : es[k]? = some e) : e.i = bi + 1 + (k : Int) ∧ rightE e = true ∧ bt ≤ e.t ∧ (1 ≤ e.t ∧ e.t ≤ 72057594037927935) := by
  obtain ⟨h1, h2, h3⟩ := fol_at h.hf he
  exact ⟨h1, h2, h3, (rightE_iff h2).1⟩
theorem InvL.len {bi bt : Int} {es : List EntD} (h : InvL bi bt es) : bi + (es.length : Int) ≤ 72057594037927935 := fol_len h.hf h.hi
/-- how many entries there are up to an index -/
def upM (bi : Int) (n : Nat) (x : Int) : Nat := min (x - bi).toNat n
theorem upM_le {bi x : Int} {n : Nat} : upM bi n x ≤ n := Nat.min_le_right _ _
/-- the members that entries tell last, and where -/
def cfL : Int × Int → List EntD → Int × Int
  | s, [] => s
  | s, e :: r => cfL (if e.k = 2 then (e.c, e.i) else s) r
end Go.Proofs.Ytnebloeideodmaa.Sep
