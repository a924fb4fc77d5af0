/-
  Bld · RpcD · DskS · DskW
-/
import Derived.Test.YtfiojppagmnpcaaAA05
import Derived.Test.YtfiojppagmnpcaaAB02
set_option linter.unusedSimpArgs false
set_option linter.unusedVariables false

namespace Go.Proofs.Ytfiojppagmnpcaa.Sep
open Go.RowKit
open Go.Proofs.Ytfiojppagmnpcaa.Mem (Dist Blk Chg)
theorem fold_set : ∀ (ys : List Value) (n : Nat) (cs : Array Value), n + ys.length ≤ cs.size →
    ((ys.zipIdx n).foldl (fun (cs : Array Value) (p : Value × Nat) => cs.setIfInBounds p.2 p.1) cs).toList = cs.toList.take n ++ ys ++ cs.toList.drop (n + ys.length)
  | [], n, cs, _ => by simp
  | y :: ys, n, cs, h => by
    have hl : (y :: ys).length = ys.length + 1 := rfl
    have hn : n < cs.toList.length := by rw [Array.length_toList]; omega
    rw [List.zipIdx_cons, List.foldl_cons, fold_set ys (n + 1) _ (by rw [Array.size_setIfInBounds]; omega), Array.toList_setIfInBounds]
    have e1 : (cs.toList.set n y).take (n + 1) = cs.toList.take n ++ [y] := by
      rw [List.set_eq_take_append_cons_drop, if_pos hn, List.take_append, List.length_take, Nat.min_eq_left (by omega), List.take_of_length_le (by rw [List.length_take]; omega), show n + 1 - n = 1 by omega]
      rfl
    have e2 : (cs.toList.set n y).drop (n + 1 + ys.length) = cs.toList.drop (n + (ys.length + 1)) := by
      rw [List.drop_set, if_pos (by omega)]
      congr 1
      omega
    rw [e1, e2, hl]
    simp
variable {P : Program} {Q : Exit → Act → World → Prop} {n : Nat} {B : Nat → Prop} {w0 : World} {os : List Ass} {env : List (Nat × Value)} {o : Oper}
variable {t e : TypeId} {k : Nat} {α : Type} {enc : α → List Value}
theorem fill_one {v : Value} {cells : Array Value} (h : v.cells.size = cells.size) (hk : v.cells.size = k) : Instr.fill (fun i => some (i * k, k)) cells [(0, v)] = some v.cells := by
  have h1 : ¬ ((v.cells.size ≠ k || 0 * k + v.cells.size > cells.size) = true) := by simp [hk]; omega
  have h2 : (v.cells.zipIdx.foldl (fun (cs : Array Value) (p : Value × Nat) => cs.setIfInBounds (0 * k + p.2) p.1) cells) = v.cells := by
    have hf : (fun (cs : Array Value) (p : Value × Nat) => cs.setIfInBounds (0 * k + p.2) p.1) = fun cs p => cs.setIfInBounds p.2 p.1 := by
      funext cs p
      rw [Nat.zero_mul, Nat.zero_add]
    rw [hf, ← Array.foldl_toList, Array.toList_zipIdx]
    apply Array.toList_inj.1
    rw [fold_set _ 0 _ (by rw [Array.length_toList]; omega), Array.length_toList]
    simp [h]
  unfold Instr.fill
  simp only
  rw [if_neg h1]
  exact congrArg some h2
theorem run_buildK (hT : SliceT P t e k) (hk : k ≤ 4096) {x : Value} (hx : x.cells.size = k) (w : World) : (Instr.buildSlice t 1 #[(0, x)]).run P w = .ok (.slice (some ⟨w.heap.size, 0, none⟩) 1 1) (w.alloc (.cells x.cells e)) := by
  obtain ⟨inf, z, hinf, hz, hsz, _, hzs, _⟩ := hT.inf
  have hp := hT.pos
  have hf : Instr.fill (fun i => some (i * k, k)) ((Array.range k).map (fun j => z.cells[j % z.cells.size]!)) [(0, x)] = some x.cells := fill_one (by simp [hx]) hx
  have h1 : ¬ 1 * k > 2 ^ 24 := by omega
  have h2 : ¬ 1 * k = 0 := by omega
  simp only [Instr.buildSlice, run_underlying hT.ht, hT.sizeOf, Sem.run_bind, Sem.run_pure, Result.andThen_ok, if_neg h1, if_neg h2, zeroValue, typeInfo, hinf, hz]
  simp [newRow, zeroValue, typeInfo, hinf, hz, h1, h2]
  rw [hf]
  simp
theorem a_buildK (hT : SliceT P t e k) (hk : k ≤ 4096) (he : EncOf k enc) {x : Operand} {c : Value} (a : α) (hc : c.cells.toList = enc a) (ho : o.op = .buildSlice t 1 #[(0, x)]) (hx : evs env x = some c) : Acts P Q n env B w0 os o (fun v : Value => v) (fun v => Vec e k enc v [a] :: os) := fun b w hH hF K hK => by
  have hsz : c.cells.size = k := by rw [← he.len a, ← hc, Array.length_toList]
  have hrun : (execOp b.eval o).run P w = .ok (.value (.slice (some ⟨w.heap.size, 0, none⟩) 1 1)) (w.alloc (.cells c.cells e)) := by
    unfold execOp
    simp [ho, hF.evs hx, Sem.run_bind, run_buildK hT hk hsz]
  refine a_val (w0 := w) b hrun (hK _ _ ?_)
  have := hH.new e c.cells
  obtain ⟨rs, ⟨r1, r2, e1, h1, h2⟩, h3⟩ := this
  unfold cell at h1
  exact ⟨rs, ⟨r1, r2, e1, .inr ⟨w.heap.size, 1, c.cells, rfl, Nat.le_refl _, by unfold maxLen; omega, by simp [hsz], by rw [hc]; simp only [flat, List.flatMap_cons, List.flatMap_nil, List.append_nil, List.length_cons, List.length_nil, Nat.zero_add, Nat.one_mul]; exact List.take_of_length_le (by rw [he.len]; exact Nat.le_refl _), h1⟩, h2⟩, h3⟩
end Go.Proofs.Ytfiojppagmnpcaa.Sep

namespace Go.Proofs.Ytfiojppagmnpcaa.Sep
open Go.RowKit
open Go.Proofs.Ytfiojppagmnpcaa.Mem (Dist Blk Chg below0)

section
variable {P : Program} {ops : Array Oper} {Q : Exit → Act → World → Prop} {n : Nat} {env : List (Nat × Value)} {B : Nat → Prop} {w0 : World} {os : List Ass} {t : Ass}
theorem new_thing (h : t []) : ∀ rs, Parts os rs → ∃ _ : Unit, ∃ rs', rs.Perm rs' ∧ Parts (t :: os) rs' := fun rs hr => ⟨(), rs, .refl _, [], rs, rfl, h, hr⟩
theorem d_new (h0 : t []) {c : Code} (h : WC2 P Q n env B w0 (t :: os) c) : WC2 P Q n env B w0 os c := WC2.via (fun _ : Unit => _) (new_thing h0) fun _ => h
theorem fact_add {xs : List Ass} {p : Prop} (hp : p) {z : List RowT} (h : Parts xs z) : Parts (xs ++ [fact p]) z := by
  have := Parts.app h (show Parts [fact p] [] from ⟨[], [], rfl, ⟨rfl, hp⟩, rfl⟩)
  rwa [List.append_nil] at this
end
end Go.Proofs.Ytfiojppagmnpcaa.Sep

namespace Go.Proofs.Ytfiojppagmnpcaa.Sep
open Go.RowKit
open Go.Proofs.Ytfiojppagmnpcaa.Mem (Dist Blk Chg below0)

theorem short_end {α : Type} {l : List (List α)} {i m n : Nat} (hi : i ≤ l.length) (hm : i ≤ m) (h : l.length ≤ i ∨ m ≤ i) : (l.take i).map (·.take n) = (l.take m).map (·.take n) := by
  congr 1
  rcases h with h | h
  · rw [List.take_of_length_le h, List.take_of_length_le (by omega)]
  · rw [show i = m by omega]
theorem short_next {α : Type} {l : List (List α)} {i n : Nat} {x : List α} (h : l[i]? = some x) : (l.take (i + 1)).map (·.take n) = (l.take i).map (·.take n) ++ [x.take n] := by
  have hlt := (List.getElem?_eq_some_iff.1 h).1
  have hx := (List.getElem?_eq_some_iff.1 h).2
  rw [← hx, List.take_succ_eq_append_getElem hlt, List.map_append]; rfl

set_option maxRecDepth 100000 in
theorem short_does (u : World) (v : Value) (l : List PtV) (hv : PtsRd u v l) (hl : l.length ≤ 9223372036854775807) (hd : ∀ x, x ∈ l → x.d.length ≤ 140737488351232) (m n : Nat) (hm : m ≤ 1000) (hn : n ≤ 9223372036854775807) : DoesU u Try.prog 19 #[v, .int .i64 (m : Int), .int .i64 (n : Int)] [] (fun (x : PsV) => x.v) (fun (x : PsV) => [PartsT 28 x.v x.l, fact (x.l.map (·.2) = ((l.map (·.d)).take m).map (·.take n))]) := by
  refine d_insU (args := [v, .int .i64 (m : Int), .int .i64 (n : Int)]) 38 Try.func19 rfl rfl rfl ?_; intro w rs hU hS
  refine d_reg ?_
  refine h_q hflS rfl ?_
  refine h_done (d_reg ?_)
  refine h_q hflS rfl ?_
  refine h_done (d_seq (d_reg ?_))
  refine h_q hflS rfl ?_
  refine h_done (d_block ?_)
  refine d_new (t := PartsT 28 (.slice none 0 0) ([])) (prts_nil) ?_
  refine d_loop (α := Nat × List PtT × Value) (fun ⟨i, L, pv⟩ => [(0, v), (1, .int .i64 (m : Int)), (2, .int .i64 (n : Int)), (6, .slice none 0 0), (7, pv), (8, .int .i64 ((i : Nat) : Int))]) (fun ⟨i, L, pv⟩ => [PartsT 28 pv L]) (fun ⟨i, L, pv⟩ => i ≤ l.length ∧ i ≤ m ∧ L.map (·.2) = ((l.map (·.d)).take i).map (·.take n)) (fun ⟨i, L, pv⟩ => l.length - i) (0, [], .slice none 0 0) ⟨Nat.zero_le _, Nat.zero_le _, rfl⟩ ⟨rfl, rfl, rfl, rfl, rfl, rfl, trivial⟩ rfl ?_
  rintro ⟨i, L, pv⟩ hI
  refine WC2.at_ (env' := [(0, v), (1, .int .i64 (m : Int)), (2, .int .i64 (n : Int)), (6, .slice none 0 0), (7, pv), (8, .int .i64 ((i : Nat) : Int))]) (rs' := [PartsT 28 pv L]) ⟨rfl, rfl, rfl, rfl, rfl, rfl, trivial⟩ rfl ?_
  have hI1 : i ≤ l.length := hI.1
  have hI2 : i ≤ m := hI.2.1
  have hI3 : L.map (·.2) = ((l.map (·.d)).take i).map (·.take n) := hI.2.2
  have hLl : L.length = i := by have := congrArg List.length hI3; rw [List.length_map, List.length_map, List.length_take, List.length_map] at this; omega
  refine d_seq ?_
  have hc : (i < l.length ∧ i < m) ∨ (i < l.length ∧ m ≤ i) ∨ l.length ≤ i := by omega
  rcases hc with ⟨hi, hj⟩ | ⟨hi, hj⟩ | hi
  · skip
    obtain ⟨x, hx⟩ : ∃ x, l[i]? = some x := ⟨_, List.getElem?_eq_getElem hi⟩
    have hmx := List.mem_of_getElem? hx
    have hxd : (l.map (·.d))[i]? = some x.d := by rw [List.getElem?_map, hx]; rfl
    refine d_reg ?_
    refine h_q hflS rfl ?_
    refine h_val rfl (.int .i64 (l.length : Int)) (fun b w hb hH => e_slen ((argPs hv hU hS hH).1) Try.underlying38 rfl rfl hb) ?_
    refine h_val rfl (.bool true) (fun b w hb hH => exec_cmp rfl rfl rfl (cmp_lss_t (by omega)) hb) ?_
    refine h_q hflS rfl ?_
    refine h_val rfl (.bool true) (fun b w hb hH => exec_cmp rfl rfl rfl (cmp_lss_t (by omega)) hb) ?_
    refine h_q hflS rfl ?_
    refine h_done (d_then rfl (d_skip (f_to (d_seq (d_block ?_)))))
    refine d_open 0 rfl prts_open (fun _ => rfl) ?_; rintro ⟨⟩
    refine d_emps 2 rfl ?_
    refine d_parS 17 4 [⟨.quiet, [none, none, none, none], fun _ => pv, []⟩, ⟨.act 0, [some false, some false, some false, some false], fun _ => undef, []⟩, ⟨.quiet, [none, none, none, none], fun _ => v, []⟩, ⟨.quiet, [none, none, none, none], fun _ => .int .i64 ((i : Nat) : Int), []⟩, ⟨.quiet, [none, none, none, none], fun _ => elp v (i * 1), [2, 3]⟩, ⟨.quiet, [none, none, none, none], fun _ => x.v, [4]⟩, ⟨.quiet, [none, none, none, none], fun _ => v, []⟩, ⟨.quiet, [none, none, none, none], fun _ => .int .i64 ((i : Nat) : Int), []⟩, ⟨.quiet, [none, none, none, none], fun _ => elp v (i * 1), [6, 7]⟩, ⟨.quiet, [none, none, none, none], fun _ => x.v, [8]⟩, ⟨.quiet, [none, none, none, none], fun _ => .int .i64 (x.d.length : Int), [9]⟩, ⟨.quiet, [none, none, none, none], fun _ => .int .i64 (n : Int), []⟩, ⟨.quiet, [none, none, none, none], fun _ => .int .i64 ((x.d.take n).length : Int), [10, 11]⟩, ⟨.quiet, [none, none, none, none], fun _ => .slice x.A (x.d.take n).length x.c, [5, 12]⟩, ⟨.act 1, [some true, some false, some false, some false], fun _ => undef, [1, 13]⟩, ⟨.act 2, [some true, some true, some false, some false], fun _ => undef, [14]⟩, ⟨.act 3, [some true, some true, some true, some false], fun _ => undef, [0, 15]⟩] [(0, v), (1, .int .i64 (m : Int)), (2, .int .i64 (n : Int)), (6, .slice none 0 0), (7, pv), (8, .int .i64 ((i : Nat) : Int)), (9, .int .i64 ((i : Nat) : Int)), (10, v), (11, .int .i64 (l.length : Int)), (12, .bool true), (13, .bool true), (14, .int .i64 ((i : Nat) : Int)), (15, .int .i64 (m : Int)), (16, .bool true), (17, .bool true)] (fun ρ => match ρ with | [r0, r1, r2, r3] => [selS r2 (fun b1 => selS r1 (fun d1 => Vec 28 1 encW b1 ([d1])) (emp)) (emp), selS r1 (fun d1 => Vec 5 1 encB d1 (x.d.take n)) (selS r0 (fun d0 => Vec 5 1 encB d0 ([])) (emp)), selS r3 (fun p1 => selS r1 (fun d1 => Vec 28 1 encW p1 (L.map (·.1) ++ [d1])) (emp)) (Vec 28 1 encW pv (L.map (·.1))), Each (fun x : PtT => Vec 5 1 encB x.1 x.2) L] | _ => []) (by kernel_rfl) (by kernel_rfl) ⟨rfl, rfl, rfl, rfl, rfl, rfl, rfl, rfl, rfl, rfl, rfl, rfl, rfl, rfl, rfl, trivial⟩ rfl ?_ ?_
    · skip
      refine s_cons (by intro r0_ r1_ r2_ r3_; exact ⟨rfl, fun b w hH hb => exec_q1 hflS rfl hb⟩) ?_
      refine s_cons (by exact ⟨rfl, Acts.s (Acts.place (val := fun d0 : Value => d0) (t := fun d0 => Vec 5 1 encB d0 ([])) (os' := fun d0 => [emp, Vec 5 1 encB d0 ([]), Vec 28 1 encW pv (L.map (·.1)), Each (fun x : PtT => Vec 5 1 encB x.1 x.2) L]) 1 rfl (by refine a_build0 (e := 5) (t := 28) (k := 1) (enc := encB) ?_ ?_; exact sl_uint8; exact rfl) (fun _ => rfl)) (fun _ => rfl)⟩) ?_
      refine s_cons (by intro r0_ r1_ r2_ r3_; exact ⟨rfl, fun b w hH hb => exec_q1 hflS rfl hb⟩) ?_
      refine s_cons (by intro r0_ r1_ r2_ r3_; exact ⟨rfl, fun b w hH hb => exec_q1 hflS rfl hb⟩) ?_
      refine s_cons (by intro r0_ r1_ r2_ r3_; exact ⟨rfl, fun b w hH hb => e_sidx okPt ((argPs hv hU hS hH).1) sl_s_uint8 (j := i) hx rfl rfl rfl hb⟩) ?_
      refine s_cons (by intro r0_ r1_ r2_ r3_; exact ⟨rfl, fun b w hH hb => e_sload okPt (by decide) ((argPs hv hU hS hH).1) (j := i) hx ty_s_uint8 (off := 0) rfl rfl rfl hb⟩) ?_
      refine s_cons (by intro r0_ r1_ r2_ r3_; exact ⟨rfl, fun b w hH hb => exec_q1 hflS rfl hb⟩) ?_
      refine s_cons (by intro r0_ r1_ r2_ r3_; exact ⟨rfl, fun b w hH hb => exec_q1 hflS rfl hb⟩) ?_
      refine s_cons (by intro r0_ r1_ r2_ r3_; exact ⟨rfl, fun b w hH hb => e_sidx okPt ((argPs hv hU hS hH).1) sl_s_uint8 (j := i) hx rfl rfl rfl hb⟩) ?_
      refine s_cons (by intro r0_ r1_ r2_ r3_; exact ⟨rfl, fun b w hH hb => e_sload okPt (by decide) ((argPs hv hU hS hH).1) (j := i) hx ty_s_uint8 (off := 0) rfl rfl rfl hb⟩) ?_
      refine s_cons (by intro r0_ r1_ r2_ r3_; exact ⟨rfl, fun b w hH hb => e_slen ((arg8 (hv.2 x hmx) hU hS hH).rd) Try.underlying28 rfl rfl hb⟩) ?_
      refine s_cons (by intro r0_ r1_ r2_ r3_; exact ⟨rfl, fun b w hH hb => exec_q1 hflS rfl hb⟩) ?_
      refine s_cons (by intro r0_ r1_ r2_ r3_; exact ⟨rfl, fun b w hH hb => exec_builtin2 rfl rfl (fun cs => (fun w cs => run_min2 (by rw [takeMin]; split <;> omega) _ _ w cs) w cs) hb⟩) ?_
      refine s_cons (by intro r0_ r1_ r2_ r3_; exact ⟨rfl, fun b w hH hb => e_sub_hi (A := x.A) (sn := x.d.length) (c := x.c) (j := (x.d.take n).length) sl_uint8 subTake (by have := sl8_capN (hv.2 x hmx); rw [List.length_take]; omega) rfl rfl rfl hH hb⟩) ?_
      refine s_cons (by intro d0; exact ⟨rfl, Acts.s (a_append8 1 sl_uint8 (by kernel_rfl) rfl (x.d.take n) (fun w hH => (Sl8.takesN n (arg8 (hv.2 x hmx) hU hS hH)).rd) (by have := hd x hmx; simp only [List.length_nil, List.length_take]; omega) rfl rfl rfl (List.nil_append _)) (fun _ => rfl)⟩) ?_
      refine s_cons (by intro d0 d1; exact ⟨rfl, Acts.s (Acts.place (val := fun b1 : Value => b1) (t := fun b1 => Vec 28 1 encW b1 ([d1])) (os' := fun b1 => [Vec 28 1 encW b1 ([d1]), Vec 5 1 encB d1 (x.d.take n), Vec 28 1 encW pv (L.map (·.1)), Each (fun x : PtT => Vec 5 1 encB x.1 x.2) L]) 0 rfl (by exact a_buildV 1 sl_s_uint8 rfl rfl rfl) (fun _ => rfl)) (fun _ => rfl)⟩) ?_
      refine s_cons (by intro d0 d1 b1; exact ⟨rfl, Acts.s (a_append 2 sl_s_uint8 okW rfl ([d1]) (fun w hH => hH.vec 0 rfl okW) (by simp only [List.length_map, List.length_cons, List.length_nil]; omega) rfl rfl rfl rfl) (fun _ => rfl)⟩) ?_
      exact s_nil
    intro d0 d1 b1 p1
    refine WL2.keep (env' := [(0, v), (1, .int .i64 (m : Int)), (2, .int .i64 (n : Int)), (6, .slice none 0 0), (7, pv), (8, .int .i64 ((i : Nat) : Int)), (9, .int .i64 ((i : Nat) : Int)), (10, v), (11, .int .i64 (l.length : Int)), (12, .bool true), (13, .bool true), (14, .int .i64 ((i : Nat) : Int)), (15, .int .i64 (m : Int)), (16, .bool true), (17, .bool true), (20, pv), (21, d0), (22, v), (23, .int .i64 ((i : Nat) : Int)), (24, elp v (i * 1)), (25, x.v), (26, v), (27, .int .i64 ((i : Nat) : Int)), (28, elp v (i * 1)), (29, x.v), (30, .int .i64 (x.d.length : Int)), (31, .int .i64 (n : Int)), (32, .int .i64 ((x.d.take n).length : Int)), (33, .slice x.A (x.d.take n).length x.c), (34, d1), (35, b1), (36, p1)]) ⟨rfl, rfl, rfl, rfl, rfl, rfl, rfl, rfl, rfl, rfl, rfl, rfl, rfl, rfl, rfl, rfl, rfl, rfl, rfl, rfl, rfl, rfl, rfl, rfl, rfl, rfl, rfl, rfl, rfl, rfl, rfl, rfl, trivial⟩ ?_
    refine h_q hflS rfl ?_
    refine h_nil (f_block (f_to ?_))
    refine WC2.leave [0] rfl rfl ?_
    refine d_close [1, 2, 0] rfl prts_push rfl ?_
    refine d_reg1 ?_
    refine h_q hflS rfl ?_
    refine h_val rfl (.int .i64 ((i + 1 : Nat) : Int)) (fun b w hb hH => exec_ar rfl rfl rfl rfl (by rw [IntWalk.i64_in _ (by omega)]; omega) hb) ?_
    refine h_q hflS rfl ?_
    refine h_nil ?_
    exact f_again (i + 1, L ++ [(d1, x.d.take n)], p1) 0 ⟨hi, hj, by rw [List.map_append, hI3, short_next hxd]; rfl⟩ (show l.length - (i + 1) < l.length - i by omega) ⟨rfl, rfl, rfl, rfl, rfl, rfl, trivial⟩ rfl
  · skip
    refine d_reg ?_
    refine h_q hflS rfl ?_
    refine h_val rfl (.int .i64 (l.length : Int)) (fun b w hb hH => e_slen ((argPs hv hU hS hH).1) Try.underlying38 rfl rfl hb) ?_
    refine h_val rfl (.bool true) (fun b w hb hH => exec_cmp rfl rfl rfl (cmp_lss_t (by omega)) hb) ?_
    refine h_q hflS rfl ?_
    refine h_val rfl (.bool false) (fun b w hb hH => exec_cmp rfl rfl rfl (cmp_lss_f (by omega)) hb) ?_
    refine h_q hflS rfl ?_
    refine h_done (d_else rfl (d_exit (f_then_exit (f_then_exit (f_block_exit (f_to (d_reg ?_)))))))
    refine h_q hflS rfl ?_
    refine h_done (d_ret ?_)
    exact f_fin1 (.tmp rfl) (fun w h => tells (⟨pv, L⟩ : PsV) rfl [0] rfl h (fun z hz => ⟨z, .refl _, fact_add (xs := [_]) (show L.map (·.2) = _ by rw [hI3]; exact short_end (by rw [List.length_map]; omega) hI2 (.inr hj)) hz⟩)) rfl
  · skip
    refine d_reg ?_
    refine h_q hflS rfl ?_
    refine h_val rfl (.int .i64 (l.length : Int)) (fun b w hb hH => e_slen ((argPs hv hU hS hH).1) Try.underlying38 rfl rfl hb) ?_
    refine h_val rfl (.bool false) (fun b w hb hH => exec_cmp rfl rfl rfl (cmp_lss_f (by omega)) hb) ?_
    refine h_q hflS rfl ?_
    refine h_done (d_else rfl (d_exit (f_then_exit (f_then_exit (f_block_exit (f_to (d_reg ?_)))))))
    refine h_q hflS rfl ?_
    refine h_done (d_ret ?_)
    exact f_fin1 (.tmp rfl) (fun w h => tells (⟨pv, L⟩ : PsV) rfl [0] rfl h (fun z hz => ⟨z, .refl _, fact_add (xs := [_]) (show L.map (·.2) = _ by rw [hI3]; exact short_end (by rw [List.length_map]; omega) hI2 (.inl (by rw [List.length_map]; exact hi))) hz⟩)) rfl
end Go.Proofs.Ytfiojppagmnpcaa.Sep

namespace Go.Proofs.Ytfiojppagmnpcaa.Sep
open Go.RowKit
/-- the bytes of an operation -/
def OpD.size : OpD → Nat
  | .app _ b => b.length
  | _ => 0
/-- a disk whose sizes are within reach -/
def DiskD.fit (d : DiskD) : Prop := usedF d.syn + (d.wait.map OpD.size).sum ≤ 1099511627776 ∧ d.wait.length ≤ 10000
/-- the bytes of parts -/
theorem size_apps (n : List UInt8) : ∀ (ps : List (List UInt8)), ((ps.map (OpD.app n)).map OpD.size).sum = ps.flatten.length
  | [] => rfl
  | b :: r => by
    have := size_apps n r
    simp only [List.map_cons, List.sum_cons, List.flatten_cons, List.length_append, this, OpD.size]
theorem oneD_fit {n : List UInt8} {room : Int} {s : Option (List UInt8)} {ps : List (List UInt8)} {fu : Option Nat} {dn : Bool} (h1 : (s.getD []).length + ps.flatten.length ≤ 1099511627776) (h2 : ps.length ≤ 10000) : ({ oneD n room s ps fu with down := dn } : DiskD).fit := by
  refine ⟨?_, by show (ps.map (OpD.app n)).length ≤ _; rw [List.length_map]; exact h2⟩
  show usedF (oneF n s) + ((ps.map (OpD.app n)).map OpD.size).sum ≤ _
  rw [one_used, size_apps]; exact h1
theorem oneD_fit' {n : List UInt8} {room : Int} {s : Option (List UInt8)} {ps : List (List UInt8)} {fu : Option Nat} (h1 : (s.getD []).length + ps.flatten.length ≤ 1099511627776) (h2 : ps.length ≤ 10000) : (oneD n room s ps fu).fit := oneD_fit (dn := false) h1 h2
theorem oneD_sync {n : List UInt8} {room : Int} {s : Option (List UInt8)} {ps : List (List UInt8)} : syncD (oneD n room s ps none) = (oneD n room (catO s ps) [] none, 0) := by
  have h1 : beginD (oneD n room s ps none) = (oneD n room s ps none, 0) := by
    unfold beginD
    rw [if_neg (by simp [oneD])]; rfl
  unfold syncD
  rw [h1]
  simp only
  rw [if_neg (by simp), oneD_now]; rfl
theorem oneD_read {n : List UInt8} {room : Int} {s : Option (List UInt8)} {ps : List (List UInt8)} {fu : Option Nat} : readD (oneD n room s ps fu) n = catO s ps := by
  unfold readD
  rw [if_neg (by simp [oneD]), oneD_now, one_get]
/-! ## Parts cut short -/
def ShortL (m n : Nat) (L : List (List UInt8)) : Prop := L.length ≤ m ∧ ∀ b, b ∈ L → b.length ≤ n
theorem short_of {m n : Nat} {L P : List (List UInt8)} (h : L = (P.take m).map (·.take n)) : ShortL m n L := by
  subst h
  refine ⟨by rw [List.length_map, List.length_take]; omega, fun b hb => ?_⟩
  obtain ⟨c, _, rfl⟩ := List.mem_map.1 hb
  rw [List.length_take]; omega
theorem flat_le {n : Nat} : ∀ {L : List (List UInt8)}, (∀ b, b ∈ L → b.length ≤ n) → L.flatten.length ≤ L.length * n
  | [], _ => by simp
  | b :: r, h => by
    have h1 := h b (List.mem_cons_self ..)
    have h2 := flat_le (L := r) fun c hc => h c (List.mem_cons_of_mem _ hc)
    rw [List.flatten_cons, List.length_append, List.length_cons, Nat.succ_mul]
    omega
theorem ShortL.flat {m n : Nat} {L : List (List UInt8)} (h : ShortL m n L) : L.flatten.length ≤ m * n := Nat.le_trans (flat_le h.2) (Nat.mul_le_mul_right n h.1)
theorem ShortL.take {m n : Nat} {L : List (List UInt8)} (h : ShortL m n L) (i : Nat) : ShortL m n (L.take i) := ⟨by have := h.1; rw [List.length_take]; omega, fun b hb => h.2 b (List.mem_of_mem_take hb)⟩
theorem take_push {α : Type} {L : List α} {i : Nat} {b : α} (h : L[i]? = some b) : L.take i ++ [b] = L.take (i + 1) := by
  have hlt := (List.getElem?_eq_some_iff.1 h).1
  have hx := (List.getElem?_eq_some_iff.1 h).2
  rw [← hx, List.take_succ_eq_append_getElem hlt]
/-- a disk of one file, synced behind an empty append -/
theorem sync_one {n : List UInt8} {room : Int} {ps : List (List UInt8)} : syncD (oneD n room none (ps ++ [[]]) none) = (oneD n room (some ps.flatten) [] none, 0) := by
  rw [oneD_sync, catO_none, if_neg (by simp)]; simp
theorem read_some {n x : List UInt8} {room : Int} {fu : Option Nat} : readD (oneD n room (some x) [] fu) n = some x := oneD_read
theorem read_somes {n x : List UInt8} {room : Int} {fu : Option Nat} : (readD (oneD n room (some x) [] fu) n).isSome = true := by rw [read_some]; rfl
theorem read_someb {n x : List UInt8} {room : Int} {fu : Option Nat} : (readD (oneD n room (some x) [] fu) n).getD [] = x := by rw [read_some]; rfl
theorem crash_any {n : List UInt8} {room : Int} {s : Option (List UInt8)} {ps : List (List UInt8)} {fu : Option Nat} {keep torn : Int} : crashD (oneD n room s ps fu) keep torn = oneD n room (leftO s ps (keep % ((ps.length : Int) + 1)).toNat (tornO ps (keep % ((ps.length : Int) + 1)).toNat torn)) [] none := crash_one (dn := false)
theorem crash_some {n x : List UInt8} {room : Int} {ps : List (List UInt8)} {fu : Option Nat} (keep torn : Int) : ∃ m, m ≤ ps.flatten.length ∧ crashD (oneD n room (some x) ps fu) keep torn = oneD n room (some (x ++ ps.flatten.take m)) [] none := by
  obtain ⟨m, h1, h2⟩ := leftO_some x ps (keep % ((ps.length : Int) + 1)).toNat torn
  exact ⟨m, h1, by rw [crash_any, h2]⟩
theorem crash_same {n x : List UInt8} {room : Int} {fu : Option Nat} {keep torn : Int} : crashD (oneD n room (some x) [] fu) keep torn = oneD n room (some x) [] none := by
  obtain ⟨m, _, h2⟩ := crash_some (n := n) (x := x) (room := room) (ps := []) (fu := fu) keep torn
  rw [h2]; simp
theorem read_ones {n : List UInt8} {room : Int} {ps : List (List UInt8)} {fu : Option Nat} : (readD (oneD n room none ps fu) n).isSome = (catO none ps).isSome := by rw [oneD_read]
theorem read_oneb {n : List UInt8} {room : Int} {ps : List (List UInt8)} {fu : Option Nat} : (readD (oneD n room none ps fu) n).getD [] = ps.flatten := by rw [oneD_read, catO_getD]; rfl
/-! ## The example -/
def kd0 : DiskD := ⟨9, [], [], none, false⟩
def kd1 : DiskD := ⟨9, [], [.app [97] [120, 121, 122]], none, false⟩
def kd2 : DiskD := ⟨9, [([97], [120, 121, 122])], [], none, false⟩
def kd3 : DiskD := ⟨9, [([97], [120, 121, 122])], [.app [97] [49, 50]], none, false⟩
def kd4 : DiskD := ⟨9, [([97], [120, 121, 122])], [.app [97] [49, 50], .del [97]], none, false⟩
def kd5 : DiskD := ⟨9, [([97], [120, 121, 122, 49, 50])], [], none, false⟩
theorem kn1 : appendD kd0 [97] [120, 121, 122] = (kd1, 0) := by kernel_rfl
theorem kn2 : syncD kd1 = (kd2, 0) := by kernel_rfl
theorem kn3 : appendD kd2 [97] [49, 50] = (kd3, 0) := by kernel_rfl
theorem kn4 : delD kd3 [97] = (kd4, 0) := by kernel_rfl
theorem kn5 : crashD kd4 1 0 = kd5 := by kernel_rfl
theorem kn5k : keepD kd4 1 = 1 := by kernel_rfl
theorem kr5 : readD kd5 [97] = some [120, 121, 122, 49, 50] := by kernel_rfl
theorem kr5s : (readD kd5 [97]).isSome = true := by rw [kr5]; rfl
theorem kr5b : (readD kd5 [97]).getD [] = [120, 121, 122, 49, 50] := by rw [kr5]; rfl
theorem kfit0 : kd0.fit := ⟨by decide, by decide⟩
theorem kfit1 : kd1.fit := ⟨by decide, by decide⟩
theorem kfit2 : kd2.fit := ⟨by decide, by decide⟩
theorem kfit3 : kd3.fit := ⟨by decide, by decide⟩
theorem kfit4 : kd4.fit := ⟨by decide, by decide⟩
theorem kfit5 : kd5.fit := ⟨by decide, by decide⟩
end Go.Proofs.Ytfiojppagmnpcaa.Sep
