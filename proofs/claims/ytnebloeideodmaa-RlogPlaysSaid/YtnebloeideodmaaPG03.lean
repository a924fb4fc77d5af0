/-
  Bld · RpcD · May · Opz · RpcO · RpcE0 · RpcE · RpcF1 · RpcG · RpcH · RpcI · RpcJ · CmdS · RpcK · RpcL · RpcT · RlM
-/
import Derived.Test.YtnebloeideodmaaPC01
import Derived.Test.YtnebloeideodmaaPD03
import Derived.Test.YtnebloeideodmaaPD04
import Derived.Test.YtnebloeideodmaaPG01
import Derived.Test.YtnebloeideodmaaPG02
import Derived.SizedLaws
import Derived.Lib.AppendStr
set_option linter.unusedSimpArgs false
set_option linter.unusedVariables false
set_option maxRecDepth 100000
namespace Go.Proofs.Ytnebloeideodmaa.Sep
open Go.RowKit
open Go.Proofs.Ytnebloeideodmaa.Mem (AM BA Chg)
theorem Mc : ∀ (ys : List Value) (n : Nat) (cs : Array Value), n + ys.length ≤ cs.size →
    ((ys.zipIdx n).foldl (fun (cs : Array Value) (p : Value × Nat) => cs.setIfInBounds p.2 p.1) cs).toList = cs.toList.take n ++ ys ++ cs.toList.drop (n + ys.length)
  | [], n, cs, _ => by simp
  | y :: ys, n, cs, h => by
    have hl : (y :: ys).length = ys.length + 1 := rfl
    have hn : n < cs.toList.length := by rw [Array.length_toList]; omega
    rw [List.zipIdx_cons, List.foldl_cons, Mc ys (n + 1) _ (by rw [Array.size_setIfInBounds]; omega), Array.toList_setIfInBounds]
    have e1 : (cs.toList.set n y).take (n + 1) = cs.toList.take n ++ [y] := by
      rw [List.set_eq_take_append_cons_drop, if_pos hn, List.take_append, List.length_take, Nat.min_eq_left (by omega), List.take_of_length_le (by rw [List.length_take]; omega), show n + 1 - n = 1 by omega]
      rfl
    have e2 : (cs.toList.set n y).drop (n + 1 + ys.length) = cs.toList.drop (n + (ys.length + 1)) := by
      rw [List.drop_set, if_pos (by omega)]
      congr 1
      omega
    rw [e1, e2, hl]
    simp
variable {P : Program} {Q : Exit → Act → World → Prop} {n : Nat} {B : Nat → Prop} {w0 : World} {os : List Ass} {env : List (Nat × Value)} {o : Oper}
variable {t e : TypeId} {k : Nat} {α : Type} {enc : α → List Value}
theorem RM {v : Value} {cells : Array Value} (h : v.cells.size = cells.size) (hk : v.cells.size = k) : Instr.fill (fun i => some (i * k, k)) cells [(0, v)] = some v.cells := by
 have h1 : ¬ ((v.cells.size ≠ k || 0 * k + v.cells.size > cells.size) = true) := by simp [hk]; omega
 have h2 : (v.cells.zipIdx.foldl (fun (cs : Array Value) (p : Value × Nat) => cs.setIfInBounds (0 * k + p.2) p.1) cells) = v.cells := by
  have hf : (fun (cs : Array Value) (p : Value × Nat) => cs.setIfInBounds (0 * k + p.2) p.1) = fun cs p => cs.setIfInBounds p.2 p.1 := by
   funext cs p
   rw [Nat.zero_mul, Nat.zero_add]
  rw [hf, ← Array.foldl_toList, Array.toList_zipIdx]
  apply Array.toList_inj.1
  rw [Mc _ 0 _ (by rw [Array.length_toList]; omega), Array.length_toList]
  simp [h]
 unfold Instr.fill
 simp only
 rw [if_neg h1]
 exact congrArg some h2
theorem NC (hT : SliceT P t e k) (hk : k ≤ 4096) {x : Value} (hx : x.cells.size = k) (w : World) : (Instr.buildSlice t 1 #[(0, x)]).run P w = .ok (.slice (some ⟨w.heap.size, 0, none⟩) 1 1) (w.alloc (.cells x.cells e)) := by
 obtain ⟨inf, z, hinf, hz, hsz, _, hzs, _⟩ := hT.inf
 have hp := hT.pos
 have hf : Instr.fill (fun i => some (i * k, k)) ((Array.range k).map (fun j => z.cells[j % z.cells.size]!)) [(0, x)] = some x.cells := RM (by simp [hx]) hx
 have h1 : ¬ 1 * k > 2 ^ 24 := by omega
 have h2 : ¬ 1 * k = 0 := by omega
 simp only [Instr.buildSlice, run_underlying hT.ht, hT.sizeOf, Sem.run_bind, Sem.run_pure, Result.andThen_ok, if_neg h1, if_neg h2, zeroValue, typeInfo, hinf, hz]
 simp [newRow, zeroValue, typeInfo, hinf, hz, h1, h2]
 rw [hf]
 simp
theorem E2 (hT : SliceT P t e k) (hk : k ≤ 4096) (he : EncOf k enc) {x : Operand} {c : Value} (a : α) (hc : c.cells.toList = enc a) (ho : o.op = .buildSlice t 1 #[(0, x)]) (hx : evs env x = some c) : AZ P Q n env B w0 os o (fun v : Value => v) (fun v => As e k enc v [a] :: os) := fun b w hH hF K hK => by
 have hsz : c.cells.size = k := by rw [← he.len a, ← hc, Array.length_toList]
 have hrun : (execOp b.eval o).run P w = .ok (.value (.slice (some ⟨w.heap.size, 0, none⟩) 1 1)) (w.alloc (.cells c.cells e)) := by
  unfold execOp
  simp [ho, hF.evs hx, Sem.run_bind, NC hT hk hsz]
 refine HV (w0 := w) b hrun (hK _ _ ?_)
 have := hH.new e c.cells
 obtain ⟨rs, ⟨r1, r2, e1, h1, h2⟩, h3⟩ := this
 unfold cell at h1
 exact ⟨rs, ⟨r1, r2, e1, .inr ⟨w.heap.size, 1, c.cells, rfl, Nat.le_refl _, by unfold maxLen; omega, by simp [hsz], by rw [hc]; simp only [A6, List.flatMap_cons, List.flatMap_nil, List.append_nil, List.length_cons, List.length_nil, Nat.zero_add, Nat.one_mul]; exact List.take_of_length_le (by rw [he.len]; exact Nat.le_refl _), h1⟩, h2⟩, h3⟩
end Go.Proofs.Ytnebloeideodmaa.Sep
namespace Go.Proofs.Ytnebloeideodmaa.Sep
open Go.RowKit
open Go.Proofs.Ytnebloeideodmaa.Mem (AM BA Chg Aq)
section
variable {P : Program} {ops : Array Oper} {Q : Exit → Act → World → Prop} {n : Nat} {env : List (Nat × Value)} {B : Nat → Prop} {w0 : World} {os : List Ass} {t : Ass}
theorem PT (h : t []) : ∀ rs, Am os rs → ∃ _ : Unit, ∃ rs', rs.Perm rs' ∧ Am (t :: os) rs' := fun rs hr => ⟨(), rs, .refl _, [], rs, rfl, h, hr⟩
theorem H3 (h0 : t []) {c : Code} (h : AY P Q n env B w0 (t :: os) c) : AY P Q n env B w0 os c := AY.via (fun _ : Unit => _) (PT h0) fun _ => h
theorem Dm {xs : List Ass} {p : Prop} (hp : p) {z : List RowT} (h : Am xs z) : Am (xs ++ [fact p]) z := by
 have := Am.app h (show Am [fact p] [] from ⟨[], [], rfl, ⟨rfl, hp⟩, rfl⟩)
 rwa [List.append_nil] at this
end
structure EsV where
  v : Value
  l : List EntV
theorem ND (w : World) (x y : EntV) (hx : Ft w x.v x.e.d) (hy : Ft w y.v y.e.d) (h : x.e = y.e) : Calls Try.prog 54 #[.agg #[.int .i64 x.e.k, .int .u64 x.e.t, .int .u64 x.e.i, x.v, .int .i64 x.e.c], .agg #[.int .i64 y.e.k, .int .u64 y.e.t, .int .u64 y.e.i, y.v, .int .i64 y.e.c]] w fun e w' => e = .returned (.bool true) ∧ Below w.heap.size w w' := by
 refine Fw (args := [.agg #[.int .i64 x.e.k, .int .u64 x.e.t, .int .u64 x.e.i, x.v, .int .i64 x.e.c], .agg #[.int .i64 y.e.k, .int .u64 y.e.t, .int .u64 y.e.i, y.v, .int .i64 y.e.c]]) 40 Try.func54 rfl rfl rfl (Af (Ag Ab rfl (Al (post := fun gx => [cell gx 32 #[.int .i64 x.e.k, .int .u64 x.e.t, .int .u64 x.e.i, x.v, .int .i64 x.e.c]]) rfl (Co (cs := #[.int .i64 x.e.k, .int .u64 x.e.t, .int .u64 x.e.i, x.v, .int .i64 x.e.c]) rfl rfl rfl) ?_))); rintro gx
 refine Al (post := fun gy => [cell gy 32 #[.int .i64 y.e.k, .int .u64 y.e.t, .int .u64 y.e.i, y.v, .int .i64 y.e.c], cell gx 32 #[.int .i64 x.e.k, .int .u64 x.e.t, .int .u64 x.e.i, x.v, .int .i64 x.e.c]]) rfl (Co (cs := #[.int .i64 y.e.k, .int .u64 y.e.t, .int .u64 y.e.i, y.v, .int .i64 y.e.c]) rfl rfl rfl) ?_; rintro gy
 refine Ag Ab rfl (Ae (Af (Ag Ab rfl (Ac rfl (.int .i64 x.e.k) (fun b w hb hH => AD rfl rfl (AL AB rfl) (hH.row 1 rfl) hb) (Ag Ab rfl (Ac rfl (.int .i64 y.e.k) (fun b w hb hH => AD rfl rfl (AL AB rfl) (hH.row 0 rfl) hb) (Ac rfl (.bool true) (fun b w hb hH => AI rfl rfl rfl (DK (by rw [h])) hb) (Ag Ab rfl (Ac rfl (.int .u64 x.e.t) (fun b w hb hH => AD rfl rfl (AL Ai rfl) (hH.row 1 rfl) hb) (Ag Ab rfl ?_))))))))))
 refine Ac rfl (.int .u64 y.e.t) (fun b w hb hH => AD rfl rfl (AL Ai rfl) (hH.row 0 rfl) hb) (Ac rfl (.bool true) (fun b w hb hH => AI rfl rfl rfl (DK (by rw [h])) hb) (Ag Ab rfl (Ac rfl (.int .u64 x.e.i) (fun b w hb hH => AD rfl rfl (AL Ai rfl) (hH.row 1 rfl) hb) (Ag Ab rfl (Ac rfl (.int .u64 y.e.i) (fun b w hb hH => AD rfl rfl (AL Ai rfl) (hH.row 0 rfl) hb) (Ac rfl (.bool true) (fun b w hb hH => AI rfl rfl rfl (DK (by rw [h])) hb) (Ag Ab rfl (Ac rfl (x.v) (fun b w hb hH => AD rfl rfl (AL Cr rfl) (hH.row 1 rfl) hb) (Ac rfl (.string (bs x.e.d)) (fun b w hb hH => JR Try.underlying30 Try.underlying5 (by kernel_rfl) Try.underlying9 (Ca hx hH) rfl rfl hb) ?_)))))))))
 refine Ag Ab rfl (Ac rfl (y.v) (fun b w hb hH => AD rfl rfl (AL Cr rfl) (hH.row 0 rfl) hb) (Ac rfl (.string (bs y.e.d)) (fun b w hb hH => JR Try.underlying30 Try.underlying5 (by kernel_rfl) Try.underlying9 (Ca hy hH) rfl rfl hb) (Ac rfl (.bool true) (fun b w hb hH => O5 rfl rfl rfl (by rw [h]; simp) hb) (Ag Ab rfl (Ac rfl (.int .i64 x.e.c) (fun b w hb hH => AD rfl rfl (AL AB rfl) (hH.row 1 rfl) hb) (Ag Ab rfl (Ac rfl (.int .i64 y.e.c) (fun b w hb hH => AD rfl rfl (AL AB rfl) (hH.row 0 rfl) hb) (Ac rfl (.bool true) (fun b w hb hH => AI rfl rfl rfl (DK (by rw [h])) hb) (Ag Ab rfl ?_)))))))))
 refine Ae (Aw ?_)
 exact Ar (.tmp rfl) (fun w h => ⟨rfl, Aq h.up⟩) rfl
theorem NE (u : World) (v : Value) (l : List EntV) (hv : Bj u v l) (hl : l.length * 56 ≤ 140737488351232) (hd : ∀ x, x ∈ l → x.e.d.length ≤ 140737488351232) : EJ u Try.prog 39 #[v] [] (fun (x : EsV) => x.v) (fun (x : EsV) => [BZ 32 x.v x.l, fact (x.l.map (·.e) = l.map (·.e))]) := by
  refine Nf (args := [v]) 29 Try.func39 rfl rfl rfl ?_; intro w rs hU hS
  refine Af (Ag Ab rfl (Ae (Af (Ag Ab rfl (Ae (Ax (Af (Ag Ab rfl (Ae (AN (H3 (t := BZ 32 (.slice none 0 0) ([])) (Ed) (Cw (α := Nat × List EntV × Value) (fun ⟨i, L, ev⟩ => [(0, v), (2, .slice none 0 0), (3, ev), (4, .int .i64 ((i : Nat) : Int))]) (fun ⟨i, L, ev⟩ => [BZ 32 ev L]) (fun ⟨i, L, ev⟩ => i ≤ l.length ∧ L.map (·.e) = (l.take i).map (·.e)) (fun ⟨i, L, ev⟩ => l.length - i) (0, [], .slice none 0 0) ⟨Nat.zero_le _, rfl⟩ ⟨rfl, rfl, rfl, rfl, trivial⟩ rfl ?_))))))))))))
  rintro ⟨i, L, ev⟩ hI
  refine AY.at_ (env' := [(0, v), (2, .slice none 0 0), (3, ev), (4, .int .i64 ((i : Nat) : Int))]) (rs' := [BZ 32 ev L]) ⟨rfl, rfl, rfl, rfl, trivial⟩ rfl ?_
  have hI1 : i ≤ l.length := hI.1
  have hI2 : L.map (·.e) = (l.take i).map (·.e) := hI.2
  have hLl : L.length = i := by have := congrArg List.length hI2; rw [List.length_map, List.length_map, List.length_take] at this; omega
  refine Ax ?_
  rcases Nat.lt_or_ge i l.length with hi | hi
  obtain ⟨x, hx⟩ : ∃ x, l[i]? = some x := ⟨_, List.getElem?_eq_getElem hi⟩
  have hm := List.mem_of_getElem? hx
  have hdx := hd x hm
  refine Af (Ag Ab rfl (Ac rfl (.int .i64 (l.length : Int)) (fun b w hb hH => A8 ((Cu hv hU hS hH).1) Try.underlying34 rfl rfl hb) (Ac rfl (.bool true) (fun b w hb hH => AI rfl rfl rfl (Bc (by omega)) hb) (Ae (AC rfl (AK (AJ (Ax (AN (Bo 0 rfl EY (fun _ => rfl) ?_)))))))))); rintro ⟨⟩
  refine Af (Ag Ab rfl (Ac rfl (AW v (i * 5)) (fun b w hb hH => Bw Bd ((Cu hv hU hS hH).1) Ak (j := i) hx rfl rfl rfl hb) (Ac rfl (.agg (encV x).toArray) (fun b w hb hH => DF Bd (by decide) ((Cu hv hU hS hH).1) (j := i) hx Cl rfl rfl hb) (Al (post := fun g5 => [cell g5 32 #[.int .i64 0, .int .u64 0, .int .u64 0, .slice none 0 0, .int .i64 0], As 32 5 encV ev L, An (fun x : EntV => As 5 1 encB x.v x.e.d) L]) rfl (B4 BK rfl) ?_)))); rintro g5
  refine A5 (post := fun _ => [cell g5 32 #[.int .i64 x.e.k, .int .u64 x.e.t, .int .u64 x.e.i, x.v, .int .i64 x.e.c], As 32 5 encV ev L, An (fun x : EntV => As 5 1 encB x.v x.e.d) L]) rfl rfl (AP 0 (v := .agg (encV x).toArray) #[.int .i64 x.e.k, .int .u64 x.e.t, .int .u64 x.e.i, x.v, .int .i64 x.e.c] Cl.2 rfl rfl rfl rfl rfl rfl rfl rfl rfl) ?_; rintro ⟨⟩
  refine Ae (Af (Ag Ab rfl ?_))
  refine Al (X := Value) (val := fun v : Value => v) (post := fun d0 => [As 5 1 encB d0 ([]), cell g5 32 #[.int .i64 x.e.k, .int .u64 x.e.t, .int .u64 x.e.i, x.v, .int .i64 x.e.c], As 32 5 encV ev L, An (fun x : EntV => As 5 1 encB x.v x.e.d) L]) rfl (by refine Rq (e := 5) (t := 30) (k := 1) (enc := encB) ?_ ?_; exact EX; exact rfl) ?_; rintro d0
  refine Ag Ab rfl (Ac rfl (AW v (i * 5)) (fun b w hb hH => Bw Bd ((Cu hv hU hS hH).1) Ak (j := i) hx rfl rfl rfl hb) (Ac rfl (AW v (i * 5 + 3)) (fun b w hb hH => Gt Bd (by decide) ((Cu hv hU hS hH).1) (j := i) hx B3 rfl rfl hb) (Ac rfl (x.v) (fun b w hb hH => Bh Bd (by decide) ((Cu hv hU hS hH).1) (j := i) hx Cr (off := 3) rfl rfl rfl hb) (Al (post := fun d1 => [As 5 1 encB d1 x.e.d, cell g5 32 #[.int .i64 x.e.k, .int .u64 x.e.t, .int .u64 x.e.i, x.v, .int .i64 x.e.c], As 32 5 encV ev L, An (fun x : EntV => As 5 1 encB x.v x.e.d) L]) rfl (JS 0 EX (by kernel_rfl) rfl (x.e.d) (fun w hH => (Td (hv.2 x hm) hU hS hH).rd) (by simp only [List.length_nil]; omega) rfl rfl rfl (List.nil_append _)) ?_)))); rintro d1
  refine Ag Ab rfl (A5 (post := fun _ => [As 5 1 encB d1 x.e.d, cell g5 32 #[.int .i64 x.e.k, .int .u64 x.e.t, .int .u64 x.e.i, d1, .int .i64 x.e.c], As 32 5 encV ev L, An (fun x : EntV => As 5 1 encB x.v x.e.d) L]) rfl rfl (DT 1 0 (v := d1) #[.int .i64 x.e.k, .int .u64 x.e.t, .int .u64 x.e.i, d1, .int .i64 x.e.c] Cr.2 rfl (fun _ h => As.c1 h) rfl rfl rfl rfl rfl rfl rfl) ?_); rintro ⟨⟩
  refine Ae (AY.fact 0 rfl (fun _ h => As.is h) ?_); rintro ⟨A3, c3, rfl⟩
  refine AY.keep (env' := [(0, v), (2, .slice none 0 0), (3, ev), (4, .int .i64 ((i : Nat) : Int)), (6, .int .i64 ((i : Nat) : Int)), (7, v), (8, .int .i64 (l.length : Int)), (9, .bool true), (12, v), (13, .int .i64 ((i : Nat) : Int)), (14, AW v (i * 5)), (15, .agg (encV x).toArray), (5, .pointer (some ⟨g5, 0, none⟩)), (16, d0), (17, v), (18, .int .i64 ((i : Nat) : Int)), (19, AW v (i * 5)), (20, AW v (i * 5 + 3)), (21, x.v), (22, .slice A3 x.e.d.length c3), (23, .pointer (some ⟨g5, 3, none⟩))]) ⟨rfl, rfl, rfl, rfl, rfl, rfl, rfl, rfl, rfl, rfl, rfl, rfl, rfl, rfl, rfl, rfl, rfl, rfl, rfl, rfl, rfl, trivial⟩ (AY.mid [As 5 1 encB (.slice A3 x.e.d.length c3) x.e.d, cell g5 32 #[.int .i64 x.e.k, .int .u64 x.e.t, .int .u64 x.e.i, .slice A3 x.e.d.length c3, .int .i64 x.e.c], As 32 5 encV ev L, An (fun x : EntV => As 5 1 encB x.v x.e.d) L] (.refl _) (AR (Ag Ab rfl (Ac rfl (.agg #[.int .i64 x.e.k, .int .u64 x.e.t, .int .u64 x.e.i, .slice A3 x.e.d.length c3, .int .i64 x.e.c]) (fun b w hb hH => AD rfl rfl (Dd (cs := [.int .i64 x.e.k, .int .u64 x.e.t, .int .u64 x.e.i, .slice A3 x.e.d.length c3, .int .i64 x.e.c]) Cl rfl) (hH.row 1 rfl) hb) ?_))))
  refine Al (X := Value) (val := fun v : Value => v) (post := fun u1 => [As 32 5 encV u1 ([(⟨x.e, A3, c3⟩ : EntV)]), As 5 1 encB (.slice A3 x.e.d.length c3) x.e.d, cell g5 32 #[.int .i64 x.e.k, .int .u64 x.e.t, .int .u64 x.e.i, .slice A3 x.e.d.length c3, .int .i64 x.e.c], As 32 5 encV ev L, An (fun x : EntV => As 5 1 encB x.v x.e.d) L]) rfl (by refine E2 (e := 32) (t := 34) (k := 5) (enc := encV) (x := .tmp 25) (c := .agg #[.int .i64 x.e.k, .int .u64 x.e.t, .int .u64 x.e.i, .slice A3 x.e.d.length c3, .int .i64 x.e.c]) ?_ ?_ ?_ (⟨x.e, A3, c3⟩ : EntV) ?_ ?_ ?_; exact Ak; exact (by decide); exact Bd; exact rfl; exact rfl; exact rfl) ?_; rintro u1
  refine Al (post := fun ev2 => [As 32 5 encV u1 ([(⟨x.e, A3, c3⟩ : EntV)]), As 5 1 encB (.slice A3 x.e.d.length c3) x.e.d, cell g5 32 #[.int .i64 x.e.k, .int .u64 x.e.t, .int .u64 x.e.i, .slice A3 x.e.d.length c3, .int .i64 x.e.c], As 32 5 encV ev2 (L ++ [(⟨x.e, A3, c3⟩ : EntV)]), An (fun x : EntV => As 5 1 encB x.v x.e.d) L]) rfl (E1 (nb := 56) 3 Ak Bd (by kernel_rfl) (by decide) rfl ([(⟨x.e, A3, c3⟩ : EntV)]) (fun w hH => hH.vec 0 rfl Bd) (by simp only [List.length_cons, List.length_nil]; omega) rfl rfl rfl rfl) ?_; rintro ev2
  refine Ag Ab rfl (AE (AU (AJ (AY.leave [0, 2] rfl rfl (Be [1, 2, 0] rfl EZ rfl (AR (Ag Ab rfl (Ac rfl (.int .i64 ((i + 1 : Nat) : Int)) (fun b w hb hH => Ay rfl rfl rfl rfl (by rw [IntWalk.i64_in _ (by omega)]; omega) hb) (Ag Ab rfl (AE ?_))))))))))
  exact BS (i + 1, L ++ [(⟨x.e, A3, c3⟩ : EntV)], ev2) 0 ⟨hi, by rw [List.map_append, hI2, List.take_add_one, hx, List.map_append]; rfl⟩ (show l.length - (i + 1) < l.length - i by omega) ⟨rfl, rfl, rfl, rfl, trivial⟩ rfl
  refine Af (Ag Ab rfl (Ac rfl (.int .i64 (l.length : Int)) (fun b w hb hH => A8 ((Cu hv hU hS hH).1) Try.underlying34 rfl rfl hb) (Ac rfl (.bool false) (fun b w hb hH => AI rfl rfl rfl (Bf (by omega)) hb) (Ae (Az rfl (B6 (ES (ES (AQ (AJ (Af (Ag Ab rfl (Ae (Aw ?_))))))))))))))
  exact Ar (.tmp rfl) (fun w h => AG (⟨ev, L⟩ : EsV) rfl [0] rfl h (fun z hz => ⟨z, .refl _, Dm (xs := [_]) (show L.map (·.e) = l.map (·.e) by rw [hI2, List.take_of_length_le hi]) hz⟩)) rfl
end Go.Proofs.Ytnebloeideodmaa.Sep
namespace Go.Proofs.Ytnebloeideodmaa.Sep
open Go.RowKit
open Go.Proofs.Ytnebloeideodmaa.Mem (AM BA Chg)
section
variable {P : Program} {ops : Array Oper} {Q : Exit → Act → World → Prop} {n : Nat} {jobs : List Job} {env env0 : List (Nat × Value)} {B : Nat → Prop} {w0 w : World} {rs os : List Ass} {o : Oper} {deps : List Nat} {kk d : Nat} {v : Value} {rest : List Oper}
end
end Go.Proofs.Ytnebloeideodmaa.Sep
namespace Go.Proofs.Ytnebloeideodmaa.Sep
open Go.ChangeShapes Go.WideShapes Go.ChangeAt Go.RowKit
section
variable {H : Type} {enc : TypeId × Value → H} {P : Program}
def Cn (P : Program) (t : TypeId) (d : DataW H) : Prop := ∀ n ∈ d.weights P t, n ≤ reachBytes
theorem sized_arg {ts : List TypeId} {ds : List (DataW H)} (h : (DataW.weightsEach P ts ds).all (· ≤ reachBytes) = true) {j : Nat} {t : TypeId} {d : DataW H} (ht : ts[j]? = some t) (hd : ds[j]? = some d) : Cn P t d := fun n hn => by
  have := List.all_eq_true.1 h n (DataW.weights_mem_each ht hd n hn)
  simpa using this
theorem Cn.field {t : TypeId} {fs : Array Field} {parts : List (DataW H)} {j : Nat} {f : Field} {d : DataW H} (h : Cn P t (.agg parts)) (hu : P.underlying t = some (.struct fs)) (hf : fs[j]? = some f) (hd : parts[j]? = some d) : Cn P f.type d := fun n hn => by
  refine h n ?_
  have hm := DataW.weights_mem_each (P := P) (ts := fs.toList.map (·.type)) (ds := parts) (j := j) (t := f.type) (d := d) (by simp [hf]) hd n hn
  simpa [DataW.weights, hu] using hm
theorem Cn.len {t e : TypeId} {es sp : List (DataW H)} (h : Cn P t (.slice es sp)) (hu : P.underlying t = some (.slice e)) : es.length * P.bytesOf e ≤ reachBytes := by
 have := h ((es.length + sp.length) * P.bytesOf e) (by simp [DataW.weights, hu])
 exact Nat.le_trans (Nat.mul_le_mul_right _ (Nat.le_add_right _ _)) this
theorem H4 {e : TypeId} : ∀ {es : List (DataW H)} {j : Nat} {d : DataW H}, es[j]? = some d → ∀ n ∈ d.weights P e, n ∈ DataW.weightsAll P e es
  | [], _, _, h, _, _ => by simp at h
  | d0 :: r, 0, d, h, n, hn => by
    simp only [List.getElem?_cons_zero, Option.some.injEq] at h
    subst h
    simp only [DataW.weightsAll, List.mem_append]
    exact .inl hn
  | d0 :: r, j + 1, d, h, n, hn => by
    simp only [List.getElem?_cons_succ] at h
    simp only [DataW.weightsAll, List.mem_append]
    exact .inr (H4 h n hn)
theorem Cn.elem {t e : TypeId} {es sp : List (DataW H)} (h : Cn P t (.slice es sp)) (hu : P.underlying t = some (.slice e)) {j : Nat} {d : DataW H} (hd : es[j]? = some d) : Cn P e d := fun n hn => by
 refine h n ?_
 have := H4 (P := P) hd n hn
 simp [DataW.weights, hu, this]
theorem Hg {α : Type} [Inhabited α] {k : Nat} {enc' : α → List Value} {ok : α → Prop} {t e : TypeId} (he : EncOf k enc') (hk : 0 < k) (hu : P.underlying t = some (.slice e)) (hC : P.cellsOf e = k) {W : World} {base : Nat} {spare : Nat → Bool} {held : Bool} {v : Value} {n0 : Nat} {x0 : DataW H × List MemPlace}
    (hel : ∀ (n : Nat) (cs : List Value) (x : DataW H × List MemPlace), cs.length = k → DataW.trod enc P W base spare held n e cs = some x → Cn P e x.1 → ∃ y : α, cs = enc' y ∧ ok y)
    (hf : DataW.trod enc P W base spare held n0 t [v] = some x0) (hs : Cn P t x0.1) : ∃ A c, ∃ l : List α, v = .slice A l.length c ∧ l.length * P.bytesOf e ≤ reachBytes ∧ Cg W k v l.length (A6 enc' l) ∧ ∀ y ∈ l, ok y := by
  rcases DataW.trod_slice hu hf with ⟨hcs, hx⟩ | ⟨a, len, cap, elems, rest, n, _, hcs, hx, _, hl, hm, hlen, hels, _, _⟩
  · simp at hcs
    subst hcs
    exact ⟨none, 0, [], rfl, by simp, ⟨by simp [A6], none, 0, rfl, .inl ⟨rfl, rfl⟩⟩, fun y hy => by cases hy⟩
  · simp at hcs
    subst hcs
    rw [hC] at hels
    rw [(Prod.mk.inj hx).1] at hs
    have hsl := hs.len hu
    rw [List.length_map] at hsl
    have each : ∀ i, i < len → ∃ y : α, ok y ∧ ∀ j x, (enc' y)[j]? = some x → W.cell? ((a.add (i * k)).add j) = some x := by
      intro i hi
      have h1 := hels i hi
      rw [List.getElem?_eq_getElem (show i < elems.length by omega), Option.bind_eq_some_iff] at h1
      obtain ⟨cs', hcs, ht⟩ := h1
      obtain ⟨_, hcl, hat⟩ := World.cells?_some hcs
      obtain ⟨y, rfl, hy⟩ := hel _ _ _ hcl ht (hs.elem hu (j := i) (by rw [List.getElem?_map, List.getElem?_eq_getElem (show i < elems.length by omega)]; rfl))
      exact ⟨y, hy, fun j x hj => (hat j (by rw [← hcl]; exact (List.getElem?_eq_some_iff.1 hj).1)).trans hj⟩
    obtain ⟨f, hf⟩ := Go.Deep.choose_lt each
    have hll : ((List.range len).map f).length = len := by simp
    have hat : ∀ {i : Nat} {y : α}, ((List.range len).map f)[i]? = some y → i < len ∧ y = f i := by
      intro i y hi
      have hil : i < len := by have := (List.getElem?_eq_some_iff.1 hi).1; simpa using this
      rw [List.getElem?_map, List.getElem?_range hil] at hi
      simp only [Option.map_some, Option.some.injEq] at hi
      exact ⟨hil, hi.symm⟩
    refine ⟨some a, cap, (List.range len).map f, by rw [hll], by rw [hll]; rw [show elems.length = len by omega] at hsl; exact hsl, ?_, ?_⟩
    · rw [hll]
      refine ⟨by rw [B1 he, hll], some a, cap, rfl, .inr ⟨a, rfl, fun q x hq => ?_⟩⟩
      obtain ⟨y, hy, hyx⟩ := Pp he hk hq
      obtain ⟨hil, rfl⟩ := hat hy
      have hc := (hf (q / k) hil).2 (q % k) x hyx
      have ha : a = ⟨a.block, a.off, none⟩ := by
        obtain ⟨z, hz⟩ : ∃ z, (enc' (f 0))[0]? = some z := ⟨_, List.getElem?_eq_getElem (by have := he.len (f 0); omega)⟩
        have h0 := (hf 0 (Nat.lt_of_le_of_lt (Nat.zero_le _) hil)).2 0 _ hz
        rw [Nat.zero_mul, show (a.add 0).add 0 = a by simp [Addr.add]] at h0
        exact Rs h0
      rw [ha, Addr.add_lit, Addr.add_lit] at hc
      rw [ha, Addr.add_lit]
      have e1 : a.off + q / k * k + q % k = a.off + q := by rw [Nat.add_assoc, Nat.mul_comm]; congr 1; exact Nat.div_add_mod q k
      rw [e1] at hc
      exact hc
    · intro y hy
      obtain ⟨i, hi⟩ := List.getElem?_of_mem hy
      obtain ⟨hil, rfl⟩ := hat hi
      exact (hf i hil).1
theorem Tk {W : World} {base : Nat} {spare : Nat → Bool} {held : Bool} {v : Value} {n0 : Nat} {x0 : DataW H × List MemPlace} (hf : DataW.trod enc Try.prog W base spare held n0 30 [v] = some x0) (hs : Cn Try.prog 30 x0.1) :
    ∃ A c l, v = .slice A l.length c ∧ Ft W (.slice A l.length c) l ∧ l.length ≤ reachBytes := by
  obtain ⟨A, c, l, hcs, hb, hd⟩ := Rh Wk Ri hf
  simp at hcs
  refine ⟨A, c, l, hcs, ⟨A, c, rfl, hb.weaken fun _ _ _ => trivial⟩, ?_⟩
  rcases hd with ⟨_, rfl⟩ | ⟨es, sp, e, he⟩
  · simp
  · rw [e] at hs
    have := hs.len Try.underlying30
    rw [Rj] at this
    omega
end
end Go.Proofs.Ytnebloeideodmaa.Sep
namespace Go.Proofs.Ytnebloeideodmaa.Sep
open Go.ChangeShapes Go.WideShapes Go.ChangeAt Go.RowKit
structure F1 (f : Field) (t : TypeId) (o : Nat) : Prop where
  t : f.type = t
  o : f.offset = o
section
variable {H : Type} {enc : TypeId × Value → H} {W : World} {base b0 : Nat} {r : Reach} {spare : Nat → Bool} {held : Bool} {v : Value} {d : DataW H} {p : List MemPlace}
theorem GT {P : Program} {n j k off : Nat} {f : Field} {t : TypeId} {cs zs : List Value} {ys : List (DataW H × List MemPlace)} {y : DataW H × List MemPlace} (hF : F1 f t off) (hc : P.cellsOf t = k) (h : DataW.trod enc P W base spare held n f.type ((cs.drop f.offset).take (P.cellsOf f.type)) = ys[j]?) (ha : (cs.drop off).take k = zs) (hy : ys[j]? = some y) : DataW.trod enc P W base spare held n t zs = some y := by
 rw [hF.t, hF.o, hc, ha, hy] at h
 exact h
theorem RN {P : Program} {t t' : TypeId} {fs : Array Field} {ys : List (DataW H × List MemPlace)} {x : DataW H × List MemPlace} {j off : Nat} {f : Field} {y : DataW H × List MemPlace} {zs : List MemPlace} (hs : Cn P t x.1) (hx : x = (.agg (ys.map (·.1)), zs)) (hu : P.underlying t = some (.struct fs)) (hf : fs[j]? = some f) (hF : F1 f t' off) (hy : ys[j]? = some y) : Cn P t' y.1 := by
  subst hx
  have := Cn.field hs hu hf (d := y.1) (by rw [List.getElem?_map, hy]; rfl)
  rwa [hF.t] at this
theorem OJ {n : Nat} (h : n ≤ reachBytes) : n ≤ 140737488351232 := h
structure EntT (te : TypeId) (f0 f1 f2 f3 f4 : Field) : Prop where
  hu : Try.prog.underlying te = some (.struct #[f0, f1, f2, f3, f4])
  h0 : F1 f0 3 0
  h1 : F1 f1 26 1
  h2 : F1 f2 26 2
  h3 : F1 f3 30 3
  h4 : F1 f4 3 4
def IY (W : World) (x : EntV) : Prop := x.e.ok ∧ Ft W x.v x.e.d ∧ x.e.d.length ≤ 140737488351232
theorem Md : Try.prog.cellsOf 3 = 1 := by kernel_rfl
theorem JY : Try.prog.cellsOf 26 = 1 := by kernel_rfl
theorem Wv : Try.prog.cellsOf 30 = 1 := by kernel_rfl
theorem U0 : Try.prog.cellsOf 4 = 1 := by kernel_rfl
theorem RO {te : TypeId} {f0 f1 f2 f3 f4 : Field} (hE : EntT te f0 f1 f2 f3 f4) {n : Nat} {cs : List Value} {x : DataW H × List MemPlace} (hcl : cs.length = 5) (h : DataW.trod enc Try.prog W base spare held n te cs = some x) (hs : Cn Try.prog te x.1) : ∃ y : EntV, cs = encV y ∧ IY W y := by
  obtain ⟨ys, n', _, hx, _, hyl, hf⟩ := DataW.trod_struct hE.hu h
  have hyl : ys.length = 5 := hyl
  match cs, hcl with
  | [a0, a1, a2, a3, a4], _ =>
    obtain ⟨y0, g0⟩ : ∃ y, ys[0]? = some y := ⟨_, List.getElem?_eq_getElem (by omega)⟩
    obtain ⟨y1, g1⟩ : ∃ y, ys[1]? = some y := ⟨_, List.getElem?_eq_getElem (by omega)⟩
    obtain ⟨y2, g2⟩ : ∃ y, ys[2]? = some y := ⟨_, List.getElem?_eq_getElem (by omega)⟩
    obtain ⟨y3, g3⟩ : ∃ y, ys[3]? = some y := ⟨_, List.getElem?_eq_getElem (by omega)⟩
    obtain ⟨y4, g4⟩ : ∃ y, ys[4]? = some y := ⟨_, List.getElem?_eq_getElem (by omega)⟩
    have h0 := GT hE.h0 Md (hf 0 _ rfl) (zs := [a0]) rfl g0
    have h1 := GT hE.h1 JY (hf 1 _ rfl) (zs := [a1]) rfl g1
    have h2 := GT hE.h2 JY (hf 2 _ rfl) (zs := [a2]) rfl g2
    have h3 := GT hE.h3 Wv (hf 3 _ rfl) (zs := [a3]) rfl g3
    have h4 := GT hE.h4 Md (hf 4 _ rfl) (zs := [a4]) rfl g4
    have s3 := RN hs hx hE.hu (j := 3) rfl hE.h3 g3
    obtain ⟨z0, e0, _, w0⟩ := DataW.trod_int Try.underlying3 h0
    obtain ⟨z1, e1, _, w1⟩ := DataW.trod_int Try.underlying26 h1
    obtain ⟨z2, e2, _, w2⟩ := DataW.trod_int Try.underlying26 h2
    obtain ⟨A, c, l, rfl, hl, hl2⟩ := Tk h3 s3
    obtain ⟨z4, e4, _, w4⟩ := DataW.trod_int Try.underlying3 h4
    simp at e0 e1 e2 e4
    subst e0; subst e1; subst e2; subst e4
    have hl3 := OJ hl2
    exact ⟨⟨⟨z0, z1, z2, l, z4⟩, A, c⟩, rfl, ⟨IK w0, HA w1, HA w2, by show l.length ≤ _; omega, IK w4⟩, hl, hl3⟩
instance : Inhabited EntV := ⟨⟨.zero, none, 0⟩⟩
theorem PU {te ts : TypeId} {f0 f1 f2 f3 f4 : Field} (hE : EntT te f0 f1 f2 f3 f4) (hT : Try.prog.underlying ts = some (.slice te)) (hC : Try.prog.cellsOf te = 5) (hB : Try.prog.bytesOf te = 56) {n : Nat} {x : DataW H × List MemPlace} (h : DataW.trod enc Try.prog W base spare held n ts [v] = some x) (hs : Cn Try.prog ts x.1) :
  ∃ A c, ∃ l : List EntV, v = .slice A l.length c ∧ l.length * 56 ≤ 140737488351232 ∧ Bj W v l ∧ ∀ y ∈ l, IY W y := by
 obtain ⟨A, c, l, hv, hl, hr, ho⟩ := Hg Bd (by decide) hT hC (ok := IY W) (fun n cs x hcl h hs => RO hE hcl h hs) h hs
 rw [hB] at hl
 exact ⟨A, c, l, hv, OJ hl, ⟨hr, fun x hx => (ho x hx).2.1⟩, ho⟩
structure BaseT (tb : TypeId) (f0 f1 f2 : Field) : Prop where
  hu : Try.prog.underlying tb = some (.struct #[f0, f1, f2])
  h0 : F1 f0 26 0
  h1 : F1 f1 26 1
  h2 : F1 f2 3 2
theorem JZ {tb : TypeId} {f0 f1 f2 : Field} (hE : BaseT tb f0 f1 f2) {n : Nat} {a0 a1 a2 : Value} {x : DataW H × List MemPlace} (h : DataW.trod enc Try.prog W base spare held n tb [a0, a1, a2] = some x) : ∃ z0 z1 z2, a0 = .int .u64 z0 ∧ a1 = .int .u64 z1 ∧ a2 = .int .i64 z2 ∧ LU z0 ∧ LU z1 ∧ Nl z2 := by
 obtain ⟨ys, n', _, hx, _, hyl, hf⟩ := DataW.trod_struct hE.hu h
 have hyl : ys.length = 3 := hyl
 obtain ⟨y0, g0⟩ : ∃ y, ys[0]? = some y := ⟨_, List.getElem?_eq_getElem (by omega)⟩
 obtain ⟨y1, g1⟩ : ∃ y, ys[1]? = some y := ⟨_, List.getElem?_eq_getElem (by omega)⟩
 obtain ⟨y2, g2⟩ : ∃ y, ys[2]? = some y := ⟨_, List.getElem?_eq_getElem (by omega)⟩
 have h0 := GT hE.h0 JY (hf 0 _ rfl) (zs := [a0]) rfl g0
 have h1 := GT hE.h1 JY (hf 1 _ rfl) (zs := [a1]) rfl g1
 have h2 := GT hE.h2 Md (hf 2 _ rfl) (zs := [a2]) rfl g2
 obtain ⟨z0, e0, _, w0⟩ := DataW.trod_int Try.underlying26 h0
 obtain ⟨z1, e1, _, w1⟩ := DataW.trod_int Try.underlying26 h1
 obtain ⟨z2, e2, _, w2⟩ := DataW.trod_int Try.underlying3 h2
 simp at e0 e1 e2
 subst e0; subst e1; subst e2
 exact ⟨z0, z1, z2, rfl, rfl, rfl, HA w0, HA w1, IK w2⟩
structure MsgV where
  m : MsgD
  es : List EntV
  EA : Option Addr
  ec : Nat
  A : Option Addr
  c : Nat
def MsgV.ev (x : MsgV) : Value := .slice x.EA x.es.length x.ec
def MsgV.dv (x : MsgV) : Value := .slice x.A x.m.d.length x.c
def MsgV.cells (x : MsgV) : List Value := UZ x.m.k x.m.a x.m.b x.m.t x.m.i x.m.lt x.ev x.m.co x.m.rf x.m.bi x.m.bt x.m.bc x.m.o x.dv x.m.la
structure MsgOk (W : World) (x : MsgV) : Prop where
  ok : x.m.ok
  es : x.m.es = x.es.map (·.e)
  rd : Bj W x.ev x.es
  le : x.es.length * 56 ≤ 140737488351232
  each : ∀ y ∈ x.es, IY W y
  d : Ft W x.dv x.m.d
  dl : x.m.d.length ≤ 140737488351232
theorem IY.below {u w : World} {x : EntV} (h : IY u x) (hb : Below u.heap.size u w) : IY w x := ⟨h.1, h.2.1.below hb, h.2.2⟩
theorem MsgOk.below {u w : World} {x : MsgV} (h : MsgOk u x) (hb : Below u.heap.size u w) : MsgOk w x := ⟨h.ok, h.es, h.rd.below hb, h.le, fun y hy => (h.each y hy).below hb, h.d.below hb, h.dl⟩
end
end Go.Proofs.Ytnebloeideodmaa.Sep
namespace Go.Proofs.Ytnebloeideodmaa.Sep
open Go.RowKit
open Go.Proofs.Ytnebloeideodmaa.Mem (AM BA Chg Aq)
theorem U1 (a b c d e f : Int) (z : Bool) (h : (!(a == d && (b == e && c == f))) = z) : ST Try.prog 28 (.agg #[.int .u64 a, .int .u64 b, .int .i64 c]) (.agg #[.int .u64 d, .int .u64 e, .int .i64 f]) z := fun x y w => by
 subst h
 go_simp
 by_cases h1 : a = d <;> by_cases h2 : b = e <;> by_cases h3 : c = f <;> simp [h1, h2, h3]
theorem wrap_u64 {z : Int} : ∃ r : Int, IntKind.u64.wrap z = r ∧ r = z % 18446744073709551616 := ⟨_, rfl, by rw [IntKind.wrap_u64]⟩
end Go.Proofs.Ytnebloeideodmaa.Sep
namespace Go.Proofs.Ytnebloeideodmaa.Sep
open Go.RowKit
open Go.Proofs.Ytnebloeideodmaa.Mem (AM BA Chg Aq)
end Go.Proofs.Ytnebloeideodmaa.Sep
namespace Go.Proofs.Ytnebloeideodmaa.Sep
open Go.RowKit
open Go.Proofs.Ytnebloeideodmaa.Mem (AM BA Chg Aq)
end Go.Proofs.Ytnebloeideodmaa.Sep
namespace Go.Proofs.Ytnebloeideodmaa.Sep
open Go.RowKit
open Go.Proofs.Ytnebloeideodmaa.Mem (AM BA Chg Aq)
end Go.Proofs.Ytnebloeideodmaa.Sep
namespace Go.Proofs.Ytnebloeideodmaa.Sep
open Go.RowKit
open Go.Proofs.Ytnebloeideodmaa.Mem (AM BA Chg Aq)
end Go.Proofs.Ytnebloeideodmaa.Sep
namespace Go.Proofs.Ytnebloeideodmaa.Sep
open Go.RowKit
open Go.Proofs.Ytnebloeideodmaa.Mem (AM BA Chg Aq)
end Go.Proofs.Ytnebloeideodmaa.Sep
namespace Go.Proofs.Ytnebloeideodmaa.Sep
open Go.RowKit
open Go.Proofs.Ytnebloeideodmaa.Mem (AM BA Chg Aq)
end Go.Proofs.Ytnebloeideodmaa.Sep
namespace Go.Proofs.Ytnebloeideodmaa.Sep
open Go.RowKit
open Go.Proofs.Ytnebloeideodmaa.Mem (AM BA Chg Aq)
section
variable {Q : Exit → Act → World → Prop} {n : Nat} {B : Nat → Prop} {w0 : World} {os : List Ass} {env : List (Nat × Value)} {o : Oper} {v : Value} {l m : List UInt8}
end
section
variable {P : Program} {n : Nat} {w : World} {env : List (Nat × Value)} {o : Oper} {a : Act}
end
section
variable {P : Program} {Q : Exit → Act → World → Prop} {n : Nat} {B : Nat → Prop} {w0 : World} {rs : List Ass} {env : List (Nat × Value)}
def U2 {X : Type} (n : Nat) (B : Nat → Prop) (w0 : World) (E : X → List (Nat × Value)) (R : X → List Ass) : Exit → Act → World → Prop := fun e a w => ∃ x, e = .normal ∧ Fr n a (E x) ∧ Hp B w0 w (R x)
theorem U3 {X : Type} {c : Code} (E : X → List (Nat × Value)) (R : X → List Ass) (h1 : AY P (U2 n B w0 E R) n env B w0 rs c) (h2 : ∀ x, BW Q n (E x) B w0 (R x) .normal) : AY P Q n env B w0 rs c := fun a w hF hH => Code.wp_mono (fun e a' w' (h : U2 n B w0 E R e a' w') => by obtain ⟨x, he, hF', hH'⟩ := h; subst he; exact h2 x a' w' hF' hH') (h1 a w hF hH)
theorem KY {X : Type} {E : X → List (Nat × Value)} {R : X → List Ass} (x : X) (k : Nat) (hs : Dy env (E x)) (hr : rs.drop k = R x) : BW (U2 n B w0 E R) n env B w0 rs .normal := fun _ _ hF hH => ⟨x, rfl, hF.keep hs, hr ▸ hH.drop k⟩
end
end Go.Proofs.Ytnebloeideodmaa.Sep
namespace Go.Proofs.Ytnebloeideodmaa.Sep
open Go.RowKit
open Go.Proofs.Ytnebloeideodmaa.Mem (AM BA Chg Aq)
end Go.Proofs.Ytnebloeideodmaa.Sep
namespace Go.Proofs.Ytnebloeideodmaa.Sep
open Go.RowKit
open Go.Proofs.Ytnebloeideodmaa.Mem (AM BA Chg Aq)
structure REX where
  EA : Option Addr
  ec : Nat
  es : List EntV
  en : Nat
  l : List UInt8
  f : Nat
def REX.v (x : REX) : Value := .slice x.EA x.es.length x.ec
theorem BZ.is {te : TypeId} {v : Value} {l : List EntV} : ∀ rs, BZ te v l rs → ∃ A c, v = .slice A l.length c := fun _ h => by
 obtain ⟨a, b, e, h1, _⟩ := h
 exact h1.is
end Go.Proofs.Ytnebloeideodmaa.Sep
namespace Go.Proofs.Ytnebloeideodmaa.Sep
open Go.RowKit
open Go.Proofs.Ytnebloeideodmaa.Mem (AM BA Chg Aq)
theorem GJ {w0 w : World} {os : List Ass} {v : Value} {l : List EntV} (h : Bj w0 v l) (hH : Hp NY w0 w os) : Bj w v l := h.below (hH.up.below (Nat.le_refl _) (fun _ h => h.elim))
theorem Me (w : World) (v v2 : Value) (l l2 : List EntV) (hv : Bj w v l) (hv2 : Bj w v2 l2) (h : l.map (·.e) = l2.map (·.e)) (hle : l.length ≤ 9223372036854775807) : Calls Try.prog 25 #[v, v2] w fun e w' => e = .returned (.bool true) ∧ Below w.heap.size w w' := by
  have hln : l.length = l2.length := by have := congrArg List.length h; simpa using this
  refine Fw (args := [v, v2]) 27 Try.func25 rfl rfl rfl (Af (Ag Ab rfl (Ae (Ax (Af (Ag Ab rfl (Ac rfl (.int .i64 (l.length : Int)) (fun b w hb hH => A8 ((GJ hv hH).1) Try.underlying34 rfl rfl hb) (Ag Ab rfl (Ac rfl (.int .i64 (l2.length : Int)) (fun b w hb hH => A8 ((GJ hv2 hH).1) Try.underlying34 rfl rfl hb) (Ac rfl (.bool false) (fun b w hb hH => AI rfl rfl rfl (BB (by omega)) hb) (Ae (Az rfl (AK (AJ (Ax (Af ?_))))))))))))))))
  refine Ag Ab rfl (Ae (AN (Cw (α := Nat) (fun j => [(0, v), (1, v2), (4, .bool false), (5, .int .i64 ((j : Nat) : Int))]) (fun j => []) (fun j => j ≤ l.length) (fun j => l.length - j) 0 (Nat.zero_le _) ⟨rfl, rfl, rfl, rfl, trivial⟩ rfl ?_)))
  rintro j hI
  refine AY.at_ (env' := [(0, v), (1, v2), (4, .bool false), (5, .int .i64 ((j : Nat) : Int))]) (rs' := []) ⟨rfl, rfl, rfl, rfl, trivial⟩ rfl (Ax ?_)
  rcases Nat.lt_or_ge j l.length with hj | hj
  obtain ⟨x, hx⟩ : ∃ x, l[j]? = some x := ⟨_, List.getElem?_eq_getElem hj⟩
  obtain ⟨y, hy⟩ : ∃ y, l2[j]? = some y := ⟨_, List.getElem?_eq_getElem (by omega)⟩
  have hmx := List.mem_of_getElem? hx
  have hmy := List.mem_of_getElem? hy
  have hxy : x.e = y.e := by
      have h1 := congrArg (fun z => z[j]?) h
      simp only [List.getElem?_map, hx, hy, Option.map_some] at h1
      exact Option.some.inj h1
  refine Af (Ag Ab rfl (Ac rfl (.int .i64 (l.length : Int)) (fun b w hb hH => A8 ((GJ hv hH).1) Try.underlying34 rfl rfl hb) (Ac rfl (.bool true) (fun b w hb hH => AI rfl rfl rfl (Bc (by omega)) hb) (Ae (AC rfl (AK (AJ (Ax (AN (Ax ?_))))))))))
  refine Bi 10 1 [⟨.quiet, [none], fun _ => v, []⟩, ⟨.quiet, [none], fun _ => .int .i64 ((j : Nat) : Int), []⟩, ⟨.quiet, [none], fun _ => AW v (j * 5), [0, 1]⟩, ⟨.quiet, [none], fun _ => .agg (encV x).toArray, [2]⟩, ⟨.quiet, [none], fun _ => v2, []⟩, ⟨.quiet, [none], fun _ => .int .i64 ((j : Nat) : Int), []⟩, ⟨.quiet, [none], fun _ => AW v2 (j * 5), [4, 5]⟩, ⟨.quiet, [none], fun _ => .agg (encV y).toArray, [6]⟩, ⟨.actv 0, [some false], fun _ => .bool true, [3, 7]⟩, ⟨.quiet, [some true], fun _ => .bool false, [8]⟩] [(0, v), (1, v2), (4, .bool false), (5, .int .i64 ((j : Nat) : Int)), (11, .int .i64 ((j : Nat) : Int)), (12, v), (13, .int .i64 (l.length : Int)), (14, .bool true)] (fun ρ => match ρ with | [r0] => [] | _ => []) (by kernel_rfl) (by kernel_rfl) ⟨rfl, rfl, rfl, rfl, rfl, rfl, rfl, rfl, trivial⟩ rfl ?_ ?_
  refine Ad (by intro r0_; exact ⟨rfl, fun b w hH hb => Ah Ab rfl hb⟩) (Ad (by intro r0_; exact ⟨rfl, fun b w hH hb => Ah Ab rfl hb⟩) (Ad (by intro r0_; exact ⟨rfl, fun b w hH hb => Bw Bd ((GJ hv hH).1) Ak (j := j) hx rfl rfl rfl hb⟩) (Ad (by intro r0_; exact ⟨rfl, fun b w hH hb => DF Bd (by decide) ((GJ hv hH).1) (j := j) hx Cl rfl rfl hb⟩) (Ad (by intro r0_; exact ⟨rfl, fun b w hH hb => Ah Ab rfl hb⟩) (Ad (by intro r0_; exact ⟨rfl, fun b w hH hb => Ah Ab rfl hb⟩) (Ad (by intro r0_; exact ⟨rfl, fun b w hH hb => Bw Bd ((GJ hv2 hH).1) Ak (j := j) hy rfl rfl rfl hb⟩) (Ad (by intro r0_; exact ⟨rfl, fun b w hH hb => DF Bd (by decide) ((GJ hv2 hH).1) (j := j) hy Cl rfl rfl hb⟩) (Ad (by exact ⟨rfl, AZ.su (AH (Aj Try.func54 (by kernel_rfl) rfl) (fun w hH => ND w x y ((GJ hv hH).2 x hmx) ((GJ hv2 hH).2 y hmy) hxy) rfl rfl rfl) rfl⟩) (Ad (by intro v0_; exact ⟨rfl, fun b w hH hb => Ah Ab rfl hb⟩) ?_)))))))))
  exact Bx
  intro v0_
  refine BM.keep (env' := [(0, v), (1, v2), (4, .bool false), (5, .int .i64 ((j : Nat) : Int)), (11, .int .i64 ((j : Nat) : Int)), (12, v), (13, .int .i64 (l.length : Int)), (14, .bool true), (17, v), (18, .int .i64 ((j : Nat) : Int)), (19, AW v (j * 5)), (20, .agg (encV x).toArray), (21, v2), (22, .int .i64 ((j : Nat) : Int)), (23, AW v2 (j * 5)), (24, .agg (encV y).toArray), (25, .bool true), (26, .bool false)]) ⟨rfl, rfl, rfl, rfl, rfl, rfl, rfl, rfl, rfl, rfl, rfl, rfl, rfl, rfl, rfl, rfl, rfl, rfl, trivial⟩ (AE (AJ (Az rfl (AK (AU (AJ (AR (Ag Ab rfl (Ac rfl (.int .i64 ((j + 1 : Nat) : Int)) (fun b w hb hH => Ay rfl rfl rfl rfl (by rw [IntWalk.i64_in _ (by omega)]; omega) hb) (Ag Ab rfl (AE ?_)))))))))))
  exact BS (j + 1) 0 hj (show l.length - (j + 1) < l.length - j by omega) ⟨rfl, rfl, rfl, rfl, trivial⟩ rfl
  refine Af (Ag Ab rfl (Ac rfl (.int .i64 (l.length : Int)) (fun b w hb hH => A8 ((GJ hv hH).1) Try.underlying34 rfl rfl hb) (Ac rfl (.bool false) (fun b w hb hH => AI rfl rfl rfl (Bf (by omega)) hb) (Ae (Az rfl (B6 (ES (ES (AQ (AJ (Af (Ag Ab rfl (Ae (Aw ?_))))))))))))))
  exact Ar (.tmp rfl) (fun w h => ⟨rfl, Aq h.up⟩) rfl
end Go.Proofs.Ytnebloeideodmaa.Sep
namespace Go.Proofs.Ytnebloeideodmaa.Sep
open Go.RowKit
open Go.Proofs.Ytnebloeideodmaa.Mem (AM BA Chg Aq)
def zeroV : EntV := ⟨⟨0, 0, 0, [], 0⟩, none, 0⟩
def AF (f N k : Nat) : Nat := if f + k < N then f + k else f + k - N
theorem Es {f N k : Nat} (hf : f < N) (hk : k < N) : AF f N k < N := by unfold AF; split <;> omega
theorem J0 {f N k : Nat} (hf : f < N) (hk : k ≤ N) : ((f : Int) + (k : Int)).tmod (N : Int) = ((AF f N k : Nat) : Int) := by
  rw [Int.tmod_eq_emod_of_nonneg (by omega)]
  unfold AF
  split
  · rw [Int.emod_eq_of_lt (by omega) (by omega)]; push_cast; rfl
  · rw [← Int.sub_emod_right, Int.emod_eq_of_lt (by omega) (by omega)]; omega
theorem IZ {f N k j : Nat} (hf : f < N) (hk : k < N) (hj : j < N) (h : k ≠ j) : AF f N k ≠ AF f N j := by
 unfold AF; split <;> split <;> omega
theorem NF {f N k : Nat} (hf : f < N) (hk : k + 1 < N) : AF (AF f N 1) N k = AF f N (k + 1) := by
 unfold AF; split <;> split <;> split <;> omega
structure RingD (sl : List EntV) (f : Nat) (es : List EntD) : Prop where
  le : es.length ≤ sl.length
  sz : sl.length ≤ 5026338869833
  ff : (sl.length = 0 ∧ f = 0) ∨ f < sl.length
  at_ : ∀ (k : Nat) (e : EntD), es[k]? = some e → ∃ x, sl[AF f sl.length k]? = some x ∧ x.e = e
theorem PV : RingD [] 0 [] := ⟨Nat.le_refl _, Nat.zero_le _, .inl ⟨rfl, rfl⟩, fun k e h => by simp at h⟩
theorem RingD.lt {sl : List EntV} {f k : Nat} {es : List EntD} (h : RingD sl f es) (hk : k < es.length) : f < sl.length := by
 have := h.le
 rcases h.ff with h | h <;> omega
theorem RingD.add {sl : List EntV} {f : Nat} {es : List EntD} (h : RingD sl f es) (hn : es.length < sl.length) {x : EntV} {e : EntD} (hx : x.e = e) : RingD (sl.set (AF f sl.length es.length) x) f (es ++ [e]) := by
  have hf : f < sl.length := by rcases h.ff with h | h <;> omega
  refine ⟨by rw [List.length_set, List.length_append]; exact hn, by rw [List.length_set]; exact h.sz, by rw [List.length_set]; exact .inr hf, fun k y hy => ?_⟩
  rw [List.length_set]
  rcases Nat.lt_or_ge k es.length with hk | hk
  · rw [List.getElem?_append_left hk] at hy
    rw [List.getElem?_set_ne (IZ hf hn (by omega) (by omega))]
    exact h.at_ k y hy
  · have hk2 : k = es.length := by
      have := (List.getElem?_eq_some_iff.1 hy).1
      rw [List.length_append, List.length_singleton] at this; omega
    subst hk2
    rw [List.getElem?_append_right (Nat.le_refl _), Nat.sub_self] at hy
    obtain rfl : e = y := Option.some.inj hy
    exact ⟨x, by rw [List.getElem?_set_self (Es hf hn)], hx⟩
theorem RingD.cut {sl : List EntV} {f m : Nat} {es : List EntD} (h : RingD sl f es) (hm : m + 1 = es.length) {x : EntV} : RingD (sl.set (AF f sl.length m) x) f (es.take m) := by
  have hf : f < sl.length := h.lt (k := m) (by omega)
  have hle := h.le
  refine ⟨by rw [List.length_set, List.length_take]; omega, by rw [List.length_set]; exact h.sz, by rw [List.length_set]; exact .inr hf, fun k y hy => ?_⟩
  rw [List.length_set]
  rw [List.getElem?_take] at hy
  split at hy
  · rw [List.getElem?_set_ne (IZ hf (by omega) (by omega) (by omega))]
    exact h.at_ k y hy
  · cases hy
theorem RingD.drop {sl : List EntV} {f : Nat} {es : List EntD} (h : RingD sl f es) (hm : 0 < es.length) {x : EntV} : RingD (sl.set (AF f sl.length 0) x) (AF f sl.length 1) (es.drop 1) := by
 have hf : f < sl.length := h.lt hm
 have hle := h.le
 have h1 : AF f sl.length 1 < sl.length := by unfold AF; split <;> omega
 refine ⟨by rw [List.length_set, List.length_drop]; omega, by rw [List.length_set]; exact h.sz, by rw [List.length_set]; exact .inr h1, fun k y hy => ?_⟩
 rw [List.length_set]
 rw [List.getElem?_drop] at hy
 have hk := (List.getElem?_eq_some_iff.1 hy).1
 rw [NF hf (by omega), List.getElem?_set_ne (IZ hf (by omega) (by omega) (by omega)), Nat.add_comm k 1]
 exact h.at_ (1 + k) y hy
def BP (sl : List EntV) (f : Nat) : List EntV := sl.drop f ++ sl.take f
theorem DV {sl : List EntV} {f : Nat} : (BP sl f).length = sl.length := by unfold BP; rw [List.length_append, List.length_drop, List.length_take]; omega
theorem OL {sl : List EntV} {f k : Nat} (hf : f < sl.length) (hk : k < sl.length) : (BP sl f)[k]? = sl[AF f sl.length k]? := by
  unfold BP AF
  split
  · rw [List.getElem?_append_left (by rw [List.length_drop]; omega), List.getElem?_drop]
  · rw [List.getElem?_append_right (by rw [List.length_drop]; omega), List.length_drop, List.getElem?_take, if_pos (by omega)]
    congr 1; omega
theorem RingD.grow {sl : List EntV} {f : Nat} {es : List EntD} (h : RingD sl f es) (hn : es.length = sl.length) (hs : 2 * es.length + 1 ≤ 5026338869833) : RingD (BP sl f ++ List.replicate (sl.length + 1) zeroV) 0 es := by
 refine ⟨by rw [List.length_append, DV]; omega, by rw [List.length_append, DV, List.length_replicate]; omega, .inr (by rw [List.length_append, List.length_replicate]; omega), fun k e he => ?_⟩
 have hk := (List.getElem?_eq_some_iff.1 he).1
 obtain ⟨x, hx, hxe⟩ := h.at_ k e he
 refine ⟨x, ?_, hxe⟩
 rw [List.length_append, DV, List.length_replicate]
 have : AF 0 (sl.length + (sl.length + 1)) k = k := by unfold AF; split <;> omega
 rw [this, List.getElem?_append_left (by rw [DV]; omega), OL (h.lt hk) (by omega), hx]
def BY : Int → Int → List EntD → Bool
  | _, _, [] => true
  | i, t, e :: r => BV e && (decide (e.i = i + 1) && (decide (t ≤ e.t) && BY e.i e.t r))
theorem BN {i t : Int} {e : EntD} {r : List EntD} : BY i t (e :: r) = (BV e && (decide (e.i = i + 1) && (decide (t ≤ e.t) && BY e.i e.t r))) := rfl
structure InvL (bi bt : Int) (es : List EntD) : Prop where
  hi : 0 ≤ bi ∧ bi ≤ 72057594037927935
  ht : 0 ≤ bt ∧ bt ≤ 72057594037927935
  hf : BY bi bt es = true
def Ev : Int → List EntD → Int
  | t, [] => t
  | _, e :: r => Ev e.t r
theorem Mf : ∀ {l : List EntD} {t : Int} {e : EntD}, Ev t (l ++ [e]) = e.t
  | [], _, _ => rfl
  | x :: r, t, e => by rw [List.cons_append]; show Ev x.t (r ++ [e]) = _; exact Mf
theorem RP {l : List EntD} {t : Int} {n : Nat} {e : EntD} (hl : l.length = n + 1) (h : l[n]? = some e) : Ev t l = e.t := by
 have : l = l.take n ++ [e] := by
  have h1 := List.take_add_one (l := l) (i := n)
  rw [h, List.take_of_length_le (by omega)] at h1
  exact h1
 rw [this]; exact Mf
theorem I0 : ∀ {es : List EntD} {i t : Int} {k : Nat} {e : EntD}, BY i t es = true → es[k]? = some e → e.i = i + 1 + (k : Int) ∧ BV e = true ∧ t ≤ e.t
  | [], _, _, _, _, _, h => by simp at h
  | x :: r, i, t, k, e, h, hk => by
    rw [BN] at h
    simp only [Bool.and_eq_true, decide_eq_true_eq] at h
    obtain ⟨h1, h2, h3, h4⟩ := h
    cases k with
    | zero =>
      obtain rfl : x = e := by simpa using hk
      exact ⟨by rw [h2]; simp, h1, h3⟩
    | succ k =>
      have hk' : r[k]? = some e := by simpa using hk
      obtain ⟨h5, h6, h7⟩ := I0 h4 hk'
      exact ⟨by rw [h5, h2]; push_cast; omega, h6, by omega⟩
theorem RQ : ∀ {a : List EntD} (b : List EntD) {i t : Int}, BY i t a = false → BY i t (a ++ b) = false
  | [], _, _, _, h => by simp [BY] at h
  | x :: r, b, i, t, h => by
    rw [List.cons_append, BN]
    rw [BN] at h
    cases h1 : BV x
    · rfl
    · by_cases h2 : x.i = i + 1
      · by_cases h3 : t ≤ x.t
        · simp only [h1, h2, h3, decide_true, Bool.true_and] at h ⊢
          exact RQ b h
        · simp [h3]
      · simp [h2]
theorem Hh : ∀ {a b : List EntD} {i t : Int}, BY i t a = true → BY i t (a ++ b) = BY (i + (a.length : Int)) (Ev t a) b
  | [], b, i, t, _ => by simp [Ev]
  | x :: r, b, i, t, h => by
    rw [BN] at h
    simp only [Bool.and_eq_true, decide_eq_true_eq] at h
    obtain ⟨h1, h2, h3, h4⟩ := h
    rw [List.cons_append, BN, h1, decide_eq_true h2, decide_eq_true h3, Bool.true_and, Bool.true_and, Bool.true_and, Hh h4]
    show _ = BY _ (Ev x.t r) b
    congr 1
    rw [h2, List.length_cons]; push_cast; omega
theorem Mg {es : List EntD} {i t : Int} (k : Nat) (h : BY i t es = true) : BY i t (es.take k) = true := by
  cases h1 : BY i t (es.take k) with
  | true => rfl
  | false => have := RQ (es.drop k) h1; rw [List.take_append_drop, h] at this; cases this
theorem RR {es : List EntD} {i t : Int} {k : Nat} (hk : k ≤ es.length) (h : BY i t es = true) : BY (i + (k : Int)) (Ev t (es.take k)) (es.drop k) = true := by
 have h1 := Hh (b := es.drop k) (Mg k h)
 rw [List.take_append_drop, h, List.length_take, Nat.min_eq_left hk] at h1
 exact h1.symm
theorem Tl {es : List EntD} {i t : Int} (h : BY i t es = true) (hi : 0 ≤ i ∧ i ≤ 72057594037927935) : i + (es.length : Int) ≤ 72057594037927935 := by
  cases hl : es.length with
  | zero => simp; exact hi.2
  | succ n =>
    obtain ⟨e, he⟩ : ∃ e, es[n]? = some e := ⟨_, List.getElem?_eq_getElem (by omega)⟩
    obtain ⟨h1, h2, _⟩ := I0 h he
    have := (CJ h2).2.1
    push_cast; omega
theorem InvL.at_ {bi bt : Int} {es : List EntD} (h : InvL bi bt es) {k : Nat} {e : EntD} (he : es[k]? = some e) : e.i = bi + 1 + (k : Int) ∧ BV e = true ∧ bt ≤ e.t ∧ (1 ≤ e.t ∧ e.t ≤ 72057594037927935) := by
 obtain ⟨h1, h2, h3⟩ := I0 h.hf he
 exact ⟨h1, h2, h3, (CJ h2).1⟩
theorem InvL.len {bi bt : Int} {es : List EntD} (h : InvL bi bt es) : bi + (es.length : Int) ≤ 72057594037927935 := Tl h.hf h.hi
def BO (bi bt : Int) (es : List EntD) (x : Int) : Int × Bool :=
  if x = bi then (bt, true) else if x < bi then (0, false) else match es[(x - bi - 1).toNat]? with
    | some e => (e.t, true)
    | none => (0, false)
theorem Et {bi bt : Int} {es : List EntD} : BO bi bt es bi = (bt, true) := by unfold BO; rw [if_pos rfl]
theorem DH {bi bt : Int} {es : List EntD} {x : Int} (h : x < bi ∨ bi + (es.length : Int) < x) : BO bi bt es x = (0, false) := by
  unfold BO
  rw [if_neg (by omega)]
  rcases h with h | h
  · rw [if_pos h]
  · rw [if_neg (by omega), List.getElem?_eq_none (by omega)]
theorem Hi {bi bt : Int} {es : List EntD} {x : Int} {k : Nat} {e : EntD} (hx : x = bi + 1 + (k : Int)) (h : es[k]? = some e) : BO bi bt es x = (e.t, true) := by
 unfold BO
 rw [if_neg (by omega), if_neg (by omega), show (x - bi - 1).toNat = k by omega, h]
theorem C9 {bi bt : Int} {es : List EntD} : BO bi bt es (bi + (es.length : Int)) = (Ev bt es, true) := by
  cases hl : es.length with
  | zero => rw [List.length_eq_zero_iff.1 hl]; simp [Et, Ev]
  | succ n =>
    obtain ⟨e, he⟩ : ∃ e, es[n]? = some e := ⟨_, List.getElem?_eq_getElem (by omega)⟩
    rw [Hi (k := n) (e := e) (by push_cast; omega) he, RP hl he]
theorem I1 {bi bt : Int} {es : List EntD} (h : InvL bi bt es) : 0 ≤ Ev bt es ∧ Ev bt es ≤ 72057594037927935 := by
  cases hl : es.length with
  | zero => rw [List.length_eq_zero_iff.1 hl]; exact h.ht
  | succ n =>
    obtain ⟨e, he⟩ : ∃ e, es[n]? = some e := ⟨_, List.getElem?_eq_getElem (by omega)⟩
    rw [RP hl he]
    have := (h.at_ he).2.2.2
    omega
theorem KZ {bi bt : Int} {es : List EntD} (h : InvL bi bt es) (x : Int) : 0 ≤ (BO bi bt es x).1 ∧ (BO bi bt es x).1 ≤ 72057594037927935 := by
  unfold BO
  split
  · exact h.ht
  · split
    · exact ⟨by simp, by simp⟩
    · split
      · rename_i e he
        have := (h.at_ he).2.2.2
        exact ⟨by show 0 ≤ e.t; omega, this.2⟩
      · exact ⟨by simp, by simp⟩
def Dt (bi : Int) (n : Nat) (x : Int) : Nat := min (x - bi).toNat n
theorem HL {bi x : Int} {n : Nat} : Dt bi n x ≤ n := Nat.min_le_right _ _
def CY (bi bt : Int) (es : List EntD) (x t : Int) : Bool := (BO bi bt es x).2 && (BO bi bt es x).1 == t
theorem DW {bi bt : Int} {es : List EntD} {x t : Int} : CY bi bt es x t = true ↔ BO bi bt es x = (t, true) := by
  unfold CY
  constructor
  · intro h
    simp only [Bool.and_eq_true, beq_iff_eq] at h
    exact Prod.ext h.2 h.1
  · intro h; rw [h]; simp
def Ez : Int × Int → List EntD → Int × Int
  | s, [] => s
  | s, e :: r => Ez (if e.k = 2 then (e.c, e.i) else s) r
theorem Mh : ∀ {l : List EntD} {s : Int × Int} {e : EntD}, Ez s (l ++ [e]) = if e.k = 2 then (e.c, e.i) else Ez s l
  | [], _, _ => rfl
  | x :: r, s, e => by rw [List.cons_append]; show Ez _ (r ++ [e]) = _; rw [Mh]; rfl
theorem F6 {l : List EntD} {s : Int × Int} {n : Nat} {e : EntD} (h : l[n]? = some e) : Ez s (l.take (n + 1)) = if e.k = 2 then (e.c, e.i) else Ez s (l.take n) := by
 rw [List.take_add_one, h]
 exact Mh
theorem U4 {bi bt bc : Int} (hc : -9223372036854775808 ≤ bc ∧ bc ≤ 9223372036854775807) {es : List EntD} (h : InvL bi bt es) (n : Nat) : (-9223372036854775808 ≤ (Ez (bc, bi) (es.take n)).1 ∧ (Ez (bc, bi) (es.take n)).1 ≤ 9223372036854775807) ∧ bi ≤ (Ez (bc, bi) (es.take n)).2 ∧ (Ez (bc, bi) (es.take n)).2 ≤ bi + (es.length : Int) := by
  induction n with
  | zero => rw [List.take_zero]; exact ⟨hc, Int.le_refl _, by show bi ≤ _; omega⟩
  | succ n ih =>
    cases he : es[n]? with
    | none => rw [List.take_add_one, he]; simpa using ih
    | some e =>
      rw [F6 he]
      have hn := (List.getElem?_eq_some_iff.1 he).1
      have h1 := h.at_ he
      split
      · have := (PH h1.2.1).c
        exact ⟨this, by show bi ≤ e.i; omega, by show e.i ≤ _; omega⟩
      · exact ih
def E3 (bi bt : Int) (es : List EntD) : List EntD → List EntD × Int
  | [] => (es, 0)
  | e :: r => if CY bi bt es e.i e.t then E3 bi bt es r else (es.take (Dt bi es.length (e.i - 1)) ++ e :: r, e.i)
end Go.Proofs.Ytnebloeideodmaa.Sep
