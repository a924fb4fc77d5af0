/-
  RlH
-/
import Derived.Test.YtnebloeideodmaaOD03
import Derived.Test.YtnebloeideodmaaOG02
set_option linter.unusedSimpArgs false
set_option linter.unusedVariables false

namespace Go.Proofs.Ytnebloeideodmaa.Sep
open Go.RowKit
open Go.Proofs.Ytnebloeideodmaa.Mem (Dist Blk Chg below0)

/-- an entry's bytes -/
def dat (x : EntV) : Ass := Vec 5 1 encB x.v x.e.d
theorem dat_zero : dat zeroV [] := nilVec _ _ _
structure RgV where
  v : Value
  sl : List EntV
  f : Nat
def LogD (g : Nat) (bi bt bc : Int) (es : List EntD) : Ass := fun rs => ∃ x : RgV, Parts [cell g 67 #[.int .u64 bi, .int .u64 bt, .int .i64 bc, x.v, .int .i64 (x.f : Int), .int .i64 (es.length : Int)], Vec 32 5 encV x.v x.sl, Each dat x.sl, fact (RingD x.sl x.f es)] rs
theorem LogD.open_ {g : Nat} {bi bt bc : Int} {es : List EntD} : ∀ rs, LogD g bi bt bc es rs → ∃ x : RgV, Parts [cell g 67 #[.int .u64 bi, .int .u64 bt, .int .i64 bc, x.v, .int .i64 (x.f : Int), .int .i64 (es.length : Int)], Vec 32 5 encV x.v x.sl, Each dat x.sl, fact (RingD x.sl x.f es)] rs := fun _ h => h
theorem LogD.mk {g : Nat} {bi bt bc : Int} {v : Value} {sl : List EntV} {f : Nat} {es : List EntD} {n : Nat} (hn : es.length = n) (h : RingD sl f es) : ∀ rs, Parts [cell g 67 #[.int .u64 bi, .int .u64 bt, .int .i64 bc, v, .int .i64 (f : Int), .int .i64 (n : Int)], Vec 32 5 encV v sl, Each dat sl] rs → LogD g bi bt bc es rs := fun rs hr => by
  subst hn
  exact ⟨⟨v, sl, f⟩, fact_add (xs := [_, _, _]) h hr⟩
/-- an element's bytes taken out; another's put in its place -/
theorem dat_out {sl : List EntV} {j : Nat} {x : EntV} (hj : sl[j]? = some x) : ∀ rs, Each dat sl rs → ∃ _ : Unit, Parts [Each dat (sl.take j), dat x, Each dat (sl.drop (j + 1))] rs := each_open hj
theorem dat_in {sl : List EntV} {j : Nat} {y : EntV} (hj : j < sl.length) : ∀ rs, Parts [Each dat (sl.take j), dat y, Each dat (sl.drop (j + 1))] rs → Each dat (sl.set j y) rs := fun rs h => by
  rw [← each_set hj]; exact each_back _ h
theorem each_perm {α : Type} {f : α → Ass} {a b : List α} : ∀ rs, Each f (a ++ b) rs → ∃ rs', rs.Perm rs' ∧ Each f (b ++ a) rs' := fun rs h => by
  unfold Each at h ⊢
  rw [List.map_append] at h
  obtain ⟨p, q, rfl, h1, h2⟩ := h.split
  exact ⟨q ++ p, List.perm_append_comm, by rw [List.map_append]; exact Parts.app h2 h1⟩
theorem each_more {α : Type} {f : α → Ass} {a b : List α} (h0 : ∀ x ∈ b, f x []) : ∀ rs, Each f a rs → Each f (a ++ b) rs := fun rs h => by
  induction b generalizing a with
  | nil => simpa using h
  | cons x r ih =>
    have h1 : Each f (a ++ [x]) rs := by
      have := h.push (h0 x (by simp))
      simpa using this
    have := ih (fun y hy => h0 y (by simp [hy])) h1
    simpa using this
theorem rot_zero {sl : List EntV} {f m : Nat} : ∀ rs, Each dat sl rs → ∃ rs', rs.Perm rs' ∧ Each dat (rotL sl f ++ List.replicate m zeroV) rs' := fun rs h => by
  rw [← List.take_append_drop f sl] at h
  obtain ⟨rs', p, h1⟩ := each_perm _ h
  exact ⟨rs', p, each_more (fun x hx => by rw [List.eq_of_mem_replicate hx]; exact dat_zero) _ h1⟩
theorem d_perm {P : Program} {Q : Exit → Act → World → Prop} {n : Nat} {env : List (Nat × Value)} {B : Nat → Prop} {w0 : World} {os : List Ass} {c : Code} {t t' : Ass} (i : Nat) (hi : os[i]? = some t) (hp : ∀ rs, t rs → ∃ rs', rs.Perm rs' ∧ t' rs') (h : WC2 P Q n env B w0 (os.set i t') c) : WC2 P Q n env B w0 os c := by
  refine WC2.via (fun _ : Unit => os.set i t') (fun rs hr => ?_) fun _ => h
  obtain ⟨a, x, b, e, h3, h4⟩ := Parts.at_ hr hi
  subst e
  obtain ⟨x', p, h5⟩ := hp _ h3
  exact ⟨(), a ++ (x' ++ b), (p.append_right b).append_left a, h4 _ x' h5⟩
section
variable {P : Program} {B : Nat → Prop} {w0 w : World} {os : List Ass} {n : Nat} {env : List (Nat × Value)} {o : Oper} {act : Act} {e : TypeId} {k : Nat} {α : Type} {enc : α → List Value} {v : Value} {l : List α}
/-- the address of a slice's element is none of nil -/
theorem e_vnil (i : Nat) (hi : os[i]? = some (Vec e k enc v l)) {j : Nat} (hj : j < l.length) {x : Operand} (ho : o.op = .nilCheck x) (hx : evs env x = some (elp v (j * k))) (hH : Hp B w0 w os) (hF : Fr n act env) : (execOp act.eval o).run P w = .ok (.value (elp v (j * k))) w := by
  obtain ⟨rs, hv, _⟩ := hH.thing i hi
  rcases hv with ⟨_, h2, _⟩ | ⟨g, c, cs, h2, _⟩
  · subst h2; exact absurd hj (Nat.not_lt_zero _)
  · subst h2
    have : elp (.slice (some ⟨g, 0, none⟩) l.length c) (j * k) = .pointer (some ⟨g, j * k, none⟩) := by simp [elp]
    rw [this] at hx ⊢
    exact exec_nilCheck ho hx hF
end
section
variable {P : Program} {Q : Exit → Act → World → Prop} {n : Nat} {B : Nat → Prop} {w w0 : World} {os : List Ass} {env : List (Nat × Value)} {o : Oper} {t e ty : TypeId} {rs : List RowT}
def zcs : Array Value := #[.int .i64 0, .int .u64 0, .int .u64 0, .slice none 0 0, .int .i64 0]
theorem zeros_flat : ∀ N : Nat, (List.range (N * 5)).map (fun i => zcs[i % 5]!) = flat encV (List.replicate N zeroV)
  | 0 => rfl
  | N + 1 => by
    rw [show (N + 1) * 5 = N * 5 + 1 + 1 + 1 + 1 + 1 by omega]
    simp only [List.range_succ, List.map_append, List.map_cons, List.map_nil, List.append_assoc, zeros_flat N, List.replicate_succ', flat_app]
    congr 1
    rw [show N * 5 % 5 = 0 by omega, show (N * 5 + 1) % 5 = 1 by omega, show (N * 5 + 1 + 1) % 5 = 2 by omega, show (N * 5 + 1 + 1 + 1) % 5 = 3 by omega, show (N * 5 + 1 + 1 + 1 + 1) % 5 = 4 by omega]
    rfl
theorem run_mkroom (hT : SliceT P t e 5) (hb : (P.info? e).map (fun i => i.bytes) = some 56) (hz : ∀ w, (zeroValue e).run P w = .ok (.agg zcs) w) {N : Nat} (hN : 1 ≤ N ∧ N * 56 ≤ 281474976710656) (w : World) : (Instr.makeSlice t (.int .i64 0) (.int .i64 (N : Int))).run P w = .ok (.slice (some ⟨w.heap.size, 0, none⟩) 0 N) (w.alloc (.cells (flat encV (List.replicate N zeroV)).toArray e)) := by
  obtain ⟨inf, z, hinf, hzz, hk, _, hzs, _⟩ := hT.inf
  have hb1 : inf.bytes = 56 := by simpa [hinf] using hb
  have h1 : IntKind.i64.wrap (N : Int) = (N : Int) := IntWalk.i64_in _ (by omega)
  have h2 : ¬ ((N : Int) < 0) := by omega
  have h3 : ¬ ((281474976710656 : Int) < 56 * (N : Int)) := by omega
  have hw0 : IntKind.i64.wrap 0 = 0 := by decide
  have h0 : N * 5 ≠ 0 := by omega
  have hm : (Array.range (N * 5)).map (fun i => zcs[i % 5]!) = (flat encV (List.replicate N zeroV)).toArray := by
    rw [← zeros_flat]
    apply Array.ext'
    simp [Array.toList_range]
  have hr : ∀ w, (askRoom (N * 56)).run P w = .ok () w := fun w => by
    unfold askRoom; split
    · rfl
    · rfl
  have hzc : (Value.agg zcs).cells = zcs := by rfl
  have hzs5 : zcs.size = 5 := rfl
  simp [Instr.makeSlice, run_underlying hT.ht, asInt, asIntOf, typeInfo, hinf, hb1, h1, h2, h3, hw0, hr, hT.sizeOf, hz, h0, newRow, Sem.run_bind, hzc, hzs5]
  simp [hm, Sem.run]
/-- a slice of no entries with room for so many: the row is all of them, zero -/
theorem a_mkroom (hT : SliceT P t e 5) (hb : (P.info? e).map (fun i => i.bytes) = some 56) (hz : ∀ w, (zeroValue e).run P w = .ok (.agg zcs) w) {N : Nat} (hN : 1 ≤ N ∧ N * 56 ≤ 281474976710656) {x y : Operand} (ho : o.op = .makeSlice t x y) (hx : evs env x = some (.int .i64 0)) (hy : evs env y = some (.int .i64 (N : Int))) : Acts P Q n env B w0 os o (fun g : Nat => .slice (some ⟨g, 0, none⟩) 0 N) (fun g => Vec e 5 encV (.slice (some ⟨g, 0, none⟩) N N) (List.replicate N zeroV) :: os) := fun b w hH hF K hK => by
  have hrun : (execOp b.eval o).run P w = .ok (.value (.slice (some ⟨w.heap.size, 0, none⟩) 0 N)) (w.alloc (.cells (flat encV (List.replicate N zeroV)).toArray e)) := by
    unfold execOp
    simp [ho, hF.evs hx, hF.evs hy, Sem.run_bind, run_mkroom hT hb hz hN]
  refine a_val (w0 := w) b hrun (hK w.heap.size _ ?_)
  have := hH.new e (flat encV (List.replicate N zeroV)).toArray
  obtain ⟨rs, ⟨r1, r2, e1, h1, h2⟩, h3⟩ := this
  unfold cell at h1
  refine ⟨rs, ⟨r1, r2, e1, .inr ⟨w.heap.size, N, (flat encV (List.replicate N zeroV)).toArray, by rw [List.length_replicate], by rw [List.length_replicate]; exact Nat.le_refl _, by unfold maxLen; omega, ?_, ?_, h1⟩, h2⟩, h3⟩
  · rw [List.size_toArray, flat_len okV, List.length_replicate]
  · rw [List.length_replicate, List.take_of_length_le (by simp [flat_len okV])]
/-- append where there is room -/
theorem a_appendRoom (i : Nat) {α : Type} {k : Nat} {enc : α → List Value} (hk : 0 < k) (hT : SliceT P t e k) (he : EncOf k enc) {g N j : Nat} {L : List α} (hi : os[i]? = some (Vec e k enc (.slice (some ⟨g, 0, none⟩) N N) L)) (hL : L.length = N) (hj : j < N) (x : α) {u : Value} (hu : ∀ w, Hp B w0 w os → SlRd w k u 1 (flat enc [x])) {y z : Operand} (ho : o.op = .call { callee := .builtin .append, args := #[y, z], argTypes := #[t, t] }) (hx : evs env y = some (.slice (some ⟨g, 0, none⟩) j N)) (hy : evs env z = some u) :
    Acts P Q n env B w0 os o (fun _ : Unit => .slice (some ⟨g, 0, none⟩) (j + 1) N) (fun _ => os.set i (Vec e k enc (.slice (some ⟨g, 0, none⟩) N N) (L.set j x))) := fun act w hH hF K hK => by
  obtain ⟨rs, hv, hr⟩ := hH.thing i hi
  obtain ⟨hul, A, c, rfl, hA⟩ := hu w hH
  have hxk : (flat enc [x]).length = k := by rw [flat_len he]; simp
  rcases hA with ⟨rfl, hm⟩ | ⟨a, rfl, hcells⟩
  · cases hm
  rcases hv with ⟨h1, h2, _⟩ | ⟨g', cap, cs, h1, h2, h3, h4, h5, h6⟩
  · subst h2; simp at hL; omega
  simp only [Value.slice.injEq, Option.some.injEq, Addr.mk.injEq] at h1
  obtain ⟨⟨rfl, _, _⟩, _, rfl⟩ := h1
  subst h6
  obtain ⟨inf, zv, hinf, hzz, hks, _, hzs, _⟩ := hT.inf
  have hg : w.heap[g]? = some (.cells cs e (0, 0)) := hr.1
  have hNk : j * k + k ≤ N * k := by
    have := Nat.mul_le_mul_right k (show j + 1 ≤ N by omega)
    rwa [Nat.add_mul, Nat.one_mul] at this
  have hrun := run_append_room (P := P) w t o.type e inf hT.ht hinf g j N cs hg a 1 c (flat enc [x]) (by rw [hks, hxk]; omega) hcells (flat_one he [x]) (by omega) (by rw [hks, hxk, h4]; exact hNk)
  rw [hks, hxk] at hrun
  obtain ⟨w2, hw2⟩ : ∃ w2, w.setRow g (cs.toList.take (j * k) ++ flat enc [x] ++ cs.toList.drop (j * k + k)).toArray = w2 := ⟨_, rfl⟩
  rw [hw2] at hrun
  refine a_val (w0 := w) act (exec_bi ho (vs := [.slice (some ⟨g, 0, none⟩) j N, .slice (some a) 1 c]) (by simp [evl, hx, hy]) (fun cs => ?_) hF) (hK () w2 ?_)
  · simp only [builtin, Sem.run_bind, Sem.run_pure, Result.andThen_ok, hrun]
  · subst hw2
    refine hH.turn i hi fun y hy hry _ => ?_
    rcases hy with ⟨h0, _, _⟩ | ⟨g2, cap2, cs2, h0, h02, h03, h04, h05, h06⟩
    · simp at h0
    · simp only [Value.slice.injEq, Option.some.injEq, Addr.mk.injEq] at h0
      obtain ⟨⟨rfl, _, _⟩, _, rfl⟩ := h0
      subst h06
      have hcs : cs2 = cs := by
        have e1 : w.heap[g]? = some (.cells cs2 e (0, 0)) := hry.1
        rw [hg] at e1
        simpa using e1.symm
      subst hcs
      have hcl : cs2.toList = flat enc L := by
        rw [← h05, hL, List.take_of_length_le (by simp [h04])]
      have hfl : (flat enc [x]) = enc x := by simp [flat]
      have hnew : cs2.toList.take (j * k) ++ flat enc [x] ++ cs2.toList.drop (j * k + k) = flat enc (L.set j x) := by
        rw [hcl, hfl]; exact flat_set he (by omega) x
      rw [hnew]
      have hflat : (flat enc (L.set j x)).length = N * k := by rw [flat_len he, List.length_set, hL]
      refine ⟨[(g, tyR e, (flat enc (L.set j x)).toArray)], .inr ⟨g, N, _, by rw [List.length_set, hL], by rw [List.length_set, hL]; exact Nat.le_refl _, h03, by simpa using hflat, ?_, rfl⟩, ⟨⟨rfl, rfl, rfl, ?_, fun p hp hb => ?_⟩, ⟨setRow_heap w g cs2 _ e _ hg, trivial⟩, ⟨(fun _ h => by cases h), trivial⟩, fun y hy _ => ?_⟩⟩
      · rw [List.length_set, hL, List.take_of_length_le (by simp [hflat])]
      · simp [World.setRow]
      · refine setRow_other w g p _ fun ee => hb ⟨(g, tyR e, cs2), by simp, ee.symm⟩
      · have : y = (g, tyR e, (flat enc (L.set j x)).toArray) := by simpa using hy
        subst this
        exact ⟨(g, tyR e, cs2), by simp, rfl⟩
end
end Go.Proofs.Ytnebloeideodmaa.Sep
