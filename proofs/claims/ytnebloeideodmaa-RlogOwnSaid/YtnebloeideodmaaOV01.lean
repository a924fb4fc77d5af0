/-
  RlAi
-/
import Derived.Test.YtnebloeideodmaaOU01
set_option linter.unusedSimpArgs false
set_option linter.unusedVariables false

namespace Go.Proofs.Ytnebloeideodmaa.Sep
open Go.RowKit
open Go.Proofs.Ytnebloeideodmaa.Mem (Dist Blk Chg below0)

theorem e_vlenL {P : Program} {B : Nat → Prop} {w0 w : World} {os : List Ass} {n : Nat} {env : List (Nat × Value)} {o : Oper} {act : Act} {e t : TypeId} {k : Nat} {α : Type} {enc : α → List Value} {v : Value} {l : List α} (i : Nat) {m : Nat} (hm : l.length = m) (hu : P.underlying t = some (.slice e)) (hi : os[i]? = some (Vec e k enc v l)) {x : Operand} (ho : o.op = .call { callee := .builtin .len, args := #[x], argTypes := #[t] }) (hx : evs env x = some v) (hH : Hp B w0 w os) (hF : Fr n act env) : (execOp act.eval o).run P w = .ok (.value (.int .i64 (m : Int))) w := hm ▸ e_vlen i hu hi ho hx hH hF
def setT (x : EntV) (t : Int) : EntV := ⟨{ x.e with t := t }, x.A, x.c⟩
/-- entries that are written over, each with the bytes that it has now -/
def PrOk (n : Nat) (P : List (EntV × List UInt8)) : Prop := P.length = n ∧ ∀ y ∈ P, y.2.length ≤ 140737488351232
theorem pr_start {n : Nat} {L : List EntV} (h : L.length = n) (hd : ∀ x, x ∈ L → x.e.d.length ≤ 140737488351232) : PrOk n (L.map fun x => (x, x.e.d)) := ⟨by rw [List.length_map]; exact h, fun y hy => by obtain ⟨x, hx, rfl⟩ := List.mem_map.1 hy; exact hd x hx⟩
theorem pr_each {l : List EntV} : ∀ rs, Parts [Each dat l] rs → Each (fun x : EntV × List UInt8 => Vec 5 1 encB x.1.v x.2) (l.map fun x => (x, x.e.d)) rs := fun rs h => by
  refine each_map ?_ rs h.one'
  rw [List.map_map]
  rfl
theorem pr_vec {l : List EntV} {te : TypeId} {v : Value} : ∀ rs, Parts [Vec te 5 encV v l] rs → Vec te 5 encV v ((l.map fun x => (x, x.e.d)).map (·.1)) rs := fun rs h => by
  rw [List.map_map]
  have : ((fun x : EntV × List UInt8 => x.1) ∘ fun x : EntV => (x, x.e.d)) = id := rfl
  rw [this, List.map_id]
  exact h.one'
theorem pr_at {n i : Nat} {P : List (EntV × List UInt8)} (h : PrOk n P) (hi : i < n) : ∃ x d, P[i]? = some (x, d) ∧ (P.map (·.1))[i]? = some x ∧ d.length ≤ 140737488351232 := by
  obtain ⟨p, hp⟩ : ∃ p, P[i]? = some p := ⟨_, List.getElem?_eq_getElem (by rw [h.1]; exact hi)⟩
  exact ⟨p.1, p.2, hp, by rw [List.getElem?_map, hp]; rfl, h.2 p (List.mem_of_getElem? hp)⟩
theorem pr_set {n i : Nat} {P : List (EntV × List UInt8)} {x y : EntV} {d ds : List UInt8} (h : PrOk n P) (hp : P[i]? = some (x, d)) (hds : ds.length = d.length) : PrOk n (P.take i ++ (y, ds) :: P.drop (i + 1)) := by
  have hi := (List.getElem?_eq_some_iff.1 hp).1
  refine ⟨by rw [List.length_append, List.length_cons, List.length_take, List.length_drop]; have := h.1; omega, fun z hz => ?_⟩
  rcases List.mem_append.1 hz with h1 | h1
  · exact h.2 z (List.mem_of_mem_take h1)
  · rcases List.mem_cons.1 h1 with h1 | h1
    · rw [h1]; show ds.length ≤ _; rw [hds]; exact h.2 (x, d) (List.mem_of_getElem? hp)
    · exact h.2 z (List.mem_of_mem_drop h1)
theorem pr_map {i : Nat} {P : List (EntV × List UInt8)} {x y : EntV} {d ds : List UInt8} (hp : P[i]? = some (x, d)) : (P.map (·.1)).set i y = (P.take i ++ (y, ds) :: P.drop (i + 1)).map (·.1) := by
  have hi := (List.getElem?_eq_some_iff.1 hp).1
  rw [List.map_append, List.map_cons, List.map_take, List.map_drop, List.set_eq_take_append_cons_drop, if_pos (by rw [List.length_map]; exact hi)]
theorem pr_close {i : Nat} {P Q : List (EntV × List UInt8)} {x y : EntV} {d ds : List UInt8} {te : TypeId} {v : Value} (hp : P[i]? = some (x, d)) (hQ : P.take i ++ (y, ds) :: P.drop (i + 1) = Q) : ∀ rs, Parts [Vec te 5 encV v ((P.map (·.1)).set i y)] rs → Vec te 5 encV v (Q.map (·.1)) rs := fun rs h => by
  rw [← hQ, ← pr_map hp]; exact h.one'
theorem pr_back {i : Nat} {P Q : List (EntV × List UInt8)} {y : EntV} {ds : List UInt8} (hQ : P.take i ++ (y, ds) :: P.drop (i + 1) = Q) : ∀ rs, Parts [Each (fun x : EntV × List UInt8 => Vec 5 1 encB x.1.v x.2) (P.take i), Vec 5 1 encB y.v ds, Each (fun x : EntV × List UInt8 => Vec 5 1 encB x.1.v x.2) (P.drop (i + 1))] rs → Each (fun x : EntV × List UInt8 => Vec 5 1 encB x.1.v x.2) Q rs := fun rs h => by
  rw [← hQ]; exact each_back (f := (fun x : EntV × List UInt8 => Vec 5 1 encB x.1.v x.2)) (y := (y, ds)) rs h
theorem pr_open {i : Nat} {P : List (EntV × List UInt8)} {x : EntV} {d : List UInt8} {t : Int} (hp : P[i]? = some (x, d)) : ∀ rs, Each (fun x : EntV × List UInt8 => Vec 5 1 encB x.1.v x.2) P rs → ∃ _ : Unit, Parts [Each (fun x : EntV × List UInt8 => Vec 5 1 encB x.1.v x.2) (P.take i), Vec 5 1 encB (setT x t).v d, Each (fun x : EntV × List UInt8 => Vec 5 1 encB x.1.v x.2) (P.drop (i + 1))] rs := each_open hp
theorem pr_has {n i : Nat} {P : List (EntV × List UInt8)} {x y : EntV} {d : List UInt8} (hp : P[i]? = some (x, d)) : ((P.map (·.1)).set i y)[i]? = some y := by
  rw [List.getElem?_set_self]
  rw [List.length_map]
  exact (List.getElem?_eq_some_iff.1 hp).1

/-- what has been told so far -/
def OwI (g3 g11 g12 : Nat) (mm : Int) (lf : List EntD) (i : Nat) : Ass := fun rs => ∃ gv : Value, Parts [cell g12 4 #[.bool true], cell g11 34 #[gv], EnT gv (lf.take i), cell g3 3 #[.int .i64 mm]] rs
theorem OwI.open_ {g3 g11 g12 : Nat} {mm : Int} {lf : List EntD} {i : Nat} : ∀ rs, OwI g3 g11 g12 mm lf i rs → ∃ gv : Value, Parts [cell g12 4 #[.bool true], cell g11 34 #[gv], EnT gv (lf.take i), cell g3 3 #[.int .i64 mm]] rs := fun _ h => h
theorem owI_0 {g3 g11 g12 : Nat} {mm : Int} {lf : List EntD} : ∀ rs, Parts [cell g12 4 #[.bool true], cell g11 34 #[.slice none 0 0], cell g3 3 #[.int .i64 mm]] rs → OwI g3 g11 g12 mm lf 0 rs := fun rs h => by
  obtain ⟨a, b, e, h1, c, d, e2, h2, h3⟩ := h
  exact ⟨.slice none 0 0, a, b, e, h1, c, d, e2, h2, [], d, rfl, enT_nil, h3⟩
theorem own_done {g3 g11 g12 : Nat} {mm : Int} {lf : List EntD} {i : Nat} {gv : Value} {L : List EntV} {y : EntV} (h : (L ++ [y]).map (·.e) = lf.take i) {z : List RowT} (hz : Parts [cell g12 4 #[.bool true], cell g11 34 #[gv], Vec 32 5 encV gv (L ++ [y]), Each dat L, dat y, cell g3 3 #[.int .i64 mm]] z) : Parts [OwI g3 g11 g12 mm lf i] z := by
  obtain ⟨a, b, e, h1, c, d, e2, h2, p, q, e3, h3, r, s, e4, h4, m, n, e5, h5, h6⟩ := hz
  exact Parts.one ⟨gv, a, b, e, h1, c, d, e2, h2, p ++ (r ++ m), n, by rw [e3, e4, e5]; simp, ⟨L ++ [y], h, ents_push2 _ ⟨p, r ++ m, rfl, h3, r, m, rfl, h4, Parts.one h5⟩⟩, h6⟩
set_option maxRecDepth 100000 in
theorem own1 (g3 g11 g12 : Nat) (mm : Int) (lf : List EntD) (hlf : lf.length ≤ 1000) (i : Nat) (y : EntV) (hy : lf[i]? = some y.e) (b : Bool) (hb : decide (((i + 1 : Nat) : Int) < mm) = b) : Does Try.prog 28 #[.int .u64 y.e.i, .agg #[.int .i64 y.e.k, .int .u64 y.e.t, .int .u64 y.e.i, y.v, .int .i64 y.e.c], .pointer (some ⟨g12, 0, none⟩), .pointer (some ⟨g11, 0, none⟩), .pointer (some ⟨g3, 0, none⟩)] [OwI g3 g11 g12 mm lf i, dat y] (fun (_ : Unit) => .bool b) (fun (_ : Unit) => [OwI g3 g11 g12 mm lf (i + 1)]) := by
  have hb9 := hb
  refine d_ins (args := [.int .u64 y.e.i, .agg #[.int .i64 y.e.k, .int .u64 y.e.t, .int .u64 y.e.i, y.v, .int .i64 y.e.c], .pointer (some ⟨g12, 0, none⟩), .pointer (some ⟨g11, 0, none⟩), .pointer (some ⟨g3, 0, none⟩)]) 23 Try.func28 rfl rfl rfl ?_; intro w rs
  refine d_open 0 rfl OwI.open_ (fun _ => rfl) ?_; rintro gv
  refine d_open 2 rfl EnT.open2 (fun _ => rfl) ?_; rintro ⟨L8, hL8⟩
  have hL8 : L8.map (·.e) = lf.take i := hL8
  have hil := (List.getElem?_eq_some_iff.1 hy).1
  have hl8 : L8.length = i := by have := congrArg List.length hL8; rw [List.length_map, List.length_take] at this; omega
  have hp8 : (L8 ++ [y]).map (·.e) = lf.take (i + 1) := by rw [List.map_append, hL8, List.take_add_one, hy]; rfl
  refine d_reg ?_
  refine h_q hflS rfl ?_
  refine h_act (post := fun g6 => [cell g6 32 #[.int .i64 y.e.k, .int .u64 y.e.t, .int .u64 y.e.i, y.v, .int .i64 y.e.c], Vec 32 5 encV gv L8, Each dat L8, cell g12 4 #[.bool true], cell g11 34 #[gv], cell g3 3 #[.int .i64 mm], dat y]) rfl (a_box (cs := #[.int .i64 y.e.k, .int .u64 y.e.t, .int .u64 y.e.i, y.v, .int .i64 y.e.c]) rfl rfl rfl) ?_; rintro g6
  refine h_q hflS rfl ?_
  refine h_done (d_reg ?_)
  refine h_q hflS rfl ?_
  refine h_val rfl (.bool true) (fun b w hb hH => exec_load rfl rfl (reads_one ty_bool rfl) (hH.row 3 rfl) hb) ?_
  refine h_q hflS rfl ?_
  refine h_val rfl (.int .u64 y.e.i) (fun b w hb hH => exec_load rfl rfl (reads_one ty_uint64 rfl) (hH.row 0 rfl) hb) ?_
  refine h_val rfl (.bool true) (fun b w hb hH => exec_cmp rfl rfl rfl (cmp_eql_t rfl) hb) ?_
  refine h_q hflS rfl ?_
  refine h_acts (post := fun _ => [cell g6 32 #[.int .i64 y.e.k, .int .u64 y.e.t, .int .u64 y.e.i, y.v, .int .i64 y.e.c], Vec 32 5 encV gv L8, Each dat L8, cell g12 4 #[.bool true], cell g11 34 #[gv], cell g3 3 #[.int .i64 mm], dat y]) rfl rfl (a_store 3 (v := .bool true) #[.bool true] ty_bool.2 rfl rfl rfl rfl rfl rfl rfl rfl rfl) ?_; rintro ⟨⟩
  refine h_done (d_reg ?_)
  refine h_q hflS rfl ?_
  refine h_val rfl (gv) (fun b w hb hH => exec_load rfl rfl (reads_one ty_s_api_Entry rfl) (hH.row 4 rfl) hb) ?_
  refine h_val rfl (.agg #[.int .i64 y.e.k, .int .u64 y.e.t, .int .u64 y.e.i, y.v, .int .i64 y.e.c]) (fun b w hb hH => exec_load rfl rfl (reads_agg (cs := [.int .i64 y.e.k, .int .u64 y.e.t, .int .u64 y.e.i, y.v, .int .i64 y.e.c]) ty_api_Entry rfl) (hH.row 0 rfl) hb) ?_
  refine h_act (X := Value) (val := fun v : Value => v) (post := fun u1 => [Vec 32 5 encV u1 ([y]), cell g6 32 #[.int .i64 y.e.k, .int .u64 y.e.t, .int .u64 y.e.i, y.v, .int .i64 y.e.c], Vec 32 5 encV gv L8, Each dat L8, cell g12 4 #[.bool true], cell g11 34 #[gv], cell g3 3 #[.int .i64 mm], dat y]) rfl (by refine a_buildK (e := 32) (t := 34) (k := 5) (enc := encV) (x := .tmp 16) (c := .agg #[.int .i64 y.e.k, .int .u64 y.e.t, .int .u64 y.e.i, y.v, .int .i64 y.e.c]) ?_ ?_ ?_ y ?_ ?_ ?_; exact sl_api_Entry; exact (by decide); exact okV; exact rfl; exact rfl; exact rfl) ?_; rintro u1
  refine h_act (post := fun gv2 => [Vec 32 5 encV u1 ([y]), cell g6 32 #[.int .i64 y.e.k, .int .u64 y.e.t, .int .u64 y.e.i, y.v, .int .i64 y.e.c], Vec 32 5 encV gv2 (L8 ++ [y]), Each dat L8, cell g12 4 #[.bool true], cell g11 34 #[gv], cell g3 3 #[.int .i64 mm], dat y]) rfl (a_appendK (nb := 56) 2 sl_api_Entry okV (by kernel_rfl) (by decide) rfl ([y]) (fun w hH => hH.vec 0 rfl okV) (by simp only [List.length_cons, List.length_nil]; omega) rfl rfl rfl rfl) ?_; rintro gv2
  refine h_acts (post := fun _ => [Vec 32 5 encV u1 ([y]), cell g6 32 #[.int .i64 y.e.k, .int .u64 y.e.t, .int .u64 y.e.i, y.v, .int .i64 y.e.c], Vec 32 5 encV gv2 (L8 ++ [y]), Each dat L8, cell g12 4 #[.bool true], cell g11 34 #[gv2], cell g3 3 #[.int .i64 mm], dat y]) rfl rfl (a_storev 5 2 (v := gv2) #[gv2] ty_s_api_Entry.2 rfl (fun _ h => Vec.c1 h) rfl rfl rfl rfl rfl rfl rfl) ?_; rintro ⟨⟩
  refine h_done (d_reg ?_)
  refine h_q hflS rfl ?_
  refine h_val rfl (gv2) (fun b w hb hH => exec_load rfl rfl (reads_one ty_s_api_Entry rfl) (hH.row 5 rfl) hb) ?_
  refine h_val rfl (.int .i64 ((i + 1 : Nat) : Int)) (fun b w hb hH => e_vlenL 2 (by rw [List.length_append, hl8]; rfl) Try.underlying34 rfl rfl rfl hH hb) ?_
  refine h_val rfl (.int .i64 mm) (fun b w hb hH => exec_load rfl rfl (reads_one ty_int rfl) (hH.row 6 rfl) hb) ?_
  refine h_val rfl (.bool b) (fun b w hb hH => exec_cmp rfl rfl rfl (congrArg some hb9) hb) ?_
  refine h_q hflS rfl ?_
  refine h_done (d_ret ?_)
  exact f_fin1 (.tmp rfl) (fun w h => tells () rfl [4, 5, 2, 3, 7, 6] rfl h (fun z hz => ⟨z, .refl _, own_done hp8 hz⟩)) rfl
end Go.Proofs.Ytnebloeideodmaa.Sep
