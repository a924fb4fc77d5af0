/-
  RlN · RlO · RlP
-/
import Derived.Test.YtnebloeideodmaaNI01
set_option linter.unusedSimpArgs false
set_option linter.unusedVariables false

namespace Go.Proofs.Ytnebloeideodmaa.Sep
open Go.RowKit
open Go.Proofs.Ytnebloeideodmaa.Mem (Dist Blk Chg below0)

theorem dat_rd8 {sl : List EntV} {j : Nat} {x : EntV} (hj : sl[j]? = some x) : Rd8 (Each dat sl) x.v x.e.d := fun rs w h hr => by
  obtain ⟨ys, h1, h2⟩ := Each.at_ h hr hj
  exact vec_sl8 h1 h2
theorem dat_mk {e : EntD} {A : Option Addr} {c : Nat} : ∀ rs, Parts [Vec 5 1 encB (.slice A e.d.length c) e.d] rs → dat ⟨e, A, c⟩ rs := fun rs h => h.one'

set_option maxRecDepth 100000 in
theorem copied_any (X : Ass) (x : EntV) (hX : Rd8 X x.v x.e.d) (hl : x.e.d.length ≤ 140737488351232) : Does Try.prog 56 #[.agg #[.int .i64 x.e.k, .int .u64 x.e.t, .int .u64 x.e.i, x.v, .int .i64 x.e.c]] [X] (fun (y : SlV) => .agg #[.int .i64 x.e.k, .int .u64 x.e.t, .int .u64 x.e.i, .slice y.A x.e.d.length y.c, .int .i64 x.e.c]) (fun (y : SlV) => [X, dat (⟨x.e, y.A, y.c⟩ : EntV)]) := by
  refine d_ins (args := [.agg #[.int .i64 x.e.k, .int .u64 x.e.t, .int .u64 x.e.i, x.v, .int .i64 x.e.c]]) 8 Try.func56 rfl rfl rfl ?_; intro w rs
  refine d_reg ?_
  refine h_q hflS rfl ?_
  refine h_act (post := fun g1 => [cell g1 32 #[.int .i64 x.e.k, .int .u64 x.e.t, .int .u64 x.e.i, x.v, .int .i64 x.e.c], X]) rfl (a_box (cs := #[.int .i64 x.e.k, .int .u64 x.e.t, .int .u64 x.e.i, x.v, .int .i64 x.e.c]) rfl rfl rfl) ?_; rintro g1
  refine h_act (post := fun g2 => [cell g2 32 #[.int .i64 0, .int .u64 0, .int .u64 0, .slice none 0 0, .int .i64 0], cell g1 32 #[.int .i64 x.e.k, .int .u64 x.e.t, .int .u64 x.e.i, x.v, .int .i64 x.e.c], X]) rfl (a_alloc ze_api_Entry rfl) ?_; rintro g2
  refine h_done (d_reg ?_)
  refine h_q hflS rfl ?_
  refine h_val rfl (x.v) (fun b w hb hH => exec_load rfl rfl (reads_one ty_s_uint8 rfl) (hH.row 1 rfl) hb) ?_
  refine h_act (post := fun d => [Vec 5 1 encB d x.e.d, cell g2 32 #[.int .i64 0, .int .u64 0, .int .u64 0, .slice none 0 0, .int .i64 0], cell g1 32 #[.int .i64 x.e.k, .int .u64 x.e.t, .int .u64 x.e.i, x.v, .int .i64 x.e.c], X]) rfl (a_does (os' := fun d => [Vec 5 1 encB d x.e.d, cell g2 32 #[.int .i64 0, .int .u64 0, .int .u64 0, .slice none 0 0, .int .i64 0], cell g1 32 #[.int .i64 x.e.k, .int .u64 x.e.t, .int .u64 x.e.i, x.v, .int .i64 x.e.c], X]) [2] 0 (ent_of Try.func69 (by kernel_rfl) rfl) (clone8 hX (by omega)) rfl rfl rfl (fun _ => rfl) rfl rfl rfl) ?_; rintro d
  refine WL2.fact 0 rfl (fun _ h => Vec.is h) ?_; rintro ⟨A, c, rfl⟩
  refine h_q hflS rfl ?_
  refine h_acts (post := fun _ => [Vec 5 1 encB (.slice A x.e.d.length c) x.e.d, cell g2 32 #[.int .i64 0, .int .u64 0, .int .u64 0, .slice none 0 0, .int .i64 0], cell g1 32 #[.int .i64 x.e.k, .int .u64 x.e.t, .int .u64 x.e.i, .slice A x.e.d.length c, .int .i64 x.e.c], X]) rfl rfl (a_store 2 (v := .slice A x.e.d.length c) #[.int .i64 x.e.k, .int .u64 x.e.t, .int .u64 x.e.i, .slice A x.e.d.length c, .int .i64 x.e.c] ty_s_uint8.2 rfl rfl rfl rfl rfl rfl rfl rfl rfl) ?_; rintro ⟨⟩
  refine h_done ?_
  refine d_close [0] rfl dat_mk rfl ?_
  refine d_reg ?_
  refine h_q hflS rfl ?_
  refine h_val rfl (.agg #[.int .i64 x.e.k, .int .u64 x.e.t, .int .u64 x.e.i, .slice A x.e.d.length c, .int .i64 x.e.c]) (fun b w hb hH => exec_load rfl rfl (reads_agg (cs := [.int .i64 x.e.k, .int .u64 x.e.t, .int .u64 x.e.i, .slice A x.e.d.length c, .int .i64 x.e.c]) ty_api_Entry rfl) (hH.row 2 rfl) hb) ?_
  refine h_acts (post := fun _ => [dat (⟨x.e, A, c⟩ : EntV), cell g2 32 #[.int .i64 x.e.k, .int .u64 x.e.t, .int .u64 x.e.i, .slice A x.e.d.length c, .int .i64 x.e.c], cell g1 32 #[.int .i64 x.e.k, .int .u64 x.e.t, .int .u64 x.e.i, .slice A x.e.d.length c, .int .i64 x.e.c], X]) rfl rfl (a_store 1 (v := .agg #[.int .i64 x.e.k, .int .u64 x.e.t, .int .u64 x.e.i, .slice A x.e.d.length c, .int .i64 x.e.c]) #[.int .i64 x.e.k, .int .u64 x.e.t, .int .u64 x.e.i, .slice A x.e.d.length c, .int .i64 x.e.c] ty_api_Entry.2 rfl rfl rfl rfl rfl rfl rfl rfl rfl) ?_; rintro ⟨⟩
  refine h_done (d_ret ?_)
  exact f_fin1 (.cell 1 (v := .agg #[.int .i64 x.e.k, .int .u64 x.e.t, .int .u64 x.e.i, .slice A x.e.d.length c, .int .i64 x.e.c]) (reads_agg (cs := [.int .i64 x.e.k, .int .u64 x.e.t, .int .u64 x.e.i, .slice A x.e.d.length c, .int .i64 x.e.c]) ty_api_Entry rfl) rfl rfl) (fun w h => tells (⟨A, c⟩) rfl [3, 0] rfl h same_parts) rfl
end Go.Proofs.Ytnebloeideodmaa.Sep

namespace Go.Proofs.Ytnebloeideodmaa.Sep
open Go.RowKit
open Go.Proofs.Ytnebloeideodmaa.Mem (Dist Blk Chg below0)

/-- some of a log's entries -/
def partM (bi : Int) (es : List EntD) (x most : Int) : List EntD := if x ≤ bi ∨ most ≤ 0 then [] else (es.drop (upM bi es.length (x - 1))).take most.toNat
theorem take_min_ {α : Type} {l : List α} {a b : Nat} (h : b = l.length) : l.take (min a b) = l.take a := by
  subst h
  rcases Nat.le_total a l.length with h | h
  · rw [Nat.min_eq_left h]
  · rw [Nat.min_eq_right h, List.take_of_length_le (Nat.le_refl _), List.take_of_length_le h]
theorem RingD.isk {sl : List EntV} {f q k : Nat} {es : List EntD} {x : EntV} (h : RingD sl f es) (hk : q + k < es.length) (hx : sl[slotI f sl.length (q + k)]? = some x) : (es.drop q)[k]? = some x.e := by
  rw [List.getElem?_drop]; exact h.is_ hk hx
/-- the entries copied so far -/
def EnI (g8 : Nat) (sl : List EntV) (l : List EntD) (i : Nat) : Ass := fun rs => ∃ x : EsV, Parts [cell g8 34 #[x.v], Ents 32 x.v x.l, Each dat sl, fact (x.l.map (·.e) = l.take i)] rs
theorem EnI.open_ {g8 : Nat} {sl : List EntV} {l : List EntD} {i : Nat} : ∀ rs, EnI g8 sl l i rs → ∃ x : EsV, Parts [cell g8 34 #[x.v], Ents 32 x.v x.l, Each dat sl, fact (x.l.map (·.e) = l.take i)] rs := fun _ h => h
theorem enI_mk {g8 : Nat} {sl : List EntV} {l : List EntD} {i : Nat} {x : EsV} (h : x.l.map (·.e) = l.take i) : ∀ rs, Parts [cell g8 34 #[x.v], Ents 32 x.v x.l, Each dat sl] rs → EnI g8 sl l i rs := fun rs hr => ⟨x, fact_add (xs := [_, _, _]) h hr⟩
theorem enI_0 {g8 : Nat} {sl : List EntV} {l : List EntD} : ∀ rs, Parts [cell g8 34 #[.slice none 0 0], Each dat sl] rs → EnI g8 sl l 0 rs := fun rs hr => by
  obtain ⟨p, q, e, h1, h2⟩ := hr
  exact ⟨⟨.slice none 0 0, []⟩, p, q, e, h1, [], q, rfl, entsT_nil, fact_add (xs := [_]) rfl h2⟩
theorem ents_push2 {v : Value} {l : List EntV} {y : EntV} : ∀ rs, Parts [Vec 32 5 encV v (l ++ [y]), Each (fun x : EntV => Vec 5 1 encB x.v x.e.d) l, dat y] rs → Ents 32 v (l ++ [y]) rs := ents_push

/-- a part of a ring, of which the function is a letter -/
def PtT (fv : Value) (g : Nat) (q m : Int) : Ass := fun rs => ∃ x : Nat × Nat × Nat, fv = .func (.func 68) #[] #[.pointer (some ⟨x.1, 0, none⟩), .pointer (some ⟨x.2.1, 0, none⟩), .pointer (some ⟨x.2.2, 0, none⟩)] ∧ Parts [cell x.1 3 #[.int .i64 m], cell x.2.1 90 #[.pointer (some ⟨g, 3, none⟩)], cell x.2.2 3 #[.int .i64 q]] rs
theorem PtT.open_ {fv : Value} {g : Nat} {q m : Int} : ∀ rs, PtT fv g q m rs → ∃ x : { x : Nat × Nat × Nat // fv = .func (.func 68) #[] #[.pointer (some ⟨x.1, 0, none⟩), .pointer (some ⟨x.2.1, 0, none⟩), .pointer (some ⟨x.2.2, 0, none⟩)] }, Parts [cell x.1.1 3 #[.int .i64 m], cell x.1.2.1 90 #[.pointer (some ⟨g, 3, none⟩)], cell x.1.2.2 3 #[.int .i64 q]] rs := fun _ ⟨x, h, hx⟩ => ⟨⟨x, h⟩, hx⟩
theorem part_v (g : Nat) (q m : Int) : Does Try.prog 55 #[.pointer (some ⟨g, 3, none⟩), .int .i64 q, .int .i64 m] [] (fun fv : Value => fv) (fun fv => [PtT fv g q m]) := fun w rs hp hr hd => by
  refine (part_any g q m w rs hp hr hd).mono ?_
  rintro e w' ⟨x, he, rs', hx, hc⟩
  exact ⟨_, he, rs', Parts.one ⟨x, rfl, hx⟩, hc⟩

/-- the entry that a value is, of which all but the place of its bytes is known -/
def entS (e : EntD) : Option Value → EntV
  | some (.slice A _ c) => ⟨e, A, c⟩
  | _ => ⟨e, none, 0⟩
def entO (e : EntD) : Value → EntV
  | .agg cs => entS e cs[3]?
  | _ => ⟨e, none, 0⟩
theorem entS_e (e : EntD) (v : Option Value) : (entS e v).e = e := by unfold entS; split <;> rfl
theorem entO_e (e : EntD) (cv : Value) : (entO e cv).e = e := by
  unfold entO; split
  · exact entS_e e _
  · rfl
/-- an entry with bytes of its own, of which the value is a letter -/
def CpT (cv : Value) (e : EntD) : Ass := fun rs => cv = .agg (encV (entO e cv)).toArray ∧ dat (entO e cv) rs
theorem CpT.open_ {cv : Value} {e : EntD} : ∀ rs, CpT cv e rs → ∃ _ : Unit, Parts [dat (entO e cv)] rs := fun _ h => ⟨(), Parts.one h.2⟩
theorem CpT.cells {cv : Value} {e : EntD} : ∀ rs, CpT cv e rs → cv.cells.toList = encV (entO e cv) := fun _ h => by
  have h1 := h.1
  generalize entO e cv = y at h1
  rw [h1]; rfl
theorem copied_v (X : Ass) (x : EntV) (hX : Rd8 X x.v x.e.d) (hl : x.e.d.length ≤ 140737488351232) : Does Try.prog 56 #[.agg #[.int .i64 x.e.k, .int .u64 x.e.t, .int .u64 x.e.i, x.v, .int .i64 x.e.c]] [X] (fun cv : Value => cv) (fun cv => [X, CpT cv x.e]) := fun w rs hp hr hd => by
  refine (copied_any X x hX hl w rs hp hr hd).mono ?_
  rintro e w' ⟨y, he, rs', ⟨a, b, e1, h1, h2⟩, hc⟩
  exact ⟨_, he, rs', ⟨a, b, e1, h1, Parts.one ⟨rfl, h2.one'⟩⟩, hc⟩
theorem a_buildF {P : Program} {Q : Exit → Act → World → Prop} {n : Nat} {env : List (Nat × Value)} {B : Nat → Prop} {w0 : World} {os : List Ass} {o : Oper} {t e : TypeId} {α : Type} {k : Nat} {enc : α → List Value} {th : Ass} (i : Nat) (hi : os[i]? = some th) (hT : SliceT P t e k) (hk : k ≤ 4096) (he : EncOf k enc) {x : Operand} {c : Value} (a : α) (hc : ∀ rs, th rs → c.cells.toList = enc a) (ho : o.op = .buildSlice t 1 #[(0, x)]) (hx : evs env x = some c) : Acts P Q n env B w0 os o (fun v : Value => v) (fun v => Vec e k enc v [a] :: os) := fun b w hH hF K hK =>
  a_buildK hT hk he a (thing_is i hi hc hH) ho hx b w hH hF K hK

theorem dat_len {e : EntD} (h : rightE e = true) : e.d.length ≤ 128 := by
  have := (rightE_iff h).2.2
  rcases this with h1 | h1 | h1
  · rw [h1.2.1]; simp
  · exact h1.2.2.1
  · first | (rw [h1.2.1]; simp) | omega

set_option maxRecDepth 100000 in
theorem entries_any (g : Nat) (bi bt bc : Int) (es : List EntD) (hI : InvL bi bt es) (v : Value) (sl : List EntV) (f : Nat) (hR : RingD sl f es) (x most : Int) (hx : 0 ≤ x ∧ x ≤ 18446744073709551615) (hmo : -9223372036854775808 ≤ most ∧ most ≤ 9223372036854775807) (hes : es.length * 56 ≤ 140737488351232) : Does Try.prog 26 #[.pointer (some ⟨g, 0, none⟩), .int .u64 x, .int .i64 most] [cell g 67 #[.int .u64 bi, .int .u64 bt, .int .i64 bc, v, .int .i64 (f : Int), .int .i64 (es.length : Int)], Vec 32 5 encV v sl, Each dat sl] (fun (o : EsV) => o.v) (fun (o : EsV) => [cell g 67 #[.int .u64 bi, .int .u64 bt, .int .i64 bc, v, .int .i64 (f : Int), .int .i64 (es.length : Int)], Vec 32 5 encV v sl, Each dat sl, Ents 32 o.v o.l, fact (o.l.map (·.e) = partM bi es x most)]) := by
  have hb0 := hI.hi
  have ht0 := hI.ht
  have hle0 := hI.len
  have hm0 : (es.length : Int) ≤ 72057594037927935 := by omega
  have hls : 0 ≤ bi ∧ 0 ≤ (es.length : Int) ∧ bi + (es.length : Int) ≤ 9223372036854775807 := by omega
  have hsz := hR.sz
  refine d_insM (args := [.pointer (some ⟨g, 0, none⟩), .int .u64 x, .int .i64 most]) 43 Try.func26 rfl rfl rfl ?_; intro w rs
  refine d_reg ?_
  refine h_q hflS rfl ?_
  refine h_done (d_seq ?_)
  rcases (show x ≤ bi ∨ (bi < x ∧ most ≤ 0) ∨ (bi < x ∧ 0 < most) by omega) with hn | ⟨hn, hn2⟩ | ⟨hn, hn2⟩
  · skip
    refine d_reg ?_
    refine h_q hflS rfl ?_
    refine h_val rfl (.pointer (some ⟨g, 0, none⟩)) (fun b w hb hH => by exact exec_nilCheck rfl rfl hb) ?_
    refine h_q hflS rfl ?_
    refine h_val rfl (.int .u64 bi) (fun b w hb hH => exec_load rfl rfl (reads_one ty_uint64 rfl) (hH.row 0 rfl) hb) ?_
    refine h_val rfl (.bool true) (fun b w hb hH => exec_cmp rfl rfl rfl (cmp_leq_t (by omega)) hb) ?_
    refine h_q hflS rfl ?_
    refine h_done (d_then rfl ?_)
    refine d_new (t := Ents 32 (.slice none 0 0) ([])) (entsT_nil) ?_
    refine d_reg ?_
    refine h_q hflS rfl ?_
    refine h_done (d_ret (f_then_ret ?_))
    exact f_finM (f_fin1 (.tmp rfl) (fun w h => tells (⟨.slice none 0 0, []⟩ : EsV) rfl [1, 2, 3, 0] rfl h (fun z hz => ⟨z, .refl _, fact_add (xs := [_, _, _, _]) (by unfold partM; rw [if_pos (by omega)]; rfl) hz⟩)) rfl)
  · skip
    refine d_reg ?_
    refine h_q hflS rfl ?_
    refine h_val rfl (.pointer (some ⟨g, 0, none⟩)) (fun b w hb hH => by exact exec_nilCheck rfl rfl hb) ?_
    refine h_q hflS rfl ?_
    refine h_val rfl (.int .u64 bi) (fun b w hb hH => exec_load rfl rfl (reads_one ty_uint64 rfl) (hH.row 0 rfl) hb) ?_
    refine h_val rfl (.bool false) (fun b w hb hH => exec_cmp rfl rfl rfl (cmp_leq_f (by omega)) hb) ?_
    refine h_q hflS rfl ?_
    refine h_val rfl (.bool true) (fun b w hb hH => exec_cmp rfl rfl rfl (cmp_leq_t (by omega)) hb) ?_
    refine h_q hflS rfl ?_
    refine h_done (d_then rfl ?_)
    refine d_new (t := Ents 32 (.slice none 0 0) ([])) (entsT_nil) ?_
    refine d_reg ?_
    refine h_q hflS rfl ?_
    refine h_done (d_ret (f_then_ret ?_))
    exact f_finM (f_fin1 (.tmp rfl) (fun w h => tells (⟨.slice none 0 0, []⟩ : EsV) rfl [1, 2, 3, 0] rfl h (fun z hz => ⟨z, .refl _, fact_add (xs := [_, _, _, _]) (by unfold partM; rw [if_pos (by omega)]; rfl) hz⟩)) rfl)
  · skip
    obtain ⟨q, hq⟩ : ∃ q, upM bi es.length (x - 1) = q := ⟨_, rfl⟩
    have hqe : q ≤ es.length := by rw [← hq]; exact upM_le
    obtain ⟨m, hm⟩ : ∃ m, min most.toNat (es.length - q) = m := ⟨_, rfl⟩
    have hfm : m = 0 ∨ f < sl.length := by have := hR.le; rcases hR.ff with h | h; exact .inl (by omega); exact .inr h
    have hlq : (es.drop q).take m = partM bi es x most := by unfold partM; rw [if_neg (by omega), hq, ← hm, take_min_ (by rw [List.length_drop])]
    have hle9 := hR.le
    refine d_reg ?_
    refine h_q hflS rfl ?_
    refine h_val rfl (.pointer (some ⟨g, 0, none⟩)) (fun b w hb hH => by exact exec_nilCheck rfl rfl hb) ?_
    refine h_q hflS rfl ?_
    refine h_val rfl (.int .u64 bi) (fun b w hb hH => exec_load rfl rfl (reads_one ty_uint64 rfl) (hH.row 0 rfl) hb) ?_
    refine h_val rfl (.bool false) (fun b w hb hH => exec_cmp rfl rfl rfl (cmp_leq_f (by omega)) hb) ?_
    refine h_q hflS rfl ?_
    refine h_val rfl (.bool false) (fun b w hb hH => exec_cmp rfl rfl rfl (cmp_leq_f (by omega)) hb) ?_
    refine h_q hflS rfl ?_
    refine h_done (d_else rfl (d_skip (f_to (d_reg ?_))))
    refine h_q hflS rfl ?_
    refine h_val rfl (.int .u64 (x - 1)) (fun b w hb hH => exec_ar rfl rfl rfl rfl (IntWalk.u64_in _ (by omega)) hb) ?_
    refine h_act (post := fun _ => [cell g 67 #[.int .u64 bi, .int .u64 bt, .int .i64 bc, v, .int .i64 (f : Int), .int .i64 (es.length : Int)], Vec 32 5 encV v sl, Each dat sl]) rfl (a_does (os' := fun _ => [cell g 67 #[.int .u64 bi, .int .u64 bt, .int .i64 bc, v, .int .i64 (f : Int), .int .i64 (es.length : Int)], Vec 32 5 encV v sl, Each dat sl]) [0] 0 (ent_of Try.func36 (by kernel_rfl) rfl) (upTo_any g bi bt bc v (f : Int) es.length (x - 1) hb0 hm0 (by omega) q hq) rfl rfl rfl (fun _ => rfl) rfl rfl rfl) ?_; rintro ⟨⟩
    refine h_q hflS rfl ?_
    refine h_done (d_reg ?_)
    refine h_q hflS rfl ?_
    refine h_act (post := fun g8 => [cell g8 34 #[.slice none 0 0], cell g 67 #[.int .u64 bi, .int .u64 bt, .int .i64 bc, v, .int .i64 (f : Int), .int .i64 (es.length : Int)], Vec 32 5 encV v sl, Each dat sl]) rfl (a_alloc ze_s_api_Entry rfl) ?_; rintro g8
    refine h_done (d_seq (d_seq ?_))
    refine d_emps 1 rfl ?_
    refine d_parS 11 2 [⟨.quiet, [none, none], fun _ => .pointer (some ⟨g, 0, none⟩), []⟩, ⟨.quiet, [none, none], fun _ => .pointer (some ⟨g, 0, none⟩), [0]⟩, ⟨.quiet, [none, none], fun _ => .pointer (some ⟨g, 3, none⟩), [1]⟩, ⟨.quiet, [none, none], fun _ => .int .i64 (q : Int), []⟩, ⟨.quiet, [none, none], fun _ => .int .i64 most, []⟩, ⟨.quiet, [none, none], fun _ => .pointer (some ⟨g, 0, none⟩), []⟩, ⟨.actv 0, [some false, some false], fun _ => .int .i64 (es.length : Int), [5]⟩, ⟨.quiet, [none, none], fun _ => .int .i64 (q : Int), []⟩, ⟨.quiet, [some true, none], fun _ => .int .i64 ((es.length - q : Nat) : Int), [6, 7]⟩, ⟨.quiet, [some true, none], fun _ => .int .i64 (m : Int), [4, 8]⟩, ⟨.act 1, [some true, some false], fun _ => undef, [2, 3, 9]⟩] [(0, .pointer (some ⟨g, 0, none⟩)), (2, .int .i64 most), (6, .slice none 0 0), (7, .int .i64 (q : Int)), (8, .pointer (some ⟨g8, 0, none⟩))] (fun ρ => match ρ with | [rq0, rq1] => [selS rq1 (fun fv => PtT fv g (q : Int) (m : Int)) (emp), cell g8 34 #[.slice none 0 0], cell g 67 #[.int .u64 bi, .int .u64 bt, .int .i64 bc, v, .int .i64 (f : Int), .int .i64 (es.length : Int)], Vec 32 5 encV v sl, Each dat sl] | _ => []) (by kernel_rfl) (by kernel_rfl) ⟨rfl, rfl, rfl, rfl, rfl, trivial⟩ rfl ?_ ?_
    · skip
      refine s_cons (by intro r0_ r1_; exact ⟨rfl, fun b w hH hb => exec_q1 hflS rfl hb⟩) ?_
      refine s_cons (by intro r0_ r1_; exact ⟨rfl, fun b w hH hb => by exact exec_nilCheck rfl rfl hb⟩) ?_
      refine s_cons (by intro r0_ r1_; exact ⟨rfl, fun b w hH hb => exec_q1 hflS rfl hb⟩) ?_
      refine s_cons (by intro r0_ r1_; exact ⟨rfl, fun b w hH hb => exec_q1 hflS rfl hb⟩) ?_
      refine s_cons (by intro r0_ r1_; exact ⟨rfl, fun b w hH hb => exec_q1 hflS rfl hb⟩) ?_
      refine s_cons (by intro r0_ r1_; exact ⟨rfl, fun b w hH hb => exec_q1 hflS rfl hb⟩) ?_
      refine s_cons (by exact ⟨rfl, Acts.su (a_does (os' := fun _ => [emp, cell g8 34 #[.slice none 0 0], cell g 67 #[.int .u64 bi, .int .u64 bt, .int .i64 bc, v, .int .i64 (f : Int), .int .i64 (es.length : Int)], Vec 32 5 encV v sl, Each dat sl]) [2] 0 (ent_of Try.func18 (by kernel_rfl) rfl) (len_any g bi bt bc v (f : Int) (es.length : Int)) rfl rfl rfl (fun _ => rfl) rfl rfl rfl) rfl⟩) ?_
      refine s_cons (by intro r0_ r1_; exact ⟨rfl, fun b w hH hb => exec_q1 hflS rfl hb⟩) ?_
      refine s_cons (by intro v0_ r1_; exact ⟨rfl, fun b w hH hb => exec_ar rfl rfl rfl rfl (by rw [IntWalk.i64_in _ (by omega)]; omega) hb⟩) ?_
      refine s_cons (by intro v0_ r1_; exact ⟨rfl, fun b w hH hb => exec_builtin2 rfl rfl (fun cs => (fun w cs => run_min2 (by omega) _ _ w cs) w cs) hb⟩) ?_
      refine s_cons (by intro v0_; exact ⟨rfl, Acts.s (a_does (os' := fun fv => [PtT fv g (q : Int) (m : Int), cell g8 34 #[.slice none 0 0], cell g 67 #[.int .u64 bi, .int .u64 bt, .int .i64 bc, v, .int .i64 (f : Int), .int .i64 (es.length : Int)], Vec 32 5 encV v sl, Each dat sl]) [0] 1 (ent_of Try.func55 (by kernel_rfl) rfl) (part_v g (q : Int) (m : Int)) rfl rfl rfl (fun _ => rfl) rfl rfl rfl) (fun _ => rfl)⟩) ?_
      exact s_nil
    intro v0_ fv
    refine WL2.keep (env' := [(6, .slice none 0 0), (8, .pointer (some ⟨g8, 0, none⟩)), (35, fv)]) ⟨rfl, rfl, rfl, trivial⟩ ?_
    refine h_nil (f_to (d_block ?_))
    refine d_open 0 rfl PtT.open_ (fun _ => rfl) ?_; rintro ⟨⟨gn, gr, gk⟩, hfv⟩
    have hfv : fv = .func (.func 68) #[] #[.pointer (some ⟨gn, 0, none⟩), .pointer (some ⟨gr, 0, none⟩), .pointer (some ⟨gk, 0, none⟩)] := hfv
    subst hfv
    refine d_close [3, 6] rfl (enI_0 (l := es.drop q)) rfl ?_
    refine WC2.keep (env' := [(6, .slice none 0 0), (8, .pointer (some ⟨g8, 0, none⟩)), (35, .func (.func 68) #[] #[.pointer (some ⟨gn, 0, none⟩), .pointer (some ⟨gr, 0, none⟩), .pointer (some ⟨gk, 0, none⟩)])]) ⟨rfl, rfl, rfl, trivial⟩ ?_
    refine WC2.mid [EnI g8 sl (es.drop q) 0, cell gn 3 #[.int .i64 (m : Int)], cell gr 90 #[.pointer (some ⟨g, 3, none⟩)], cell gk 3 #[.int .i64 (q : Int)], cell g 67 #[.int .u64 bi, .int .u64 bt, .int .i64 bc, v, .int .i64 (f : Int), .int .i64 (es.length : Int)], Vec 32 5 encV v sl] (.refl _) ?_
    refine wp_rangeF (caps := [.pointer (some ⟨gn, 0, none⟩), .pointer (some ⟨gr, 0, none⟩), .pointer (some ⟨gk, 0, none⟩)]) (post := [EnI g8 sl (es.drop q) m, cell g 67 #[.int .u64 bi, .int .u64 bt, .int .i64 bc, v, .int .i64 (f : Int), .int .i64 (es.length : Int)], Vec 32 5 encV v sl, cell gn 3 #[.int .i64 (m : Int)], cell gr 90 #[.pointer (some ⟨g, 3, none⟩)], cell gk 3 #[.int .i64 (q : Int)]]) (os' := [EnI g8 sl (es.drop q) m, cell g 67 #[.int .u64 bi, .int .u64 bt, .int .i64 bc, v, .int .i64 (f : Int), .int .i64 (es.length : Int)], Vec 32 5 encV v sl, cell gn 3 #[.int .i64 (m : Int)], cell gr 90 #[.pointer (some ⟨g, 3, none⟩)], cell gk 3 #[.int .i64 (q : Int)]]) (.normal) [0, 4, 5, 1, 2, 3] rfl (ent_of Try.func68 (by kernel_rfl) rfl) (fun L1 fn1 tm1 hf1 r1 k11 k12 k13 k14 k15 k16 => it_in (part1 (.yield L1) #[] gn gr gk g bi bt bc v sl f q m (es.length : Int) (by omega) hfm hsz (fun i => recI L1 r1 (EnI g8 sl (es.drop q) i)) ?_)) rfl rfl rfl ?_
    · skip
      intro i x hi hx
      refine rd_in (doesF_round (n := 43) (env := [(36, .agg #[.int .i64 x.e.k, .int .u64 x.e.t, .int .u64 x.e.i, x.v, .int .i64 x.e.c]), (6, .slice none 0 0), (8, .pointer (some ⟨g8, 0, none⟩)), (35, .func (.func 68) #[] #[.pointer (some ⟨gn, 0, none⟩), .pointer (some ⟨gr, 0, none⟩), .pointer (some ⟨gk, 0, none⟩)])]) (.normal) k12 k11 (by rw [k14]; rfl) ?_ ?_)
      · rw [k14, k13]
        refine (congrArg (fun t => Fr 43 { tmps := t, defers := [] } _) (?_ : _ = (tm1.setIfInBounds 36 (.agg #[.int .i64 x.e.k, .int .u64 x.e.t, .int .u64 x.e.i, x.v, .int .i64 x.e.c])))).mpr (hf1.put (d := 36) (by decide) _)
        simp
      · intro w0 rs
        rw [k15]
        refine r_reg (by kernel_rfl) (by rintro ⟨a, w, h⟩; first | exact h.elim | exact nomatch h.1 | (obtain ⟨_, h, _⟩ := h; exact nomatch h)) ?_
        refine h_q hflS rfl ?_
        refine h_act (post := fun g1 => [cell g1 32 #[.int .i64 0, .int .u64 0, .int .u64 0, .slice none 0 0, .int .i64 0], recT L1 r1, EnI g8 sl (es.drop q) i]) rfl (a_alloc ze_api_Entry rfl) ?_; rintro g1
        refine h_acts (post := fun _ => [cell g1 32 #[.int .i64 x.e.k, .int .u64 x.e.t, .int .u64 x.e.i, x.v, .int .i64 x.e.c], recT L1 r1, EnI g8 sl (es.drop q) i]) rfl rfl (a_store 0 (v := .agg #[.int .i64 x.e.k, .int .u64 x.e.t, .int .u64 x.e.i, x.v, .int .i64 x.e.c]) #[.int .i64 x.e.k, .int .u64 x.e.t, .int .u64 x.e.i, x.v, .int .i64 x.e.c] ty_api_Entry.2 rfl rfl rfl rfl rfl rfl rfl rfl rfl) ?_; rintro ⟨⟩
        refine h_nil ?_
        refine r_begin 1 rfl k11 ?_
        rw [k16]
        refine r_open 2 rfl EnI.open_ (fun _ => rfl) ?_; rintro o
        refine WCR.fact 3 rfl (fun _ h => h.2) ?_; rintro ho
        refine WCR.leave [3] rfl rfl ?_
        have he := hR.isk (q := q) (by omega) hx
        have hol : o.l.length = i := by have := congrArg List.length ho; rw [List.length_map, List.length_take, List.length_drop] at this; omega
        have hxd : x.e.d.length ≤ 128 := dat_len (hI.at_ (k := q + i) (by rw [← List.getElem?_drop]; exact he)).2.1
        refine r_open 1 rfl ents_open (fun _ => rfl) ?_; rintro ⟨⟩
        refine r_block ?_
        refine r_emps 2 rfl ?_
        refine r_parS (by rintro ⟨a, w, h⟩; first | exact h.elim | exact nomatch h.1 | (obtain ⟨_, h, _⟩ := h; exact nomatch h)) 5 3 [⟨.quiet, [none, none, none], fun _ => o.v, []⟩, ⟨.quiet, [none, none, none], fun _ => .agg #[.int .i64 x.e.k, .int .u64 x.e.t, .int .u64 x.e.i, x.v, .int .i64 x.e.c], []⟩, ⟨.act 0, [some false, some false, some false], fun _ => undef, [1]⟩, ⟨.act 1, [some true, some false, some false], fun _ => undef, [2]⟩, ⟨.act 2, [some true, some true, some false], fun _ => undef, [0, 3]⟩] [(6, .slice none 0 0), (8, .pointer (some ⟨g8, 0, none⟩)), (9, .pointer (some ⟨g1, 0, none⟩))] (fun ρ => match ρ with | [rq0, rq1, rq2] => [selS rq1 (fun u2 => selS rq0 (fun cv => Vec 32 5 encV u2 ([(entO x.e cv)])) (emp)) (emp), selS rq0 (fun cv => CpT cv x.e) (emp), selS rq2 (fun ev2 => selS rq0 (fun cv => Vec 32 5 encV ev2 (o.l ++ [(entO x.e cv)])) (emp)) (Vec 32 5 encV o.v o.l), Each (fun x : EntV => Vec 5 1 encB x.v x.e.d) o.l, cell g8 34 #[o.v], Each dat sl, cell g1 32 #[.int .i64 x.e.k, .int .u64 x.e.t, .int .u64 x.e.i, x.v, .int .i64 x.e.c], recT L1 (busyR r1)] | _ => []) (by kernel_rfl) (by kernel_rfl) (by kernel_rfl) ⟨rfl, rfl, rfl, trivial⟩ rfl ?_ ?_
        · skip
          refine s_cons (by intro r0_ r1_ r2_; exact ⟨rfl, fun b w hH hb => exec_load rfl rfl (reads_one ty_s_api_Entry rfl) (hH.row 4 rfl) hb⟩) ?_
          refine s_cons (by intro r0_ r1_ r2_; exact ⟨rfl, fun b w hH hb => exec_load rfl rfl (reads_agg (cs := [.int .i64 x.e.k, .int .u64 x.e.t, .int .u64 x.e.i, x.v, .int .i64 x.e.c]) ty_api_Entry rfl) (hH.row 6 rfl) hb⟩) ?_
          refine s_cons (by exact ⟨rfl, Acts.s (a_does (os' := fun cv => [emp, CpT cv x.e, Vec 32 5 encV o.v o.l, Each (fun x : EntV => Vec 5 1 encB x.v x.e.d) o.l, cell g8 34 #[o.v], Each dat sl, cell g1 32 #[.int .i64 x.e.k, .int .u64 x.e.t, .int .u64 x.e.i, x.v, .int .i64 x.e.c], recT L1 (busyR r1)]) [5, 1] 1 (ent_of Try.func56 (by kernel_rfl) rfl) (copied_v (Each dat sl) x (dat_rd8 hx) (by omega)) rfl rfl rfl (fun _ => rfl) rfl rfl rfl) (fun _ => rfl)⟩) ?_
          refine s_cons (by intro cv; exact ⟨rfl, Acts.s (Acts.place (val := fun u2 : Value => u2) (t := fun u2 => Vec 32 5 encV u2 ([(entO x.e cv)])) (os' := fun u2 => [Vec 32 5 encV u2 ([(entO x.e cv)]), CpT cv x.e, Vec 32 5 encV o.v o.l, Each (fun x : EntV => Vec 5 1 encB x.v x.e.d) o.l, cell g8 34 #[o.v], Each dat sl, cell g1 32 #[.int .i64 x.e.k, .int .u64 x.e.t, .int .u64 x.e.i, x.v, .int .i64 x.e.c], recT L1 (busyR r1)]) 0 rfl (a_buildF 1 rfl sl_api_Entry (by decide) okV (entO x.e cv) CpT.cells rfl rfl) (fun _ => rfl)) (fun _ => rfl)⟩) ?_
          refine s_cons (by intro cv u2; exact ⟨rfl, Acts.s (a_appendK (nb := 56) 2 sl_api_Entry okV (by kernel_rfl) (by decide) rfl ([(entO x.e cv)]) (fun w hH => hH.vec 0 rfl okV) (by simp only [List.length_cons, List.length_nil]; omega) rfl rfl rfl rfl) (fun _ => rfl)⟩) ?_
          exact s_nil
        intro cv u2 ev2
        refine WL2.keep (env' := [(6, .slice none 0 0), (8, .pointer (some ⟨g8, 0, none⟩)), (41, ev2)]) ⟨rfl, rfl, rfl, trivial⟩ ?_
        refine h_q hflS rfl ?_
        refine h_acts (post := fun _ => [Vec 32 5 encV u2 ([(entO x.e cv)]), CpT cv x.e, Vec 32 5 encV ev2 (o.l ++ [(entO x.e cv)]), Each (fun x : EntV => Vec 5 1 encB x.v x.e.d) o.l, cell g8 34 #[ev2], Each dat sl, cell g1 32 #[.int .i64 x.e.k, .int .u64 x.e.t, .int .u64 x.e.i, x.v, .int .i64 x.e.c], recT L1 (busyR r1)]) rfl rfl (a_storev 4 2 (v := ev2) #[ev2] ty_s_api_Entry.2 rfl (fun _ h => Vec.c1 h) rfl rfl rfl rfl rfl rfl rfl) ?_; rintro ⟨⟩
        refine h_nil (f_block ?_)
        refine WE2.leave [0] rfl rfl ?_
        refine f_open 0 rfl CpT.open_ (fun _ => rfl) ?_; rintro ⟨⟩
        refine f_close [1, 2, 0] rfl ents_push2 rfl ?_
        refine f_close [1, 0, 2] rfl (enI_mk (x := ⟨ev2, o.l ++ [(entO x.e cv)]⟩) (by rw [List.map_append, ho, List.take_add_one, he]; simp [entO_e])) rfl ?_
        exact r_tell [2, 0] rfl rfl
    intro D aT wT hDm hD0 hdf hF hH
    obtain ⟨o, hH⟩ := hp_open 0 rfl EnI.open_ hH
    have ho := thing_is (p := (o.l.map (·.e) = (es.drop q).take m)) 3 rfl (fun _ h => h.2) hH
    refine t_to (env := [(6, .slice none 0 0), (8, .pointer (some ⟨g8, 0, none⟩))]) (os := [cell g8 34 #[o.v], Ents 32 o.v o.l, Each dat sl, fact (o.l.map (·.e) = (es.drop q).take m), cell g 67 #[.int .u64 bi, .int .u64 bt, .int .i64 bc, v, .int .i64 (f : Int), .int .i64 (es.length : Int)], Vec 32 5 encV v sl, cell gn 3 #[.int .i64 (m : Int)], cell gr 90 #[.pointer (some ⟨g, 3, none⟩)], cell gk 3 #[.int .i64 (q : Int)]]) ?_ aT wT hDm hD0 hdf (hF.keep ⟨rfl, rfl, trivial⟩) hH
    refine t_reg ?_
    refine t_val rfl (o.v) (fun b w hb hH => exec_load rfl rfl (reads_one ty_s_api_Entry rfl) (hH.row 0 rfl) hb) ?_
    refine t_val rfl (o.v) (fun b w hb hH => exec_q1 hflS rfl hb) ?_
    refine t_done ?_
    refine WCT.keep (env' := [(6, o.v)]) ⟨rfl, trivial⟩ ?_
    exact t_ret (fun a w hD hD0 hd hF hH => m_fin1 (os := [cell g8 34 #[o.v], Ents 32 o.v o.l, Each dat sl, fact (o.l.map (·.e) = (es.drop q).take m), cell g 67 #[.int .u64 bi, .int .u64 bt, .int .i64 bc, v, .int .i64 (f : Int), .int .i64 (es.length : Int)], Vec 32 5 encV v sl, cell gn 3 #[.int .i64 (m : Int)], cell gr 90 #[.pointer (some ⟨g, 3, none⟩)], cell gk 3 #[.int .i64 (q : Int)]]) (.tmp rfl) rfl (fun w' h => tells (X := EsV) (val := fun o => o.v) (post := fun o => [cell g 67 #[.int .u64 bi, .int .u64 bt, .int .i64 bc, v, .int .i64 (f : Int), .int .i64 (es.length : Int)], Vec 32 5 encV v sl, Each dat sl, Ents 32 o.v o.l, fact (o.l.map (·.e) = partM bi es x most)]) (os := [cell g8 34 #[o.v], Ents 32 o.v o.l, Each dat sl, fact (o.l.map (·.e) = (es.drop q).take m), cell g 67 #[.int .u64 bi, .int .u64 bt, .int .i64 bc, v, .int .i64 (f : Int), .int .i64 (es.length : Int)], Vec 32 5 encV v sl, cell gn 3 #[.int .i64 (m : Int)], cell gr 90 #[.pointer (some ⟨g, 3, none⟩)], cell gk 3 #[.int .i64 (q : Int)]]) o rfl [4, 5, 2, 1] rfl h (fun z hz => ⟨z, .refl _, fact_add (xs := [_, _, _, _]) (by rw [ho]; exact hlq) hz⟩)) D a w hD hD0 hd hF hH)
end Go.Proofs.Ytnebloeideodmaa.Sep

namespace Go.Proofs.Ytnebloeideodmaa.Sep
open Go.RowKit
open Go.Proofs.Ytnebloeideodmaa.Mem (Dist Blk Chg below0)

/-- entries of one's own, of which only what they tell is known -/
def EnT (v : Value) (l : List EntD) : Ass := fun rs => ∃ L : List EntV, L.map (·.e) = l ∧ Ents 32 v L rs
theorem EnT.open_ {v : Value} {l : List EntD} : ∀ rs, EnT v l rs → ∃ L : { L : List EntV // L.map (·.e) = l }, Parts [Ents 32 v L.1] rs := fun _ ⟨L, h, hr⟩ => ⟨⟨L, h⟩, Parts.one hr⟩
theorem EnT.open2 {v : Value} {l : List EntD} : ∀ rs, EnT v l rs → ∃ L : { L : List EntV // L.map (·.e) = l }, Parts [Vec 32 5 encV v L.1, Each dat L.1] rs := fun _ ⟨L, h, hr⟩ => ⟨⟨L, h⟩, hr⟩
theorem EnT.len {v : Value} {l : List EntD} : ∀ rs, EnT v l rs → ∃ A c, v = .slice A l.length c := fun rs ⟨L, h, a, b, e, h1, h2⟩ => by
  obtain ⟨A, c, rfl⟩ := h1.is
  exact ⟨A, c, by rw [← h, List.length_map]⟩
theorem EnT.c1 {v : Value} {l : List EntD} : ∀ rs, EnT v l rs → v.cells = #[v] ∧ v.oneCell' = true := fun rs h => by
  obtain ⟨A, c, rfl⟩ := EnT.len rs h
  exact ⟨rfl, rfl⟩
theorem entries_v (g : Nat) (bi bt bc : Int) (es : List EntD) (hI : InvL bi bt es) (v : Value) (sl : List EntV) (f : Nat) (hR : RingD sl f es) (x most : Int) (hx : 0 ≤ x ∧ x ≤ 18446744073709551615) (hmo : -9223372036854775808 ≤ most ∧ most ≤ 9223372036854775807) (hes : es.length * 56 ≤ 140737488351232) (l : List EntD) (hl : partM bi es x most = l) : Does Try.prog 26 #[.pointer (some ⟨g, 0, none⟩), .int .u64 x, .int .i64 most] [cell g 67 #[.int .u64 bi, .int .u64 bt, .int .i64 bc, v, .int .i64 (f : Int), .int .i64 (es.length : Int)], Vec 32 5 encV v sl, Each dat sl] (fun ev : Value => ev) (fun ev => [cell g 67 #[.int .u64 bi, .int .u64 bt, .int .i64 bc, v, .int .i64 (f : Int), .int .i64 (es.length : Int)], Vec 32 5 encV v sl, Each dat sl, EnT ev l]) := fun w rs hp hr hd => by
  subst hl
  refine (entries_any g bi bt bc es hI v sl f hR x most hx hmo hes w rs hp hr hd).mono ?_
  rintro e w' ⟨o, he, rs', ⟨a, b, e1, h1, c, d, e2, h2, p, q, e3, h3, y, z, e4, h4, h5⟩, hc⟩
  obtain ⟨y2, z2, e5, ⟨h6, h7⟩, h8⟩ := h5
  subst h6
  have h8 : z2 = [] := h8
  subst h8
  have : z = [] := by simpa using e5
  subst this
  exact ⟨_, he, rs', ⟨a, b, e1, h1, c, d, e2, h2, p, q, e3, h3, y, [], e4, ⟨o.l, h7, h4⟩, rfl⟩, hc⟩
theorem partM_all {bi : Int} {es : List EntD} {most : Int} (h : (es.length : Int) ≤ most) : partM bi es (bi + 1) most = es := by
  unfold partM
  split
  · rename_i h1
    have : es.length = 0 := by omega
    rw [List.length_eq_zero_iff.1 this]
  · rw [show bi + 1 - 1 = bi by omega, show upM bi es.length bi = 0 by unfold upM; omega, List.drop_zero, List.take_of_length_le (by omega)]
theorem map_at {L : List EntV} {l : List EntD} {i : Nat} {x : EntV} (h : L.map (·.e) = l) (hx : L[i]? = some x) : l[i]? = some x.e := by rw [← h, List.getElem?_map, hx]; rfl
end Go.Proofs.Ytnebloeideodmaa.Sep
