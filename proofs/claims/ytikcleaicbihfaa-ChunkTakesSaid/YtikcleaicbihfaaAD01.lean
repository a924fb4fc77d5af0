/-
  ParO · ParE · Mem
-/
import Derived.Test.YtikcleaicbihfaaAA03
set_option linter.unusedSimpArgs false
set_option linter.unusedVariables false

namespace Go.Proofs.Ytikcleaicbihfaa
open Go.RowKit
section main
variable {P : Program} {ops : Array Oper} {Q : Exit → Act → World → Prop} {n B : Nat} {jobs : List Job} {env0 : List (Nat × Value)} {Φ : Nat → List Value → World → Prop} {D m : Nat}
end main
section par3
variable {P : Program} {ops : Array Oper} {Q : Exit → Act → World → Prop} {n B : Nat} {w0 : World} {rs : List RowT} {env : List (Nat × Value)}
theorem WA2.keep {f : Nat} {env' : List (Nat × Value)} {listed : Array Bool} (hs : Sub env env') (h : WA2 P ops Q n env' B w0 rs f listed) : WA2 P ops Q n env B w0 rs f listed := fun a w hF hH => h a w (hF.keep hs) hH
end par3
end Go.Proofs.Ytikcleaicbihfaa

namespace Go.Proofs.Ytikcleaicbihfaa
open Go.RowKit
/-- P holds of each part of out, listed one by one -/
def AllSubs : List Nat → (List Nat → Prop) → Prop
  | [], P => P []
  | x :: xs, P => AllSubs xs P ∧ AllSubs xs fun l => P (x :: l)
theorem AllSubs.filter {c : Nat → Bool} : ∀ {out : List Nat} {P : List Nat → Prop}, AllSubs out P → P (out.filter c)
  | [], _, h => h
  | x :: xs, P, h => by
    cases hc : c x with
    | true => rw [List.filter_cons_of_pos hc]; exact AllSubs.filter (P := fun l => P (x :: l)) h.2
    | false => rw [List.filter_cons_of_neg (by rw [hc]; simp)]; exact AllSubs.filter (P := P) h.1
section par4
variable {P : Program} {ops : Array Oper} {Q : Exit → Act → World → Prop} {n B : Nat} {w0 : World} {rs : List RowT} {env : List (Nat × Value)}
end par4
end Go.Proofs.Ytikcleaicbihfaa

namespace Go.Proofs.Ytikcleaicbihfaa.Mem
open Go.RowKit
def Dist : List RowT → Prop
  | [] => True
  | x :: r => (∀ y ∈ r, y.1 ≠ x.1) ∧ Dist r
/-- the blocks of rows -/
def Blk (a : List RowT) : Nat → Prop := fun k => ∃ x ∈ a, x.1 = k
structure Hp (B : Nat → Prop) (w0 w : World) (rs : List RowT) : Prop where
  up : Mod B w0 w
  rows : RowsOf w rs
  apart : Dist rs
  own : ∀ x ∈ rs, x.1 < w0.heap.size → B x.1
section hp
variable {B : Nat → Prop} {w0 w w' : World} {rs : List RowT}
theorem Dist.set : ∀ {rs : List RowT} {i : Nat} {c : Array Value}, Dist rs → Dist (setRowT rs i c)
  | [], _, _, _ => trivial
  | (g, t, _) :: r, 0, c, h => h
  | x :: r, i + 1, c, h => ⟨fun y hy => by obtain ⟨z, hz, e⟩ := setRowT_mem y hy; rw [← e]; exact h.1 z hz, Dist.set h.2⟩
theorem Dist.drop : ∀ {rs : List RowT} (k : Nat), Dist rs → Dist (rs.drop k)
  | _, 0, h => h
  | [], k + 1, _ => trivial
  | x :: r, k + 1, h => Dist.drop (rs := r) k h.2
theorem Dist.at_ : ∀ {rs : List RowT}, Dist rs → ∀ {i j : Nat} {x y : RowT}, rs[i]? = some x → rs[j]? = some y → i ≠ j → x.1 ≠ y.1
  | [], _, i, j, x, y, hi, _, _ => by simp at hi
  | z :: r, h, 0, 0, x, y, _, _, hn => absurd rfl hn
  | z :: r, h, 0, j + 1, x, y, hi, hj, _ => by
    simp only [List.getElem?_cons_zero, Option.some.injEq] at hi
    simp only [List.getElem?_cons_succ] at hj
    subst hi
    exact Ne.symm (h.1 y (List.mem_of_getElem? hj))
  | z :: r, h, i + 1, 0, x, y, hi, hj, _ => by
    simp only [List.getElem?_cons_zero, Option.some.injEq] at hj
    simp only [List.getElem?_cons_succ] at hi
    subst hj
    exact h.1 x (List.mem_of_getElem? hi)
  | z :: r, h, i + 1, j + 1, x, y, hi, hj, hn => by
    simp only [List.getElem?_cons_succ] at hi hj
    exact Dist.at_ h.2 hi hj (by omega)
theorem Hp.start (w : World) : Hp Nil w w [] := ⟨Mod.refl _ w, trivial, trivial, fun x hx => by simp at hx⟩
/-- the rows that a function is given -/
theorem Hp.given {a : List RowT} (h : RowsOf w a) (hd : Dist a) : Hp (Blk a) w w a := ⟨Mod.refl _ w, h, hd, fun x hx _ => ⟨x, hx, rfl⟩⟩
theorem Hp.row (h : Hp B w0 w rs) (i : Nat) {g : Nat} {t : TypeId} {cs : Array Value} (hi : rs[i]? = some (g, tyR t, cs)) : Row w g t cs := h.rows.at_ i g t cs hi
theorem Hp.call (h : Hp B w0 w rs) (hb : Below w.heap.size w w') : Hp B w0 w' rs := ⟨h.up.trans (T := Nil) (Mod.of_below hb Nil) (fun _ _ hf => hf.elim), h.rows.map_ fun _ _ r => r.old hb, h.apart, h.own⟩
theorem Hp.new (h : Hp B w0 w rs) (t : TypeId) (cs : Array Value) : Hp B w0 (w.alloc (.cells cs t)) ((w.heap.size, tyR t, cs) :: rs) :=
  ⟨h.up.alloc _, ⟨Row.new w t cs, h.rows.map_ fun _ _ r => r.alloc _⟩, ⟨fun y hy => by have := (h.rows.mem y hy).lt; show y.1 ≠ w.heap.size; omega, h.apart⟩, fun x hx hlt => by
    rcases List.mem_cons.1 hx with rfl | hx
    · have := h.up.size; exact absurd hlt (by show ¬ w.heap.size < w0.heap.size; omega)
    · exact h.own x hx hlt⟩
theorem Hp.set (h : Hp B w0 w rs) : ∀ (i : Nat) {g : Nat} {t : TypeId} {cs c : Array Value}, rs[i]? = some (g, tyR t, cs) → Mod (One g) w w' → Row w' g t c → Hp B w0 w' (setRowT rs i c) := by
  intro i g t cs c hi hm hR
  have hmem : (g, tyR t, cs) ∈ rs := List.mem_of_getElem? hi
  refine ⟨h.up.trans hm (fun j hj e => by unfold One at e; subst e; exact h.own _ hmem hj), ?_, h.apart.set, fun x hx hlt => ?_⟩
  · have key : ∀ {rs : List RowT} (i : Nat), RowsOf w rs → Dist rs → rs[i]? = some (g, tyR t, cs) → RowsOf w' (setRowT rs i c) := by
      intro rs
      induction rs with
      | nil => intro i _ _ hi; simp at hi
      | cons x r ih =>
        intro i hr ha hi
        obtain ⟨g', t', cs'⟩ := x
        cases i with
        | zero =>
          simp only [List.getElem?_cons_zero, Option.some.injEq, Prod.mk.injEq] at hi
          obtain ⟨rfl, rfl, rfl⟩ := hi
          exact ⟨hR, hr.2.map_ fun y hy r => r.mod_ne hm (ha.1 y hy)⟩
        | succ i =>
          simp only [List.getElem?_cons_succ] at hi
          refine ⟨hr.1.mod_ne hm (fun e => ?_), ih i hr.2 ha.2 hi⟩
          exact ha.1 _ (List.mem_of_getElem? hi) e.symm
    exact key i h.rows h.apart hi
  · obtain ⟨z, hz, e⟩ := setRowT_mem x hx
    rw [← e] at hlt ⊢
    exact h.own z hz hlt
theorem Hp.drew (h : Hp B w0 w rs) : Hp B w0 w.drew rs := ⟨h.up.drew, h.rows.map_ fun _ _ r => r.drew, h.apart, h.own⟩
theorem Hp.drop (h : Hp B w0 w rs) (k : Nat) : Hp B w0 w (rs.drop k) := ⟨h.up, h.rows.drop k, h.apart.drop k, fun x hx => h.own x (List.mem_of_mem_drop hx)⟩
/-- nothing that stood before has changed -/
theorem below0 {a b : World} (h : Mod Nil a b) : Below a.heap.size a b := h.below (Nat.le_refl _) (fun _ hf => hf.elim)
end hp

/-! ## Some of the rows, and the others -/
def sel (ids : List Nat) (rs : List RowT) : List RowT := ids.filterMap (rs[·]?)
def rstFrom (ids : List Nat) : Nat → List RowT → List RowT
  | _, [] => []
  | k, x :: r => if ids.elem k then rstFrom ids (k + 1) r else x :: rstFrom ids (k + 1) r
def rst (ids : List Nat) (rs : List RowT) : List RowT := rstFrom ids 0 rs
section parts
variable {w : World} {rs : List RowT} {ids : List Nat}
theorem sel_at {x : RowT} (h : x ∈ sel ids rs) : ∃ i ∈ ids, rs[i]? = some x := by
  obtain ⟨i, hi, e⟩ := List.mem_filterMap.1 h
  exact ⟨i, hi, e⟩
theorem rstFrom_at : ∀ {rs : List RowT} {k : Nat} {x : RowT}, x ∈ rstFrom ids k rs → ∃ i, k + i ∉ ids ∧ rs[i]? = some x
  | [], _, _, h => by simp [rstFrom] at h
  | y :: r, k, x, h => by
    unfold rstFrom at h
    by_cases hk : ids.elem k
    · rw [if_pos hk] at h
      obtain ⟨i, h1, h2⟩ := rstFrom_at h
      exact ⟨i + 1, by rwa [show k + (i + 1) = k + 1 + i by omega], by simpa using h2⟩
    · rw [if_neg hk] at h
      rcases List.mem_cons.1 h with rfl | h
      · exact ⟨0, by simpa using hk, rfl⟩
      · obtain ⟨i, h1, h2⟩ := rstFrom_at h
        exact ⟨i + 1, by rwa [show k + (i + 1) = k + 1 + i by omega], by simpa using h2⟩
theorem RowsOf.ofAll : ∀ {l : List RowT}, (∀ x ∈ l, RowX w x) → RowsOf w l
  | [], _ => trivial
  | (g, t, cs) :: r, h => ⟨h (g, t, cs) (by simp), RowsOf.ofAll fun x hx => h x (by simp [hx])⟩
theorem sel_rows (h : RowsOf w rs) : RowsOf w (sel ids rs) := RowsOf.ofAll fun x hx => by
  obtain ⟨i, _, e⟩ := sel_at hx
  exact h.mem x (List.mem_of_getElem? e)
theorem rst_rows (h : RowsOf w rs) : RowsOf w (rst ids rs) := RowsOf.ofAll fun x hx => by
  obtain ⟨i, _, e⟩ := rstFrom_at hx
  exact h.mem x (List.mem_of_getElem? e)
theorem rstFrom_dist : ∀ {rs : List RowT} {k : Nat}, Dist rs → Dist (rstFrom ids k rs)
  | [], _, _ => trivial
  | y :: r, k, h => by
    unfold rstFrom
    split
    · exact rstFrom_dist h.2
    · refine ⟨fun z hz => ?_, rstFrom_dist h.2⟩
      obtain ⟨i, _, e⟩ := rstFrom_at hz
      exact h.1 z (List.mem_of_getElem? e)
theorem sel_dist : ∀ {ids : List Nat}, ids.Nodup → Dist rs → Dist (sel ids rs)
  | [], _, _ => trivial
  | i :: r, hn, h => by
    have hn' := List.nodup_cons.1 hn
    have hr := sel_dist hn'.2 h
    unfold sel at hr ⊢
    cases hi : rs[i]? with
    | none => simpa [List.filterMap_cons, hi] using hr
    | some x =>
      simp only [List.filterMap_cons, hi]
      refine ⟨fun y hy => ?_, hr⟩
      obtain ⟨j, hj, e⟩ := sel_at hy
      exact h.at_ e hi (fun e' => hn'.1 (e' ▸ hj))
theorem dist_app : ∀ {a b : List RowT}, Dist a → Dist b → (∀ x ∈ a, ∀ y ∈ b, y.1 ≠ x.1) → Dist (a ++ b)
  | [], _, _, hb, _ => hb
  | x :: r, b, ha, hb, h => ⟨fun y hy => by
      rcases List.mem_append.1 hy with hy | hy
      · exact ha.1 y hy
      · exact h x (by simp) y hy, dist_app ha.2 hb fun z hz => h z (by simp [hz])⟩
end parts
/-- from the rows a to the rows b: nothing else that stood has changed -/
structure Chg (w w' : World) (a b : List RowT) : Prop where
  mod : Mod (Blk a) w w'
  rows : RowsOf w' b
  dist : Dist b
  from_ : ∀ x ∈ b, x.1 < w.heap.size → Blk a x.1
section chg
variable {B : Nat → Prop} {w0 w w' : World} {rs a b : List RowT}
/-- a call that writes through some of the rows -/
theorem Hp.chg (h : Hp B w0 w rs) (ids : List Nat) (hc : Chg w w' (sel ids rs) b) : Hp B w0 w' (b ++ rst ids rs) := by
  have hsel : ∀ x ∈ sel ids rs, x ∈ rs := fun x hx => by obtain ⟨i, _, e⟩ := sel_at hx; exact List.mem_of_getElem? e
  have hne : ∀ x ∈ sel ids rs, ∀ y ∈ rst ids rs, y.1 ≠ x.1 := fun x hx y hy => by
    obtain ⟨i, hi, e⟩ := sel_at hx
    obtain ⟨j, hj, e'⟩ := rstFrom_at hy
    rw [Nat.zero_add] at hj
    exact h.apart.at_ e' e (fun e => hj (e ▸ hi))
  have hnb : ∀ y ∈ rst ids rs, ¬ Blk (sel ids rs) y.1 := fun y hy ⟨x, hx, e⟩ => hne x hx y hy e.symm
  have hold : ∀ y ∈ rst ids rs, RowX w y := fun y hy => (rst_rows (ids := ids) h.rows).mem y hy
  refine ⟨h.up.trans hc.mod (fun j hj ⟨x, hx, e⟩ => e ▸ h.own x (hsel x hx) (e ▸ hj)), ?_, ?_, ?_⟩
  · exact RowsOf.ofAll fun x hx => by
      rcases List.mem_append.1 hx with hx | hx
      · exact hc.rows.mem x hx
      · exact (hold x hx).mod hc.mod (hnb x hx)
  · refine dist_app hc.dist (rstFrom_dist h.apart) fun x hx y hy e => ?_
    have hlt := (hold y hy).lt
    rw [e] at hlt
    exact hnb y hy (e ▸ hc.from_ x hx hlt)
  · intro x hx hlt
    rcases List.mem_append.1 hx with hx | hx
    · have := h.up.size
      obtain ⟨y, hy, e⟩ := hc.from_ x hx (by omega)
      exact e ▸ h.own y (hsel y hy) (e ▸ hlt)
    · obtain ⟨j, _, e'⟩ := rstFrom_at hx
      exact h.own x (List.mem_of_getElem? e') hlt
/-- what a function that was given the rows a tells at its end: the rows named -/
theorem Hp.tell (h : Hp (Blk a) w0 w rs) (ids : List Nat) (hn : ids.Nodup) : Chg w0 w a (sel ids rs) := ⟨h.up, sel_rows h.rows, sel_dist hn h.apart, fun x hx hlt => by
  obtain ⟨i, _, e⟩ := sel_at hx
  exact h.own x (List.mem_of_getElem? e) hlt⟩
end chg
/-- from any frame that holds env and any world with the rows rs, the operations l -/
def WL2 (P : Program) (ops : Array Oper) (Q : Exit → Act → World → Prop) (n : Nat) (env : List (Nat × Value)) (B : Nat → Prop) (w0 : World) (rs : List RowT) (l : List Oper) : Prop := ∀ a w, Fr n a env → Hp B w0 w rs → wpList P ops Q l a w
def WC2 (P : Program) (Q : Exit → Act → World → Prop) (n : Nat) (env : List (Nat × Value)) (B : Nat → Prop) (w0 : World) (rs : List RowT) (c : Code) : Prop := ∀ a w, Fr n a env → Hp B w0 w rs → c.wp P Q a w
def WE2 (Q : Exit → Act → World → Prop) (n : Nat) (env : List (Nat × Value)) (B : Nat → Prop) (w0 : World) (rs : List RowT) (e : Exit) : Prop := ∀ a w, Fr n a env → Hp B w0 w rs → Q e a w

/-! ## What needs no memory, as much of it as stands in a row -/
section wl2
variable {P : Program} {ops : Array Oper} {Q : Exit → Act → World → Prop} {n : Nat} {B : Nat → Prop} {w0 : World} {rs rs' : List RowT} {env env' : List (Nat × Value)} {l rest : List Oper} {o : Oper} {d : Nat} {fl : List ((Nat × Nat) × Nat)}
theorem h_q (hfl : Flds P fl) : ∀ {l : List Oper} {env : List (Nat × Value)}, runQ fl ops n l env = some (env', rest) → WL2 P ops Q n env' B w0 rs rest → WL2 P ops Q n env B w0 rs l
  | [], env, h, hk => by
    simp only [runQ, Option.some.injEq, Prod.mk.injEq] at h
    obtain ⟨rfl, rfl⟩ := h
    exact hk
  | o :: r, env, h, hk => by
    unfold runQ at h
    cases hw : wants ops o env with
    | none =>
      simp only [hw, Option.some.injEq, Prod.mk.injEq] at h
      obtain ⟨rfl, rfl⟩ := h
      exact hk
    | some b =>
      cases b with
      | false =>
        simp only [hw] at h
        cases hd : o.dst with
        | none => simp [hd] at h
        | some d =>
          simp only [hd] at h
          cases hn : Nat.blt d n with
          | false => simp [hn] at h
          | true =>
            simp only [hn] at h
            exact fun a w hF hH => st_skip hF hw hd (blt_lt hn) fun b hb => h_q hfl h hk b w hb hH
      | true =>
        simp only [hw] at h
        cases hq : q1 fl o env with
        | none =>
          simp only [hq, Option.some.injEq, Prod.mk.injEq] at h
          obtain ⟨rfl, rfl⟩ := h
          exact hk
        | some v =>
          simp only [hq] at h
          cases hd : o.dst with
          | none => simp [hd] at h
          | some d =>
            simp only [hd] at h
            cases hn : Nat.blt d n with
            | false => simp [hn] at h
            | true =>
              simp only [hn] at h
              exact fun a w hF hH => st_q hF hw hd (blt_lt hn) v (fun b hb => exec_q1 hfl hq hb) fun b hb => h_q hfl h hk b w hb hH
theorem h_val (h1 : at1 ops n o env = some d) (v : Value) (hrun : ∀ b w, Fr n b env → Hp B w0 w rs → (execOp b.eval o).run P w = .ok (.value v) w) (h : WL2 P ops Q n ((d, v) :: env) B w0 rs rest) : WL2 P ops Q n env B w0 rs (o :: rest) :=
  fun a w hF hH => st_q hF (at1_parts h1).1 (at1_parts h1).2.1 (at1_parts h1).2.2 v (fun b hb => hrun b w hb hH) fun b hb => h b w hb hH
theorem h_nil (h : WE2 Q n env B w0 rs .normal) : WL2 P ops Q n env B w0 rs [] := h
theorem h_done {y : Code} (h : WC2 P Q n env B w0 rs y) : WL2 P ops (Exit.then (fun a w => y.wp P Q a w) Q) n env B w0 rs [] := h
theorem WL2.keep (hs : Sub env env') (h : WL2 P ops Q n env' B w0 rs l) : WL2 P ops Q n env B w0 rs l := fun a w hF hH => h a w (hF.keep hs) hH
theorem WC2.keep {c : Code} (hs : Sub env env') (h : WC2 P Q n env' B w0 rs c) : WC2 P Q n env B w0 rs c := fun a w hF hH => h a w (hF.keep hs) hH
theorem WE2.keep {e : Exit} (hs : Sub env env') (h : WE2 Q n env' B w0 rs e) : WE2 Q n env B w0 rs e := fun a w hF hH => h a w (hF.keep hs) hH
end wl2

section wc2
variable {P : Program} {Q : Exit → Act → World → Prop} {n : Nat} {B : Nat → Prop} {w0 : World} {rs : List RowT} {env : List (Nat × Value)}
theorem d_reg {id : Nat} {l : List Oper} {y : Code} (h : WL2 P l.toArray (Exit.then (fun a w => y.wp P Q a w) Q) n env B w0 rs l) : WC2 P Q n env B w0 rs (.seq (.region id l.toArray false) y) := fun a w hF hH => wp_seq (wp_region_lit (h a w hF hH))
theorem d_reg1 {id : Nat} {l : List Oper} (h : WL2 P l.toArray Q n env B w0 rs l) : WC2 P Q n env B w0 rs (.region id l.toArray false) := fun a w hF hH => wp_region_lit (h a w hF hH)
theorem d_seq {x y : Code} (h : WC2 P (Exit.then (fun a w => y.wp P Q a w) Q) n env B w0 rs x) : WC2 P Q n env B w0 rs (.seq x y) := fun a w hF hH => wp_seq (h a w hF hH)
theorem d_then {c : Operand} {x y : Code} (hc : evs env c = some (.bool true)) (h : WC2 P Q n env B w0 rs x) : WC2 P Q n env B w0 rs (.cond c x y) := fun a w hF hH => cd_then hF hc (h a w hF hH)
theorem d_else {c : Operand} {x y : Code} (hc : evs env c = some (.bool false)) (h : WC2 P Q n env B w0 rs y) : WC2 P Q n env B w0 rs (.cond c x y) := fun a w hF hH => cd_else hF hc (h a w hF hH)
theorem d_skip (h : WE2 Q n env B w0 rs .normal) : WC2 P Q n env B w0 rs .skip := fun a w hF hH => wp_skip (h a w hF hH)
theorem d_ret (h : WE2 Q n env B w0 rs .ret) : WC2 P Q n env B w0 rs .ret := fun a w hF hH => wp_ret (h a w hF hH)
theorem d_block {id : Nat} {c : Code} (h : WC2 P (Exit.inBlock id Q) n env B w0 rs c) : WC2 P Q n env B w0 rs (.block id c) := fun a w hF hH => wp_block (h a w hF hH)
theorem d_exit {id : Nat} (h : WE2 Q n env B w0 rs (.exit id)) : WC2 P Q n env B w0 rs (.exit id) := fun a w hF hH => wp_exit (h a w hF hH)
theorem f_to {y : Code} (h : WC2 P Q n env B w0 rs y) : WE2 (Exit.then (fun a w => y.wp P Q a w) Q) n env B w0 rs .normal := h
theorem f_block {id : Nat} (h : WE2 Q n env B w0 rs .normal) : WE2 (Exit.inBlock id Q) n env B w0 rs .normal := h
theorem f_then_ret {K : Act → World → Prop} (h : WE2 Q n env B w0 rs .ret) : WE2 (Exit.then K Q) n env B w0 rs .ret := h
theorem f_block_ret {id : Nat} (h : WE2 Q n env B w0 rs .ret) : WE2 (Exit.inBlock id Q) n env B w0 rs .ret := h
theorem f_then_exit {K : Act → World → Prop} {id : Nat} (h : WE2 Q n env B w0 rs (.exit id)) : WE2 (Exit.then K Q) n env B w0 rs (.exit id) := h
theorem f_block_exit {id : Nat} (h : WE2 Q n env B w0 rs .normal) : WE2 (Exit.inBlock id Q) n env B w0 rs (.exit id) := fun a w hF hH => (if_pos rfl).mpr (h a w hF hH)
variable {fn : Func} {R : Ending → World → Prop}
theorem Res2.res {r : ResultVar} {v : Value} {w : World} (h : Res2 P env rs r v) (hH : Hp B w0 w rs) : Res P env w r v := by
  cases h with
  | tmp h => exact .tmp h
  | cell i hv h hi => exact .cell h hv (hH.row i hi)
theorem res_of {r : ResultVar} {v : Value} {w : World} (h : Res2 P env rs r v) (hH : Hp B w0 w rs) : Res P env w r v := by
  cases h with
  | tmp h => exact .tmp h
  | cell i hv h hi => exact .cell h hv (hH.row i hi)
theorem f_fin1 {r1 : ResultVar} {v1 : Value} (h1 : Res2 P env rs r1 v1) (hR : ∀ w, Hp B w0 w rs → R (.returned v1) w) (hr : fn.results = #[r1]) : WE2 (bodyPost P fn R) n env B w0 rs .ret := fun _ w hF hH => fin1 hF hr (res_of h1 hH) (hR w hH)
theorem f_fin2 {r1 r2 : ResultVar} {v1 v2 : Value} (h1 : Res2 P env rs r1 v1) (h2 : Res2 P env rs r2 v2) (hR : ∀ w, Hp B w0 w rs → R (.returned (.tuple #[v1, v2])) w) (hr : fn.results = #[r1, r2]) : WE2 (bodyPost P fn R) n env B w0 rs .ret := fun _ w hF hH => fin2 hF hr (res_of h1 hH) (res_of h2 hH) (hR w hH)
theorem f_fin3 {r1 r2 r3 : ResultVar} {v1 v2 v3 : Value} (h1 : Res2 P env rs r1 v1) (h2 : Res2 P env rs r2 v2) (h3 : Res2 P env rs r3 v3) (hR : ∀ w, Hp B w0 w rs → R (.returned (.tuple #[v1, v2, v3])) w) (hr : fn.results = #[r1, r2, r3]) : WE2 (bodyPost P fn R) n env B w0 rs .ret := fun _ w hF hH => fin3 hF hr (res_of h1 hH) (res_of h2 hH) (res_of h3 hH) (hR w hH)
theorem f_fin0n (hR : ∀ w, Hp B w0 w rs → R (.returned (.tuple #[])) w) (hr : fn.results = #[]) : WE2 (bodyPost P fn R) n env B w0 rs .normal := fun _ w hF hH => fin0n hF hr (hR w hH)
theorem d_in {f : FuncId} {c : Code} {args : List Value} {w : World} (n : Nat) (hf : P.funcs[f]? = some fn) (hb : fn.body = some c) (hn : fn.ntmps = n) (hs : Nat.ble args.length n = true) (h : WC2 P (bodyPost P fn R) n (argEnv 0 args) Nil w [] c) : Calls P f args.toArray w R := calls_in n hf hb hn (Nat.le_of_ble_eq_true hs) fun a hF => h a w hF (Hp.start w)
end wc2

/-! ## A region that draws its order -/
section par2
variable {P : Program} {ops : Array Oper} {Q : Exit → Act → World → Prop} {n : Nat} {B : Nat → Prop} {w0 : World} {rs : List RowT} {env env0 : List (Nat × Value)} {jobs : List Job} {o : Oper} {deps : List Nat} {v : Value} {fl : List ((Nat × Nat) × Nat)} {kk : Nat}
def OB2 (P : Program) (ops : Array Oper) (Q : Exit → Act → World → Prop) (n : Nat) (jobs : List Job) (env0 : List (Nat × Value)) (B : Nat → Prop) (w0 : World) (rs : List RowT) (o : Oper) (j : Job) : Prop := ∀ w, Hp B w0 w rs → OB P ops Q n jobs env0 w o j
def AllOB2 (P : Program) (ops : Array Oper) (Q : Exit → Act → World → Prop) (n : Nat) (jobs : List Job) (env0 : List (Nat × Value)) (B : Nat → Prop) (w0 : World) (rs : List RowT) : List Oper → List Job → Prop
  | o :: os, j :: js => OB2 P ops Q n jobs env0 B w0 rs o j ∧ AllOB2 P ops Q n jobs env0 B w0 rs os js
  | _, _ => True
theorem AllOB2.all : ∀ {os : List Oper} {js : List Job}, AllOB2 P ops Q n jobs env0 B w0 rs os js → ∀ w, Hp B w0 w rs → AllOb P ops Q n w.heap.size jobs env0 (UpΦ w) os js
  | [], _, _, _, _ => by unfold AllOb; trivial
  | _ :: _, [], _, _, _ => by unfold AllOb; trivial
  | _ :: _, _ :: _, h, w, hH => ⟨h.1 w hH, AllOB2.all h.2 w hH⟩
end par2

/-! ## A small region, order by order -/
section orders2
variable {P : Program} {ops : Array Oper} {Q : Exit → Act → World → Prop} {n f i d : Nat} {B : Nat → Prop} {w0 : World} {rs : List RowT} {env env' : List (Nat × Value)} {listed : Array Bool} {o : Oper} {fl : List ((Nat × Nat) × Nat)}
def WA2 (P : Program) (ops : Array Oper) (Q : Exit → Act → World → Prop) (n : Nat) (env : List (Nat × Value)) (B : Nat → Prop) (w0 : World) (rs : List RowT) (f : Nat) (listed : Array Bool) : Prop := ∀ a w, Fr n a env → Hp B w0 w rs → wpAny P .any ops Q f listed a w
end orders2
section loops
variable {P : Program} {Q : Exit → Act → World → Prop} {n : Nat} {B : Nat → Prop} {w0 : World} {rs rs' : List RowT} {env env' : List (Nat × Value)} {c : Code} {α : Type}
theorem WC2.less (k : Nat) (h : WC2 P Q n env B w0 (rs.drop k) c) : WC2 P Q n env B w0 rs c := fun a w hF hH => h a w hF (hH.drop k)
theorem WC2.at_ (hs : Sub env env') (hr : rs = rs') (h : WC2 P Q n env' B w0 rs' c) : WC2 P Q n env B w0 rs c := fun a w hF hH => h a w (hF.keep hs) (hr ▸ hH)
def Again (n : Nat) (B : Nat → Prop) (w0 : World) (E : α → List (Nat × Value)) (R : α → List RowT) (Inv : α → Prop) (μ : α → Nat) (x : α) : Act → World → Prop := fun a w => ∃ y, Inv y ∧ μ y < μ x ∧ Fr n a (E y) ∧ Hp B w0 w (R y)
theorem d_loop (E : α → List (Nat × Value)) (R : α → List RowT) (Inv : α → Prop) (μ : α → Nat) (x : α) (hx : Inv x) (hE : Sub env (E x)) (hR : rs = R x) (h : ∀ x, Inv x → WC2 P (Exit.then (Again n B w0 E R Inv μ x) Q) n (E x) B w0 (R x) c) : WC2 P Q n env B w0 rs (.loop c) := by
  subst hR
  intro a w hF hH
  have key : ∀ m x, μ x < m → Inv x → ∀ a w, Fr n a (E x) → Hp B w0 w (R x) → Code.rounds P c Q m a w := by
    intro m
    induction m with
    | zero => intro x hx; omega
    | succ m ih =>
      intro x hm hx a w hF hH
      refine Code.wp_mono (fun e a' w' q => ?_) (h x hx a w hF hH)
      cases e with
      | normal =>
        obtain ⟨y, hy, hlt, hF', hH'⟩ := q
        exact ih y (by omega) hy a' w' hF' hH'
      | _ => exact q
  exact wp_loop_rounds _ (key _ x (Nat.lt_succ_self _) hx a w (hF.keep hE) hH)
theorem f_again {E : α → List (Nat × Value)} {R : α → List RowT} {Inv : α → Prop} {μ : α → Nat} {x : α} (y : α) (k : Nat) (hy : Inv y) (hμ : μ y < μ x) (hs : Sub env (E y)) (hr : rs.drop k = R y) : WE2 (Exit.then (Again n B w0 E R Inv μ x) Q) n env B w0 rs .normal := fun _ _ hF hH => ⟨y, hy, hμ, hF.keep hs, hr ▸ hH.drop k⟩
end loops
section orders3
variable {P : Program} {ops : Array Oper} {Q : Exit → Act → World → Prop} {n fu i d : Nat} {B : Nat → Prop} {w0 : World} {rs : List RowT} {env : List (Nat × Value)} {listed : Array Bool} {o : Oper}
end orders3
section textsBs
variable {P : Program} {ops : Array Oper} {Q : Exit → Act → World → Prop} {n d : Nat} {B : Nat → Prop} {w0 : World} {rs : List RowT} {env env0 : List (Nat × Value)} {rest : List Oper} {o : Oper} {a : Act} {w : World} {jobs : List Job} {deps : List Nat} {kk : Nat}
end textsBs
section textsBytes
variable {P : Program} {ops : Array Oper} {Q : Exit → Act → World → Prop} {n : Nat} {B : Nat → Prop} {w0 w : World} {rs : List RowT} {env : List (Nat × Value)} {rest : List Oper} {o : Oper} {d : Nat}
end textsBytes
section par3
variable {P : Program} {ops : Array Oper} {Q : Exit → Act → World → Prop} {n : Nat} {B : Nat → Prop} {w0 : World} {rs : List RowT} {env : List (Nat × Value)}
theorem WA2.keep {f : Nat} {env' : List (Nat × Value)} {listed : Array Bool} (hs : Sub env env') (h : WA2 P ops Q n env' B w0 rs f listed) : WA2 P ops Q n env B w0 rs f listed := fun a w hF hH => h a w (hF.keep hs) hH
end par3
section par4
variable {P : Program} {ops : Array Oper} {Q : Exit → Act → World → Prop} {n : Nat} {B : Nat → Prop} {w0 : World} {rs : List RowT} {env : List (Nat × Value)}
end par4
end Go.Proofs.Ytikcleaicbihfaa.Mem
