/-
  Mem
-/
import Derived.Test.YtjcfimmcogkopaaGreatPA02
set_option linter.unusedSimpArgs false
set_option linter.unusedVariables false
namespace Go.Proofs.YtjcfimmcogkopaaGreat.Mem
open Go.RowKit
def Bh : List RowT → Prop
  | [] => True
  | x :: r => (∀ y ∈ r, y.1 ≠ x.1) ∧ Bh r
def Cs (a : List RowT) : Nat → Prop := fun k => ∃ x ∈ a, x.1 = k
structure Hp (B : Nat → Prop) (w0 w : World) (rs : List RowT) : Prop where
  up : Mod B w0 w
  rows : RowsOf w rs
  apart : Bh rs
  own : ∀ x ∈ rs, x.1 < w0.heap.size → B x.1
section hp
variable {B : Nat → Prop} {w0 w w' : World} {rs : List RowT}
theorem Bh.set : ∀ {rs : List RowT} {i : Nat} {c : Array Value}, Bh rs → Bh (Ej rs i c)
  | [], _, _, _ => trivial
  | (g, t, _) :: r, 0, c, h => h
  | x :: r, i + 1, c, h => ⟨fun y hy => by obtain ⟨z, hz, e⟩ := FR y hy; rw [← e]; exact h.1 z hz, Bh.set h.2⟩
theorem Bh.drop : ∀ {rs : List RowT} (k : Nat), Bh rs → Bh (rs.drop k)
  | _, 0, h => h
  | [], k + 1, _ => trivial
  | x :: r, k + 1, h => Bh.drop (rs := r) k h.2
theorem Bh.at_ : ∀ {rs : List RowT}, Bh rs → ∀ {i j : Nat} {x y : RowT}, rs[i]? = some x → rs[j]? = some y → i ≠ j → x.1 ≠ y.1
  | [], _, i, j, x, y, hi, _, _ => by simp at hi
  | z :: r, h, 0, 0, x, y, _, _, hn => absurd rfl hn
  | z :: r, h, 0, j + 1, x, y, hi, hj, _ => by
    simp only [List.getElem?_cons_zero, Option.some.injEq] at hi
    simp only [List.getElem?_cons_succ] at hj
    subst hi
    exact Ne.symm (h.1 y (List.mem_of_getElem? hj))
  | z :: r, h, i + 1, 0, x, y, hi, hj, _ => by
    simp only [List.getElem?_cons_zero, Option.some.injEq] at hj
    simp only [List.getElem?_cons_succ] at hi
    subst hj
    exact h.1 x (List.mem_of_getElem? hi)
  | z :: r, h, i + 1, j + 1, x, y, hi, hj, hn => by
    simp only [List.getElem?_cons_succ] at hi hj
    exact Bh.at_ h.2 hi hj (by omega)
theorem Hp.start (w : World) : Hp Nil w w [] := ⟨Mod.refl _ w, trivial, trivial, fun x hx => by simp at hx⟩
theorem Hp.given {a : List RowT} (h : RowsOf w a) (hd : Bh a) : Hp (Cs a) w w a := ⟨Mod.refl _ w, h, hd, fun x hx _ => ⟨x, hx, rfl⟩⟩
theorem Hp.row (h : Hp B w0 w rs) (i : Nat) {g : Nat} {t : TypeId} {cs : Array Value} (hi : rs[i]? = some (g, Ez t, cs)) : Di w g t cs := h.rows.at_ i g t cs hi
theorem Hp.call (h : Hp B w0 w rs) (hb : Below w.heap.size w w') : Hp B w0 w' rs := ⟨h.up.trans (T := Nil) (Mod.of_below hb Nil) (fun _ _ hf => hf.elim), h.rows.map_ fun _ _ r => r.old hb, h.apart, h.own⟩
theorem Hp.new (h : Hp B w0 w rs) (t : TypeId) (cs : Array Value) : Hp B w0 (w.alloc (.cells cs t)) ((w.heap.size, Ez t, cs) :: rs) :=
  ⟨h.up.alloc _, ⟨Di.new w t cs, h.rows.map_ fun _ _ r => r.alloc _⟩, ⟨fun y hy => by have := (h.rows.mem y hy).lt; show y.1 ≠ w.heap.size; omega, h.apart⟩, fun x hx hlt => by
    rcases List.mem_cons.1 hx with rfl | hx
    · have := h.up.size; exact absurd hlt (by show ¬ w.heap.size < w0.heap.size; omega)
    · exact h.own x hx hlt⟩
theorem Hp.set (h : Hp B w0 w rs) : ∀ (i : Nat) {g : Nat} {t : TypeId} {cs c : Array Value}, rs[i]? = some (g, Ez t, cs) → Mod (Il g) w w' → Di w' g t c → Hp B w0 w' (Ej rs i c) := by
  intro i g t cs c hi hm hR
  have hmem : (g, Ez t, cs) ∈ rs := List.mem_of_getElem? hi
  refine ⟨h.up.trans hm (fun j hj e => by unfold Il at e; subst e; exact h.own _ hmem hj), ?_, h.apart.set, fun x hx hlt => ?_⟩
  · have key : ∀ {rs : List RowT} (i : Nat), RowsOf w rs → Bh rs → rs[i]? = some (g, Ez t, cs) → RowsOf w' (Ej rs i c) := by
      intro rs
      induction rs with
      | nil => intro i _ _ hi; simp at hi
      | cons x r ih =>
        intro i hr ha hi
        obtain ⟨g', t', cs'⟩ := x
        cases i with
        | zero =>
          simp only [List.getElem?_cons_zero, Option.some.injEq, Prod.mk.injEq] at hi
          obtain ⟨rfl, rfl, rfl⟩ := hi
          exact ⟨hR, hr.2.map_ fun y hy r => r.mod_ne hm (ha.1 y hy)⟩
        | succ i =>
          simp only [List.getElem?_cons_succ] at hi
          refine ⟨hr.1.mod_ne hm (fun e => ?_), ih i hr.2 ha.2 hi⟩
          exact ha.1 _ (List.mem_of_getElem? hi) e.symm
    exact key i h.rows h.apart hi
  · obtain ⟨z, hz, e⟩ := FR x hx
    rw [← e] at hlt ⊢
    exact h.own z hz hlt
theorem Hp.drew (h : Hp B w0 w rs) : Hp B w0 w.drew rs := ⟨h.up.drew, h.rows.map_ fun _ _ r => r.drew, h.apart, h.own⟩
theorem Hp.drop (h : Hp B w0 w rs) (k : Nat) : Hp B w0 w (rs.drop k) := ⟨h.up, h.rows.drop k, h.apart.drop k, fun x hx => h.own x (List.mem_of_mem_drop hx)⟩
theorem AA {a b : World} (h : Mod Nil a b) : Below a.heap.size a b := h.below (Nat.le_refl _) (fun _ hf => hf.elim)
end hp
def Vf (ids : List Nat) (rs : List RowT) : List RowT := ids.filterMap (rs[·]?)
def Fk (ids : List Nat) : Nat → List RowT → List RowT
  | _, [] => []
  | k, x :: r => if ids.elem k then Fk ids (k + 1) r else x :: Fk ids (k + 1) r
def XH (ids : List Nat) (rs : List RowT) : List RowT := Fk ids 0 rs
section parts
variable {w : World} {rs : List RowT} {ids : List Nat}
theorem KR {x : RowT} (h : x ∈ Vf ids rs) : ∃ i ∈ ids, rs[i]? = some x := by
 obtain ⟨i, hi, e⟩ := List.mem_filterMap.1 h
 exact ⟨i, hi, e⟩
theorem EN : ∀ {rs : List RowT} {k : Nat} {x : RowT}, x ∈ Fk ids k rs → ∃ i, k + i ∉ ids ∧ rs[i]? = some x
  | [], _, _, h => by simp [Fk] at h
  | y :: r, k, x, h => by
    unfold Fk at h
    by_cases hk : ids.elem k
    · rw [if_pos hk] at h
      obtain ⟨i, h1, h2⟩ := EN h
      exact ⟨i + 1, by rwa [show k + (i + 1) = k + 1 + i by omega], by simpa using h2⟩
    · rw [if_neg hk] at h
      rcases List.mem_cons.1 h with rfl | h
      · exact ⟨0, by simpa using hk, rfl⟩
      · obtain ⟨i, h1, h2⟩ := EN h
        exact ⟨i + 1, by rwa [show k + (i + 1) = k + 1 + i by omega], by simpa using h2⟩
theorem RowsOf.ofAll : ∀ {l : List RowT}, (∀ x ∈ l, C3 w x) → RowsOf w l
  | [], _ => trivial
  | (g, t, cs) :: r, h => ⟨h (g, t, cs) (by simp), RowsOf.ofAll fun x hx => h x (by simp [hx])⟩
theorem Tl (h : RowsOf w rs) : RowsOf w (Vf ids rs) := RowsOf.ofAll fun x hx => by
 obtain ⟨i, _, e⟩ := KR hx
 exact h.mem x (List.mem_of_getElem? e)
theorem Tm (h : RowsOf w rs) : RowsOf w (XH ids rs) := RowsOf.ofAll fun x hx => by
 obtain ⟨i, _, e⟩ := EN hx
 exact h.mem x (List.mem_of_getElem? e)
theorem Gy : ∀ {rs : List RowT} {k : Nat}, Bh rs → Bh (Fk ids k rs)
  | [], _, _ => trivial
  | y :: r, k, h => by
    unfold Fk
    split
    · exact Gy h.2
    · refine ⟨fun z hz => ?_, Gy h.2⟩
      obtain ⟨i, _, e⟩ := EN hz
      exact h.1 z (List.mem_of_getElem? e)
theorem NN : ∀ {ids : List Nat}, ids.Nodup → Bh rs → Bh (Vf ids rs)
  | [], _, _ => trivial
  | i :: r, hn, h => by
    have hn' := List.nodup_cons.1 hn
    have hr := NN hn'.2 h
    unfold Vf at hr ⊢
    cases hi : rs[i]? with
    | none => simpa [List.filterMap_cons, hi] using hr
    | some x =>
      simp only [List.filterMap_cons, hi]
      refine ⟨fun y hy => ?_, hr⟩
      obtain ⟨j, hj, e⟩ := KR hy
      exact h.at_ e hi (fun e' => hn'.1 (e' ▸ hj))
theorem dist_app : ∀ {a b : List RowT}, Bh a → Bh b → (∀ x ∈ a, ∀ y ∈ b, y.1 ≠ x.1) → Bh (a ++ b)
  | [], _, _, hb, _ => hb
  | x :: r, b, ha, hb, h => ⟨fun y hy => by
      rcases List.mem_append.1 hy with hy | hy
      · exact ha.1 y hy
      · exact h x (by simp) y hy, dist_app ha.2 hb fun z hz => h z (by simp [hz])⟩
end parts
structure Chg (w w' : World) (a b : List RowT) : Prop where
  mod : Mod (Cs a) w w'
  rows : RowsOf w' b
  dist : Bh b
  from_ : ∀ x ∈ b, x.1 < w.heap.size → Cs a x.1
section chg
variable {B : Nat → Prop} {w0 w w' : World} {rs a b : List RowT}
theorem Hp.chg (h : Hp B w0 w rs) (ids : List Nat) (hc : Chg w w' (Vf ids rs) b) : Hp B w0 w' (b ++ XH ids rs) := by
  have hsel : ∀ x ∈ Vf ids rs, x ∈ rs := fun x hx => by obtain ⟨i, _, e⟩ := KR hx; exact List.mem_of_getElem? e
  have hne : ∀ x ∈ Vf ids rs, ∀ y ∈ XH ids rs, y.1 ≠ x.1 := fun x hx y hy => by
    obtain ⟨i, hi, e⟩ := KR hx
    obtain ⟨j, hj, e'⟩ := EN hy
    rw [Nat.zero_add] at hj
    exact h.apart.at_ e' e (fun e => hj (e ▸ hi))
  have hnb : ∀ y ∈ XH ids rs, ¬ Cs (Vf ids rs) y.1 := fun y hy ⟨x, hx, e⟩ => hne x hx y hy e.symm
  have hold : ∀ y ∈ XH ids rs, C3 w y := fun y hy => (Tm (ids := ids) h.rows).mem y hy
  refine ⟨h.up.trans hc.mod (fun j hj ⟨x, hx, e⟩ => e ▸ h.own x (hsel x hx) (e ▸ hj)), ?_, ?_, ?_⟩
  · exact RowsOf.ofAll fun x hx => by
      rcases List.mem_append.1 hx with hx | hx
      · exact hc.rows.mem x hx
      · exact (hold x hx).mod hc.mod (hnb x hx)
  · refine dist_app hc.dist (Gy h.apart) fun x hx y hy e => ?_
    have hlt := (hold y hy).lt
    rw [e] at hlt
    exact hnb y hy (e ▸ hc.from_ x hx hlt)
  · intro x hx hlt
    rcases List.mem_append.1 hx with hx | hx
    · have := h.up.size
      obtain ⟨y, hy, e⟩ := hc.from_ x hx (by omega)
      exact e ▸ h.own y (hsel y hy) (e ▸ hlt)
    · obtain ⟨j, _, e'⟩ := EN hx
      exact h.own x (List.mem_of_getElem? e') hlt
theorem Hp.tell (h : Hp (Cs a) w0 w rs) (ids : List Nat) (hn : ids.Nodup) : Chg w0 w a (Vf ids rs) := ⟨h.up, Tl h.rows, NN hn h.apart, fun x hx hlt => by
 obtain ⟨i, _, e⟩ := KR hx
 exact h.own x (List.mem_of_getElem? e) hlt⟩
end chg
def Cf (P : Program) (ops : Array Oper) (Q : Exit → Act → World → Prop) (n : Nat) (env : List (Nat × Value)) (B : Nat → Prop) (w0 : World) (rs : List RowT) (l : List Oper) : Prop := ∀ a w, Fr n a env → Hp B w0 w rs → wpList P ops Q l a w
def BB (P : Program) (Q : Exit → Act → World → Prop) (n : Nat) (env : List (Nat × Value)) (B : Nat → Prop) (w0 : World) (rs : List RowT) (c : Code) : Prop := ∀ a w, Fr n a env → Hp B w0 w rs → c.wp P Q a w
def CT (Q : Exit → Act → World → Prop) (n : Nat) (env : List (Nat × Value)) (B : Nat → Prop) (w0 : World) (rs : List RowT) (e : Exit) : Prop := ∀ a w, Fr n a env → Hp B w0 w rs → Q e a w
section wl2
variable {P : Program} {ops : Array Oper} {Q : Exit → Act → World → Prop} {n : Nat} {B : Nat → Prop} {w0 : World} {rs rs' : List RowT} {env env' : List (Nat × Value)} {l rest : List Oper} {o : Oper} {d : Nat} {fl : List ((Nat × Nat) × Nat)}
theorem Ae (hfl : KP P fl) : ∀ {l : List Oper} {env : List (Nat × Value)}, KQ fl ops n l env = some (env', rest) → Cf P ops Q n env' B w0 rs rest → Cf P ops Q n env B w0 rs l
  | [], env, h, hk => by
    simp only [KQ, Option.some.injEq, Prod.mk.injEq] at h
    obtain ⟨rfl, rfl⟩ := h
    exact hk
  | o :: r, env, h, hk => by
    unfold KQ at h
    cases hw : wants ops o env with
    | none =>
      simp only [hw, Option.some.injEq, Prod.mk.injEq] at h
      obtain ⟨rfl, rfl⟩ := h
      exact hk
    | some b =>
      cases b with
      | false =>
        simp only [hw] at h
        cases hd : o.dst with
        | none => simp [hd] at h
        | some d =>
          simp only [hd] at h
          cases hn : Nat.blt d n with
          | false => simp [hn] at h
          | true =>
            simp only [hn] at h
            exact fun a w hF hH => MN hF hw hd (EL hn) fun b hb => Ae hfl h hk b w hb hH
      | true =>
        simp only [hw] at h
        cases hq : q1 fl o env with
        | none =>
          simp only [hq, Option.some.injEq, Prod.mk.injEq] at h
          obtain ⟨rfl, rfl⟩ := h
          exact hk
        | some v =>
          simp only [hq] at h
          cases hd : o.dst with
          | none => simp [hd] at h
          | some d =>
            simp only [hd] at h
            cases hn : Nat.blt d n with
            | false => simp [hn] at h
            | true =>
              simp only [hn] at h
              exact fun a w hF hH => RL hF hw hd (EL hn) v (fun b hb => Af hfl hq hb) fun b hb => Ae hfl h hk b w hb hH
theorem Aa (h1 : Wj ops n o env = some d) (v : Value) (hrun : ∀ b w, Fr n b env → Hp B w0 w rs → (execOp b.eval o).run P w = .ok (.value v) w) (h : Cf P ops Q n ((d, v) :: env) B w0 rs rest) : Cf P ops Q n env B w0 rs (o :: rest) :=
 fun a w hF hH => RL hF (Cj h1).1 (Cj h1).2.1 (Cj h1).2.2 v (fun b hb => hrun b w hb hH) fun b hb => h b w hb hH
theorem AV (h : CT Q n env B w0 rs .normal) : Cf P ops Q n env B w0 rs [] := h
theorem Ab {y : Code} (h : BB P Q n env B w0 rs y) : Cf P ops (Exit.then (fun a w => y.wp P Q a w) Q) n env B w0 rs [] := h
theorem Cf.keep (hs : Gv env env') (h : Cf P ops Q n env' B w0 rs l) : Cf P ops Q n env B w0 rs l := fun a w hF hH => h a w (hF.keep hs) hH
theorem BB.keep {c : Code} (hs : Gv env env') (h : BB P Q n env' B w0 rs c) : BB P Q n env B w0 rs c := fun a w hF hH => h a w (hF.keep hs) hH
theorem CT.keep {e : Exit} (hs : Gv env env') (h : CT Q n env' B w0 rs e) : CT Q n env B w0 rs e := fun a w hF hH => h a w (hF.keep hs) hH
end wl2
section wc2
variable {P : Program} {Q : Exit → Act → World → Prop} {n : Nat} {B : Nat → Prop} {w0 : World} {rs : List RowT} {env : List (Nat × Value)}
theorem Ad {id : Nat} {l : List Oper} {y : Code} (h : Cf P l.toArray (Exit.then (fun a w => y.wp P Q a w) Q) n env B w0 rs l) : BB P Q n env B w0 rs (.seq (.region id l.toArray false) y) := fun a w hF hH => wp_seq (wp_region_lit (h a w hF hH))
theorem Bp {id : Nat} {l : List Oper} (h : Cf P l.toArray Q n env B w0 rs l) : BB P Q n env B w0 rs (.region id l.toArray false) := fun a w hF hH => wp_region_lit (h a w hF hH)
theorem Av {x y : Code} (h : BB P (Exit.then (fun a w => y.wp P Q a w) Q) n env B w0 rs x) : BB P Q n env B w0 rs (.seq x y) := fun a w hF hH => wp_seq (h a w hF hH)
theorem AI {c : Operand} {x y : Code} (hc : evs env c = some (.bool true)) (h : BB P Q n env B w0 rs x) : BB P Q n env B w0 rs (.cond c x y) := fun a w hF hH => MQ hF hc (h a w hF hH)
theorem As {c : Operand} {x y : Code} (hc : evs env c = some (.bool false)) (h : BB P Q n env B w0 rs y) : BB P Q n env B w0 rs (.cond c x y) := fun a w hF hH => MR hF hc (h a w hF hH)
theorem AB (h : CT Q n env B w0 rs .normal) : BB P Q n env B w0 rs .skip := fun a w hF hH => wp_skip (h a w hF hH)
theorem Ax (h : CT Q n env B w0 rs .ret) : BB P Q n env B w0 rs .ret := fun a w hF hH => wp_ret (h a w hF hH)
theorem Bo {id : Nat} {c : Code} (h : BB P (Exit.inBlock id Q) n env B w0 rs c) : BB P Q n env B w0 rs (.block id c) := fun a w hF hH => wp_block (h a w hF hH)
theorem CP {id : Nat} (h : CT Q n env B w0 rs (.exit id)) : BB P Q n env B w0 rs (.exit id) := fun a w hF hH => wp_exit (h a w hF hH)
theorem AL {y : Code} (h : BB P Q n env B w0 rs y) : CT (Exit.then (fun a w => y.wp P Q a w) Q) n env B w0 rs .normal := h
theorem BC {id : Nat} (h : CT Q n env B w0 rs .normal) : CT (Exit.inBlock id Q) n env B w0 rs .normal := h
theorem C4 {K : Act → World → Prop} (h : CT Q n env B w0 rs .ret) : CT (Exit.then K Q) n env B w0 rs .ret := h
theorem BG {id : Nat} (h : CT Q n env B w0 rs .ret) : CT (Exit.inBlock id Q) n env B w0 rs .ret := h
theorem FP {K : Act → World → Prop} {id : Nat} (h : CT Q n env B w0 rs (.exit id)) : CT (Exit.then K Q) n env B w0 rs (.exit id) := h
theorem Br {id : Nat} (h : CT Q n env B w0 rs .normal) : CT (Exit.inBlock id Q) n env B w0 rs (.exit id) := fun a w hF hH => (if_pos rfl).mpr (h a w hF hH)
variable {fn : Func} {R : Ending → World → Prop}
theorem Res2.res {r : ResultVar} {v : Value} {w : World} (h : Res2 P env rs r v) (hH : Hp B w0 w rs) : Res P env w r v := by
  cases h with
  | tmp h => exact .tmp h
  | cell i hv h hi => exact .cell h hv (hH.row i hi)
theorem D5 {r : ResultVar} {v : Value} {w : World} (h : Res2 P env rs r v) (hH : Hp B w0 w rs) : Res P env w r v := by
  cases h with
  | tmp h => exact .tmp h
  | cell i hv h hi => exact .cell h hv (hH.row i hi)
theorem Aw {r1 : ResultVar} {v1 : Value} (h1 : Res2 P env rs r1 v1) (hR : ∀ w, Hp B w0 w rs → R (.returned v1) w) (hr : fn.results = #[r1]) : CT (bodyPost P fn R) n env B w0 rs .ret := fun _ w hF hH => Wy hF hr (D5 h1 hH) (hR w hH)
theorem CC {r1 r2 : ResultVar} {v1 v2 : Value} (h1 : Res2 P env rs r1 v1) (h2 : Res2 P env rs r2 v2) (hR : ∀ w, Hp B w0 w rs → R (.returned (.tuple #[v1, v2])) w) (hr : fn.results = #[r1, r2]) : CT (bodyPost P fn R) n env B w0 rs .ret := fun _ w hF hH => Wz hF hr (D5 h1 hH) (D5 h2 hH) (hR w hH)
theorem EM {r1 r2 r3 : ResultVar} {v1 v2 v3 : Value} (h1 : Res2 P env rs r1 v1) (h2 : Res2 P env rs r2 v2) (h3 : Res2 P env rs r3 v3) (hR : ∀ w, Hp B w0 w rs → R (.returned (.tuple #[v1, v2, v3])) w) (hr : fn.results = #[r1, r2, r3]) : CT (bodyPost P fn R) n env B w0 rs .ret := fun _ w hF hH => WB hF hr (D5 h1 hH) (D5 h2 hH) (D5 h3 hH) (hR w hH)
theorem MV (hR : ∀ w, Hp B w0 w rs → R (.returned (.tuple #[])) w) (hr : fn.results = #[]) : CT (bodyPost P fn R) n env B w0 rs .ret := fun _ w hF hH => WD hF hr (hR w hH)
theorem CQ (hR : ∀ w, Hp B w0 w rs → R (.returned (.tuple #[])) w) (hr : fn.results = #[]) : CT (bodyPost P fn R) n env B w0 rs .normal := fun _ w hF hH => Th hF hr (hR w hH)
theorem Fj {f : FuncId} {c : Code} {args : List Value} {w : World} (n : Nat) (hf : P.funcs[f]? = some fn) (hb : fn.body = some c) (hn : fn.ntmps = n) (hs : Nat.ble args.length n = true) (h : BB P (bodyPost P fn R) n (F4 0 args) Nil w [] c) : Calls P f args.toArray w R := GZ n hf hb hn (Nat.le_of_ble_eq_true hs) fun a hF => h a w hF (Hp.start w)
end wc2
section par2
variable {P : Program} {ops : Array Oper} {Q : Exit → Act → World → Prop} {n : Nat} {B : Nat → Prop} {w0 : World} {rs : List RowT} {env env0 : List (Nat × Value)} {jobs : List Job} {o : Oper} {deps : List Nat} {v : Value} {fl : List ((Nat × Nat) × Nat)} {kk : Nat}
def XL (P : Program) (ops : Array Oper) (Q : Exit → Act → World → Prop) (n : Nat) (jobs : List Job) (env0 : List (Nat × Value)) (B : Nat → Prop) (w0 : World) (rs : List RowT) (o : Oper) (j : Job) : Prop := ∀ w, Hp B w0 w rs → OB P ops Q n jobs env0 w o j
def Ek (P : Program) (ops : Array Oper) (Q : Exit → Act → World → Prop) (n : Nat) (jobs : List Job) (env0 : List (Nat × Value)) (B : Nat → Prop) (w0 : World) (rs : List RowT) : List Oper → List Job → Prop
  | o :: os, j :: js => XL P ops Q n jobs env0 B w0 rs o j ∧ Ek P ops Q n jobs env0 B w0 rs os js
  | _, _ => True
theorem Ek.all : ∀ {os : List Oper} {js : List Job}, Ek P ops Q n jobs env0 B w0 rs os js → ∀ w, Hp B w0 w rs → EF P ops Q n w.heap.size jobs env0 (XF w) os js
  | [], _, _, _, _ => by unfold EF; trivial
  | _ :: _, [], _, _, _ => by unfold EF; trivial
  | _ :: _, _ :: _, h, w, hH => ⟨h.1 w hH, Ek.all h.2 w hH⟩
end par2
section orders2
variable {P : Program} {ops : Array Oper} {Q : Exit → Act → World → Prop} {n f i d : Nat} {B : Nat → Prop} {w0 : World} {rs : List RowT} {env env' : List (Nat × Value)} {listed : Array Bool} {o : Oper} {fl : List ((Nat × Nat) × Nat)}
def NL (P : Program) (ops : Array Oper) (Q : Exit → Act → World → Prop) (n : Nat) (env : List (Nat × Value)) (B : Nat → Prop) (w0 : World) (rs : List RowT) (f : Nat) (listed : Array Bool) : Prop := ∀ a w, Fr n a env → Hp B w0 w rs → wpAny P .any ops Q f listed a w
end orders2
section loops
variable {P : Program} {Q : Exit → Act → World → Prop} {n : Nat} {B : Nat → Prop} {w0 : World} {rs rs' : List RowT} {env env' : List (Nat × Value)} {c : Code} {α : Type}
theorem BB.less (k : Nat) (h : BB P Q n env B w0 (rs.drop k) c) : BB P Q n env B w0 rs c := fun a w hF hH => h a w hF (hH.drop k)
theorem BB.at_ (hs : Gv env env') (hr : rs = rs') (h : BB P Q n env' B w0 rs' c) : BB P Q n env B w0 rs c := fun a w hF hH => h a w (hF.keep hs) (hr ▸ hH)
def Kc (n : Nat) (B : Nat → Prop) (w0 : World) (E : α → List (Nat × Value)) (R : α → List RowT) (Inv : α → Prop) (μ : α → Nat) (x : α) : Act → World → Prop := fun a w => ∃ y, Inv y ∧ μ y < μ x ∧ Fr n a (E y) ∧ Hp B w0 w (R y)
theorem Dd (E : α → List (Nat × Value)) (R : α → List RowT) (Inv : α → Prop) (μ : α → Nat) (x : α) (hx : Inv x) (hE : Gv env (E x)) (hR : rs = R x) (h : ∀ x, Inv x → BB P (Exit.then (Kc n B w0 E R Inv μ x) Q) n (E x) B w0 (R x) c) : BB P Q n env B w0 rs (.loop c) := by
  subst hR
  intro a w hF hH
  have key : ∀ m x, μ x < m → Inv x → ∀ a w, Fr n a (E x) → Hp B w0 w (R x) → Code.rounds P c Q m a w := by
    intro m
    induction m with
    | zero => intro x hx; omega
    | succ m ih =>
      intro x hm hx a w hF hH
      refine Code.wp_mono (fun e a' w' q => ?_) (h x hx a w hF hH)
      cases e with
      | normal =>
        obtain ⟨y, hy, hlt, hF', hH'⟩ := q
        exact ih y (by omega) hy a' w' hF' hH'
      | _ => exact q
  exact wp_loop_rounds _ (key _ x (Nat.lt_succ_self _) hx a w (hF.keep hE) hH)
theorem Cr {E : α → List (Nat × Value)} {R : α → List RowT} {Inv : α → Prop} {μ : α → Nat} {x : α} (y : α) (k : Nat) (hy : Inv y) (hμ : μ y < μ x) (hs : Gv env (E y)) (hr : rs.drop k = R y) : CT (Exit.then (Kc n B w0 E R Inv μ x) Q) n env B w0 rs .normal := fun _ _ hF hH => ⟨y, hy, hμ, hF.keep hs, hr ▸ hH.drop k⟩
end loops
section orders3
variable {P : Program} {ops : Array Oper} {Q : Exit → Act → World → Prop} {n fu i d : Nat} {B : Nat → Prop} {w0 : World} {rs : List RowT} {env : List (Nat × Value)} {listed : Array Bool} {o : Oper}
end orders3
section textsBs
variable {P : Program} {ops : Array Oper} {Q : Exit → Act → World → Prop} {n d : Nat} {B : Nat → Prop} {w0 : World} {rs : List RowT} {env env0 : List (Nat × Value)} {rest : List Oper} {o : Oper} {a : Act} {w : World} {jobs : List Job} {deps : List Nat} {kk : Nat}
end textsBs
section textsBytes
variable {P : Program} {ops : Array Oper} {Q : Exit → Act → World → Prop} {n : Nat} {B : Nat → Prop} {w0 w : World} {rs : List RowT} {env : List (Nat × Value)} {rest : List Oper} {o : Oper} {d : Nat}
end textsBytes
section par3
variable {P : Program} {ops : Array Oper} {Q : Exit → Act → World → Prop} {n : Nat} {B : Nat → Prop} {w0 : World} {rs : List RowT} {env : List (Nat × Value)}
theorem NL.keep {f : Nat} {env' : List (Nat × Value)} {listed : Array Bool} (hs : Gv env env') (h : NL P ops Q n env' B w0 rs f listed) : NL P ops Q n env B w0 rs f listed := fun a w hF hH => h a w (hF.keep hs) hH
end par3
section par4
variable {P : Program} {ops : Array Oper} {Q : Exit → Act → World → Prop} {n : Nat} {B : Nat → Prop} {w0 : World} {rs : List RowT} {env : List (Nat × Value)}
def Tk (n : Nat) (B : Nat → Prop) (w0 : World) (E : List (Nat × Value)) (R : List RowT) : Exit → Act → World → Prop := fun e a w => e = .normal ∧ Fr n a E ∧ Hp B w0 w R
theorem NM {c : Code} (E : List (Nat × Value)) (R : List RowT) (h1 : BB P (Tk n B w0 E R) n env B w0 rs c) (h2 : CT Q n E B w0 R .normal) : BB P Q n env B w0 rs c := fun a w hF hH => Code.wp_mono (fun e a' w' (h : Tk n B w0 E R e a' w') => by obtain ⟨he, hF', hH'⟩ := h; subst he; exact h2 a' w' hF' hH') (h1 a w hF hH)
theorem Kd {E : List (Nat × Value)} {R : List RowT} (k : Nat) (hs : Gv env E) (hr : rs.drop k = R) : CT (Tk n B w0 E R) n env B w0 rs .normal := fun _ _ hF hH => ⟨rfl, hF.keep hs, hr ▸ hH.drop k⟩
end par4
end Go.Proofs.YtjcfimmcogkopaaGreat.Mem
