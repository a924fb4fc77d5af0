/-
  Mem
-/
import Derived.Test.YtjcfimmcogkopaaGreatDoorWA02
set_option linter.unusedSimpArgs false
set_option linter.unusedVariables false
namespace Go.Proofs.YtjcfimmcogkopaaGreatDoor.Mem
open Go.RowKit
def Bb : List RowT → Prop
  | [] => True
  | x :: r => (∀ y ∈ r, y.1 ≠ x.1) ∧ Bb r
def Ci (a : List RowT) : Nat → Prop := fun k => ∃ x ∈ a, x.1 = k
structure Hp (B : Nat → Prop) (w0 w : World) (rs : List RowT) : Prop where
  up : Mod B w0 w
  rows : RowsOf w rs
  apart : Bb rs
  own : ∀ x ∈ rs, x.1 < w0.heap.size → B x.1
section hp
variable {B : Nat → Prop} {w0 w w' : World} {rs : List RowT}
theorem Bb.set : ∀ {rs : List RowT} {i : Nat} {c : Array Value}, Bb rs → Bb (Ex rs i c)
  | [], _, _, _ => trivial
  | (g, t, _) :: r, 0, c, h => h
  | x :: r, i + 1, c, h => ⟨fun y hy => by obtain ⟨z, hz, e⟩ := Gc y hy; rw [← e]; exact h.1 z hz, Bb.set h.2⟩
theorem Bb.drop : ∀ {rs : List RowT} (k : Nat), Bb rs → Bb (rs.drop k)
  | _, 0, h => h
  | [], k + 1, _ => trivial
  | x :: r, k + 1, h => Bb.drop (rs := r) k h.2
theorem Bb.at_ : ∀ {rs : List RowT}, Bb rs → ∀ {i j : Nat} {x y : RowT}, rs[i]? = some x → rs[j]? = some y → i ≠ j → x.1 ≠ y.1
  | [], _, i, j, x, y, hi, _, _ => by simp at hi
  | z :: r, h, 0, 0, x, y, _, _, hn => absurd rfl hn
  | z :: r, h, 0, j + 1, x, y, hi, hj, _ => by
    simp only [List.getElem?_cons_zero, Option.some.injEq] at hi
    simp only [List.getElem?_cons_succ] at hj
    subst hi
    exact Ne.symm (h.1 y (List.mem_of_getElem? hj))
  | z :: r, h, i + 1, 0, x, y, hi, hj, _ => by
    simp only [List.getElem?_cons_zero, Option.some.injEq] at hj
    simp only [List.getElem?_cons_succ] at hi
    subst hj
    exact h.1 x (List.mem_of_getElem? hi)
  | z :: r, h, i + 1, j + 1, x, y, hi, hj, hn => by
    simp only [List.getElem?_cons_succ] at hi hj
    exact Bb.at_ h.2 hi hj (by omega)
theorem Hp.start (w : World) : Hp Nil w w [] := ⟨Mod.refl _ w, trivial, trivial, fun x hx => by simp at hx⟩
theorem Hp.given {a : List RowT} (h : RowsOf w a) (hd : Bb a) : Hp (Ci a) w w a := ⟨Mod.refl _ w, h, hd, fun x hx _ => ⟨x, hx, rfl⟩⟩
theorem Hp.row (h : Hp B w0 w rs) (i : Nat) {g : Nat} {t : TypeId} {cs : Array Value} (hi : rs[i]? = some (g, Fa t, cs)) : Dy w g t cs := h.rows.at_ i g t cs hi
theorem Hp.call (h : Hp B w0 w rs) (hb : Below w.heap.size w w') : Hp B w0 w' rs := ⟨h.up.trans (T := Nil) (Mod.of_below hb Nil) (fun _ _ hf => hf.elim), h.rows.map_ fun _ _ r => r.old hb, h.apart, h.own⟩
theorem Hp.new (h : Hp B w0 w rs) (t : TypeId) (cs : Array Value) : Hp B w0 (w.alloc (.cells cs t)) ((w.heap.size, Fa t, cs) :: rs) :=
  ⟨h.up.alloc _, ⟨Dy.new w t cs, h.rows.map_ fun _ _ r => r.alloc _⟩, ⟨fun y hy => by have := (h.rows.mem y hy).lt; show y.1 ≠ w.heap.size; omega, h.apart⟩, fun x hx hlt => by
    rcases List.mem_cons.1 hx with rfl | hx
    · have := h.up.size; exact absurd hlt (by show ¬ w.heap.size < w0.heap.size; omega)
    · exact h.own x hx hlt⟩
theorem Hp.set (h : Hp B w0 w rs) : ∀ (i : Nat) {g : Nat} {t : TypeId} {cs c : Array Value}, rs[i]? = some (g, Fa t, cs) → Mod (N5 g) w w' → Dy w' g t c → Hp B w0 w' (Ex rs i c) := by
  intro i g t cs c hi hm hR
  have hmem : (g, Fa t, cs) ∈ rs := List.mem_of_getElem? hi
  refine ⟨h.up.trans hm (fun j hj e => by unfold N5 at e; subst e; exact h.own _ hmem hj), ?_, h.apart.set, fun x hx hlt => ?_⟩
  · have key : ∀ {rs : List RowT} (i : Nat), RowsOf w rs → Bb rs → rs[i]? = some (g, Fa t, cs) → RowsOf w' (Ex rs i c) := by
      intro rs
      induction rs with
      | nil => intro i _ _ hi; simp at hi
      | cons x r ih =>
        intro i hr ha hi
        obtain ⟨g', t', cs'⟩ := x
        cases i with
        | zero =>
          simp only [List.getElem?_cons_zero, Option.some.injEq, Prod.mk.injEq] at hi
          obtain ⟨rfl, rfl, rfl⟩ := hi
          exact ⟨hR, hr.2.map_ fun y hy r => r.mod_ne hm (ha.1 y hy)⟩
        | succ i =>
          simp only [List.getElem?_cons_succ] at hi
          refine ⟨hr.1.mod_ne hm (fun e => ?_), ih i hr.2 ha.2 hi⟩
          exact ha.1 _ (List.mem_of_getElem? hi) e.symm
    exact key i h.rows h.apart hi
  · obtain ⟨z, hz, e⟩ := Gc x hx
    rw [← e] at hlt ⊢
    exact h.own z hz hlt
theorem Hp.drew (h : Hp B w0 w rs) : Hp B w0 w.drew rs := ⟨h.up.drew, h.rows.map_ fun _ _ r => r.drew, h.apart, h.own⟩
theorem Hp.drop (h : Hp B w0 w rs) (k : Nat) : Hp B w0 w (rs.drop k) := ⟨h.up, h.rows.drop k, h.apart.drop k, fun x hx => h.own x (List.mem_of_mem_drop hx)⟩
theorem Aw {a b : World} (h : Mod Nil a b) : Below a.heap.size a b := h.below (Nat.le_refl _) (fun _ hf => hf.elim)
end hp
def Vg (ids : List Nat) (rs : List RowT) : List RowT := ids.filterMap (rs[·]?)
def Fv (ids : List Nat) : Nat → List RowT → List RowT
  | _, [] => []
  | k, x :: r => if ids.elem k then Fv ids (k + 1) r else x :: Fv ids (k + 1) r
def XC (ids : List Nat) (rs : List RowT) : List RowT := Fv ids 0 rs
section parts
variable {w : World} {rs : List RowT} {ids : List Nat}
theorem Ln {x : RowT} (h : x ∈ Vg ids rs) : ∃ i ∈ ids, rs[i]? = some x := by
 obtain ⟨i, hi, e⟩ := List.mem_filterMap.1 h
 exact ⟨i, hi, e⟩
theorem EW : ∀ {rs : List RowT} {k : Nat} {x : RowT}, x ∈ Fv ids k rs → ∃ i, k + i ∉ ids ∧ rs[i]? = some x
  | [], _, _, h => by simp [Fv] at h
  | y :: r, k, x, h => by
    unfold Fv at h
    by_cases hk : ids.elem k
    · rw [if_pos hk] at h
      obtain ⟨i, h1, h2⟩ := EW h
      exact ⟨i + 1, by rwa [show k + (i + 1) = k + 1 + i by omega], by simpa using h2⟩
    · rw [if_neg hk] at h
      rcases List.mem_cons.1 h with rfl | h
      · exact ⟨0, by simpa using hk, rfl⟩
      · obtain ⟨i, h1, h2⟩ := EW h
        exact ⟨i + 1, by rwa [show k + (i + 1) = k + 1 + i by omega], by simpa using h2⟩
theorem RowsOf.ofAll : ∀ {l : List RowT}, (∀ x ∈ l, Do w x) → RowsOf w l
  | [], _ => trivial
  | (g, t, cs) :: r, h => ⟨h (g, t, cs) (by simp), RowsOf.ofAll fun x hx => h x (by simp [hx])⟩
theorem Tt (h : RowsOf w rs) : RowsOf w (Vg ids rs) := RowsOf.ofAll fun x hx => by
 obtain ⟨i, _, e⟩ := Ln hx
 exact h.mem x (List.mem_of_getElem? e)
theorem Tu (h : RowsOf w rs) : RowsOf w (XC ids rs) := RowsOf.ofAll fun x hx => by
 obtain ⟨i, _, e⟩ := EW hx
 exact h.mem x (List.mem_of_getElem? e)
theorem GK : ∀ {rs : List RowT} {k : Nat}, Bb rs → Bb (Fv ids k rs)
  | [], _, _ => trivial
  | y :: r, k, h => by
    unfold Fv
    split
    · exact GK h.2
    · refine ⟨fun z hz => ?_, GK h.2⟩
      obtain ⟨i, _, e⟩ := EW hz
      exact h.1 z (List.mem_of_getElem? e)
theorem Oi : ∀ {ids : List Nat}, ids.Nodup → Bb rs → Bb (Vg ids rs)
  | [], _, _ => trivial
  | i :: r, hn, h => by
    have hn' := List.nodup_cons.1 hn
    have hr := Oi hn'.2 h
    unfold Vg at hr ⊢
    cases hi : rs[i]? with
    | none => simpa [List.filterMap_cons, hi] using hr
    | some x =>
      simp only [List.filterMap_cons, hi]
      refine ⟨fun y hy => ?_, hr⟩
      obtain ⟨j, hj, e⟩ := Ln hy
      exact h.at_ e hi (fun e' => hn'.1 (e' ▸ hj))
theorem dist_app : ∀ {a b : List RowT}, Bb a → Bb b → (∀ x ∈ a, ∀ y ∈ b, y.1 ≠ x.1) → Bb (a ++ b)
  | [], _, _, hb, _ => hb
  | x :: r, b, ha, hb, h => ⟨fun y hy => by
      rcases List.mem_append.1 hy with hy | hy
      · exact ha.1 y hy
      · exact h x (by simp) y hy, dist_app ha.2 hb fun z hz => h z (by simp [hz])⟩
end parts
structure Chg (w w' : World) (a b : List RowT) : Prop where
  mod : Mod (Ci a) w w'
  rows : RowsOf w' b
  dist : Bb b
  from_ : ∀ x ∈ b, x.1 < w.heap.size → Ci a x.1
section chg
variable {B : Nat → Prop} {w0 w w' : World} {rs a b : List RowT}
theorem Hp.chg (h : Hp B w0 w rs) (ids : List Nat) (hc : Chg w w' (Vg ids rs) b) : Hp B w0 w' (b ++ XC ids rs) := by
  have hsel : ∀ x ∈ Vg ids rs, x ∈ rs := fun x hx => by obtain ⟨i, _, e⟩ := Ln hx; exact List.mem_of_getElem? e
  have hne : ∀ x ∈ Vg ids rs, ∀ y ∈ XC ids rs, y.1 ≠ x.1 := fun x hx y hy => by
    obtain ⟨i, hi, e⟩ := Ln hx
    obtain ⟨j, hj, e'⟩ := EW hy
    rw [Nat.zero_add] at hj
    exact h.apart.at_ e' e (fun e => hj (e ▸ hi))
  have hnb : ∀ y ∈ XC ids rs, ¬ Ci (Vg ids rs) y.1 := fun y hy ⟨x, hx, e⟩ => hne x hx y hy e.symm
  have hold : ∀ y ∈ XC ids rs, Do w y := fun y hy => (Tu (ids := ids) h.rows).mem y hy
  refine ⟨h.up.trans hc.mod (fun j hj ⟨x, hx, e⟩ => e ▸ h.own x (hsel x hx) (e ▸ hj)), ?_, ?_, ?_⟩
  · exact RowsOf.ofAll fun x hx => by
      rcases List.mem_append.1 hx with hx | hx
      · exact hc.rows.mem x hx
      · exact (hold x hx).mod hc.mod (hnb x hx)
  · refine dist_app hc.dist (GK h.apart) fun x hx y hy e => ?_
    have hlt := (hold y hy).lt
    rw [e] at hlt
    exact hnb y hy (e ▸ hc.from_ x hx hlt)
  · intro x hx hlt
    rcases List.mem_append.1 hx with hx | hx
    · have := h.up.size
      obtain ⟨y, hy, e⟩ := hc.from_ x hx (by omega)
      exact e ▸ h.own y (hsel y hy) (e ▸ hlt)
    · obtain ⟨j, _, e'⟩ := EW hx
      exact h.own x (List.mem_of_getElem? e') hlt
theorem Hp.tell (h : Hp (Ci a) w0 w rs) (ids : List Nat) (hn : ids.Nodup) : Chg w0 w a (Vg ids rs) := ⟨h.up, Tt h.rows, Oi hn h.apart, fun x hx hlt => by
 obtain ⟨i, _, e⟩ := Ln hx
 exact h.own x (List.mem_of_getElem? e) hlt⟩
end chg
def BU (P : Program) (ops : Array Oper) (Q : Exit → Act → World → Prop) (n : Nat) (env : List (Nat × Value)) (B : Nat → Prop) (w0 : World) (rs : List RowT) (l : List Oper) : Prop := ∀ a w, Fr n a env → Hp B w0 w rs → wpList P ops Q l a w
def AL (P : Program) (Q : Exit → Act → World → Prop) (n : Nat) (env : List (Nat × Value)) (B : Nat → Prop) (w0 : World) (rs : List RowT) (c : Code) : Prop := ∀ a w, Fr n a env → Hp B w0 w rs → c.wp P Q a w
def CE (Q : Exit → Act → World → Prop) (n : Nat) (env : List (Nat × Value)) (B : Nat → Prop) (w0 : World) (rs : List RowT) (e : Exit) : Prop := ∀ a w, Fr n a env → Hp B w0 w rs → Q e a w
section wl2
variable {P : Program} {ops : Array Oper} {Q : Exit → Act → World → Prop} {n : Nat} {B : Nat → Prop} {w0 : World} {rs rs' : List RowT} {env env' : List (Nat × Value)} {l rest : List Oper} {o : Oper} {d : Nat} {fl : List ((Nat × Nat) × Nat)}
theorem Af (hfl : Og P fl) : ∀ {l : List Oper} {env : List (Nat × Value)}, Ll fl ops n l env = some (env', rest) → BU P ops Q n env' B w0 rs rest → BU P ops Q n env B w0 rs l
  | [], env, h, hk => by
    simp only [Ll, Option.some.injEq, Prod.mk.injEq] at h
    obtain ⟨rfl, rfl⟩ := h
    exact hk
  | o :: r, env, h, hk => by
    unfold Ll at h
    cases hw : wants ops o env with
    | none =>
      simp only [hw, Option.some.injEq, Prod.mk.injEq] at h
      obtain ⟨rfl, rfl⟩ := h
      exact hk
    | some b =>
      cases b with
      | false =>
        simp only [hw] at h
        cases hd : o.dst with
        | none => simp [hd] at h
        | some d =>
          simp only [hd] at h
          cases hn : Nat.blt d n with
          | false => simp [hn] at h
          | true =>
            simp only [hn] at h
            exact fun a w hF hH => No hF hw hd (EU hn) fun b hb => Af hfl h hk b w hb hH
      | true =>
        simp only [hw] at h
        cases hq : q1 fl o env with
        | none =>
          simp only [hq, Option.some.injEq, Prod.mk.injEq] at h
          obtain ⟨rfl, rfl⟩ := h
          exact hk
        | some v =>
          simp only [hq] at h
          cases hd : o.dst with
          | none => simp [hd] at h
          | some d =>
            simp only [hd] at h
            cases hn : Nat.blt d n with
            | false => simp [hn] at h
            | true =>
              simp only [hn] at h
              exact fun a w hF hH => R3 hF hw hd (EU hn) v (fun b hb => Ah hfl hq hb) fun b hb => Af hfl h hk b w hb hH
theorem Aa (h1 : Wq ops n o env = some d) (v : Value) (hrun : ∀ b w, Fr n b env → Hp B w0 w rs → (execOp b.eval o).run P w = .ok (.value v) w) (h : BU P ops Q n ((d, v) :: env) B w0 rs rest) : BU P ops Q n env B w0 rs (o :: rest) :=
 fun a w hF hH => R3 hF (Ch h1).1 (Ch h1).2.1 (Ch h1).2.2 v (fun b hb => hrun b w hb hH) fun b hb => h b w hb hH
theorem AG (h : CE Q n env B w0 rs .normal) : BU P ops Q n env B w0 rs [] := h
theorem Ab {y : Code} (h : AL P Q n env B w0 rs y) : BU P ops (Exit.then (fun a w => y.wp P Q a w) Q) n env B w0 rs [] := h
theorem BU.keep (hs : GG env env') (h : BU P ops Q n env' B w0 rs l) : BU P ops Q n env B w0 rs l := fun a w hF hH => h a w (hF.keep hs) hH
theorem AL.keep {c : Code} (hs : GG env env') (h : AL P Q n env' B w0 rs c) : AL P Q n env B w0 rs c := fun a w hF hH => h a w (hF.keep hs) hH
theorem CE.keep {e : Exit} (hs : GG env env') (h : CE Q n env' B w0 rs e) : CE Q n env B w0 rs e := fun a w hF hH => h a w (hF.keep hs) hH
end wl2
section wc2
variable {P : Program} {Q : Exit → Act → World → Prop} {n : Nat} {B : Nat → Prop} {w0 : World} {rs : List RowT} {env : List (Nat × Value)}
theorem Ad {id : Nat} {l : List Oper} {y : Code} (h : BU P l.toArray (Exit.then (fun a w => y.wp P Q a w) Q) n env B w0 rs l) : AL P Q n env B w0 rs (.seq (.region id l.toArray false) y) := fun a w hF hH => wp_seq (wp_region_lit (h a w hF hH))
theorem BB {id : Nat} {l : List Oper} (h : BU P l.toArray Q n env B w0 rs l) : AL P Q n env B w0 rs (.region id l.toArray false) := fun a w hF hH => wp_region_lit (h a w hF hH)
theorem Ar {x y : Code} (h : AL P (Exit.then (fun a w => y.wp P Q a w) Q) n env B w0 rs x) : AL P Q n env B w0 rs (.seq x y) := fun a w hF hH => wp_seq (h a w hF hH)
theorem AE {c : Operand} {x y : Code} (hc : evs env c = some (.bool true)) (h : AL P Q n env B w0 rs x) : AL P Q n env B w0 rs (.cond c x y) := fun a w hF hH => Np hF hc (h a w hF hH)
theorem Au {c : Operand} {x y : Code} (hc : evs env c = some (.bool false)) (h : AL P Q n env B w0 rs y) : AL P Q n env B w0 rs (.cond c x y) := fun a w hF hH => Nq hF hc (h a w hF hH)
theorem Av (h : CE Q n env B w0 rs .normal) : AL P Q n env B w0 rs .skip := fun a w hF hH => wp_skip (h a w hF hH)
theorem AB (h : CE Q n env B w0 rs .ret) : AL P Q n env B w0 rs .ret := fun a w hF hH => wp_ret (h a w hF hH)
theorem AK {id : Nat} {c : Code} (h : AL P (Exit.inBlock id Q) n env B w0 rs c) : AL P Q n env B w0 rs (.block id c) := fun a w hF hH => wp_block (h a w hF hH)
theorem CJ {id : Nat} (h : CE Q n env B w0 rs (.exit id)) : AL P Q n env B w0 rs (.exit id) := fun a w hF hH => wp_exit (h a w hF hH)
theorem AC {y : Code} (h : AL P Q n env B w0 rs y) : CE (Exit.then (fun a w => y.wp P Q a w) Q) n env B w0 rs .normal := h
theorem A6 {id : Nat} (h : CE Q n env B w0 rs .normal) : CE (Exit.inBlock id Q) n env B w0 rs .normal := h
theorem Ek {K : Act → World → Prop} (h : CE Q n env B w0 rs .ret) : CE (Exit.then K Q) n env B w0 rs .ret := h
theorem BH {id : Nat} (h : CE Q n env B w0 rs .ret) : CE (Exit.inBlock id Q) n env B w0 rs .ret := h
theorem Fq {K : Act → World → Prop} {id : Nat} (h : CE Q n env B w0 rs (.exit id)) : CE (Exit.then K Q) n env B w0 rs (.exit id) := h
theorem Bg {id : Nat} (h : CE Q n env B w0 rs .normal) : CE (Exit.inBlock id Q) n env B w0 rs (.exit id) := fun a w hF hH => (if_pos rfl).mpr (h a w hF hH)
theorem E7 {id id' : Nat} (hne : id' ≠ id) (h : CE Q n env B w0 rs (.exit id')) : CE (Exit.inBlock id Q) n env B w0 rs (.exit id') := fun a w hF hH => (if_neg hne).mpr (h a w hF hH)
variable {fn : Func} {R : Ending → World → Prop}
theorem Res2.res {r : ResultVar} {v : Value} {w : World} (h : Res2 P env rs r v) (hH : Hp B w0 w rs) : Res P env w r v := by
  cases h with
  | tmp h => exact .tmp h
  | cell i hv h hi => exact .cell h hv (hH.row i hi)
theorem Hj {r : ResultVar} {v : Value} {w : World} (h : Res2 P env rs r v) (hH : Hp B w0 w rs) : Res P env w r v := by
  cases h with
  | tmp h => exact .tmp h
  | cell i hv h hi => exact .cell h hv (hH.row i hi)
theorem AA {r1 : ResultVar} {v1 : Value} (h1 : Res2 P env rs r1 v1) (hR : ∀ w, Hp B w0 w rs → R (.returned v1) w) (hr : fn.results = #[r1]) : CE (bodyPost P fn R) n env B w0 rs .ret := fun _ w hF hH => WP hF hr (Hj h1 hH) (hR w hH)
theorem Co {r1 r2 : ResultVar} {v1 v2 : Value} (h1 : Res2 P env rs r1 v1) (h2 : Res2 P env rs r2 v2) (hR : ∀ w, Hp B w0 w rs → R (.returned (.tuple #[v1, v2])) w) (hr : fn.results = #[r1, r2]) : CE (bodyPost P fn R) n env B w0 rs .ret := fun _ w hF hH => WQ hF hr (Hj h1 hH) (Hj h2 hH) (hR w hH)
theorem JY (hR : ∀ w, Hp B w0 w rs → R (.returned (.tuple #[])) w) (hr : fn.results = #[]) : CE (bodyPost P fn R) n env B w0 rs .ret := fun _ w hF hH => WR hF hr (hR w hH)
theorem D5 (hR : ∀ w, Hp B w0 w rs → R (.returned (.tuple #[])) w) (hr : fn.results = #[]) : CE (bodyPost P fn R) n env B w0 rs .normal := fun _ w hF hH => Tk hF hr (hR w hH)
theorem Gi {f : FuncId} {c : Code} {args : List Value} {w : World} (n : Nat) (hf : P.funcs[f]? = some fn) (hb : fn.body = some c) (hn : fn.ntmps = n) (hs : Nat.ble args.length n = true) (h : AL P (bodyPost P fn R) n (FJ 0 args) Nil w [] c) : Calls P f args.toArray w R := Gp n hf hb hn (Nat.le_of_ble_eq_true hs) fun a hF => h a w hF (Hp.start w)
end wc2
section par2
variable {P : Program} {ops : Array Oper} {Q : Exit → Act → World → Prop} {n : Nat} {B : Nat → Prop} {w0 : World} {rs : List RowT} {env env0 : List (Nat × Value)} {jobs : List Job} {o : Oper} {deps : List Nat} {v : Value} {fl : List ((Nat × Nat) × Nat)} {kk : Nat}
def XH (P : Program) (ops : Array Oper) (Q : Exit → Act → World → Prop) (n : Nat) (jobs : List Job) (env0 : List (Nat × Value)) (B : Nat → Prop) (w0 : World) (rs : List RowT) (o : Oper) (j : Job) : Prop := ∀ w, Hp B w0 w rs → OB P ops Q n jobs env0 w o j
def Ey (P : Program) (ops : Array Oper) (Q : Exit → Act → World → Prop) (n : Nat) (jobs : List Job) (env0 : List (Nat × Value)) (B : Nat → Prop) (w0 : World) (rs : List RowT) : List Oper → List Job → Prop
  | o :: os, j :: js => XH P ops Q n jobs env0 B w0 rs o j ∧ Ey P ops Q n jobs env0 B w0 rs os js
  | _, _ => True
theorem Ey.all : ∀ {os : List Oper} {js : List Job}, Ey P ops Q n jobs env0 B w0 rs os js → ∀ w, Hp B w0 w rs → EQ P ops Q n w.heap.size jobs env0 (XB w) os js
  | [], _, _, _, _ => by unfold EQ; trivial
  | _ :: _, [], _, _, _ => by unfold EQ; trivial
  | _ :: _, _ :: _, h, w, hH => ⟨h.1 w hH, Ey.all h.2 w hH⟩
end par2
section orders2
variable {P : Program} {ops : Array Oper} {Q : Exit → Act → World → Prop} {n f i d : Nat} {B : Nat → Prop} {w0 : World} {rs : List RowT} {env env' : List (Nat × Value)} {listed : Array Bool} {o : Oper} {fl : List ((Nat × Nat) × Nat)}
def Oh (P : Program) (ops : Array Oper) (Q : Exit → Act → World → Prop) (n : Nat) (env : List (Nat × Value)) (B : Nat → Prop) (w0 : World) (rs : List RowT) (f : Nat) (listed : Array Bool) : Prop := ∀ a w, Fr n a env → Hp B w0 w rs → wpAny P .any ops Q f listed a w
end orders2
section loops
variable {P : Program} {Q : Exit → Act → World → Prop} {n : Nat} {B : Nat → Prop} {w0 : World} {rs rs' : List RowT} {env env' : List (Nat × Value)} {c : Code} {α : Type}
theorem AL.at_ (hs : GG env env') (hr : rs = rs') (h : AL P Q n env' B w0 rs' c) : AL P Q n env B w0 rs c := fun a w hF hH => h a w (hF.keep hs) (hr ▸ hH)
def KC (n : Nat) (B : Nat → Prop) (w0 : World) (E : α → List (Nat × Value)) (R : α → List RowT) (Inv : α → Prop) (μ : α → Nat) (x : α) : Act → World → Prop := fun a w => ∃ y, Inv y ∧ μ y < μ x ∧ Fr n a (E y) ∧ Hp B w0 w (R y)
theorem CC (E : α → List (Nat × Value)) (R : α → List RowT) (Inv : α → Prop) (μ : α → Nat) (x : α) (hx : Inv x) (hE : GG env (E x)) (hR : rs = R x) (h : ∀ x, Inv x → AL P (Exit.then (KC n B w0 E R Inv μ x) Q) n (E x) B w0 (R x) c) : AL P Q n env B w0 rs (.loop c) := by
  subst hR
  intro a w hF hH
  have key : ∀ m x, μ x < m → Inv x → ∀ a w, Fr n a (E x) → Hp B w0 w (R x) → Code.rounds P c Q m a w := by
    intro m
    induction m with
    | zero => intro x hx; omega
    | succ m ih =>
      intro x hm hx a w hF hH
      refine Code.wp_mono (fun e a' w' q => ?_) (h x hx a w hF hH)
      cases e with
      | normal =>
        obtain ⟨y, hy, hlt, hF', hH'⟩ := q
        exact ih y (by omega) hy a' w' hF' hH'
      | _ => exact q
  exact wp_loop_rounds _ (key _ x (Nat.lt_succ_self _) hx a w (hF.keep hE) hH)
theorem B6 {E : α → List (Nat × Value)} {R : α → List RowT} {Inv : α → Prop} {μ : α → Nat} {x : α} (y : α) (k : Nat) (hy : Inv y) (hμ : μ y < μ x) (hs : GG env (E y)) (hr : rs.drop k = R y) : CE (Exit.then (KC n B w0 E R Inv μ x) Q) n env B w0 rs .normal := fun _ _ hF hH => ⟨y, hy, hμ, hF.keep hs, hr ▸ hH.drop k⟩
end loops
section orders3
variable {P : Program} {ops : Array Oper} {Q : Exit → Act → World → Prop} {n fu i d : Nat} {B : Nat → Prop} {w0 : World} {rs : List RowT} {env : List (Nat × Value)} {listed : Array Bool} {o : Oper}
end orders3
section textsBs
variable {P : Program} {ops : Array Oper} {Q : Exit → Act → World → Prop} {n d : Nat} {B : Nat → Prop} {w0 : World} {rs : List RowT} {env env0 : List (Nat × Value)} {rest : List Oper} {o : Oper} {a : Act} {w : World} {jobs : List Job} {deps : List Nat} {kk : Nat}
end textsBs
section textsBytes
variable {P : Program} {ops : Array Oper} {Q : Exit → Act → World → Prop} {n : Nat} {B : Nat → Prop} {w0 w : World} {rs : List RowT} {env : List (Nat × Value)} {rest : List Oper} {o : Oper} {d : Nat}
end textsBytes
section par3
variable {P : Program} {ops : Array Oper} {Q : Exit → Act → World → Prop} {n : Nat} {B : Nat → Prop} {w0 : World} {rs : List RowT} {env : List (Nat × Value)}
theorem Oh.keep {f : Nat} {env' : List (Nat × Value)} {listed : Array Bool} (hs : GG env env') (h : Oh P ops Q n env' B w0 rs f listed) : Oh P ops Q n env B w0 rs f listed := fun a w hF hH => h a w (hF.keep hs) hH
end par3
section par4
variable {P : Program} {ops : Array Oper} {Q : Exit → Act → World → Prop} {n : Nat} {B : Nat → Prop} {w0 : World} {rs : List RowT} {env : List (Nat × Value)}
def WV (n : Nat) (B : Nat → Prop) (w0 : World) (E : List (Nat × Value)) (R : List RowT) : Exit → Act → World → Prop := fun e a w => e = .normal ∧ Fr n a E ∧ Hp B w0 w R
theorem Q3 {E : List (Nat × Value)} {R : List RowT} (k : Nat) (hs : GG env E) (hr : rs.drop k = R) : CE (WV n B w0 E R) n env B w0 rs .normal := fun _ _ hF hH => ⟨rfl, hF.keep hs, hr ▸ hH.drop k⟩
end par4
end Go.Proofs.YtjcfimmcogkopaaGreatDoor.Mem
