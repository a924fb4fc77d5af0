/-
  ParO · ParE · Mem
-/
import Derived.Test.YtnebloeideodmaaPA03
set_option linter.unusedSimpArgs false
set_option linter.unusedVariables false
namespace Go.Proofs.Ytnebloeideodmaa
open Go.RowKit
section main
variable {P : Program} {ops : Array Oper} {Q : Exit → Act → World → Prop} {n B : Nat} {jobs : List Job} {env0 : List (Nat × Value)} {Φ : Nat → List Value → World → Prop} {D m : Nat}
end main
section par3
variable {P : Program} {ops : Array Oper} {Q : Exit → Act → World → Prop} {n B : Nat} {w0 : World} {rs : List RowT} {env : List (Nat × Value)}
theorem Lo.keep {f : Nat} {env' : List (Nat × Value)} {listed : Array Bool} (hs : Dy env env') (h : Lo P ops Q n env' B w0 rs f listed) : Lo P ops Q n env B w0 rs f listed := fun a w hF hH => h a w (hF.keep hs) hH
end par3
end Go.Proofs.Ytnebloeideodmaa
namespace Go.Proofs.Ytnebloeideodmaa
open Go.RowKit
def Gq : List Nat → (List Nat → Prop) → Prop
  | [], P => P []
  | x :: xs, P => Gq xs P ∧ Gq xs fun l => P (x :: l)
theorem Gq.filter {c : Nat → Bool} : ∀ {out : List Nat} {P : List Nat → Prop}, Gq out P → P (out.filter c)
  | [], _, h => h
  | x :: xs, P, h => by
    cases hc : c x with
    | true => rw [List.filter_cons_of_pos hc]; exact Gq.filter (P := fun l => P (x :: l)) h.2
    | false => rw [List.filter_cons_of_neg (by rw [hc]; simp)]; exact Gq.filter (P := P) h.1
section par4
variable {P : Program} {ops : Array Oper} {Q : Exit → Act → World → Prop} {n B : Nat} {w0 : World} {rs : List RowT} {env : List (Nat × Value)}
def Rk (n : Nat) (B : Nat) (w0 : World) (E : List (Nat × Value)) (R : List RowT) : Exit → Act → World → Prop := fun e a w => e = .normal ∧ Fr n a E ∧ Hp B w0 w R
theorem LK {c : Code} (E : List (Nat × Value)) (R : List RowT) (h1 : AY P (Rk n B w0 E R) n env B w0 rs c) (h2 : BW Q n E B w0 R .normal) : AY P Q n env B w0 rs c := fun a w hF hH => Code.wp_mono (fun e a' w' (h : Rk n B w0 E R e a' w') => by obtain ⟨he, hF', hH'⟩ := h; subst he; exact h2 a' w' hF' hH') (h1 a w hF hH)
theorem Dj {E : List (Nat × Value)} {R : List RowT} (k : Nat) (hs : Dy env E) (hr : rs.drop k = R) : BW (Rk n B w0 E R) n env B w0 rs .normal := fun _ _ hF hH => ⟨rfl, hF.keep hs, hr ▸ hH.drop k⟩
end par4
end Go.Proofs.Ytnebloeideodmaa
namespace Go.Proofs.Ytnebloeideodmaa.Mem
open Go.RowKit
def AM : List RowT → Prop
  | [] => True
  | x :: r => (∀ y ∈ r, y.1 ≠ x.1) ∧ AM r
def BA (a : List RowT) : Nat → Prop := fun k => ∃ x ∈ a, x.1 = k
structure Hp (B : Nat → Prop) (w0 w : World) (rs : List RowT) : Prop where
  up : Mod B w0 w
  rows : RowsOf w rs
  apart : AM rs
  own : ∀ x ∈ rs, x.1 < w0.heap.size → B x.1
section hp
variable {B : Nat → Prop} {w0 w w' : World} {rs : List RowT}
theorem AM.set : ∀ {rs : List RowT} {i : Nat} {c : Array Value}, AM rs → AM (De rs i c)
  | [], _, _, _ => trivial
  | (g, t, _) :: r, 0, c, h => h
  | x :: r, i + 1, c, h => ⟨fun y hy => by obtain ⟨z, hz, e⟩ := ED y hy; rw [← e]; exact h.1 z hz, AM.set h.2⟩
theorem AM.drop : ∀ {rs : List RowT} (k : Nat), AM rs → AM (rs.drop k)
  | _, 0, h => h
  | [], k + 1, _ => trivial
  | x :: r, k + 1, h => AM.drop (rs := r) k h.2
theorem AM.at_ : ∀ {rs : List RowT}, AM rs → ∀ {i j : Nat} {x y : RowT}, rs[i]? = some x → rs[j]? = some y → i ≠ j → x.1 ≠ y.1
  | [], _, i, j, x, y, hi, _, _ => by simp at hi
  | z :: r, h, 0, 0, x, y, _, _, hn => absurd rfl hn
  | z :: r, h, 0, j + 1, x, y, hi, hj, _ => by
    simp only [List.getElem?_cons_zero, Option.some.injEq] at hi
    simp only [List.getElem?_cons_succ] at hj
    subst hi
    exact Ne.symm (h.1 y (List.mem_of_getElem? hj))
  | z :: r, h, i + 1, 0, x, y, hi, hj, _ => by
    simp only [List.getElem?_cons_zero, Option.some.injEq] at hj
    simp only [List.getElem?_cons_succ] at hi
    subst hj
    exact h.1 x (List.mem_of_getElem? hi)
  | z :: r, h, i + 1, j + 1, x, y, hi, hj, hn => by
    simp only [List.getElem?_cons_succ] at hi hj
    exact AM.at_ h.2 hi hj (by omega)
theorem Hp.start (w : World) : Hp NY w w [] := ⟨Mod.refl _ w, trivial, trivial, fun x hx => by simp at hx⟩
theorem Hp.given {a : List RowT} (h : RowsOf w a) (hd : AM a) : Hp (BA a) w w a := ⟨Mod.refl _ w, h, hd, fun x hx _ => ⟨x, hx, rfl⟩⟩
theorem Hp.row (h : Hp B w0 w rs) (i : Nat) {g : Nat} {t : TypeId} {cs : Array Value} (hi : rs[i]? = some (g, EC t, cs)) : CF w g t cs := h.rows.at_ i g t cs hi
theorem Hp.call (h : Hp B w0 w rs) (hb : Below w.heap.size w w') : Hp B w0 w' rs := ⟨h.up.trans (T := NY) (Mod.of_below hb NY) (fun _ _ hf => hf.elim), h.rows.map_ fun _ _ r => r.old hb, h.apart, h.own⟩
theorem Hp.new (h : Hp B w0 w rs) (t : TypeId) (cs : Array Value) : Hp B w0 (w.alloc (.cells cs t)) ((w.heap.size, EC t, cs) :: rs) :=
  ⟨h.up.alloc _, ⟨CF.new w t cs, h.rows.map_ fun _ _ r => r.alloc _⟩, ⟨fun y hy => by have := (h.rows.mem y hy).lt; show y.1 ≠ w.heap.size; omega, h.apart⟩, fun x hx hlt => by
    rcases List.mem_cons.1 hx with rfl | hx
    · have := h.up.size; exact absurd hlt (by show ¬ w.heap.size < w0.heap.size; omega)
    · exact h.own x hx hlt⟩
theorem Hp.set (h : Hp B w0 w rs) : ∀ (i : Nat) {g : Nat} {t : TypeId} {cs c : Array Value}, rs[i]? = some (g, EC t, cs) → Mod (Jl g) w w' → CF w' g t c → Hp B w0 w' (De rs i c) := by
  intro i g t cs c hi hm hR
  have hmem : (g, EC t, cs) ∈ rs := List.mem_of_getElem? hi
  refine ⟨h.up.trans hm (fun j hj e => by unfold Jl at e; subst e; exact h.own _ hmem hj), ?_, h.apart.set, fun x hx hlt => ?_⟩
  · have key : ∀ {rs : List RowT} (i : Nat), RowsOf w rs → AM rs → rs[i]? = some (g, EC t, cs) → RowsOf w' (De rs i c) := by
      intro rs
      induction rs with
      | nil => intro i _ _ hi; simp at hi
      | cons x r ih =>
        intro i hr ha hi
        obtain ⟨g', t', cs'⟩ := x
        cases i with
        | zero =>
          simp only [List.getElem?_cons_zero, Option.some.injEq, Prod.mk.injEq] at hi
          obtain ⟨rfl, rfl, rfl⟩ := hi
          exact ⟨hR, hr.2.map_ fun y hy r => r.mod_ne hm (ha.1 y hy)⟩
        | succ i =>
          simp only [List.getElem?_cons_succ] at hi
          refine ⟨hr.1.mod_ne hm (fun e => ?_), ih i hr.2 ha.2 hi⟩
          exact ha.1 _ (List.mem_of_getElem? hi) e.symm
    exact key i h.rows h.apart hi
  · obtain ⟨z, hz, e⟩ := ED x hx
    rw [← e] at hlt ⊢
    exact h.own z hz hlt
theorem Hp.drew (h : Hp B w0 w rs) : Hp B w0 w.drew rs := ⟨h.up.drew, h.rows.map_ fun _ _ r => r.drew, h.apart, h.own⟩
theorem Hp.drop (h : Hp B w0 w rs) (k : Nat) : Hp B w0 w (rs.drop k) := ⟨h.up, h.rows.drop k, h.apart.drop k, fun x hx => h.own x (List.mem_of_mem_drop hx)⟩
theorem Aq {a b : World} (h : Mod NY a b) : Below a.heap.size a b := h.below (Nat.le_refl _) (fun _ hf => hf.elim)
end hp
def SG (ids : List Nat) (rs : List RowT) : List RowT := ids.filterMap (rs[·]?)
def Eb (ids : List Nat) : Nat → List RowT → List RowT
  | _, [] => []
  | k, x :: r => if ids.elem k then Eb ids (k + 1) r else x :: Eb ids (k + 1) r
def VG (ids : List Nat) (rs : List RowT) : List RowT := Eb ids 0 rs
section parts
variable {w : World} {rs : List RowT} {ids : List Nat}
theorem IL {x : RowT} (h : x ∈ SG ids rs) : ∃ i ∈ ids, rs[i]? = some x := by
 obtain ⟨i, hi, e⟩ := List.mem_filterMap.1 h
 exact ⟨i, hi, e⟩
theorem DB : ∀ {rs : List RowT} {k : Nat} {x : RowT}, x ∈ Eb ids k rs → ∃ i, k + i ∉ ids ∧ rs[i]? = some x
  | [], _, _, h => by simp [Eb] at h
  | y :: r, k, x, h => by
    unfold Eb at h
    by_cases hk : ids.elem k
    · rw [if_pos hk] at h
      obtain ⟨i, h1, h2⟩ := DB h
      exact ⟨i + 1, by rwa [show k + (i + 1) = k + 1 + i by omega], by simpa using h2⟩
    · rw [if_neg hk] at h
      rcases List.mem_cons.1 h with rfl | h
      · exact ⟨0, by simpa using hk, rfl⟩
      · obtain ⟨i, h1, h2⟩ := DB h
        exact ⟨i + 1, by rwa [show k + (i + 1) = k + 1 + i by omega], by simpa using h2⟩
theorem RowsOf.ofAll : ∀ {l : List RowT}, (∀ x ∈ l, Ci w x) → RowsOf w l
  | [], _ => trivial
  | (g, t, cs) :: r, h => ⟨h (g, t, cs) (by simp), RowsOf.ofAll fun x hx => h x (by simp [hx])⟩
theorem Rl (h : RowsOf w rs) : RowsOf w (SG ids rs) := RowsOf.ofAll fun x hx => by
 obtain ⟨i, _, e⟩ := IL hx
 exact h.mem x (List.mem_of_getElem? e)
theorem Rm (h : RowsOf w rs) : RowsOf w (VG ids rs) := RowsOf.ofAll fun x hx => by
 obtain ⟨i, _, e⟩ := DB hx
 exact h.mem x (List.mem_of_getElem? e)
theorem Fe : ∀ {rs : List RowT} {k : Nat}, AM rs → AM (Eb ids k rs)
  | [], _, _ => trivial
  | y :: r, k, h => by
    unfold Eb
    split
    · exact Fe h.2
    · refine ⟨fun z hz => ?_, Fe h.2⟩
      obtain ⟨i, _, e⟩ := DB hz
      exact h.1 z (List.mem_of_getElem? e)
theorem LL : ∀ {ids : List Nat}, ids.Nodup → AM rs → AM (SG ids rs)
  | [], _, _ => trivial
  | i :: r, hn, h => by
    have hn' := List.nodup_cons.1 hn
    have hr := LL hn'.2 h
    unfold SG at hr ⊢
    cases hi : rs[i]? with
    | none => simpa [List.filterMap_cons, hi] using hr
    | some x =>
      simp only [List.filterMap_cons, hi]
      refine ⟨fun y hy => ?_, hr⟩
      obtain ⟨j, hj, e⟩ := IL hy
      exact h.at_ e hi (fun e' => hn'.1 (e' ▸ hj))
theorem dist_app : ∀ {a b : List RowT}, AM a → AM b → (∀ x ∈ a, ∀ y ∈ b, y.1 ≠ x.1) → AM (a ++ b)
  | [], _, _, hb, _ => hb
  | x :: r, b, ha, hb, h => ⟨fun y hy => by
      rcases List.mem_append.1 hy with hy | hy
      · exact ha.1 y hy
      · exact h x (by simp) y hy, dist_app ha.2 hb fun z hz => h z (by simp [hz])⟩
end parts
structure Chg (w w' : World) (a b : List RowT) : Prop where
  mod : Mod (BA a) w w'
  rows : RowsOf w' b
  dist : AM b
  from_ : ∀ x ∈ b, x.1 < w.heap.size → BA a x.1
section chg
variable {B : Nat → Prop} {w0 w w' : World} {rs a b : List RowT}
theorem Hp.chg (h : Hp B w0 w rs) (ids : List Nat) (hc : Chg w w' (SG ids rs) b) : Hp B w0 w' (b ++ VG ids rs) := by
  have hsel : ∀ x ∈ SG ids rs, x ∈ rs := fun x hx => by obtain ⟨i, _, e⟩ := IL hx; exact List.mem_of_getElem? e
  have hne : ∀ x ∈ SG ids rs, ∀ y ∈ VG ids rs, y.1 ≠ x.1 := fun x hx y hy => by
    obtain ⟨i, hi, e⟩ := IL hx
    obtain ⟨j, hj, e'⟩ := DB hy
    rw [Nat.zero_add] at hj
    exact h.apart.at_ e' e (fun e => hj (e ▸ hi))
  have hnb : ∀ y ∈ VG ids rs, ¬ BA (SG ids rs) y.1 := fun y hy ⟨x, hx, e⟩ => hne x hx y hy e.symm
  have hold : ∀ y ∈ VG ids rs, Ci w y := fun y hy => (Rm (ids := ids) h.rows).mem y hy
  refine ⟨h.up.trans hc.mod (fun j hj ⟨x, hx, e⟩ => e ▸ h.own x (hsel x hx) (e ▸ hj)), ?_, ?_, ?_⟩
  · exact RowsOf.ofAll fun x hx => by
      rcases List.mem_append.1 hx with hx | hx
      · exact hc.rows.mem x hx
      · exact (hold x hx).mod hc.mod (hnb x hx)
  · refine dist_app hc.dist (Fe h.apart) fun x hx y hy e => ?_
    have hlt := (hold y hy).lt
    rw [e] at hlt
    exact hnb y hy (e ▸ hc.from_ x hx hlt)
  · intro x hx hlt
    rcases List.mem_append.1 hx with hx | hx
    · have := h.up.size
      obtain ⟨y, hy, e⟩ := hc.from_ x hx (by omega)
      exact e ▸ h.own y (hsel y hy) (e ▸ hlt)
    · obtain ⟨j, _, e'⟩ := DB hx
      exact h.own x (List.mem_of_getElem? e') hlt
theorem Hp.tell (h : Hp (BA a) w0 w rs) (ids : List Nat) (hn : ids.Nodup) : Chg w0 w a (SG ids rs) := ⟨h.up, Rl h.rows, LL hn h.apart, fun x hx hlt => by
 obtain ⟨i, _, e⟩ := IL hx
 exact h.own x (List.mem_of_getElem? e) hlt⟩
end chg
def BM (P : Program) (ops : Array Oper) (Q : Exit → Act → World → Prop) (n : Nat) (env : List (Nat × Value)) (B : Nat → Prop) (w0 : World) (rs : List RowT) (l : List Oper) : Prop := ∀ a w, Fr n a env → Hp B w0 w rs → wpList P ops Q l a w
def AY (P : Program) (Q : Exit → Act → World → Prop) (n : Nat) (env : List (Nat × Value)) (B : Nat → Prop) (w0 : World) (rs : List RowT) (c : Code) : Prop := ∀ a w, Fr n a env → Hp B w0 w rs → c.wp P Q a w
def BW (Q : Exit → Act → World → Prop) (n : Nat) (env : List (Nat × Value)) (B : Nat → Prop) (w0 : World) (rs : List RowT) (e : Exit) : Prop := ∀ a w, Fr n a env → Hp B w0 w rs → Q e a w
section wl2
variable {P : Program} {ops : Array Oper} {Q : Exit → Act → World → Prop} {n : Nat} {B : Nat → Prop} {w0 : World} {rs rs' : List RowT} {env env' : List (Nat × Value)} {l rest : List Oper} {o : Oper} {d : Nat} {fl : List ((Nat × Nat) × Nat)}
theorem Ag (hfl : O4 P fl) : ∀ {l : List Oper} {env : List (Nat × Value)}, Ip fl ops n l env = some (env', rest) → BM P ops Q n env' B w0 rs rest → BM P ops Q n env B w0 rs l
  | [], env, h, hk => by
    simp only [Ip, Option.some.injEq, Prod.mk.injEq] at h
    obtain ⟨rfl, rfl⟩ := h
    exact hk
  | o :: r, env, h, hk => by
    unfold Ip at h
    cases hw : wants ops o env with
    | none =>
      simp only [hw, Option.some.injEq, Prod.mk.injEq] at h
      obtain ⟨rfl, rfl⟩ := h
      exact hk
    | some b =>
      cases b with
      | false =>
        simp only [hw] at h
        cases hd : o.dst with
        | none => simp [hd] at h
        | some d =>
          simp only [hd] at h
          cases hn : Nat.blt d n with
          | false => simp [hn] at h
          | true =>
            simp only [hn] at h
            exact fun a w hF hH => J7 hF hw hd (DA hn) fun b hb => Ag hfl h hk b w hb hH
      | true =>
        simp only [hw] at h
        cases hq : q1 fl o env with
        | none =>
          simp only [hq, Option.some.injEq, Prod.mk.injEq] at h
          obtain ⟨rfl, rfl⟩ := h
          exact hk
        | some v =>
          simp only [hq] at h
          cases hd : o.dst with
          | none => simp [hd] at h
          | some d =>
            simp only [hd] at h
            cases hn : Nat.blt d n with
            | false => simp [hn] at h
            | true =>
              simp only [hn] at h
              exact fun a w hF hH => OY hF hw hd (DA hn) v (fun b hb => Ah hfl hq hb) fun b hb => Ag hfl h hk b w hb hH
theorem Ac (h1 : SS ops n o env = some d) (v : Value) (hrun : ∀ b w, Fr n b env → Hp B w0 w rs → (execOp b.eval o).run P w = .ok (.value v) w) (h : BM P ops Q n ((d, v) :: env) B w0 rs rest) : BM P ops Q n env B w0 rs (o :: rest) :=
 fun a w hF hH => OY hF (Bm h1).1 (Bm h1).2.1 (Bm h1).2.2 v (fun b hb => hrun b w hb hH) fun b hb => h b w hb hH
theorem AE (h : BW Q n env B w0 rs .normal) : BM P ops Q n env B w0 rs [] := h
theorem Ae {y : Code} (h : AY P Q n env B w0 rs y) : BM P ops (Exit.then (fun a w => y.wp P Q a w) Q) n env B w0 rs [] := h
theorem BM.keep (hs : Dy env env') (h : BM P ops Q n env' B w0 rs l) : BM P ops Q n env B w0 rs l := fun a w hF hH => h a w (hF.keep hs) hH
theorem AY.keep {c : Code} (hs : Dy env env') (h : AY P Q n env' B w0 rs c) : AY P Q n env B w0 rs c := fun a w hF hH => h a w (hF.keep hs) hH
theorem BW.keep {e : Exit} (hs : Dy env env') (h : BW Q n env' B w0 rs e) : BW Q n env B w0 rs e := fun a w hF hH => h a w (hF.keep hs) hH
end wl2
section wc2
variable {P : Program} {Q : Exit → Act → World → Prop} {n : Nat} {B : Nat → Prop} {w0 : World} {rs : List RowT} {env : List (Nat × Value)}
theorem Af {id : Nat} {l : List Oper} {y : Code} (h : BM P l.toArray (Exit.then (fun a w => y.wp P Q a w) Q) n env B w0 rs l) : AY P Q n env B w0 rs (.seq (.region id l.toArray false) y) := fun a w hF hH => wp_seq (wp_region_lit (h a w hF hH))
theorem AR {id : Nat} {l : List Oper} (h : BM P l.toArray Q n env B w0 rs l) : AY P Q n env B w0 rs (.region id l.toArray false) := fun a w hF hH => wp_region_lit (h a w hF hH)
theorem Ax {x y : Code} (h : AY P (Exit.then (fun a w => y.wp P Q a w) Q) n env B w0 rs x) : AY P Q n env B w0 rs (.seq x y) := fun a w hF hH => wp_seq (h a w hF hH)
theorem AC {c : Operand} {x y : Code} (hc : evs env c = some (.bool true)) (h : AY P Q n env B w0 rs x) : AY P Q n env B w0 rs (.cond c x y) := fun a w hF hH => Ka hF hc (h a w hF hH)
theorem Az {c : Operand} {x y : Code} (hc : evs env c = some (.bool false)) (h : AY P Q n env B w0 rs y) : AY P Q n env B w0 rs (.cond c x y) := fun a w hF hH => Kb hF hc (h a w hF hH)
theorem AK (h : BW Q n env B w0 rs .normal) : AY P Q n env B w0 rs .skip := fun a w hF hH => wp_skip (h a w hF hH)
theorem Aw (h : BW Q n env B w0 rs .ret) : AY P Q n env B w0 rs .ret := fun a w hF hH => wp_ret (h a w hF hH)
theorem AN {id : Nat} {c : Code} (h : AY P (Exit.inBlock id Q) n env B w0 rs c) : AY P Q n env B w0 rs (.block id c) := fun a w hF hH => wp_block (h a w hF hH)
theorem B6 {id : Nat} (h : BW Q n env B w0 rs (.exit id)) : AY P Q n env B w0 rs (.exit id) := fun a w hF hH => wp_exit (h a w hF hH)
theorem AJ {y : Code} (h : AY P Q n env B w0 rs y) : BW (Exit.then (fun a w => y.wp P Q a w) Q) n env B w0 rs .normal := h
theorem AU {id : Nat} (h : BW Q n env B w0 rs .normal) : BW (Exit.inBlock id Q) n env B w0 rs .normal := h
theorem Cc {K : Act → World → Prop} (h : BW Q n env B w0 rs .ret) : BW (Exit.then K Q) n env B w0 rs .ret := h
theorem AA {id : Nat} (h : BW Q n env B w0 rs .ret) : BW (Exit.inBlock id Q) n env B w0 rs .ret := h
theorem ES {K : Act → World → Prop} {id : Nat} (h : BW Q n env B w0 rs (.exit id)) : BW (Exit.then K Q) n env B w0 rs (.exit id) := h
theorem AQ {id : Nat} (h : BW Q n env B w0 rs .normal) : BW (Exit.inBlock id Q) n env B w0 rs (.exit id) := fun a w hF hH => (if_pos rfl).mpr (h a w hF hH)
variable {fn : Func} {R : Ending → World → Prop}
theorem Res2.res {r : ResultVar} {v : Value} {w : World} (h : Res2 P env rs r v) (hH : Hp B w0 w rs) : Res P env w r v := by
  cases h with
  | tmp h => exact .tmp h
  | cell i hv h hi => exact .cell h hv (hH.row i hi)
theorem ER {r : ResultVar} {v : Value} {w : World} (h : Res2 P env rs r v) (hH : Hp B w0 w rs) : Res P env w r v := by
  cases h with
  | tmp h => exact .tmp h
  | cell i hv h hi => exact .cell h hv (hH.row i hi)
theorem Ar {r1 : ResultVar} {v1 : Value} (h1 : Res2 P env rs r1 v1) (hR : ∀ w, Hp B w0 w rs → R (.returned v1) w) (hr : fn.results = #[r1]) : BW (bodyPost P fn R) n env B w0 rs .ret := fun _ w hF hH => T2 hF hr (ER h1 hH) (hR w hH)
theorem BU {r1 r2 : ResultVar} {v1 v2 : Value} (h1 : Res2 P env rs r1 v1) (h2 : Res2 P env rs r2 v2) (hR : ∀ w, Hp B w0 w rs → R (.returned (.tuple #[v1, v2])) w) (hr : fn.results = #[r1, r2]) : BW (bodyPost P fn R) n env B w0 rs .ret := fun _ w hF hH => T3 hF hr (ER h1 hH) (ER h2 hH) (hR w hH)
theorem DJ (hR : ∀ w, Hp B w0 w rs → R (.returned (.tuple #[])) w) (hr : fn.results = #[]) : BW (bodyPost P fn R) n env B w0 rs .normal := fun _ w hF hH => Qn hF hr (hR w hH)
theorem Fw {f : FuncId} {c : Code} {args : List Value} {w : World} (n : Nat) (hf : P.funcs[f]? = some fn) (hb : fn.body = some c) (hn : fn.ntmps = n) (hs : Nat.ble args.length n = true) (h : AY P (bodyPost P fn R) n (EM 0 args) NY w [] c) : Calls P f args.toArray w R := FG n hf hb hn (Nat.le_of_ble_eq_true hs) fun a hF => h a w hF (Hp.start w)
end wc2
section par2
variable {P : Program} {ops : Array Oper} {Q : Exit → Act → World → Prop} {n : Nat} {B : Nat → Prop} {w0 : World} {rs : List RowT} {env env0 : List (Nat × Value)} {jobs : List Job} {o : Oper} {deps : List Nat} {v : Value} {fl : List ((Nat × Nat) × Nat)} {kk : Nat}
def VT (P : Program) (ops : Array Oper) (Q : Exit → Act → World → Prop) (n : Nat) (jobs : List Job) (env0 : List (Nat × Value)) (B : Nat → Prop) (w0 : World) (rs : List RowT) (o : Oper) (j : Job) : Prop := ∀ w, Hp B w0 w rs → OB P ops Q n jobs env0 w o j
def Df (P : Program) (ops : Array Oper) (Q : Exit → Act → World → Prop) (n : Nat) (jobs : List Job) (env0 : List (Nat × Value)) (B : Nat → Prop) (w0 : World) (rs : List RowT) : List Oper → List Job → Prop
  | o :: os, j :: js => VT P ops Q n jobs env0 B w0 rs o j ∧ Df P ops Q n jobs env0 B w0 rs os js
  | _, _ => True
theorem Df.all : ∀ {os : List Oper} {js : List Job}, Df P ops Q n jobs env0 B w0 rs os js → ∀ w, Hp B w0 w rs → Dv P ops Q n w.heap.size jobs env0 (VC w) os js
  | [], _, _, _, _ => by unfold Dv; trivial
  | _ :: _, [], _, _, _ => by unfold Dv; trivial
  | _ :: _, _ :: _, h, w, hH => ⟨h.1 w hH, Df.all h.2 w hH⟩
end par2
section orders2
variable {P : Program} {ops : Array Oper} {Q : Exit → Act → World → Prop} {n f i d : Nat} {B : Nat → Prop} {w0 : World} {rs : List RowT} {env env' : List (Nat × Value)} {listed : Array Bool} {o : Oper} {fl : List ((Nat × Nat) × Nat)}
def Lo (P : Program) (ops : Array Oper) (Q : Exit → Act → World → Prop) (n : Nat) (env : List (Nat × Value)) (B : Nat → Prop) (w0 : World) (rs : List RowT) (f : Nat) (listed : Array Bool) : Prop := ∀ a w, Fr n a env → Hp B w0 w rs → wpAny P .any ops Q f listed a w
end orders2
section loops
variable {P : Program} {Q : Exit → Act → World → Prop} {n : Nat} {B : Nat → Prop} {w0 : World} {rs rs' : List RowT} {env env' : List (Nat × Value)} {c : Code} {α : Type}
theorem AY.at_ (hs : Dy env env') (hr : rs = rs') (h : AY P Q n env' B w0 rs' c) : AY P Q n env B w0 rs c := fun a w hF hH => h a w (hF.keep hs) (hr ▸ hH)
def HU (n : Nat) (B : Nat → Prop) (w0 : World) (E : α → List (Nat × Value)) (R : α → List RowT) (Inv : α → Prop) (μ : α → Nat) (x : α) : Act → World → Prop := fun a w => ∃ y, Inv y ∧ μ y < μ x ∧ Fr n a (E y) ∧ Hp B w0 w (R y)
theorem Cw (E : α → List (Nat × Value)) (R : α → List RowT) (Inv : α → Prop) (μ : α → Nat) (x : α) (hx : Inv x) (hE : Dy env (E x)) (hR : rs = R x) (h : ∀ x, Inv x → AY P (Exit.then (HU n B w0 E R Inv μ x) Q) n (E x) B w0 (R x) c) : AY P Q n env B w0 rs (.loop c) := by
  subst hR
  intro a w hF hH
  have key : ∀ m x, μ x < m → Inv x → ∀ a w, Fr n a (E x) → Hp B w0 w (R x) → Code.rounds P c Q m a w := by
    intro m
    induction m with
    | zero => intro x hx; omega
    | succ m ih =>
      intro x hm hx a w hF hH
      refine Code.wp_mono (fun e a' w' q => ?_) (h x hx a w hF hH)
      cases e with
      | normal =>
        obtain ⟨y, hy, hlt, hF', hH'⟩ := q
        exact ih y (by omega) hy a' w' hF' hH'
      | _ => exact q
  exact wp_loop_rounds _ (key _ x (Nat.lt_succ_self _) hx a w (hF.keep hE) hH)
theorem BS {E : α → List (Nat × Value)} {R : α → List RowT} {Inv : α → Prop} {μ : α → Nat} {x : α} (y : α) (k : Nat) (hy : Inv y) (hμ : μ y < μ x) (hs : Dy env (E y)) (hr : rs.drop k = R y) : BW (Exit.then (HU n B w0 E R Inv μ x) Q) n env B w0 rs .normal := fun _ _ hF hH => ⟨y, hy, hμ, hF.keep hs, hr ▸ hH.drop k⟩
end loops
section orders3
variable {P : Program} {ops : Array Oper} {Q : Exit → Act → World → Prop} {n fu i d : Nat} {B : Nat → Prop} {w0 : World} {rs : List RowT} {env : List (Nat × Value)} {listed : Array Bool} {o : Oper}
end orders3
section textsBs
variable {P : Program} {ops : Array Oper} {Q : Exit → Act → World → Prop} {n d : Nat} {B : Nat → Prop} {w0 : World} {rs : List RowT} {env env0 : List (Nat × Value)} {rest : List Oper} {o : Oper} {a : Act} {w : World} {jobs : List Job} {deps : List Nat} {kk : Nat}
end textsBs
section textsBytes
variable {P : Program} {ops : Array Oper} {Q : Exit → Act → World → Prop} {n : Nat} {B : Nat → Prop} {w0 w : World} {rs : List RowT} {env : List (Nat × Value)} {rest : List Oper} {o : Oper} {d : Nat}
end textsBytes
section par3
variable {P : Program} {ops : Array Oper} {Q : Exit → Act → World → Prop} {n : Nat} {B : Nat → Prop} {w0 : World} {rs : List RowT} {env : List (Nat × Value)}
theorem Lo.keep {f : Nat} {env' : List (Nat × Value)} {listed : Array Bool} (hs : Dy env env') (h : Lo P ops Q n env' B w0 rs f listed) : Lo P ops Q n env B w0 rs f listed := fun a w hF hH => h a w (hF.keep hs) hH
end par3
section par4
variable {P : Program} {ops : Array Oper} {Q : Exit → Act → World → Prop} {n : Nat} {B : Nat → Prop} {w0 : World} {rs : List RowT} {env : List (Nat × Value)}
def Rk (n : Nat) (B : Nat → Prop) (w0 : World) (E : List (Nat × Value)) (R : List RowT) : Exit → Act → World → Prop := fun e a w => e = .normal ∧ Fr n a E ∧ Hp B w0 w R
theorem LK {c : Code} (E : List (Nat × Value)) (R : List RowT) (h1 : AY P (Rk n B w0 E R) n env B w0 rs c) (h2 : BW Q n E B w0 R .normal) : AY P Q n env B w0 rs c := fun a w hF hH => Code.wp_mono (fun e a' w' (h : Rk n B w0 E R e a' w') => by obtain ⟨he, hF', hH'⟩ := h; subst he; exact h2 a' w' hF' hH') (h1 a w hF hH)
theorem Dj {E : List (Nat × Value)} {R : List RowT} (k : Nat) (hs : Dy env E) (hr : rs.drop k = R) : BW (Rk n B w0 E R) n env B w0 rs .normal := fun _ _ hF hH => ⟨rfl, hF.keep hs, hr ▸ hH.drop k⟩
end par4
end Go.Proofs.Ytnebloeideodmaa.Mem
