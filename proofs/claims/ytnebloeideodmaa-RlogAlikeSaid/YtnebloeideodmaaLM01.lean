/-
  RlV · RlW
-/
import Derived.Test.YtnebloeideodmaaLG02
import Derived.Test.YtnebloeideodmaaLJ01
import Derived.Test.YtnebloeideodmaaLK01
set_option linter.unusedSimpArgs false
set_option linter.unusedVariables false

namespace Go.Proofs.Ytnebloeideodmaa.Sep
open Go.RowKit
open Go.Proofs.Ytnebloeideodmaa.Mem (Dist Blk Chg below0)
structure RfV where
  A : Option Addr
  c : Nat
  L : List EntV
def RfV.v (x : RfV) : Value := .slice x.A x.L.length x.c
def RfT (g : Nat) (bi bt bc : Int) (es : List EntD) : Ass := fun rs => ∃ x : RfV, (x.L.map (·.e) = es ∧ x.L.length ≤ x.c) ∧ Parts [cell g 74 #[.int .u64 bi, .int .u64 bt, .int .i64 bc, .slice x.A x.L.length x.c], Vec 32 5 encV (.slice x.A x.L.length x.c) x.L, Each dat x.L] rs
theorem RfT.open_ {g : Nat} {bi bt bc : Int} {es : List EntD} : ∀ rs, RfT g bi bt bc es rs → ∃ x : { x : RfV // x.L.map (·.e) = es ∧ x.L.length ≤ x.c }, Parts [cell g 74 #[.int .u64 bi, .int .u64 bt, .int .i64 bc, .slice x.1.A x.1.L.length x.1.c], Vec 32 5 encV (.slice x.1.A x.1.L.length x.1.c) x.1.L, Each dat x.1.L] rs := fun _ ⟨x, h, hr⟩ => ⟨⟨x, h⟩, hr⟩
theorem vec_capE {α : Type} {te : TypeId} {k : Nat} {enc : α → List Value} {A : Option Addr} {c n : Nat} {l : List α} {rs : List RowT} (h : Vec te k enc (.slice A n c) l rs) : l.length ≤ c := by
  rcases h with ⟨h1, h2, _⟩ | ⟨g, cap, cs, h1, h2, _⟩
  · rw [h2]; exact Nat.zero_le _
  · simp only [Value.slice.injEq] at h1; omega
theorem RfT.mk {g : Nat} {bi bt bc : Int} {v : Value} {es : List EntD} : ∀ rs, Parts [cell g 74 #[.int .u64 bi, .int .u64 bt, .int .i64 bc, v], EnT v es] rs → RfT g bi bt bc es rs := fun rs h => by
  obtain ⟨a, b, e, h1, h2⟩ := h
  obtain ⟨L, hL, p, q, e2, h3, h4⟩ := h2.one'
  obtain ⟨A, c, rfl⟩ := h3.is
  exact ⟨⟨A, c, L⟩, ⟨hL, vec_capE h3⟩, a, b, e, h1, p, q, e2, h3, h4⟩
theorem RfT.back {g : Nat} {bi bt bc : Int} {A : Option Addr} {c : Nat} {L : List EntV} {es : List EntD} (hL : L.map (·.e) = es) (hc : L.length ≤ c) : ∀ rs, Parts [cell g 74 #[.int .u64 bi, .int .u64 bt, .int .i64 bc, .slice A L.length c], Vec 32 5 encV (.slice A L.length c) L, Each dat L] rs → RfT g bi bt bc es rs := fun rs h => ⟨⟨A, c, L⟩, ⟨hL, hc⟩, h⟩
theorem RfT.done {g : Nat} {bi bt bc : Int} {A : Option Addr} {c : Nat} {L : List EntV} {es : List EntD} (hL : L.map (·.e) = es) (hc : L.length ≤ c) : ∀ z, Parts [cell g 74 #[.int .u64 bi, .int .u64 bt, .int .i64 bc, .slice A L.length c], Vec 32 5 encV (.slice A L.length c) L, Each dat L] z → ∃ z', z.Perm z' ∧ Parts [RfT g bi bt bc es] z' := fun z hz => ⟨z, .refl _, Parts.one (RfT.back hL hc z hz)⟩
theorem copy_v (u : World) (v : Value) (l : List EntV) (hv : EntsRd u v l) (hl : l.length * 56 ≤ 140737488351232) (hd : ∀ x, x ∈ l → x.e.d.length ≤ 140737488351232) (es : List EntD) (he : l.map (·.e) = es) : DoesU u Try.prog 39 #[v] [] (fun cv : Value => cv) (fun cv => [EnT cv es]) := fun w rs a b hp hr hd' => by
  subst he
  refine (copye_does u v l hv hl hd w rs a b hp hr hd').mono ?_
  rintro e w' ⟨x, hx, rs', ⟨p, q, e1, h1, h2⟩, hc⟩
  obtain ⟨p2, q2, e2, ⟨h3, h4⟩, h5⟩ := h2
  subst h3
  have h5 : q2 = [] := h5
  subst h5
  have : q = [] := by simpa using e2
  subst this
  exact ⟨_, hx, rs', ⟨p, [], e1, ⟨x.l, h4, h1⟩, rfl⟩, hc⟩
section
variable {P : Program} {Q : Exit → Act → World → Prop} {n : Nat} {B : Nat → Prop} {w w0 : World} {os : List Ass} {env : List (Nat × Value)} {o : Oper} {t e ty : TypeId} {rs : List RowT}
theorem own_rd (i j : Nat) {v : Value} {L : List EntV} (hi : os[i]? = some (Vec 32 5 encV v L)) (hj : os[j]? = some (Each dat L)) (hH : Hp B w0 w os) : EntsRd w v L := by
  refine ⟨hH.vec i hi okV, fun x hx => ?_⟩
  obtain ⟨k, hk⟩ := List.getElem?_of_mem hx
  exact hH.rd8 j hj (dat_rd8 hk)
theorem ents_lo {A : Option Addr} {c k : Nat} {l : List EntV} (h : EntsRd w (.slice A l.length c) l) (hk : k ≤ l.length) (hc : l.length ≤ c) : EntsRd w (.slice (lowA A c k) (l.drop k).length (c - k)) (l.drop k) := by
  have := SlRd.tail okV hk hc h.1
  rw [sub_lo5] at this
  exact ⟨this, fun x hx => h.2 x (List.mem_of_mem_drop hx)⟩
theorem ents_hi {A : Option Addr} {c k : Nat} {l : List EntV} (h : EntsRd w (.slice A l.length c) l) (hk : k ≤ l.length) : EntsRd w (.slice A (l.take k).length c) (l.take k) := by
  have := SlRd.head okV hk h.1
  have hl : (l.take k).length = k := by rw [List.length_take]; omega
  rw [hl] at this ⊢
  exact ⟨by rw [hl]; exact this, fun x hx => h.2 x (List.mem_of_mem_take hx)⟩
theorem sub_hi5k {A : Option Addr} {n c k : Nat} {l : List EntV} (hk : k ≤ l.length) : subv 5 (.slice A n c) 0 k = .slice A (l.take k).length c := by
  rw [subv_head]; rw [List.length_take, Nat.min_eq_left hk]
/-- two things of which one is laid behind the other -/
theorem a_appendEn (i j : Nat) (hij : i ≠ j) {v u : Value} {l m : List EntD} (hT : SliceT P t 32 5) (hb : (P.info? 32).map (fun i => i.bytes) = some 56) (hi : os[i]? = some (EnT v l)) (hj : os[j]? = some (EnT u m)) (hlen : (l.length + m.length) * 56 ≤ 140737488355328) {x y : Operand} (ho : o.op = .call { callee := .builtin .append, args := #[x, y], argTypes := #[t, t] }) (hx : evs env x = some v) (hy : evs env y = some u) :
    Acts P Q n env B w0 os o (fun v : Value => v) (fun v' => (os.set i (EnT v' (l ++ m))).set j emp) := fun act w hH hF K hK => by
  obtain ⟨rs0, hp, hm⟩ := hH
  obtain ⟨a, x1, b, e1, hx1, hs1⟩ := hp.at_ hi
  have hp2 := hs1 emp [] rfl
  obtain ⟨c, y1, d, e2, hy1, hs2⟩ := hp2.at_ (i := j) (o := EnT u m) (by rw [List.getElem?_set_ne hij]; exact hj)
  have hp3 := hs2 emp [] rfl
  subst e1
  have p1 : (a ++ (x1 ++ b)).Perm (x1 ++ (y1 ++ (c ++ d))) := by
    refine (by rw [← List.append_assoc, ← List.append_assoc]; exact List.perm_append_comm.append_right b : (a ++ (x1 ++ b)).Perm (x1 ++ (a ++ b))).trans ?_
    refine List.Perm.append_left x1 ?_
    have : a ++ b = c ++ (y1 ++ d) := by simpa using e2
    rw [this, ← List.append_assoc, ← List.append_assoc]
    exact List.perm_append_comm.append_right d
  have hm1 := hp_perm hm p1
  obtain ⟨L, hL, r1, r2, e3, hv, hd1⟩ := hx1
  obtain ⟨M, hM, q1, q2, e4, hu, hd2⟩ := hy1
  subst e3; subst e4
  have hd2 := hd2.one'
  have hd1 := hd1.one'
  have hr1 : RowsOf w r1 := rows_iff.2 fun z hz => hm1.rows.mem z (by simp [hz])
  have hrq : RowsOf w q1 := rows_iff.2 fun z hz => hm1.rows.mem z (by simp [hz])
  have hdd := dist_iff.1 hm1.apart
  have hdr : Dist r1 := by
    rw [List.map_append, List.map_append] at hdd
    exact dist_iff.2 (List.nodup_append.1 (List.nodup_append.1 hdd).1).1
  have hll : (L.length + M.length) * 56 ≤ 140737488355328 := by rw [← hL, ← hM, List.length_map, List.length_map] at hlen; exact hlen
  obtain ⟨v', w', hrun, rs', hv', hch⟩ := run_appendK (P := P) (ty := o.type) hT hb (by decide) okV hv hr1 hdr (Vec.all okV hu hrq) hll
  have hm2 : Mem.Hp B w0 w (r1 ++ (r2 ++ (q1 ++ q2 ++ (c ++ d)))) := by simpa [List.append_assoc] using hm1
  have hm3 := hp_chg hm2 hch
  have p2 : (rs' ++ (r2 ++ (q1 ++ q2 ++ (c ++ d)))).Perm (q1 ++ (rs' ++ (r2 ++ q2) ++ (c ++ d))) := by
    have h1 : (rs' ++ (r2 ++ (q1 ++ q2 ++ (c ++ d)))) = (rs' ++ r2) ++ (q1 ++ (q2 ++ (c ++ d))) := by simp [List.append_assoc]
    have h2 : (q1 ++ (rs' ++ (r2 ++ q2) ++ (c ++ d))) = (q1 ++ (rs' ++ r2)) ++ (q2 ++ (c ++ d)) := by simp [List.append_assoc]
    rw [h1, h2, ← List.append_assoc (rs' ++ r2)]
    exact List.perm_append_comm.append_right _
  have hm4 := (hp_perm hm3 p2).drop q1.length
  rw [List.drop_left] at hm4
  obtain ⟨s1, z1, s2, e5, hz1, hs5⟩ := hp3.at_ (i := i) (o := emp) (by
    rw [List.getElem?_set_ne (Ne.symm hij), List.getElem?_set_self (List.getElem?_eq_some_iff.1 hi).1])
  have hz1 : z1 = [] := hz1
  subst hz1
  have hnew : EnT v' (l ++ m) (rs' ++ (r2 ++ q2)) := ⟨L ++ M, by rw [List.map_append, hL, hM], rs', r2 ++ q2, rfl, hv', Parts.one (by
    unfold Each; rw [List.map_append]
    exact Parts.app hd1 hd2)⟩
  have hfin := hs5 (EnT v' (l ++ m)) _ hnew
  rw [show ((os.set i emp).set j emp).set i (EnT v' (l ++ m)) = (os.set i (EnT v' (l ++ m))).set j emp by
    rw [List.set_comm _ _ (Ne.symm hij), List.set_set]] at hfin
  have e6 : c ++ d = s1 ++ s2 := by simpa using e5
  refine a_val (w0 := w) act (exec_bi ho (vs := [v, u]) (by simp [evl, hx, hy]) (fun cs => ?_) hF) (hK v' w' ⟨_, hfin, hp_perm hm4 ?_⟩)
  · simp only [builtin, Sem.run_bind, Sem.run_pure, Result.andThen_ok, hrun]
  · rw [e6, ← List.append_assoc]
    have : (rs' ++ (r2 ++ q2) ++ s1 ++ s2).Perm (s1 ++ (rs' ++ (r2 ++ q2)) ++ s2) := List.perm_append_comm.append_right s2
    simpa [List.append_assoc] using this
end
end Go.Proofs.Ytnebloeideodmaa.Sep

namespace Go.Proofs.Ytnebloeideodmaa.Sep
open Go.RowKit
open Go.Proofs.Ytnebloeideodmaa.Mem (Dist Blk Chg below0)

end Go.Proofs.Ytnebloeideodmaa.Sep
