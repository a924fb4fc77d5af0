/-
  RpcU · RpcH1 · RlAe
-/
import Derived.Test.YtnebloeideodmaaPG03
import Derived.Test.YtnebloeideodmaaPM01
set_option linter.unusedSimpArgs false
set_option linter.unusedVariables false
namespace Go.Proofs.Ytnebloeideodmaa.Sep
open Go.RowKit
open Go.Proofs.Ytnebloeideodmaa.Mem (AM BA Chg Aq)
theorem Sl {A : Option Addr} {n c j : Nat} : DS 1 (.slice A n c) 0 j = .slice A j c := by
  rw [Tj]
  cases A with
  | none => simp
  | some a =>
    have : a.add 0 = a := by obtain ⟨b, o, q⟩ := a; cases q <;> simp [Addr.add]
    simp [this]
end Go.Proofs.Ytnebloeideodmaa.Sep
namespace Go.Proofs.Ytnebloeideodmaa.Sep
open Go.RowKit
open Go.Proofs.Ytnebloeideodmaa.Mem (AM BA Chg Aq)
def CD (ix tm : Int) (e : EntD) : EntD := ⟨e.c % 3, max 1 (tm + e.k % 8 / 6), ix + 1, if e.c % 3 = 1 then 1 :: e.d.take 30 else [], if e.c % 3 = 2 then 2 * (1 + e.t % 200 % 31) else 0⟩
theorem Ms {ix tm : Int} {e : EntD} (h1 : 0 ≤ ix ∧ ix < 1000) (h2 : 0 ≤ tm ∧ tm < 1000) : BV (CD ix tm e) = true := by
  have hc := Int.emod_nonneg e.c (show (3 : Int) ≠ 0 by decide)
  have hc2 := Int.emod_lt_of_pos e.c (show (0 : Int) < 3 by decide)
  have hk := Int.emod_nonneg e.k (show (8 : Int) ≠ 0 by decide)
  have hk2 := Int.emod_lt_of_pos e.k (show (0 : Int) < 8 by decide)
  have ht : (1 : Int) ≤ max 1 (tm + e.k % 8 / 6) ∧ max 1 (tm + e.k % 8 / 6) ≤ 72057594037927935 := by omega
  have ht2 := Int.emod_nonneg (e.t % 200) (show (31 : Int) ≠ 0 by decide)
  have ht3 := Int.emod_lt_of_pos (e.t % 200) (show (0 : Int) < 31 by decide)
  obtain ⟨c, hcc⟩ : ∃ c, e.c % 3 = c := ⟨_, rfl⟩
  rw [hcc] at hc hc2
  have hn : BX (CD ix tm e).t = true := by
    show BX (max 1 (tm + e.k % 8 / 6)) = true
    unfold BX
    simp only [Bool.and_eq_true, decide_eq_true_eq]
    omega
  have hi : BX (CD ix tm e).i = true := by
    show BX (ix + 1) = true
    unfold BX
    simp only [Bool.and_eq_true, decide_eq_true_eq]
    omega
  have hK : Ce (CD ix tm e) = true := by
    rcases (show c = 0 ∨ c = 1 ∨ c = 2 by omega) with rfl | rfl | rfl
    · have hh : CD ix tm e = ⟨0, max 1 (tm + e.k % 8 / 6), ix + 1, [], 0⟩ := by simp [CD, hcc]
      rw [hh]; rfl
    · have hh : CD ix tm e = ⟨1, max 1 (tm + e.k % 8 / 6), ix + 1, 1 :: e.d.take 30, 0⟩ := by simp [CD, hcc]
      have h9 : (e.d.take 30).length ≤ 30 := by rw [List.length_take]; omega
      rw [hh]
      show (decide (1 ≤ (1 :: e.d.take 30).length) && decide ((1 :: e.d.take 30).length ≤ 128) && ((0 : Int) == 0)) = true
      rw [List.length_cons, Bool.and_eq_true, Bool.and_eq_true, decide_eq_true_eq, decide_eq_true_eq]
      exact ⟨⟨by omega, by omega⟩, rfl⟩
    · have hh : CD ix tm e = ⟨2, max 1 (tm + e.k % 8 / 6), ix + 1, [], 2 * (1 + e.t % 200 % 31)⟩ := by simp [CD, hcc]
      have hs : CX (2 * (1 + e.t % 200 % 31)) = true := by
        unfold CX
        simp only [Bool.and_eq_true, decide_eq_true_eq]
        omega
      rw [hh]
      show (true && CX (2 * (1 + e.t % 200 % 31)) && (2 * (1 + e.t % 200 % 31) != 0)) = true
      rw [hs, Bool.true_and, Bool.true_and, bne_iff_ne]
      omega
  unfold BV
  rw [hn, hi, hK]; rfl
theorem Sm {l : List UInt8} (n : Nat) : ((l.take n).length : Int) = min (l.length : Int) (n : Int) := by
 rw [List.length_take]; omega
theorem Ft.takesA {w : World} {A : Option Addr} {c : Nat} {l : List UInt8} (k : Nat) (h : Ft w (.slice A l.length c) l) : Ft w (.slice A (l.take k).length c) (l.take k) := by
  rcases Nat.lt_or_ge l.length k with hk | hk
  · rw [List.take_of_length_le (by omega)]; exact h
  · exact h.takes hk
end Go.Proofs.Ytnebloeideodmaa.Sep
namespace Go.Proofs.Ytnebloeideodmaa.Sep
open Go.RowKit
open Go.Proofs.Ytnebloeideodmaa.Mem (AM BA Chg Aq)
theorem Fk {P : Program} {n : Nat} {env : List (Nat × Value)} {a : Act} {w : World} {o : Oper} {T T' : TypeId} {x y : Operand} {k : IntKind} {p q r : Int} (hq : q ≠ 0) (hr : k.wrap (p.tdiv q) = r) (ho : o.op = .binOp .quo T x y T') (hx : evs env x = some (.int k p)) (hy : evs env y = some (.int k q)) (hF : Fr n a env) : (execOp a.eval o).run P w = .ok (.value (.int k r)) w := by
 unfold execOp
 simp only [ho, hF.evs hx, hF.evs hy]
 simp [eqGuard, binOp, Op.intArith, Op.intDiv, hq, hr]
def SH (tm : Int) (l : List EntD) : Int := tm + (l.map fun e => e.k % 8 / 6).sum
def CE : Int → Int → List EntD → List EntD
  | _, _, [] => []
  | ix, tm, e :: r => CD ix tm e :: CE (ix + 1) (tm + e.k % 8 / 6) r
theorem Sn (tm : Int) (l : List EntD) (e : EntD) : SH tm (l ++ [e]) = SH tm l + e.k % 8 / 6 := by
 unfold SH
 rw [List.map_append, List.sum_append]
 simp only [List.map_cons, List.map_nil, List.sum_cons, List.sum_nil]
 omega
theorem Jh : ∀ (l : List EntD) (ix tm : Int) (e : EntD), CE ix tm (l ++ [e]) = CE ix tm l ++ [CD (ix + (l.length : Int)) (SH tm l) e]
  | [], ix, tm, e => by simp [CE, SH]
  | x :: r, ix, tm, e => by
    show CD ix tm x :: CE (ix + 1) (tm + x.k % 8 / 6) (r ++ [e]) = CD ix tm x :: (CE (ix + 1) (tm + x.k % 8 / 6) r ++ _)
    rw [Jh r]
    congr 3
    have h1 : ix + 1 + (r.length : Int) = ix + ((x :: r).length : Int) := by rw [List.length_cons]; push_cast; omega
    have h2 : SH (tm + x.k % 8 / 6) r = SH tm (x :: r) := by
      unfold SH
      simp only [List.map_cons, List.sum_cons]
      omega
    rw [h1, h2]
theorem Gz : ∀ (l : List EntD) (ix tm : Int), (CE ix tm l).length = l.length
  | [], _, _ => rfl
  | x :: r, ix, tm => by simp [CE, Gz r]
structure HandI (ix tm : Int) (l : List EntV) (m j : Nat) (a b : Int) (o : EsV) : Prop where
  jl : j ≤ l.length
  jm : j ≤ m
  ea : a = ix + (j : Int)
  eb : b = SH tm ((l.take j).map (·.e))
  b2 : 0 ≤ b ∧ b ≤ 1152921504606846976 + (j : Int)
  eo : o.l.map (·.e) = CE ix tm ((l.take j).map (·.e))
theorem HandI.len {ix tm : Int} {l : List EntV} {m j : Nat} {a b : Int} {o : EsV} (h : HandI ix tm l m j a b o) : o.l.length = j := by
 have h1 := congrArg List.length h.eo
 rw [Gz, List.length_map, List.length_map, List.length_take] at h1
 have := h.jl
 omega
theorem P8 {ix tm : Int} {l : List EntV} {m j : Nat} {a b : Int} {o : EsV} {x : EntV} (h : HandI ix tm l m j a b o) (hx : l[j]? = some x) (hjl : j < l.length) (hjm : j < m) {ev2 : Value} {y : EntV} (hy : y.e = CD a b x.e) : HandI ix tm l m (j + 1) (a + 1) (b + x.e.k % 8 / 6) (⟨ev2, o.l ++ [y]⟩ : EsV) := by
  have hk0 := Int.emod_nonneg x.e.k (show (8 : Int) ≠ 0 by decide)
  have hk8 := Int.emod_lt_of_pos x.e.k (show (0 : Int) < 8 by decide)
  have h2 := h.b2
  have h3 := h.ea
  have ht : (l.take (j + 1)).map (·.e) = (l.take j).map (·.e) ++ [x.e] := by rw [List.take_add_one, hx, List.map_append]; rfl
  refine ⟨hjl, hjm, by push_cast; omega, by rw [ht, Sn, ← h.eb], by push_cast; omega, ?_⟩
  show (o.l ++ [y]).map (·.e) = _
  rw [List.map_append, h.eo, ht, Jh, ← h.eb, List.length_map, List.length_take, Nat.min_eq_left (Nat.le_of_lt hjl), ← h.ea]
  show _ ++ [y.e] = _
  rw [hy]
theorem Mt {ix tm : Int} {l : List EntV} {m j : Nat} {a b : Int} {o : EsV} (h : HandI ix tm l m j a b o) (hj : l.length ≤ j ∨ m ≤ j) : o.l.map (·.e) = CE ix tm ((l.take m).map (·.e)) := by
  have h1 := h.jl
  have h2 := h.jm
  rw [h.eo]
  rcases hj with hj | hj
  · rw [List.take_of_length_le hj, List.take_of_length_le (by omega)]
  · rw [show j = m by omega]
set_option maxRecDepth 100000 in
theorem So (u : World) (l : List EntV) (v : Value) (hv : Bj u v l) (hok : ∀ x, x ∈ l → x.e.ok) (ix tm : Int) (m : Nat) (h1 : 0 ≤ ix ∧ ix ≤ 1152921504606846976) (h2 : 0 ≤ tm ∧ tm ≤ 1152921504606846976) (hm : m ≤ 1000) : EJ u Try.prog 20 #[.int .u64 ix, .int .u64 tm, v, .int .i64 (m : Int)] [] (fun (y : EsV) => y.v) (fun (y : EsV) => [BZ 32 y.v y.l, fact (y.l.map (·.e) = CE ix tm ((l.take m).map (·.e)))]) := by
  refine Nf (args := [.int .u64 ix, .int .u64 tm, v, .int .i64 (m : Int)]) 83 Try.func20 rfl rfl rfl ?_; intro w rs hU hS
  refine Af (Ag Ab rfl (Ae (Af (Ag Ab rfl (Ae (Ax (Af (Ag Ab rfl (Ae (AN (G7 32 5 encV (H3 (t := An (fun x : EntV => As 5 1 encB x.v x.e.d) ([])) (IX) (Be [1, 0] rfl NA rfl ?_)))))))))))))
  refine AY.keep (env' := [(0, .int .u64 ix), (1, .int .u64 tm), (2, v), (3, .int .i64 (m : Int)), (8, .slice none 0 0), (9, .slice none 0 0), (10, .int .i64 0)]) ⟨rfl, rfl, rfl, rfl, rfl, rfl, rfl, trivial⟩ (AY.mid [BZ 32 (.slice none 0 0) ([])] (.refl _) (Cw (α := Nat × Int × Int × EsV) (fun ⟨j, aq, bq, o⟩ => [(0, .int .u64 aq), (1, .int .u64 bq), (2, v), (3, .int .i64 (m : Int)), (8, .slice none 0 0), (9, o.v), (10, .int .i64 (j : Int))]) (fun ⟨j, aq, bq, o⟩ => [BZ 32 o.v o.l]) (fun ⟨j, aq, bq, o⟩ => HandI ix tm l m j aq bq o) (fun ⟨j, aq, bq, o⟩ => l.length - j) (0, ix, tm, (⟨.slice none 0 0, []⟩ : EsV)) ⟨Nat.zero_le _, Nat.zero_le _, by simp, by simp [SH], ⟨h2.1, by omega⟩, rfl⟩ ⟨rfl, rfl, rfl, rfl, rfl, rfl, rfl, trivial⟩ rfl ?_))
  rintro ⟨j, aq, bq, o⟩ hI
  refine AY.at_ (env' := [(0, .int .u64 aq), (1, .int .u64 bq), (2, v), (3, .int .i64 (m : Int)), (8, .slice none 0 0), (9, o.v), (10, .int .i64 (j : Int))]) (rs' := [BZ 32 o.v o.l]) ⟨rfl, rfl, rfl, rfl, rfl, rfl, rfl, trivial⟩ rfl (Ax ?_)
  rcases (show (j < l.length ∧ j < m) ∨ l.length ≤ j ∨ (j < l.length ∧ m ≤ j) by omega) with ⟨hjl, hjm⟩ | hjl | ⟨hjl, hjm⟩
  have hol : o.l.length = j := hI.len
  obtain ⟨hI1, hI2, hI3, hI4, hI5, hI6⟩ := id hI
  obtain ⟨x, hx0⟩ : ∃ x, l[j]? = some x := ⟨_, List.getElem?_eq_getElem hjl⟩
  have hxm := List.mem_of_getElem? hx0
  have hx := hv.2 x hxm
  have ho := hok x hxm
  have hk0 := Int.emod_nonneg x.e.k (show (8 : Int) ≠ 0 by decide)
  have hk8 := Int.emod_lt_of_pos x.e.k (show (0 : Int) < 8 by decide)
  have ht0 := ho.t
  have ht31 := Int.emod_nonneg (x.e.t % 200) (show (31 : Int) ≠ 0 by decide)
  have ht32 := Int.emod_lt_of_pos (x.e.t % 200) (show (0 : Int) < 31 by decide)
  have ht20 := Int.emod_nonneg x.e.t (show (200 : Int) ≠ 0 by decide)
  have ht21 := Int.emod_lt_of_pos x.e.t (show (0 : Int) < 200 by decide)
  have hc0 := Int.emod_nonneg x.e.c (show (3 : Int) ≠ 0 by decide)
  have hc3 := Int.emod_lt_of_pos x.e.c (show (0 : Int) < 3 by decide)
  obtain ⟨kd, hkd⟩ : ∃ kd, x.e.c % 3 = kd := ⟨_, rfl⟩
  rw [hkd] at hc0 hc3
  have hnext := fun {ev2 : Value} {y : EntV} (hy : y.e = CD aq bq x.e) => P8 hI hx0 hjl hjm (ev2 := ev2) hy
  refine Af (Ag Ab rfl (Ac rfl (.int .i64 (l.length : Int)) (fun b w hb hH => A8 ((Cu hv hU hS hH).1) Try.underlying34 rfl rfl hb) (Ac rfl (.bool true) (fun b w hb hH => AI rfl rfl rfl (Bc (by omega)) hb) (Ag Ab rfl (Ac rfl (.bool true) (fun b w hb hH => AI rfl rfl rfl (Bc (by omega)) hb) (Ag Ab rfl (Ae (AC rfl (AK (AJ (Ax (AN (Af (Ag Ab rfl (Ac rfl (.int .u64 (aq + 1)) (fun b w hb hH => Ay rfl rfl rfl rfl (IntWalk.u64_in _ (by omega)) hb) ?_)))))))))))))))
  refine Ag Ab rfl (Ae (Af (Ag Ab rfl (Ac rfl (AW v (j * 5)) (fun b w hb hH => Bw Bd ((Cu hv hU hS hH).1) Ak (j := j) hx0 rfl rfl rfl hb) (Ac rfl (AW v (j * 5 + 0)) (fun b w hb hH => Gt Bd (by decide) ((Cu hv hU hS hH).1) (j := j) hx0 Dl rfl rfl hb) (Ac rfl (.int .i64 x.e.k) (fun b w hb hH => Bh Bd (by decide) ((Cu hv hU hS hH).1) (j := j) hx0 AB (off := 0) rfl rfl rfl hb) (Al (post := fun _ => [BZ 32 o.v o.l]) rfl (AH (Aj Try.func19 (by kernel_rfl) rfl) (fun w hH => pick w x.e.k 8 ho.k (by decide) rfl) rfl rfl rfl) ?_))))))); rintro ⟨⟩
  refine Ac rfl (.int .i64 (x.e.k % 8 / 6)) (fun b w hb hH => Fk (by decide) (by rw [Int.tdiv_eq_ediv_of_nonneg hk0, IntWalk.i64_in _ (by omega)]) rfl rfl rfl hb) (Ac rfl (.int .u64 (x.e.k % 8 / 6)) (fun b w hb hH => BR Try.underlying3 Try.underlying26 (IntWalk.u64_in _ (by omega)) rfl rfl hb) (Ac rfl (.int .u64 (bq + x.e.k % 8 / 6)) (fun b w hb hH => Ay rfl rfl rfl rfl (IntWalk.u64_in _ (by omega)) hb) (Ag Ab rfl (Ae (Af (Ag Ab rfl (Ac rfl (AW v (j * 5)) (fun b w hb hH => Bw Bd ((Cu hv hU hS hH).1) Ak (j := j) hx0 rfl rfl rfl hb) (Ac rfl (AW v (j * 5 + 4)) (fun b w hb hH => Gt Bd (by decide) ((Cu hv hU hS hH).1) (j := j) hx0 Eq rfl rfl hb) (Ac rfl (.int .i64 x.e.c) (fun b w hb hH => Bh Bd (by decide) ((Cu hv hU hS hH).1) (j := j) hx0 AB (off := 4) rfl rfl rfl hb) (Al (post := fun _ => [BZ 32 o.v o.l]) rfl (AH (Aj Try.func19 (by kernel_rfl) rfl) (fun w hH => pick w x.e.c 3 ho.c (by decide) hkd) rfl rfl rfl) ?_)))))))))); rintro ⟨⟩
  refine Ag Ab rfl (Ac rfl (.int .u64 (max 1 (bq + x.e.k % 8 / 6))) (fun b w hb hH => BH rfl rfl (fun cs => (fun w cs => Ln (by first | rfl | decide | (split <;> omega)) _ _ w cs) w cs) hb) (Ag Ab rfl (Ac rfl (.agg #[.int .i64 kd, .int .u64 (max 1 (bq + x.e.k % 8 / 6)), .int .u64 (aq + 1), .slice none 0 0, .int .i64 0]) (fun b w hb hH => Bn rfl rfl (by kernel_rfl) hb) (Al (post := fun g11 => [cell g11 32 #[.int .i64 0, .int .u64 0, .int .u64 0, .slice none 0 0, .int .i64 0], BZ 32 o.v o.l]) rfl (B4 BK rfl) ?_)))); rintro g11
  refine A5 (post := fun _ => [cell g11 32 #[.int .i64 kd, .int .u64 (max 1 (bq + x.e.k % 8 / 6)), .int .u64 (aq + 1), .slice none 0 0, .int .i64 0], BZ 32 o.v o.l]) rfl rfl (AP 0 (v := .agg #[.int .i64 kd, .int .u64 (max 1 (bq + x.e.k % 8 / 6)), .int .u64 (aq + 1), .slice none 0 0, .int .i64 0]) #[.int .i64 kd, .int .u64 (max 1 (bq + x.e.k % 8 / 6)), .int .u64 (aq + 1), .slice none 0 0, .int .i64 0] Cl.2 rfl rfl rfl rfl rfl rfl rfl rfl rfl) ?_; rintro ⟨⟩
  refine Ae (Ax ?_)
  have hk : kd = 0 ∨ kd = 1 ∨ kd = 2 := by omega
  rcases hk with rfl | rfl | rfl
  refine Af (Ag Ab rfl (Ac rfl (.int .i64 0) (fun b w hb hH => AD rfl rfl (AL AB rfl) (hH.row 0 rfl) hb) (Ae (AN (Af (Ag Ab rfl (Ac rfl (.bool false) (fun b w hb hH => AI rfl rfl rfl (Dq (by decide)) hb) (Ag Ab rfl (Ae (Az rfl (Af (Ag Ab rfl (Ac rfl (.bool false) (fun b w hb hH => AI rfl rfl rfl (Dq (by decide)) hb) ?_)))))))))))))
  refine Ag Ab rfl (Ae (Az rfl (AK (AU (AJ (G7 5 1 encB (Bo 2 rfl EY (fun _ => rfl) ?_))))))); rintro ⟨⟩
  refine AR (Ag Ab rfl (Ac rfl (.agg #[.int .i64 0, .int .u64 (max 1 (bq + x.e.k % 8 / 6)), .int .u64 (aq + 1), .slice none 0 0, .int .i64 0]) (fun b w hb hH => AD rfl rfl (Dd (cs := [.int .i64 0, .int .u64 (max 1 (bq + x.e.k % 8 / 6)), .int .u64 (aq + 1), .slice none 0 0, .int .i64 0]) Cl rfl) (hH.row 3 rfl) hb) ?_))
  refine Al (X := Value) (val := fun v : Value => v) (post := fun b80 => [As 32 5 encV b80 ([(⟨⟨0, max 1 (bq + x.e.k % 8 / 6), aq + 1, [], 0⟩, none, 0⟩ : EntV)]), As 32 5 encV o.v o.l, An (fun x : EntV => As 5 1 encB x.v x.e.d) o.l, As 5 1 encB (.slice none 0 0) ([]), cell g11 32 #[.int .i64 0, .int .u64 (max 1 (bq + x.e.k % 8 / 6)), .int .u64 (aq + 1), .slice none 0 0, .int .i64 0]]) rfl (by refine E2 (e := 32) (t := 34) (k := 5) (enc := encV) (x := .tmp 79) (c := .agg #[.int .i64 0, .int .u64 (max 1 (bq + x.e.k % 8 / 6)), .int .u64 (aq + 1), .slice none 0 0, .int .i64 0]) ?_ ?_ ?_ (⟨⟨0, max 1 (bq + x.e.k % 8 / 6), aq + 1, [], 0⟩, none, 0⟩ : EntV) ?_ ?_ ?_; exact Ak; exact (by decide); exact Bd; exact rfl; exact rfl; exact rfl) ?_; rintro b80
  refine Al (post := fun ev2 => [As 32 5 encV b80 ([(⟨⟨0, max 1 (bq + x.e.k % 8 / 6), aq + 1, [], 0⟩, none, 0⟩ : EntV)]), As 32 5 encV ev2 (o.l ++ [(⟨⟨0, max 1 (bq + x.e.k % 8 / 6), aq + 1, [], 0⟩, none, 0⟩ : EntV)]), An (fun x : EntV => As 5 1 encB x.v x.e.d) o.l, As 5 1 encB (.slice none 0 0) ([]), cell g11 32 #[.int .i64 0, .int .u64 (max 1 (bq + x.e.k % 8 / 6)), .int .u64 (aq + 1), .slice none 0 0, .int .i64 0]]) rfl (E1 (nb := 56) 1 Ak Bd (by kernel_rfl) (by decide) rfl ([(⟨⟨0, max 1 (bq + x.e.k % 8 / 6), aq + 1, [], 0⟩, none, 0⟩ : EntV)]) (fun w hH => hH.vec 0 rfl Bd) (by simp only [List.length_cons, List.length_nil]; omega) rfl rfl rfl rfl) ?_; rintro ev2
  refine Ag Ab rfl (AE (AU (AJ (AY.leave [0, 4] rfl rfl (Be [0, 1, 2] rfl (EZ (l := o.l) (x := (⟨⟨0, max 1 (bq + x.e.k % 8 / 6), aq + 1, [], 0⟩, none, 0⟩ : EntV))) rfl (AY.keep (env' := [(2, v), (3, .int .i64 (m : Int)), (8, .slice none 0 0), (10, .int .i64 (j : Int)), (12, .int .i64 (j : Int)), (13, v), (14, .int .i64 (l.length : Int)), (15, .bool true), (16, .bool true), (17, .int .i64 (j : Int)), (18, .int .i64 (m : Int)), (19, .bool true), (20, .bool true), (23, .int .u64 aq), (24, .int .u64 (aq + 1)), (0, .int .u64 (aq + 1)), (25, .int .u64 bq), (26, v), (27, .int .i64 (j : Int)), (28, AW v (j * 5)), (29, AW v (j * 5 + 0)), (30, .int .i64 x.e.k), (31, .int .i64 (x.e.k % 8)), (32, .int .i64 (x.e.k % 8 / 6)), (33, .int .u64 (x.e.k % 8 / 6)), (34, .int .u64 (bq + x.e.k % 8 / 6)), (1, .int .u64 (bq + x.e.k % 8 / 6)), (35, v), (36, .int .i64 (j : Int)), (37, AW v (j * 5)), (38, AW v (j * 5 + 4)), (39, .int .i64 x.e.c), (40, .int .i64 0), (41, .int .u64 (bq + x.e.k % 8 / 6)), (42, .int .u64 (max 1 (bq + x.e.k % 8 / 6))), (43, .int .u64 (aq + 1)), (44, .agg #[.int .i64 0, .int .u64 (max 1 (bq + x.e.k % 8 / 6)), .int .u64 (aq + 1), .slice none 0 0, .int .i64 0]), (11, .pointer (some ⟨g11, 0, none⟩)), (45, .pointer (some ⟨g11, 0, none⟩)), (46, .int .i64 0), (48, .bool false), (47, .bool false), (66, .bool false), (65, .bool false), (78, o.v), (79, .agg #[.int .i64 0, .int .u64 (max 1 (bq + x.e.k % 8 / 6)), .int .u64 (aq + 1), .slice none 0 0, .int .i64 0]), (80, b80), (81, ev2), (9, ev2)]) ⟨rfl, rfl, rfl, rfl, rfl, rfl, rfl, rfl, rfl, rfl, rfl, rfl, rfl, rfl, rfl, rfl, rfl, rfl, rfl, rfl, rfl, rfl, rfl, rfl, rfl, rfl, rfl, rfl, rfl, rfl, rfl, rfl, rfl, rfl, rfl, rfl, rfl, rfl, rfl, rfl, rfl, rfl, rfl, rfl, rfl, rfl, rfl, rfl, rfl, trivial⟩ (AY.mid [BZ 32 ev2 (o.l ++ [(⟨⟨0, max 1 (bq + x.e.k % 8 / 6), aq + 1, [], 0⟩, none, 0⟩ : EntV)])] (.refl _) (AR (Ag Ab rfl (Ac rfl (.int .i64 ((j + 1 : Nat) : Int)) (fun b w hb hH => Ay rfl rfl rfl rfl (by rw [IntWalk.i64_in _ (by omega)]; omega) hb) (Ag Ab rfl ?_)))))))))))
  refine AE ?_
  exact BS (j + 1, aq + 1, bq + x.e.k % 8 / 6, (⟨ev2, o.l ++ [(⟨⟨0, max 1 (bq + x.e.k % 8 / 6), aq + 1, [], 0⟩, none, 0⟩ : EntV)]⟩ : EsV)) 0 (hnext (ev2 := ev2) (y := (⟨⟨0, max 1 (bq + x.e.k % 8 / 6), aq + 1, [], 0⟩, none, 0⟩ : EntV)) (by simp [CD, hkd])) (show l.length - (j + 1) < l.length - j by omega) ⟨rfl, rfl, rfl, rfl, rfl, rfl, rfl, trivial⟩ rfl
  refine Af (Ag Ab rfl (Ac rfl (.int .i64 1) (fun b w hb hH => AD rfl rfl (AL AB rfl) (hH.row 0 rfl) hb) (Ae (AN (Af (Ag Ab rfl (Ac rfl (.bool true) (fun b w hb hH => AI rfl rfl rfl (DK (by decide)) hb) (Ag Ab rfl (Ae (AC rfl (Ep 1 rfl ?_)))))))))))
  refine Bi 16 2 [⟨.act 0, [some false, some false], fun _ => undef, []⟩, ⟨.quiet, [none, none], fun _ => v, []⟩, ⟨.quiet, [none, none], fun _ => .int .i64 (j : Int), []⟩, ⟨.quiet, [none, none], fun _ => AW v (j * 5), [1, 2]⟩, ⟨.quiet, [none, none], fun _ => AW v (j * 5 + 3), [3]⟩, ⟨.quiet, [none, none], fun _ => x.v, [4]⟩, ⟨.quiet, [none, none], fun _ => v, []⟩, ⟨.quiet, [none, none], fun _ => .int .i64 (j : Int), []⟩, ⟨.quiet, [none, none], fun _ => AW v (j * 5), [6, 7]⟩, ⟨.quiet, [none, none], fun _ => AW v (j * 5 + 3), [8]⟩, ⟨.quiet, [none, none], fun _ => x.v, [9]⟩, ⟨.quiet, [none, none], fun _ => .int .i64 (x.e.d.length : Int), [10]⟩, ⟨.quiet, [none, none], fun _ => .int .i64 ((x.e.d.take 30).length : Int), [11]⟩, ⟨.quiet, [none, none], fun _ => .slice x.A (x.e.d.take 30).length x.c, [5, 12]⟩, ⟨.act 1, [some true, some false], fun _ => undef, [0, 13]⟩, ⟨.quiet, [some true, some true], fun _ => .pointer (some ⟨g11, 3, none⟩), []⟩] [(2, v), (3, .int .i64 (m : Int)), (8, .slice none 0 0), (9, o.v), (10, .int .i64 (j : Int)), (12, .int .i64 (j : Int)), (13, v), (14, .int .i64 (l.length : Int)), (15, .bool true), (16, .bool true), (17, .int .i64 (j : Int)), (18, .int .i64 (m : Int)), (19, .bool true), (20, .bool true), (23, .int .u64 aq), (24, .int .u64 (aq + 1)), (0, .int .u64 (aq + 1)), (25, .int .u64 bq), (26, v), (27, .int .i64 (j : Int)), (28, AW v (j * 5)), (29, AW v (j * 5 + 0)), (30, .int .i64 x.e.k), (31, .int .i64 (x.e.k % 8)), (32, .int .i64 (x.e.k % 8 / 6)), (33, .int .u64 (x.e.k % 8 / 6)), (34, .int .u64 (bq + x.e.k % 8 / 6)), (1, .int .u64 (bq + x.e.k % 8 / 6)), (35, v), (36, .int .i64 (j : Int)), (37, AW v (j * 5)), (38, AW v (j * 5 + 4)), (39, .int .i64 x.e.c), (40, .int .i64 1), (41, .int .u64 (bq + x.e.k % 8 / 6)), (42, .int .u64 (max 1 (bq + x.e.k % 8 / 6))), (43, .int .u64 (aq + 1)), (44, .agg #[.int .i64 1, .int .u64 (max 1 (bq + x.e.k % 8 / 6)), .int .u64 (aq + 1), .slice none 0 0, .int .i64 0]), (11, .pointer (some ⟨g11, 0, none⟩)), (45, .pointer (some ⟨g11, 0, none⟩)), (46, .int .i64 1), (48, .bool true), (47, .bool true)] (fun ρ => match ρ with | [rq0, rq1] => [Ct rq1 (fun d1 => As 5 1 encB d1 (1 :: x.e.d.take 30)) (Ct rq0 (fun d0 => As 5 1 encB d0 ([(1 : UInt8)])) (Dw)), cell g11 32 #[.int .i64 1, .int .u64 (max 1 (bq + x.e.k % 8 / 6)), .int .u64 (aq + 1), .slice none 0 0, .int .i64 0], BZ 32 o.v o.l] | _ => []) (by kernel_rfl) (by kernel_rfl) ⟨rfl, rfl, rfl, rfl, rfl, rfl, rfl, rfl, rfl, rfl, rfl, rfl, rfl, rfl, rfl, rfl, rfl, rfl, rfl, rfl, rfl, rfl, rfl, rfl, rfl, rfl, rfl, rfl, rfl, rfl, rfl, rfl, rfl, rfl, rfl, rfl, rfl, rfl, rfl, rfl, rfl, rfl, rfl, trivial⟩ rfl ?_ ?_
  refine Ad (by exact ⟨rfl, AZ.s (AZ.place (val := fun d0 : Value => d0) (t := fun d0 => As 5 1 encB d0 ([(1 : UInt8)])) (os' := fun d0 => [As 5 1 encB d0 ([(1 : UInt8)]), cell g11 32 #[.int .i64 1, .int .u64 (max 1 (bq + x.e.k % 8 / 6)), .int .u64 (aq + 1), .slice none 0 0, .int .i64 0], BZ 32 o.v o.l]) 0 rfl (by refine Rp (e := 5) (t := 30) (enc := encB) (x := .const (Value.int IntKind.u8 1)) (c := .int .u8 (((1 : UInt8)).toNat : Int)) ?_ ?_ (1 : UInt8) ?_ ?_ ?_; exact EX; exact Wj; exact rfl; exact rfl; exact rfl) (fun _ => rfl)) (fun _ => rfl)⟩) ?_
  refine Ad (by intro r0_ r1_; exact ⟨rfl, fun b w hH hb => Ah Ab rfl hb⟩) (Ad (by intro r0_ r1_; exact ⟨rfl, fun b w hH hb => Ah Ab rfl hb⟩) (Ad (by intro r0_ r1_; exact ⟨rfl, fun b w hH hb => Bw Bd ((Cu hv hU hS hH).1) Ak (j := j) hx0 rfl rfl rfl hb⟩) (Ad (by intro r0_ r1_; exact ⟨rfl, fun b w hH hb => Gt Bd (by decide) ((Cu hv hU hS hH).1) (j := j) hx0 B3 rfl rfl hb⟩) (Ad (by intro r0_ r1_; exact ⟨rfl, fun b w hH hb => Bh Bd (by decide) ((Cu hv hU hS hH).1) (j := j) hx0 Cr (off := 3) rfl rfl rfl hb⟩) (Ad (by intro r0_ r1_; exact ⟨rfl, fun b w hH hb => Ah Ab rfl hb⟩) (Ad (by intro r0_ r1_; exact ⟨rfl, fun b w hH hb => Ah Ab rfl hb⟩) (Ad (by intro r0_ r1_; exact ⟨rfl, fun b w hH hb => Bw Bd ((Cu hv hU hS hH).1) Ak (j := j) hx0 rfl rfl rfl hb⟩) (Ad (by intro r0_ r1_; exact ⟨rfl, fun b w hH hb => Gt Bd (by decide) ((Cu hv hU hS hH).1) (j := j) hx0 B3 rfl rfl hb⟩) (Ad (by intro r0_ r1_; exact ⟨rfl, fun b w hH hb => Bh Bd (by decide) ((Cu hv hU hS hH).1) (j := j) hx0 Cr (off := 3) rfl rfl rfl hb⟩) ?_)))))))))
  refine Ad (by intro r0_ r1_; exact ⟨rfl, fun b w hH hb => A8 ((Td hx hU hS hH).rd) Try.underlying30 rfl rfl hb⟩) (Ad (by intro r0_ r1_; exact ⟨rfl, fun b w hH hb => BH rfl rfl (fun cs => (fun w cs => DN (by rw [Sm]; split <;> omega) _ _ w cs) w cs) hb⟩) (Ad (by intro r0_ r1_; exact ⟨rfl, fun b w hH hb => FN (A := x.A) (sn := x.e.d.length) (c := x.c) (j := (x.e.d.take 30).length) EX Sl (by have := Ti hx; rw [List.length_take]; omega) rfl rfl rfl hH hb⟩) (Ad (by intro d0; exact ⟨rfl, AZ.s (JS 0 EX (by kernel_rfl) rfl (x.e.d.take 30) (fun w hH => (Ft.takesA 30 (Td hx hU hS hH)).rd) (by simp only [List.length_cons, List.length_nil, List.length_take]; omega) rfl rfl rfl rfl) (fun _ => rfl)⟩) (Ad (by intro d0 d1; exact ⟨rfl, fun b w hH hb => Ah Ab rfl hb⟩) ?_))))
  exact Bx
  intro d0 d1
  refine BM.keep (env' := [(2, v), (3, .int .i64 (m : Int)), (8, .slice none 0 0), (9, o.v), (10, .int .i64 (j : Int)), (12, .int .i64 (j : Int)), (13, v), (14, .int .i64 (l.length : Int)), (15, .bool true), (16, .bool true), (17, .int .i64 (j : Int)), (18, .int .i64 (m : Int)), (19, .bool true), (20, .bool true), (23, .int .u64 aq), (24, .int .u64 (aq + 1)), (0, .int .u64 (aq + 1)), (25, .int .u64 bq), (26, v), (27, .int .i64 (j : Int)), (28, AW v (j * 5)), (29, AW v (j * 5 + 0)), (30, .int .i64 x.e.k), (31, .int .i64 (x.e.k % 8)), (32, .int .i64 (x.e.k % 8 / 6)), (33, .int .u64 (x.e.k % 8 / 6)), (34, .int .u64 (bq + x.e.k % 8 / 6)), (1, .int .u64 (bq + x.e.k % 8 / 6)), (35, v), (36, .int .i64 (j : Int)), (37, AW v (j * 5)), (38, AW v (j * 5 + 4)), (39, .int .i64 x.e.c), (40, .int .i64 1), (41, .int .u64 (bq + x.e.k % 8 / 6)), (42, .int .u64 (max 1 (bq + x.e.k % 8 / 6))), (43, .int .u64 (aq + 1)), (44, .agg #[.int .i64 1, .int .u64 (max 1 (bq + x.e.k % 8 / 6)), .int .u64 (aq + 1), .slice none 0 0, .int .i64 0]), (11, .pointer (some ⟨g11, 0, none⟩)), (45, .pointer (some ⟨g11, 0, none⟩)), (46, .int .i64 1), (48, .bool true), (47, .bool true), (49, d0), (50, v), (51, .int .i64 (j : Int)), (52, AW v (j * 5)), (53, AW v (j * 5 + 3)), (54, x.v), (55, v), (56, .int .i64 (j : Int)), (57, AW v (j * 5)), (58, AW v (j * 5 + 3)), (59, x.v), (60, .int .i64 (x.e.d.length : Int)), (61, .int .i64 ((x.e.d.take 30).length : Int)), (62, .slice x.A (x.e.d.take 30).length x.c), (63, d1), (64, .pointer (some ⟨g11, 3, none⟩))]) ⟨rfl, rfl, rfl, rfl, rfl, rfl, rfl, rfl, rfl, rfl, rfl, rfl, rfl, rfl, rfl, rfl, rfl, rfl, rfl, rfl, rfl, rfl, rfl, rfl, rfl, rfl, rfl, rfl, rfl, rfl, rfl, rfl, rfl, rfl, rfl, rfl, rfl, rfl, rfl, rfl, rfl, rfl, rfl, rfl, rfl, rfl, rfl, rfl, rfl, rfl, rfl, rfl, rfl, rfl, rfl, rfl, rfl, rfl, rfl, trivial⟩ (Ag Ab rfl (A5 (post := fun _ => [As 5 1 encB d1 (1 :: x.e.d.take 30), cell g11 32 #[.int .i64 1, .int .u64 (max 1 (bq + x.e.k % 8 / 6)), .int .u64 (aq + 1), d1, .int .i64 0], BZ 32 o.v o.l]) rfl rfl (DT 1 0 (v := d1) #[.int .i64 1, .int .u64 (max 1 (bq + x.e.k % 8 / 6)), .int .u64 (aq + 1), d1, .int .i64 0] Cr.2 rfl (fun _ h => As.c1 h) rfl rfl rfl rfl rfl rfl rfl) ?_)); rintro ⟨⟩
  refine AE (AU (AJ (AY.fact 0 rfl (fun _ h => As.is h) ?_))); rintro ⟨A3, c3, rfl⟩
  refine AY.keep (env' := [(2, v), (3, .int .i64 (m : Int)), (8, .slice none 0 0), (9, o.v), (10, .int .i64 (j : Int)), (12, .int .i64 (j : Int)), (13, v), (14, .int .i64 (l.length : Int)), (15, .bool true), (16, .bool true), (17, .int .i64 (j : Int)), (18, .int .i64 (m : Int)), (19, .bool true), (20, .bool true), (23, .int .u64 aq), (24, .int .u64 (aq + 1)), (0, .int .u64 (aq + 1)), (25, .int .u64 bq), (26, v), (27, .int .i64 (j : Int)), (28, AW v (j * 5)), (29, AW v (j * 5 + 0)), (30, .int .i64 x.e.k), (31, .int .i64 (x.e.k % 8)), (32, .int .i64 (x.e.k % 8 / 6)), (33, .int .u64 (x.e.k % 8 / 6)), (34, .int .u64 (bq + x.e.k % 8 / 6)), (1, .int .u64 (bq + x.e.k % 8 / 6)), (35, v), (36, .int .i64 (j : Int)), (37, AW v (j * 5)), (38, AW v (j * 5 + 4)), (39, .int .i64 x.e.c), (40, .int .i64 1), (41, .int .u64 (bq + x.e.k % 8 / 6)), (42, .int .u64 (max 1 (bq + x.e.k % 8 / 6))), (43, .int .u64 (aq + 1)), (44, .agg #[.int .i64 1, .int .u64 (max 1 (bq + x.e.k % 8 / 6)), .int .u64 (aq + 1), .slice none 0 0, .int .i64 0]), (11, .pointer (some ⟨g11, 0, none⟩)), (45, .pointer (some ⟨g11, 0, none⟩)), (46, .int .i64 1), (48, .bool true), (47, .bool true), (49, d0), (50, v), (51, .int .i64 (j : Int)), (52, AW v (j * 5)), (53, AW v (j * 5 + 3)), (54, x.v), (55, v), (56, .int .i64 (j : Int)), (57, AW v (j * 5)), (58, AW v (j * 5 + 3)), (59, x.v), (60, .int .i64 (x.e.d.length : Int)), (61, .int .i64 ((x.e.d.take 30).length : Int)), (62, .slice x.A (x.e.d.take 30).length x.c), (63, .slice A3 (1 :: x.e.d.take 30).length c3), (64, .pointer (some ⟨g11, 3, none⟩))]) ⟨rfl, rfl, rfl, rfl, rfl, rfl, rfl, rfl, rfl, rfl, rfl, rfl, rfl, rfl, rfl, rfl, rfl, rfl, rfl, rfl, rfl, rfl, rfl, rfl, rfl, rfl, rfl, rfl, rfl, rfl, rfl, rfl, rfl, rfl, rfl, rfl, rfl, rfl, rfl, rfl, rfl, rfl, rfl, rfl, rfl, rfl, rfl, rfl, rfl, rfl, rfl, rfl, rfl, rfl, rfl, rfl, rfl, rfl, rfl, trivial⟩ (AY.mid [As 5 1 encB (.slice A3 (1 :: x.e.d.take 30).length c3) (1 :: x.e.d.take 30), cell g11 32 #[.int .i64 1, .int .u64 (max 1 (bq + x.e.k % 8 / 6)), .int .u64 (aq + 1), .slice A3 (1 :: x.e.d.take 30).length c3, .int .i64 0], BZ 32 o.v o.l] (.refl _) (Bo 2 rfl EY (fun _ => rfl) ?_)); rintro ⟨⟩
  refine AR (Ag Ab rfl (Ac rfl (.agg #[.int .i64 1, .int .u64 (max 1 (bq + x.e.k % 8 / 6)), .int .u64 (aq + 1), .slice A3 (1 :: x.e.d.take 30).length c3, .int .i64 0]) (fun b w hb hH => AD rfl rfl (Dd (cs := [.int .i64 1, .int .u64 (max 1 (bq + x.e.k % 8 / 6)), .int .u64 (aq + 1), .slice A3 (1 :: x.e.d.take 30).length c3, .int .i64 0]) Cl rfl) (hH.row 3 rfl) hb) ?_))
  refine Al (X := Value) (val := fun v : Value => v) (post := fun b80 => [As 32 5 encV b80 ([(⟨⟨1, max 1 (bq + x.e.k % 8 / 6), aq + 1, 1 :: x.e.d.take 30, 0⟩, A3, c3⟩ : EntV)]), As 32 5 encV o.v o.l, An (fun x : EntV => As 5 1 encB x.v x.e.d) o.l, As 5 1 encB (.slice A3 (1 :: x.e.d.take 30).length c3) (1 :: x.e.d.take 30), cell g11 32 #[.int .i64 1, .int .u64 (max 1 (bq + x.e.k % 8 / 6)), .int .u64 (aq + 1), .slice A3 (1 :: x.e.d.take 30).length c3, .int .i64 0]]) rfl (by refine E2 (e := 32) (t := 34) (k := 5) (enc := encV) (x := .tmp 79) (c := .agg #[.int .i64 1, .int .u64 (max 1 (bq + x.e.k % 8 / 6)), .int .u64 (aq + 1), .slice A3 (1 :: x.e.d.take 30).length c3, .int .i64 0]) ?_ ?_ ?_ (⟨⟨1, max 1 (bq + x.e.k % 8 / 6), aq + 1, 1 :: x.e.d.take 30, 0⟩, A3, c3⟩ : EntV) ?_ ?_ ?_; exact Ak; exact (by decide); exact Bd; exact rfl; exact rfl; exact rfl) ?_; rintro b80
  refine Al (post := fun ev2 => [As 32 5 encV b80 ([(⟨⟨1, max 1 (bq + x.e.k % 8 / 6), aq + 1, 1 :: x.e.d.take 30, 0⟩, A3, c3⟩ : EntV)]), As 32 5 encV ev2 (o.l ++ [(⟨⟨1, max 1 (bq + x.e.k % 8 / 6), aq + 1, 1 :: x.e.d.take 30, 0⟩, A3, c3⟩ : EntV)]), An (fun x : EntV => As 5 1 encB x.v x.e.d) o.l, As 5 1 encB (.slice A3 (1 :: x.e.d.take 30).length c3) (1 :: x.e.d.take 30), cell g11 32 #[.int .i64 1, .int .u64 (max 1 (bq + x.e.k % 8 / 6)), .int .u64 (aq + 1), .slice A3 (1 :: x.e.d.take 30).length c3, .int .i64 0]]) rfl (E1 (nb := 56) 1 Ak Bd (by kernel_rfl) (by decide) rfl ([(⟨⟨1, max 1 (bq + x.e.k % 8 / 6), aq + 1, 1 :: x.e.d.take 30, 0⟩, A3, c3⟩ : EntV)]) (fun w hH => hH.vec 0 rfl Bd) (by simp only [List.length_cons, List.length_nil]; omega) rfl rfl rfl rfl) ?_; rintro ev2
  refine Ag Ab rfl (AE (AU (AJ (AY.leave [0, 4] rfl rfl (Be [0, 1, 2] rfl (EZ (l := o.l) (x := (⟨⟨1, max 1 (bq + x.e.k % 8 / 6), aq + 1, 1 :: x.e.d.take 30, 0⟩, A3, c3⟩ : EntV))) rfl (AY.keep (env' := [(2, v), (3, .int .i64 (m : Int)), (8, .slice none 0 0), (10, .int .i64 (j : Int)), (12, .int .i64 (j : Int)), (13, v), (14, .int .i64 (l.length : Int)), (15, .bool true), (16, .bool true), (17, .int .i64 (j : Int)), (18, .int .i64 (m : Int)), (19, .bool true), (20, .bool true), (23, .int .u64 aq), (24, .int .u64 (aq + 1)), (0, .int .u64 (aq + 1)), (25, .int .u64 bq), (26, v), (27, .int .i64 (j : Int)), (28, AW v (j * 5)), (29, AW v (j * 5 + 0)), (30, .int .i64 x.e.k), (31, .int .i64 (x.e.k % 8)), (32, .int .i64 (x.e.k % 8 / 6)), (33, .int .u64 (x.e.k % 8 / 6)), (34, .int .u64 (bq + x.e.k % 8 / 6)), (1, .int .u64 (bq + x.e.k % 8 / 6)), (35, v), (36, .int .i64 (j : Int)), (37, AW v (j * 5)), (38, AW v (j * 5 + 4)), (39, .int .i64 x.e.c), (40, .int .i64 1), (41, .int .u64 (bq + x.e.k % 8 / 6)), (42, .int .u64 (max 1 (bq + x.e.k % 8 / 6))), (43, .int .u64 (aq + 1)), (44, .agg #[.int .i64 1, .int .u64 (max 1 (bq + x.e.k % 8 / 6)), .int .u64 (aq + 1), .slice none 0 0, .int .i64 0]), (11, .pointer (some ⟨g11, 0, none⟩)), (45, .pointer (some ⟨g11, 0, none⟩)), (46, .int .i64 1), (48, .bool true), (47, .bool true), (49, d0), (50, v), (51, .int .i64 (j : Int)), (52, AW v (j * 5)), (53, AW v (j * 5 + 3)), (54, x.v), (55, v), (56, .int .i64 (j : Int)), (57, AW v (j * 5)), (58, AW v (j * 5 + 3)), (59, x.v), (60, .int .i64 (x.e.d.length : Int)), (61, .int .i64 ((x.e.d.take 30).length : Int)), (62, .slice x.A (x.e.d.take 30).length x.c), (63, .slice A3 (1 :: x.e.d.take 30).length c3), (64, .pointer (some ⟨g11, 3, none⟩)), (78, o.v), (79, .agg #[.int .i64 1, .int .u64 (max 1 (bq + x.e.k % 8 / 6)), .int .u64 (aq + 1), .slice A3 (1 :: x.e.d.take 30).length c3, .int .i64 0]), (80, b80), (81, ev2), (9, ev2)]) ⟨rfl, rfl, rfl, rfl, rfl, rfl, rfl, rfl, rfl, rfl, rfl, rfl, rfl, rfl, rfl, rfl, rfl, rfl, rfl, rfl, rfl, rfl, rfl, rfl, rfl, rfl, rfl, rfl, rfl, rfl, rfl, rfl, rfl, rfl, rfl, rfl, rfl, rfl, rfl, rfl, rfl, rfl, rfl, rfl, rfl, rfl, rfl, rfl, rfl, rfl, rfl, rfl, rfl, rfl, rfl, rfl, rfl, rfl, rfl, rfl, rfl, rfl, rfl, trivial⟩ (AY.mid [BZ 32 ev2 (o.l ++ [(⟨⟨1, max 1 (bq + x.e.k % 8 / 6), aq + 1, 1 :: x.e.d.take 30, 0⟩, A3, c3⟩ : EntV)])] (.refl _) (AR (Ag Ab rfl (Ac rfl (.int .i64 ((j + 1 : Nat) : Int)) (fun b w hb hH => Ay rfl rfl rfl rfl (by rw [IntWalk.i64_in _ (by omega)]; omega) hb) (Ag Ab rfl ?_)))))))))))
  refine AE ?_
  exact BS (j + 1, aq + 1, bq + x.e.k % 8 / 6, (⟨ev2, o.l ++ [(⟨⟨1, max 1 (bq + x.e.k % 8 / 6), aq + 1, 1 :: x.e.d.take 30, 0⟩, A3, c3⟩ : EntV)]⟩ : EsV)) 0 (hnext (ev2 := ev2) (y := (⟨⟨1, max 1 (bq + x.e.k % 8 / 6), aq + 1, 1 :: x.e.d.take 30, 0⟩, A3, c3⟩ : EntV)) (by simp [CD, hkd])) (show l.length - (j + 1) < l.length - j by omega) ⟨rfl, rfl, rfl, rfl, rfl, rfl, rfl, trivial⟩ rfl
  refine Af (Ag Ab rfl (Ac rfl (.int .i64 2) (fun b w hb hH => AD rfl rfl (AL AB rfl) (hH.row 0 rfl) hb) (Ae (AN (Af (Ag Ab rfl (Ac rfl (.bool false) (fun b w hb hH => AI rfl rfl rfl (Dq (by decide)) hb) (Ag Ab rfl (Ae (Az rfl (Af (Ag Ab rfl (Ac rfl (.bool true) (fun b w hb hH => AI rfl rfl rfl (DK (by decide)) hb) ?_)))))))))))))
  refine Ag Ab rfl (Ae (AC rfl (AR (Ag Ab rfl (Ac rfl (AW v (j * 5)) (fun b w hb hH => Bw Bd ((Cu hv hU hS hH).1) Ak (j := j) hx0 rfl rfl rfl hb) (Ac rfl (AW v (j * 5 + 1)) (fun b w hb hH => Gt Bd (by decide) ((Cu hv hU hS hH).1) (j := j) hx0 BL rfl rfl hb) (Ac rfl (.int .u64 x.e.t) (fun b w hb hH => Bh Bd (by decide) ((Cu hv hU hS hH).1) (j := j) hx0 Ai (off := 1) rfl rfl rfl hb) (Ac rfl (.int .u64 (x.e.t % 200)) (fun b w hb hH => Br rfl rfl rfl (by decide) (Int.tmod_eq_emod_of_nonneg ho.t.1) hb) (Ac rfl (.int .i64 (x.e.t % 200)) (fun b w hb hH => BR Try.underlying26 Try.underlying3 (IntWalk.i64_in _ (by omega)) rfl rfl hb) (Al (post := fun _ => [cell g11 32 #[.int .i64 2, .int .u64 (max 1 (bq + x.e.k % 8 / 6)), .int .u64 (aq + 1), .slice none 0 0, .int .i64 0], BZ 32 o.v o.l]) rfl (AH (Aj Try.func19 (by kernel_rfl) rfl) (fun w hH => pick w (x.e.t % 200) 31 ⟨by omega, by omega⟩ (by decide) rfl) rfl rfl rfl) ?_)))))))))); rintro ⟨⟩
  refine Ac rfl (.int .i64 (1 + x.e.t % 200 % 31)) (fun b w hb hH => Ay rfl rfl rfl rfl (IntWalk.i64_in _ (by omega)) hb) (Ac rfl (.int .i64 (2 * (1 + x.e.t % 200 % 31))) (fun b w hb hH => Ay rfl rfl rfl rfl (IntWalk.i64_in _ (by omega)) hb) (Ag Ab rfl (A5 (post := fun _ => [cell g11 32 #[.int .i64 2, .int .u64 (max 1 (bq + x.e.k % 8 / 6)), .int .u64 (aq + 1), .slice none 0 0, .int .i64 (2 * (1 + x.e.t % 200 % 31))], BZ 32 o.v o.l]) rfl rfl (AP 0 (v := .int .i64 (2 * (1 + x.e.t % 200 % 31))) #[.int .i64 2, .int .u64 (max 1 (bq + x.e.k % 8 / 6)), .int .u64 (aq + 1), .slice none 0 0, .int .i64 (2 * (1 + x.e.t % 200 % 31))] AB.2 rfl rfl rfl rfl rfl rfl rfl rfl rfl) ?_))); rintro ⟨⟩
  refine AE (AU (AJ (G7 5 1 encB (Bo 2 rfl EY (fun _ => rfl) ?_)))); rintro ⟨⟩
  refine AR (Ag Ab rfl (Ac rfl (.agg #[.int .i64 2, .int .u64 (max 1 (bq + x.e.k % 8 / 6)), .int .u64 (aq + 1), .slice none 0 0, .int .i64 (2 * (1 + x.e.t % 200 % 31))]) (fun b w hb hH => AD rfl rfl (Dd (cs := [.int .i64 2, .int .u64 (max 1 (bq + x.e.k % 8 / 6)), .int .u64 (aq + 1), .slice none 0 0, .int .i64 (2 * (1 + x.e.t % 200 % 31))]) Cl rfl) (hH.row 3 rfl) hb) ?_))
  refine Al (X := Value) (val := fun v : Value => v) (post := fun b80 => [As 32 5 encV b80 ([(⟨⟨2, max 1 (bq + x.e.k % 8 / 6), aq + 1, [], 2 * (1 + x.e.t % 200 % 31)⟩, none, 0⟩ : EntV)]), As 32 5 encV o.v o.l, An (fun x : EntV => As 5 1 encB x.v x.e.d) o.l, As 5 1 encB (.slice none 0 0) ([]), cell g11 32 #[.int .i64 2, .int .u64 (max 1 (bq + x.e.k % 8 / 6)), .int .u64 (aq + 1), .slice none 0 0, .int .i64 (2 * (1 + x.e.t % 200 % 31))]]) rfl (by refine E2 (e := 32) (t := 34) (k := 5) (enc := encV) (x := .tmp 79) (c := .agg #[.int .i64 2, .int .u64 (max 1 (bq + x.e.k % 8 / 6)), .int .u64 (aq + 1), .slice none 0 0, .int .i64 (2 * (1 + x.e.t % 200 % 31))]) ?_ ?_ ?_ (⟨⟨2, max 1 (bq + x.e.k % 8 / 6), aq + 1, [], 2 * (1 + x.e.t % 200 % 31)⟩, none, 0⟩ : EntV) ?_ ?_ ?_; exact Ak; exact (by decide); exact Bd; exact rfl; exact rfl; exact rfl) ?_; rintro b80
  refine Al (post := fun ev2 => [As 32 5 encV b80 ([(⟨⟨2, max 1 (bq + x.e.k % 8 / 6), aq + 1, [], 2 * (1 + x.e.t % 200 % 31)⟩, none, 0⟩ : EntV)]), As 32 5 encV ev2 (o.l ++ [(⟨⟨2, max 1 (bq + x.e.k % 8 / 6), aq + 1, [], 2 * (1 + x.e.t % 200 % 31)⟩, none, 0⟩ : EntV)]), An (fun x : EntV => As 5 1 encB x.v x.e.d) o.l, As 5 1 encB (.slice none 0 0) ([]), cell g11 32 #[.int .i64 2, .int .u64 (max 1 (bq + x.e.k % 8 / 6)), .int .u64 (aq + 1), .slice none 0 0, .int .i64 (2 * (1 + x.e.t % 200 % 31))]]) rfl (E1 (nb := 56) 1 Ak Bd (by kernel_rfl) (by decide) rfl ([(⟨⟨2, max 1 (bq + x.e.k % 8 / 6), aq + 1, [], 2 * (1 + x.e.t % 200 % 31)⟩, none, 0⟩ : EntV)]) (fun w hH => hH.vec 0 rfl Bd) (by simp only [List.length_cons, List.length_nil]; omega) rfl rfl rfl rfl) ?_; rintro ev2
  refine Ag Ab rfl (AE (AU (AJ (AY.leave [0, 4] rfl rfl (Be [0, 1, 2] rfl (EZ (l := o.l) (x := (⟨⟨2, max 1 (bq + x.e.k % 8 / 6), aq + 1, [], 2 * (1 + x.e.t % 200 % 31)⟩, none, 0⟩ : EntV))) rfl (AY.keep (env' := [(2, v), (3, .int .i64 (m : Int)), (8, .slice none 0 0), (10, .int .i64 (j : Int)), (12, .int .i64 (j : Int)), (13, v), (14, .int .i64 (l.length : Int)), (15, .bool true), (16, .bool true), (17, .int .i64 (j : Int)), (18, .int .i64 (m : Int)), (19, .bool true), (20, .bool true), (23, .int .u64 aq), (24, .int .u64 (aq + 1)), (0, .int .u64 (aq + 1)), (25, .int .u64 bq), (26, v), (27, .int .i64 (j : Int)), (28, AW v (j * 5)), (29, AW v (j * 5 + 0)), (30, .int .i64 x.e.k), (31, .int .i64 (x.e.k % 8)), (32, .int .i64 (x.e.k % 8 / 6)), (33, .int .u64 (x.e.k % 8 / 6)), (34, .int .u64 (bq + x.e.k % 8 / 6)), (1, .int .u64 (bq + x.e.k % 8 / 6)), (35, v), (36, .int .i64 (j : Int)), (37, AW v (j * 5)), (38, AW v (j * 5 + 4)), (39, .int .i64 x.e.c), (40, .int .i64 2), (41, .int .u64 (bq + x.e.k % 8 / 6)), (42, .int .u64 (max 1 (bq + x.e.k % 8 / 6))), (43, .int .u64 (aq + 1)), (44, .agg #[.int .i64 2, .int .u64 (max 1 (bq + x.e.k % 8 / 6)), .int .u64 (aq + 1), .slice none 0 0, .int .i64 0]), (11, .pointer (some ⟨g11, 0, none⟩)), (45, .pointer (some ⟨g11, 0, none⟩)), (46, .int .i64 2), (48, .bool false), (47, .bool false), (66, .bool true), (65, .bool true), (67, v), (68, .int .i64 (j : Int)), (69, AW v (j * 5)), (70, AW v (j * 5 + 1)), (71, .int .u64 x.e.t), (72, .int .u64 (x.e.t % 200)), (73, .int .i64 (x.e.t % 200)), (74, .int .i64 (x.e.t % 200 % 31)), (75, .int .i64 (1 + x.e.t % 200 % 31)), (76, .int .i64 (2 * (1 + x.e.t % 200 % 31))), (77, .pointer (some ⟨g11, 4, none⟩)), (78, o.v), (79, .agg #[.int .i64 2, .int .u64 (max 1 (bq + x.e.k % 8 / 6)), .int .u64 (aq + 1), .slice none 0 0, .int .i64 (2 * (1 + x.e.t % 200 % 31))]), (80, b80), (81, ev2), (9, ev2)]) ⟨rfl, rfl, rfl, rfl, rfl, rfl, rfl, rfl, rfl, rfl, rfl, rfl, rfl, rfl, rfl, rfl, rfl, rfl, rfl, rfl, rfl, rfl, rfl, rfl, rfl, rfl, rfl, rfl, rfl, rfl, rfl, rfl, rfl, rfl, rfl, rfl, rfl, rfl, rfl, rfl, rfl, rfl, rfl, rfl, rfl, rfl, rfl, rfl, rfl, rfl, rfl, rfl, rfl, rfl, rfl, rfl, rfl, rfl, rfl, rfl, trivial⟩ (AY.mid [BZ 32 ev2 (o.l ++ [(⟨⟨2, max 1 (bq + x.e.k % 8 / 6), aq + 1, [], 2 * (1 + x.e.t % 200 % 31)⟩, none, 0⟩ : EntV)])] (.refl _) (AR (Ag Ab rfl (Ac rfl (.int .i64 ((j + 1 : Nat) : Int)) (fun b w hb hH => Ay rfl rfl rfl rfl (by rw [IntWalk.i64_in _ (by omega)]; omega) hb) (Ag Ab rfl ?_)))))))))))
  refine AE ?_
  exact BS (j + 1, aq + 1, bq + x.e.k % 8 / 6, (⟨ev2, o.l ++ [(⟨⟨2, max 1 (bq + x.e.k % 8 / 6), aq + 1, [], 2 * (1 + x.e.t % 200 % 31)⟩, none, 0⟩ : EntV)]⟩ : EsV)) 0 (hnext (ev2 := ev2) (y := (⟨⟨2, max 1 (bq + x.e.k % 8 / 6), aq + 1, [], 2 * (1 + x.e.t % 200 % 31)⟩, none, 0⟩ : EntV)) (by simp [CD, hkd])) (show l.length - (j + 1) < l.length - j by omega) ⟨rfl, rfl, rfl, rfl, rfl, rfl, rfl, trivial⟩ rfl
  have hjN : l.length ≤ j ∨ m ≤ j := .inl hjl
  refine Af (Ag Ab rfl (Ac rfl (.int .i64 (l.length : Int)) (fun b w hb hH => A8 ((Cu hv hU hS hH).1) Try.underlying34 rfl rfl hb) (Ac rfl (.bool false) (fun b w hb hH => AI rfl rfl rfl (Bf (by omega)) hb) (Ag Ab rfl (Ae (Az rfl (B6 (ES (ES (AQ (AJ (Af (Ag Ab rfl (Ae (Aw ?_)))))))))))))))
  exact Ar (.tmp rfl) (fun w h => AG o rfl [0] rfl h (fun z hz => ⟨z, .refl _, Dm (xs := [_]) (Mt hI hjN) hz⟩)) rfl
  have hjN : l.length ≤ j ∨ m ≤ j := .inr hjm
  refine Af (Ag Ab rfl (Ac rfl (.int .i64 (l.length : Int)) (fun b w hb hH => A8 ((Cu hv hU hS hH).1) Try.underlying34 rfl rfl hb) (Ac rfl (.bool true) (fun b w hb hH => AI rfl rfl rfl (Bc (by omega)) hb) (Ag Ab rfl (Ac rfl (.bool false) (fun b w hb hH => AI rfl rfl rfl (Bf (by omega)) hb) (Ag Ab rfl (Ae (Az rfl (B6 (ES (ES (AQ (AJ (Af (Ag Ab rfl (Ae (Aw ?_)))))))))))))))))
  exact Ar (.tmp rfl) (fun w h => AG o rfl [0] rfl h (fun z hz => ⟨z, .refl _, Dm (xs := [_]) (Mt hI hjN) hz⟩)) rfl
theorem Sp (u : World) (l : List EntV) (v : Value) (hv : Bj u v l) (hok : ∀ x, x ∈ l → x.e.ok) (ix tm : Int) (m : Nat) (h1 : 0 ≤ ix ∧ ix ≤ 1152921504606846976) (h2 : 0 ≤ tm ∧ tm ≤ 1152921504606846976) (hm : m ≤ 1000) (es : List EntD) (he : CE ix tm ((l.take m).map (·.e)) = es) : EJ u Try.prog 20 #[.int .u64 ix, .int .u64 tm, v, .int .i64 (m : Int)] [] (fun cv : Value => cv) (fun cv => [BQ cv es]) := fun w rs a b hp hr hd' => by
  subst he
  refine (So u l v hv hok ix tm m h1 h2 hm w rs a b hp hr hd').mono ?_
  rintro e w' ⟨x, hx, rs', ⟨p, q, e1, h1, h2⟩, hc⟩
  obtain ⟨p2, q2, e2, ⟨h3, h4⟩, h5⟩ := h2
  subst h3
  have h5 : q2 = [] := h5
  subst h5
  have : q = [] := by simpa using e2
  subst this
  exact ⟨_, hx, rs', ⟨p, [], e1, ⟨x.l, h4, h1⟩, rfl⟩, hc⟩
end Go.Proofs.Ytnebloeideodmaa.Sep
