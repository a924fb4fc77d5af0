/-
  RlV · RlW
-/
import Derived.Test.YtnebloeideodmaaPG03
import Derived.Test.YtnebloeideodmaaPJ01
import Derived.Test.YtnebloeideodmaaPK01
set_option linter.unusedSimpArgs false
set_option linter.unusedVariables false
set_option maxRecDepth 100000
namespace Go.Proofs.Ytnebloeideodmaa.Sep
open Go.RowKit
open Go.Proofs.Ytnebloeideodmaa.Mem (AM BA Chg Aq)
structure RfV where
  A : Option Addr
  c : Nat
  L : List EntV
def RfV.v (x : RfV) : Value := .slice x.A x.L.length x.c
def BG (g : Nat) (bi bt bc : Int) (es : List EntD) : Ass := fun rs => ∃ x : RfV, (x.L.map (·.e) = es ∧ x.L.length ≤ x.c) ∧ Am [cell g 74 #[.int .u64 bi, .int .u64 bt, .int .i64 bc, .slice x.A x.L.length x.c], As 32 5 encV (.slice x.A x.L.length x.c) x.L, An dat x.L] rs
theorem BG.open_ {g : Nat} {bi bt bc : Int} {es : List EntD} : ∀ rs, BG g bi bt bc es rs → ∃ x : { x : RfV // x.L.map (·.e) = es ∧ x.L.length ≤ x.c }, Am [cell g 74 #[.int .u64 bi, .int .u64 bt, .int .i64 bc, .slice x.1.A x.1.L.length x.1.c], As 32 5 encV (.slice x.1.A x.1.L.length x.1.c) x.1.L, An dat x.1.L] rs := fun _ ⟨x, h, hr⟩ => ⟨⟨x, h⟩, hr⟩
theorem Ja {α : Type} {te : TypeId} {k : Nat} {enc : α → List Value} {A : Option Addr} {c n : Nat} {l : List α} {rs : List RowT} (h : As te k enc (.slice A n c) l rs) : l.length ≤ c := by
  rcases h with ⟨h1, h2, _⟩ | ⟨g, cap, cs, h1, h2, _⟩
  · rw [h2]; exact Nat.zero_le _
  · simp only [Value.slice.injEq] at h1; omega
theorem BG.mk {g : Nat} {bi bt bc : Int} {v : Value} {es : List EntD} : ∀ rs, Am [cell g 74 #[.int .u64 bi, .int .u64 bt, .int .i64 bc, v], BQ v es] rs → BG g bi bt bc es rs := fun rs h => by
 obtain ⟨a, b, e, h1, h2⟩ := h
 obtain ⟨L, hL, p, q, e2, h3, h4⟩ := h2.one'
 obtain ⟨A, c, rfl⟩ := h3.is
 exact ⟨⟨A, c, L⟩, ⟨hL, Ja h3⟩, a, b, e, h1, p, q, e2, h3, h4⟩
theorem BG.mk0 {g : Nat} {bi bt bc : Int} : ∀ rs, Am [cell g 74 #[.int .u64 bi, .int .u64 bt, .int .i64 bc, .slice none 0 0]] rs → BG g bi bt bc [] rs := fun rs h => by
 obtain ⟨a, b, e, h1, h2⟩ := h
 exact BG.mk rs ⟨a, b, e, h1, Am.one (by have h2 : b = [] := h2; subst h2; exact ⟨[], rfl, Ed⟩)⟩
theorem BG.back {g : Nat} {bi bt bc : Int} {A : Option Addr} {c : Nat} {L : List EntV} {es : List EntD} (hL : L.map (·.e) = es) (hc : L.length ≤ c) : ∀ rs, Am [cell g 74 #[.int .u64 bi, .int .u64 bt, .int .i64 bc, .slice A L.length c], As 32 5 encV (.slice A L.length c) L, An dat L] rs → BG g bi bt bc es rs := fun rs h => ⟨⟨A, c, L⟩, ⟨hL, hc⟩, h⟩
theorem BG.done {g : Nat} {bi bt bc : Int} {A : Option Addr} {c : Nat} {L : List EntV} {es : List EntD} (hL : L.map (·.e) = es) (hc : L.length ≤ c) : ∀ z, Am [cell g 74 #[.int .u64 bi, .int .u64 bt, .int .i64 bc, .slice A L.length c], As 32 5 encV (.slice A L.length c) L, An dat L] z → ∃ z', z.Perm z' ∧ Am [BG g bi bt bc es] z' := fun z hz => ⟨z, .refl _, Am.one (BG.back hL hc z hz)⟩
theorem Sh {P : Program} {F : FuncId} {args : Array Value} {val : Value} {g : Nat} {bi bt bc : Int} {es : List EntD} (h : ∀ (A : Option Addr) (c : Nat) (L : List EntV), L.map (·.e) = es → AV P F args [cell g 74 #[.int .u64 bi, .int .u64 bt, .int .i64 bc, .slice A L.length c], As 32 5 encV (.slice A L.length c) L] (fun _ : Unit => val) (fun _ => [cell g 74 #[.int .u64 bi, .int .u64 bt, .int .i64 bc, .slice A L.length c], As 32 5 encV (.slice A L.length c) L])) : AV P F args [BG g bi bt bc es] (fun _ : Unit => val) (fun _ => [BG g bi bt bc es]) := fun w rs hp hr hd => by
  obtain ⟨⟨A, c, L⟩, ⟨hL, hc⟩, hx⟩ := hp.one'
  refine ((h A c L hL).frame (more := [An dat L]) w rs hx hr hd).mono ?_
  rintro e' w' ⟨x, he, rs', hx, hch⟩
  exact ⟨x, he, rs', Am.one (BG.back hL hc rs' hx), hch⟩
theorem Eu (u : World) (v : Value) (l : List EntV) (hv : Bj u v l) (hl : l.length * 56 ≤ 140737488351232) (hd : ∀ x, x ∈ l → x.e.d.length ≤ 140737488351232) (es : List EntD) (he : l.map (·.e) = es) : EJ u Try.prog 39 #[v] [] (fun cv : Value => cv) (fun cv => [BQ cv es]) := fun w rs a b hp hr hd' => by
  subst he
  refine (NE u v l hv hl hd w rs a b hp hr hd').mono ?_
  rintro e w' ⟨x, hx, rs', ⟨p, q, e1, h1, h2⟩, hc⟩
  obtain ⟨p2, q2, e2, ⟨h3, h4⟩, h5⟩ := h2
  subst h3
  have h5 : q2 = [] := h5
  subst h5
  have : q = [] := by simpa using e2
  subst this
  exact ⟨_, hx, rs', ⟨p, [], e1, ⟨x.l, h4, h1⟩, rfl⟩, hc⟩
section
variable {P : Program} {Q : Exit → Act → World → Prop} {n : Nat} {B : Nat → Prop} {w w0 : World} {os : List Ass} {env : List (Nat × Value)} {o : Oper} {t e ty : TypeId} {rs : List RowT}
theorem GW (i j : Nat) {v : Value} {L : List EntV} (hi : os[i]? = some (As 32 5 encV v L)) (hj : os[j]? = some (An dat L)) (hH : Hp B w0 w os) : Bj w v L := by
 refine ⟨hH.vec i hi Bd, fun x hx => ?_⟩
 obtain ⟨k, hk⟩ := List.getElem?_of_mem hx
 exact hH.rd8 j hj (ON hk)
theorem K7 {A : Option Addr} {c k : Nat} {l : List EntV} (h : Bj w (.slice A l.length c) l) (hk : k ≤ l.length) (hc : l.length ≤ c) : Bj w (.slice (EB A c k) (l.drop k).length (c - k)) (l.drop k) := by
 have := Cg.tail Bd hk hc h.1
 rw [Gx] at this
 exact ⟨this, fun x hx => h.2 x (List.mem_of_mem_drop hx)⟩
theorem K8 {A : Option Addr} {c k : Nat} {l : List EntV} (h : Bj w (.slice A l.length c) l) (hk : k ≤ l.length) : Bj w (.slice A (l.take k).length c) (l.take k) := by
 have := Cg.head Bd hk h.1
 have hl : (l.take k).length = k := by rw [List.length_take]; omega
 rw [hl] at this ⊢
 exact ⟨by rw [hl]; exact this, fun x hx => h.2 x (List.mem_of_mem_take hx)⟩
theorem Jb {A : Option Addr} {n c k : Nat} {l : List EntV} (hk : k ≤ l.length) : DS 5 (.slice A n c) 0 k = .slice A (l.take k).length c := by
 rw [P3]; rw [List.length_take, Nat.min_eq_left hk]
theorem GX (i j : Nat) (hij : i ≠ j) {v u : Value} {l m : List EntD} (hT : SliceT P t 32 5) (hb : (P.info? 32).map (fun i => i.bytes) = some 56) (hi : os[i]? = some (BQ v l)) (hj : os[j]? = some (BQ u m)) (hlen : (l.length + m.length) * 56 ≤ 140737488355328) {x y : Operand} (ho : o.op = .call { callee := .builtin .append, args := #[x, y], argTypes := #[t, t] }) (hx : evs env x = some v) (hy : evs env y = some u) :
    AZ P Q n env B w0 os o (fun v : Value => v) (fun v' => (os.set i (BQ v' (l ++ m))).set j Dw) := fun act w hH hF K hK => by
  obtain ⟨rs0, hp, hm⟩ := hH
  obtain ⟨a, x1, b, e1, hx1, hs1⟩ := hp.at_ hi
  have hp2 := hs1 Dw [] rfl
  obtain ⟨c, y1, d, e2, hy1, hs2⟩ := hp2.at_ (i := j) (o := BQ u m) (by rw [List.getElem?_set_ne hij]; exact hj)
  have hp3 := hs2 Dw [] rfl
  subst e1
  have p1 : (a ++ (x1 ++ b)).Perm (x1 ++ (y1 ++ (c ++ d))) := by
    refine (by rw [← List.append_assoc, ← List.append_assoc]; exact List.perm_append_comm.append_right b : (a ++ (x1 ++ b)).Perm (x1 ++ (a ++ b))).trans (List.Perm.append_left x1 ?_)
    have : a ++ b = c ++ (y1 ++ d) := by simpa using e2
    rw [this, ← List.append_assoc, ← List.append_assoc]
    exact List.perm_append_comm.append_right d
  have hm1 := B8 hm p1
  obtain ⟨L, hL, r1, r2, e3, hv, hd1⟩ := hx1
  obtain ⟨M, hM, q1, q2, e4, hu, hd2⟩ := hy1
  subst e3; subst e4
  have hd2 := hd2.one'
  have hd1 := hd1.one'
  have hr1 : RowsOf w r1 := AT.2 fun z hz => hm1.rows.mem z (by simp [hz])
  have hrq : RowsOf w q1 := AT.2 fun z hz => hm1.rows.mem z (by simp [hz])
  have hdd := AS.1 hm1.apart
  have hdr : AM r1 := by
    rw [List.map_append, List.map_append] at hdd
    exact AS.2 (List.nodup_append.1 (List.nodup_append.1 hdd).1).1
  have hll : (L.length + M.length) * 56 ≤ 140737488355328 := by rw [← hL, ← hM, List.length_map, List.length_map] at hlen; exact hlen
  obtain ⟨v', w', hrun, rs', hv', hch⟩ := HZ (P := P) (ty := o.type) hT hb (by decide) Bd hv hr1 hdr (As.all Bd hu hrq) hll
  have hm2 : Mem.Hp B w0 w (r1 ++ (r2 ++ (q1 ++ q2 ++ (c ++ d)))) := by simpa [List.append_assoc] using hm1
  have hm3 := D4 hm2 hch
  have p2 : (rs' ++ (r2 ++ (q1 ++ q2 ++ (c ++ d)))).Perm (q1 ++ (rs' ++ (r2 ++ q2) ++ (c ++ d))) := by
    have h1 : (rs' ++ (r2 ++ (q1 ++ q2 ++ (c ++ d)))) = (rs' ++ r2) ++ (q1 ++ (q2 ++ (c ++ d))) := by simp [List.append_assoc]
    have h2 : (q1 ++ (rs' ++ (r2 ++ q2) ++ (c ++ d))) = (q1 ++ (rs' ++ r2)) ++ (q2 ++ (c ++ d)) := by simp [List.append_assoc]
    rw [h1, h2, ← List.append_assoc (rs' ++ r2)]
    exact List.perm_append_comm.append_right _
  have hm4 := (B8 hm3 p2).drop q1.length
  rw [List.drop_left] at hm4
  obtain ⟨s1, z1, s2, e5, hz1, hs5⟩ := hp3.at_ (i := i) (o := Dw) (by
    rw [List.getElem?_set_ne (Ne.symm hij), List.getElem?_set_self (List.getElem?_eq_some_iff.1 hi).1])
  have hz1 : z1 = [] := hz1
  subst hz1
  have hnew : BQ v' (l ++ m) (rs' ++ (r2 ++ q2)) := ⟨L ++ M, by rw [List.map_append, hL, hM], rs', r2 ++ q2, rfl, hv', Am.one (by
    unfold An; rw [List.map_append]
    exact Am.app hd1 hd2)⟩
  have hfin := hs5 (BQ v' (l ++ m)) _ hnew
  rw [show ((os.set i Dw).set j Dw).set i (BQ v' (l ++ m)) = (os.set i (BQ v' (l ++ m))).set j Dw by
    rw [List.set_comm _ _ (Ne.symm hij), List.set_set]] at hfin
  have e6 : c ++ d = s1 ++ s2 := by simpa using e5
  refine HV (w0 := w) act (EI ho (vs := [v, u]) (by simp [evl, hx, hy]) (fun cs => ?_) hF) (hK v' w' ⟨_, hfin, B8 hm4 ?_⟩)
  · simp only [builtin, Sem.run_bind, Sem.run_pure, Result.andThen_ok, hrun]
  · rw [e6, ← List.append_assoc]
    have : (rs' ++ (r2 ++ q2) ++ s1 ++ s2).Perm (s1 ++ (rs' ++ (r2 ++ q2)) ++ s2) := List.perm_append_comm.append_right s2
    simpa [List.append_assoc] using this
end
end Go.Proofs.Ytnebloeideodmaa.Sep
namespace Go.Proofs.Ytnebloeideodmaa.Sep
open Go.RowKit
open Go.Proofs.Ytnebloeideodmaa.Mem (AM BA Chg Aq)
theorem Cs (g : Nat) (bi bt bc : Int) (es : List EntD) (hI : InvL bi bt es) (A : Option Addr) (c : Nat) (L : List EntV) (hL : L.map (·.e) = es)  : AV Try.prog 42 #[.pointer (some ⟨g, 0, none⟩)] [cell g 74 #[.int .u64 bi, .int .u64 bt, .int .i64 bc, .slice A L.length c], As 32 5 encV (.slice A L.length c) L] (fun (_ : Unit) => .int .u64 (bi + (es.length : Int))) (fun (_ : Unit) => [cell g 74 #[.int .u64 bi, .int .u64 bt, .int .i64 bc, .slice A L.length c], As 32 5 encV (.slice A L.length c) L]) := by
  have hb0 := hI.hi
  have ht0 := hI.ht
  have hle0 := hI.len
  have hm0 : (es.length : Int) ≤ 72057594037927935 := by omega
  have hls : 0 ≤ bi ∧ 0 ≤ (es.length : Int) ∧ bi + (es.length : Int) ≤ 9223372036854775807 := by omega
  have hLl : L.length = es.length := by rw [← hL, List.length_map]
  refine Bk (args := [.pointer (some ⟨g, 0, none⟩)]) 15 Try.func42 rfl rfl rfl ?_; intro w rs
  refine Af (Ag Ab rfl (Ae (Ax ?_)))
  refine Bi 12 0 [⟨.quiet, [], fun _ => .pointer (some ⟨g, 0, none⟩), []⟩, ⟨.quiet, [], fun _ => .pointer (some ⟨g, 0, none⟩), [0]⟩, ⟨.quiet, [], fun _ => .pointer (some ⟨g, 0, none⟩), [1]⟩, ⟨.quiet, [], fun _ => .pointer (some ⟨g, 0, none⟩), [2]⟩, ⟨.quiet, [], fun _ => .int .u64 bi, [3]⟩, ⟨.quiet, [], fun _ => .pointer (some ⟨g, 0, none⟩), []⟩, ⟨.quiet, [], fun _ => .pointer (some ⟨g, 0, none⟩), [5]⟩, ⟨.quiet, [], fun _ => .pointer (some ⟨g, 3, none⟩), [6]⟩, ⟨.quiet, [], fun _ => .slice A L.length c, [7]⟩, ⟨.quiet, [], fun _ => .int .i64 (L.length : Int), [8]⟩, ⟨.quiet, [], fun _ => .int .u64 (es.length : Int), [9]⟩, ⟨.quiet, [], fun _ => .int .u64 (bi + (es.length : Int)), [4, 10]⟩] [(0, .pointer (some ⟨g, 0, none⟩)), (2, .int .u64 0)] (fun _ => [cell g 74 #[.int .u64 bi, .int .u64 bt, .int .i64 bc, .slice A L.length c], As 32 5 encV (.slice A L.length c) L]) (by kernel_rfl) (by kernel_rfl) ⟨rfl, rfl, trivial⟩ rfl ?_ ?_
  refine Ad (by exact ⟨rfl, fun b w hH hb => Ah Ab rfl hb⟩) (Ad (by exact ⟨rfl, fun b w hH hb => by exact BF rfl rfl hb⟩) (Ad (by exact ⟨rfl, fun b w hH hb => Ah Ab rfl hb⟩) (Ad (by exact ⟨rfl, fun b w hH hb => Ah Ab rfl hb⟩) (Ad (by exact ⟨rfl, fun b w hH hb => AD rfl rfl (AL Ai rfl) (hH.row 0 rfl) hb⟩) (Ad (by exact ⟨rfl, fun b w hH hb => Ah Ab rfl hb⟩) (Ad (by exact ⟨rfl, fun b w hH hb => by exact BF rfl rfl hb⟩) (Ad (by exact ⟨rfl, fun b w hH hb => Ah Ab rfl hb⟩) (Ad (by exact ⟨rfl, fun b w hH hb => AD rfl rfl (AL Ap rfl) (hH.row 0 rfl) hb⟩) (Ad (by exact ⟨rfl, fun b w hH hb => D8 Ak rfl rfl hH hb⟩) ?_)))))))))
  refine Ad (by exact ⟨rfl, fun b w hH hb => BR Try.underlying3 Try.underlying26 (by rw [IntWalk.u64_in _ (by omega)]; omega) rfl rfl hb⟩) (Ad (by exact ⟨rfl, fun b w hH hb => Ay rfl rfl rfl rfl (IntWalk.u64_in _ (by omega)) hb⟩) ?_)
  exact Bx
  refine BM.keep (env' := [(2, .int .u64 0), (14, .int .u64 (bi + (es.length : Int)))]) ⟨rfl, rfl, trivial⟩ (Ag Ab rfl (AE (AJ (Aw ?_))))
  exact Ar (.tmp rfl) (fun w h => AG () rfl [0, 1] rfl h CV) rfl
theorem Cy (g : Nat) (bi bt bc : Int) (es : List EntD) (hI : InvL bi bt es) (A : Option Addr) (c : Nat) (L : List EntV) (hL : L.map (·.e) = es) (x : Int) (hx : 0 ≤ x ∧ x ≤ 18446744073709551615) (a : Int) (ok : Bool) (ht : BO bi bt es x = (a, ok)) : AV Try.prog 45 #[.pointer (some ⟨g, 0, none⟩), .int .u64 x] [cell g 74 #[.int .u64 bi, .int .u64 bt, .int .i64 bc, .slice A L.length c], As 32 5 encV (.slice A L.length c) L] (fun (_ : Unit) => .tuple #[.int .u64 a, .bool ok]) (fun (_ : Unit) => [cell g 74 #[.int .u64 bi, .int .u64 bt, .int .i64 bc, .slice A L.length c], As 32 5 encV (.slice A L.length c) L]) := by
  have hb0 := hI.hi
  have ht0 := hI.ht
  have hle0 := hI.len
  have hm0 : (es.length : Int) ≤ 72057594037927935 := by omega
  have hls : 0 ≤ bi ∧ 0 ≤ (es.length : Int) ∧ bi + (es.length : Int) ≤ 9223372036854775807 := by omega
  have hLl : L.length = es.length := by rw [← hL, List.length_map]
  refine Bk (args := [.pointer (some ⟨g, 0, none⟩), .int .u64 x]) 46 Try.func45 rfl rfl rfl ?_; intro w rs
  refine Af (Ag Ab rfl (Ae (Ax ?_)))
  rcases (show x = bi ∨ x < bi ∨ bi + (es.length : Int) < x ∨ (bi < x ∧ x ≤ bi + (es.length : Int)) by omega) with hn | hn | hn | ⟨hn, hn2⟩
  obtain ⟨rfl, rfl⟩ : bt = a ∧ true = ok := by rw [hn, Et] at ht; exact ⟨congrArg Prod.fst ht, congrArg Prod.snd ht⟩
  refine Af (Ag Ab rfl (Ac rfl (.pointer (some ⟨g, 0, none⟩)) (fun b w hb hH => by exact BF rfl rfl hb) (Ag Ab rfl (Ac rfl (.int .u64 bi) (fun b w hb hH => AD rfl rfl (AL Ai rfl) (hH.row 0 rfl) hb) (Ac rfl (.bool true) (fun b w hb hH => AI rfl rfl rfl (DK (by omega)) hb) (Ae (AC rfl (Af (Ag Ab rfl (Ac rfl (.pointer (some ⟨g, 0, none⟩)) (fun b w hb hH => by exact BF rfl rfl hb) (Ag Ab rfl ?_)))))))))))
  refine Ac rfl (.int .u64 bt) (fun b w hb hH => AD rfl rfl (AL Ai rfl) (hH.row 0 rfl) hb) (Ag Ab rfl (Ae (Aw (Cc ?_))))
  exact BU (.tmp rfl) (.tmp rfl) (fun w h => AG () rfl [0, 1] rfl h CV) rfl
  obtain ⟨rfl, rfl⟩ : 0 = a ∧ false = ok := by have h9 := DH (bt := bt) (es := es) (show x < bi ∨ bi + (es.length : Int) < x by omega); rw [ht] at h9; exact ⟨(congrArg Prod.fst h9).symm, (congrArg Prod.snd h9).symm⟩
  refine Af (Ag Ab rfl (Ac rfl (.pointer (some ⟨g, 0, none⟩)) (fun b w hb hH => by exact BF rfl rfl hb) (Ag Ab rfl (Ac rfl (.int .u64 bi) (fun b w hb hH => AD rfl rfl (AL Ai rfl) (hH.row 0 rfl) hb) (Ac rfl (.bool false) (fun b w hb hH => AI rfl rfl rfl (Dq (by omega)) hb) (Ae (Az rfl (AK (AJ (Ax (Af (Ag Ab rfl (Ac rfl (.pointer (some ⟨g, 0, none⟩)) (fun b w hb hH => by exact BF rfl rfl hb) (Ag Ab rfl ?_))))))))))))))
  refine Ac rfl (.int .u64 bi) (fun b w hb hH => AD rfl rfl (AL Ai rfl) (hH.row 0 rfl) hb) (Ac rfl (.bool true) (fun b w hb hH => AI rfl rfl rfl (Bc (by omega)) hb) (Ag Ab rfl (Ae (AC rfl (Af (Ag Ab rfl (Ae (Aw (Cc ?_)))))))))
  exact BU (.tmp rfl) (.tmp rfl) (fun w h => AG () rfl [0, 1] rfl h CV) rfl
  obtain ⟨rfl, rfl⟩ : 0 = a ∧ false = ok := by have h9 := DH (bt := bt) (es := es) (show x < bi ∨ bi + (es.length : Int) < x by omega); rw [ht] at h9; exact ⟨(congrArg Prod.fst h9).symm, (congrArg Prod.snd h9).symm⟩
  refine Af (Ag Ab rfl (Ac rfl (.pointer (some ⟨g, 0, none⟩)) (fun b w hb hH => by exact BF rfl rfl hb) (Ag Ab rfl (Ac rfl (.int .u64 bi) (fun b w hb hH => AD rfl rfl (AL Ai rfl) (hH.row 0 rfl) hb) (Ac rfl (.bool false) (fun b w hb hH => AI rfl rfl rfl (Dq (by omega)) hb) (Ae (Az rfl (AK (AJ (Ax (Af (Ag Ab rfl (Ac rfl (.pointer (some ⟨g, 0, none⟩)) (fun b w hb hH => by exact BF rfl rfl hb) (Ag Ab rfl ?_))))))))))))))
  refine Ac rfl (.int .u64 bi) (fun b w hb hH => AD rfl rfl (AL Ai rfl) (hH.row 0 rfl) hb) (Ac rfl (.bool false) (fun b w hb hH => AI rfl rfl rfl (Bf (by omega)) hb) (Ag Ab rfl (Al rfl (Ao (os' := fun _ => [cell g 74 #[.int .u64 bi, .int .u64 bt, .int .i64 bc, .slice A L.length c], As 32 5 encV (.slice A L.length c) L]) [0, 1] 0 (Aj Try.func42 (by kernel_rfl) rfl) (Cs g bi bt bc es hI A c L hL ) rfl rfl rfl (fun _ => rfl) rfl rfl rfl) ?_))); rintro ⟨⟩
  refine Ac rfl (.bool true) (fun b w hb hH => AI rfl rfl rfl (Cv (by omega)) hb) (Ag Ab rfl (Ae (AC rfl (Af (Ag Ab rfl (Ae (Aw (Cc ?_))))))))
  exact BU (.tmp rfl) (.tmp rfl) (fun w h => AG () rfl [0, 1] rfl h CV) rfl
  obtain ⟨k, hk⟩ : ∃ k : Nat, x = bi + 1 + (k : Int) := ⟨(x - bi - 1).toNat, by omega⟩
  have hkl : k < L.length := by omega
  obtain ⟨y, hy⟩ : ∃ y, L[k]? = some y := ⟨_, List.getElem?_eq_getElem hkl⟩
  obtain ⟨rfl, rfl⟩ : y.e.t = a ∧ true = ok := by have h9 := Hi (bt := bt) hk (Do hL hy); rw [ht] at h9; exact ⟨(congrArg Prod.fst h9).symm, (congrArg Prod.snd h9).symm⟩
  refine Af (Ag Ab rfl (Ac rfl (.pointer (some ⟨g, 0, none⟩)) (fun b w hb hH => by exact BF rfl rfl hb) (Ag Ab rfl (Ac rfl (.int .u64 bi) (fun b w hb hH => AD rfl rfl (AL Ai rfl) (hH.row 0 rfl) hb) (Ac rfl (.bool false) (fun b w hb hH => AI rfl rfl rfl (Dq (by omega)) hb) (Ae (Az rfl (AK (AJ (Ax (Af (Ag Ab rfl (Ac rfl (.pointer (some ⟨g, 0, none⟩)) (fun b w hb hH => by exact BF rfl rfl hb) (Ag Ab rfl ?_))))))))))))))
  refine Ac rfl (.int .u64 bi) (fun b w hb hH => AD rfl rfl (AL Ai rfl) (hH.row 0 rfl) hb) (Ac rfl (.bool false) (fun b w hb hH => AI rfl rfl rfl (Bf (by omega)) hb) (Ag Ab rfl (Al rfl (Ao (os' := fun _ => [cell g 74 #[.int .u64 bi, .int .u64 bt, .int .i64 bc, .slice A L.length c], As 32 5 encV (.slice A L.length c) L]) [0, 1] 0 (Aj Try.func42 (by kernel_rfl) rfl) (Cs g bi bt bc es hI A c L hL ) rfl rfl rfl (fun _ => rfl) rfl rfl rfl) ?_))); rintro ⟨⟩
  refine Ac rfl (.bool false) (fun b w hb hH => AI rfl rfl rfl (BT (by omega)) hb) (Ag Ab rfl (Ae (Az rfl (AK (AJ (Ax ?_))))))
  refine Bi 15 0 [⟨.quiet, [], fun _ => .pointer (some ⟨g, 0, none⟩), []⟩, ⟨.quiet, [], fun _ => .pointer (some ⟨g, 0, none⟩), [0]⟩, ⟨.quiet, [], fun _ => .pointer (some ⟨g, 3, none⟩), [1]⟩, ⟨.quiet, [], fun _ => .slice A L.length c, [2]⟩, ⟨.quiet, [], fun _ => .int .u64 x, []⟩, ⟨.quiet, [], fun _ => .pointer (some ⟨g, 0, none⟩), []⟩, ⟨.quiet, [], fun _ => .pointer (some ⟨g, 0, none⟩), [5]⟩, ⟨.quiet, [], fun _ => .pointer (some ⟨g, 0, none⟩), [6]⟩, ⟨.quiet, [], fun _ => .pointer (some ⟨g, 0, none⟩), [7]⟩, ⟨.quiet, [], fun _ => .int .u64 bi, [8]⟩, ⟨.quiet, [], fun _ => .int .u64 (x - bi), [4, 9]⟩, ⟨.quiet, [], fun _ => .int .u64 (k : Int), [10]⟩, ⟨.quiet, [], fun _ => AW (.slice A L.length c) (k * 5), [3, 11]⟩, ⟨.quiet, [], fun _ => AW (.slice A L.length c) (k * 5 + 1), [12]⟩, ⟨.quiet, [], fun _ => .int .u64 y.e.t, [13]⟩] [(0, .pointer (some ⟨g, 0, none⟩)), (1, .int .u64 x), (4, .int .u64 0), (5, .bool false)] (fun _ => [cell g 74 #[.int .u64 bi, .int .u64 bt, .int .i64 bc, .slice A L.length c], As 32 5 encV (.slice A L.length c) L]) (by kernel_rfl) (by kernel_rfl) ⟨rfl, rfl, rfl, rfl, trivial⟩ rfl ?_ ?_
  refine Ad (by exact ⟨rfl, fun b w hH hb => Ah Ab rfl hb⟩) (Ad (by exact ⟨rfl, fun b w hH hb => by exact BF rfl rfl hb⟩) (Ad (by exact ⟨rfl, fun b w hH hb => Ah Ab rfl hb⟩) (Ad (by exact ⟨rfl, fun b w hH hb => AD rfl rfl (AL Ap rfl) (hH.row 0 rfl) hb⟩) (Ad (by exact ⟨rfl, fun b w hH hb => Ah Ab rfl hb⟩) (Ad (by exact ⟨rfl, fun b w hH hb => Ah Ab rfl hb⟩) (Ad (by exact ⟨rfl, fun b w hH hb => by exact BF rfl rfl hb⟩) (Ad (by exact ⟨rfl, fun b w hH hb => Ah Ab rfl hb⟩) (Ad (by exact ⟨rfl, fun b w hH hb => Ah Ab rfl hb⟩) (Ad (by exact ⟨rfl, fun b w hH hb => AD rfl rfl (AL Ai rfl) (hH.row 0 rfl) hb⟩) ?_)))))))))
  refine Ad (by exact ⟨rfl, fun b w hH hb => Ay rfl rfl rfl rfl (IntWalk.u64_in _ (by omega)) hb⟩) (Ad (by exact ⟨rfl, fun b w hH hb => Ay rfl rfl rfl rfl (by rw [IntWalk.u64_in _ (by omega)]; omega) hb⟩) (Ad (by exact ⟨rfl, fun b w hH hb => C4 1 Ak Bd rfl k hkl rfl rfl rfl hH hb⟩) (Ad (by exact ⟨rfl, fun b w hH hb => Gt Bd (by decide) (hH.vec 1 rfl Bd) (j := k) hy BL rfl rfl hb⟩) (Ad (by exact ⟨rfl, fun b w hH hb => Bh Bd (by decide) (hH.vec 1 rfl Bd) (j := k) hy Ai (off := 1) rfl rfl rfl hb⟩) ?_))))
  exact Bx
  refine BM.keep (env' := [(4, .int .u64 0), (5, .bool false), (45, .int .u64 y.e.t)]) ⟨rfl, rfl, rfl, trivial⟩ (Ag Ab rfl (AE (AJ (Aw ?_))))
  exact BU (.tmp rfl) (.tmp rfl) (fun w h => AG () rfl [0, 1] rfl h CV) rfl
theorem Vh (g : Nat) (bi bt bc : Int) (es : List EntD) (hI : InvL bi bt es) (A : Option Addr) (c : Nat) (L : List EntV) (hL : L.map (·.e) = es) (x y : Int) (hx : 0 ≤ x ∧ x ≤ 18446744073709551615) (b : Bool) (hb : (decide (Ev bt es < y) || (decide (y = Ev bt es) && decide (bi + (es.length : Int) ≤ x))) = b) : AV Try.prog 47 #[.pointer (some ⟨g, 0, none⟩), .int .u64 x, .int .u64 y] [cell g 74 #[.int .u64 bi, .int .u64 bt, .int .i64 bc, .slice A L.length c], As 32 5 encV (.slice A L.length c) L] (fun (_ : Unit) => .bool b) (fun (_ : Unit) => [cell g 74 #[.int .u64 bi, .int .u64 bt, .int .i64 bc, .slice A L.length c], As 32 5 encV (.slice A L.length c) L]) := by
  have hb0 := hI.hi
  have ht0 := hI.ht
  have hle0 := hI.len
  have hm0 : (es.length : Int) ≤ 72057594037927935 := by omega
  have hls : 0 ≤ bi ∧ 0 ≤ (es.length : Int) ∧ bi + (es.length : Int) ≤ 9223372036854775807 := by omega
  have hLl : L.length = es.length := by rw [← hL, List.length_map]
  refine Bk (args := [.pointer (some ⟨g, 0, none⟩), .int .u64 x, .int .u64 y]) 30 Try.func47 rfl rfl rfl ?_; intro w rs
  refine Af (Ag Ab rfl (Ae (Af (Ag Ab rfl (Al rfl (Ao (os' := fun _ => [cell g 74 #[.int .u64 bi, .int .u64 bt, .int .i64 bc, .slice A L.length c], As 32 5 encV (.slice A L.length c) L]) [0, 1] 0 (Aj Try.func42 (by kernel_rfl) rfl) (Cs g bi bt bc es hI A c L hL ) rfl rfl rfl (fun _ => rfl) rfl rfl rfl) ?_))))); rintro ⟨⟩
  refine Al rfl (Ao (os' := fun _ => [cell g 74 #[.int .u64 bi, .int .u64 bt, .int .i64 bc, .slice A L.length c], As 32 5 encV (.slice A L.length c) L]) [0, 1] 0 (Aj Try.func45 (by kernel_rfl) rfl) (Cy g bi bt bc es hI A c L hL (bi + (es.length : Int)) (by omega) (Ev bt es) true C9) rfl rfl rfl (fun _ => rfl) rfl rfl rfl) ?_; rintro ⟨⟩
  refine Ag Ab rfl (Ae ?_)
  rcases Int.lt_or_le (Ev bt es) y with h1 | h1
  rotate_left
  by_cases h2 : y = Ev bt es
  rcases Int.lt_or_le x (bi + (es.length : Int)) with h3 | h3
  obtain rfl : b = false := by rw [← hb]; simp; omega
  refine Af (Ag Ab rfl (Ac rfl (.bool false) (fun b w hb hH => AI rfl rfl rfl (BT (by omega)) hb) (Ag Ab rfl (Ac rfl (.bool true) (fun b w hb hH => AI rfl rfl rfl (DK h2) hb) (Ag Ab rfl (Al rfl (Ao (os' := fun _ => [cell g 74 #[.int .u64 bi, .int .u64 bt, .int .i64 bc, .slice A L.length c], As 32 5 encV (.slice A L.length c) L]) [0, 1] 0 (Aj Try.func42 (by kernel_rfl) rfl) (Cs g bi bt bc es hI A c L hL ) rfl rfl rfl (fun _ => rfl) rfl rfl rfl) ?_)))))); rintro ⟨⟩
  refine Ac rfl (.bool false) (fun b w hb hH => AI rfl rfl rfl (CP (by omega)) hb) (Ag Ab rfl (Ae (Aw ?_)))
  exact Ar (.tmp rfl) (fun w h => AG () rfl [0, 1] rfl h CV) rfl
  obtain rfl : b = true := by rw [← hb]; simp; omega
  refine Af (Ag Ab rfl (Ac rfl (.bool false) (fun b w hb hH => AI rfl rfl rfl (BT (by omega)) hb) (Ag Ab rfl (Ac rfl (.bool true) (fun b w hb hH => AI rfl rfl rfl (DK h2) hb) (Ag Ab rfl (Al rfl (Ao (os' := fun _ => [cell g 74 #[.int .u64 bi, .int .u64 bt, .int .i64 bc, .slice A L.length c], As 32 5 encV (.slice A L.length c) L]) [0, 1] 0 (Aj Try.func42 (by kernel_rfl) rfl) (Cs g bi bt bc es hI A c L hL ) rfl rfl rfl (fun _ => rfl) rfl rfl rfl) ?_)))))); rintro ⟨⟩
  refine Ac rfl (.bool true) (fun b w hb hH => AI rfl rfl rfl (Bq (by omega)) hb) (Ag Ab rfl (Ae (Aw ?_)))
  exact Ar (.tmp rfl) (fun w h => AG () rfl [0, 1] rfl h CV) rfl
  obtain rfl : b = false := by rw [← hb]; simp; omega
  refine Af (Ag Ab rfl (Ac rfl (.bool false) (fun b w hb hH => AI rfl rfl rfl (BT (by omega)) hb) (Ag Ab rfl (Ac rfl (.bool false) (fun b w hb hH => AI rfl rfl rfl (Dq h2) hb) (Ag Ab rfl (Ae (Aw ?_)))))))
  exact Ar (.tmp rfl) (fun w h => AG () rfl [0, 1] rfl h CV) rfl
  obtain rfl : b = true := by rw [← hb]; simp; omega
  refine Af (Ag Ab rfl (Ac rfl (.bool true) (fun b w hb hH => AI rfl rfl rfl (Cv (by omega)) hb) (Ag Ab rfl (Ae (Aw ?_)))))
  exact Ar (.tmp rfl) (fun w h => AG () rfl [0, 1] rfl h CV) rfl
theorem Jc (g : Nat) (bi bt bc : Int) (es : List EntD) (hI : InvL bi bt es) (A : Option Addr) (c : Nat) (L : List EntV) (hL : L.map (·.e) = es) (x : Int) (hx : 0 ≤ x ∧ x ≤ 18446744073709551615) (p q : Int) (hc : Ez (bc, bi) (es.take (Dt bi es.length x)) = (p, q)) : AV Try.prog 46 #[.pointer (some ⟨g, 0, none⟩), .int .u64 x] [cell g 74 #[.int .u64 bi, .int .u64 bt, .int .i64 bc, .slice A L.length c], As 32 5 encV (.slice A L.length c) L] (fun (_ : Unit) => .tuple #[.int .i64 p, .int .u64 q]) (fun (_ : Unit) => [cell g 74 #[.int .u64 bi, .int .u64 bt, .int .i64 bc, .slice A L.length c], As 32 5 encV (.slice A L.length c) L]) := by
  have hb0 := hI.hi
  have ht0 := hI.ht
  have hle0 := hI.len
  have hm0 : (es.length : Int) ≤ 72057594037927935 := by omega
  have hls : 0 ≤ bi ∧ 0 ≤ (es.length : Int) ∧ bi + (es.length : Int) ≤ 9223372036854775807 := by omega
  have hLl : L.length = es.length := by rw [← hL, List.length_map]
  obtain ⟨u, hu⟩ : ∃ u, Dt bi es.length x = u := ⟨_, rfl⟩
  rw [hu] at hc
  unfold Dt at hu
  refine Bk (args := [.pointer (some ⟨g, 0, none⟩), .int .u64 x]) 67 Try.func46 rfl rfl rfl ?_; intro w rs
  refine Af (Ag Ab rfl (Ae (Af (Ag Ab rfl (Ac rfl (.pointer (some ⟨g, 0, none⟩)) (fun b w hb hH => by exact BF rfl rfl hb) (Ag Ab rfl (Ac rfl (.int .i64 bc) (fun b w hb hH => AD rfl rfl (AL AB rfl) (hH.row 0 rfl) hb) (Ag Ab rfl (Ae (Af (Ag Ab rfl ?_)))))))))))
  refine Ac rfl (.pointer (some ⟨g, 0, none⟩)) (fun b w hb hH => by exact BF rfl rfl hb) (Ag Ab rfl (Ac rfl (.int .u64 bi) (fun b w hb hH => AD rfl rfl (AL Ai rfl) (hH.row 0 rfl) hb) (Ag Ab rfl (Ae (Ax (Af (Ag Ab rfl (Ae (AN (Cw (α := Nat × Int × Int) (fun ⟨j, a, z⟩ => [(0, .pointer (some ⟨g, 0, none⟩)), (1, .int .u64 x), (4, .int .i64 0), (5, .int .u64 0), (6, .int .i64 a), (7, .int .u64 z), (8, .int .i64 (j : Int))]) (fun ⟨j, a, z⟩ => [cell g 74 #[.int .u64 bi, .int .u64 bt, .int .i64 bc, .slice A L.length c], As 32 5 encV (.slice A L.length c) L]) (fun ⟨j, a, z⟩ => j ≤ u ∧ Ez (bc, bi) (es.take j) = (a, z)) (fun ⟨j, a, z⟩ => es.length - j) (0, bc, bi) ⟨Nat.zero_le _, rfl⟩ ⟨rfl, rfl, rfl, rfl, rfl, rfl, rfl, trivial⟩ rfl ?_))))))))))
  rintro ⟨j, a, z⟩ hI8
  refine AY.at_ (env' := [(0, .pointer (some ⟨g, 0, none⟩)), (1, .int .u64 x), (4, .int .i64 0), (5, .int .u64 0), (6, .int .i64 a), (7, .int .u64 z), (8, .int .i64 (j : Int))]) (rs' := [cell g 74 #[.int .u64 bi, .int .u64 bt, .int .i64 bc, .slice A L.length c], As 32 5 encV (.slice A L.length c) L]) ⟨rfl, rfl, rfl, rfl, rfl, rfl, rfl, trivial⟩ rfl ?_
  have hI1 : j ≤ u := hI8.1
  have hI2 : Ez (bc, bi) (es.take j) = (a, z) := hI8.2
  refine Ax ?_
  rcases (show (j < u ∧ j < L.length) ∨ (j = u ∧ j < L.length) ∨ (j = u ∧ L.length ≤ j) by omega) with ⟨hju, hjl⟩ | ⟨hju, hjl⟩ | ⟨hju, hjl⟩
  obtain ⟨y, hy⟩ : ∃ y, L[j]? = some y := ⟨_, List.getElem?_eq_getElem hjl⟩
  have hye := Do hL hy
  have hyi := (hI.at_ hye).1
  have hct := F6 (s := (bc, bi)) hye
  refine Af (Ag Ab rfl (Ac rfl (.pointer (some ⟨g, 0, none⟩)) (fun b w hb hH => by exact BF rfl rfl hb) (Ag Ab rfl (Ac rfl (.slice A L.length c) (fun b w hb hH => AD rfl rfl (AL Ap rfl) (hH.row 0 rfl) hb) (Ac rfl (.int .i64 (L.length : Int)) (fun b w hb hH => D8 Ak rfl rfl hH hb) (Ac rfl (.bool true) (fun b w hb hH => AI rfl rfl rfl (Bc (by omega)) hb) (Ag Ab rfl (Ac rfl (.pointer (some ⟨g, 0, none⟩)) (fun b w hb hH => by exact BF rfl rfl hb) (Ag Ab rfl ?_)))))))))
  refine Ac rfl (.slice A L.length c) (fun b w hb hH => AD rfl rfl (AL Ap rfl) (hH.row 0 rfl) hb) (Ag Ab rfl (Ac rfl (AW (.slice A L.length c) (j * 5)) (fun b w hb hH => C4 1 Ak Bd rfl j hjl rfl rfl rfl hH hb) (Ac rfl (AW (.slice A L.length c) (j * 5 + 2)) (fun b w hb hH => Gt Bd (by decide) (hH.vec 1 rfl Bd) (j := j) hy AX rfl rfl hb) (Ac rfl (.int .u64 y.e.i) (fun b w hb hH => Bh Bd (by decide) (hH.vec 1 rfl Bd) (j := j) hy Ai (off := 2) rfl rfl rfl hb) (Ag Ab rfl (Ac rfl (.bool true) (fun b w hb hH => AI rfl rfl rfl (Bu (by omega)) hb) (Ag Ab rfl (Ae (AC rfl (AK (AJ (Ax (AN ?_)))))))))))))
  by_cases hk : y.e.k = 2
  refine Af (Ag Ab rfl (Ac rfl (.pointer (some ⟨g, 0, none⟩)) (fun b w hb hH => by exact BF rfl rfl hb) (Ag Ab rfl (Ac rfl (.slice A L.length c) (fun b w hb hH => AD rfl rfl (AL Ap rfl) (hH.row 0 rfl) hb) (Ag Ab rfl (Ac rfl (AW (.slice A L.length c) (j * 5)) (fun b w hb hH => C4 1 Ak Bd rfl j hjl rfl rfl rfl hH hb) (Ac rfl (AW (.slice A L.length c) (j * 5 + 0)) (fun b w hb hH => Gt Bd (by decide) (hH.vec 1 rfl Bd) (j := j) hy Dl rfl rfl hb) (Ac rfl (.int .i64 y.e.k) (fun b w hb hH => Bh Bd (by decide) (hH.vec 1 rfl Bd) (j := j) hy AB (off := 0) rfl rfl rfl hb) (Ac rfl (.bool true) (fun b w hb hH => AI rfl rfl rfl (DK hk) hb) ?_)))))))))
  refine Ae (AC rfl (Af (Ag Ab rfl (Ac rfl (.pointer (some ⟨g, 0, none⟩)) (fun b w hb hH => by exact BF rfl rfl hb) (Ag Ab rfl (Ac rfl (.slice A L.length c) (fun b w hb hH => AD rfl rfl (AL Ap rfl) (hH.row 0 rfl) hb) (Ag Ab rfl (Ac rfl (AW (.slice A L.length c) (j * 5)) (fun b w hb hH => C4 1 Ak Bd rfl j hjl rfl rfl rfl hH hb) (Ac rfl (AW (.slice A L.length c) (j * 5 + 4)) (fun b w hb hH => Gt Bd (by decide) (hH.vec 1 rfl Bd) (j := j) hy Eq rfl rfl hb) (Ac rfl (.int .i64 y.e.c) (fun b w hb hH => Bh Bd (by decide) (hH.vec 1 rfl Bd) (j := j) hy AB (off := 4) rfl rfl rfl hb) (Ag Ab rfl ?_)))))))))))
  refine Ae (AR (Ag Ab rfl (Ac rfl (.pointer (some ⟨g, 0, none⟩)) (fun b w hb hH => by exact BF rfl rfl hb) (Ag Ab rfl (Ac rfl (.slice A L.length c) (fun b w hb hH => AD rfl rfl (AL Ap rfl) (hH.row 0 rfl) hb) (Ag Ab rfl (Ac rfl (AW (.slice A L.length c) (j * 5)) (fun b w hb hH => C4 1 Ak Bd rfl j hjl rfl rfl rfl hH hb) (Ac rfl (AW (.slice A L.length c) (j * 5 + 2)) (fun b w hb hH => Gt Bd (by decide) (hH.vec 1 rfl Bd) (j := j) hy AX rfl rfl hb) (Ac rfl (.int .u64 y.e.i) (fun b w hb hH => Bh Bd (by decide) (hH.vec 1 rfl Bd) (j := j) hy Ai (off := 2) rfl rfl rfl hb) (Ag Ab rfl ?_))))))))))
  refine AE (AU (AJ (AR (Ag Ab rfl (Ac rfl (.int .i64 ((j + 1 : Nat) : Int)) (fun b w hb hH => Ay rfl rfl rfl rfl (by rw [IntWalk.i64_in _ (by omega)]; omega) hb) (Ag Ab rfl (AE ?_)))))))
  exact BS (j + 1, y.e.c, y.e.i) 0 ⟨by omega, by rw [hct]; simp [hk, hI2]⟩ (show es.length - (j + 1) < es.length - j by omega) ⟨rfl, rfl, rfl, rfl, rfl, rfl, rfl, trivial⟩ rfl
  refine Af (Ag Ab rfl (Ac rfl (.pointer (some ⟨g, 0, none⟩)) (fun b w hb hH => by exact BF rfl rfl hb) (Ag Ab rfl (Ac rfl (.slice A L.length c) (fun b w hb hH => AD rfl rfl (AL Ap rfl) (hH.row 0 rfl) hb) (Ag Ab rfl (Ac rfl (AW (.slice A L.length c) (j * 5)) (fun b w hb hH => C4 1 Ak Bd rfl j hjl rfl rfl rfl hH hb) (Ac rfl (AW (.slice A L.length c) (j * 5 + 0)) (fun b w hb hH => Gt Bd (by decide) (hH.vec 1 rfl Bd) (j := j) hy Dl rfl rfl hb) (Ac rfl (.int .i64 y.e.k) (fun b w hb hH => Bh Bd (by decide) (hH.vec 1 rfl Bd) (j := j) hy AB (off := 0) rfl rfl rfl hb) (Ac rfl (.bool false) (fun b w hb hH => AI rfl rfl rfl (Dq hk) hb) ?_)))))))))
  refine Ae (Az rfl (AK (AU (AJ (AR (Ag Ab rfl (Ac rfl (.int .i64 ((j + 1 : Nat) : Int)) (fun b w hb hH => Ay rfl rfl rfl rfl (by rw [IntWalk.i64_in _ (by omega)]; omega) hb) (Ag Ab rfl (AE ?_)))))))))
  exact BS (j + 1, a, z) 0 ⟨by omega, by rw [hct]; simp [hk, hI2]⟩ (show es.length - (j + 1) < es.length - j by omega) ⟨rfl, rfl, rfl, rfl, rfl, rfl, rfl, trivial⟩ rfl
  obtain ⟨y, hy⟩ : ∃ y, L[j]? = some y := ⟨_, List.getElem?_eq_getElem hjl⟩
  have hye := Do hL hy
  have hyi := (hI.at_ hye).1
  have hct := F6 (s := (bc, bi)) hye
  subst hju
  rw [hI2] at hc
  obtain ⟨rfl, rfl⟩ : a = p ∧ z = q := ⟨congrArg Prod.fst hc, congrArg Prod.snd hc⟩
  refine Af (Ag Ab rfl (Ac rfl (.pointer (some ⟨g, 0, none⟩)) (fun b w hb hH => by exact BF rfl rfl hb) (Ag Ab rfl (Ac rfl (.slice A L.length c) (fun b w hb hH => AD rfl rfl (AL Ap rfl) (hH.row 0 rfl) hb) (Ac rfl (.int .i64 (L.length : Int)) (fun b w hb hH => D8 Ak rfl rfl hH hb) (Ac rfl (.bool true) (fun b w hb hH => AI rfl rfl rfl (Bc (by omega)) hb) (Ag Ab rfl (Ac rfl (.pointer (some ⟨g, 0, none⟩)) (fun b w hb hH => by exact BF rfl rfl hb) (Ag Ab rfl ?_)))))))))
  refine Ac rfl (.slice A L.length c) (fun b w hb hH => AD rfl rfl (AL Ap rfl) (hH.row 0 rfl) hb) (Ag Ab rfl (Ac rfl (AW (.slice A L.length c) (j * 5)) (fun b w hb hH => C4 1 Ak Bd rfl j hjl rfl rfl rfl hH hb) (Ac rfl (AW (.slice A L.length c) (j * 5 + 2)) (fun b w hb hH => Gt Bd (by decide) (hH.vec 1 rfl Bd) (j := j) hy AX rfl rfl hb) (Ac rfl (.int .u64 y.e.i) (fun b w hb hH => Bh Bd (by decide) (hH.vec 1 rfl Bd) (j := j) hy Ai (off := 2) rfl rfl rfl hb) (Ag Ab rfl (Ac rfl (.bool false) (fun b w hb hH => AI rfl rfl rfl (Bp (by omega)) hb) (Ag Ab rfl (Ae (Az rfl (B6 (ES (ES (AQ (AJ (Af (Ag Ab rfl ?_))))))))))))))))
  refine Ae (Aw ?_)
  exact BU (.tmp rfl) (.tmp rfl) (fun w h => AG () rfl [0, 1] rfl h CV) rfl
  subst hju
  rw [hI2] at hc
  obtain ⟨rfl, rfl⟩ : a = p ∧ z = q := ⟨congrArg Prod.fst hc, congrArg Prod.snd hc⟩
  refine Af (Ag Ab rfl (Ac rfl (.pointer (some ⟨g, 0, none⟩)) (fun b w hb hH => by exact BF rfl rfl hb) (Ag Ab rfl (Ac rfl (.slice A L.length c) (fun b w hb hH => AD rfl rfl (AL Ap rfl) (hH.row 0 rfl) hb) (Ac rfl (.int .i64 (L.length : Int)) (fun b w hb hH => D8 Ak rfl rfl hH hb) (Ac rfl (.bool false) (fun b w hb hH => AI rfl rfl rfl (Bf (by omega)) hb) (Ag Ab rfl (Ae (Az rfl (B6 (ES (ES (AQ (AJ (Af (Ag Ab rfl ?_))))))))))))))))
  refine Ae (Aw ?_)
  exact BU (.tmp rfl) (.tmp rfl) (fun w h => AG () rfl [0, 1] rfl h CV) rfl
theorem Vi (g : Nat) (bi bt bc : Int) (es : List EntD) (hI : InvL bi bt es) (A : Option Addr) (c : Nat) (L : List EntV) (hL : L.map (·.e) = es) (p q : Int) (hc : Ez (bc, bi) es = (p, q)) : AV Try.prog 44 #[.pointer (some ⟨g, 0, none⟩)] [cell g 74 #[.int .u64 bi, .int .u64 bt, .int .i64 bc, .slice A L.length c], As 32 5 encV (.slice A L.length c) L] (fun (_ : Unit) => .tuple #[.int .i64 p, .int .u64 q]) (fun (_ : Unit) => [cell g 74 #[.int .u64 bi, .int .u64 bt, .int .i64 bc, .slice A L.length c], As 32 5 encV (.slice A L.length c) L]) := by
  have hb0 := hI.hi
  have ht0 := hI.ht
  have hle0 := hI.len
  have hm0 : (es.length : Int) ≤ 72057594037927935 := by omega
  have hls : 0 ≤ bi ∧ 0 ≤ (es.length : Int) ∧ bi + (es.length : Int) ≤ 9223372036854775807 := by omega
  have hLl : L.length = es.length := by rw [← hL, List.length_map]
  refine Bk (args := [.pointer (some ⟨g, 0, none⟩)]) 10 Try.func44 rfl rfl rfl ?_; intro w rs
  refine Af (Ag Ab rfl (Ae (Af (Ag Ab rfl (Al rfl (Ao (os' := fun _ => [cell g 74 #[.int .u64 bi, .int .u64 bt, .int .i64 bc, .slice A L.length c], As 32 5 encV (.slice A L.length c) L]) [0, 1] 0 (Aj Try.func42 (by kernel_rfl) rfl) (Cs g bi bt bc es hI A c L hL ) rfl rfl rfl (fun _ => rfl) rfl rfl rfl) ?_))))); rintro ⟨⟩
  refine Al rfl (Ao (os' := fun _ => [cell g 74 #[.int .u64 bi, .int .u64 bt, .int .i64 bc, .slice A L.length c], As 32 5 encV (.slice A L.length c) L]) [0, 1] 0 (Aj Try.func46 (by kernel_rfl) rfl) (Jc g bi bt bc es hI A c L hL (bi + (es.length : Int)) (by omega) p q (by rw [show Dt bi es.length (bi + (es.length : Int)) = es.length by unfold Dt; omega, List.take_of_length_le (Nat.le_refl _)]; exact hc)) rfl rfl rfl (fun _ => rfl) rfl rfl rfl) ?_; rintro ⟨⟩
  refine Ag Ab rfl (Ae (Aw ?_))
  exact BU (.tmp rfl) (.tmp rfl) (fun w h => AG () rfl [0, 1] rfl h CV) rfl
end Go.Proofs.Ytnebloeideodmaa.Sep
