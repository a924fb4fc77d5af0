/-
  RlN · RlO · RlP
-/
import Derived.Test.YtnebloeideodmaaPI02
set_option linter.unusedSimpArgs false
set_option linter.unusedVariables false
set_option maxRecDepth 100000
namespace Go.Proofs.Ytnebloeideodmaa.Sep
open Go.RowKit
open Go.Proofs.Ytnebloeideodmaa.Mem (AM BA Chg Aq)
theorem ON {sl : List EntV} {j : Nat} {x : EntV} (hj : sl[j]? = some x) : Pv (An dat sl) x.v x.e.d := fun rs w h hr => by
 obtain ⟨ys, h1, h2⟩ := An.at_ h hr hj
 exact OF h1 h2
theorem Vb {e : EntD} {A : Option Addr} {c : Nat} : ∀ rs, Am [As 5 1 encB (.slice A e.d.length c) e.d] rs → dat ⟨e, A, c⟩ rs := fun rs h => h.one'
theorem NK (X : Ass) (x : EntV) (hX : Pv X x.v x.e.d) (hl : x.e.d.length ≤ 140737488351232) : AV Try.prog 56 #[.agg #[.int .i64 x.e.k, .int .u64 x.e.t, .int .u64 x.e.i, x.v, .int .i64 x.e.c]] [X] (fun (y : SlV) => .agg #[.int .i64 x.e.k, .int .u64 x.e.t, .int .u64 x.e.i, .slice y.A x.e.d.length y.c, .int .i64 x.e.c]) (fun (y : SlV) => [X, dat (⟨x.e, y.A, y.c⟩ : EntV)]) := by
 refine Bk (args := [.agg #[.int .i64 x.e.k, .int .u64 x.e.t, .int .u64 x.e.i, x.v, .int .i64 x.e.c]]) 8 Try.func56 rfl rfl rfl ?_; intro w rs
 refine Af (Ag Ab rfl (Al (post := fun g1 => [cell g1 32 #[.int .i64 x.e.k, .int .u64 x.e.t, .int .u64 x.e.i, x.v, .int .i64 x.e.c], X]) rfl (Co (cs := #[.int .i64 x.e.k, .int .u64 x.e.t, .int .u64 x.e.i, x.v, .int .i64 x.e.c]) rfl rfl rfl) ?_)); rintro g1
 refine Al (post := fun g2 => [cell g2 32 #[.int .i64 0, .int .u64 0, .int .u64 0, .slice none 0 0, .int .i64 0], cell g1 32 #[.int .i64 x.e.k, .int .u64 x.e.t, .int .u64 x.e.i, x.v, .int .i64 x.e.c], X]) rfl (B4 BK rfl) ?_; rintro g2
 refine Ae (Af (Ag Ab rfl (Ac rfl (x.v) (fun b w hb hH => AD rfl rfl (AL Cr rfl) (hH.row 1 rfl) hb) (Al rfl (Ao (os' := fun d => [As 5 1 encB d x.e.d, cell g2 32 #[.int .i64 0, .int .u64 0, .int .u64 0, .slice none 0 0, .int .i64 0], cell g1 32 #[.int .i64 x.e.k, .int .u64 x.e.t, .int .u64 x.e.i, x.v, .int .i64 x.e.c], X]) [2] 0 (Aj Try.func69 (by kernel_rfl) rfl) (UI hX (by omega)) rfl rfl rfl (fun _ => rfl) rfl rfl rfl) ?_)))); rintro d
 refine BM.fact 0 rfl (fun _ h => As.is h) ?_; rintro ⟨A, c, rfl⟩
 refine Ag Ab rfl (A5 (post := fun _ => [As 5 1 encB (.slice A x.e.d.length c) x.e.d, cell g2 32 #[.int .i64 0, .int .u64 0, .int .u64 0, .slice none 0 0, .int .i64 0], cell g1 32 #[.int .i64 x.e.k, .int .u64 x.e.t, .int .u64 x.e.i, .slice A x.e.d.length c, .int .i64 x.e.c], X]) rfl rfl (AP 2 (v := .slice A x.e.d.length c) #[.int .i64 x.e.k, .int .u64 x.e.t, .int .u64 x.e.i, .slice A x.e.d.length c, .int .i64 x.e.c] Cr.2 rfl rfl rfl rfl rfl rfl rfl rfl rfl) ?_); rintro ⟨⟩
 refine Ae (Be [0] rfl Vb rfl (Af (Ag Ab rfl (Ac rfl (.agg #[.int .i64 x.e.k, .int .u64 x.e.t, .int .u64 x.e.i, .slice A x.e.d.length c, .int .i64 x.e.c]) (fun b w hb hH => AD rfl rfl (Dd (cs := [.int .i64 x.e.k, .int .u64 x.e.t, .int .u64 x.e.i, .slice A x.e.d.length c, .int .i64 x.e.c]) Cl rfl) (hH.row 2 rfl) hb) (A5 (post := fun _ => [dat (⟨x.e, A, c⟩ : EntV), cell g2 32 #[.int .i64 x.e.k, .int .u64 x.e.t, .int .u64 x.e.i, .slice A x.e.d.length c, .int .i64 x.e.c], cell g1 32 #[.int .i64 x.e.k, .int .u64 x.e.t, .int .u64 x.e.i, .slice A x.e.d.length c, .int .i64 x.e.c], X]) rfl rfl (AP 1 (v := .agg #[.int .i64 x.e.k, .int .u64 x.e.t, .int .u64 x.e.i, .slice A x.e.d.length c, .int .i64 x.e.c]) #[.int .i64 x.e.k, .int .u64 x.e.t, .int .u64 x.e.i, .slice A x.e.d.length c, .int .i64 x.e.c] Cl.2 rfl rfl rfl rfl rfl rfl rfl rfl rfl) ?_))))); rintro ⟨⟩
 refine Ae (Aw ?_)
 exact Ar (.cell 1 (v := .agg #[.int .i64 x.e.k, .int .u64 x.e.t, .int .u64 x.e.i, .slice A x.e.d.length c, .int .i64 x.e.c]) (Dd (cs := [.int .i64 x.e.k, .int .u64 x.e.t, .int .u64 x.e.i, .slice A x.e.d.length c, .int .i64 x.e.c]) Cl rfl) rfl rfl) (fun w h => AG (⟨A, c⟩) rfl [3, 0] rfl h CV) rfl
end Go.Proofs.Ytnebloeideodmaa.Sep
namespace Go.Proofs.Ytnebloeideodmaa.Sep
open Go.RowKit
open Go.Proofs.Ytnebloeideodmaa.Mem (AM BA Chg Aq)
def Cf (bi : Int) (es : List EntD) (x most : Int) : List EntD := if x ≤ bi ∨ most ≤ 0 then [] else (es.drop (Dt bi es.length (x - 1))).take most.toNat
theorem J1 {α : Type} {l : List α} {a b : Nat} (h : b = l.length) : l.take (min a b) = l.take a := by
  subst h
  rcases Nat.le_total a l.length with h | h
  · rw [Nat.min_eq_left h]
  · rw [Nat.min_eq_right h, List.take_of_length_le (Nat.le_refl _), List.take_of_length_le h]
theorem RingD.isk {sl : List EntV} {f q k : Nat} {es : List EntD} {x : EntV} (h : RingD sl f es) (hk : q + k < es.length) (hx : sl[AF f sl.length (q + k)]? = some x) : (es.drop q)[k]? = some x.e := by
 rw [List.getElem?_drop]; exact h.is_ hk hx
def Qj (g8 : Nat) (sl : List EntV) (l : List EntD) (i : Nat) : Ass := fun rs => ∃ x : EsV, Am [cell g8 34 #[x.v], BZ 32 x.v x.l, An dat sl, fact (x.l.map (·.e) = l.take i)] rs
theorem Qj.open_ {g8 : Nat} {sl : List EntV} {l : List EntD} {i : Nat} : ∀ rs, Qj g8 sl l i rs → ∃ x : EsV, Am [cell g8 34 #[x.v], BZ 32 x.v x.l, An dat sl, fact (x.l.map (·.e) = l.take i)] rs := fun _ h => h
theorem Vc {g8 : Nat} {sl : List EntV} {l : List EntD} {i : Nat} {x : EsV} (h : x.l.map (·.e) = l.take i) : ∀ rs, Am [cell g8 34 #[x.v], BZ 32 x.v x.l, An dat sl] rs → Qj g8 sl l i rs := fun rs hr => ⟨x, Dm (xs := [_, _, _]) h hr⟩
theorem WD {g8 : Nat} {sl : List EntV} {l : List EntD} : ∀ rs, Am [cell g8 34 #[.slice none 0 0], An dat sl] rs → Qj g8 sl l 0 rs := fun rs hr => by
 obtain ⟨p, q, e, h1, h2⟩ := hr
 exact ⟨⟨.slice none 0 0, []⟩, p, q, e, h1, [], q, rfl, Ed, Dm (xs := [_]) rfl h2⟩
theorem NL {v : Value} {l : List EntV} {y : EntV} : ∀ rs, Am [As 32 5 encV v (l ++ [y]), An (fun x : EntV => As 5 1 encB x.v x.e.d) l, dat y] rs → BZ 32 v (l ++ [y]) rs := EZ
def VI (fv : Value) (g : Nat) (q m : Int) : Ass := fun rs => ∃ x : Nat × Nat × Nat, fv = .func (.func 68) #[] #[.pointer (some ⟨x.1, 0, none⟩), .pointer (some ⟨x.2.1, 0, none⟩), .pointer (some ⟨x.2.2, 0, none⟩)] ∧ Am [cell x.1 3 #[.int .i64 m], cell x.2.1 90 #[.pointer (some ⟨g, 3, none⟩)], cell x.2.2 3 #[.int .i64 q]] rs
theorem VI.open_ {fv : Value} {g : Nat} {q m : Int} : ∀ rs, VI fv g q m rs → ∃ x : { x : Nat × Nat × Nat // fv = .func (.func 68) #[] #[.pointer (some ⟨x.1, 0, none⟩), .pointer (some ⟨x.2.1, 0, none⟩), .pointer (some ⟨x.2.2, 0, none⟩)] }, Am [cell x.1.1 3 #[.int .i64 m], cell x.1.2.1 90 #[.pointer (some ⟨g, 3, none⟩)], cell x.1.2.2 3 #[.int .i64 q]] rs := fun _ ⟨x, h, hx⟩ => ⟨⟨x, h⟩, hx⟩
theorem Vd (g : Nat) (q m : Int) : AV Try.prog 55 #[.pointer (some ⟨g, 3, none⟩), .int .i64 q, .int .i64 m] [] (fun fv : Value => fv) (fun fv => [VI fv g q m]) := fun w rs hp hr hd => by
 refine (I5 g q m w rs hp hr hd).mono ?_
 rintro e w' ⟨x, he, rs', hx, hc⟩
 exact ⟨_, he, rs', Am.one ⟨x, rfl, hx⟩, hc⟩
def Ve (e : EntD) : Option Value → EntV
  | some (.slice A _ c) => ⟨e, A, c⟩
  | _ => ⟨e, none, 0⟩
def FE (e : EntD) : Value → EntV
  | .agg cs => Ve e cs[3]?
  | _ => ⟨e, none, 0⟩
theorem Vf (e : EntD) (v : Option Value) : (Ve e v).e = e := by unfold Ve; split <;> rfl
theorem NM (e : EntD) (cv : Value) : (FE e cv).e = e := by
  unfold FE; split
  · exact Vf e _
  · rfl
def OO (cv : Value) (e : EntD) : Ass := fun rs => cv = .agg (encV (FE e cv)).toArray ∧ dat (FE e cv) rs
theorem OO.open_ {cv : Value} {e : EntD} : ∀ rs, OO cv e rs → ∃ _ : Unit, Am [dat (FE e cv)] rs := fun _ h => ⟨(), Am.one h.2⟩
theorem OO.cells {cv : Value} {e : EntD} : ∀ rs, OO cv e rs → cv.cells.toList = encV (FE e cv) := fun _ h => by
 have h1 := h.1
 generalize FE e cv = y at h1
 rw [h1]; rfl
theorem Ml (X : Ass) (x : EntV) (hX : Pv X x.v x.e.d) (hl : x.e.d.length ≤ 140737488351232) : AV Try.prog 56 #[.agg #[.int .i64 x.e.k, .int .u64 x.e.t, .int .u64 x.e.i, x.v, .int .i64 x.e.c]] [X] (fun cv : Value => cv) (fun cv => [X, OO cv x.e]) := fun w rs hp hr hd => by
 refine (NK X x hX hl w rs hp hr hd).mono ?_
 rintro e w' ⟨y, he, rs', ⟨a, b, e1, h1, h2⟩, hc⟩
 exact ⟨_, he, rs', ⟨a, b, e1, h1, Am.one ⟨rfl, h2.one'⟩⟩, hc⟩
theorem Sd {P : Program} {Q : Exit → Act → World → Prop} {n : Nat} {env : List (Nat × Value)} {B : Nat → Prop} {w0 : World} {os : List Ass} {o : Oper} {t e : TypeId} {α : Type} {k : Nat} {enc : α → List Value} {th : Ass} (i : Nat) (hi : os[i]? = some th) (hT : SliceT P t e k) (hk : k ≤ 4096) (he : EncOf k enc) {x : Operand} {c : Value} (a : α) (hc : ∀ rs, th rs → c.cells.toList = enc a) (ho : o.op = .buildSlice t 1 #[(0, x)]) (hx : evs env x = some c) : AZ P Q n env B w0 os o (fun v : Value => v) (fun v => As e k enc v [a] :: os) := fun b w hH hF K hK =>
 E2 hT hk he a (DR i hi hc hH) ho hx b w hH hF K hK
theorem Dn {e : EntD} (h : BV e = true) : e.d.length ≤ 128 := by
  have := (CJ h).2.2
  rcases this with h1 | h1 | h1
  · rw [h1.2.1]; simp
  · exact h1.2.2.1
  · first | (rw [h1.2.1]; simp) | omega
theorem Mm (g : Nat) (bi bt bc : Int) (es : List EntD) (hI : InvL bi bt es) (v : Value) (sl : List EntV) (f : Nat) (hR : RingD sl f es) (x most : Int) (hx : 0 ≤ x ∧ x ≤ 18446744073709551615) (hmo : -9223372036854775808 ≤ most ∧ most ≤ 9223372036854775807) (hes : es.length * 56 ≤ 140737488351232) : AV Try.prog 26 #[.pointer (some ⟨g, 0, none⟩), .int .u64 x, .int .i64 most] [cell g 67 #[.int .u64 bi, .int .u64 bt, .int .i64 bc, v, .int .i64 (f : Int), .int .i64 (es.length : Int)], As 32 5 encV v sl, An dat sl] (fun (o : EsV) => o.v) (fun (o : EsV) => [cell g 67 #[.int .u64 bi, .int .u64 bt, .int .i64 bc, v, .int .i64 (f : Int), .int .i64 (es.length : Int)], As 32 5 encV v sl, An dat sl, BZ 32 o.v o.l, fact (o.l.map (·.e) = Cf bi es x most)]) := by
  have hb0 := hI.hi
  have ht0 := hI.ht
  have hle0 := hI.len
  have hm0 : (es.length : Int) ≤ 72057594037927935 := by omega
  have hls : 0 ≤ bi ∧ 0 ≤ (es.length : Int) ∧ bi + (es.length : Int) ≤ 9223372036854775807 := by omega
  have hsz := hR.sz
  refine Nt (args := [.pointer (some ⟨g, 0, none⟩), .int .u64 x, .int .i64 most]) 43 Try.func26 rfl rfl rfl ?_; intro w rs
  refine Af (Ag Ab rfl (Ae (Ax ?_)))
  rcases (show x ≤ bi ∨ (bi < x ∧ most ≤ 0) ∨ (bi < x ∧ 0 < most) by omega) with hn | ⟨hn, hn2⟩ | ⟨hn, hn2⟩
  refine Af (Ag Ab rfl (Ac rfl (.pointer (some ⟨g, 0, none⟩)) (fun b w hb hH => by exact BF rfl rfl hb) (Ag Ab rfl (Ac rfl (.int .u64 bi) (fun b w hb hH => AD rfl rfl (AL Ai rfl) (hH.row 0 rfl) hb) (Ac rfl (.bool true) (fun b w hb hH => AI rfl rfl rfl (Bu (by omega)) hb) (Ag Ab rfl (Ae (AC rfl (H3 (t := BZ 32 (.slice none 0 0) ([])) (Ed) (Af ?_))))))))))
  refine Ag Ab rfl (Ae (Aw (Cc ?_)))
  exact RZ (Ar (.tmp rfl) (fun w h => AG (⟨.slice none 0 0, []⟩ : EsV) rfl [1, 2, 3, 0] rfl h (fun z hz => ⟨z, .refl _, Dm (xs := [_, _, _, _]) (by unfold Cf; rw [if_pos (by omega)]; rfl) hz⟩)) rfl)
  refine Af (Ag Ab rfl (Ac rfl (.pointer (some ⟨g, 0, none⟩)) (fun b w hb hH => by exact BF rfl rfl hb) (Ag Ab rfl (Ac rfl (.int .u64 bi) (fun b w hb hH => AD rfl rfl (AL Ai rfl) (hH.row 0 rfl) hb) (Ac rfl (.bool false) (fun b w hb hH => AI rfl rfl rfl (Bp (by omega)) hb) (Ag Ab rfl (Ac rfl (.bool true) (fun b w hb hH => AI rfl rfl rfl (Bu (by omega)) hb) (Ag Ab rfl (Ae (AC rfl ?_))))))))))
  refine H3 (t := BZ 32 (.slice none 0 0) ([])) (Ed) (Af (Ag Ab rfl (Ae (Aw (Cc ?_)))))
  exact RZ (Ar (.tmp rfl) (fun w h => AG (⟨.slice none 0 0, []⟩ : EsV) rfl [1, 2, 3, 0] rfl h (fun z hz => ⟨z, .refl _, Dm (xs := [_, _, _, _]) (by unfold Cf; rw [if_pos (by omega)]; rfl) hz⟩)) rfl)
  obtain ⟨q, hq⟩ : ∃ q, Dt bi es.length (x - 1) = q := ⟨_, rfl⟩
  have hqe : q ≤ es.length := by rw [← hq]; exact HL
  obtain ⟨m, hm⟩ : ∃ m, min most.toNat (es.length - q) = m := ⟨_, rfl⟩
  have hfm : m = 0 ∨ f < sl.length := by have := hR.le; rcases hR.ff with h | h; exact .inl (by omega); exact .inr h
  have hlq : (es.drop q).take m = Cf bi es x most := by unfold Cf; rw [if_neg (by omega), hq, ← hm, J1 (by rw [List.length_drop])]
  have hle9 := hR.le
  refine Af (Ag Ab rfl (Ac rfl (.pointer (some ⟨g, 0, none⟩)) (fun b w hb hH => by exact BF rfl rfl hb) (Ag Ab rfl (Ac rfl (.int .u64 bi) (fun b w hb hH => AD rfl rfl (AL Ai rfl) (hH.row 0 rfl) hb) (Ac rfl (.bool false) (fun b w hb hH => AI rfl rfl rfl (Bp (by omega)) hb) (Ag Ab rfl (Ac rfl (.bool false) (fun b w hb hH => AI rfl rfl rfl (Bp (by omega)) hb) (Ag Ab rfl (Ae (Az rfl (AK (AJ (Af ?_)))))))))))))
  refine Ag Ab rfl (Ac rfl (.int .u64 (x - 1)) (fun b w hb hH => Ay rfl rfl rfl rfl (IntWalk.u64_in _ (by omega)) hb) (Al rfl (Ao (os' := fun _ => [cell g 67 #[.int .u64 bi, .int .u64 bt, .int .i64 bc, v, .int .i64 (f : Int), .int .i64 (es.length : Int)], As 32 5 encV v sl, An dat sl]) [0] 0 (Aj Try.func36 (by kernel_rfl) rfl) (Hk g bi bt bc v (f : Int) es.length (x - 1) hb0 hm0 (by omega) q hq) rfl rfl rfl (fun _ => rfl) rfl rfl rfl) ?_)); rintro ⟨⟩
  refine Ag Ab rfl (Ae (Af (Ag Ab rfl (Al (post := fun g8 => [cell g8 34 #[.slice none 0 0], cell g 67 #[.int .u64 bi, .int .u64 bt, .int .i64 bc, v, .int .i64 (f : Int), .int .i64 (es.length : Int)], As 32 5 encV v sl, An dat sl]) rfl (B4 FS rfl) ?_)))); rintro g8
  refine Ae (Ax (Ax (Ep 1 rfl ?_)))
  refine Bi 11 2 [⟨.quiet, [none, none], fun _ => .pointer (some ⟨g, 0, none⟩), []⟩, ⟨.quiet, [none, none], fun _ => .pointer (some ⟨g, 0, none⟩), [0]⟩, ⟨.quiet, [none, none], fun _ => .pointer (some ⟨g, 3, none⟩), [1]⟩, ⟨.quiet, [none, none], fun _ => .int .i64 (q : Int), []⟩, ⟨.quiet, [none, none], fun _ => .int .i64 most, []⟩, ⟨.quiet, [none, none], fun _ => .pointer (some ⟨g, 0, none⟩), []⟩, ⟨.actv 0, [some false, some false], fun _ => .int .i64 (es.length : Int), [5]⟩, ⟨.quiet, [none, none], fun _ => .int .i64 (q : Int), []⟩, ⟨.quiet, [some true, none], fun _ => .int .i64 ((es.length - q : Nat) : Int), [6, 7]⟩, ⟨.quiet, [some true, none], fun _ => .int .i64 (m : Int), [4, 8]⟩, ⟨.act 1, [some true, some false], fun _ => undef, [2, 3, 9]⟩] [(0, .pointer (some ⟨g, 0, none⟩)), (2, .int .i64 most), (6, .slice none 0 0), (7, .int .i64 (q : Int)), (8, .pointer (some ⟨g8, 0, none⟩))] (fun ρ => match ρ with | [rq0, rq1] => [Ct rq1 (fun fv => VI fv g (q : Int) (m : Int)) (Dw), cell g8 34 #[.slice none 0 0], cell g 67 #[.int .u64 bi, .int .u64 bt, .int .i64 bc, v, .int .i64 (f : Int), .int .i64 (es.length : Int)], As 32 5 encV v sl, An dat sl] | _ => []) (by kernel_rfl) (by kernel_rfl) ⟨rfl, rfl, rfl, rfl, rfl, trivial⟩ rfl ?_ ?_
  refine Ad (by intro r0_ r1_; exact ⟨rfl, fun b w hH hb => Ah Ab rfl hb⟩) (Ad (by intro r0_ r1_; exact ⟨rfl, fun b w hH hb => by exact BF rfl rfl hb⟩) (Ad (by intro r0_ r1_; exact ⟨rfl, fun b w hH hb => Ah Ab rfl hb⟩) (Ad (by intro r0_ r1_; exact ⟨rfl, fun b w hH hb => Ah Ab rfl hb⟩) (Ad (by intro r0_ r1_; exact ⟨rfl, fun b w hH hb => Ah Ab rfl hb⟩) (Ad (by intro r0_ r1_; exact ⟨rfl, fun b w hH hb => Ah Ab rfl hb⟩) (Ad (by exact ⟨rfl, AZ.su (Ao (os' := fun _ => [Dw, cell g8 34 #[.slice none 0 0], cell g 67 #[.int .u64 bi, .int .u64 bt, .int .i64 bc, v, .int .i64 (f : Int), .int .i64 (es.length : Int)], As 32 5 encV v sl, An dat sl]) [2] 0 (Aj Try.func18 (by kernel_rfl) rfl) (Hj g bi bt bc v (f : Int) (es.length : Int)) rfl rfl rfl (fun _ => rfl) rfl rfl rfl) rfl⟩) (Ad (by intro r0_ r1_; exact ⟨rfl, fun b w hH hb => Ah Ab rfl hb⟩) (Ad (by intro v0_ r1_; exact ⟨rfl, fun b w hH hb => Ay rfl rfl rfl rfl (by rw [IntWalk.i64_in _ (by omega)]; omega) hb⟩) (Ad (by intro v0_ r1_; exact ⟨rfl, fun b w hH hb => BH rfl rfl (fun cs => (fun w cs => DN (by omega) _ _ w cs) w cs) hb⟩) ?_)))))))))
  refine Ad (by intro v0_; exact ⟨rfl, AZ.s (Ao (os' := fun fv => [VI fv g (q : Int) (m : Int), cell g8 34 #[.slice none 0 0], cell g 67 #[.int .u64 bi, .int .u64 bt, .int .i64 bc, v, .int .i64 (f : Int), .int .i64 (es.length : Int)], As 32 5 encV v sl, An dat sl]) [0] 1 (Aj Try.func55 (by kernel_rfl) rfl) (Vd g (q : Int) (m : Int)) rfl rfl rfl (fun _ => rfl) rfl rfl rfl) (fun _ => rfl)⟩) ?_
  exact Bx
  intro v0_ fv
  refine BM.keep (env' := [(6, .slice none 0 0), (8, .pointer (some ⟨g8, 0, none⟩)), (35, fv)]) ⟨rfl, rfl, rfl, trivial⟩ (AE (AJ (AN (Bo 0 rfl VI.open_ (fun _ => rfl) ?_)))); rintro ⟨⟨gn, gr, gk⟩, hfv⟩
  have hfv : fv = .func (.func 68) #[] #[.pointer (some ⟨gn, 0, none⟩), .pointer (some ⟨gr, 0, none⟩), .pointer (some ⟨gk, 0, none⟩)] := hfv
  subst hfv
  refine Be [3, 6] rfl (WD (l := es.drop q)) rfl (AY.keep (env' := [(6, .slice none 0 0), (8, .pointer (some ⟨g8, 0, none⟩)), (35, .func (.func 68) #[] #[.pointer (some ⟨gn, 0, none⟩), .pointer (some ⟨gr, 0, none⟩), .pointer (some ⟨gk, 0, none⟩)])]) ⟨rfl, rfl, rfl, trivial⟩ (AY.mid [Qj g8 sl (es.drop q) 0, cell gn 3 #[.int .i64 (m : Int)], cell gr 90 #[.pointer (some ⟨g, 3, none⟩)], cell gk 3 #[.int .i64 (q : Int)], cell g 67 #[.int .u64 bi, .int .u64 bt, .int .i64 bc, v, .int .i64 (f : Int), .int .i64 (es.length : Int)], As 32 5 encV v sl] (.refl _) ?_))
  refine HK (caps := [.pointer (some ⟨gn, 0, none⟩), .pointer (some ⟨gr, 0, none⟩), .pointer (some ⟨gk, 0, none⟩)]) (post := [Qj g8 sl (es.drop q) m, cell g 67 #[.int .u64 bi, .int .u64 bt, .int .i64 bc, v, .int .i64 (f : Int), .int .i64 (es.length : Int)], As 32 5 encV v sl, cell gn 3 #[.int .i64 (m : Int)], cell gr 90 #[.pointer (some ⟨g, 3, none⟩)], cell gk 3 #[.int .i64 (q : Int)]]) (os' := [Qj g8 sl (es.drop q) m, cell g 67 #[.int .u64 bi, .int .u64 bt, .int .i64 bc, v, .int .i64 (f : Int), .int .i64 (es.length : Int)], As 32 5 encV v sl, cell gn 3 #[.int .i64 (m : Int)], cell gr 90 #[.pointer (some ⟨g, 3, none⟩)], cell gk 3 #[.int .i64 (q : Int)]]) (.normal) [0, 4, 5, 1, 2, 3] rfl (Aj Try.func68 (by kernel_rfl) rfl) (fun L1 fn1 tm1 hf1 r1 k11 k12 k13 k14 k15 k16 => RG (RY (.yield L1) #[] gn gr gk g bi bt bc v sl f q m (es.length : Int) (by omega) hfm hsz (fun i => KV L1 r1 (Qj g8 sl (es.drop q) i)) ?_)) rfl rfl rfl ?_
  intro i x hi hx
  refine RH (FY (n := 43) (env := [(36, .agg #[.int .i64 x.e.k, .int .u64 x.e.t, .int .u64 x.e.i, x.v, .int .i64 x.e.c]), (6, .slice none 0 0), (8, .pointer (some ⟨g8, 0, none⟩)), (35, .func (.func 68) #[] #[.pointer (some ⟨gn, 0, none⟩), .pointer (some ⟨gr, 0, none⟩), .pointer (some ⟨gk, 0, none⟩)])]) (.normal) k12 k11 (by rw [k14]; rfl) ?_ ?_)
  · rw [k14, k13]
    refine (congrArg (fun t => Fr 43 { tmps := t, defers := [] } _) (?_ : _ = (tm1.setIfInBounds 36 (.agg #[.int .i64 x.e.k, .int .u64 x.e.t, .int .u64 x.e.i, x.v, .int .i64 x.e.c])))).mpr (hf1.put (d := 36) (by decide) _)
    simp
  · intro w0 rs
    rw [k15]
    refine JT (by kernel_rfl) (by rintro ⟨a, w, h⟩; first | exact h.elim | exact nomatch h.1 | (obtain ⟨_, h, _⟩ := h; exact nomatch h)) (Ag Ab rfl (Al (post := fun g1 => [cell g1 32 #[.int .i64 0, .int .u64 0, .int .u64 0, .slice none 0 0, .int .i64 0], Ch L1 r1, Qj g8 sl (es.drop q) i]) rfl (B4 BK rfl) ?_)); rintro g1
    refine A5 (post := fun _ => [cell g1 32 #[.int .i64 x.e.k, .int .u64 x.e.t, .int .u64 x.e.i, x.v, .int .i64 x.e.c], Ch L1 r1, Qj g8 sl (es.drop q) i]) rfl rfl (AP 0 (v := .agg #[.int .i64 x.e.k, .int .u64 x.e.t, .int .u64 x.e.i, x.v, .int .i64 x.e.c]) #[.int .i64 x.e.k, .int .u64 x.e.t, .int .u64 x.e.i, x.v, .int .i64 x.e.c] Cl.2 rfl rfl rfl rfl rfl rfl rfl rfl rfl) ?_; rintro ⟨⟩
    refine AE (KU 1 rfl k11 ?_)
    rw [k16]
    refine KP 2 rfl Qj.open_ (fun _ => rfl) ?_; rintro o
    refine Fi.fact 3 rfl (fun _ h => h.2) ?_; rintro ho
    refine Fi.leave [3] rfl rfl ?_
    have he := hR.isk (q := q) (by omega) hx
    have hol : o.l.length = i := by have := congrArg List.length ho; rw [List.length_map, List.length_take, List.length_drop] at this; omega
    have hxd : x.e.d.length ≤ 128 := Dn (hI.at_ (k := q + i) (by rw [← List.getElem?_drop]; exact he)).2.1
    refine KP 1 rfl EY (fun _ => rfl) ?_; rintro ⟨⟩
    refine KO (US 2 rfl ?_)
    refine RD (by rintro ⟨a, w, h⟩; first | exact h.elim | exact nomatch h.1 | (obtain ⟨_, h, _⟩ := h; exact nomatch h)) 5 3 [⟨.quiet, [none, none, none], fun _ => o.v, []⟩, ⟨.quiet, [none, none, none], fun _ => .agg #[.int .i64 x.e.k, .int .u64 x.e.t, .int .u64 x.e.i, x.v, .int .i64 x.e.c], []⟩, ⟨.act 0, [some false, some false, some false], fun _ => undef, [1]⟩, ⟨.act 1, [some true, some false, some false], fun _ => undef, [2]⟩, ⟨.act 2, [some true, some true, some false], fun _ => undef, [0, 3]⟩] [(6, .slice none 0 0), (8, .pointer (some ⟨g8, 0, none⟩)), (9, .pointer (some ⟨g1, 0, none⟩))] (fun ρ => match ρ with | [rq0, rq1, rq2] => [Ct rq1 (fun u2 => Ct rq0 (fun cv => As 32 5 encV u2 ([(FE x.e cv)])) (Dw)) (Dw), Ct rq0 (fun cv => OO cv x.e) (Dw), Ct rq2 (fun ev2 => Ct rq0 (fun cv => As 32 5 encV ev2 (o.l ++ [(FE x.e cv)])) (Dw)) (As 32 5 encV o.v o.l), An (fun x : EntV => As 5 1 encB x.v x.e.d) o.l, cell g8 34 #[o.v], An dat sl, cell g1 32 #[.int .i64 x.e.k, .int .u64 x.e.t, .int .u64 x.e.i, x.v, .int .i64 x.e.c], Ch L1 (Er r1)] | _ => []) (by kernel_rfl) (by kernel_rfl) (by kernel_rfl) ⟨rfl, rfl, rfl, trivial⟩ rfl ?_ ?_
    refine Ad (by intro r0_ r1_ r2_; exact ⟨rfl, fun b w hH hb => AD rfl rfl (AL Ap rfl) (hH.row 4 rfl) hb⟩) (Ad (by intro r0_ r1_ r2_; exact ⟨rfl, fun b w hH hb => AD rfl rfl (Dd (cs := [.int .i64 x.e.k, .int .u64 x.e.t, .int .u64 x.e.i, x.v, .int .i64 x.e.c]) Cl rfl) (hH.row 6 rfl) hb⟩) (Ad (by exact ⟨rfl, AZ.s (Ao (os' := fun cv => [Dw, OO cv x.e, As 32 5 encV o.v o.l, An (fun x : EntV => As 5 1 encB x.v x.e.d) o.l, cell g8 34 #[o.v], An dat sl, cell g1 32 #[.int .i64 x.e.k, .int .u64 x.e.t, .int .u64 x.e.i, x.v, .int .i64 x.e.c], Ch L1 (Er r1)]) [5, 1] 1 (Aj Try.func56 (by kernel_rfl) rfl) (Ml (An dat sl) x (ON hx) (by omega)) rfl rfl rfl (fun _ => rfl) rfl rfl rfl) (fun _ => rfl)⟩) (Ad (by intro cv; exact ⟨rfl, AZ.s (AZ.place (val := fun u2 : Value => u2) (t := fun u2 => As 32 5 encV u2 ([(FE x.e cv)])) (os' := fun u2 => [As 32 5 encV u2 ([(FE x.e cv)]), OO cv x.e, As 32 5 encV o.v o.l, An (fun x : EntV => As 5 1 encB x.v x.e.d) o.l, cell g8 34 #[o.v], An dat sl, cell g1 32 #[.int .i64 x.e.k, .int .u64 x.e.t, .int .u64 x.e.i, x.v, .int .i64 x.e.c], Ch L1 (Er r1)]) 0 rfl (Sd 1 rfl Ak (by decide) Bd (FE x.e cv) OO.cells rfl rfl) (fun _ => rfl)) (fun _ => rfl)⟩) (Ad (by intro cv u2; exact ⟨rfl, AZ.s (E1 (nb := 56) 2 Ak Bd (by kernel_rfl) (by decide) rfl ([(FE x.e cv)]) (fun w hH => hH.vec 0 rfl Bd) (by simp only [List.length_cons, List.length_nil]; omega) rfl rfl rfl rfl) (fun _ => rfl)⟩) ?_))))
    exact Bx
    intro cv u2 ev2
    refine BM.keep (env' := [(6, .slice none 0 0), (8, .pointer (some ⟨g8, 0, none⟩)), (41, ev2)]) ⟨rfl, rfl, rfl, trivial⟩ (Ag Ab rfl (A5 (post := fun _ => [As 32 5 encV u2 ([(FE x.e cv)]), OO cv x.e, As 32 5 encV ev2 (o.l ++ [(FE x.e cv)]), An (fun x : EntV => As 5 1 encB x.v x.e.d) o.l, cell g8 34 #[ev2], An dat sl, cell g1 32 #[.int .i64 x.e.k, .int .u64 x.e.t, .int .u64 x.e.i, x.v, .int .i64 x.e.c], Ch L1 (Er r1)]) rfl rfl (DT 4 2 (v := ev2) #[ev2] Ap.2 rfl (fun _ h => As.c1 h) rfl rfl rfl rfl rfl rfl rfl) ?_)); rintro ⟨⟩
    refine AE (AU (BW.leave [0] rfl rfl (UC 0 rfl OO.open_ (fun _ => rfl) ?_))); rintro ⟨⟩
    refine Fg [1, 2, 0] rfl NL rfl (Fg [1, 0, 2] rfl (Vc (x := ⟨ev2, o.l ++ [(FE x.e cv)]⟩) (by rw [List.map_append, ho, List.take_add_one, he]; simp [NM])) rfl ?_)
    exact KT [2, 0] rfl rfl
  intro D aT wT hDm hD0 hdf hF hH
  obtain ⟨o, hH⟩ := KQ 0 rfl Qj.open_ hH
  have ho := DR (p := (o.l.map (·.e) = (es.drop q).take m)) 3 rfl (fun _ h => h.2) hH
  refine PY (env := [(6, .slice none 0 0), (8, .pointer (some ⟨g8, 0, none⟩))]) (os := [cell g8 34 #[o.v], BZ 32 o.v o.l, An dat sl, fact (o.l.map (·.e) = (es.drop q).take m), cell g 67 #[.int .u64 bi, .int .u64 bt, .int .i64 bc, v, .int .i64 (f : Int), .int .i64 (es.length : Int)], As 32 5 encV v sl, cell gn 3 #[.int .i64 (m : Int)], cell gr 90 #[.pointer (some ⟨g, 3, none⟩)], cell gk 3 #[.int .i64 (q : Int)]]) ?_ aT wT hDm hD0 hdf (hF.keep ⟨rfl, rfl, trivial⟩) hH
  refine Wt (Fu rfl (o.v) (fun b w hb hH => AD rfl rfl (AL Ap rfl) (hH.row 0 rfl) hb) (Fu rfl (o.v) (fun b w hb hH => Ah Ab rfl hb) (UX (Mz.keep (env' := [(6, o.v)]) ⟨rfl, trivial⟩ ?_))))
  exact OI (fun a w hD hD0 hd hF hH => UW (os := [cell g8 34 #[o.v], BZ 32 o.v o.l, An dat sl, fact (o.l.map (·.e) = (es.drop q).take m), cell g 67 #[.int .u64 bi, .int .u64 bt, .int .i64 bc, v, .int .i64 (f : Int), .int .i64 (es.length : Int)], As 32 5 encV v sl, cell gn 3 #[.int .i64 (m : Int)], cell gr 90 #[.pointer (some ⟨g, 3, none⟩)], cell gk 3 #[.int .i64 (q : Int)]]) (.tmp rfl) rfl (fun w' h => AG (X := EsV) (val := fun o => o.v) (post := fun o => [cell g 67 #[.int .u64 bi, .int .u64 bt, .int .i64 bc, v, .int .i64 (f : Int), .int .i64 (es.length : Int)], As 32 5 encV v sl, An dat sl, BZ 32 o.v o.l, fact (o.l.map (·.e) = Cf bi es x most)]) (os := [cell g8 34 #[o.v], BZ 32 o.v o.l, An dat sl, fact (o.l.map (·.e) = (es.drop q).take m), cell g 67 #[.int .u64 bi, .int .u64 bt, .int .i64 bc, v, .int .i64 (f : Int), .int .i64 (es.length : Int)], As 32 5 encV v sl, cell gn 3 #[.int .i64 (m : Int)], cell gr 90 #[.pointer (some ⟨g, 3, none⟩)], cell gk 3 #[.int .i64 (q : Int)]]) o rfl [4, 5, 2, 1] rfl h (fun z hz => ⟨z, .refl _, Dm (xs := [_, _, _, _]) (by rw [ho]; exact hlq) hz⟩)) D a w hD hD0 hd hF hH)
end Go.Proofs.Ytnebloeideodmaa.Sep
namespace Go.Proofs.Ytnebloeideodmaa.Sep
open Go.RowKit
open Go.Proofs.Ytnebloeideodmaa.Mem (AM BA Chg Aq)
theorem OP {v : Value} {l : List EntV} : ∀ rs, BZ 32 v l rs → ∃ _ : Unit, Am [As 32 5 encV v l, An dat l] rs := fun _ h => ⟨(), h⟩
theorem OQ {v : Value} {l : List EntV} : ∀ rs, Am [As 32 5 encV v l, An dat l] rs → BZ 32 v l rs := fun _ h => h
def BQ (v : Value) (l : List EntD) : Ass := fun rs => ∃ L : List EntV, L.map (·.e) = l ∧ BZ 32 v L rs
theorem BQ.open_ {v : Value} {l : List EntD} : ∀ rs, BQ v l rs → ∃ L : { L : List EntV // L.map (·.e) = l }, Am [BZ 32 v L.1] rs := fun _ ⟨L, h, hr⟩ => ⟨⟨L, h⟩, Am.one hr⟩
theorem BQ.open2 {v : Value} {l : List EntD} : ∀ rs, BQ v l rs → ∃ L : { L : List EntV // L.map (·.e) = l }, Am [As 32 5 encV v L.1, An dat L.1] rs := fun _ ⟨L, h, hr⟩ => ⟨⟨L, h⟩, hr⟩
theorem BQ.len {v : Value} {l : List EntD} : ∀ rs, BQ v l rs → ∃ A c, v = .slice A l.length c := fun rs ⟨L, h, a, b, e, h1, h2⟩ => by
 obtain ⟨A, c, rfl⟩ := h1.is
 exact ⟨A, c, by rw [← h, List.length_map]⟩
theorem BQ.c1 {v : Value} {l : List EntD} : ∀ rs, BQ v l rs → v.cells = #[v] ∧ v.oneCell' = true := fun rs h => by
 obtain ⟨A, c, rfl⟩ := BQ.len rs h
 exact ⟨rfl, rfl⟩
theorem P1 (g : Nat) (bi bt bc : Int) (es : List EntD) (hI : InvL bi bt es) (v : Value) (sl : List EntV) (f : Nat) (hR : RingD sl f es) (x most : Int) (hx : 0 ≤ x ∧ x ≤ 18446744073709551615) (hmo : -9223372036854775808 ≤ most ∧ most ≤ 9223372036854775807) (hes : es.length * 56 ≤ 140737488351232) (l : List EntD) (hl : Cf bi es x most = l) : AV Try.prog 26 #[.pointer (some ⟨g, 0, none⟩), .int .u64 x, .int .i64 most] [cell g 67 #[.int .u64 bi, .int .u64 bt, .int .i64 bc, v, .int .i64 (f : Int), .int .i64 (es.length : Int)], As 32 5 encV v sl, An dat sl] (fun ev : Value => ev) (fun ev => [cell g 67 #[.int .u64 bi, .int .u64 bt, .int .i64 bc, v, .int .i64 (f : Int), .int .i64 (es.length : Int)], As 32 5 encV v sl, An dat sl, BQ ev l]) := fun w rs hp hr hd => by
 subst hl
 refine (Mm g bi bt bc es hI v sl f hR x most hx hmo hes w rs hp hr hd).mono ?_
 rintro e w' ⟨o, he, rs', ⟨a, b, e1, h1, c, d, e2, h2, p, q, e3, h3, y, z, e4, h4, h5⟩, hc⟩
 obtain ⟨y2, z2, e5, ⟨h6, h7⟩, h8⟩ := h5
 subst h6
 have h8 : z2 = [] := h8
 subst h8
 have : z = [] := by simpa using e5
 subst this
 exact ⟨_, he, rs', ⟨a, b, e1, h1, c, d, e2, h2, p, q, e3, h3, y, [], e4, ⟨o.l, h7, h4⟩, rfl⟩, hc⟩
theorem P2 {bi : Int} {es : List EntD} {most : Int} (h : (es.length : Int) ≤ most) : Cf bi es (bi + 1) most = es := by
  unfold Cf
  split
  · rename_i h1
    have : es.length = 0 := by omega
    rw [List.length_eq_zero_iff.1 this]
  · rw [show bi + 1 - 1 = bi by omega, show Dt bi es.length bi = 0 by unfold Dt; omega, List.drop_zero, List.take_of_length_le (by omega)]
theorem Do {L : List EntV} {l : List EntD} {i : Nat} {x : EntV} (h : L.map (·.e) = l) (hx : L[i]? = some x) : l[i]? = some x.e := by rw [← h, List.getElem?_map, hx]; rfl
end Go.Proofs.Ytnebloeideodmaa.Sep
