/-
  RlI · RlJ
-/
import Derived.Test.YtnebloeideodmaaPH02
set_option linter.unusedSimpArgs false
set_option linter.unusedVariables false
set_option maxRecDepth 100000
namespace Go.Proofs.Ytnebloeideodmaa.Sep
open Go.RowKit
open Go.Proofs.Ytnebloeideodmaa.Mem (AM BA Chg Aq)
theorem HM {P : Program} {F : FuncId} {args : Array Value} {val : Value} {g : Nat} {bi bt bc : Int} {es : List EntD} (h : ∀ (v : Value) (sl : List EntV) (f : Nat), RingD sl f es → AV P F args [cell g 67 #[.int .u64 bi, .int .u64 bt, .int .i64 bc, v, .int .i64 (f : Int), .int .i64 (es.length : Int)], As 32 5 encV v (sl), An dat sl] (fun _ : Unit => val) (fun _ => [cell g 67 #[.int .u64 bi, .int .u64 bt, .int .i64 bc, v, .int .i64 (f : Int), .int .i64 (es.length : Int)], As 32 5 encV v (sl), An dat sl])) : AV P F args [Av g bi bt bc es] (fun _ : Unit => val) (fun _ => [Av g bi bt bc es]) := fun w rs hp hr hd => by
  obtain ⟨⟨v, sl, f⟩, a, b, e, h1, c, d, e2, h2, p, q, e3, h3, h4⟩ := hp.one'
  obtain ⟨a4, b4, e4, ⟨h5, hR⟩, h6⟩ := h4
  refine (h v sl f hR w rs ⟨a, b, e, h1, c, d, e2, h2, ?_⟩ hr hd).mono ?_
  · subst h5
    have : b4 = [] := h6
    subst this
    have : q = [] := by simpa using e4
    subst this
    exact ⟨p, [], e3, h3, rfl⟩
  · rintro e' w' ⟨x, he, rs', hx, hc⟩
    exact ⟨x, he, rs', Am.one (Av.mk rfl hR rs' hx), hc⟩
theorem Hj (g : Nat) (bi bt bc : Int) (v : Value) (fi n : Int)  : AV Try.prog 18 #[.pointer (some ⟨g, 0, none⟩)] [cell g 67 #[.int .u64 bi, .int .u64 bt, .int .i64 bc, v, .int .i64 fi, .int .i64 n]] (fun (_ : Unit) => .int .i64 n) (fun (_ : Unit) => [cell g 67 #[.int .u64 bi, .int .u64 bt, .int .i64 bc, v, .int .i64 fi, .int .i64 n]]) := by
 refine Bk (args := [.pointer (some ⟨g, 0, none⟩)]) 8 Try.func18 rfl rfl rfl ?_; intro w rs
 refine Af (Ag Ab rfl (Ae (Af (Ag Ab rfl (Ac rfl (.pointer (some ⟨g, 0, none⟩)) (fun b w hb hH => by exact BF rfl rfl hb) (Ag Ab rfl (Ac rfl (.int .i64 n) (fun b w hb hH => AD rfl rfl (AL AB rfl) (hH.row 0 rfl) hb) (Ag Ab rfl (Ae (Aw ?_))))))))))
 exact Ar (.tmp rfl) (fun w h => AG () rfl [0] rfl h CV) rfl
theorem R7 (g : Nat) (bi bt bc : Int) (v : Value) (fi n : Int)  : AV Try.prog 15 #[.pointer (some ⟨g, 0, none⟩)] [cell g 67 #[.int .u64 bi, .int .u64 bt, .int .i64 bc, v, .int .i64 fi, .int .i64 n]] (fun (_ : Unit) => .agg #[.int .u64 bi, .int .u64 bt, .int .i64 bc]) (fun (_ : Unit) => [cell g 67 #[.int .u64 bi, .int .u64 bt, .int .i64 bc, v, .int .i64 fi, .int .i64 n]]) := by
 refine Bk (args := [.pointer (some ⟨g, 0, none⟩)]) 7 Try.func15 rfl rfl rfl ?_; intro w rs
 refine Af (Ag Ab rfl (Al (post := fun r2 => [cell r2 28 #[.int .u64 0, .int .u64 0, .int .i64 0], cell g 67 #[.int .u64 bi, .int .u64 bt, .int .i64 bc, v, .int .i64 fi, .int .i64 n]]) rfl (B4 FT rfl) ?_)); rintro r2
 refine Ae (Af (Ag Ab rfl (Ac rfl (.pointer (some ⟨g, 0, none⟩)) (fun b w hb hH => by exact BF rfl rfl hb) (Ag Ab rfl (Ac rfl (.agg #[.int .u64 bi, .int .u64 bt, .int .i64 bc]) (fun b w hb hH => AD rfl rfl (Dd (cs := [.int .u64 bi, .int .u64 bt, .int .i64 bc, v, .int .i64 fi, .int .i64 n]) Au rfl) (hH.row 1 rfl) hb) (A5 (post := fun _ => [cell r2 28 #[.int .u64 bi, .int .u64 bt, .int .i64 bc], cell g 67 #[.int .u64 bi, .int .u64 bt, .int .i64 bc, v, .int .i64 fi, .int .i64 n]]) rfl rfl (AP 0 (v := .agg #[.int .u64 bi, .int .u64 bt, .int .i64 bc]) #[.int .u64 bi, .int .u64 bt, .int .i64 bc] Au.2 rfl rfl rfl rfl rfl rfl rfl rfl rfl) ?_)))))); rintro ⟨⟩
 refine Ae (Aw ?_)
 exact Ar (.cell 0 (v := .agg #[.int .u64 bi, .int .u64 bt, .int .i64 bc]) (Dd (cs := [.int .u64 bi, .int .u64 bt, .int .i64 bc]) Au rfl) rfl rfl) (fun w h => AG () rfl [1] rfl h CV) rfl
theorem CZ (g : Nat) (bi bt bc : Int) (v : Value) (fi n : Int) (h0 : 0 ≤ bi ∧ 0 ≤ n ∧ bi + n ≤ 9223372036854775807) : AV Try.prog 17 #[.pointer (some ⟨g, 0, none⟩)] [cell g 67 #[.int .u64 bi, .int .u64 bt, .int .i64 bc, v, .int .i64 fi, .int .i64 n]] (fun (_ : Unit) => .int .u64 (bi + n)) (fun (_ : Unit) => [cell g 67 #[.int .u64 bi, .int .u64 bt, .int .i64 bc, v, .int .i64 fi, .int .i64 n]]) := by
  refine Bk (args := [.pointer (some ⟨g, 0, none⟩)]) 12 Try.func17 rfl rfl rfl ?_; intro w rs
  refine Af (Ag Ab rfl (Ae (Ax ?_)))
  refine Bi 9 1 [⟨.quiet, [none], fun _ => .pointer (some ⟨g, 0, none⟩), []⟩, ⟨.quiet, [none], fun _ => .pointer (some ⟨g, 0, none⟩), [0]⟩, ⟨.quiet, [none], fun _ => .pointer (some ⟨g, 0, none⟩), [1]⟩, ⟨.quiet, [none], fun _ => .pointer (some ⟨g, 0, none⟩), [2]⟩, ⟨.quiet, [none], fun _ => .int .u64 bi, [3]⟩, ⟨.quiet, [none], fun _ => .pointer (some ⟨g, 0, none⟩), []⟩, ⟨.actv 0, [some false], fun _ => .int .i64 n, [5]⟩, ⟨.quiet, [some true], fun _ => .int .u64 n, [6]⟩, ⟨.quiet, [some true], fun _ => .int .u64 (bi + n), [4, 7]⟩] [(0, .pointer (some ⟨g, 0, none⟩)), (2, .int .u64 0)] (fun ρ => match ρ with | [rq0] => [cell g 67 #[.int .u64 bi, .int .u64 bt, .int .i64 bc, v, .int .i64 fi, .int .i64 n]] | _ => []) (by kernel_rfl) (by kernel_rfl) ⟨rfl, rfl, trivial⟩ rfl ?_ ?_
  refine Ad (by intro r0_; exact ⟨rfl, fun b w hH hb => Ah Ab rfl hb⟩) (Ad (by intro r0_; exact ⟨rfl, fun b w hH hb => by exact BF rfl rfl hb⟩) (Ad (by intro r0_; exact ⟨rfl, fun b w hH hb => Ah Ab rfl hb⟩) (Ad (by intro r0_; exact ⟨rfl, fun b w hH hb => Ah Ab rfl hb⟩) (Ad (by intro r0_; exact ⟨rfl, fun b w hH hb => AD rfl rfl (AL Ai rfl) (hH.row 0 rfl) hb⟩) (Ad (by intro r0_; exact ⟨rfl, fun b w hH hb => Ah Ab rfl hb⟩) (Ad (by exact ⟨rfl, AZ.su (Ao (os' := fun _ => [cell g 67 #[.int .u64 bi, .int .u64 bt, .int .i64 bc, v, .int .i64 fi, .int .i64 n]]) [0] 0 (Aj Try.func18 (by kernel_rfl) rfl) (Hj g bi bt bc v fi n) rfl rfl rfl (fun _ => rfl) rfl rfl rfl) rfl⟩) (Ad (by intro v0_; exact ⟨rfl, fun b w hH hb => BR Try.underlying3 Try.underlying26 (IntWalk.u64_in _ (by omega)) rfl rfl hb⟩) (Ad (by intro v0_; exact ⟨rfl, fun b w hH hb => Ay rfl rfl rfl rfl (IntWalk.u64_in _ (by omega)) hb⟩) ?_))))))))
  exact Bx
  intro v0_
  refine BM.keep (env' := [(2, .int .u64 0), (11, .int .u64 (bi + n))]) ⟨rfl, rfl, trivial⟩ (Ag Ab rfl (AE (AJ (Aw ?_))))
  exact Ar (.tmp rfl) (fun w h => AG () rfl [0] rfl h CV) rfl
theorem Hk (g : Nat) (bi bt bc : Int) (v : Value) (fi : Int) (m : Nat) (x : Int) (hb0 : 0 ≤ bi ∧ bi ≤ 72057594037927935) (hm : (m : Int) ≤ 72057594037927935) (hx : 0 ≤ x ∧ x ≤ 18446744073709551615) (u : Nat) (hu : Dt bi m x = u) : AV Try.prog 36 #[.pointer (some ⟨g, 0, none⟩), .int .u64 x] [cell g 67 #[.int .u64 bi, .int .u64 bt, .int .i64 bc, v, .int .i64 fi, .int .i64 (m : Int)]] (fun (_ : Unit) => .int .i64 (u : Int)) (fun (_ : Unit) => [cell g 67 #[.int .u64 bi, .int .u64 bt, .int .i64 bc, v, .int .i64 fi, .int .i64 (m : Int)]]) := by
  unfold Dt at hu
  refine Bk (args := [.pointer (some ⟨g, 0, none⟩), .int .u64 x]) 24 Try.func36 rfl rfl rfl ?_; intro w rs
  refine Af (Ag Ab rfl (Ae (Ax ?_)))
  rcases Int.lt_or_le bi x with hn | hn
  refine Af (Ag Ab rfl (Ac rfl (.pointer (some ⟨g, 0, none⟩)) (fun b w hb hH => by exact BF rfl rfl hb) (Ag Ab rfl (Ac rfl (.int .u64 bi) (fun b w hb hH => AD rfl rfl (AL Ai rfl) (hH.row 0 rfl) hb) (Ac rfl (.bool false) (fun b w hb hH => AI rfl rfl rfl (Bp (by omega)) hb) (Ae (Az rfl (AK (AJ (Ax ?_))))))))))
  refine Bi 12 1 [⟨.quiet, [none], fun _ => .int .u64 x, []⟩, ⟨.quiet, [none], fun _ => .pointer (some ⟨g, 0, none⟩), []⟩, ⟨.quiet, [none], fun _ => .pointer (some ⟨g, 0, none⟩), [1]⟩, ⟨.quiet, [none], fun _ => .pointer (some ⟨g, 0, none⟩), [2]⟩, ⟨.quiet, [none], fun _ => .pointer (some ⟨g, 0, none⟩), [3]⟩, ⟨.quiet, [none], fun _ => .int .u64 bi, [4]⟩, ⟨.quiet, [none], fun _ => .int .u64 (x - bi), [0, 5]⟩, ⟨.quiet, [none], fun _ => .pointer (some ⟨g, 0, none⟩), []⟩, ⟨.actv 0, [some false], fun _ => .int .i64 (m : Int), [7]⟩, ⟨.quiet, [some true], fun _ => .int .u64 (m : Int), [8]⟩, ⟨.quiet, [some true], fun _ => .int .u64 (u : Int), [6, 9]⟩, ⟨.quiet, [some true], fun _ => .int .i64 (u : Int), [10]⟩] [(0, .pointer (some ⟨g, 0, none⟩)), (1, .int .u64 x), (4, .int .i64 0)] (fun ρ => match ρ with | [rq0] => [cell g 67 #[.int .u64 bi, .int .u64 bt, .int .i64 bc, v, .int .i64 fi, .int .i64 (m : Int)]] | _ => []) (by kernel_rfl) (by kernel_rfl) ⟨rfl, rfl, rfl, trivial⟩ rfl ?_ ?_
  refine Ad (by intro r0_; exact ⟨rfl, fun b w hH hb => Ah Ab rfl hb⟩) (Ad (by intro r0_; exact ⟨rfl, fun b w hH hb => Ah Ab rfl hb⟩) (Ad (by intro r0_; exact ⟨rfl, fun b w hH hb => by exact BF rfl rfl hb⟩) (Ad (by intro r0_; exact ⟨rfl, fun b w hH hb => Ah Ab rfl hb⟩) (Ad (by intro r0_; exact ⟨rfl, fun b w hH hb => Ah Ab rfl hb⟩) (Ad (by intro r0_; exact ⟨rfl, fun b w hH hb => AD rfl rfl (AL Ai rfl) (hH.row 0 rfl) hb⟩) (Ad (by intro r0_; exact ⟨rfl, fun b w hH hb => Ay rfl rfl rfl rfl (IntWalk.u64_in _ (by omega)) hb⟩) (Ad (by intro r0_; exact ⟨rfl, fun b w hH hb => Ah Ab rfl hb⟩) (Ad (by exact ⟨rfl, AZ.su (Ao (os' := fun _ => [cell g 67 #[.int .u64 bi, .int .u64 bt, .int .i64 bc, v, .int .i64 fi, .int .i64 (m : Int)]]) [0] 0 (Aj Try.func18 (by kernel_rfl) rfl) (Hj g bi bt bc v fi (m : Int)) rfl rfl rfl (fun _ => rfl) rfl rfl rfl) rfl⟩) (Ad (by intro v0_; exact ⟨rfl, fun b w hH hb => BR Try.underlying3 Try.underlying26 (IntWalk.u64_in _ (by omega)) rfl rfl hb⟩) ?_)))))))))
  refine Ad (by intro v0_; exact ⟨rfl, fun b w hH hb => BH rfl rfl (fun cs => (fun w cs => DN (by omega) _ _ w cs) w cs) hb⟩) (Ad (by intro v0_; exact ⟨rfl, fun b w hH hb => BR Try.underlying26 Try.underlying3 (IntWalk.i64_in _ (by omega)) rfl rfl hb⟩) ?_)
  exact Bx
  intro v0_
  refine BM.keep (env' := [(4, .int .i64 0), (23, .int .i64 (u : Int))]) ⟨rfl, rfl, trivial⟩ (Ag Ab rfl (AE (AJ (Aw ?_))))
  exact Ar (.tmp rfl) (fun w h => AG () rfl [0] rfl h CV) rfl
  obtain rfl : u = 0 := by omega
  refine Af (Ag Ab rfl (Ac rfl (.pointer (some ⟨g, 0, none⟩)) (fun b w hb hH => by exact BF rfl rfl hb) (Ag Ab rfl (Ac rfl (.int .u64 bi) (fun b w hb hH => AD rfl rfl (AL Ai rfl) (hH.row 0 rfl) hb) (Ac rfl (.bool true) (fun b w hb hH => AI rfl rfl rfl (Bu (by omega)) hb) (Ae (AC rfl (Af (Ag Ab rfl (Ae (Aw (Cc ?_))))))))))))
  exact Ar (.tmp rfl) (fun w h => AG () rfl [0] rfl h CV) rfl
end Go.Proofs.Ytnebloeideodmaa.Sep
namespace Go.Proofs.Ytnebloeideodmaa.Sep
open Go.RowKit
open Go.Proofs.Ytnebloeideodmaa.Mem (AM BA Chg Aq)
theorem E8 {P : Program} {n : Nat} {env : List (Nat × Value)} {a : Act} {w : World} {o : Oper} {T : TypeId} {x : Operand} {k : Nat} {v r : Value} (hf : (Instr.field T v k).run P w = .ok r w) (ho : o.op = .field T x k) (hx : evs env x = some v) (hF : Fr n a env) : (execOp a.eval o).run P w = .ok (.value r) w := by
 unfold execOp
 simp only [ho, hF.evs hx]
 simp [hf]
theorem Tp (k t i : Int) (v : Value) (c : Int) (w : World) : (Instr.field 32 (.agg #[.int .i64 k, .int .u64 t, .int .u64 i, v, .int .i64 c]) 1).run Try.prog w = .ok (.int .u64 t) w := by kernel_rfl
theorem E4 (g : Nat) (bi bt bc : Int) (es : List EntD) (hI : InvL bi bt es) (v : Value) (sl : List EntV) (f : Nat) (hR : RingD sl f es) (x : Int) (hx : 0 ≤ x ∧ x ≤ 18446744073709551615) (a : Int) (ok : Bool) (ht : BO bi bt es x = (a, ok)) : AV Try.prog 32 #[.pointer (some ⟨g, 0, none⟩), .int .u64 x] [cell g 67 #[.int .u64 bi, .int .u64 bt, .int .i64 bc, v, .int .i64 (f : Int), .int .i64 (es.length : Int)], As 32 5 encV v sl, An dat sl] (fun (_ : Unit) => .tuple #[.int .u64 a, .bool ok]) (fun (_ : Unit) => [cell g 67 #[.int .u64 bi, .int .u64 bt, .int .i64 bc, v, .int .i64 (f : Int), .int .i64 (es.length : Int)], As 32 5 encV v sl, An dat sl]) := by
  have hb0 := hI.hi
  have ht0 := hI.ht
  have hle0 := hI.len
  have hm0 : (es.length : Int) ≤ 72057594037927935 := by omega
  have hls : 0 ≤ bi ∧ 0 ≤ (es.length : Int) ∧ bi + (es.length : Int) ≤ 9223372036854775807 := by omega
  have hsz := hR.sz
  refine Bk (args := [.pointer (some ⟨g, 0, none⟩), .int .u64 x]) 42 Try.func32 rfl rfl rfl ?_; intro w rs
  refine Af (Ag Ab rfl (Ae (Ax (AN ?_))))
  rcases (show x = bi ∨ x < bi ∨ bi + (es.length : Int) < x ∨ (bi < x ∧ x ≤ bi + (es.length : Int)) by omega) with hn | hn | hn | ⟨hn, hn2⟩
  obtain ⟨rfl, rfl⟩ : bt = a ∧ true = ok := by rw [hn, Et] at ht; exact ⟨congrArg Prod.fst ht, congrArg Prod.snd ht⟩
  refine Af (Ag Ab rfl (Ac rfl (.pointer (some ⟨g, 0, none⟩)) (fun b w hb hH => by exact BF rfl rfl hb) (Ag Ab rfl (Ac rfl (.int .u64 bi) (fun b w hb hH => AD rfl rfl (AL Ai rfl) (hH.row 0 rfl) hb) (Ac rfl (.bool true) (fun b w hb hH => AI rfl rfl rfl (DK (by omega)) hb) (Ag Ab rfl (Ae (AC rfl (Af (Ag Ab rfl (Ac rfl (.pointer (some ⟨g, 0, none⟩)) (fun b w hb hH => by exact BF rfl rfl hb) ?_)))))))))))
  refine Ag Ab rfl (Ac rfl (.int .u64 bt) (fun b w hb hH => AD rfl rfl (AL Ai rfl) (hH.row 0 rfl) hb) (Ag Ab rfl (Ae (Aw (AA (Cc ?_))))))
  exact BU (.tmp rfl) (.tmp rfl) (fun w h => AG () rfl [0, 1, 2] rfl h CV) rfl
  obtain ⟨rfl, rfl⟩ : 0 = a ∧ false = ok := by have h9 := DH (bt := bt) (es := es) (show x < bi ∨ bi + (es.length : Int) < x by omega); rw [ht] at h9; exact ⟨(congrArg Prod.fst h9).symm, (congrArg Prod.snd h9).symm⟩
  refine Af (Ag Ab rfl (Ac rfl (.pointer (some ⟨g, 0, none⟩)) (fun b w hb hH => by exact BF rfl rfl hb) (Ag Ab rfl (Ac rfl (.int .u64 bi) (fun b w hb hH => AD rfl rfl (AL Ai rfl) (hH.row 0 rfl) hb) (Ac rfl (.bool false) (fun b w hb hH => AI rfl rfl rfl (Dq (by omega)) hb) (Ag Ab rfl (Ae (Az rfl (Af (Ag Ab rfl (Ac rfl (.pointer (some ⟨g, 0, none⟩)) (fun b w hb hH => by exact BF rfl rfl hb) ?_)))))))))))
  refine Ag Ab rfl (Ac rfl (.int .u64 bi) (fun b w hb hH => AD rfl rfl (AL Ai rfl) (hH.row 0 rfl) hb) (Ac rfl (.bool true) (fun b w hb hH => AI rfl rfl rfl (Bc (by omega)) hb) (Ag Ab rfl (Ae (AC rfl (Af (Ag Ab rfl (Ae (Aw (AA (Cc ?_)))))))))))
  exact BU (.tmp rfl) (.tmp rfl) (fun w h => AG () rfl [0, 1, 2] rfl h CV) rfl
  obtain ⟨rfl, rfl⟩ : 0 = a ∧ false = ok := by have h9 := DH (bt := bt) (es := es) (show x < bi ∨ bi + (es.length : Int) < x by omega); rw [ht] at h9; exact ⟨(congrArg Prod.fst h9).symm, (congrArg Prod.snd h9).symm⟩
  refine Af (Ag Ab rfl (Ac rfl (.pointer (some ⟨g, 0, none⟩)) (fun b w hb hH => by exact BF rfl rfl hb) (Ag Ab rfl (Ac rfl (.int .u64 bi) (fun b w hb hH => AD rfl rfl (AL Ai rfl) (hH.row 0 rfl) hb) (Ac rfl (.bool false) (fun b w hb hH => AI rfl rfl rfl (Dq (by omega)) hb) (Ag Ab rfl (Ae (Az rfl (Af (Ag Ab rfl (Ac rfl (.pointer (some ⟨g, 0, none⟩)) (fun b w hb hH => by exact BF rfl rfl hb) ?_)))))))))))
  refine Ag Ab rfl (Ac rfl (.int .u64 bi) (fun b w hb hH => AD rfl rfl (AL Ai rfl) (hH.row 0 rfl) hb) (Ac rfl (.bool false) (fun b w hb hH => AI rfl rfl rfl (Bf (by omega)) hb) (Ag Ab rfl (Al rfl (Ao (os' := fun _ => [cell g 67 #[.int .u64 bi, .int .u64 bt, .int .i64 bc, v, .int .i64 (f : Int), .int .i64 (es.length : Int)], As 32 5 encV v sl, An dat sl]) [0] 0 (Aj Try.func17 (by kernel_rfl) rfl) (CZ g bi bt bc v (f : Int) (es.length : Int) hls) rfl rfl rfl (fun _ => rfl) rfl rfl rfl) ?_)))); rintro ⟨⟩
  refine Ac rfl (.bool true) (fun b w hb hH => AI rfl rfl rfl (Cv (by omega)) hb) (Ag Ab rfl (Ae (AC rfl (Af (Ag Ab rfl (Ae (Aw (AA (Cc ?_)))))))))
  exact BU (.tmp rfl) (.tmp rfl) (fun w h => AG () rfl [0, 1, 2] rfl h CV) rfl
  obtain ⟨k, hk⟩ : ∃ k : Nat, x = bi + 1 + (k : Int) := ⟨(x - bi - 1).toNat, by omega⟩
  have hkl : k < es.length := by omega
  obtain ⟨e, he⟩ : ∃ e, es[k]? = some e := ⟨_, List.getElem?_eq_getElem hkl⟩
  obtain ⟨y, hy, hye⟩ := hR.at_ k e he
  obtain ⟨rfl, rfl⟩ : y.e.t = a ∧ true = ok := by have h9 := Hi (bt := bt) hk he; rw [ht] at h9; rw [hye]; exact ⟨(congrArg Prod.fst h9).symm, (congrArg Prod.snd h9).symm⟩
  have hup : Dt bi es.length x = k + 1 := by unfold Dt; omega
  refine Af (Ag Ab rfl (Ac rfl (.pointer (some ⟨g, 0, none⟩)) (fun b w hb hH => by exact BF rfl rfl hb) (Ag Ab rfl (Ac rfl (.int .u64 bi) (fun b w hb hH => AD rfl rfl (AL Ai rfl) (hH.row 0 rfl) hb) (Ac rfl (.bool false) (fun b w hb hH => AI rfl rfl rfl (Dq (by omega)) hb) (Ag Ab rfl (Ae (Az rfl (Af (Ag Ab rfl (Ac rfl (.pointer (some ⟨g, 0, none⟩)) (fun b w hb hH => by exact BF rfl rfl hb) ?_)))))))))))
  refine Ag Ab rfl (Ac rfl (.int .u64 bi) (fun b w hb hH => AD rfl rfl (AL Ai rfl) (hH.row 0 rfl) hb) (Ac rfl (.bool false) (fun b w hb hH => AI rfl rfl rfl (Bf (by omega)) hb) (Ag Ab rfl (Al rfl (Ao (os' := fun _ => [cell g 67 #[.int .u64 bi, .int .u64 bt, .int .i64 bc, v, .int .i64 (f : Int), .int .i64 (es.length : Int)], As 32 5 encV v sl, An dat sl]) [0] 0 (Aj Try.func17 (by kernel_rfl) rfl) (CZ g bi bt bc v (f : Int) (es.length : Int) hls) rfl rfl rfl (fun _ => rfl) rfl rfl rfl) ?_)))); rintro ⟨⟩
  refine Ac rfl (.bool false) (fun b w hb hH => AI rfl rfl rfl (BT (by omega)) hb) (Ag Ab rfl (Ae (Az rfl (AK (AU (AJ (Ax ?_)))))))
  refine Bi 9 2 [⟨.quiet, [none, none], fun _ => .pointer (some ⟨g, 0, none⟩), []⟩, ⟨.quiet, [none, none], fun _ => .pointer (some ⟨g, 0, none⟩), [0]⟩, ⟨.quiet, [none, none], fun _ => .pointer (some ⟨g, 3, none⟩), [1]⟩, ⟨.quiet, [none, none], fun _ => .pointer (some ⟨g, 0, none⟩), []⟩, ⟨.quiet, [none, none], fun _ => .int .u64 x, []⟩, ⟨.actv 0, [some false, some false], fun _ => .int .i64 (k + 1 : Int), [3, 4]⟩, ⟨.quiet, [some true, none], fun _ => .int .i64 (k : Int), [5]⟩, ⟨.actv 1, [some true, some false], fun _ => .agg #[.int .i64 y.e.k, .int .u64 y.e.t, .int .u64 y.e.i, y.v, .int .i64 y.e.c], [2, 6]⟩, ⟨.quiet, [some true, some true], fun _ => .int .u64 y.e.t, [7]⟩] [(0, .pointer (some ⟨g, 0, none⟩)), (1, .int .u64 x), (4, .int .u64 0), (5, .bool false)] (fun ρ => match ρ with | [rq0, rq1] => [cell g 67 #[.int .u64 bi, .int .u64 bt, .int .i64 bc, v, .int .i64 (f : Int), .int .i64 (es.length : Int)], As 32 5 encV v sl, An dat sl] | _ => []) (by kernel_rfl) (by kernel_rfl) ⟨rfl, rfl, rfl, rfl, trivial⟩ rfl ?_ ?_
  refine Ad (by intro r0_ r1_; exact ⟨rfl, fun b w hH hb => Ah Ab rfl hb⟩) (Ad (by intro r0_ r1_; exact ⟨rfl, fun b w hH hb => by exact BF rfl rfl hb⟩) (Ad (by intro r0_ r1_; exact ⟨rfl, fun b w hH hb => Ah Ab rfl hb⟩) (Ad (by intro r0_ r1_; exact ⟨rfl, fun b w hH hb => Ah Ab rfl hb⟩) (Ad (by intro r0_ r1_; exact ⟨rfl, fun b w hH hb => Ah Ab rfl hb⟩) (Ad (by exact ⟨rfl, AZ.su (Ao (os' := fun _ => [cell g 67 #[.int .u64 bi, .int .u64 bt, .int .i64 bc, v, .int .i64 (f : Int), .int .i64 (es.length : Int)], As 32 5 encV v sl, An dat sl]) [0] 0 (Aj Try.func36 (by kernel_rfl) rfl) (Hk g bi bt bc v (f : Int) es.length x hb0 hm0 hx (k + 1) hup) rfl rfl rfl (fun _ => rfl) rfl rfl rfl) rfl⟩) (Ad (by intro v0_ r1_; exact ⟨rfl, fun b w hH hb => Ay rfl rfl rfl rfl (by rw [IntWalk.i64_in _ (by omega)]; omega) hb⟩) (Ad (by intro v0_; exact ⟨rfl, AZ.su (Ao (os' := fun _ => [cell g 67 #[.int .u64 bi, .int .u64 bt, .int .i64 bc, v, .int .i64 (f : Int), .int .i64 (es.length : Int)], As 32 5 encV v sl, An dat sl]) [0, 1] 0 (Aj Try.func62 (by kernel_rfl) rfl) (OM g bi bt bc v sl f k (es.length : Int) (hR.lt hkl) (Nat.lt_of_lt_of_le hkl hR.le) hsz y hy) rfl rfl rfl (fun _ => rfl) rfl rfl rfl) rfl⟩) (Ad (by intro v0_ v1_; exact ⟨rfl, fun b w hH hb => E8 (Tp _ _ _ _ _ _) rfl rfl hb⟩) ?_))))))))
  exact Bx
  intro v0_ v1_
  refine BM.keep (env' := [(4, .int .u64 0), (5, .bool false), (41, .int .u64 y.e.t)]) ⟨rfl, rfl, rfl, trivial⟩ (Ag Ab rfl (AE (AJ (Aw ?_))))
  exact BU (.tmp rfl) (.tmp rfl) (fun w h => AG () rfl [0, 1, 2] rfl h CV) rfl
theorem K3 (g : Nat) (bi bt bc : Int) (es : List EntD) (hI : InvL bi bt es) (v : Value) (sl : List EntV) (f : Nat) (hR : RingD sl f es)  : AV Try.prog 33 #[.pointer (some ⟨g, 0, none⟩)] [cell g 67 #[.int .u64 bi, .int .u64 bt, .int .i64 bc, v, .int .i64 (f : Int), .int .i64 (es.length : Int)], As 32 5 encV v sl, An dat sl] (fun (_ : Unit) => .int .u64 (Ev bt es)) (fun (_ : Unit) => [cell g 67 #[.int .u64 bi, .int .u64 bt, .int .i64 bc, v, .int .i64 (f : Int), .int .i64 (es.length : Int)], As 32 5 encV v sl, An dat sl]) := by
 have hb0 := hI.hi
 have ht0 := hI.ht
 have hle0 := hI.len
 have hm0 : (es.length : Int) ≤ 72057594037927935 := by omega
 have hls : 0 ≤ bi ∧ 0 ≤ (es.length : Int) ∧ bi + (es.length : Int) ≤ 9223372036854775807 := by omega
 have hsz := hR.sz
 refine Bk (args := [.pointer (some ⟨g, 0, none⟩)]) 13 Try.func33 rfl rfl rfl ?_; intro w rs
 refine Af (Ag Ab rfl (Ae (Af (Ag Ab rfl (Al rfl (Ao (os' := fun _ => [cell g 67 #[.int .u64 bi, .int .u64 bt, .int .i64 bc, v, .int .i64 (f : Int), .int .i64 (es.length : Int)], As 32 5 encV v sl, An dat sl]) [0] 0 (Aj Try.func17 (by kernel_rfl) rfl) (CZ g bi bt bc v (f : Int) (es.length : Int) hls) rfl rfl rfl (fun _ => rfl) rfl rfl rfl) ?_))))); rintro ⟨⟩
 refine Al rfl (Ao (os' := fun _ => [cell g 67 #[.int .u64 bi, .int .u64 bt, .int .i64 bc, v, .int .i64 (f : Int), .int .i64 (es.length : Int)], As 32 5 encV v sl, An dat sl]) [0, 1, 2] 0 (Aj Try.func32 (by kernel_rfl) rfl) (E4 g bi bt bc es hI v sl f hR (bi + (es.length : Int)) (by omega) (Ev bt es) true C9) rfl rfl rfl (fun _ => rfl) rfl rfl rfl) ?_; rintro ⟨⟩
 refine Ag Ab rfl (Ae (Af (Ag Ab rfl (Ae (Aw ?_)))))
 exact Ar (.tmp rfl) (fun w h => AG () rfl [0, 1, 2] rfl h CV) rfl
theorem WB (g : Nat) (bi bt bc : Int) (es : List EntD) (hI : InvL bi bt es) (v : Value) (sl : List EntV) (f : Nat) (hR : RingD sl f es) (x y : Int) (hx : 0 ≤ x ∧ x ≤ 18446744073709551615) (b : Bool) (hb : CY bi bt es x y = b) : AV Try.prog 34 #[.pointer (some ⟨g, 0, none⟩), .int .u64 x, .int .u64 y] [cell g 67 #[.int .u64 bi, .int .u64 bt, .int .i64 bc, v, .int .i64 (f : Int), .int .i64 (es.length : Int)], As 32 5 encV v sl, An dat sl] (fun (_ : Unit) => .bool b) (fun (_ : Unit) => [cell g 67 #[.int .u64 bi, .int .u64 bt, .int .i64 bc, v, .int .i64 (f : Int), .int .i64 (es.length : Int)], As 32 5 encV v sl, An dat sl]) := by
 have hb0 := hI.hi
 have ht0 := hI.ht
 have hle0 := hI.len
 have hm0 : (es.length : Int) ≤ 72057594037927935 := by omega
 have hls : 0 ≤ bi ∧ 0 ≤ (es.length : Int) ∧ bi + (es.length : Int) ≤ 9223372036854775807 := by omega
 have hsz := hR.sz
 obtain ⟨⟨a, ok⟩, ht⟩ : ∃ r, BO bi bt es x = r := ⟨_, rfl⟩
 unfold CY at hb
 rw [ht] at hb
 have hb : (ok && a == y) = b := hb
 refine Bk (args := [.pointer (some ⟨g, 0, none⟩), .int .u64 x, .int .u64 y]) 21 Try.func34 rfl rfl rfl ?_; intro w rs
 refine Af (Ag Ab rfl (Ae ?_))
 cases ok
 rotate_left
 by_cases hay : a = y
 obtain rfl : b = true := by rw [← hb]; simp [hay]
 refine Af (Ag Ab rfl (Al rfl (Ao (os' := fun _ => [cell g 67 #[.int .u64 bi, .int .u64 bt, .int .i64 bc, v, .int .i64 (f : Int), .int .i64 (es.length : Int)], As 32 5 encV v sl, An dat sl]) [0, 1, 2] 0 (Aj Try.func32 (by kernel_rfl) rfl) (E4 g bi bt bc es hI v sl f hR x hx a true ht) rfl rfl rfl (fun _ => rfl) rfl rfl rfl) ?_)); rintro ⟨⟩
 refine Ag Ab rfl (Ae (Af (Ag Ab rfl (Ac rfl (.bool true) (fun b w hb hH => AI rfl rfl rfl (DK hay) hb) (Ag Ab rfl (Ae (Aw ?_)))))))
 exact Ar (.tmp rfl) (fun w h => AG () rfl [0, 1, 2] rfl h CV) rfl
 obtain rfl : b = false := by rw [← hb]; simp [hay]
 refine Af (Ag Ab rfl (Al rfl (Ao (os' := fun _ => [cell g 67 #[.int .u64 bi, .int .u64 bt, .int .i64 bc, v, .int .i64 (f : Int), .int .i64 (es.length : Int)], As 32 5 encV v sl, An dat sl]) [0, 1, 2] 0 (Aj Try.func32 (by kernel_rfl) rfl) (E4 g bi bt bc es hI v sl f hR x hx a true ht) rfl rfl rfl (fun _ => rfl) rfl rfl rfl) ?_)); rintro ⟨⟩
 refine Ag Ab rfl (Ae (Af (Ag Ab rfl (Ac rfl (.bool false) (fun b w hb hH => AI rfl rfl rfl (Dq hay) hb) (Ag Ab rfl (Ae (Aw ?_)))))))
 exact Ar (.tmp rfl) (fun w h => AG () rfl [0, 1, 2] rfl h CV) rfl
 obtain rfl : b = false := by rw [← hb]; rfl
 refine Af (Ag Ab rfl (Al rfl (Ao (os' := fun _ => [cell g 67 #[.int .u64 bi, .int .u64 bt, .int .i64 bc, v, .int .i64 (f : Int), .int .i64 (es.length : Int)], As 32 5 encV v sl, An dat sl]) [0, 1, 2] 0 (Aj Try.func32 (by kernel_rfl) rfl) (E4 g bi bt bc es hI v sl f hR x hx a false ht) rfl rfl rfl (fun _ => rfl) rfl rfl rfl) ?_)); rintro ⟨⟩
 refine Ag Ab rfl (Ae (Af (Ag Ab rfl (Ae (Aw ?_)))))
 exact Ar (.tmp rfl) (fun w h => AG () rfl [0, 1, 2] rfl h CV) rfl
theorem R8 (g : Nat) (bi bt bc : Int) (es : List EntD) (hI : InvL bi bt es) (v : Value) (sl : List EntV) (f : Nat) (hR : RingD sl f es) (x y : Int) (hx : 0 ≤ x ∧ x ≤ 18446744073709551615) (b : Bool) (hb : (decide (Ev bt es < y) || (decide (y = Ev bt es) && decide (bi + (es.length : Int) ≤ x))) = b) : AV Try.prog 12 #[.pointer (some ⟨g, 0, none⟩), .int .u64 x, .int .u64 y] [cell g 67 #[.int .u64 bi, .int .u64 bt, .int .i64 bc, v, .int .i64 (f : Int), .int .i64 (es.length : Int)], As 32 5 encV v sl, An dat sl] (fun (_ : Unit) => .bool b) (fun (_ : Unit) => [cell g 67 #[.int .u64 bi, .int .u64 bt, .int .i64 bc, v, .int .i64 (f : Int), .int .i64 (es.length : Int)], As 32 5 encV v sl, An dat sl]) := by
 have hb0 := hI.hi
 have ht0 := hI.ht
 have hle0 := hI.len
 have hm0 : (es.length : Int) ≤ 72057594037927935 := by omega
 have hls : 0 ≤ bi ∧ 0 ≤ (es.length : Int) ∧ bi + (es.length : Int) ≤ 9223372036854775807 := by omega
 have hsz := hR.sz
 refine Bk (args := [.pointer (some ⟨g, 0, none⟩), .int .u64 x, .int .u64 y]) 24 Try.func12 rfl rfl rfl ?_; intro w rs
 refine Af (Ag Ab rfl (Ae (Af (Ag Ab rfl (Al rfl (Ao (os' := fun _ => [cell g 67 #[.int .u64 bi, .int .u64 bt, .int .i64 bc, v, .int .i64 (f : Int), .int .i64 (es.length : Int)], As 32 5 encV v sl, An dat sl]) [0, 1, 2] 0 (Aj Try.func33 (by kernel_rfl) rfl) (K3 g bi bt bc es hI v sl f hR ) rfl rfl rfl (fun _ => rfl) rfl rfl rfl) ?_))))); rintro ⟨⟩
 refine Ag Ab rfl (Ae ?_)
 rcases Int.lt_or_le (Ev bt es) y with h1 | h1
 rotate_left
 by_cases h2 : y = Ev bt es
 rcases Int.lt_or_le x (bi + (es.length : Int)) with h3 | h3
 obtain rfl : b = false := by rw [← hb]; simp; omega
 refine Af (Ag Ab rfl (Ac rfl (.bool false) (fun b w hb hH => AI rfl rfl rfl (BT (by omega)) hb) (Ag Ab rfl (Ac rfl (.bool true) (fun b w hb hH => AI rfl rfl rfl (DK h2) hb) (Ag Ab rfl (Al rfl (Ao (os' := fun _ => [cell g 67 #[.int .u64 bi, .int .u64 bt, .int .i64 bc, v, .int .i64 (f : Int), .int .i64 (es.length : Int)], As 32 5 encV v sl, An dat sl]) [0] 0 (Aj Try.func17 (by kernel_rfl) rfl) (CZ g bi bt bc v (f : Int) (es.length : Int) hls) rfl rfl rfl (fun _ => rfl) rfl rfl rfl) ?_)))))); rintro ⟨⟩
 refine Ac rfl (.bool false) (fun b w hb hH => AI rfl rfl rfl (CP (by omega)) hb) (Ag Ab rfl (Ae (Aw ?_)))
 exact Ar (.tmp rfl) (fun w h => AG () rfl [0, 1, 2] rfl h CV) rfl
 obtain rfl : b = true := by rw [← hb]; simp; omega
 refine Af (Ag Ab rfl (Ac rfl (.bool false) (fun b w hb hH => AI rfl rfl rfl (BT (by omega)) hb) (Ag Ab rfl (Ac rfl (.bool true) (fun b w hb hH => AI rfl rfl rfl (DK h2) hb) (Ag Ab rfl (Al rfl (Ao (os' := fun _ => [cell g 67 #[.int .u64 bi, .int .u64 bt, .int .i64 bc, v, .int .i64 (f : Int), .int .i64 (es.length : Int)], As 32 5 encV v sl, An dat sl]) [0] 0 (Aj Try.func17 (by kernel_rfl) rfl) (CZ g bi bt bc v (f : Int) (es.length : Int) hls) rfl rfl rfl (fun _ => rfl) rfl rfl rfl) ?_)))))); rintro ⟨⟩
 refine Ac rfl (.bool true) (fun b w hb hH => AI rfl rfl rfl (Bq (by omega)) hb) (Ag Ab rfl (Ae (Aw ?_)))
 exact Ar (.tmp rfl) (fun w h => AG () rfl [0, 1, 2] rfl h CV) rfl
 obtain rfl : b = false := by rw [← hb]; simp; omega
 refine Af (Ag Ab rfl (Ac rfl (.bool false) (fun b w hb hH => AI rfl rfl rfl (BT (by omega)) hb) (Ag Ab rfl (Ac rfl (.bool false) (fun b w hb hH => AI rfl rfl rfl (Dq h2) hb) (Ag Ab rfl (Ae (Aw ?_)))))))
 exact Ar (.tmp rfl) (fun w h => AG () rfl [0, 1, 2] rfl h CV) rfl
 obtain rfl : b = true := by rw [← hb]; simp; omega
 refine Af (Ag Ab rfl (Ac rfl (.bool true) (fun b w hb hH => AI rfl rfl rfl (Cv (by omega)) hb) (Ag Ab rfl (Ae (Aw ?_)))))
 exact Ar (.tmp rfl) (fun w h => AG () rfl [0, 1, 2] rfl h CV) rfl
end Go.Proofs.Ytnebloeideodmaa.Sep
