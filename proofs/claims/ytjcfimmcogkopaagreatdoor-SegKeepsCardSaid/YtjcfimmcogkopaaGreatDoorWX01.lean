/-
  Sho
-/
import Derived.Test.YtjcfimmcogkopaaGreatDoorWB03
set_option linter.unusedVariables false
namespace Go.Proofs.YtjcfimmcogkopaaGreatDoor.Sep
variable {F : FuncId} {P Q R p : Prop} {T T' : TypeId} {X α : Type} {args : Array Operand} {ats : Array TypeId} {b t : Ass} {env' : List (Nat × Value)} {f x y : Operand} {g j off : Nat} {k : IntKind} {l out vs : List Value} {op : BinOp} {os' pre r : List Ass}
open Go.RowKit
open Go.Proofs.YtjcfimmcogkopaaGreatDoor.Mem (AG BC Chg Ak)
section sho
theorem Np (h : p := by first | omega | decide | with_reducible assumption) : p := h
theorem DE (a : R → P) (b : Q → R) : Q → P := fun k => a (b k)
inductive RowUp : List Ass → Ass → Ass → List Ass → Prop
  | z {a b : Ass} {r : List Ass} : RowUp (a :: r) a b (b :: r)
  | s {a b o : Ass} {r r' : List Ass} : RowUp r a b r' → RowUp (o :: r) a b (o :: r')
theorem RowUp.get {os : List Ass} {a : Ass} (h : RowUp os a b os') : ∃ i : Nat, os[i]? = some a ∧ os.set i b = os' := by
  induction h with
  | z => exact ⟨0, rfl, rfl⟩
  | s _ ih => obtain ⟨i, h1, h2⟩ := ih; exact ⟨i + 1, h1, by rw [List.set_cons_succ, h2]⟩
inductive OverL : List Value → Nat → List Value → List Value → Prop
  | n {cs : List Value} : OverL cs 0 [] cs
  | c {x v : Value} {cs vs out : List Value} : OverL cs 0 vs out → OverL (x :: cs) 0 (v :: vs) (v :: out)
  | s {x : Value} {off : Nat} {cs vs out : List Value} : OverL cs off vs out → OverL (x :: cs) (off + 1) vs (x :: out)
theorem OverL.is {cs : List Value} (h : OverL cs off vs out) : over? cs off vs = out ∧ off + vs.length ≤ cs.length := by
  unfold over?
  induction h with
  | n => simp
  | c _ ih => simpa using ih
  | s _ ih =>
    refine ⟨?_, by have := ih.2; simp only [List.length_cons]; omega⟩
    rw [Nat.add_right_comm, List.take_succ_cons, List.drop_succ_cons, List.cons_append, List.cons_append, ih.1]
inductive CelL : List Value → List Value → Prop
  | n : CelL [] []
  | s {a : Value} {r r' : List Value} : CelL r r' → CelL (a :: r) (a :: r')
theorem CelL.is {a b : List Value} (h : CelL a b) : a = b := by
  induction h with
  | n => rfl
  | s _ ih => rw [ih]
inductive SetA : List Ass → Nat → Ass → List Ass → Prop
  | z {a b : Ass} {r : List Ass} : SetA (a :: r) 0 b (b :: r)
  | s {b o : Ass} {i : Nat} {r r' : List Ass} : SetA r i b r' → SetA (o :: r) (i + 1) b (o :: r')
theorem SetA.is {r' : List Ass} {i : Nat} (h : SetA r i b r') : r.set i b = r' := by
  induction h with
  | z => rfl
  | s _ ih => rw [List.set_cons_succ, ih]
inductive Rep : List Nat → List Ass → List Ass → List Ass → Prop
  | n {os : List Ass} : Rep [] [] os os
  | a {x : Ass} {xs os out : List Ass} : Rep [] xs os out → Rep [] (x :: xs) os (x :: out)
  | c {i : Nat} {x : Ass} {ids : List Nat} {xs os m out : List Ass} : SetA os i x m → Rep ids xs m out → Rep (i :: ids) (x :: xs) os out
  | e {i : Nat} {ids : List Nat} {os m out : List Ass} : SetA os i emp m → Rep ids [] m out → Rep (i :: ids) [] os out
theorem Rep.is {ids : List Nat} {xs os out : List Ass} (h : Rep ids xs os out) : xs.drop ids.length ++ DV ids (D7 ids.length xs) os = out := by
  induction h with
  | n => rfl
  | a _ ih => simp only [List.length_nil, List.drop_zero, D7, DV, List.cons_append] at ih ⊢; rw [ih]
  | c h1 _ ih => simp only [List.length_cons, List.drop_succ_cons, D7, DV]; rw [h1.is]; exact ih
  | e h1 _ ih => simp only [List.length_cons, List.drop_nil, D7, DV] at ih ⊢; rw [h1.is]; exact ih
inductive GetL : List Value → Nat → Value → Prop
  | z {a : Value} {l : List Value} : GetL (a :: l) 0 a
  | s {a v : Value} {n : Nat} {l : List Value} : GetL l n v → GetL (a :: l) (n + 1) v
theorem GetL.is {n : Nat} {v : Value} (h : GetL l n v) : l.toArray[n]? = some v := by
  rw [List.getElem?_toArray]
  induction h with
  | z => rfl
  | s _ ih => exact ih
class COne (P : Program) (T : TypeId) : Prop where h : Co P T
class CAgg (P : Program) (T : TypeId) (k : outParam Nat) : Prop where h : I6 P T k
class CSz (P : Program) (T : TypeId) (k : outParam Nat) : Prop where h : ∀ w, (sizeOf T).run P w = .ok k w
class CZe (P : Program) (T : TypeId) (zs : outParam (Array Value)) : Prop where h : K0 P T zs
class CSl (P : Program) (t : TypeId) (e k : outParam Nat) : Prop where h : SliceT P t e k
class CFn (P : Program) (F : FuncId) : Prop where h : Tv P F
class CUn (P : Program) (T : TypeId) (u : outParam TypeDesc) : Prop where h : P.underlying T = some u
variable {P : Program} {ops : Array Oper} {Q : Exit → Act → World → Prop} {n : Nat} {env : List (Nat × Value)} {B : Nat → Prop} {w0 : World} {os : List Ass} {o : Oper} {rest : List Oper} {d : Nat}
instance {T : TypeId} [h : COne P T] : CSz P T 1 := ⟨h.h.2⟩
instance {T : TypeId} {k : Nat} [h : CAgg P T k] : CSz P T k := ⟨h.h.2⟩
theorem YC {t : TypeId} {v : Value} (ho : o.op = .load T x) (h1 : K7 ops n o env = some d) (hx : evs env x = some (.pointer (some ⟨g, off, none⟩))) (hi : ∃ i : Nat, os[i]? = some (cell g t l.toArray)) (hv : GetL l off v) (hO : Co P T) (h : A5 P ops Q n ((d, v) :: env) B w0 os rest) : A5 P ops Q n env B w0 os (o :: rest) := by
 obtain ⟨i, hi⟩ := hi
 exact Aa h1 v (fun b w hb hH => GN ho hx (JO hO hv.is) (hH.row i hi) hb) h
theorem YD {p : Addr} (ho : o.op = .nilCheck x) (h1 : K7 ops n o env = some d) (hx : evs env x = some (.pointer (some p))) (h : A5 P ops Q n ((d, .pointer (some p)) :: env) B w0 os rest) : A5 P ops Q n env B w0 os (o :: rest) :=
 Aa h1 _ (fun _ _ hb _ => Ir ho hx hb) h
theorem YE {p q : Int} {c : Bool} (ho : o.op = .binOp op T x y T') (h1 : K7 ops n o env = some d) (hx : evs env x = some (.int k p)) (hy : evs env y = some (.int k q)) (hc : Gk op p q = some c) (h : A5 P ops Q n ((d, .bool c) :: env) B w0 os rest) : A5 P ops Q n env B w0 os (o :: rest) :=
 Aa h1 _ (fun _ _ hb _ => DS ho hx hy hc hb) h
theorem WQ {t : TypeId} {k : Nat} {v : Value} (ho : o.op = .store T x y) (hg : wants ops o env = some true) (hd : o.dst = none) (hx : evs env x = some (.pointer (some ⟨g, off, none⟩))) (hy : evs env y = some v) (hr : RowUp os (cell g t l.toArray) (cell g t out.toArray) os') (hv : OverL l off v.cells.toList out) (h1 : MI v.cells.toList = true) (hs : ∀ w, (sizeOf T).run P w = .ok k w) (hk : v.cells.size = k) (h : A5 P ops Q n env B w0 os' rest) : A5 P ops Q n env B w0 os (o :: rest) := by
 obtain ⟨i, h2, rfl⟩ := hr.get
 have h3 := hv.is
 exact Bt hg hd (CW i (v := v) out.toArray hs hk (Nat.ble_eq_true_of_le (by have := h3.2; simpa [← hk] using this)) h1 (by rw [← h3.1]) hd ho hx hy h2) fun _ => h
theorem YF {t e k : TypeId} {k' : Nat} {enc : α → List Value} {v : Value} {l : List α} (ho : o.op = .call { callee := .builtin .len, args := #[x], argTypes := #[t] }) (h1 : K7 ops n o env = some d) (hx : evs env x = some v) (hT : SliceT P t e k) (hi : ∃ i : Nat, os[i]? = some (Af e k' enc v l)) (h : A5 P ops Q n ((d, .int .i64 (l.length : Int)) :: env) B w0 os rest) : A5 P ops Q n env B w0 os (o :: rest) := by
  obtain ⟨i, hi⟩ := hi
  exact Aa h1 _ (fun _ _ hb hH => CM i hT.ht hi ho hx hH hb) h
inductive PartL : List Value → Nat → Nat → List Value → Prop
  | n {l : List Value} : PartL l 0 0 []
  | c {a : Value} {k : Nat} {l out : List Value} : PartL l 0 k out → PartL (a :: l) 0 (k + 1) (a :: out)
  | s {a : Value} {off k : Nat} {l out : List Value} : PartL l off k out → PartL (a :: l) (off + 1) k out
theorem PartL.is {k : Nat} (h : PartL l off k out) : part? l off k = some out := by
  have h1 : (l.drop off).take k = out ∧ out.length = k := by
    induction h with
    | n => simp
    | c _ ih => simpa using ih
    | s _ ih => simpa using ih
  have h2 : Nat.beq ((l.drop off).take k).length k = true := by rw [h1.1, h1.2]; exact Nat.beq_refl k
  show (match Nat.beq ((l.drop off).take k).length k with | true => some ((l.drop off).take k) | false => none) = _
  rw [h2, h1.1]
theorem YI (h : p := by first | exact Ou | exact Dy | exact CI | exact GV | exact Qj | exact Ww) : p := h
theorem X8 (h : p := by first | omega | assumption | exact (List.getElem?_eq_some_iff.1 (by assumption)).1) : p := h
theorem WR {w : World} {act : Act} {t : TypeId} {v : Value} (ho : o.op = .load T x) (hx : evs env x = some (.pointer (some ⟨g, off, none⟩))) (hi : ∃ i : Nat, os[i]? = some (cell g t l.toArray)) (hv : l.toArray[off]? = some v) (hO : Co P T) (hH : Hp B w0 w os) (hF : Fr n act env) : (execOp act.eval o).run P w = .ok (.value v) w := by
 obtain ⟨i, hi⟩ := hi
 exact GN ho hx (JO hO hv) (hH.row i hi) hF
section
variable {w : World} {act : Act} {e : TypeId} {k : Nat} {α : Type} {enc : α → List Value} {v : Value} {l : List α}
theorem Nq {a : α} {S : TypeId} {f : Nat} (ho : o.op = .fieldAddr S x f) (hx : evs env x = some (AN v (j * k))) (hi : ∃ i : Nat, os[i]? = some (Af e k enc v l)) (he : EncOf k enc) (hk : 0 < k) (hj : l[j]? = some a) (hf : AO P S f off) (hH : Hp B w0 w os) (hF : Fr n act env) : (execOp act.eval o).run P w = .ok (.value (AN v (j * k + off))) w := by
 obtain ⟨i, hi⟩ := hi
 exact TR he hk (hH.vec i hi he) hj hf ho hx hF
theorem PH {a : α} {c : Value} (ho : o.op = .load T x) (hx : evs env x = some (AN v (j * k + off))) (hi : ∃ i : Nat, os[i]? = some (Af e k enc v l)) (he : EncOf k enc) (hk : 0 < k) (hj : l[j]? = some a) (hO : Co P T) (hc : (enc a)[off]? = some c) (hH : Hp B w0 w os) (hF : Fr n act env) : (execOp act.eval o).run P w = .ok (.value c) w := by
 obtain ⟨i, hi⟩ := hi
 exact De he hk (hH.vec i hi he) hj hO hc ho hx hF
end
theorem YG {t : TypeId} {k : Nat} (ho : o.op = .load T x) (h1 : K7 ops n o env = some d) (hx : evs env x = some (.pointer (some ⟨g, off, none⟩))) (hi : ∃ i : Nat, os[i]? = some (cell g t l.toArray)) (hA : I6 P T k) (hv : PartL l off k out) (h : A5 P ops Q n ((d, .agg out.toArray) :: env) B w0 os rest) : A5 P ops Q n env B w0 os (o :: rest) := by
 obtain ⟨i, hi⟩ := hi
 exact Aa h1 _ (fun b w hb hH => GN ho hx (Lj hA hv.is) (hH.row i hi) hb) h
theorem YR {p q z : Int} (ho : o.op = .binOp op T x y T') (h1 : K7 ops n o env = some d) (hx : evs env x = some (.int k p)) (hy : evs env y = some (.int k q)) (hc : YL op p q = some z) (hz : k.wrap z = z) (h : A5 P ops Q n ((d, .int k z) :: env) B w0 os rest) : A5 P ops Q n env B w0 os (o :: rest) :=
 Aa h1 _ (fun _ _ hb _ => Ay ho hx hy hc hz hb) h
theorem X3 {u : TypeDesc} {k' : IntKind} {p : Int} (ho : o.op = .convert T T' x) (h1 : K7 ops n o env = some d) (hx : evs env x = some (.int k' p)) (hs : P.underlying T = some u) (hd : P.underlying T' = some (.int k)) (hz : k.wrap p = p) (h : A5 P ops Q n ((d, .int k p) :: env) B w0 os rest) : A5 P ops Q n env B w0 os (o :: rest) :=
 Aa h1 _ (fun _ _ hb _ => BX hs hd hz ho hx hb) h
theorem R5 {v : Value} (hr : ∀ b w, Fr n b env → Hp B w0 w os → (execOp b.eval o).run P w = .ok (.value v) w) (h1 : K7 ops n o env = some d) (h : A5 P ops Q n ((d, v) :: env) B w0 os rest) : A5 P ops Q n env B w0 os (o :: rest) := Aa h1 v hr h
theorem Vs {c : Bool} (hr : ∀ b w, Fr n b env → (execOp b.eval o).run P w = .ok (.value (.bool c)) w) (h1 : K7 ops n o env = some d) (h : A5 P ops Q n ((d, .bool c) :: env) B w0 os rest) : A5 P ops Q n env B w0 os (o :: rest) := Aa h1 _ (fun b w hb _ => hr b w hb) h
theorem WS {jobs : List JobS} {env0 : List (Nat × Value)} {S : List (Option Value) → List Ass} {os : List Oper} {j : JobS} {js : List JobS} (h : R → DO P ops Q n jobs env0 B w0 S (o :: os) (j :: js)) : R → DO P ops Q n jobs env0 B w0 S (o :: os) (j :: js) := h
theorem YV (h : p := by first | exact Vu Np | exact Xq Np | exact H2 Np | exact Fa Np | exact DW Np | exact DX Np | exact JX Np | exact BF Np | exact JV Np | exact Se Np | exact JW Np | exact Sf Np) : p := h
theorem Vy (h : p := by first | exact ⟨0, rfl⟩ | exact ⟨1, rfl⟩ | exact ⟨2, rfl⟩ | exact ⟨3, rfl⟩ | exact ⟨4, rfl⟩ | exact ⟨5, rfl⟩ | exact ⟨6, rfl⟩ | exact ⟨7, rfl⟩) : p := h
theorem YJ (h : p := by
  first
  | exact ⟨rfl, fun b w hH hb => Cx Ac rfl hb⟩
  | exact ⟨rfl, rfl⟩
  | exact ⟨rfl, fun b w hH hb => Ir rfl rfl hb⟩
  | exact ⟨rfl, fun b w hH hb => WR rfl rfl Vy (by rfl) COne.h hH hb⟩
  | exact ⟨rfl, fun b w hH hb => DS rfl rfl rfl YV hb⟩
  | exact ⟨rfl, fun b w hH hb => R4 rfl rfl Vy X8 hH hb⟩
  | exact ⟨rfl, fun b w hH hb => Nq rfl rfl Vy YI (by decide) X8 (Ac _ _ _ rfl) hH hb⟩
  | exact ⟨rfl, fun b w hH hb => PH rfl rfl Vy YI (by decide) X8 COne.h (by rfl) hH hb⟩) : p := h
theorem WT (h : R → A5 P ops Q n env B w0 os (o :: rest)) : R → A5 P ops Q n env B w0 os (o :: rest) := h
theorem WU {c : Operand} {x y : Code} (h : R → AH P Q n env B w0 os (.cond c x y)) : R → AH P Q n env B w0 os (.cond c x y) := h
theorem YW {P Q : Prop} (h : Q → P := by
  first
  | with_reducible first | exact Aw | exact DU | exact Al | exact Bu | exact Eu | exact CL | exact D3 | exact VD | exact Xk | exact E4 | exact D4 | exact D5 | exact EP | exact Dl
  | ((with_reducible apply WU); (first | exact Et rfl | exact CK rfl))
  | ((with_reducible apply WS); exact Ad (by first | exact YJ | (intro _; exact YJ) | (intro _ _; exact YJ) | (intro _ _ _; exact YJ)))
  | (with_reducible apply WT)
    first
    | exact YC rfl rfl rfl Vy (by repeat first | exact GetL.z | apply GetL.s) COne.h
    | exact YD rfl rfl rfl
    | exact YE rfl rfl rfl rfl YV
    | exact WQ rfl rfl rfl rfl rfl (by with_reducible repeat first | exact RowUp.z | apply RowUp.s) (by repeat first | exact OverL.n | apply OverL.c | apply OverL.s) (by rfl) CSz.h (by rfl)
    | exact YF rfl rfl rfl CSl.h (by with_reducible exact Vy)
    | exact YG rfl rfl rfl Vy CAgg.h (by repeat first | exact PartL.n | apply PartL.c | apply PartL.s)
    | exact YR rfl rfl rfl rfl rfl (by first | exact IntWalk.i64_in _ Np | exact IntWalk.u64_in _ Np | exact IntWalk.u8_in _ Np | exact IntWalk.u32_in _ Np)
    | exact X3 rfl rfl rfl CUn.h CUn.h (by first | exact IntWalk.i64_in _ Np | exact IntWalk.u64_in _ Np | exact IntWalk.u8_in _ Np | exact IntWalk.u32_in _ Np)
    | exact R5 (fun b w hb hH => R4 rfl rfl Vy X8 hH hb) rfl
    | exact R5 (fun b w hb hH => Nq rfl rfl Vy YI (by decide) X8 (Ac _ _ _ (by rfl)) hH hb) rfl
    | exact R5 (fun b w hb hH => PH rfl rfl Vy YI (by decide) X8 COne.h (by rfl) hH hb) rfl
    | exact R5 (fun b w hb hH => Xp rfl rfl hb) rfl
    | exact Vs (fun b w hb => DF (by kernel_rfl) rfl rfl rfl hb) rfl
    | exact Vs (fun b w hb => MJ (by kernel_rfl) rfl rfl rfl hb) rfl) : Q → P := h
theorem CY {P Q : Prop} (h : Q → P := by first | exact YW | exact DE (Am Ac rfl) YW) : Q → P := h
theorem I5 {v : Value} (h : ∀ g : Nat, A5 P ops Q n ((d, .pointer (some ⟨g, 0, none⟩)) :: env) B w0 (cell g T l.toArray :: os) rest) (ho : o.op = .box T x := by rfl) (h1 : K7 ops n o env = some d := by rfl) (hx : evs env x = some v := by rfl) (hc : CelL v.cells.toList l := by repeat first | exact CelL.n | apply CelL.s) : A5 P ops Q n env B w0 os (o :: rest) :=
 AQ h1 (TJ ho hx (by rw [← hc.is])) h
theorem K5 {zs : Array Value} [hz : CZe P T zs] (h : ∀ g : Nat, A5 P ops Q n ((d, .pointer (some ⟨g, 0, none⟩)) :: env) B w0 (cell g T zs :: os) rest) (ho : o.op = .alloc T := by rfl) (h1 : K7 ops n o env = some d := by rfl) : A5 P ops Q n env B w0 os (o :: rest) :=
 AQ h1 (VF hz.h ho) h
theorem GI {val : X → Value} {post : X → List Ass} {os' : X → List Ass} (ids : List Nat) (hc : AA P F vs.toArray pre val post) [hE : CFn P F] (h : ∀ x, A5 P ops Q n ((d, val x) :: env) B w0 (os' x) rest) (ho : o.op = .call { callee := .value f, args := args, argTypes := ats } := by rfl) (h1 : K7 ops n o env = some d := by rfl) (hf : evs env f = some (.func (.func F) #[] #[]) := by rfl) (hx : evl env args.toList = some vs := by rfl) (pads : Nat := 0) (hp : CZ ids os = pre ++ List.replicate pads emp := by rfl) (hn : BK ids = true := by rfl) (hb : (ids.all fun i => Nat.blt i os.length) = true := by rfl) (he : ∀ x, Rep ids (post x) os (os' x) := by intro x; repeat first | exact Rep.n | apply Rep.a | apply Rep.c | apply Rep.e | exact SetA.z | apply SetA.s) : A5 P ops Q n env B w0 os (o :: rest) :=
 AQ h1 (AM ids pads hE.h hc hp hn hb (fun x => (he x).is) ho hf hx) h
theorem CE {val : Unit → Value} {post : Unit → List Ass} (ids : List Nat) (hc : AA P F vs.toArray pre val post) [hE : CFn P F] (h : A5 P ops Q n ((d, val ()) :: env) B w0 os' rest) (ho : o.op = .call { callee := .value f, args := args, argTypes := ats } := by rfl) (h1 : K7 ops n o env = some d := by rfl) (hf : evs env f = some (.func (.func F) #[] #[]) := by rfl) (hx : evl env args.toList = some vs := by rfl) (pads : Nat := 0) (hp : CZ ids os = pre ++ List.replicate pads emp := by rfl) (hn : BK ids = true := by rfl) (hb : (ids.all fun i => Nat.blt i os.length) = true := by rfl) (he : Rep ids (post ()) os os' := by repeat first | exact Rep.n | apply Rep.a | apply Rep.c | apply Rep.e | exact SetA.z | apply SetA.s) : A5 P ops Q n env B w0 os (o :: rest) :=
 AQ h1 (AM ids pads hE.h hc hp hn hb (fun _ => he.is) ho hf hx) fun _ => h
theorem FD {v : Value} (hc : ∀ w, Hp B w0 w os → Calls P F vs.toArray w fun e w' => e = .returned v ∧ Below w.heap.size w w') [hE : CFn P F] (h : A5 P ops Q n ((d, v) :: env) B w0 os rest) (ho : o.op = .call { callee := .value f, args := args, argTypes := ats } := by rfl) (h1 : K7 ops n o env = some d := by rfl) (hf : evs env f = some (.func (.func F) #[] #[]) := by rfl) (hx : evl env args.toList = some vs := by rfl) : A5 P ops Q n env B w0 os (o :: rest) :=
 AQ h1 (Da hE.h hc ho hf hx) fun _ => h
theorem YU {u : World} {val : X → Value} {post : X → List Ass} {os' : X → List Ass} (hU : Below u.heap.size u w0) (hS : ∀ k, B k → u.heap.size ≤ k) (ids : List Nat) (hc : DY u P F vs.toArray pre val post) [hE : CFn P F] (h : ∀ x, A5 P ops Q n ((d, val x) :: env) B w0 (os' x) rest) (ho : o.op = .call { callee := .value f, args := args, argTypes := ats } := by rfl) (h1 : K7 ops n o env = some d := by rfl) (hf : evs env f = some (.func (.func F) #[] #[]) := by rfl) (hx : evl env args.toList = some vs := by rfl) (pads : Nat := 0) (hp : CZ ids os = pre ++ List.replicate pads emp := by rfl) (hn : BK ids = true := by rfl) (hb : (ids.all fun i => Nat.blt i os.length) = true := by rfl) (he : ∀ x, Rep ids (post x) os (os' x) := by intro x; repeat first | exact Rep.n | apply Rep.a | apply Rep.c | apply Rep.e | exact SetA.z | apply SetA.s) : A5 P ops Q n env B w0 os (o :: rest) :=
 AQ h1 (Ra hU hS ids pads hE.h hc hp hn hb (fun x => (he x).is) ho hf hx) h
theorem XQ {val : X → Value} {post : X → List Ass} {os' : X → List Ass} (ids : List Nat) (hc : ∀ w, Hp B w0 w os → DY w P F vs.toArray [] val post) [hE : CFn P F] (h : ∀ x, A5 P ops Q n ((d, val x) :: env) B w0 (os' x) rest) (ho : o.op = .call { callee := .value f, args := args, argTypes := ats } := by rfl) (h1 : K7 ops n o env = some d := by rfl) (hf : evs env f = some (.func (.func F) #[] #[]) := by rfl) (hx : evl env args.toList = some vs := by rfl) (pads : Nat := 0) (hp : CZ ids os = List.replicate pads emp := by rfl) (hn : BK ids = true := by rfl) (hb : (ids.all fun i => Nat.blt i os.length) = true := by rfl) (he : ∀ x, Rep ids (post x) os (os' x) := by intro x; repeat first | exact Rep.n | apply Rep.a | apply Rep.c | apply Rep.e | exact SetA.z | apply SetA.s) : A5 P ops Q n env B w0 os (o :: rest) :=
  AQ h1 (Gx ids pads hE.h hc hp hn hb (fun x => (he x).is) ho hf hx) h
inductive SelE : List Nat → List (Nat × Value) → List (Nat × Value) → Prop
  | n {env : List (Nat × Value)} : SelE [] env []
  | c {i : Nat} {v : Value} {is : List Nat} {env env' : List (Nat × Value)} : look env i = some v → SelE is env env' → SelE (i :: is) env ((i, v) :: env')
theorem SelE.sub {is : List Nat} {env : List (Nat × Value)} (h : SelE is env env') : FX env env' := by
  induction h with
  | n => trivial
  | c h1 _ ih => exact ⟨h1, ih⟩
theorem kC {c : Code} (is : List Nat) (h : AH P Q n env' B w0 os c) (hs : SelE is env env' := by repeat first | exact SelE.n | (apply SelE.c; exact rfl)) : AH P Q n env B w0 os c := AH.keep hs.sub h
theorem kL {l : List Oper} (is : List Nat) (h : A5 P ops Q n env' B w0 os l) (hs : SelE is env env' := by repeat first | exact SelE.n | (apply SelE.c; exact rfl)) : A5 P ops Q n env B w0 os l := A5.keep hs.sub h
inductive RstR : List Nat → Nat → List Ass → List Ass → Prop
  | n {ids : List Nat} {k : Nat} : RstR ids k [] []
  | y {ids : List Nat} {k : Nat} {x : Ass} {r r' : List Ass} : ids.elem k = true → RstR ids (k + 1) r r' → RstR ids k (x :: r) r'
  | f {ids : List Nat} {k : Nat} {x : Ass} {r r' : List Ass} : ids.elem k = false → RstR ids (k + 1) r r' → RstR ids k (x :: r) (x :: r')
theorem RstR.is {ids : List Nat} {k : Nat} {r' : List Ass} (h : RstR ids k r r') : BI ids k r = r' := by
  induction h with
  | n => rfl
  | y h _ ih => rw [K1 h, ih]
  | f h _ ih => rw [Lq h, ih]
inductive AppA : List Ass → List Ass → List Ass → Prop
  | n {r : List Ass} : AppA [] r r
  | c {x : Ass} {xs r out : List Ass} : AppA xs r out → AppA (x :: xs) r (x :: out)
theorem AppA.is {xs out : List Ass} (h : AppA xs r out) : xs ++ r = out := by
  induction h with
  | n => rfl
  | c _ ih => rw [List.cons_append, ih]
inductive OpnR (xs : List Ass) (ids : List Nat) (os out : List Ass) : Prop
  | mk {r : List Ass} (h1 : RstR ids 0 os r) (h2 : AppA xs r out) : OpnR xs ids os out
theorem OpnR.is {xs os out : List Ass} {ids : List Nat} (h : OpnR xs ids os out) : xs ++ CR ids os = out := by
 obtain ⟨h1, h2⟩ := h
 unfold CR
 rw [h1.is, h2.is]
theorem oC {A : α → List Ass} {os' : α → List Ass} {c : Code} (i : Nat) (ho : ∀ rs, t rs → ∃ x, Ae (A x) rs) (h : ∀ x, AH P Q n env B w0 (os' x) c) (hi : os[i]? = some t := by rfl) (he : ∀ x, OpnR (A x) [i] os (os' x) := by intro x; apply OpnR.mk; repeat first | exact RstR.n | (apply RstR.y; exact rfl) | (apply RstR.f; exact rfl) | exact AppA.n | apply AppA.c) : AH P Q n env B w0 os c := FT i hi ho (fun x => (he x).is) h
theorem oL {A : α → List Ass} {os' : α → List Ass} {l : List Oper} (i : Nat) (ho : ∀ rs, t rs → ∃ x, Ae (A x) rs) (h : ∀ x, A5 P ops Q n env B w0 (os' x) l) (hi : os[i]? = some t := by rfl) (he : ∀ x, OpnR (A x) [i] os (os' x) := by intro x; apply OpnR.mk; repeat first | exact RstR.n | (apply RstR.y; exact rfl) | (apply RstR.f; exact rfl) | exact AppA.n | apply AppA.c) : A5 P ops Q n env B w0 os l := Fo i hi ho (fun x => (he x).is) h
theorem cC {c : Code} (ids : List Nat) (ht : ∀ rs, Ae (CZ ids os) rs → t rs) (h : AH P Q n env B w0 os' c) (hn : BK ids = true := by rfl) (he : OpnR [t] ids os os' := by apply OpnR.mk; repeat first | exact RstR.n | (apply RstR.y; exact rfl) | (apply RstR.f; exact rfl) | exact AppA.n | apply AppA.c) : AH P Q n env B w0 os c := Gn ids hn ht he.is h
theorem cL {l : List Oper} (ids : List Nat) (ht : ∀ rs, Ae (CZ ids os) rs → t rs) (h : A5 P ops Q n env B w0 os' l) (hn : BK ids = true := by rfl) (he : OpnR [t] ids os os' := by apply OpnR.mk; repeat first | exact RstR.n | (apply RstR.y; exact rfl) | (apply RstR.f; exact rfl) | exact AppA.n | apply AppA.c) : A5 P ops Q n env B w0 os l := VG ids hn ht he.is h
theorem lC {c : Code} (ids : List Nat) (h : AH P Q n env B w0 os' c) (hn : BK ids = true := by rfl) (he : RstR ids 0 os os' := by repeat first | exact RstR.n | (apply RstR.y; exact rfl) | (apply RstR.f; exact rfl)) : AH P Q n env B w0 os c := AH.leave ids hn he.is h
theorem lL {l : List Oper} (ids : List Nat) (h : A5 P ops Q n env B w0 os' l) (hn : BK ids = true := by rfl) (he : RstR ids 0 os os' := by repeat first | exact RstR.n | (apply RstR.y; exact rfl) | (apply RstR.f; exact rfl)) : A5 P ops Q n env B w0 os l := A5.leave ids hn he.is h
end sho
instance : COne Tryz.prog 24 := ⟨LM⟩
instance : COne Tryz.prog 29 := ⟨NE⟩
instance : COne Tryz.prog 124 := ⟨F5⟩
instance : CZe Tryz.prog 124 #[.pointer none] := ⟨J8⟩
instance : CZe Tryz.prog 227 #[.int .u8 0, .int .u8 0, .int .u8 0, .int .u8 0, .int .u8 0, .int .u8 0, .int .u8 0, .int .u8 0, .int .u8 0, .int .u8 0, .int .u8 0, .int .u8 0, .int .u8 0, .int .u8 0, .int .u8 0, .int .u8 0, .int .u8 0, .int .u8 0, .int .u8 0, .int .u8 0, .int .u8 0, .int .u8 0, .int .u8 0, .int .u8 0, .int .u8 0, .int .u8 0, .int .u8 0, .int .u8 0, .int .u8 0, .int .u8 0, .int .u8 0, .int .u8 0, .int .u8 0, .int .u8 0, .int .u8 0, .int .u8 0, .int .u8 0, .int .u8 0, .int .u8 0, .int .u8 0, .int .u8 0, .int .u8 0, .int .u8 0, .int .u8 0, .int .u8 0, .int .u8 0, .int .u8 0, .int .u8 0, .int .u8 0, .int .u8 0, .int .u8 0, .int .u8 0, .int .u8 0, .int .u8 0, .int .u8 0, .int .u8 0, .int .u8 0, .int .u8 0, .int .u8 0, .int .u8 0, .int .u8 0, .int .u8 0, .int .u8 0, .int .u8 0, .int .u8 0] := ⟨LN⟩
instance : COne Tryz.prog 39 := ⟨Fz⟩
instance : CZe Tryz.prog 39 #[.slice none 0 0] := ⟨LO⟩
instance : COne Tryz.prog 97 := ⟨DB⟩
instance : COne Tryz.prog 81 := ⟨EK⟩
instance : COne Tryz.prog 74 := ⟨Sw⟩
instance : COne Tryz.prog 49 := ⟨GQ⟩
instance : CZe Tryz.prog 49 #[.slice none 0 0] := ⟨P8⟩
instance : CAgg Tryz.prog 53 5 := ⟨Em⟩
instance : CZe Tryz.prog 53 #[.int .i64 0, .int .u64 0, .int .u64 0, .slice none 0 0, .int .i64 0] := ⟨NF⟩
instance : COne Tryz.prog 30 := ⟨Bx⟩
instance : COne Tryz.prog 4 := ⟨VR⟩
instance : COne Tryz.prog 99 := ⟨EL⟩
instance : COne Tryz.prog 104 := ⟨NG⟩
instance : CAgg Tryz.prog 106 5 := ⟨Cc⟩
instance : CZe Tryz.prog 106 #[.int .i64 0, .string { data := #[] }, .slice none 0 0, .int .i64 0, .string { data := #[] }] := ⟨Ju⟩
instance : COne Tryz.prog 195 := ⟨Hc⟩
instance : COne Tryz.prog 167 := ⟨FA⟩
instance : COne Tryz.prog 3 := ⟨Hd⟩
instance : CZe Tryz.prog 3 #[.int .i64 0] := ⟨XA⟩
instance : CAgg Tryz.prog 83 2 := ⟨Bj⟩
instance : COne Tryz.prog 9 := ⟨J9⟩
instance : COne Tryz.prog 38 := ⟨F6⟩
instance : COne Tryz.prog 5 := ⟨C5⟩
instance : CSl Tryz.prog 39 53 5 := ⟨Av⟩
instance : CSl Tryz.prog 97 106 5 := ⟨BO⟩
instance : CSl Tryz.prog 81 137 2 := ⟨B4⟩
instance : CSl Tryz.prog 74 83 2 := ⟨Bg⟩
instance : CSl Tryz.prog 77 9 1 := ⟨Kd⟩
instance : CSl Tryz.prog 49 5 1 := ⟨AL⟩
instance : CUn Tryz.prog 5 (.int .u8) := ⟨Tryz.underlying5⟩
instance : CUn Tryz.prog 3 (.int .i64) := ⟨Tryz.underlying3⟩
instance : CUn Tryz.prog 38 (.int .u64) := ⟨Tryz.underlying38⟩
instance : CUn Tryz.prog 114 (.int .u32) := ⟨Tryz.underlying114⟩
instance : CUn Tryz.prog 116 (.int .u64) := ⟨Tryz.underlying116⟩
instance : CFn Tryz.prog 26 := ⟨Ah Tryz.func26 (by kernel_rfl) rfl⟩
instance : CFn Tryz.prog 13 := ⟨Ah Tryz.func13 (by kernel_rfl) rfl⟩
instance : CFn Tryz.prog 34 := ⟨Ah Tryz.func34 (by kernel_rfl) rfl⟩
instance : CFn Tryz.prog 95 := ⟨Ah Tryz.func95 (by kernel_rfl) rfl⟩
instance : CFn Tryz.prog 103 := ⟨Ah Tryz.func103 (by kernel_rfl) rfl⟩
instance : CFn Tryz.prog 22 := ⟨Ah Tryz.func22 (by kernel_rfl) rfl⟩
instance : CFn Tryz.prog 88 := ⟨Ah Tryz.func88 (by kernel_rfl) rfl⟩
instance : CFn Tryz.prog 76 := ⟨Ah Tryz.func76 (by kernel_rfl) rfl⟩
instance : CFn Tryz.prog 70 := ⟨Ah Tryz.func70 (by kernel_rfl) rfl⟩
instance : CFn Tryz.prog 55 := ⟨Ah Tryz.func55 (by kernel_rfl) rfl⟩
instance : CFn Tryz.prog 77 := ⟨Ah Tryz.func77 (by kernel_rfl) rfl⟩
instance : CFn Tryz.prog 148 := ⟨Ah Tryz.func148 (by kernel_rfl) rfl⟩
instance : CFn Tryz.prog 151 := ⟨Ah Tryz.func151 (by kernel_rfl) rfl⟩
instance : CFn Tryz.prog 149 := ⟨Ah Tryz.func149 (by kernel_rfl) rfl⟩
instance : CFn Tryz.prog 150 := ⟨Ah Tryz.func150 (by kernel_rfl) rfl⟩
instance : CFn Tryz.prog 139 := ⟨Ah Tryz.func139 (by kernel_rfl) rfl⟩
instance : CFn Tryz.prog 142 := ⟨Ah Tryz.func142 (by kernel_rfl) rfl⟩
instance : CFn Tryz.prog 140 := ⟨Ah Tryz.func140 (by kernel_rfl) rfl⟩
instance : CFn Tryz.prog 141 := ⟨Ah Tryz.func141 (by kernel_rfl) rfl⟩
instance : CFn Tryz.prog 21 := ⟨Ah Tryz.func21 (by kernel_rfl) rfl⟩
instance : CFn Tryz.prog 31 := ⟨Ah Tryz.func31 (by kernel_rfl) rfl⟩
instance : CFn Tryz.prog 32 := ⟨Ah Tryz.func32 (by kernel_rfl) rfl⟩
instance : CFn Tryz.prog 33 := ⟨Ah Tryz.func33 (by kernel_rfl) rfl⟩
instance : CFn Tryz.prog 23 := ⟨Ah Tryz.func23 (by kernel_rfl) rfl⟩
instance : CFn Tryz.prog 69 := ⟨Ah Tryz.func69 (by kernel_rfl) rfl⟩
instance : CFn Tryz.prog 116 := ⟨Ah Tryz.func116 (by kernel_rfl) rfl⟩
instance : CFn Tryz.prog 66 := ⟨Ah Tryz.func66 (by kernel_rfl) rfl⟩
instance : CFn Tryz.prog 71 := ⟨Ah Tryz.func71 (by kernel_rfl) rfl⟩
instance : CFn Tryz.prog 117 := ⟨Ah Tryz.func117 (by kernel_rfl) rfl⟩
instance : CFn Tryz.prog 36 := ⟨Ah Tryz.func36 (by kernel_rfl) rfl⟩
instance : CFn Tryz.prog 87 := ⟨Ah Tryz.func87 (by kernel_rfl) rfl⟩
instance : CFn Tryz.prog 37 := ⟨Ah Tryz.func37 (by kernel_rfl) rfl⟩
instance : CFn Tryz.prog 86 := ⟨Ah Tryz.func86 (by kernel_rfl) rfl⟩
instance : CFn Tryz.prog 57 := ⟨Ah Tryz.func57 (by kernel_rfl) rfl⟩
instance : CFn Tryz.prog 106 := ⟨Ah Tryz.func106 (by kernel_rfl) rfl⟩
instance : CFn Tryz.prog 75 := ⟨Ah Tryz.func75 (by kernel_rfl) rfl⟩
instance : CFn Tryz.prog 56 := ⟨Ah Tryz.func56 (by kernel_rfl) rfl⟩
instance : CFn Tryz.prog 89 := ⟨Ah Tryz.func89 (by kernel_rfl) rfl⟩
instance : CFn Tryz.prog 94 := ⟨Ah Tryz.func94 (by kernel_rfl) rfl⟩
instance : CFn Tryz.prog 16 := ⟨Ah Tryz.func16 (by kernel_rfl) rfl⟩
instance : CFn Tryz.prog 6 := ⟨Ah Tryz.func6 (by kernel_rfl) rfl⟩
instance : CFn Tryz.prog 8 := ⟨Ah Tryz.func8 (by kernel_rfl) rfl⟩
instance : CFn Tryz.prog 30 := ⟨Ah Tryz.func30 (by kernel_rfl) rfl⟩
instance : CFn Tryz.prog 24 := ⟨Ah Tryz.func24 (by kernel_rfl) rfl⟩
instance : CFn Tryz.prog 25 := ⟨Ah Tryz.func25 (by kernel_rfl) rfl⟩
instance : CFn Tryz.prog 73 := ⟨Ah Tryz.func73 (by kernel_rfl) rfl⟩
instance : CFn Tryz.prog 20 := ⟨Ah Tryz.func20 (by kernel_rfl) rfl⟩
instance : CFn Tryz.prog 54 := ⟨Ah Tryz.func54 (by kernel_rfl) rfl⟩
instance : CFn Tryz.prog 74 := ⟨Ah Tryz.func74 (by kernel_rfl) rfl⟩
instance : CFn Tryz.prog 65 := ⟨Ah Tryz.func65 (by kernel_rfl) rfl⟩
instance : CFn Tryz.prog 119 := ⟨Ah Tryz.func119 (by kernel_rfl) rfl⟩
instance : CFn Tryz.prog 145 := ⟨Ah Tryz.func145 (by kernel_rfl) rfl⟩
instance : CFn Tryz.prog 115 := ⟨Ah Tryz.func115 (by kernel_rfl) rfl⟩
instance : CFn Tryz.prog 143 := ⟨Ah Tryz.func143 (by kernel_rfl) rfl⟩
instance : CFn Tryz.prog 146 := ⟨Ah Tryz.func146 (by kernel_rfl) rfl⟩
instance : CFn Tryz.prog 171 := ⟨Ah Tryz.func171 (by kernel_rfl) rfl⟩
instance : CFn Tryz.prog 172 := ⟨Ah Tryz.func172 (by kernel_rfl) rfl⟩
instance : CFn Tryz.prog 194 := ⟨Ah Tryz.func194 (by kernel_rfl) rfl⟩
instance : CFn Tryz.prog 147 := ⟨Ah Tryz.func147 (by kernel_rfl) rfl⟩
instance : CFn Tryz.prog 138 := ⟨Ah Tryz.func138 (by kernel_rfl) rfl⟩
instance : CFn Tryz.prog 144 := ⟨Ah Tryz.func144 (by kernel_rfl) rfl⟩
instance : CFn Tryz.prog 173 := ⟨Ah Tryz.func173 (by kernel_rfl) rfl⟩
instance : CFn Tryz.prog 114 := ⟨Ah Tryz.func114 (by kernel_rfl) rfl⟩
instance : CFn Tryz.prog 120 := ⟨Ah Tryz.func120 (by kernel_rfl) rfl⟩
instance : CFn Tryz.prog 67 := ⟨Ah Tryz.func67 (by kernel_rfl) rfl⟩
instance : CFn Tryz.prog 113 := ⟨Ah Tryz.func113 (by kernel_rfl) rfl⟩
instance : CFn Tryz.prog 112 := ⟨Ah Tryz.func112 (by kernel_rfl) rfl⟩
instance : CFn Tryz.prog 29 := ⟨Ah Tryz.func29 (by kernel_rfl) rfl⟩
instance : CFn Tryz.prog 9 := ⟨Ah Tryz.func9 (by kernel_rfl) rfl⟩
instance : CFn Tryz.prog 72 := ⟨Ah Tryz.func72 (by kernel_rfl) rfl⟩
instance : CFn Tryz.prog 118 := ⟨Ah Tryz.func118 (by kernel_rfl) rfl⟩
instance : CFn Tryz.prog 68 := ⟨Ah Tryz.func68 (by kernel_rfl) rfl⟩
instance : CFn Tryz.prog 35 := ⟨Ah Tryz.func35 (by kernel_rfl) rfl⟩
instance : CFn Tryz.prog 78 := ⟨Ah Tryz.func78 (by kernel_rfl) rfl⟩
instance : CFn Tryz.prog 121 := ⟨Ah Tryz.func121 (by kernel_rfl) rfl⟩
instance : CFn Tryz.prog 131 := ⟨Ah Tryz.func131 (by kernel_rfl) rfl⟩
instance : CFn Tryz.prog 155 := ⟨Ah Tryz.func155 (by kernel_rfl) rfl⟩
instance : CFn Tryz.prog 177 := ⟨Ah Tryz.func177 (by kernel_rfl) rfl⟩
instance : CFn Tryz.prog 164 := ⟨Ah Tryz.func164 (by kernel_rfl) rfl⟩
instance : CFn Tryz.prog 91 := ⟨Ah Tryz.func91 (by kernel_rfl) rfl⟩
instance : CFn Tryz.prog 178 := ⟨Ah Tryz.func178 (by kernel_rfl) rfl⟩
instance : CFn Tryz.prog 196 := ⟨Ah Tryz.func196 (by kernel_rfl) rfl⟩
instance : CFn Tryz.prog 90 := ⟨Ah Tryz.func90 (by kernel_rfl) rfl⟩
instance : CFn Tryz.prog 84 := ⟨Ah Tryz.func84 (by kernel_rfl) rfl⟩
instance : CFn Tryz.prog 92 := ⟨Ah Tryz.func92 (by kernel_rfl) rfl⟩
instance : CFn Tryz.prog 85 := ⟨Ah Tryz.func85 (by kernel_rfl) rfl⟩
instance : CFn Tryz.prog 93 := ⟨Ah Tryz.func93 (by kernel_rfl) rfl⟩
section
variable {P Q : Prop}
theorem Ai (k : Q) (h : Q → P := by exact CY) : P := h k
theorem Aq (k : Q) (h : Q → P := by exact DE CY (CY)) : P := h k
theorem AK (k : Q) (h : Q → P := by exact DE CY (DE CY (CY))) : P := h k
theorem AV (k : Q) (h : Q → P := by exact DE CY (DE CY (DE CY (CY)))) : P := h k
theorem BD (k : Q) (h : Q → P := by exact DE CY (DE CY (DE CY (DE CY (CY))))) : P := h k
theorem Ce (k : Q) (h : Q → P := by exact DE CY (DE CY (DE CY (DE CY (DE CY (CY)))))) : P := h k
theorem Dc (k : Q) (h : Q → P := by exact DE CY (DE CY (DE CY (DE CY (DE CY (DE CY (CY))))))) : P := h k
theorem Eh (k : Q) (h : Q → P := by exact DE CY (DE CY (DE CY (DE CY (DE CY (DE CY (DE CY (CY)))))))) : P := h k
theorem Kf (k : Q) (h : Q → P := by exact DE CY (DE CY (DE CY (DE CY (DE CY (DE CY (DE CY (DE CY (CY))))))))) : P := h k
theorem GK (k : Q) (h : Q → P := by exact DE CY (DE CY (DE CY (DE CY (DE CY (DE CY (DE CY (DE CY (DE CY (CY)))))))))) : P := h k
theorem M2 (k : Q) (h : Q → P := by exact DE CY (DE CY (DE CY (DE CY (DE CY (DE CY (DE CY (DE CY (DE CY (DE CY (CY))))))))))) : P := h k
theorem Ci (k : Q) (h : Q → P := by exact DE CY (DE CY (DE CY (DE CY (DE CY (DE CY (DE CY (DE CY (DE CY (DE CY (DE CY (CY)))))))))))) : P := h k
end
end Go.Proofs.YtjcfimmcogkopaaGreatDoor.Sep
