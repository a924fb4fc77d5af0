/-
  SgS · SgF
-/
import Derived.Test.YtjcfimmcogkopaaGreatDoorWX01
import Derived.Test.YtjcfimmcogkopaaGreatDoorWF01
import Derived.Test.YtjcfimmcogkopaaGreatDoorWI01
import Derived.Test.YtjcfimmcogkopaaGreatDoorWJ02
import Derived.Test.YtjcfimmcogkopaaGreatDoorWK02
set_option linter.unusedSimpArgs false
set_option linter.unusedVariables false
set_option maxHeartbeats 4000000
set_option maxRecDepth 100000
namespace Go.Proofs.YtjcfimmcogkopaaGreatDoor.Sep
variable {A os : List Ass} {B : Nat → Prop} {L dk j lim p : Nat} {P : Program} {b : List UInt8} {d : DiskD} {fs : List Nat} {r : Loop} {rs : List RowT} {sv : Value} {tb : Tb} {x : Operand}
open Go.RowKit
open Go.Proofs.YtjcfimmcogkopaaGreatDoor.Mem (AG BC Chg Ak)
def encMk (m : Int × Nat) : List Value := [.int .u64 m.1, .int .i64 (m.2 : Int)]
theorem GV : EncOf 2 encMk := ⟨fun _ => rfl, fun x v h => by unfold encMk at h; simp at h; rcases h with rfl | rfl <;> rfl⟩
structure SegV where
  f : Nat
  l : List (Int × Nat)
  A : Option Addr
  c : Nat
def SegV.v (x : SegV) : Value := .slice x.A x.l.length x.c
def SegV.m (x : SegV) : Nat × List (Int × Nat) := (x.f, x.l)
def encSg (x : SegV) : List Value := [.int .u64 (x.f : Int), x.v]
theorem CI : EncOf 2 encSg := ⟨fun _ => rfl, fun x v h => by unfold encSg SegV.v at h; simp at h; rcases h with rfl | rfl <;> rfl⟩
def AX (svs : List SegV) : Ass := AE (fun x : SegV => Af 137 2 encMk x.v x.l) svs
abbrev SegsM := List (Nat × List (Int × Nat))
def Ao (p dk lim : Nat) (ss : SegsM) : Ass := fun rs => ∃ (sv : Value) (svs : List SegV), Ae [cell p 76 #[.pointer (some ⟨dk, 0, none⟩), .int .i64 (lim : Int), sv], Af 83 2 encSg sv svs, AX svs, fact (svs.map SegV.m = ss)] rs
theorem Ao.open_ {ss : SegsM} : ∀ rs, Ao p dk lim ss rs → ∃ x : Value × List SegV, Ae [cell p 76 #[.pointer (some ⟨dk, 0, none⟩), .int .i64 (lim : Int), x.1], Af 83 2 encSg x.1 x.2, AX x.2, fact (x.2.map SegV.m = ss)] rs := fun _ ⟨sv, svs, h⟩ => ⟨(sv, svs), h⟩
theorem Ch {ss : SegsM} {svs : List SegV} (h : svs.map SegV.m = ss) : ∀ rs, Ae [cell p 76 #[.pointer (some ⟨dk, 0, none⟩), .int .i64 (lim : Int), sv], Af 83 2 encSg sv svs, AX svs] rs → Ao p dk lim ss rs := fun _ hz => ⟨sv, svs, Ds h hz⟩
def EF (p dk lim : Nat) (sv : Value) (d : DiskD) (tb : Tb) (fs : List Nat) (R : List SegV → Ass) : Ass := fun rs => ∃ svs : List SegV, Ae [cell p 76 #[.pointer (some ⟨dk, 0, none⟩), .int .i64 (lim : Int), sv], Af 83 2 encSg sv svs, Ab dk d, Aj tb, R svs, fact (svs.map SegV.f = fs)] rs
theorem EF.open_ {R : List SegV → Ass} : ∀ rs, EF p dk lim sv d tb fs R rs → ∃ svs : List SegV, Ae [cell p 76 #[.pointer (some ⟨dk, 0, none⟩), .int .i64 (lim : Int), sv], Af 83 2 encSg sv svs, Ab dk d, Aj tb, R svs, fact (svs.map SegV.f = fs)] rs := fun _ h => h
theorem FI {R : List SegV → Ass} {svs : List SegV} (h : svs.map SegV.f = fs) : ∀ rs, Ae [cell p 76 #[.pointer (some ⟨dk, 0, none⟩), .int .i64 (lim : Int), sv], Af 83 2 encSg sv svs, Ab dk d, Aj tb, R svs] rs → EF p dk lim sv d tb fs R rs := fun _ hz => ⟨svs, Ds h hz⟩
theorem RO {a b c d x f : Ass} : ([a, b, c, d, x, f] ++ A).Perm (x :: ([a, b, c, d, f] ++ A)) := List.perm_middle (l₁ := [a, b, c, d]) (l₂ := f :: A)
theorem RP {X : List SegV → Ass} (h : Ae (EF p dk lim sv d tb fs (fun s => DD L r (X s)) :: A) rs) : ∃ rs', rs.Perm rs' ∧ Ae (Bq L r :: EF p dk lim sv d tb fs X :: A) rs' := by
 obtain ⟨a, b, e, ⟨svs, h1⟩, h2⟩ := h
 have h3 : Ae ([cell p 76 #[.pointer (some ⟨dk, 0, none⟩), .int .i64 (lim : Int), sv], Af 83 2 encSg sv svs, Ab dk d, Aj tb, DD L r (X svs), fact (svs.map SegV.f = fs)] ++ A) rs := e ▸ h1.app h2
 have h4 : ([cell p 76 #[.pointer (some ⟨dk, 0, none⟩), .int .i64 (lim : Int), sv], Af 83 2 encSg sv svs, Ab dk d, Aj tb, DD L r (X svs), fact (svs.map SegV.f = fs)] ++ A).Perm (DD L r (X svs) :: ([cell p 76 #[.pointer (some ⟨dk, 0, none⟩), .int .i64 (lim : Int), sv], Af 83 2 encSg sv svs, Ab dk d, Aj tb, fact (svs.map SegV.f = fs)] ++ A)) := RO
 obtain ⟨rs1, p1, h5⟩ := h3.perm h4
 have h6 := I0 h5
 have h7 : (Bq L r :: X svs :: ([cell p 76 #[.pointer (some ⟨dk, 0, none⟩), .int .i64 (lim : Int), sv], Af 83 2 encSg sv svs, Ab dk d, Aj tb, fact (svs.map SegV.f = fs)] ++ A)).Perm ([Bq L r] ++ ([cell p 76 #[.pointer (some ⟨dk, 0, none⟩), .int .i64 (lim : Int), sv], Af 83 2 encSg sv svs, Ab dk d, Aj tb, X svs, fact (svs.map SegV.f = fs)] ++ A)) := List.Perm.cons _ RO.symm
 obtain ⟨rs2, p2, h8⟩ := h6.perm h7
 obtain ⟨x, y, e1, h9, h10⟩ := h8.split
 obtain ⟨y1, y2, e2, h11, h12⟩ := h10.split
 refine ⟨rs2, p1.trans p2, ?_⟩
 rw [e1, e2]
 exact ⟨x, y1 ++ y2, rfl, Ae.one' h9, y1, y2, rfl, ⟨svs, h11⟩, h12⟩
theorem UU {X : List SegV → Ass} (h : Ae (Bq L r :: EF p dk lim sv d tb fs X :: A) rs) : ∃ rs', rs.Perm rs' ∧ Ae (EF p dk lim sv d tb fs (fun s => DD L r (X s)) :: A) rs' := by
 obtain ⟨x, y, e1, h9, y1, y2, e2, ⟨svs, h11⟩, h12⟩ := h
 have h8 : Ae ([Bq L r] ++ ([cell p 76 #[.pointer (some ⟨dk, 0, none⟩), .int .i64 (lim : Int), sv], Af 83 2 encSg sv svs, Ab dk d, Aj tb, X svs, fact (svs.map SegV.f = fs)] ++ A)) rs := by
  rw [e1, e2]
  exact (Ae.one h9).app (h11.app h12)
 have h7 : ([Bq L r] ++ ([cell p 76 #[.pointer (some ⟨dk, 0, none⟩), .int .i64 (lim : Int), sv], Af 83 2 encSg sv svs, Ab dk d, Aj tb, X svs, fact (svs.map SegV.f = fs)] ++ A)).Perm (Bq L r :: X svs :: ([cell p 76 #[.pointer (some ⟨dk, 0, none⟩), .int .i64 (lim : Int), sv], Af 83 2 encSg sv svs, Ab dk d, Aj tb, fact (svs.map SegV.f = fs)] ++ A)) := List.Perm.cons _ RO
 obtain ⟨rs2, p2, h6⟩ := h8.perm h7
 have h5 := Kq h6
 have h4 : (DD L r (X svs) :: ([cell p 76 #[.pointer (some ⟨dk, 0, none⟩), .int .i64 (lim : Int), sv], Af 83 2 encSg sv svs, Ab dk d, Aj tb, fact (svs.map SegV.f = fs)] ++ A)).Perm ([cell p 76 #[.pointer (some ⟨dk, 0, none⟩), .int .i64 (lim : Int), sv], Af 83 2 encSg sv svs, Ab dk d, Aj tb, DD L r (X svs), fact (svs.map SegV.f = fs)] ++ A) := RO.symm
 obtain ⟨rs3, p3, h3⟩ := h5.perm h4
 obtain ⟨a, b, e, h1, h2⟩ := h3.split
 exact ⟨rs3, p2.trans p3, a, b, e, ⟨svs, h1⟩, h2⟩
theorem Xa {F : FuncId} {args : Array Value} {X Y : List SegV → Ass} {A' : List Ass} {r' : Loop} {v : Value} (h : AA P F args (EF p dk lim sv d tb fs (fun s => DD L r (X s)) :: A) (fun _ : Unit => v) (fun _ => EF p dk lim sv d tb fs (fun s => DD L r' (Y s)) :: A')) : AA P F args (Bq L r :: EF p dk lim sv d tb fs X :: A) (fun _ : Unit => v) (fun _ => Bq L r' :: EF p dk lim sv d tb fs Y :: A') := fun w rs h1 h2 h3 => ((h.imp fun _ hz => UU hz) w rs h1 h2 h3).mono fun _ _ ⟨x, he, y, hy, hc⟩ => by
 obtain ⟨z, p1, hz⟩ := RP hy
 exact ⟨x, he, z, hz, HU hc p1⟩
theorem Xb {f : Value} {vs : List Value} {X Y : List SegV → Ass} {A' : List Ass} {r' : Loop} {v : Value} (h : CB P f vs (Bq L r :: EF p dk lim sv d tb fs X :: A) (fun _ : Unit => v) (fun _ => Bq L r' :: EF p dk lim sv d tb fs Y :: A')) : CB P f vs (EF p dk lim sv d tb fs (fun s => DD L r (X s)) :: A) (fun _ : Unit => v) (fun _ => EF p dk lim sv d tb fs (fun s => DD L r' (Y s)) :: A') := fun w rs h1 h2 h3 => ((h.imp fun _ hz => RP hz) w rs h1 h2 h3).mono fun _ _ ⟨x, he, y, hy, hc⟩ => by
 obtain ⟨z, p1, hz⟩ := UU hy
 exact ⟨x, he, z, hz, HU hc p1⟩
section
variable {P : Program} {B : Nat → Prop} {w0 w : World} {os : List Ass} {n : Nat} {env : List (Nat × Value)} {o : Oper} {act : Act} {e : TypeId} {k : Nat} {α : Type} {enc : α → List Value} {v : Value} {l : List α}
theorem A6 (i : Nat) (hi : os[i]? = some (Af e k enc v l)) (hj : j < l.length) (ho : o.op = .nilCheck x) (hx : evs env x = some (AN v (j * k))) (hH : Hp B w0 w os) (hF : Fr n act env) : (execOp act.eval o).run P w = .ok (.value (AN v (j * k))) w := by
  obtain ⟨rs, hv, _⟩ := hH.thing i hi
  rcases hv with ⟨_, h2, _⟩ | ⟨g, c, cs, h2, _⟩
  · subst h2; exact absurd hj (Nat.not_lt_zero _)
  · subst h2
    have : AN (.slice (some ⟨g, 0, none⟩) l.length c) (j * k) = .pointer (some ⟨g, j * k, none⟩) := by simp [AN]
    rw [this] at hx ⊢
    exact Ir ho hx hF
end
def Cd (v : Value) (i : Nat) : Value := match v with | .tuple vs => vs.getD i undef | _ => undef
def FJ (v : Value) (b : List UInt8) (ok : Bool) : Ass := fun rs => ∃ bv, v = .tuple #[bv, .bool ok] ∧ Af 5 1 encB bv b rs
theorem FJ.open_ {v : Value} {ok : Bool} : ∀ rs, FJ v b ok rs → ∃ x : { bv : Value // v = .tuple #[bv, .bool ok] }, Ae [Af 5 1 encB x.1 b] rs := fun _ ⟨bv, h, hv⟩ => ⟨⟨bv, h⟩, Ae.one hv⟩
theorem GL {w0 w : World} {n : Nat} {env : List (Nat × Value)} {o : Oper} {act : Act} {v : Value} {ok : Bool} (i : Nat) {k : Nat} (hk : k < 2) (hi : os[i]? = some (FJ v b ok)) (ho : o.op = .extract x k) (hx : evs env x = some v) (hH : Hp B w0 w os) (hF : Fr n act env) : (execOp act.eval o).run P w = .ok (.value (Cd v k)) w := by
 obtain ⟨rs, ⟨bv, hv, _⟩, _⟩ := hH.thing i hi
 subst hv
 have h2 : k = 0 ∨ k = 1 := by omega
 rcases h2 with rfl | rfl <;> exact I7 ho hx rfl hF
theorem EG {n : List UInt8} {ok : Bool} (hd : d.fit) (h : (BH d n).isSome = ok) (hb : (BH d n).getD [] = b) : AA Tryz.prog 95 #[.pointer (some ⟨p, 0, none⟩), .string (bs n)] [Ab p d] (fun v : Value => v) (fun v => [Ab p d, FJ v b ok]) := fun w rs h1 h2 h3 => (SN hd h hb w rs h1 h2 h3).mono fun e w' ⟨bv, he, rs', hp, hc⟩ => by
 obtain ⟨a, c, e1, ha, c1, d1, e2, hv, hn⟩ := hp
 exact ⟨_, he, rs', ⟨a, c, e1, ha, c1, d1, e2, ⟨bv, rfl, hv⟩, hn⟩, hc⟩
theorem Pk {w0 w : World} {t : Ass} (ids : List Nat) (hn : BK ids = true) (ht : ∀ rs, Ae (CZ ids os) rs → t rs) (h : Hp B w0 w os) : Hp B w0 w (t :: CR ids os) := by
 obtain ⟨rs, h1, h2⟩ := h
 obtain ⟨_, rs', p, h3⟩ := G3 ids hn ht rs h1
 exact ⟨rs', h3, Cz h2 p⟩
theorem NZ {svs : List SegV} {f : Nat} (h : svs.map SegV.f = fs) (hf : fs[j]? = some f) : ∃ x, svs[j]? = some x ∧ x.f = f := by
  subst h
  rw [List.getElem?_map] at hf
  cases hx : svs[j]? with
  | none => rw [hx] at hf; cases hf
  | some x => rw [hx] at hf; exact ⟨x, rfl, by simpa using hf⟩
theorem HG {svs : List SegV} (h : svs.map SegV.f = fs) : svs.length = fs.length := by rw [← h, List.length_map]
end Go.Proofs.YtjcfimmcogkopaaGreatDoor.Sep
namespace Go.Proofs.YtjcfimmcogkopaaGreatDoor.Sep
variable {N n : Nat} {d : DiskD} {fs : List Nat}
open Go.RowKit
open Go.Proofs.YtjcfimmcogkopaaGreatDoor.Mem (AG BC Chg Ak)
theorem JG {A0 : Option Addr} {c0 : Nat} : AA Tryz.prog 72 #[.slice A0 n c0] [] (fun (g : Nat) => .func (.func 118) #[] #[.pointer (some ⟨g, 0, none⟩)]) (fun (g : Nat) => [cell g 49 #[.slice A0 n c0]]) := by
 refine AP (args := [.slice A0 n c0]) 4 Tryz.func72 rfl rfl rfl ?_; intro w rs
 refine Al (Am Ac rfl (I5 ?_)); rintro g
 refine BD ?_
 exact An (.tmp rfl) (fun w h => As g rfl [0] rfl h DK) rfl
theorem Ml {p : Nat} : AA Tryz.prog 71 #[.pointer (some ⟨p, 0, none⟩)] [] (fun (g : Nat) => .func (.func 117) #[] #[.pointer (some ⟨g, 0, none⟩)]) (fun (g : Nat) => [cell g 29 #[.pointer (some ⟨p, 0, none⟩)]]) := by
 refine AP (args := [.pointer (some ⟨p, 0, none⟩)]) 4 Tryz.func71 rfl rfl rfl ?_; intro w rs
 refine Al (Am Ac rfl (I5 ?_)); rintro g
 refine BD ?_
 exact An (.tmp rfl) (fun w h => As g rfl [0] rfl h DK) rfl
theorem A7 {P : Program} {B : Nat → Prop} {w0 w : World} {os : List Ass} {env : List (Nat × Value)} {o : Oper} {act : Act} {e t : TypeId} {k : Nat} {α : Type} {enc : α → List Value} {v : Value} {l : List α} (i : Nat) {m : Nat} (hm : l.length = m) (hu : P.underlying t = some (.slice e)) (hi : os[i]? = some (Af e k enc v l)) {x : Operand} (ho : o.op = .call { callee := .builtin .len, args := #[x], argTypes := #[t] }) (hx : evs env x = some v) (hH : Hp B w0 w os) (hF : Fr n act env) : (execOp act.eval o).run P w = .ok (.value (.int .i64 (m : Int))) w := hm ▸ CM i hu hi ho hx hH hF
theorem UV (k : Fn) (caps : Array Value) (g p dk lim : Nat) (sv : Value) (tb : Tb) (R : Nat → List SegV → Ass) (hd : d.fit) (hfs : ∀ f, f ∈ fs → f ≤ 72057594037927935) (hl : fs.length ≤ 1000000) (hN : fs.length = N) (hyy : ∀ (j f : Nat) (bv : Value) (b : List UInt8), fs[j]? = some f → (BH d (nameL f)).getD [] = b → CB Tryz.prog (.func k #[] caps) [AN sv (j * 2), bv] [EF p dk lim sv d tb fs (R j), Af 5 1 encB bv b] (fun _ : Unit => .bool true) (fun _ : Unit => [EF p dk lim sv d tb fs (R (j + 1))])) : AA Tryz.prog 117 #[.func k #[] caps, .pointer (some ⟨g, 0, none⟩)] [EF p dk lim sv d tb fs (R 0), cell g 29 #[.pointer (some ⟨p, 0, none⟩)]] (fun (_ : Unit) => .tuple #[]) (fun (_ : Unit) => [EF p dk lim sv d tb fs (R N), cell g 29 #[.pointer (some ⟨p, 0, none⟩)]]) := by
  refine AP (args := [.func k #[] caps, .pointer (some ⟨g, 0, none⟩)]) 40 Tryz.func117 rfl rfl rfl ?_; intro w rs
  refine oC 0 EF.open_ ?_; rintro svs
  refine AH.fact 5 rfl (fun _ h => h.2) ?_; rintro hfc0
  refine lC [5] ?_
  have hsl0 := HG hfc0
  have hsl0' := hsl0
  refine AV ?_
  refine Aa rfl (.int .i64 (fs.length : Int)) (fun b w hb hH => A7 1 hsl0 Tryz.underlying74 rfl rfl rfl hH hb) (Aq ?_)
  refine cC [0, 1, 2, 3, 4] (FI hfc0) ?_
  refine BT (α := Nat) (fun j => [(0, .func k #[] caps), (1, .pointer (some ⟨g, 0, none⟩)), (11, .int .i64 (fs.length : Int)), (12, .int .i64 (j : Int))]) (fun j => [EF p dk lim sv d tb fs (R j), cell g 29 #[.pointer (some ⟨p, 0, none⟩)]]) (fun j => j ≤ N) (fun j => N - j) 0 (Nat.zero_le _) ⟨rfl, rfl, rfl, rfl, trivial⟩ rfl ?_
  rintro j hI
  refine AH.at_ (env' := [(0, .func k #[] caps), (1, .pointer (some ⟨g, 0, none⟩)), (11, .int .i64 (fs.length : Int)), (12, .int .i64 (j : Int))]) (rs' := [EF p dk lim sv d tb fs (R j), cell g 29 #[.pointer (some ⟨p, 0, none⟩)]]) ⟨rfl, rfl, rfl, rfl, trivial⟩ rfl ?_
  rcases Nat.lt_or_ge j N with hjN | hjN
  have hlt : j < fs.length := by omega
  obtain ⟨f, hf⟩ : ∃ f, fs[j]? = some f := ⟨_, List.getElem?_eq_getElem hlt⟩
  obtain ⟨b, hb_⟩ : ∃ b, (BH d (nameL f)).getD [] = b := ⟨_, rfl⟩
  obtain ⟨ok, hok⟩ : ∃ ok, (BH d (nameL f)).isSome = ok := ⟨_, rfl⟩
  have hfb := hfs f (List.mem_of_getElem? hf)
  refine M2 ?_
  refine oC 0 EF.open_ ?_; rintro svs
  refine AH.fact 5 rfl (fun _ h => h.2) ?_; rintro hfc
  refine lC [5] ?_
  obtain ⟨x, hx, hxf⟩ := NZ hfc hf
  have hsl := HG hfc
  refine AV ?_
  refine Am Ac rfl (Aa rfl (AN sv (j * 2)) (fun b w hb hH => Ez 1 Bg CI rfl j (by omega) rfl rfl rfl hH hb) (Aq ?_))
  refine Ey 1 rfl ?_
  refine Bk 14 2 [⟨.quiet, [none, none], fun _ => .pointer (some ⟨p, 0, none⟩), []⟩, ⟨.quiet, [none, none], fun _ => .pointer (some ⟨p, 0, none⟩), [0]⟩, ⟨.quiet, [none, none], fun _ => .pointer (some ⟨p, 0, none⟩), [1]⟩, ⟨.quiet, [none, none], fun _ => .pointer (some ⟨dk, 0, none⟩), [2]⟩, ⟨.quiet, [none, none], fun _ => AN sv (j * 2), []⟩, ⟨.quiet, [none, none], fun _ => AN sv (j * 2), [4]⟩, ⟨.quiet, [none, none], fun _ => AN sv (j * 2 + 0), [5]⟩, ⟨.quiet, [none, none], fun _ => .int .u64 (x.f : Int), [6]⟩, ⟨.actv 0, [some false, some false], fun _ => .string (bs (nameL x.f)), [7]⟩, ⟨.act 1, [some true, some false], fun _ => undef, [3, 8]⟩, ⟨.quiet, [some true, some true], fun ρ => match ρ with | [_, some rv] => rv | _ => undef, [9]⟩, ⟨.quiet, [some true, some true], fun ρ => match ρ with | [_, some rv] => (Cd rv 0) | _ => undef, [10]⟩, ⟨.quiet, [some true, some true], fun ρ => match ρ with | [_, some rv] => (Cd rv 1) | _ => undef, [10]⟩, ⟨.quiet, [some true, some true], fun ρ => match ρ with | [_, some rv] => (Cd rv 0) | _ => undef, [11]⟩] [(0, .func k #[] caps), (1, .pointer (some ⟨g, 0, none⟩)), (11, .int .i64 (fs.length : Int)), (12, .int .i64 (j : Int)), (13, .bool true), (14, .int .i64 (j : Int)), (3, .int .i64 (j : Int)), (15, .pointer (some ⟨p, 0, none⟩)), (16, .pointer (some ⟨p, 0, none⟩)), (17, .pointer (some ⟨p, 2, none⟩)), (18, sv), (19, .int .i64 (j : Int)), (20, AN sv (j * 2)), (4, AN sv (j * 2))] (fun ρ => match ρ with | [r0, r1] => [Dm r1 (fun rv => FJ rv b ok) (emp), cell p 76 #[.pointer (some ⟨dk, 0, none⟩), .int .i64 (lim : Int), sv], Af 83 2 encSg sv svs, Ab dk d, Aj tb, R j svs, cell g 29 #[.pointer (some ⟨p, 0, none⟩)]] | _ => []) (by kernel_rfl) (by kernel_rfl) ⟨rfl, rfl, rfl, rfl, rfl, rfl, rfl, rfl, rfl, rfl, rfl, rfl, rfl, rfl, trivial⟩ rfl ?_ ?_
  refine BD ?_
  refine Ad (by intro r0_ r1_; exact ⟨rfl, fun b w hH hb => A6 2 rfl (j := j) (List.getElem?_eq_some_iff.1 hx).1 rfl rfl hH hb⟩) ?_
  refine Aq ?_
  refine Ad (by exact ⟨rfl, AR.su (AM (os' := fun _ => [emp, cell p 76 #[.pointer (some ⟨dk, 0, none⟩), .int .i64 (lim : Int), sv], Af 83 2 encSg sv svs, Ab dk d, Aj tb, R j svs, cell g 29 #[.pointer (some ⟨p, 0, none⟩)]]) [4] 0 (Ah Tryz.func29 (by kernel_rfl) rfl) (Cn tb (n := x.f) (by omega)) rfl rfl rfl (fun _ => rfl) rfl rfl rfl) rfl⟩) (Ad (by intro v0_; exact ⟨rfl, AR.s (AM (os' := fun rv => [FJ rv b ok, cell p 76 #[.pointer (some ⟨dk, 0, none⟩), .int .i64 (lim : Int), sv], Af 83 2 encSg sv svs, Ab dk d, Aj tb, R j svs, cell g 29 #[.pointer (some ⟨p, 0, none⟩)]]) [3, 0] 1 (Ah Tryz.func95 (by kernel_rfl) rfl) (EG hd (by rw [hxf]; exact hok) (by rw [hxf]; exact hb_)) rfl rfl rfl (fun _ => rfl) rfl rfl rfl) (fun _ => rfl)⟩) (Ai ?_))
  refine Ad (by intro v0_ rv; exact ⟨rfl, fun b w hH hb => GL 0 (by decide) rfl rfl rfl hH hb⟩) (Ad (by intro v0_ rv; exact ⟨rfl, fun b w hH hb => GL 0 (by decide) rfl rfl rfl hH hb⟩) (Ai ?_))
  exact Bv
  intro v0_ rv
  refine A5.keep (env' := [(0, .func k #[] caps), (1, .pointer (some ⟨g, 0, none⟩)), (11, .int .i64 (fs.length : Int)), (12, .int .i64 (j : Int)), (13, .bool true), (14, .int .i64 (j : Int)), (3, .int .i64 (j : Int)), (15, .pointer (some ⟨p, 0, none⟩)), (16, .pointer (some ⟨p, 0, none⟩)), (17, .pointer (some ⟨p, 2, none⟩)), (18, sv), (19, .int .i64 (j : Int)), (20, AN sv (j * 2)), (4, AN sv (j * 2)), (22, .pointer (some ⟨p, 0, none⟩)), (23, .pointer (some ⟨p, 0, none⟩)), (24, .pointer (some ⟨p, 0, none⟩)), (25, .pointer (some ⟨dk, 0, none⟩)), (26, AN sv (j * 2)), (27, AN sv (j * 2)), (28, AN sv (j * 2 + 0)), (29, .int .u64 (x.f : Int)), (30, .string (bs (nameL x.f))), (31, rv), (21, rv), (32, (Cd rv 0)), (33, (Cd rv 1)), (5, (Cd rv 0))]) ⟨rfl, rfl, rfl, rfl, rfl, rfl, rfl, rfl, rfl, rfl, rfl, rfl, rfl, rfl, rfl, rfl, rfl, rfl, rfl, rfl, rfl, rfl, rfl, rfl, rfl, rfl, rfl, rfl, trivial⟩ (Fo 0 rfl FJ.open_ (fun _ => rfl) ?_); rintro ⟨bv, rfl⟩
  refine kL [0, 1, 11, 12, 13, 14, 3, 15, 16, 17, 18, 19, 20, 4, 22, 23, 24, 25, 26, 27, 28, 29, 30, 31, 21, 32, 33, 5] ?_
  refine A5.mid [Af 5 1 encB bv b, cell p 76 #[.pointer (some ⟨dk, 0, none⟩), .int .i64 (lim : Int), sv], Af 83 2 encSg sv svs, Ab dk d, Aj tb, R j svs, cell g 29 #[.pointer (some ⟨p, 0, none⟩)]] (.refl _) (Ai ?_)
  refine cC [1, 2, 3, 4, 5] (FI hfc) ?_
  refine Bu (Kp (KM GS 3 (by rintro ⟨a, w, h⟩; first | exact h.elim | exact nomatch h.1 | (obtain ⟨_, h, _⟩ := h; exact nomatch h)) (by kernel_rfl) (Am Ac rfl (Pd (FF (X := Unit) (post := fun _ => [EF p dk lim sv d tb fs (R (j + 1))]) (os' := fun _ => [EF p dk lim sv d tb fs (R (j + 1)), cell g 29 #[.pointer (some ⟨p, 0, none⟩)]]) GS [0, 1] (hyy j f bv b hf hb_) rfl rfl rfl rfl rfl rfl (fun _ => rfl) ?_))))); rintro ⟨⟩
  refine EE GS (by rintro ⟨a, w, h⟩; first | exact h.elim | exact nomatch h.1 | (obtain ⟨_, h, _⟩ := h; exact nomatch h)) (by kernel_rfl) (Ce ?_)
  refine Am Ac rfl (Aa rfl (.int .i64 ((j + 1 : Nat) : Int)) (fun b w hb hH => Ay rfl rfl rfl rfl (by rw [IntWalk.i64_in _ (by omega)]; omega) hb) (Ai ?_))
  exact Br (j + 1) 0 (by omega) (show N - (j + 1) < N - j by omega) ⟨rfl, rfl, rfl, rfl, trivial⟩ rfl
  obtain rfl : j = N := by omega
  refine BD ?_
  refine B2 (AK ?_)
  exact Dv  (fun w h => As () rfl [0, 1] rfl h DK) rfl
theorem Wp (k : Fn) (caps : Array Value) (g p dk lim : Nat) (sv : Value) (tb : Tb) (R : Nat → List SegV → Ass) (Z : Ass) (hd : d.fit) (hfs : ∀ f, f ∈ fs → f ≤ 72057594037927935) (hl : fs.length ≤ 1000000) (hN : N < fs.length) (hyy : ∀ (j f : Nat) (bv : Value) (b : List UInt8), fs[j]? = some f → (BH d (nameL f)).getD [] = b → j < N → CB Tryz.prog (.func k #[] caps) [AN sv (j * 2), bv] [EF p dk lim sv d tb fs (R j), Af 5 1 encB bv b] (fun _ : Unit => .bool true) (fun _ : Unit => [EF p dk lim sv d tb fs (R (j + 1))])) (hzz : ∀ (j f : Nat) (bv : Value) (b : List UInt8), fs[j]? = some f → (BH d (nameL f)).getD [] = b → j = N → CB Tryz.prog (.func k #[] caps) [AN sv (j * 2), bv] [EF p dk lim sv d tb fs (R j), Af 5 1 encB bv b] (fun _ : Unit => .bool false) (fun _ : Unit => [Z])) : AA Tryz.prog 117 #[.func k #[] caps, .pointer (some ⟨g, 0, none⟩)] [EF p dk lim sv d tb fs (R 0), cell g 29 #[.pointer (some ⟨p, 0, none⟩)]] (fun (_ : Unit) => .tuple #[]) (fun (_ : Unit) => [Z, cell g 29 #[.pointer (some ⟨p, 0, none⟩)]]) := by
  refine AP (args := [.func k #[] caps, .pointer (some ⟨g, 0, none⟩)]) 40 Tryz.func117 rfl rfl rfl ?_; intro w rs
  refine oC 0 EF.open_ ?_; rintro svs
  refine AH.fact 5 rfl (fun _ h => h.2) ?_; rintro hfc0
  refine lC [5] ?_
  have hsl0 := HG hfc0
  have hsl0' := hsl0
  refine AV ?_
  refine Aa rfl (.int .i64 (fs.length : Int)) (fun b w hb hH => A7 1 hsl0 Tryz.underlying74 rfl rfl rfl hH hb) (Aq ?_)
  refine cC [0, 1, 2, 3, 4] (FI hfc0) ?_
  refine BT (α := Nat) (fun j => [(0, .func k #[] caps), (1, .pointer (some ⟨g, 0, none⟩)), (11, .int .i64 (fs.length : Int)), (12, .int .i64 (j : Int))]) (fun j => [EF p dk lim sv d tb fs (R j), cell g 29 #[.pointer (some ⟨p, 0, none⟩)]]) (fun j => j ≤ N) (fun j => N + 1 - j) 0 (Nat.zero_le _) ⟨rfl, rfl, rfl, rfl, trivial⟩ rfl ?_
  rintro j hI
  refine AH.at_ (env' := [(0, .func k #[] caps), (1, .pointer (some ⟨g, 0, none⟩)), (11, .int .i64 (fs.length : Int)), (12, .int .i64 (j : Int))]) (rs' := [EF p dk lim sv d tb fs (R j), cell g 29 #[.pointer (some ⟨p, 0, none⟩)]]) ⟨rfl, rfl, rfl, rfl, trivial⟩ rfl ?_
  have hlt : j < fs.length := by omega
  rcases Nat.lt_or_ge j N with hjN | hjN
  obtain ⟨f, hf⟩ : ∃ f, fs[j]? = some f := ⟨_, List.getElem?_eq_getElem hlt⟩
  obtain ⟨b, hb_⟩ : ∃ b, (BH d (nameL f)).getD [] = b := ⟨_, rfl⟩
  obtain ⟨ok, hok⟩ : ∃ ok, (BH d (nameL f)).isSome = ok := ⟨_, rfl⟩
  have hfb := hfs f (List.mem_of_getElem? hf)
  refine M2 ?_
  refine oC 0 EF.open_ ?_; rintro svs
  refine AH.fact 5 rfl (fun _ h => h.2) ?_; rintro hfc
  refine lC [5] ?_
  obtain ⟨x, hx, hxf⟩ := NZ hfc hf
  have hsl := HG hfc
  refine AV ?_
  refine Am Ac rfl (Aa rfl (AN sv (j * 2)) (fun b w hb hH => Ez 1 Bg CI rfl j (by omega) rfl rfl rfl hH hb) (Aq ?_))
  refine Ey 1 rfl ?_
  refine Bk 14 2 [⟨.quiet, [none, none], fun _ => .pointer (some ⟨p, 0, none⟩), []⟩, ⟨.quiet, [none, none], fun _ => .pointer (some ⟨p, 0, none⟩), [0]⟩, ⟨.quiet, [none, none], fun _ => .pointer (some ⟨p, 0, none⟩), [1]⟩, ⟨.quiet, [none, none], fun _ => .pointer (some ⟨dk, 0, none⟩), [2]⟩, ⟨.quiet, [none, none], fun _ => AN sv (j * 2), []⟩, ⟨.quiet, [none, none], fun _ => AN sv (j * 2), [4]⟩, ⟨.quiet, [none, none], fun _ => AN sv (j * 2 + 0), [5]⟩, ⟨.quiet, [none, none], fun _ => .int .u64 (x.f : Int), [6]⟩, ⟨.actv 0, [some false, some false], fun _ => .string (bs (nameL x.f)), [7]⟩, ⟨.act 1, [some true, some false], fun _ => undef, [3, 8]⟩, ⟨.quiet, [some true, some true], fun ρ => match ρ with | [_, some rv] => rv | _ => undef, [9]⟩, ⟨.quiet, [some true, some true], fun ρ => match ρ with | [_, some rv] => (Cd rv 0) | _ => undef, [10]⟩, ⟨.quiet, [some true, some true], fun ρ => match ρ with | [_, some rv] => (Cd rv 1) | _ => undef, [10]⟩, ⟨.quiet, [some true, some true], fun ρ => match ρ with | [_, some rv] => (Cd rv 0) | _ => undef, [11]⟩] [(0, .func k #[] caps), (1, .pointer (some ⟨g, 0, none⟩)), (11, .int .i64 (fs.length : Int)), (12, .int .i64 (j : Int)), (13, .bool true), (14, .int .i64 (j : Int)), (3, .int .i64 (j : Int)), (15, .pointer (some ⟨p, 0, none⟩)), (16, .pointer (some ⟨p, 0, none⟩)), (17, .pointer (some ⟨p, 2, none⟩)), (18, sv), (19, .int .i64 (j : Int)), (20, AN sv (j * 2)), (4, AN sv (j * 2))] (fun ρ => match ρ with | [r0, r1] => [Dm r1 (fun rv => FJ rv b ok) (emp), cell p 76 #[.pointer (some ⟨dk, 0, none⟩), .int .i64 (lim : Int), sv], Af 83 2 encSg sv svs, Ab dk d, Aj tb, R j svs, cell g 29 #[.pointer (some ⟨p, 0, none⟩)]] | _ => []) (by kernel_rfl) (by kernel_rfl) ⟨rfl, rfl, rfl, rfl, rfl, rfl, rfl, rfl, rfl, rfl, rfl, rfl, rfl, rfl, trivial⟩ rfl ?_ ?_
  refine BD ?_
  refine Ad (by intro r0_ r1_; exact ⟨rfl, fun b w hH hb => A6 2 rfl (j := j) (List.getElem?_eq_some_iff.1 hx).1 rfl rfl hH hb⟩) ?_
  refine Aq ?_
  refine Ad (by exact ⟨rfl, AR.su (AM (os' := fun _ => [emp, cell p 76 #[.pointer (some ⟨dk, 0, none⟩), .int .i64 (lim : Int), sv], Af 83 2 encSg sv svs, Ab dk d, Aj tb, R j svs, cell g 29 #[.pointer (some ⟨p, 0, none⟩)]]) [4] 0 (Ah Tryz.func29 (by kernel_rfl) rfl) (Cn tb (n := x.f) (by omega)) rfl rfl rfl (fun _ => rfl) rfl rfl rfl) rfl⟩) (Ad (by intro v0_; exact ⟨rfl, AR.s (AM (os' := fun rv => [FJ rv b ok, cell p 76 #[.pointer (some ⟨dk, 0, none⟩), .int .i64 (lim : Int), sv], Af 83 2 encSg sv svs, Ab dk d, Aj tb, R j svs, cell g 29 #[.pointer (some ⟨p, 0, none⟩)]]) [3, 0] 1 (Ah Tryz.func95 (by kernel_rfl) rfl) (EG hd (by rw [hxf]; exact hok) (by rw [hxf]; exact hb_)) rfl rfl rfl (fun _ => rfl) rfl rfl rfl) (fun _ => rfl)⟩) (Ai ?_))
  refine Ad (by intro v0_ rv; exact ⟨rfl, fun b w hH hb => GL 0 (by decide) rfl rfl rfl hH hb⟩) (Ad (by intro v0_ rv; exact ⟨rfl, fun b w hH hb => GL 0 (by decide) rfl rfl rfl hH hb⟩) (Ai ?_))
  exact Bv
  intro v0_ rv
  refine A5.keep (env' := [(0, .func k #[] caps), (1, .pointer (some ⟨g, 0, none⟩)), (11, .int .i64 (fs.length : Int)), (12, .int .i64 (j : Int)), (13, .bool true), (14, .int .i64 (j : Int)), (3, .int .i64 (j : Int)), (15, .pointer (some ⟨p, 0, none⟩)), (16, .pointer (some ⟨p, 0, none⟩)), (17, .pointer (some ⟨p, 2, none⟩)), (18, sv), (19, .int .i64 (j : Int)), (20, AN sv (j * 2)), (4, AN sv (j * 2)), (22, .pointer (some ⟨p, 0, none⟩)), (23, .pointer (some ⟨p, 0, none⟩)), (24, .pointer (some ⟨p, 0, none⟩)), (25, .pointer (some ⟨dk, 0, none⟩)), (26, AN sv (j * 2)), (27, AN sv (j * 2)), (28, AN sv (j * 2 + 0)), (29, .int .u64 (x.f : Int)), (30, .string (bs (nameL x.f))), (31, rv), (21, rv), (32, (Cd rv 0)), (33, (Cd rv 1)), (5, (Cd rv 0))]) ⟨rfl, rfl, rfl, rfl, rfl, rfl, rfl, rfl, rfl, rfl, rfl, rfl, rfl, rfl, rfl, rfl, rfl, rfl, rfl, rfl, rfl, rfl, rfl, rfl, rfl, rfl, rfl, rfl, trivial⟩ (Fo 0 rfl FJ.open_ (fun _ => rfl) ?_); rintro ⟨bv, rfl⟩
  refine kL [0, 1, 11, 12, 13, 14, 3, 15, 16, 17, 18, 19, 20, 4, 22, 23, 24, 25, 26, 27, 28, 29, 30, 31, 21, 32, 33, 5] ?_
  refine A5.mid [Af 5 1 encB bv b, cell p 76 #[.pointer (some ⟨dk, 0, none⟩), .int .i64 (lim : Int), sv], Af 83 2 encSg sv svs, Ab dk d, Aj tb, R j svs, cell g 29 #[.pointer (some ⟨p, 0, none⟩)]] (.refl _) (Ai ?_)
  refine cC [1, 2, 3, 4, 5] (FI hfc) ?_
  refine Bu (Kp (KM GS 3 (by rintro ⟨a, w, h⟩; first | exact h.elim | exact nomatch h.1 | (obtain ⟨_, h, _⟩ := h; exact nomatch h)) (by kernel_rfl) (Am Ac rfl (Pd (FF (X := Unit) (post := fun _ => [EF p dk lim sv d tb fs (R (j + 1))]) (os' := fun _ => [EF p dk lim sv d tb fs (R (j + 1)), cell g 29 #[.pointer (some ⟨p, 0, none⟩)]]) GS [0, 1] (hyy j f bv b hf hb_ hjN) rfl rfl rfl rfl rfl rfl (fun _ => rfl) ?_))))); rintro ⟨⟩
  refine EE GS (by rintro ⟨a, w, h⟩; first | exact h.elim | exact nomatch h.1 | (obtain ⟨_, h, _⟩ := h; exact nomatch h)) (by kernel_rfl) (Ce ?_)
  refine Am Ac rfl (Aa rfl (.int .i64 ((j + 1 : Nat) : Int)) (fun b w hb hH => Ay rfl rfl rfl rfl (by rw [IntWalk.i64_in _ (by omega)]; omega) hb) (Ai ?_))
  exact Br (j + 1) 0 (by omega) (show N + 1 - (j + 1) < N + 1 - j by omega) ⟨rfl, rfl, rfl, rfl, trivial⟩ rfl
  obtain rfl : j = N := by omega
  obtain ⟨f, hf⟩ : ∃ f, fs[j]? = some f := ⟨_, List.getElem?_eq_getElem hlt⟩
  obtain ⟨b, hb_⟩ : ∃ b, (BH d (nameL f)).getD [] = b := ⟨_, rfl⟩
  obtain ⟨ok, hok⟩ : ∃ ok, (BH d (nameL f)).isSome = ok := ⟨_, rfl⟩
  have hfb := hfs f (List.mem_of_getElem? hf)
  refine M2 ?_
  refine oC 0 EF.open_ ?_; rintro svs
  refine AH.fact 5 rfl (fun _ h => h.2) ?_; rintro hfc
  refine lC [5] ?_
  obtain ⟨x, hx, hxf⟩ := NZ hfc hf
  have hsl := HG hfc
  refine AV ?_
  refine Am Ac rfl (Aa rfl (AN sv (j * 2)) (fun b w hb hH => Ez 1 Bg CI rfl j (by omega) rfl rfl rfl hH hb) (Aq ?_))
  refine Ey 1 rfl ?_
  refine Bk 14 2 [⟨.quiet, [none, none], fun _ => .pointer (some ⟨p, 0, none⟩), []⟩, ⟨.quiet, [none, none], fun _ => .pointer (some ⟨p, 0, none⟩), [0]⟩, ⟨.quiet, [none, none], fun _ => .pointer (some ⟨p, 0, none⟩), [1]⟩, ⟨.quiet, [none, none], fun _ => .pointer (some ⟨dk, 0, none⟩), [2]⟩, ⟨.quiet, [none, none], fun _ => AN sv (j * 2), []⟩, ⟨.quiet, [none, none], fun _ => AN sv (j * 2), [4]⟩, ⟨.quiet, [none, none], fun _ => AN sv (j * 2 + 0), [5]⟩, ⟨.quiet, [none, none], fun _ => .int .u64 (x.f : Int), [6]⟩, ⟨.actv 0, [some false, some false], fun _ => .string (bs (nameL x.f)), [7]⟩, ⟨.act 1, [some true, some false], fun _ => undef, [3, 8]⟩, ⟨.quiet, [some true, some true], fun ρ => match ρ with | [_, some rv] => rv | _ => undef, [9]⟩, ⟨.quiet, [some true, some true], fun ρ => match ρ with | [_, some rv] => (Cd rv 0) | _ => undef, [10]⟩, ⟨.quiet, [some true, some true], fun ρ => match ρ with | [_, some rv] => (Cd rv 1) | _ => undef, [10]⟩, ⟨.quiet, [some true, some true], fun ρ => match ρ with | [_, some rv] => (Cd rv 0) | _ => undef, [11]⟩] [(0, .func k #[] caps), (1, .pointer (some ⟨g, 0, none⟩)), (11, .int .i64 (fs.length : Int)), (12, .int .i64 (j : Int)), (13, .bool true), (14, .int .i64 (j : Int)), (3, .int .i64 (j : Int)), (15, .pointer (some ⟨p, 0, none⟩)), (16, .pointer (some ⟨p, 0, none⟩)), (17, .pointer (some ⟨p, 2, none⟩)), (18, sv), (19, .int .i64 (j : Int)), (20, AN sv (j * 2)), (4, AN sv (j * 2))] (fun ρ => match ρ with | [r0, r1] => [Dm r1 (fun rv => FJ rv b ok) (emp), cell p 76 #[.pointer (some ⟨dk, 0, none⟩), .int .i64 (lim : Int), sv], Af 83 2 encSg sv svs, Ab dk d, Aj tb, R j svs, cell g 29 #[.pointer (some ⟨p, 0, none⟩)]] | _ => []) (by kernel_rfl) (by kernel_rfl) ⟨rfl, rfl, rfl, rfl, rfl, rfl, rfl, rfl, rfl, rfl, rfl, rfl, rfl, rfl, trivial⟩ rfl ?_ ?_
  refine BD ?_
  refine Ad (by intro r0_ r1_; exact ⟨rfl, fun b w hH hb => A6 2 rfl (j := j) (List.getElem?_eq_some_iff.1 hx).1 rfl rfl hH hb⟩) ?_
  refine Aq ?_
  refine Ad (by exact ⟨rfl, AR.su (AM (os' := fun _ => [emp, cell p 76 #[.pointer (some ⟨dk, 0, none⟩), .int .i64 (lim : Int), sv], Af 83 2 encSg sv svs, Ab dk d, Aj tb, R j svs, cell g 29 #[.pointer (some ⟨p, 0, none⟩)]]) [4] 0 (Ah Tryz.func29 (by kernel_rfl) rfl) (Cn tb (n := x.f) (by omega)) rfl rfl rfl (fun _ => rfl) rfl rfl rfl) rfl⟩) (Ad (by intro v0_; exact ⟨rfl, AR.s (AM (os' := fun rv => [FJ rv b ok, cell p 76 #[.pointer (some ⟨dk, 0, none⟩), .int .i64 (lim : Int), sv], Af 83 2 encSg sv svs, Ab dk d, Aj tb, R j svs, cell g 29 #[.pointer (some ⟨p, 0, none⟩)]]) [3, 0] 1 (Ah Tryz.func95 (by kernel_rfl) rfl) (EG hd (by rw [hxf]; exact hok) (by rw [hxf]; exact hb_)) rfl rfl rfl (fun _ => rfl) rfl rfl rfl) (fun _ => rfl)⟩) (Ai ?_))
  refine Ad (by intro v0_ rv; exact ⟨rfl, fun b w hH hb => GL 0 (by decide) rfl rfl rfl hH hb⟩) (Ad (by intro v0_ rv; exact ⟨rfl, fun b w hH hb => GL 0 (by decide) rfl rfl rfl hH hb⟩) (Ai ?_))
  exact Bv
  intro v0_ rv
  refine A5.keep (env' := [(0, .func k #[] caps), (1, .pointer (some ⟨g, 0, none⟩)), (11, .int .i64 (fs.length : Int)), (12, .int .i64 (j : Int)), (13, .bool true), (14, .int .i64 (j : Int)), (3, .int .i64 (j : Int)), (15, .pointer (some ⟨p, 0, none⟩)), (16, .pointer (some ⟨p, 0, none⟩)), (17, .pointer (some ⟨p, 2, none⟩)), (18, sv), (19, .int .i64 (j : Int)), (20, AN sv (j * 2)), (4, AN sv (j * 2)), (22, .pointer (some ⟨p, 0, none⟩)), (23, .pointer (some ⟨p, 0, none⟩)), (24, .pointer (some ⟨p, 0, none⟩)), (25, .pointer (some ⟨dk, 0, none⟩)), (26, AN sv (j * 2)), (27, AN sv (j * 2)), (28, AN sv (j * 2 + 0)), (29, .int .u64 (x.f : Int)), (30, .string (bs (nameL x.f))), (31, rv), (21, rv), (32, (Cd rv 0)), (33, (Cd rv 1)), (5, (Cd rv 0))]) ⟨rfl, rfl, rfl, rfl, rfl, rfl, rfl, rfl, rfl, rfl, rfl, rfl, rfl, rfl, rfl, rfl, rfl, rfl, rfl, rfl, rfl, rfl, rfl, rfl, rfl, rfl, rfl, rfl, trivial⟩ (Fo 0 rfl FJ.open_ (fun _ => rfl) ?_); rintro ⟨bv, rfl⟩
  refine kL [0, 1, 11, 12, 13, 14, 3, 15, 16, 17, 18, 19, 20, 4, 22, 23, 24, 25, 26, 27, 28, 29, 30, 31, 21, 32, 33, 5] ?_
  refine A5.mid [Af 5 1 encB bv b, cell p 76 #[.pointer (some ⟨dk, 0, none⟩), .int .i64 (lim : Int), sv], Af 83 2 encSg sv svs, Ab dk d, Aj tb, R j svs, cell g 29 #[.pointer (some ⟨p, 0, none⟩)]] (.refl _) (Ai ?_)
  refine cC [1, 2, 3, 4, 5] (FI hfc) ?_
  refine Bu (Kp (KM GS 3 (by rintro ⟨a, w, h⟩; first | exact h.elim | exact nomatch h.1 | (obtain ⟨_, h, _⟩ := h; exact nomatch h)) (by kernel_rfl) (Am Ac rfl (Pd (FF (X := Unit) (post := fun _ => [Z]) (os' := fun _ => [Z, cell g 29 #[.pointer (some ⟨p, 0, none⟩)]]) GS [0, 1] (hzz j f bv b hf hb_ rfl) rfl rfl rfl rfl rfl rfl (fun _ => rfl) ?_))))); rintro ⟨⟩
  refine EE GS (by rintro ⟨a, w, h⟩; first | exact h.elim | exact nomatch h.1 | (obtain ⟨_, h, _⟩ := h; exact nomatch h)) (by kernel_rfl) (Dc ?_)
  exact JQ  (fun w h => As () rfl [0, 1] rfl h DK) rfl
end Go.Proofs.YtjcfimmcogkopaaGreatDoor.Sep
