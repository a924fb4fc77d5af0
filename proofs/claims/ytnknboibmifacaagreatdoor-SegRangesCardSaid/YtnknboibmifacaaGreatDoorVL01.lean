/-
  SgS · SgF · SgL
-/
import Derived.Test.YtnknboibmifacaaGreatDoorVF01
import Derived.Test.YtnknboibmifacaaGreatDoorVI01
import Derived.Test.YtnknboibmifacaaGreatDoorVJ02
import Derived.Test.YtnknboibmifacaaGreatDoorVK02
set_option linter.unusedSimpArgs false
set_option linter.unusedVariables false
set_option maxRecDepth 100000
namespace Go.Proofs.YtnknboibmifacaaGreatDoor.Sep
open Go.RowKit
open Go.Proofs.YtnknboibmifacaaGreatDoor.Mem (AR B3 Chg Av)
def encMk (m : Int × Nat) : List Value := [.int .u64 m.1, .int .i64 (m.2 : Int)]
theorem Fd : EncOf 2 encMk := ⟨fun _ => rfl, fun x v h => by unfold encMk at h; simp at h; rcases h with rfl | rfl <;> rfl⟩
structure SegV where
  f : Nat
  l : List (Int × Nat)
  A : Option Addr
  c : Nat
def SegV.v (x : SegV) : Value := .slice x.A x.l.length x.c
def SegV.m (x : SegV) : Nat × List (Int × Nat) := (x.f, x.l)
def encSg (x : SegV) : List Value := [.int .u64 (x.f : Int), x.v]
theorem AT : EncOf 2 encSg := ⟨fun _ => rfl, fun x v h => by unfold encSg SegV.v at h; simp at h; rcases h with rfl | rfl <;> rfl⟩
def Bd (svs : List SegV) : Ass := Bb (fun x : SegV => Ak 104 2 encMk x.v x.l) svs
abbrev SegsM := List (Nat × List (Int × Nat))
def AA (p dk lim : Nat) (ss : SegsM) : Ass := fun rs => ∃ (sv : Value) (svs : List SegV), Al [cell p 87 #[.pointer (some ⟨dk, 0, none⟩), .int .i64 (lim : Int), sv], Ak 92 2 encSg sv svs, Bd svs, fact (svs.map SegV.m = ss)] rs
theorem AA.open_ {p dk lim : Nat} {ss : SegsM} : ∀ rs, AA p dk lim ss rs → ∃ x : Value × List SegV, Al [cell p 87 #[.pointer (some ⟨dk, 0, none⟩), .int .i64 (lim : Int), x.1], Ak 92 2 encSg x.1 x.2, Bd x.2, fact (x.2.map SegV.m = ss)] rs := fun _ ⟨sv, svs, h⟩ => ⟨(sv, svs), h⟩
theorem Dv {p dk lim : Nat} {ss : SegsM} {sv : Value} {svs : List SegV} (h : svs.map SegV.m = ss) : ∀ rs, Al [cell p 87 #[.pointer (some ⟨dk, 0, none⟩), .int .i64 (lim : Int), sv], Ak 92 2 encSg sv svs, Bd svs] rs → AA p dk lim ss rs := fun _ hz => ⟨sv, svs, DV h hz⟩
def F6 (p dk lim : Nat) (sv : Value) (d : DiskD) (tb : Tb) (fs : List Nat) (R : List SegV → Ass) : Ass := fun rs => ∃ svs : List SegV, Al [cell p 87 #[.pointer (some ⟨dk, 0, none⟩), .int .i64 (lim : Int), sv], Ak 92 2 encSg sv svs, Ag dk d, Ao tb, R svs, fact (svs.map SegV.f = fs)] rs
theorem F6.open_ {p dk lim : Nat} {sv : Value} {d : DiskD} {tb : Tb} {fs : List Nat} {R : List SegV → Ass} : ∀ rs, F6 p dk lim sv d tb fs R rs → ∃ svs : List SegV, Al [cell p 87 #[.pointer (some ⟨dk, 0, none⟩), .int .i64 (lim : Int), sv], Ak 92 2 encSg sv svs, Ag dk d, Ao tb, R svs, fact (svs.map SegV.f = fs)] rs := fun _ h => h
theorem JG {p dk lim : Nat} {sv : Value} {d : DiskD} {tb : Tb} {fs : List Nat} {R : List SegV → Ass} {svs : List SegV} (h : svs.map SegV.f = fs) : ∀ rs, Al [cell p 87 #[.pointer (some ⟨dk, 0, none⟩), .int .i64 (lim : Int), sv], Ak 92 2 encSg sv svs, Ag dk d, Ao tb, R svs] rs → F6 p dk lim sv d tb fs R rs := fun _ hz => ⟨svs, DV h hz⟩
theorem QP {a b c d x f : Ass} {A : List Ass} : ([a, b, c, d, x, f] ++ A).Perm (x :: ([a, b, c, d, f] ++ A)) := List.perm_middle (l₁ := [a, b, c, d]) (l₂ := f :: A)
theorem QQ {p dk lim : Nat} {sv : Value} {d : DiskD} {tb : Tb} {fs : List Nat} {X : List SegV → Ass} {A : List Ass} {L : Nat} {r : Loop} {rs : List RowT} (h : Al (F6 p dk lim sv d tb fs (fun s => EH L r (X s)) :: A) rs) : ∃ rs', rs.Perm rs' ∧ Al (BB L r :: F6 p dk lim sv d tb fs X :: A) rs' := by
 obtain ⟨a, b, e, ⟨svs, h1⟩, h2⟩ := h
 have h3 : Al ([cell p 87 #[.pointer (some ⟨dk, 0, none⟩), .int .i64 (lim : Int), sv], Ak 92 2 encSg sv svs, Ag dk d, Ao tb, EH L r (X svs), fact (svs.map SegV.f = fs)] ++ A) rs := e ▸ h1.app h2
 have h4 : ([cell p 87 #[.pointer (some ⟨dk, 0, none⟩), .int .i64 (lim : Int), sv], Ak 92 2 encSg sv svs, Ag dk d, Ao tb, EH L r (X svs), fact (svs.map SegV.f = fs)] ++ A).Perm (EH L r (X svs) :: ([cell p 87 #[.pointer (some ⟨dk, 0, none⟩), .int .i64 (lim : Int), sv], Ak 92 2 encSg sv svs, Ag dk d, Ao tb, fact (svs.map SegV.f = fs)] ++ A)) := QP
 obtain ⟨rs1, p1, h5⟩ := h3.perm h4
 have h6 := It h5
 have h7 : (BB L r :: X svs :: ([cell p 87 #[.pointer (some ⟨dk, 0, none⟩), .int .i64 (lim : Int), sv], Ak 92 2 encSg sv svs, Ag dk d, Ao tb, fact (svs.map SegV.f = fs)] ++ A)).Perm ([BB L r] ++ ([cell p 87 #[.pointer (some ⟨dk, 0, none⟩), .int .i64 (lim : Int), sv], Ak 92 2 encSg sv svs, Ag dk d, Ao tb, X svs, fact (svs.map SegV.f = fs)] ++ A)) := List.Perm.cons _ QP.symm
 obtain ⟨rs2, p2, h8⟩ := h6.perm h7
 obtain ⟨x, y, e1, h9, h10⟩ := h8.split
 obtain ⟨y1, y2, e2, h11, h12⟩ := h10.split
 refine ⟨rs2, p1.trans p2, ?_⟩
 rw [e1, e2]
 exact ⟨x, y1 ++ y2, rfl, Al.one' h9, y1, y2, rfl, ⟨svs, h11⟩, h12⟩
theorem TG {p dk lim : Nat} {sv : Value} {d : DiskD} {tb : Tb} {fs : List Nat} {X : List SegV → Ass} {A : List Ass} {L : Nat} {r : Loop} {rs : List RowT} (h : Al (BB L r :: F6 p dk lim sv d tb fs X :: A) rs) : ∃ rs', rs.Perm rs' ∧ Al (F6 p dk lim sv d tb fs (fun s => EH L r (X s)) :: A) rs' := by
 obtain ⟨x, y, e1, h9, y1, y2, e2, ⟨svs, h11⟩, h12⟩ := h
 have h8 : Al ([BB L r] ++ ([cell p 87 #[.pointer (some ⟨dk, 0, none⟩), .int .i64 (lim : Int), sv], Ak 92 2 encSg sv svs, Ag dk d, Ao tb, X svs, fact (svs.map SegV.f = fs)] ++ A)) rs := by
  rw [e1, e2]
  exact (Al.one h9).app (h11.app h12)
 have h7 : ([BB L r] ++ ([cell p 87 #[.pointer (some ⟨dk, 0, none⟩), .int .i64 (lim : Int), sv], Ak 92 2 encSg sv svs, Ag dk d, Ao tb, X svs, fact (svs.map SegV.f = fs)] ++ A)).Perm (BB L r :: X svs :: ([cell p 87 #[.pointer (some ⟨dk, 0, none⟩), .int .i64 (lim : Int), sv], Ak 92 2 encSg sv svs, Ag dk d, Ao tb, fact (svs.map SegV.f = fs)] ++ A)) := List.Perm.cons _ QP
 obtain ⟨rs2, p2, h6⟩ := h8.perm h7
 have h5 := JB h6
 have h4 : (EH L r (X svs) :: ([cell p 87 #[.pointer (some ⟨dk, 0, none⟩), .int .i64 (lim : Int), sv], Ak 92 2 encSg sv svs, Ag dk d, Ao tb, fact (svs.map SegV.f = fs)] ++ A)).Perm ([cell p 87 #[.pointer (some ⟨dk, 0, none⟩), .int .i64 (lim : Int), sv], Ak 92 2 encSg sv svs, Ag dk d, Ao tb, EH L r (X svs), fact (svs.map SegV.f = fs)] ++ A) := QP.symm
 obtain ⟨rs3, p3, h3⟩ := h5.perm h4
 obtain ⟨a, b, e, h1, h2⟩ := h3.split
 exact ⟨rs3, p2.trans p3, a, b, e, ⟨svs, h1⟩, h2⟩
theorem VR {P : Program} {F : FuncId} {args : Array Value} {p dk lim : Nat} {sv : Value} {d : DiskD} {tb : Tb} {fs : List Nat} {X Y : List SegV → Ass} {A A' : List Ass} {L : Nat} {r r' : Loop} {v : Value} (h : AP P F args (F6 p dk lim sv d tb fs (fun s => EH L r (X s)) :: A) (fun _ : Unit => v) (fun _ => F6 p dk lim sv d tb fs (fun s => EH L r' (Y s)) :: A')) : AP P F args (BB L r :: F6 p dk lim sv d tb fs X :: A) (fun _ : Unit => v) (fun _ => BB L r' :: F6 p dk lim sv d tb fs Y :: A') := fun w rs h1 h2 h3 => ((h.imp fun _ hz => TG hz) w rs h1 h2 h3).mono fun _ _ ⟨x, he, y, hy, hc⟩ => by
 obtain ⟨z, p1, hz⟩ := QQ hy
 exact ⟨x, he, z, hz, Hm hc p1⟩
theorem VS {P : Program} {f : Value} {vs : List Value} {p dk lim : Nat} {sv : Value} {d : DiskD} {tb : Tb} {fs : List Nat} {X Y : List SegV → Ass} {A A' : List Ass} {L : Nat} {r r' : Loop} {v : Value} (h : CQ P f vs (BB L r :: F6 p dk lim sv d tb fs X :: A) (fun _ : Unit => v) (fun _ => BB L r' :: F6 p dk lim sv d tb fs Y :: A')) : CQ P f vs (F6 p dk lim sv d tb fs (fun s => EH L r (X s)) :: A) (fun _ : Unit => v) (fun _ => F6 p dk lim sv d tb fs (fun s => EH L r' (Y s)) :: A') := fun w rs h1 h2 h3 => ((h.imp fun _ hz => QQ hz) w rs h1 h2 h3).mono fun _ _ ⟨x, he, y, hy, hc⟩ => by
 obtain ⟨z, p1, hz⟩ := TG hy
 exact ⟨x, he, z, hz, Hm hc p1⟩
section
variable {P : Program} {B : Nat → Prop} {w0 w : World} {os : List Ass} {n : Nat} {env : List (Nat × Value)} {o : Oper} {act : Act} {e : TypeId} {k : Nat} {α : Type} {enc : α → List Value} {v : Value} {l : List α}
theorem B0 (i : Nat) (hi : os[i]? = some (Ak e k enc v l)) {j : Nat} (hj : j < l.length) {x : Operand} (ho : o.op = .nilCheck x) (hx : evs env x = some (AV v (j * k))) (hH : Hp B w0 w os) (hF : Fr n act env) : (execOp act.eval o).run P w = .ok (.value (AV v (j * k))) w := by
  obtain ⟨rs, hv, _⟩ := hH.thing i hi
  rcases hv with ⟨_, h2, _⟩ | ⟨g, c, cs, h2, _⟩
  · subst h2; exact absurd hj (Nat.not_lt_zero _)
  · subst h2
    have : AV (.slice (some ⟨g, 0, none⟩) l.length c) (j * k) = .pointer (some ⟨g, j * k, none⟩) := by simp [AV]
    rw [this] at hx ⊢
    exact B8 ho hx hF
end
def GA (v : Value) (i : Nat) : Value := match v with | .tuple vs => vs.getD i undef | _ => undef
def LS (v : Value) (b : List UInt8) (ok : Bool) : Ass := fun rs => ∃ bv, v = .tuple #[bv, .bool ok] ∧ Ak 5 1 encB bv b rs
theorem LS.open_ {v : Value} {b : List UInt8} {ok : Bool} : ∀ rs, LS v b ok rs → ∃ x : { bv : Value // v = .tuple #[bv, .bool ok] }, Al [Ak 5 1 encB x.1 b] rs := fun _ ⟨bv, h, hv⟩ => ⟨⟨bv, h⟩, Al.one hv⟩
theorem QR {P : Program} {B : Nat → Prop} {w0 w : World} {os : List Ass} {n : Nat} {env : List (Nat × Value)} {o : Oper} {act : Act} {v : Value} {b : List UInt8} {ok : Bool} (i : Nat) {k : Nat} (hk : k < 2) (hi : os[i]? = some (LS v b ok)) {x : Operand} (ho : o.op = .extract x k) (hx : evs env x = some v) (hH : Hp B w0 w os) (hF : Fr n act env) : (execOp act.eval o).run P w = .ok (.value (GA v k)) w := by
  obtain ⟨rs, ⟨bv, hv, _⟩, _⟩ := hH.thing i hi
  subst hv
  have h2 : k = 0 ∨ k = 1 := by omega
  rcases h2 with rfl | rfl <;> exact Iw ho hx rfl hF
theorem Lh {p : Nat} {d : DiskD} {n b : List UInt8} {ok : Bool} (hd : d.fit) (h : (D6 d n).isSome = ok) (hb : (D6 d n).getD [] = b) : AP Tryz.prog 94 #[.pointer (some ⟨p, 0, none⟩), .string (bs n)] [Ag p d] (fun v : Value => v) (fun v => [Ag p d, LS v b ok]) := fun w rs h1 h2 h3 => (RK hd h hb w rs h1 h2 h3).mono fun e w' ⟨bv, he, rs', hp, hc⟩ => by
 obtain ⟨a, c, e1, ha, c1, d1, e2, hv, hn⟩ := hp
 exact ⟨_, he, rs', ⟨a, c, e1, ha, c1, d1, e2, ⟨bv, rfl, hv⟩, hn⟩, hc⟩
theorem Oo {B : Nat → Prop} {w0 w : World} {os : List Ass} {t : Ass} (ids : List Nat) (hn : CH ids = true) (ht : ∀ rs, Al (DN ids os) rs → t rs) (h : Hp B w0 w os) : Hp B w0 w (t :: Di ids os) := by
 obtain ⟨rs, h1, h2⟩ := h
 obtain ⟨_, rs', p, h3⟩ := GR ids hn ht rs h1
 exact ⟨rs', h3, CV h2 p⟩
theorem Vd {svs : List SegV} {fs : List Nat} {j f : Nat} (h : svs.map SegV.f = fs) (hf : fs[j]? = some f) : ∃ x, svs[j]? = some x ∧ x.f = f := by
  subst h
  rw [List.getElem?_map] at hf
  cases hx : svs[j]? with
  | none => rw [hx] at hf; cases hf
  | some x => rw [hx] at hf; exact ⟨x, rfl, by simpa using hf⟩
theorem Oq {svs : List SegV} {fs : List Nat} (h : svs.map SegV.f = fs) : svs.length = fs.length := by rw [← h, List.length_map]
end Go.Proofs.YtnknboibmifacaaGreatDoor.Sep
namespace Go.Proofs.YtnknboibmifacaaGreatDoor.Sep
open Go.RowKit
open Go.Proofs.YtnknboibmifacaaGreatDoor.Mem (AR B3 Chg Av)
theorem I6 {A0 : Option Addr} {n c0 : Nat} : AP Tryz.prog 86 #[.slice A0 n c0] [] (fun (g : Nat) => .func (.func 135) #[] #[.pointer (some ⟨g, 0, none⟩)]) (fun (g : Nat) => [cell g 30 #[.slice A0 n c0]]) := by
 refine Bj (args := [.slice A0 n c0]) 4 Tryz.func86 rfl rfl rfl ?_; intro w rs
 refine Ad ?_
 refine Af Ae rfl ?_
 refine Am (post := fun g => [cell g 30 #[.slice A0 n c0]]) rfl (CD (cs := #[.slice A0 n c0]) rfl rfl rfl) ?_; rintro g
 refine Af Ae rfl ?_
 refine Ab (Ad ?_)
 refine Af Ae rfl ?_
 refine Aa rfl (.func (.func 135) #[] #[.pointer (some ⟨g, 0, none⟩)]) (fun b w hb hH => Je rfl rfl hb) ?_
 refine Af Ae rfl ?_
 refine Ab (Az ?_)
 exact Ay (.tmp rfl) (fun w h => AC g rfl [0] rfl h Ed) rfl
theorem Li {p : Nat} : AP Tryz.prog 85 #[.pointer (some ⟨p, 0, none⟩)] [] (fun (g : Nat) => .func (.func 134) #[] #[.pointer (some ⟨g, 0, none⟩)]) (fun (g : Nat) => [cell g 26 #[.pointer (some ⟨p, 0, none⟩)]]) := by
 refine Bj (args := [.pointer (some ⟨p, 0, none⟩)]) 4 Tryz.func85 rfl rfl rfl ?_; intro w rs
 refine Ad ?_
 refine Af Ae rfl ?_
 refine Am (post := fun g => [cell g 26 #[.pointer (some ⟨p, 0, none⟩)]]) rfl (CD (cs := #[.pointer (some ⟨p, 0, none⟩)]) rfl rfl rfl) ?_; rintro g
 refine Af Ae rfl ?_
 refine Ab (Ad ?_)
 refine Af Ae rfl ?_
 refine Aa rfl (.func (.func 134) #[] #[.pointer (some ⟨g, 0, none⟩)]) (fun b w hb hH => Je rfl rfl hb) ?_
 refine Af Ae rfl ?_
 refine Ab (Az ?_)
 exact Ay (.tmp rfl) (fun w h => AC g rfl [0] rfl h Ed) rfl
theorem BS {P : Program} {B : Nat → Prop} {w0 w : World} {os : List Ass} {n : Nat} {env : List (Nat × Value)} {o : Oper} {act : Act} {e t : TypeId} {k : Nat} {α : Type} {enc : α → List Value} {v : Value} {l : List α} (i : Nat) {m : Nat} (hm : l.length = m) (hu : P.underlying t = some (.slice e)) (hi : os[i]? = some (Ak e k enc v l)) {x : Operand} (ho : o.op = .call { callee := .builtin .len, args := #[x], argTypes := #[t] }) (hx : evs env x = some v) (hH : Hp B w0 w os) (hF : Fr n act env) : (execOp act.eval o).run P w = .ok (.value (.int .i64 (m : Int))) w := hm ▸ Ez i hu hi ho hx hH hF
theorem TH (k : Fn) (caps : Array Value) (g p dk lim : Nat) (sv : Value) {d : DiskD} (tb : Tb) {fs : List Nat} (R : Nat → List SegV → Ass) {N : Nat} (hd : d.fit) (hfs : ∀ f, f ∈ fs → f ≤ 72057594037927935) (hl : fs.length ≤ 1000000) (hN : fs.length = N) (hyy : ∀ (j f : Nat) (bv : Value) (b : List UInt8), fs[j]? = some f → (D6 d (nameL f)).getD [] = b → CQ Tryz.prog (.func k #[] caps) [AV sv (j * 2), bv] [F6 p dk lim sv d tb fs (R j), Ak 5 1 encB bv b] (fun _ : Unit => .bool true) (fun _ : Unit => [F6 p dk lim sv d tb fs (R (j + 1))])) : AP Tryz.prog 134 #[.func k #[] caps, .pointer (some ⟨g, 0, none⟩)] [F6 p dk lim sv d tb fs (R 0), cell g 26 #[.pointer (some ⟨p, 0, none⟩)]] (fun (_ : Unit) => .tuple #[]) (fun (_ : Unit) => [F6 p dk lim sv d tb fs (R N), cell g 26 #[.pointer (some ⟨p, 0, none⟩)]]) := by
  refine Bj (args := [.func k #[] caps, .pointer (some ⟨g, 0, none⟩)]) 40 Tryz.func134 rfl rfl rfl ?_; intro w rs
  refine A7 0 rfl F6.open_ (fun _ => rfl) ?_; rintro svs
  refine AN.fact 5 rfl (fun _ h => h.2) ?_; rintro hfc0
  refine AN.leave [5] rfl rfl ?_
  have hsl0 := Oq hfc0
  have hsl0' := hsl0
  refine Ad ?_
  refine Af Ae rfl ?_
  refine Aa rfl (.pointer (some ⟨p, 0, none⟩)) (fun b w hb hH => AY rfl rfl (Bi Em rfl) (hH.row 5 rfl) hb) ?_
  refine Aa rfl (.pointer (some ⟨p, 0, none⟩)) (fun b w hb hH => by exact B8 rfl rfl hb) ?_
  refine Af Ae rfl ?_
  refine Aa rfl (sv) (fun b w hb hH => AY rfl rfl (Bi C4 rfl) (hH.row 0 rfl) hb) ?_
  refine Aa rfl (.int .i64 (fs.length : Int)) (fun b w hb hH => BS 1 hsl0 Tryz.underlying85 rfl rfl rfl hH hb) ?_
  refine Af Ae rfl ?_
  refine Ab (AQ ?_)
  refine Bg [0, 1, 2, 3, 4] rfl (JG hfc0) rfl ?_
  refine CY (α := Nat) (fun j => [(0, .func k #[] caps), (1, .pointer (some ⟨g, 0, none⟩)), (11, .int .i64 (fs.length : Int)), (12, .int .i64 (j : Int))]) (fun j => [F6 p dk lim sv d tb fs (R j), cell g 26 #[.pointer (some ⟨p, 0, none⟩)]]) (fun j => j ≤ N) (fun j => N - j) 0 (Nat.zero_le _) ⟨rfl, rfl, rfl, rfl, trivial⟩ rfl ?_
  rintro j hI
  refine AN.at_ (env' := [(0, .func k #[] caps), (1, .pointer (some ⟨g, 0, none⟩)), (11, .int .i64 (fs.length : Int)), (12, .int .i64 (j : Int))]) (rs' := [F6 p dk lim sv d tb fs (R j), cell g 26 #[.pointer (some ⟨p, 0, none⟩)]]) ⟨rfl, rfl, rfl, rfl, trivial⟩ rfl ?_
  rcases Nat.lt_or_ge j N with hjN | hjN
  · skip
    have hlt : j < fs.length := by omega
    obtain ⟨f, hf⟩ : ∃ f, fs[j]? = some f := ⟨_, List.getElem?_eq_getElem hlt⟩
    obtain ⟨b, hb_⟩ : ∃ b, (D6 d (nameL f)).getD [] = b := ⟨_, rfl⟩
    obtain ⟨ok, hok⟩ : ∃ ok, (D6 d (nameL f)).isSome = ok := ⟨_, rfl⟩
    have hfb := hfs f (List.mem_of_getElem? hf)
    refine Ad ?_
    refine Af Ae rfl ?_
    refine Aa rfl (.bool true) (fun b w hb hH => AZ rfl rfl rfl (Ck (by omega)) hb) ?_
    refine Ab (An (AI rfl (Aw (AB (An (AQ (Ad ?_)))))))
    refine Af Ae rfl ?_
    refine Ab ?_
    refine A7 0 rfl F6.open_ (fun _ => rfl) ?_; rintro svs
    refine AN.fact 5 rfl (fun _ h => h.2) ?_; rintro hfc
    refine AN.leave [5] rfl rfl ?_
    obtain ⟨x, hx, hxf⟩ := Vd hfc hf
    have hsl := Oq hfc
    refine Ad ?_
    refine Af Ae rfl ?_
    refine Aa rfl (.pointer (some ⟨p, 0, none⟩)) (fun b w hb hH => AY rfl rfl (Bi Em rfl) (hH.row 5 rfl) hb) ?_
    refine Aa rfl (.pointer (some ⟨p, 0, none⟩)) (fun b w hb hH => by exact B8 rfl rfl hb) ?_
    refine Af Ae rfl ?_
    refine Aa rfl (sv) (fun b w hb hH => AY rfl rfl (Bi C4 rfl) (hH.row 0 rfl) hb) ?_
    refine Af Ae rfl ?_
    refine Aa rfl (AV sv (j * 2)) (fun b w hb hH => EB 1 Ba AT rfl j (by omega) rfl rfl rfl hH hb) ?_
    refine Af Ae rfl ?_
    refine Ab (An ?_)
    refine Gh 1 rfl ?_
    refine BV 14 2 [⟨.quiet, [none, none], fun _ => .pointer (some ⟨p, 0, none⟩), []⟩, ⟨.quiet, [none, none], fun _ => .pointer (some ⟨p, 0, none⟩), [0]⟩, ⟨.quiet, [none, none], fun _ => .pointer (some ⟨p, 0, none⟩), [1]⟩, ⟨.quiet, [none, none], fun _ => .pointer (some ⟨dk, 0, none⟩), [2]⟩, ⟨.quiet, [none, none], fun _ => AV sv (j * 2), []⟩, ⟨.quiet, [none, none], fun _ => AV sv (j * 2), [4]⟩, ⟨.quiet, [none, none], fun _ => AV sv (j * 2 + 0), [5]⟩, ⟨.quiet, [none, none], fun _ => .int .u64 (x.f : Int), [6]⟩, ⟨.actv 0, [some false, some false], fun _ => .string (bs (nameL x.f)), [7]⟩, ⟨.act 1, [some true, some false], fun _ => undef, [3, 8]⟩, ⟨.quiet, [some true, some true], fun ρ => match ρ with | [_, some rv] => rv | _ => undef, [9]⟩, ⟨.quiet, [some true, some true], fun ρ => match ρ with | [_, some rv] => (GA rv 0) | _ => undef, [10]⟩, ⟨.quiet, [some true, some true], fun ρ => match ρ with | [_, some rv] => (GA rv 1) | _ => undef, [10]⟩, ⟨.quiet, [some true, some true], fun ρ => match ρ with | [_, some rv] => (GA rv 0) | _ => undef, [11]⟩] [(0, .func k #[] caps), (1, .pointer (some ⟨g, 0, none⟩)), (11, .int .i64 (fs.length : Int)), (12, .int .i64 (j : Int)), (13, .bool true), (14, .int .i64 (j : Int)), (3, .int .i64 (j : Int)), (15, .pointer (some ⟨p, 0, none⟩)), (16, .pointer (some ⟨p, 0, none⟩)), (17, .pointer (some ⟨p, 2, none⟩)), (18, sv), (19, .int .i64 (j : Int)), (20, AV sv (j * 2)), (4, AV sv (j * 2))] (fun ρ => match ρ with | [r0, r1] => [DR r1 (fun rv => LS rv b ok) (GE), cell p 87 #[.pointer (some ⟨dk, 0, none⟩), .int .i64 (lim : Int), sv], Ak 92 2 encSg sv svs, Ag dk d, Ao tb, R j svs, cell g 26 #[.pointer (some ⟨p, 0, none⟩)]] | _ => []) (by kernel_rfl) (by kernel_rfl) ⟨rfl, rfl, rfl, rfl, rfl, rfl, rfl, rfl, rfl, rfl, rfl, rfl, rfl, rfl, trivial⟩ rfl ?_ ?_
    · skip
      refine Ac (by intro r0_ r1_; exact ⟨rfl, fun b w hH hb => AY rfl rfl (Bi Em rfl) (hH.row 6 rfl) hb⟩) ?_
      refine Ac (by intro r0_ r1_; exact ⟨rfl, fun b w hH hb => by exact B8 rfl rfl hb⟩) ?_
      refine Ac (by intro r0_ r1_; exact ⟨rfl, fun b w hH hb => Ah Ae rfl hb⟩) ?_
      refine Ac (by intro r0_ r1_; exact ⟨rfl, fun b w hH hb => AY rfl rfl (Bi CL rfl) (hH.row 1 rfl) hb⟩) ?_
      refine Ac (by intro r0_ r1_; exact ⟨rfl, fun b w hH hb => Ah Ae rfl hb⟩) ?_
      refine Ac (by intro r0_ r1_; exact ⟨rfl, fun b w hH hb => B0 2 rfl (j := j) (List.getElem?_eq_some_iff.1 hx).1 rfl rfl hH hb⟩) ?_
      refine Ac (by intro r0_ r1_; exact ⟨rfl, fun b w hH hb => GJ AT (by decide) (hH.vec 2 rfl AT) (j := j) hx Bn rfl rfl hb⟩) ?_
      refine Ac (by intro r0_ r1_; exact ⟨rfl, fun b w hH hb => BD AT (by decide) (hH.vec 2 rfl AT) (j := j) hx AO (off := 0) rfl rfl rfl hb⟩) ?_
      refine Ac (by exact ⟨rfl, Bm.su (Au (os' := fun _ => [GE, cell p 87 #[.pointer (some ⟨dk, 0, none⟩), .int .i64 (lim : Int), sv], Ak 92 2 encSg sv svs, Ag dk d, Ao tb, R j svs, cell g 26 #[.pointer (some ⟨p, 0, none⟩)]]) [4] 0 (Aj Tryz.func19 (by kernel_rfl) rfl) (DK tb (n := x.f) (by omega)) rfl rfl rfl (fun _ => rfl) rfl rfl rfl) rfl⟩) ?_
      refine Ac (by intro v0_; exact ⟨rfl, Bm.s (Au (os' := fun rv => [LS rv b ok, cell p 87 #[.pointer (some ⟨dk, 0, none⟩), .int .i64 (lim : Int), sv], Ak 92 2 encSg sv svs, Ag dk d, Ao tb, R j svs, cell g 26 #[.pointer (some ⟨p, 0, none⟩)]]) [3, 0] 1 (Aj Tryz.func94 (by kernel_rfl) rfl) (Lh hd (by rw [hxf]; exact hok) (by rw [hxf]; exact hb_)) rfl rfl rfl (fun _ => rfl) rfl rfl rfl) (fun _ => rfl)⟩) ?_
      refine Ac (by intro v0_ rv; exact ⟨rfl, fun b w hH hb => Ah Ae rfl hb⟩) ?_
      refine Ac (by intro v0_ rv; exact ⟨rfl, fun b w hH hb => QR 0 (by decide) rfl rfl rfl hH hb⟩) ?_
      refine Ac (by intro v0_ rv; exact ⟨rfl, fun b w hH hb => QR 0 (by decide) rfl rfl rfl hH hb⟩) ?_
      refine Ac (by intro v0_ rv; exact ⟨rfl, fun b w hH hb => Ah Ae rfl hb⟩) ?_
      exact B7
    intro v0_ rv
    refine BT.keep (env' := [(0, .func k #[] caps), (1, .pointer (some ⟨g, 0, none⟩)), (11, .int .i64 (fs.length : Int)), (12, .int .i64 (j : Int)), (13, .bool true), (14, .int .i64 (j : Int)), (3, .int .i64 (j : Int)), (15, .pointer (some ⟨p, 0, none⟩)), (16, .pointer (some ⟨p, 0, none⟩)), (17, .pointer (some ⟨p, 2, none⟩)), (18, sv), (19, .int .i64 (j : Int)), (20, AV sv (j * 2)), (4, AV sv (j * 2)), (22, .pointer (some ⟨p, 0, none⟩)), (23, .pointer (some ⟨p, 0, none⟩)), (24, .pointer (some ⟨p, 0, none⟩)), (25, .pointer (some ⟨dk, 0, none⟩)), (26, AV sv (j * 2)), (27, AV sv (j * 2)), (28, AV sv (j * 2 + 0)), (29, .int .u64 (x.f : Int)), (30, .string (bs (nameL x.f))), (31, rv), (21, rv), (32, (GA rv 0)), (33, (GA rv 1)), (5, (GA rv 0))]) ⟨rfl, rfl, rfl, rfl, rfl, rfl, rfl, rfl, rfl, rfl, rfl, rfl, rfl, rfl, rfl, rfl, rfl, rfl, rfl, rfl, rfl, rfl, rfl, rfl, rfl, rfl, rfl, rfl, trivial⟩ ?_
    refine Jd 0 rfl LS.open_ (fun _ => rfl) ?_; rintro ⟨bv, rfl⟩
    refine BT.keep (env' := [(0, .func k #[] caps), (1, .pointer (some ⟨g, 0, none⟩)), (11, .int .i64 (fs.length : Int)), (12, .int .i64 (j : Int)), (13, .bool true), (14, .int .i64 (j : Int)), (3, .int .i64 (j : Int)), (15, .pointer (some ⟨p, 0, none⟩)), (16, .pointer (some ⟨p, 0, none⟩)), (17, .pointer (some ⟨p, 2, none⟩)), (18, sv), (19, .int .i64 (j : Int)), (20, AV sv (j * 2)), (4, AV sv (j * 2)), (22, .pointer (some ⟨p, 0, none⟩)), (23, .pointer (some ⟨p, 0, none⟩)), (24, .pointer (some ⟨p, 0, none⟩)), (25, .pointer (some ⟨dk, 0, none⟩)), (26, AV sv (j * 2)), (27, AV sv (j * 2)), (28, AV sv (j * 2 + 0)), (29, .int .u64 (x.f : Int)), (30, .string (bs (nameL x.f))), (31, .tuple #[bv, .bool ok]), (21, .tuple #[bv, .bool ok]), (32, bv), (33, .bool ok), (5, bv)]) ⟨rfl, rfl, rfl, rfl, rfl, rfl, rfl, rfl, rfl, rfl, rfl, rfl, rfl, rfl, rfl, rfl, rfl, rfl, rfl, rfl, rfl, rfl, rfl, rfl, rfl, rfl, rfl, rfl, trivial⟩ ?_
    refine BT.mid [Ak 5 1 encB bv b, cell p 87 #[.pointer (some ⟨dk, 0, none⟩), .int .i64 (lim : Int), sv], Ak 92 2 encSg sv svs, Ag dk d, Ao tb, R j svs, cell g 26 #[.pointer (some ⟨p, 0, none⟩)]] (.refl _) ?_
    refine Af Ae rfl ?_
    refine AD (AB ?_)
    refine Bg [1, 2, 3, 4, 5] rfl (JG hfc) rfl ?_
    refine An ?_
    refine Ip (I3 FR 3 (by rintro ⟨a, w, h⟩; first | exact h.elim | exact nomatch h.1 | (obtain ⟨_, h, _⟩ := h; exact nomatch h)) (by kernel_rfl) ?_)
    refine Af Ae rfl ?_
    refine MX ?_
    refine E0 (X := Unit) (post := fun _ => [F6 p dk lim sv d tb fs (R (j + 1))]) (os' := fun _ => [F6 p dk lim sv d tb fs (R (j + 1)), cell g 26 #[.pointer (some ⟨p, 0, none⟩)]]) FR [0, 1] (hyy j f bv b hf hb_) rfl rfl rfl rfl rfl rfl (fun _ => rfl) ?_; rintro ⟨⟩
    refine El FR (by rintro ⟨a, w, h⟩; first | exact h.elim | exact nomatch h.1 | (obtain ⟨_, h, _⟩ := h; exact nomatch h)) (by kernel_rfl) ?_
    refine Af Ae rfl ?_
    refine AD (AB (As rfl (Aw (AW (AB (BJ ?_))))))
    refine Af Ae rfl ?_
    refine Aa rfl (.int .i64 ((j + 1 : Nat) : Int)) (fun b w hb hH => AH rfl rfl rfl rfl (by rw [IntWalk.i64_in _ (by omega)]; omega) hb) ?_
    refine Af Ae rfl ?_
    refine AD ?_
    exact Cm (j + 1) 0 (by omega) (show N - (j + 1) < N - j by omega) ⟨rfl, rfl, rfl, rfl, trivial⟩ rfl
  · skip
    obtain rfl : j = N := by omega
    refine Ad ?_
    refine Af Ae rfl ?_
    refine Aa rfl (.bool false) (fun b w hb hH => AZ rfl rfl rfl (BU (by omega)) hb) ?_
    refine Ab (An (As rfl (C8 (Gx (Gx (Br ?_))))))
    exact Eb  (fun w h => AC () rfl [0, 1] rfl h Ed) rfl
end Go.Proofs.YtnknboibmifacaaGreatDoor.Sep
namespace Go.Proofs.YtnknboibmifacaaGreatDoor.Sep
open Go.RowKit
open Go.Proofs.YtnknboibmifacaaGreatDoor.Mem (AR B3 Chg Av)
def Cn (d : DiskD) (f : Nat) : List (EntD × Nat) := J4 ((D6 d (nameL f)).getD [])
def By (d : DiskD) (fs : List Nat) : List EntD := fs.flatMap fun f => (Cn d f).map (·.1)
theorem Gu {d : DiskD} {fs : List Nat} {j f : Nat} (h : fs[j]? = some f) : By d (fs.take (j + 1)) = By d (fs.take j) ++ (Cn d f).map (·.1) := by
  unfold By
  rw [List.take_add_one, h, List.flatMap_append]
  simp
theorem Or (d : DiskD) (fs : List Nat) (j : Nat) : (By d (fs.take j)).length ≤ (By d fs).length := by
 have h : By d fs = By d (fs.take j) ++ By d (fs.drop j) := by
  unfold By
  rw [← List.flatMap_append, List.take_append_drop]
 rw [h, List.length_append]; omega
def FG (g : Nat) (L : List EntD) : Ass := fun rs => ∃ x : EsV, Al [cell g 52 #[x.v], Cc 34 x.v x.l, fact (x.l.map (·.e) = L)] rs
theorem FG.open_ {g : Nat} {L : List EntD} : ∀ rs, FG g L rs → ∃ x : EsV, Al [cell g 52 #[x.v], Cc 34 x.v x.l, fact (x.l.map (·.e) = L)] rs := fun _ h => h
theorem Ve {g : Nat} {L : List EntD} {v : Value} {l : List EntV} (h : l.map (·.e) = L) : ∀ rs, Al [cell g 52 #[v], Cc 34 v l] rs → FG g L rs := fun _ hz => ⟨⟨v, l⟩, DV h hz⟩
theorem TJ {g : Nat} : ∀ rs, Al [cell g 52 #[.slice none 0 0]] rs → FG g [] rs := fun rs hz => ⟨⟨.slice none 0 0, []⟩, DV (xs := [cell g 52 #[.slice none 0 0], Cc 34 (.slice none 0 0) []]) rfl (by
 obtain ⟨a, b, e, h1, h2⟩ := hz
 unfold Al at h2
 subst h2
 exact ⟨a, [], e, h1, [], [], rfl, Rs, rfl⟩)⟩
theorem Xk (k : Fn) (caps : Array Value) (g : Nat) (T : Nat → Ass) {A0 : Option Addr} {c0 : Nat} {y : List UInt8} {es : List (EntD × Nat)} {N : Nat} (hl : y.length ≤ 137438953472) (hes : J4 y = es) (hN : es.length = N)
    (hyy : ∀ (j : Nat) (A : Option Addr) (c : Nat) (e : EntD) (n : Nat), es[j]? = some (e, n) → CQ Tryz.prog (.func k #[] caps) [.agg #[.int .i64 e.k, .int .u64 e.t, .int .u64 e.i, .slice A e.d.length c, .int .i64 e.c], .int .i64 (n : Int)] [T j, Ak 5 1 encB (.slice A e.d.length c) e.d] (fun _ : Unit => .bool true) (fun _ : Unit => [T (j + 1)])) :
    AP Tryz.prog 135 #[.func k #[] caps, .pointer (some ⟨g, 0, none⟩)] [T 0, Ak 5 1 encB (.slice A0 y.length c0) y, cell g 30 #[.slice A0 y.length c0]] (fun (_ : Unit) => .tuple #[]) (fun (_ : Unit) => [T N, Ak 5 1 encB (.slice A0 y.length c0) y, cell g 30 #[.slice A0 y.length c0]]) := by
  have hle := HE (CK y).1 0
  change (J4 y).length ≤ _ at hle
  rw [hes, hN] at hle
  rcases Nat.lt_or_eq_of_le hle with h | h
  · exact WB k caps g T hl rfl hes hN h hyy
  · exact Wz k caps g T hl rfl hes hN h.symm hyy
theorem TK (k : Fn) (caps : Array Value) (g : Nat) (T : Nat → Ass) (T0 Tn : Ass) {A0 : Option Addr} {c0 : Nat} {y : List UInt8} {es : List (EntD × Nat)} {N : Nat} (h0 : T 0 = T0) (hn : T N = Tn) (hl : y.length ≤ 137438953472) (hes : J4 y = es) (hN : es.length = N)
  (hyy : ∀ (j : Nat) (A : Option Addr) (c : Nat) (e : EntD) (n : Nat), es[j]? = some (e, n) → CQ Tryz.prog (.func k #[] caps) [.agg #[.int .i64 e.k, .int .u64 e.t, .int .u64 e.i, .slice A e.d.length c, .int .i64 e.c], .int .i64 (n : Int)] [T j, Ak 5 1 encB (.slice A e.d.length c) e.d] (fun _ : Unit => .bool true) (fun _ : Unit => [T (j + 1)])) :
  AP Tryz.prog 135 #[.func k #[] caps, .pointer (some ⟨g, 0, none⟩)] [T0, Ak 5 1 encB (.slice A0 y.length c0) y, cell g 30 #[.slice A0 y.length c0]] (fun (_ : Unit) => .tuple #[]) (fun (_ : Unit) => [Tn, Ak 5 1 encB (.slice A0 y.length c0) y, cell g 30 #[.slice A0 y.length c0]]) := by
 subst h0; subst hn
 exact Xk k caps g T hl hes hN hyy
theorem WF {d : DiskD} {fs : List Nat} {j f i : Nat} (hf : fs[j]? = some f) (hi : i < (Cn d f).length) (hL : (By d fs).length ≤ 1000000) : (By d (fs.take j) ++ ((Cn d f).take i).map (·.1)).length < 1000000 := by
  have h1 := Or d fs (j + 1)
  rw [Gu hf] at h1
  simp only [List.length_append, List.length_map, List.length_take] at h1 ⊢
  omega
theorem TL {l : List EntV} {d : DiskD} {f i n : Nat} {M : List EntD} {e : EntD} {A : Option Addr} {c : Nat} (h : l.map (·.e) = M ++ ((Cn d f).take i).map (·.1)) (hi : (Cn d f)[i]? = some (e, n)) : (l ++ [(⟨e, A, c⟩ : EntV)]).map (·.e) = M ++ ((Cn d f).take (i + 1)).map (·.1) := by
  rw [List.map_append, h, List.append_assoc, List.take_add_one, hi]
  simp
theorem HF {l : List Ass} : ∀ rs, Fq l rs → ∃ _ : Unit, Al l rs := fun _ h => ⟨(), h⟩
theorem Iv {l : List Ass} : ∀ rs, Al l rs → Fq l rs := fun _ h => h
theorem R2 {p dk lim : Nat} {ss : SegsM} {d : DiskD} {fs : List Nat} {N : Nat} (tb : Tb) (hd : d.fit) (hs0 : ss.map (·.1) = fs) (hfs : ∀ f, f ∈ fs → f ≤ 72057594037927935) (hfl : fs.length ≤ 1000000) (hN : fs.length = N) (hL : (By d fs).length ≤ 1000000) (hbl : ∀ f b, f ∈ fs → (D6 d (nameL f)).getD [] = b → b.length ≤ 137438953472) : AP Tryz.prog 33 #[.pointer (some ⟨p, 0, none⟩)] [AA p dk lim ss, Ag dk d, Ao tb] (fun (x : EsV) => x.v) (fun (x : EsV) => [Cc 34 x.v x.l, AA p dk lim ss, Ag dk d, Ao tb, fact (x.l.map (·.e) = By d fs)]) := by
  refine JC (args := [.pointer (some ⟨p, 0, none⟩)]) 20 Tryz.func33 rfl rfl rfl ?_; intro w rs
  refine A7 0 rfl AA.open_ (fun _ => rfl) ?_; rintro ⟨sv, svs⟩
  refine AN.fact 3 rfl (fun _ h => h.2) ?_; rintro hm0
  have hf0 : svs.map SegV.f = fs := by rw [← hs0, ← hm0, List.map_map]; rfl
  refine Ad ?_
  refine Af Ae rfl ?_
  refine Ab (Ad ?_)
  refine Af Ae rfl ?_
  refine Am (post := fun gl => [cell gl 52 #[.slice none 0 0], cell p 87 #[.pointer (some ⟨dk, 0, none⟩), .int .i64 (lim : Int), sv], Ak 92 2 encSg sv svs, Bd svs, fact (svs.map SegV.m = ss), Ag dk d, Ao tb]) rfl (BW G1 rfl) ?_; rintro gl
  refine Ab (An ?_)
  refine Bg [0] rfl (TJ : ∀ rs, _ → FG gl (By d (fs.take 0)) rs) rfl ?_
  refine Bg [0, 3, 4] rfl Iv rfl ?_
  refine Bg [1, 2, 3, 4, 0] rfl (JG (R := (fun svs => Fq [FG gl (By d (fs.take 0)), Bd svs, fact (svs.map SegV.m = ss)])) hf0) rfl ?_
  refine AN.keep (env' := [(0, .pointer (some ⟨p, 0, none⟩)), (2, .slice none 0 0), (3, .pointer (some ⟨gl, 0, none⟩))]) ⟨rfl, rfl, rfl, trivial⟩ ?_
  refine AN.mid [F6 p dk lim sv d tb fs (fun svs => Fq [FG gl (By d (fs.take 0)), Bd svs, fact (svs.map SegV.m = ss)])] (.refl _) ?_
  refine Ad ?_
  refine Af Ae rfl ?_
  refine Am rfl (Au (os' := fun gf => [cell gf 26 #[.pointer (some ⟨p, 0, none⟩)], F6 p dk lim sv d tb fs (fun svs => Fq [FG gl (By d (fs.take 0)), Bd svs, fact (svs.map SegV.m = ss)])]) [] 0 (Aj Tryz.func85 (by kernel_rfl) rfl) (Li) rfl rfl rfl (fun _ => rfl) rfl rfl rfl) ?_; rintro gf
  refine Ab (AQ ?_)
  refine AN.keep (env' := [(0, .pointer (some ⟨p, 0, none⟩)), (2, .slice none 0 0), (3, .pointer (some ⟨gl, 0, none⟩)), (7, .pointer (some ⟨p, 0, none⟩)), (8, .func (.func 134) #[] #[.pointer (some ⟨gf, 0, none⟩)])]) ⟨rfl, rfl, rfl, rfl, rfl, trivial⟩ ?_
  refine AN.mid [cell gf 26 #[.pointer (some ⟨p, 0, none⟩)], F6 p dk lim sv d tb fs (fun svs => Fq [FG gl (By d (fs.take 0)), Bd svs, fact (svs.map SegV.m = ss)])] (.refl _) ?_
  refine Fi (caps := [.pointer (some ⟨gf, 0, none⟩)]) (post := [F6 p dk lim sv d tb fs (fun svs => Fq [FG gl (By d (fs.take N)), Bd svs, fact (svs.map SegV.m = ss)]), cell gf 26 #[.pointer (some ⟨p, 0, none⟩)]]) (os' := [F6 p dk lim sv d tb fs (fun svs => Fq [FG gl (By d (fs.take N)), Bd svs, fact (svs.map SegV.m = ss)]), cell gf 26 #[.pointer (some ⟨p, 0, none⟩)]]) (.normal) [1, 0] rfl (Aj Tryz.func134 (by kernel_rfl) rfl) (fun L1 fn1 tm1 hf1 r1 k11 k12 k13 k14 k15 k16 => VR (TH (.yield L1) #[] gf p dk lim sv tb (fun j svs => EH L1 r1 (Fq [FG gl (By d (fs.take j)), Bd svs, fact (svs.map SegV.m = ss)])) hd hfs hfl hN ?_)) rfl rfl rfl ?_
  · skip
    intro j f bv b hf hb_
    refine VS (CE (n := 20) (env := [(10, bv), (9, AV sv (j * 2)), (0, .pointer (some ⟨p, 0, none⟩)), (2, .slice none 0 0), (3, .pointer (some ⟨gl, 0, none⟩)), (7, .pointer (some ⟨p, 0, none⟩)), (8, .func (.func 134) #[] #[.pointer (some ⟨gf, 0, none⟩)])]) (.normal) k12 k11 (by rw [k14]; rfl) ?_ ?_)
    · rw [k14, k13]
      refine (congrArg (fun t => Fr 20 { tmps := t, defers := [] } _) (?_ : _ = ((tm1.setIfInBounds 9 (AV sv (j * 2))).setIfInBounds 10 bv))).mpr ((hf1.put (d := 9) (by decide) _).put (d := 10) (by decide) _)
      simp
    · intro w0 rs
      rw [k15]
      refine Dm (by kernel_rfl) (by rintro ⟨a, w, h⟩; first | exact h.elim | exact nomatch h.1 | (obtain ⟨_, h, _⟩ := h; exact nomatch h)) ?_
      refine Af Ae rfl ?_
      refine AD ?_
      refine EM 0 rfl k11 ?_
      rw [k16]
      refine D0.fact 2 rfl (fun _ h => Ak.is h) ?_; rintro ⟨A0, c0, rfl⟩
      refine D0.keep (env' := [(10, .slice A0 b.length c0), (9, AV sv (j * 2)), (0, .pointer (some ⟨p, 0, none⟩)), (2, .slice none 0 0), (3, .pointer (some ⟨gl, 0, none⟩)), (7, .pointer (some ⟨p, 0, none⟩)), (8, .func (.func 134) #[] #[.pointer (some ⟨gf, 0, none⟩)]), (5, .slice A0 b.length c0)]) ⟨rfl, rfl, rfl, rfl, rfl, rfl, rfl, rfl, trivial⟩ ?_
      refine D0.mid [BB L1 (BP r1), F6 p dk lim sv d tb fs (fun svs => Fq [FG gl (By d (fs.take j)), Bd svs, fact (svs.map SegV.m = ss)]), Ak 5 1 encB (.slice A0 b.length c0) b] (.refl _) ?_
      refine DP 1 rfl F6.open_ (fun _ => rfl) ?_; rintro svs
      refine D0.fact 5 rfl (fun _ h => h.2) ?_; rintro hfc
      refine D0.leave [5] rfl rfl ?_
      refine DP 4 rfl HF (fun _ => rfl) ?_; rintro ⟨⟩
      refine D1 ?_
      refine DD (Dm (by kernel_rfl) (by rintro ⟨a, w, h⟩; first | exact h.elim | exact nomatch h.1 | (obtain ⟨_, h, _⟩ := h; exact nomatch h)) ?_)
      refine Af Ae rfl ?_
      refine Am rfl (Au (os' := fun ge => [cell ge 30 #[.slice A0 b.length c0], FG gl (By d (fs.take j)), Bd svs, fact (svs.map SegV.m = ss), cell p 87 #[.pointer (some ⟨dk, 0, none⟩), .int .i64 (lim : Int), sv], Ak 92 2 encSg sv svs, Ag dk d, Ao tb, BB L1 (BP r1), Ak 5 1 encB (.slice A0 b.length c0) b]) [] 0 (Aj Tryz.func86 (by kernel_rfl) rfl) (I6) rfl rfl rfl (fun _ => rfl) rfl rfl rfl) ?_; rintro ge
      refine AD (Fb ?_)
      refine D1 ?_
      refine D0.keep (env' := [(10, .slice A0 b.length c0), (9, AV sv (j * 2)), (0, .pointer (some ⟨p, 0, none⟩)), (2, .slice none 0 0), (3, .pointer (some ⟨gl, 0, none⟩)), (7, .pointer (some ⟨p, 0, none⟩)), (8, .func (.func 134) #[] #[.pointer (some ⟨gf, 0, none⟩)]), (5, .slice A0 b.length c0), (11, .slice A0 b.length c0), (12, .func (.func 135) #[] #[.pointer (some ⟨ge, 0, none⟩)])]) ⟨rfl, rfl, rfl, rfl, rfl, rfl, rfl, rfl, rfl, rfl, trivial⟩ ?_
      refine D0.mid [cell ge 30 #[.slice A0 b.length c0], FG gl (By d (fs.take j)), Bd svs, fact (svs.map SegV.m = ss), cell p 87 #[.pointer (some ⟨dk, 0, none⟩), .int .i64 (lim : Int), sv], Ak 92 2 encSg sv svs, Ag dk d, Ao tb, BB L1 (BP r1), Ak 5 1 encB (.slice A0 b.length c0) b] (.refl _) ?_
      refine Oh (caps := [.pointer (some ⟨ge, 0, none⟩)]) (post := [FG gl (By d (fs.take (j + 1))), Ak 5 1 encB (.slice A0 b.length c0) b, cell ge 30 #[.slice A0 b.length c0]]) (os' := [FG gl (By d (fs.take (j + 1))), Ak 5 1 encB (.slice A0 b.length c0) b, cell ge 30 #[.slice A0 b.length c0], Bd svs, fact (svs.map SegV.m = ss), cell p 87 #[.pointer (some ⟨dk, 0, none⟩), .int .i64 (lim : Int), sv], Ak 92 2 encSg sv svs, Ag dk d, Ao tb, BB L1 (BP r1)]) (.normal) 8 rfl [1, 9, 0] rfl (Aj Tryz.func135 (by kernel_rfl) rfl) (fun L2 fn2 tm2 hf2 r2 k21 k22 k23 k24 k25 k26 => Mg (TK (.yield L2) #[] ge (fun i => EH L2 r2 (FG gl (By d (fs.take j) ++ ((Cn d f).take i).map (·.1)))) _ _ (A0 := A0) (c0 := c0) (N := (Cn d f).length) (by rw [List.take_zero, List.map_nil, List.append_nil]) (by rw [List.take_length, ← Gu hf]; rfl) (hbl f b (List.mem_of_getElem? hf) hb_) (show J4 b = Cn d f by rw [← hb_]; rfl) rfl ?_)) rfl rfl rfl ?_
      · skip
        intro i A c e n hei
        have hil : i < (Cn d f).length := (List.getElem?_eq_some_iff.1 hei).1
        have hacc := WF hf hil hL
        refine JZ (CE (n := 20) (env := [(14, .int .i64 (n : Int)), (13, .agg #[.int .i64 e.k, .int .u64 e.t, .int .u64 e.i, .slice A e.d.length c, .int .i64 e.c]), (10, .slice A0 b.length c0), (9, AV sv (j * 2)), (0, .pointer (some ⟨p, 0, none⟩)), (2, .slice none 0 0), (3, .pointer (some ⟨gl, 0, none⟩)), (7, .pointer (some ⟨p, 0, none⟩)), (8, .func (.func 134) #[] #[.pointer (some ⟨gf, 0, none⟩)]), (5, .slice A0 b.length c0), (11, .slice A0 b.length c0), (12, .func (.func 135) #[] #[.pointer (some ⟨ge, 0, none⟩)])]) (.normal) k22 k21 (by rw [k24]; rfl) ?_ ?_)
        · rw [k24, k23]
          refine (congrArg (fun t => Fr 20 { tmps := t, defers := [] } _) (?_ : _ = ((tm2.setIfInBounds 13 (.agg #[.int .i64 e.k, .int .u64 e.t, .int .u64 e.i, .slice A e.d.length c, .int .i64 e.c])).setIfInBounds 14 (.int .i64 (n : Int))))).mpr ((hf2.put (d := 13) (by decide) _).put (d := 14) (by decide) _)
          simp
        · intro w0 rs
          rw [k25]
          refine Dm (by kernel_rfl) (by rintro ⟨a, w, h⟩; first | exact h.elim | exact nomatch h.1 | (obtain ⟨_, h, _⟩ := h; exact nomatch h)) ?_
          refine Af Ae rfl ?_
          refine Am (post := fun gx => [cell gx 34 #[.int .i64 0, .int .u64 0, .int .u64 0, .slice none 0 0, .int .i64 0], BB L2 r2, FG gl (By d (fs.take j) ++ ((Cn d f).take i).map (·.1)), Ak 5 1 encB (.slice A e.d.length c) e.d]) rfl (BW Bz rfl) ?_; rintro gx
          refine AL (post := fun _ => [cell gx 34 #[.int .i64 e.k, .int .u64 e.t, .int .u64 e.i, .slice A e.d.length c, .int .i64 e.c], BB L2 r2, FG gl (By d (fs.take j) ++ ((Cn d f).take i).map (·.1)), Ak 5 1 encB (.slice A e.d.length c) e.d]) rfl rfl (AU 0 (v := .agg #[.int .i64 e.k, .int .u64 e.t, .int .u64 e.i, .slice A e.d.length c, .int .i64 e.c]) #[.int .i64 e.k, .int .u64 e.t, .int .u64 e.i, .slice A e.d.length c, .int .i64 e.c] BH.2 rfl rfl rfl rfl rfl rfl rfl rfl rfl) ?_; rintro ⟨⟩
          refine AD ?_
          refine EM 1 rfl k21 ?_
          rw [k26]
          refine DP 2 rfl FG.open_ (fun _ => rfl) ?_; rintro ⟨v, l⟩
          refine D0.fact 2 rfl (fun _ h => h.2) ?_; rintro hl1
          refine D0.leave [2] rfl rfl ?_
          replace hl1 : l.map (·.e) = By d (fs.take j) ++ ((Cn d f).take i).map (·.1) := hl1
          have hl2 : l.length < 1000000 := by have := congrArg List.length hl1; rw [List.length_map] at this; omega
          refine DP 1 rfl DJ (fun _ => rfl) ?_; rintro ⟨⟩
          refine D1 ?_
          refine Dm (by kernel_rfl) (by rintro ⟨a, w, h⟩; first | exact h.elim | exact nomatch h.1 | (obtain ⟨_, h, _⟩ := h; exact nomatch h)) ?_
          refine Af Ae rfl ?_
          refine Aa rfl (v) (fun b w hb hH => AY rfl rfl (Bi CJ rfl) (hH.row 2 rfl) hb) ?_
          refine Aa rfl (.agg #[.int .i64 e.k, .int .u64 e.t, .int .u64 e.i, .slice A e.d.length c, .int .i64 e.c]) (fun b w hb hH => AY rfl rfl (EY (cs := [.int .i64 e.k, .int .u64 e.t, .int .u64 e.i, .slice A e.d.length c, .int .i64 e.c]) BH rfl) (hH.row 3 rfl) hb) ?_
          refine Am (X := Value) (val := fun v : Value => v) (post := fun u1 => [Ak 34 5 encV u1 ([(⟨e, A, c⟩ : EntV)]), Ak 34 5 encV v l, Bb (fun x : EntV => Ak 5 1 encB x.v x.e.d) l, cell gl 52 #[v], cell gx 34 #[.int .i64 e.k, .int .u64 e.t, .int .u64 e.i, .slice A e.d.length c, .int .i64 e.c], BB L2 (BP r2), Ak 5 1 encB (.slice A e.d.length c) e.d]) rfl (by refine Dl (e := 34) (t := 52) (k := 5) (enc := encV) (x := .tmp 16) (c := .agg #[.int .i64 e.k, .int .u64 e.t, .int .u64 e.i, .slice A e.d.length c, .int .i64 e.c]) ?_ ?_ ?_ (⟨e, A, c⟩ : EntV) ?_ ?_ ?_; exact AK; exact (by decide); exact Er; exact rfl; exact rfl; exact rfl) ?_; rintro u1
          refine Am (post := fun ev2 => [Ak 34 5 encV u1 ([(⟨e, A, c⟩ : EntV)]), Ak 34 5 encV ev2 (l ++ [(⟨e, A, c⟩ : EntV)]), Bb (fun x : EntV => Ak 5 1 encB x.v x.e.d) l, cell gl 52 #[v], cell gx 34 #[.int .i64 e.k, .int .u64 e.t, .int .u64 e.i, .slice A e.d.length c, .int .i64 e.c], BB L2 (BP r2), Ak 5 1 encB (.slice A e.d.length c) e.d]) rfl (Do (nb := 56) 1 AK Er (by kernel_rfl) (by decide) rfl ([(⟨e, A, c⟩ : EntV)]) (fun w hH => hH.vec 0 rfl Er) (by simp only [List.length_cons, List.length_nil]; omega) rfl rfl rfl rfl) ?_; rintro ev2
          refine AL (post := fun _ => [Ak 34 5 encV u1 ([(⟨e, A, c⟩ : EntV)]), Ak 34 5 encV ev2 (l ++ [(⟨e, A, c⟩ : EntV)]), Bb (fun x : EntV => Ak 5 1 encB x.v x.e.d) l, cell gl 52 #[ev2], cell gx 34 #[.int .i64 e.k, .int .u64 e.t, .int .u64 e.i, .slice A e.d.length c, .int .i64 e.c], BB L2 (BP r2), Ak 5 1 encB (.slice A e.d.length c) e.d]) rfl rfl (Ee 3 1 (v := ev2) #[ev2] CJ.2 rfl (fun _ h => Ak.c1 h) rfl rfl rfl rfl rfl rfl rfl) ?_; rintro ⟨⟩
          refine AD (AW ?_)
          refine CN [1, 2, 6] rfl (Hw (x := (⟨e, A, c⟩ : EntV))) rfl ?_
          refine CN [2, 0] rfl (Ve (TL hl1 hei)) rfl ?_
          exact FE [3, 0] rfl rfl
      refine AW (AW ?_)
      refine CN [0, 3, 4] rfl Iv rfl ?_
      refine CN [3, 4, 5, 6, 0] rfl (JG (R := (fun svs => Fq [FG gl (By d (fs.take (j + 1))), Bd svs, fact (svs.map SegV.m = ss)])) hfc) rfl ?_
      exact FE [3, 0] rfl rfl
  intro D aT wT hDm hD0 hdf hF hH
  obtain ⟨svs, hH⟩ := Fc 0 rfl F6.open_ hH
  obtain ⟨_, hH⟩ := Fc 4 rfl HF hH
  have hm3 := EQ (p := svs.map SegV.m = ss) 2 rfl (fun _ h => h.2) hH
  obtain ⟨⟨v, l⟩, hH⟩ := Fc 0 rfl FG.open_ hH
  have hl3 := EQ (p := l.map (·.e) = By d (fs.take N)) 2 rfl (fun _ h => h.2) hH
  rw [← hN, List.take_length] at hl3
  replace hH := Oo (os := [cell gl 52 #[v], Cc 34 v l, fact (l.map (·.e) = By d (fs.take N)), Bd svs, fact (svs.map SegV.m = ss), cell p 87 #[.pointer (some ⟨dk, 0, none⟩), .int .i64 (lim : Int), sv], Ak 92 2 encSg sv svs, Ag dk d, Ao tb, fact (svs.map SegV.f = fs), cell gf 26 #[.pointer (some ⟨p, 0, none⟩)]]) (t := AA p dk lim ss) [5, 6, 3] rfl (Dv hm3) hH
  refine Xd (env := [(2, .slice none 0 0), (3, .pointer (some ⟨gl, 0, none⟩))]) (os := [AA p dk lim ss, cell gl 52 #[v], Cc 34 v l, fact (l.map (·.e) = By d (fs.take N)), fact (svs.map SegV.m = ss), Ag dk d, Ao tb, fact (svs.map SegV.f = fs), cell gf 26 #[.pointer (some ⟨p, 0, none⟩)]]) ?_ aT wT hDm hD0 hdf (hF.keep ⟨rfl, rfl, trivial⟩) hH
  refine VQ rfl (v) (fun b w hb hH => AY rfl rfl (Bi CJ rfl) (hH.row 1 rfl) hb) ?_
  refine VQ rfl (v) (fun b w hb hH => Ah Ae rfl hb) ?_
  exact Wx (Xe (fun a w hD hD0 hd hF hH => Ww (os := [AA p dk lim ss, cell gl 52 #[v], Cc 34 v l, fact (l.map (·.e) = By d (fs.take N)), fact (svs.map SegV.m = ss), Ag dk d, Ao tb, fact (svs.map SegV.f = fs), cell gf 26 #[.pointer (some ⟨p, 0, none⟩)]]) (.tmp rfl) rfl (fun w' h => AC (X := EsV) ⟨v, l⟩ rfl [2, 0, 5, 6] rfl h (fun z hz => ⟨z, .refl _, DV (xs := [Cc 34 v l, AA p dk lim ss, Ag dk d, Ao tb]) hl3 hz⟩)) D a w hD hD0 hd hF hH))
end Go.Proofs.YtnknboibmifacaaGreatDoor.Sep
