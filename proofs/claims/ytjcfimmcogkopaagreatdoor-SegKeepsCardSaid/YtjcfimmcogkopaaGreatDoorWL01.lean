/-
  SgS · SgF
-/
import Derived.Test.YtjcfimmcogkopaaGreatDoorWF01
import Derived.Test.YtjcfimmcogkopaaGreatDoorWI01
import Derived.Test.YtjcfimmcogkopaaGreatDoorWJ02
import Derived.Test.YtjcfimmcogkopaaGreatDoorWK02
set_option linter.unusedSimpArgs false
set_option linter.unusedVariables false
set_option maxRecDepth 100000
namespace Go.Proofs.YtjcfimmcogkopaaGreatDoor.Sep
open Go.RowKit
open Go.Proofs.YtjcfimmcogkopaaGreatDoor.Mem (Bb Ci Chg Aw)
def encMk (m : Int × Nat) : List Value := [.int .u64 m.1, .int .i64 (m.2 : Int)]
theorem Gm : EncOf 2 encMk := ⟨fun _ => rfl, fun x v h => by unfold encMk at h; simp at h; rcases h with rfl | rfl <;> rfl⟩
structure SegV where
  f : Nat
  l : List (Int × Nat)
  A : Option Addr
  c : Nat
def SegV.v (x : SegV) : Value := .slice x.A x.l.length x.c
def SegV.m (x : SegV) : Nat × List (Int × Nat) := (x.f, x.l)
def encSg (x : SegV) : List Value := [.int .u64 (x.f : Int), x.v]
theorem AM : EncOf 2 encSg := ⟨fun _ => rfl, fun x v h => by unfold encSg SegV.v at h; simp at h; rcases h with rfl | rfl <;> rfl⟩
def Bc (svs : List SegV) : Ass := AY (fun x : SegV => Aj 137 2 encMk x.v x.l) svs
abbrev SegsM := List (Nat × List (Int × Nat))
def Ay (p dk lim : Nat) (ss : SegsM) : Ass := fun rs => ∃ (sv : Value) (svs : List SegV), Am [cell p 76 #[.pointer (some ⟨dk, 0, none⟩), .int .i64 (lim : Int), sv], Aj 83 2 encSg sv svs, Bc svs, fact (svs.map SegV.m = ss)] rs
theorem Ay.open_ {p dk lim : Nat} {ss : SegsM} : ∀ rs, Ay p dk lim ss rs → ∃ x : Value × List SegV, Am [cell p 76 #[.pointer (some ⟨dk, 0, none⟩), .int .i64 (lim : Int), x.1], Aj 83 2 encSg x.1 x.2, Bc x.2, fact (x.2.map SegV.m = ss)] rs := fun _ ⟨sv, svs, h⟩ => ⟨(sv, svs), h⟩
theorem CV {p dk lim : Nat} {ss : SegsM} {sv : Value} {svs : List SegV} (h : svs.map SegV.m = ss) : ∀ rs, Am [cell p 76 #[.pointer (some ⟨dk, 0, none⟩), .int .i64 (lim : Int), sv], Aj 83 2 encSg sv svs, Bc svs] rs → Ay p dk lim ss rs := fun _ hz => ⟨sv, svs, D1 h hz⟩
def EO (p dk lim : Nat) (sv : Value) (d : DiskD) (tb : Tb) (fs : List Nat) (R : List SegV → Ass) : Ass := fun rs => ∃ svs : List SegV, Am [cell p 76 #[.pointer (some ⟨dk, 0, none⟩), .int .i64 (lim : Int), sv], Aj 83 2 encSg sv svs, Ag dk d, Ao tb, R svs, fact (svs.map SegV.f = fs)] rs
theorem EO.open_ {p dk lim : Nat} {sv : Value} {d : DiskD} {tb : Tb} {fs : List Nat} {R : List SegV → Ass} : ∀ rs, EO p dk lim sv d tb fs R rs → ∃ svs : List SegV, Am [cell p 76 #[.pointer (some ⟨dk, 0, none⟩), .int .i64 (lim : Int), sv], Aj 83 2 encSg sv svs, Ag dk d, Ao tb, R svs, fact (svs.map SegV.f = fs)] rs := fun _ h => h
theorem F8 {p dk lim : Nat} {sv : Value} {d : DiskD} {tb : Tb} {fs : List Nat} {R : List SegV → Ass} {svs : List SegV} (h : svs.map SegV.f = fs) : ∀ rs, Am [cell p 76 #[.pointer (some ⟨dk, 0, none⟩), .int .i64 (lim : Int), sv], Aj 83 2 encSg sv svs, Ag dk d, Ao tb, R svs] rs → EO p dk lim sv d tb fs R rs := fun _ hz => ⟨svs, D1 h hz⟩
theorem RM {a b c d x f : Ass} {A : List Ass} : ([a, b, c, d, x, f] ++ A).Perm (x :: ([a, b, c, d, f] ++ A)) := List.perm_middle (l₁ := [a, b, c, d]) (l₂ := f :: A)
theorem RN {p dk lim : Nat} {sv : Value} {d : DiskD} {tb : Tb} {fs : List Nat} {X : List SegV → Ass} {A : List Ass} {L : Nat} {r : Loop} {rs : List RowT} (h : Am (EO p dk lim sv d tb fs (fun s => Ed L r (X s)) :: A) rs) : ∃ rs', rs.Perm rs' ∧ Am (BL L r :: EO p dk lim sv d tb fs X :: A) rs' := by
 obtain ⟨a, b, e, ⟨svs, h1⟩, h2⟩ := h
 have h3 : Am ([cell p 76 #[.pointer (some ⟨dk, 0, none⟩), .int .i64 (lim : Int), sv], Aj 83 2 encSg sv svs, Ag dk d, Ao tb, Ed L r (X svs), fact (svs.map SegV.f = fs)] ++ A) rs := e ▸ h1.app h2
 have h4 : ([cell p 76 #[.pointer (some ⟨dk, 0, none⟩), .int .i64 (lim : Int), sv], Aj 83 2 encSg sv svs, Ag dk d, Ao tb, Ed L r (X svs), fact (svs.map SegV.f = fs)] ++ A).Perm (Ed L r (X svs) :: ([cell p 76 #[.pointer (some ⟨dk, 0, none⟩), .int .i64 (lim : Int), sv], Aj 83 2 encSg sv svs, Ag dk d, Ao tb, fact (svs.map SegV.f = fs)] ++ A)) := RM
 obtain ⟨rs1, p1, h5⟩ := h3.perm h4
 have h6 := Jb h5
 have h7 : (BL L r :: X svs :: ([cell p 76 #[.pointer (some ⟨dk, 0, none⟩), .int .i64 (lim : Int), sv], Aj 83 2 encSg sv svs, Ag dk d, Ao tb, fact (svs.map SegV.f = fs)] ++ A)).Perm ([BL L r] ++ ([cell p 76 #[.pointer (some ⟨dk, 0, none⟩), .int .i64 (lim : Int), sv], Aj 83 2 encSg sv svs, Ag dk d, Ao tb, X svs, fact (svs.map SegV.f = fs)] ++ A)) := List.Perm.cons _ RM.symm
 obtain ⟨rs2, p2, h8⟩ := h6.perm h7
 obtain ⟨x, y, e1, h9, h10⟩ := h8.split
 obtain ⟨y1, y2, e2, h11, h12⟩ := h10.split
 refine ⟨rs2, p1.trans p2, ?_⟩
 rw [e1, e2]
 exact ⟨x, y1 ++ y2, rfl, Am.one' h9, y1, y2, rfl, ⟨svs, h11⟩, h12⟩
theorem UH {p dk lim : Nat} {sv : Value} {d : DiskD} {tb : Tb} {fs : List Nat} {X : List SegV → Ass} {A : List Ass} {L : Nat} {r : Loop} {rs : List RowT} (h : Am (BL L r :: EO p dk lim sv d tb fs X :: A) rs) : ∃ rs', rs.Perm rs' ∧ Am (EO p dk lim sv d tb fs (fun s => Ed L r (X s)) :: A) rs' := by
 obtain ⟨x, y, e1, h9, y1, y2, e2, ⟨svs, h11⟩, h12⟩ := h
 have h8 : Am ([BL L r] ++ ([cell p 76 #[.pointer (some ⟨dk, 0, none⟩), .int .i64 (lim : Int), sv], Aj 83 2 encSg sv svs, Ag dk d, Ao tb, X svs, fact (svs.map SegV.f = fs)] ++ A)) rs := by
  rw [e1, e2]
  exact (Am.one h9).app (h11.app h12)
 have h7 : ([BL L r] ++ ([cell p 76 #[.pointer (some ⟨dk, 0, none⟩), .int .i64 (lim : Int), sv], Aj 83 2 encSg sv svs, Ag dk d, Ao tb, X svs, fact (svs.map SegV.f = fs)] ++ A)).Perm (BL L r :: X svs :: ([cell p 76 #[.pointer (some ⟨dk, 0, none⟩), .int .i64 (lim : Int), sv], Aj 83 2 encSg sv svs, Ag dk d, Ao tb, fact (svs.map SegV.f = fs)] ++ A)) := List.Perm.cons _ RM
 obtain ⟨rs2, p2, h6⟩ := h8.perm h7
 have h5 := Kr h6
 have h4 : (Ed L r (X svs) :: ([cell p 76 #[.pointer (some ⟨dk, 0, none⟩), .int .i64 (lim : Int), sv], Aj 83 2 encSg sv svs, Ag dk d, Ao tb, fact (svs.map SegV.f = fs)] ++ A)).Perm ([cell p 76 #[.pointer (some ⟨dk, 0, none⟩), .int .i64 (lim : Int), sv], Aj 83 2 encSg sv svs, Ag dk d, Ao tb, Ed L r (X svs), fact (svs.map SegV.f = fs)] ++ A) := RM.symm
 obtain ⟨rs3, p3, h3⟩ := h5.perm h4
 obtain ⟨a, b, e, h1, h2⟩ := h3.split
 exact ⟨rs3, p2.trans p3, a, b, e, ⟨svs, h1⟩, h2⟩
theorem WH {P : Program} {F : FuncId} {args : Array Value} {p dk lim : Nat} {sv : Value} {d : DiskD} {tb : Tb} {fs : List Nat} {X Y : List SegV → Ass} {A A' : List Ass} {L : Nat} {r r' : Loop} {v : Value} (h : AV P F args (EO p dk lim sv d tb fs (fun s => Ed L r (X s)) :: A) (fun _ : Unit => v) (fun _ => EO p dk lim sv d tb fs (fun s => Ed L r' (Y s)) :: A')) : AV P F args (BL L r :: EO p dk lim sv d tb fs X :: A) (fun _ : Unit => v) (fun _ => BL L r' :: EO p dk lim sv d tb fs Y :: A') := fun w rs h1 h2 h3 => ((h.imp fun _ hz => UH hz) w rs h1 h2 h3).mono fun _ _ ⟨x, he, y, hy, hc⟩ => by
 obtain ⟨z, p1, hz⟩ := RN hy
 exact ⟨x, he, z, hz, Ie hc p1⟩
theorem WI {P : Program} {f : Value} {vs : List Value} {p dk lim : Nat} {sv : Value} {d : DiskD} {tb : Tb} {fs : List Nat} {X Y : List SegV → Ass} {A A' : List Ass} {L : Nat} {r r' : Loop} {v : Value} (h : Dn P f vs (BL L r :: EO p dk lim sv d tb fs X :: A) (fun _ : Unit => v) (fun _ => BL L r' :: EO p dk lim sv d tb fs Y :: A')) : Dn P f vs (EO p dk lim sv d tb fs (fun s => Ed L r (X s)) :: A) (fun _ : Unit => v) (fun _ => EO p dk lim sv d tb fs (fun s => Ed L r' (Y s)) :: A') := fun w rs h1 h2 h3 => ((h.imp fun _ hz => RN hz) w rs h1 h2 h3).mono fun _ _ ⟨x, he, y, hy, hc⟩ => by
 obtain ⟨z, p1, hz⟩ := UH hy
 exact ⟨x, he, z, hz, Ie hc p1⟩
section
variable {P : Program} {B : Nat → Prop} {w0 w : World} {os : List Ass} {n : Nat} {env : List (Nat × Value)} {o : Oper} {act : Act} {e : TypeId} {k : Nat} {α : Type} {enc : α → List Value} {v : Value} {l : List α}
theorem BE (i : Nat) (hi : os[i]? = some (Aj e k enc v l)) {j : Nat} (hj : j < l.length) {x : Operand} (ho : o.op = .nilCheck x) (hx : evs env x = some (AN v (j * k))) (hH : Hp B w0 w os) (hF : Fr n act env) : (execOp act.eval o).run P w = .ok (.value (AN v (j * k))) w := by
  obtain ⟨rs, hv, _⟩ := hH.thing i hi
  rcases hv with ⟨_, h2, _⟩ | ⟨g, c, cs, h2, _⟩
  · subst h2; exact absurd hj (Nat.not_lt_zero _)
  · subst h2
    have : AN (.slice (some ⟨g, 0, none⟩) l.length c) (j * k) = .pointer (some ⟨g, j * k, none⟩) := by simp [AN]
    rw [this] at hx ⊢
    exact B4 ho hx hF
end
def CT (v : Value) (i : Nat) : Value := match v with | .tuple vs => vs.getD i undef | _ => undef
def Gb (v : Value) (b : List UInt8) (ok : Bool) : Ass := fun rs => ∃ bv, v = .tuple #[bv, .bool ok] ∧ Aj 5 1 encB bv b rs
theorem Gb.open_ {v : Value} {b : List UInt8} {ok : Bool} : ∀ rs, Gb v b ok rs → ∃ x : { bv : Value // v = .tuple #[bv, .bool ok] }, Am [Aj 5 1 encB x.1 b] rs := fun _ ⟨bv, h, hv⟩ => ⟨⟨bv, h⟩, Am.one hv⟩
theorem G5 {P : Program} {B : Nat → Prop} {w0 w : World} {os : List Ass} {n : Nat} {env : List (Nat × Value)} {o : Oper} {act : Act} {v : Value} {b : List UInt8} {ok : Bool} (i : Nat) {k : Nat} (hk : k < 2) (hi : os[i]? = some (Gb v b ok)) {x : Operand} (ho : o.op = .extract x k) (hx : evs env x = some v) (hH : Hp B w0 w os) (hF : Fr n act env) : (execOp act.eval o).run P w = .ok (.value (CT v k)) w := by
 obtain ⟨rs, ⟨bv, hv, _⟩, _⟩ := hH.thing i hi
 subst hv
 have h2 : k = 0 ∨ k = 1 := by omega
 rcases h2 with rfl | rfl <;> exact Jg ho hx rfl hF
theorem E4 {p : Nat} {d : DiskD} {n b : List UInt8} {ok : Bool} (hd : d.fit) (h : (Cn d n).isSome = ok) (hb : (Cn d n).getD [] = b) : AV Tryz.prog 95 #[.pointer (some ⟨p, 0, none⟩), .string (bs n)] [Ag p d] (fun v : Value => v) (fun v => [Ag p d, Gb v b ok]) := fun w rs h1 h2 h3 => (SG hd h hb w rs h1 h2 h3).mono fun e w' ⟨bv, he, rs', hp, hc⟩ => by
 obtain ⟨a, c, e1, ha, c1, d1, e2, hv, hn⟩ := hp
 exact ⟨_, he, rs', ⟨a, c, e1, ha, c1, d1, e2, ⟨bv, rfl, hv⟩, hn⟩, hc⟩
theorem Pg {B : Nat → Prop} {w0 w : World} {os : List Ass} {t : Ass} (ids : List Nat) (hn : Dc ids = true) (ht : ∀ rs, Am (Ee ids os) rs → t rs) (h : Hp B w0 w os) : Hp B w0 w (t :: DD ids os) := by
 obtain ⟨rs, h1, h2⟩ := h
 obtain ⟨_, rs', p, h3⟩ := Hk ids hn ht rs h1
 exact ⟨rs', h3, Dk h2 p⟩
theorem NW {svs : List SegV} {fs : List Nat} {j f : Nat} (h : svs.map SegV.f = fs) (hf : fs[j]? = some f) : ∃ x, svs[j]? = some x ∧ x.f = f := by
  subst h
  rw [List.getElem?_map] at hf
  cases hx : svs[j]? with
  | none => rw [hx] at hf; cases hf
  | some x => rw [hx] at hf; exact ⟨x, rfl, by simpa using hf⟩
theorem H6 {svs : List SegV} {fs : List Nat} (h : svs.map SegV.f = fs) : svs.length = fs.length := by rw [← h, List.length_map]
end Go.Proofs.YtjcfimmcogkopaaGreatDoor.Sep
namespace Go.Proofs.YtjcfimmcogkopaaGreatDoor.Sep
open Go.RowKit
open Go.Proofs.YtjcfimmcogkopaaGreatDoor.Mem (Bb Ci Chg Aw)
theorem JP {A0 : Option Addr} {n c0 : Nat} : AV Tryz.prog 72 #[.slice A0 n c0] [] (fun (g : Nat) => .func (.func 118) #[] #[.pointer (some ⟨g, 0, none⟩)]) (fun (g : Nat) => [cell g 49 #[.slice A0 n c0]]) := by
 refine Bo (args := [.slice A0 n c0]) 4 Tryz.func72 rfl rfl rfl ?_; intro w rs
 refine Ad (Af Ae rfl (Al (post := fun g => [cell g 49 #[.slice A0 n c0]]) rfl (CW (cs := #[.slice A0 n c0]) rfl rfl rfl) ?_)); rintro g
 refine Af Ae rfl (Ab (Ad (Af Ae rfl (Aa rfl (.func (.func 118) #[] #[.pointer (some ⟨g, 0, none⟩)]) (fun b w hb hH => Nw rfl rfl hb) (Af Ae rfl (Ab (AB ?_)))))))
 exact AA (.tmp rfl) (fun w h => AH g rfl [0] rfl h El) rfl
theorem Mi {p : Nat} : AV Tryz.prog 71 #[.pointer (some ⟨p, 0, none⟩)] [] (fun (g : Nat) => .func (.func 117) #[] #[.pointer (some ⟨g, 0, none⟩)]) (fun (g : Nat) => [cell g 29 #[.pointer (some ⟨p, 0, none⟩)]]) := by
 refine Bo (args := [.pointer (some ⟨p, 0, none⟩)]) 4 Tryz.func71 rfl rfl rfl ?_; intro w rs
 refine Ad (Af Ae rfl (Al (post := fun g => [cell g 29 #[.pointer (some ⟨p, 0, none⟩)]]) rfl (CW (cs := #[.pointer (some ⟨p, 0, none⟩)]) rfl rfl rfl) ?_)); rintro g
 refine Af Ae rfl (Ab (Ad (Af Ae rfl (Aa rfl (.func (.func 117) #[] #[.pointer (some ⟨g, 0, none⟩)]) (fun b w hb hH => Nw rfl rfl hb) (Af Ae rfl (Ab (AB ?_)))))))
 exact AA (.tmp rfl) (fun w h => AH g rfl [0] rfl h El) rfl
theorem BG {P : Program} {B : Nat → Prop} {w0 w : World} {os : List Ass} {n : Nat} {env : List (Nat × Value)} {o : Oper} {act : Act} {e t : TypeId} {k : Nat} {α : Type} {enc : α → List Value} {v : Value} {l : List α} (i : Nat) {m : Nat} (hm : l.length = m) (hu : P.underlying t = some (.slice e)) (hi : os[i]? = some (Aj e k enc v l)) {x : Operand} (ho : o.op = .call { callee := .builtin .len, args := #[x], argTypes := #[t] }) (hx : evs env x = some v) (hH : Hp B w0 w os) (hF : Fr n act env) : (execOp act.eval o).run P w = .ok (.value (.int .i64 (m : Int))) w := hm ▸ Cv i hu hi ho hx hH hF
theorem UI (k : Fn) (caps : Array Value) (g p dk lim : Nat) (sv : Value) {d : DiskD} (tb : Tb) {fs : List Nat} (R : Nat → List SegV → Ass) {N : Nat} (hd : d.fit) (hfs : ∀ f, f ∈ fs → f ≤ 72057594037927935) (hl : fs.length ≤ 1000000) (hN : fs.length = N) (hyy : ∀ (j f : Nat) (bv : Value) (b : List UInt8), fs[j]? = some f → (Cn d (nameL f)).getD [] = b → Dn Tryz.prog (.func k #[] caps) [AN sv (j * 2), bv] [EO p dk lim sv d tb fs (R j), Aj 5 1 encB bv b] (fun _ : Unit => .bool true) (fun _ : Unit => [EO p dk lim sv d tb fs (R (j + 1))])) : AV Tryz.prog 117 #[.func k #[] caps, .pointer (some ⟨g, 0, none⟩)] [EO p dk lim sv d tb fs (R 0), cell g 29 #[.pointer (some ⟨p, 0, none⟩)]] (fun (_ : Unit) => .tuple #[]) (fun (_ : Unit) => [EO p dk lim sv d tb fs (R N), cell g 29 #[.pointer (some ⟨p, 0, none⟩)]]) := by
  refine Bo (args := [.func k #[] caps, .pointer (some ⟨g, 0, none⟩)]) 40 Tryz.func117 rfl rfl rfl ?_; intro w rs
  refine AX 0 rfl EO.open_ (fun _ => rfl) ?_; rintro svs
  refine AL.fact 5 rfl (fun _ h => h.2) ?_; rintro hfc0
  refine AL.leave [5] rfl rfl ?_
  have hsl0 := H6 hfc0
  have hsl0' := hsl0
  refine Ad (Af Ae rfl (Aa rfl (.pointer (some ⟨p, 0, none⟩)) (fun b w hb hH => Ba rfl rfl (Bl Dl rfl) (hH.row 5 rfl) hb) (Aa rfl (.pointer (some ⟨p, 0, none⟩)) (fun b w hb hH => by exact B4 rfl rfl hb) (Af Ae rfl (Aa rfl (sv) (fun b w hb hH => Ba rfl rfl (Bl C6 rfl) (hH.row 0 rfl) hb) (Aa rfl (.int .i64 (fs.length : Int)) (fun b w hb hH => BG 1 hsl0 Tryz.underlying74 rfl rfl rfl hH hb) (Af Ae rfl (Ab (AK (Bj [0, 1, 2, 3, 4] rfl (F8 hfc0) rfl ?_))))))))))
  refine CC (α := Nat) (fun j => [(0, .func k #[] caps), (1, .pointer (some ⟨g, 0, none⟩)), (11, .int .i64 (fs.length : Int)), (12, .int .i64 (j : Int))]) (fun j => [EO p dk lim sv d tb fs (R j), cell g 29 #[.pointer (some ⟨p, 0, none⟩)]]) (fun j => j ≤ N) (fun j => N - j) 0 (Nat.zero_le _) ⟨rfl, rfl, rfl, rfl, trivial⟩ rfl ?_
  rintro j hI
  refine AL.at_ (env' := [(0, .func k #[] caps), (1, .pointer (some ⟨g, 0, none⟩)), (11, .int .i64 (fs.length : Int)), (12, .int .i64 (j : Int))]) (rs' := [EO p dk lim sv d tb fs (R j), cell g 29 #[.pointer (some ⟨p, 0, none⟩)]]) ⟨rfl, rfl, rfl, rfl, trivial⟩ rfl ?_
  rcases Nat.lt_or_ge j N with hjN | hjN
  have hlt : j < fs.length := by omega
  obtain ⟨f, hf⟩ : ∃ f, fs[j]? = some f := ⟨_, List.getElem?_eq_getElem hlt⟩
  obtain ⟨b, hb_⟩ : ∃ b, (Cn d (nameL f)).getD [] = b := ⟨_, rfl⟩
  obtain ⟨ok, hok⟩ : ∃ ok, (Cn d (nameL f)).isSome = ok := ⟨_, rfl⟩
  have hfb := hfs f (List.mem_of_getElem? hf)
  refine Ad (Af Ae rfl (Aa rfl (.bool true) (fun b w hb hH => A5 rfl rfl rfl (BY (by omega)) hb) (Ab (Ar (AE rfl (Av (AC (Ar (AK (Ad (Af Ae rfl (Ab (AX 0 rfl EO.open_ (fun _ => rfl) ?_))))))))))))); rintro svs
  refine AL.fact 5 rfl (fun _ h => h.2) ?_; rintro hfc
  refine AL.leave [5] rfl rfl ?_
  obtain ⟨x, hx, hxf⟩ := NW hfc hf
  have hsl := H6 hfc
  refine Ad (Af Ae rfl (Aa rfl (.pointer (some ⟨p, 0, none⟩)) (fun b w hb hH => Ba rfl rfl (Bl Dl rfl) (hH.row 5 rfl) hb) (Aa rfl (.pointer (some ⟨p, 0, none⟩)) (fun b w hb hH => by exact B4 rfl rfl hb) (Af Ae rfl (Aa rfl (sv) (fun b w hb hH => Ba rfl rfl (Bl C6 rfl) (hH.row 0 rfl) hb) (Af Ae rfl (Aa rfl (AN sv (j * 2)) (fun b w hb hH => EZ 1 BT AM rfl j (by omega) rfl rfl rfl hH hb) (Af Ae rfl (Ab (Ar ?_))))))))))
  refine EY 1 rfl ?_
  refine BV 14 2 [⟨.quiet, [none, none], fun _ => .pointer (some ⟨p, 0, none⟩), []⟩, ⟨.quiet, [none, none], fun _ => .pointer (some ⟨p, 0, none⟩), [0]⟩, ⟨.quiet, [none, none], fun _ => .pointer (some ⟨p, 0, none⟩), [1]⟩, ⟨.quiet, [none, none], fun _ => .pointer (some ⟨dk, 0, none⟩), [2]⟩, ⟨.quiet, [none, none], fun _ => AN sv (j * 2), []⟩, ⟨.quiet, [none, none], fun _ => AN sv (j * 2), [4]⟩, ⟨.quiet, [none, none], fun _ => AN sv (j * 2 + 0), [5]⟩, ⟨.quiet, [none, none], fun _ => .int .u64 (x.f : Int), [6]⟩, ⟨.actv 0, [some false, some false], fun _ => .string (bs (nameL x.f)), [7]⟩, ⟨.act 1, [some true, some false], fun _ => undef, [3, 8]⟩, ⟨.quiet, [some true, some true], fun ρ => match ρ with | [_, some rv] => rv | _ => undef, [9]⟩, ⟨.quiet, [some true, some true], fun ρ => match ρ with | [_, some rv] => (CT rv 0) | _ => undef, [10]⟩, ⟨.quiet, [some true, some true], fun ρ => match ρ with | [_, some rv] => (CT rv 1) | _ => undef, [10]⟩, ⟨.quiet, [some true, some true], fun ρ => match ρ with | [_, some rv] => (CT rv 0) | _ => undef, [11]⟩] [(0, .func k #[] caps), (1, .pointer (some ⟨g, 0, none⟩)), (11, .int .i64 (fs.length : Int)), (12, .int .i64 (j : Int)), (13, .bool true), (14, .int .i64 (j : Int)), (3, .int .i64 (j : Int)), (15, .pointer (some ⟨p, 0, none⟩)), (16, .pointer (some ⟨p, 0, none⟩)), (17, .pointer (some ⟨p, 2, none⟩)), (18, sv), (19, .int .i64 (j : Int)), (20, AN sv (j * 2)), (4, AN sv (j * 2))] (fun ρ => match ρ with | [r0, r1] => [DT r1 (fun rv => Gb rv b ok) (Gj), cell p 76 #[.pointer (some ⟨dk, 0, none⟩), .int .i64 (lim : Int), sv], Aj 83 2 encSg sv svs, Ag dk d, Ao tb, R j svs, cell g 29 #[.pointer (some ⟨p, 0, none⟩)]] | _ => []) (by kernel_rfl) (by kernel_rfl) ⟨rfl, rfl, rfl, rfl, rfl, rfl, rfl, rfl, rfl, rfl, rfl, rfl, rfl, rfl, trivial⟩ rfl ?_ ?_
  refine Ac (by intro r0_ r1_; exact ⟨rfl, fun b w hH hb => Ba rfl rfl (Bl Dl rfl) (hH.row 6 rfl) hb⟩) (Ac (by intro r0_ r1_; exact ⟨rfl, fun b w hH hb => by exact B4 rfl rfl hb⟩) (Ac (by intro r0_ r1_; exact ⟨rfl, fun b w hH hb => Ah Ae rfl hb⟩) (Ac (by intro r0_ r1_; exact ⟨rfl, fun b w hH hb => Ba rfl rfl (Bl B8 rfl) (hH.row 1 rfl) hb⟩) (Ac (by intro r0_ r1_; exact ⟨rfl, fun b w hH hb => Ah Ae rfl hb⟩) ?_))))
  refine Ac (by intro r0_ r1_; exact ⟨rfl, fun b w hH hb => BE 2 rfl (j := j) (List.getElem?_eq_some_iff.1 hx).1 rfl rfl hH hb⟩) ?_
  refine Ac (by intro r0_ r1_; exact ⟨rfl, fun b w hH hb => FR AM (by decide) (hH.vec 2 rfl AM) (j := j) hx Bf rfl rfl hb⟩) (Ac (by intro r0_ r1_; exact ⟨rfl, fun b w hH hb => Bq AM (by decide) (hH.vec 2 rfl AM) (j := j) hx AQ (off := 0) rfl rfl rfl hb⟩) (Ac (by exact ⟨rfl, Bt.su (As (os' := fun _ => [Gj, cell p 76 #[.pointer (some ⟨dk, 0, none⟩), .int .i64 (lim : Int), sv], Aj 83 2 encSg sv svs, Ag dk d, Ao tb, R j svs, cell g 29 #[.pointer (some ⟨p, 0, none⟩)]]) [4] 0 (Ai Tryz.func29 (by kernel_rfl) rfl) (C7 tb (n := x.f) (by omega)) rfl rfl rfl (fun _ => rfl) rfl rfl rfl) rfl⟩) (Ac (by intro v0_; exact ⟨rfl, Bt.s (As (os' := fun rv => [Gb rv b ok, cell p 76 #[.pointer (some ⟨dk, 0, none⟩), .int .i64 (lim : Int), sv], Aj 83 2 encSg sv svs, Ag dk d, Ao tb, R j svs, cell g 29 #[.pointer (some ⟨p, 0, none⟩)]]) [3, 0] 1 (Ai Tryz.func95 (by kernel_rfl) rfl) (E4 hd (by rw [hxf]; exact hok) (by rw [hxf]; exact hb_)) rfl rfl rfl (fun _ => rfl) rfl rfl rfl) (fun _ => rfl)⟩) (Ac (by intro v0_ rv; exact ⟨rfl, fun b w hH hb => Ah Ae rfl hb⟩) (Ac (by intro v0_ rv; exact ⟨rfl, fun b w hH hb => G5 0 (by decide) rfl rfl rfl hH hb⟩) (Ac (by intro v0_ rv; exact ⟨rfl, fun b w hH hb => G5 0 (by decide) rfl rfl rfl hH hb⟩) (Ac (by intro v0_ rv; exact ⟨rfl, fun b w hH hb => Ah Ae rfl hb⟩) ?_)))))))
  exact B9
  intro v0_ rv
  refine BU.keep (env' := [(0, .func k #[] caps), (1, .pointer (some ⟨g, 0, none⟩)), (11, .int .i64 (fs.length : Int)), (12, .int .i64 (j : Int)), (13, .bool true), (14, .int .i64 (j : Int)), (3, .int .i64 (j : Int)), (15, .pointer (some ⟨p, 0, none⟩)), (16, .pointer (some ⟨p, 0, none⟩)), (17, .pointer (some ⟨p, 2, none⟩)), (18, sv), (19, .int .i64 (j : Int)), (20, AN sv (j * 2)), (4, AN sv (j * 2)), (22, .pointer (some ⟨p, 0, none⟩)), (23, .pointer (some ⟨p, 0, none⟩)), (24, .pointer (some ⟨p, 0, none⟩)), (25, .pointer (some ⟨dk, 0, none⟩)), (26, AN sv (j * 2)), (27, AN sv (j * 2)), (28, AN sv (j * 2 + 0)), (29, .int .u64 (x.f : Int)), (30, .string (bs (nameL x.f))), (31, rv), (21, rv), (32, (CT rv 0)), (33, (CT rv 1)), (5, (CT rv 0))]) ⟨rfl, rfl, rfl, rfl, rfl, rfl, rfl, rfl, rfl, rfl, rfl, rfl, rfl, rfl, rfl, rfl, rfl, rfl, rfl, rfl, rfl, rfl, rfl, rfl, rfl, rfl, rfl, rfl, trivial⟩ (FO 0 rfl Gb.open_ (fun _ => rfl) ?_); rintro ⟨bv, rfl⟩
  refine BU.keep (env' := [(0, .func k #[] caps), (1, .pointer (some ⟨g, 0, none⟩)), (11, .int .i64 (fs.length : Int)), (12, .int .i64 (j : Int)), (13, .bool true), (14, .int .i64 (j : Int)), (3, .int .i64 (j : Int)), (15, .pointer (some ⟨p, 0, none⟩)), (16, .pointer (some ⟨p, 0, none⟩)), (17, .pointer (some ⟨p, 2, none⟩)), (18, sv), (19, .int .i64 (j : Int)), (20, AN sv (j * 2)), (4, AN sv (j * 2)), (22, .pointer (some ⟨p, 0, none⟩)), (23, .pointer (some ⟨p, 0, none⟩)), (24, .pointer (some ⟨p, 0, none⟩)), (25, .pointer (some ⟨dk, 0, none⟩)), (26, AN sv (j * 2)), (27, AN sv (j * 2)), (28, AN sv (j * 2 + 0)), (29, .int .u64 (x.f : Int)), (30, .string (bs (nameL x.f))), (31, .tuple #[bv, .bool ok]), (21, .tuple #[bv, .bool ok]), (32, bv), (33, .bool ok), (5, bv)]) ⟨rfl, rfl, rfl, rfl, rfl, rfl, rfl, rfl, rfl, rfl, rfl, rfl, rfl, rfl, rfl, rfl, rfl, rfl, rfl, rfl, rfl, rfl, rfl, rfl, rfl, rfl, rfl, rfl, trivial⟩ (BU.mid [Aj 5 1 encB bv b, cell p 76 #[.pointer (some ⟨dk, 0, none⟩), .int .i64 (lim : Int), sv], Aj 83 2 encSg sv svs, Ag dk d, Ao tb, R j svs, cell g 29 #[.pointer (some ⟨p, 0, none⟩)]] (.refl _) (Af Ae rfl (AG (AC (Bj [1, 2, 3, 4, 5] rfl (F8 hfc) rfl (Ar (Kq (KN Hb 3 (by rintro ⟨a, w, h⟩; first | exact h.elim | exact nomatch h.1 | (obtain ⟨_, h, _⟩ := h; exact nomatch h)) (by kernel_rfl) (Af Ae rfl (O9 (F5 (X := Unit) (post := fun _ => [EO p dk lim sv d tb fs (R (j + 1))]) (os' := fun _ => [EO p dk lim sv d tb fs (R (j + 1)), cell g 29 #[.pointer (some ⟨p, 0, none⟩)]]) Hb [0, 1] (hyy j f bv b hf hb_) rfl rfl rfl rfl rfl rfl (fun _ => rfl) ?_))))))))))); rintro ⟨⟩
  refine E3 Hb (by rintro ⟨a, w, h⟩; first | exact h.elim | exact nomatch h.1 | (obtain ⟨_, h, _⟩ := h; exact nomatch h)) (by kernel_rfl) (Af Ae rfl (AG (AC (Au rfl (Av (A6 (AC (BB (Af Ae rfl (Aa rfl (.int .i64 ((j + 1 : Nat) : Int)) (fun b w hb hH => AJ rfl rfl rfl rfl (by rw [IntWalk.i64_in _ (by omega)]; omega) hb) (Af Ae rfl (AG ?_))))))))))))
  exact B6 (j + 1) 0 (by omega) (show N - (j + 1) < N - j by omega) ⟨rfl, rfl, rfl, rfl, trivial⟩ rfl
  obtain rfl : j = N := by omega
  refine Ad (Af Ae rfl (Aa rfl (.bool false) (fun b w hb hH => A5 rfl rfl rfl (BI (by omega)) hb) (Ab (Ar (Au rfl (CJ (Fq (Fq (Bg ?_)))))))))
  exact D5  (fun w h => AH () rfl [0, 1] rfl h El) rfl
theorem V6 (k : Fn) (caps : Array Value) (g p dk lim : Nat) (sv : Value) {d : DiskD} (tb : Tb) {fs : List Nat} (R : Nat → List SegV → Ass) (Z : Ass) {N : Nat} (hd : d.fit) (hfs : ∀ f, f ∈ fs → f ≤ 72057594037927935) (hl : fs.length ≤ 1000000) (hN : N < fs.length) (hyy : ∀ (j f : Nat) (bv : Value) (b : List UInt8), fs[j]? = some f → (Cn d (nameL f)).getD [] = b → j < N → Dn Tryz.prog (.func k #[] caps) [AN sv (j * 2), bv] [EO p dk lim sv d tb fs (R j), Aj 5 1 encB bv b] (fun _ : Unit => .bool true) (fun _ : Unit => [EO p dk lim sv d tb fs (R (j + 1))])) (hzz : ∀ (j f : Nat) (bv : Value) (b : List UInt8), fs[j]? = some f → (Cn d (nameL f)).getD [] = b → j = N → Dn Tryz.prog (.func k #[] caps) [AN sv (j * 2), bv] [EO p dk lim sv d tb fs (R j), Aj 5 1 encB bv b] (fun _ : Unit => .bool false) (fun _ : Unit => [Z])) : AV Tryz.prog 117 #[.func k #[] caps, .pointer (some ⟨g, 0, none⟩)] [EO p dk lim sv d tb fs (R 0), cell g 29 #[.pointer (some ⟨p, 0, none⟩)]] (fun (_ : Unit) => .tuple #[]) (fun (_ : Unit) => [Z, cell g 29 #[.pointer (some ⟨p, 0, none⟩)]]) := by
  refine Bo (args := [.func k #[] caps, .pointer (some ⟨g, 0, none⟩)]) 40 Tryz.func117 rfl rfl rfl ?_; intro w rs
  refine AX 0 rfl EO.open_ (fun _ => rfl) ?_; rintro svs
  refine AL.fact 5 rfl (fun _ h => h.2) ?_; rintro hfc0
  refine AL.leave [5] rfl rfl ?_
  have hsl0 := H6 hfc0
  have hsl0' := hsl0
  refine Ad (Af Ae rfl (Aa rfl (.pointer (some ⟨p, 0, none⟩)) (fun b w hb hH => Ba rfl rfl (Bl Dl rfl) (hH.row 5 rfl) hb) (Aa rfl (.pointer (some ⟨p, 0, none⟩)) (fun b w hb hH => by exact B4 rfl rfl hb) (Af Ae rfl (Aa rfl (sv) (fun b w hb hH => Ba rfl rfl (Bl C6 rfl) (hH.row 0 rfl) hb) (Aa rfl (.int .i64 (fs.length : Int)) (fun b w hb hH => BG 1 hsl0 Tryz.underlying74 rfl rfl rfl hH hb) (Af Ae rfl (Ab (AK (Bj [0, 1, 2, 3, 4] rfl (F8 hfc0) rfl ?_))))))))))
  refine CC (α := Nat) (fun j => [(0, .func k #[] caps), (1, .pointer (some ⟨g, 0, none⟩)), (11, .int .i64 (fs.length : Int)), (12, .int .i64 (j : Int))]) (fun j => [EO p dk lim sv d tb fs (R j), cell g 29 #[.pointer (some ⟨p, 0, none⟩)]]) (fun j => j ≤ N) (fun j => N + 1 - j) 0 (Nat.zero_le _) ⟨rfl, rfl, rfl, rfl, trivial⟩ rfl ?_
  rintro j hI
  refine AL.at_ (env' := [(0, .func k #[] caps), (1, .pointer (some ⟨g, 0, none⟩)), (11, .int .i64 (fs.length : Int)), (12, .int .i64 (j : Int))]) (rs' := [EO p dk lim sv d tb fs (R j), cell g 29 #[.pointer (some ⟨p, 0, none⟩)]]) ⟨rfl, rfl, rfl, rfl, trivial⟩ rfl ?_
  have hlt : j < fs.length := by omega
  rcases Nat.lt_or_ge j N with hjN | hjN
  obtain ⟨f, hf⟩ : ∃ f, fs[j]? = some f := ⟨_, List.getElem?_eq_getElem hlt⟩
  obtain ⟨b, hb_⟩ : ∃ b, (Cn d (nameL f)).getD [] = b := ⟨_, rfl⟩
  obtain ⟨ok, hok⟩ : ∃ ok, (Cn d (nameL f)).isSome = ok := ⟨_, rfl⟩
  have hfb := hfs f (List.mem_of_getElem? hf)
  refine Ad (Af Ae rfl (Aa rfl (.bool true) (fun b w hb hH => A5 rfl rfl rfl (BY (by omega)) hb) (Ab (Ar (AE rfl (Av (AC (Ar (AK (Ad (Af Ae rfl (Ab (AX 0 rfl EO.open_ (fun _ => rfl) ?_))))))))))))); rintro svs
  refine AL.fact 5 rfl (fun _ h => h.2) ?_; rintro hfc
  refine AL.leave [5] rfl rfl ?_
  obtain ⟨x, hx, hxf⟩ := NW hfc hf
  have hsl := H6 hfc
  refine Ad (Af Ae rfl (Aa rfl (.pointer (some ⟨p, 0, none⟩)) (fun b w hb hH => Ba rfl rfl (Bl Dl rfl) (hH.row 5 rfl) hb) (Aa rfl (.pointer (some ⟨p, 0, none⟩)) (fun b w hb hH => by exact B4 rfl rfl hb) (Af Ae rfl (Aa rfl (sv) (fun b w hb hH => Ba rfl rfl (Bl C6 rfl) (hH.row 0 rfl) hb) (Af Ae rfl (Aa rfl (AN sv (j * 2)) (fun b w hb hH => EZ 1 BT AM rfl j (by omega) rfl rfl rfl hH hb) (Af Ae rfl (Ab (Ar ?_))))))))))
  refine EY 1 rfl ?_
  refine BV 14 2 [⟨.quiet, [none, none], fun _ => .pointer (some ⟨p, 0, none⟩), []⟩, ⟨.quiet, [none, none], fun _ => .pointer (some ⟨p, 0, none⟩), [0]⟩, ⟨.quiet, [none, none], fun _ => .pointer (some ⟨p, 0, none⟩), [1]⟩, ⟨.quiet, [none, none], fun _ => .pointer (some ⟨dk, 0, none⟩), [2]⟩, ⟨.quiet, [none, none], fun _ => AN sv (j * 2), []⟩, ⟨.quiet, [none, none], fun _ => AN sv (j * 2), [4]⟩, ⟨.quiet, [none, none], fun _ => AN sv (j * 2 + 0), [5]⟩, ⟨.quiet, [none, none], fun _ => .int .u64 (x.f : Int), [6]⟩, ⟨.actv 0, [some false, some false], fun _ => .string (bs (nameL x.f)), [7]⟩, ⟨.act 1, [some true, some false], fun _ => undef, [3, 8]⟩, ⟨.quiet, [some true, some true], fun ρ => match ρ with | [_, some rv] => rv | _ => undef, [9]⟩, ⟨.quiet, [some true, some true], fun ρ => match ρ with | [_, some rv] => (CT rv 0) | _ => undef, [10]⟩, ⟨.quiet, [some true, some true], fun ρ => match ρ with | [_, some rv] => (CT rv 1) | _ => undef, [10]⟩, ⟨.quiet, [some true, some true], fun ρ => match ρ with | [_, some rv] => (CT rv 0) | _ => undef, [11]⟩] [(0, .func k #[] caps), (1, .pointer (some ⟨g, 0, none⟩)), (11, .int .i64 (fs.length : Int)), (12, .int .i64 (j : Int)), (13, .bool true), (14, .int .i64 (j : Int)), (3, .int .i64 (j : Int)), (15, .pointer (some ⟨p, 0, none⟩)), (16, .pointer (some ⟨p, 0, none⟩)), (17, .pointer (some ⟨p, 2, none⟩)), (18, sv), (19, .int .i64 (j : Int)), (20, AN sv (j * 2)), (4, AN sv (j * 2))] (fun ρ => match ρ with | [r0, r1] => [DT r1 (fun rv => Gb rv b ok) (Gj), cell p 76 #[.pointer (some ⟨dk, 0, none⟩), .int .i64 (lim : Int), sv], Aj 83 2 encSg sv svs, Ag dk d, Ao tb, R j svs, cell g 29 #[.pointer (some ⟨p, 0, none⟩)]] | _ => []) (by kernel_rfl) (by kernel_rfl) ⟨rfl, rfl, rfl, rfl, rfl, rfl, rfl, rfl, rfl, rfl, rfl, rfl, rfl, rfl, trivial⟩ rfl ?_ ?_
  refine Ac (by intro r0_ r1_; exact ⟨rfl, fun b w hH hb => Ba rfl rfl (Bl Dl rfl) (hH.row 6 rfl) hb⟩) (Ac (by intro r0_ r1_; exact ⟨rfl, fun b w hH hb => by exact B4 rfl rfl hb⟩) (Ac (by intro r0_ r1_; exact ⟨rfl, fun b w hH hb => Ah Ae rfl hb⟩) (Ac (by intro r0_ r1_; exact ⟨rfl, fun b w hH hb => Ba rfl rfl (Bl B8 rfl) (hH.row 1 rfl) hb⟩) (Ac (by intro r0_ r1_; exact ⟨rfl, fun b w hH hb => Ah Ae rfl hb⟩) ?_))))
  refine Ac (by intro r0_ r1_; exact ⟨rfl, fun b w hH hb => BE 2 rfl (j := j) (List.getElem?_eq_some_iff.1 hx).1 rfl rfl hH hb⟩) ?_
  refine Ac (by intro r0_ r1_; exact ⟨rfl, fun b w hH hb => FR AM (by decide) (hH.vec 2 rfl AM) (j := j) hx Bf rfl rfl hb⟩) (Ac (by intro r0_ r1_; exact ⟨rfl, fun b w hH hb => Bq AM (by decide) (hH.vec 2 rfl AM) (j := j) hx AQ (off := 0) rfl rfl rfl hb⟩) (Ac (by exact ⟨rfl, Bt.su (As (os' := fun _ => [Gj, cell p 76 #[.pointer (some ⟨dk, 0, none⟩), .int .i64 (lim : Int), sv], Aj 83 2 encSg sv svs, Ag dk d, Ao tb, R j svs, cell g 29 #[.pointer (some ⟨p, 0, none⟩)]]) [4] 0 (Ai Tryz.func29 (by kernel_rfl) rfl) (C7 tb (n := x.f) (by omega)) rfl rfl rfl (fun _ => rfl) rfl rfl rfl) rfl⟩) (Ac (by intro v0_; exact ⟨rfl, Bt.s (As (os' := fun rv => [Gb rv b ok, cell p 76 #[.pointer (some ⟨dk, 0, none⟩), .int .i64 (lim : Int), sv], Aj 83 2 encSg sv svs, Ag dk d, Ao tb, R j svs, cell g 29 #[.pointer (some ⟨p, 0, none⟩)]]) [3, 0] 1 (Ai Tryz.func95 (by kernel_rfl) rfl) (E4 hd (by rw [hxf]; exact hok) (by rw [hxf]; exact hb_)) rfl rfl rfl (fun _ => rfl) rfl rfl rfl) (fun _ => rfl)⟩) (Ac (by intro v0_ rv; exact ⟨rfl, fun b w hH hb => Ah Ae rfl hb⟩) (Ac (by intro v0_ rv; exact ⟨rfl, fun b w hH hb => G5 0 (by decide) rfl rfl rfl hH hb⟩) (Ac (by intro v0_ rv; exact ⟨rfl, fun b w hH hb => G5 0 (by decide) rfl rfl rfl hH hb⟩) (Ac (by intro v0_ rv; exact ⟨rfl, fun b w hH hb => Ah Ae rfl hb⟩) ?_)))))))
  exact B9
  intro v0_ rv
  refine BU.keep (env' := [(0, .func k #[] caps), (1, .pointer (some ⟨g, 0, none⟩)), (11, .int .i64 (fs.length : Int)), (12, .int .i64 (j : Int)), (13, .bool true), (14, .int .i64 (j : Int)), (3, .int .i64 (j : Int)), (15, .pointer (some ⟨p, 0, none⟩)), (16, .pointer (some ⟨p, 0, none⟩)), (17, .pointer (some ⟨p, 2, none⟩)), (18, sv), (19, .int .i64 (j : Int)), (20, AN sv (j * 2)), (4, AN sv (j * 2)), (22, .pointer (some ⟨p, 0, none⟩)), (23, .pointer (some ⟨p, 0, none⟩)), (24, .pointer (some ⟨p, 0, none⟩)), (25, .pointer (some ⟨dk, 0, none⟩)), (26, AN sv (j * 2)), (27, AN sv (j * 2)), (28, AN sv (j * 2 + 0)), (29, .int .u64 (x.f : Int)), (30, .string (bs (nameL x.f))), (31, rv), (21, rv), (32, (CT rv 0)), (33, (CT rv 1)), (5, (CT rv 0))]) ⟨rfl, rfl, rfl, rfl, rfl, rfl, rfl, rfl, rfl, rfl, rfl, rfl, rfl, rfl, rfl, rfl, rfl, rfl, rfl, rfl, rfl, rfl, rfl, rfl, rfl, rfl, rfl, rfl, trivial⟩ (FO 0 rfl Gb.open_ (fun _ => rfl) ?_); rintro ⟨bv, rfl⟩
  refine BU.keep (env' := [(0, .func k #[] caps), (1, .pointer (some ⟨g, 0, none⟩)), (11, .int .i64 (fs.length : Int)), (12, .int .i64 (j : Int)), (13, .bool true), (14, .int .i64 (j : Int)), (3, .int .i64 (j : Int)), (15, .pointer (some ⟨p, 0, none⟩)), (16, .pointer (some ⟨p, 0, none⟩)), (17, .pointer (some ⟨p, 2, none⟩)), (18, sv), (19, .int .i64 (j : Int)), (20, AN sv (j * 2)), (4, AN sv (j * 2)), (22, .pointer (some ⟨p, 0, none⟩)), (23, .pointer (some ⟨p, 0, none⟩)), (24, .pointer (some ⟨p, 0, none⟩)), (25, .pointer (some ⟨dk, 0, none⟩)), (26, AN sv (j * 2)), (27, AN sv (j * 2)), (28, AN sv (j * 2 + 0)), (29, .int .u64 (x.f : Int)), (30, .string (bs (nameL x.f))), (31, .tuple #[bv, .bool ok]), (21, .tuple #[bv, .bool ok]), (32, bv), (33, .bool ok), (5, bv)]) ⟨rfl, rfl, rfl, rfl, rfl, rfl, rfl, rfl, rfl, rfl, rfl, rfl, rfl, rfl, rfl, rfl, rfl, rfl, rfl, rfl, rfl, rfl, rfl, rfl, rfl, rfl, rfl, rfl, trivial⟩ (BU.mid [Aj 5 1 encB bv b, cell p 76 #[.pointer (some ⟨dk, 0, none⟩), .int .i64 (lim : Int), sv], Aj 83 2 encSg sv svs, Ag dk d, Ao tb, R j svs, cell g 29 #[.pointer (some ⟨p, 0, none⟩)]] (.refl _) (Af Ae rfl (AG (AC (Bj [1, 2, 3, 4, 5] rfl (F8 hfc) rfl (Ar (Kq (KN Hb 3 (by rintro ⟨a, w, h⟩; first | exact h.elim | exact nomatch h.1 | (obtain ⟨_, h, _⟩ := h; exact nomatch h)) (by kernel_rfl) (Af Ae rfl (O9 (F5 (X := Unit) (post := fun _ => [EO p dk lim sv d tb fs (R (j + 1))]) (os' := fun _ => [EO p dk lim sv d tb fs (R (j + 1)), cell g 29 #[.pointer (some ⟨p, 0, none⟩)]]) Hb [0, 1] (hyy j f bv b hf hb_ hjN) rfl rfl rfl rfl rfl rfl (fun _ => rfl) ?_))))))))))); rintro ⟨⟩
  refine E3 Hb (by rintro ⟨a, w, h⟩; first | exact h.elim | exact nomatch h.1 | (obtain ⟨_, h, _⟩ := h; exact nomatch h)) (by kernel_rfl) (Af Ae rfl (AG (AC (Au rfl (Av (A6 (AC (BB (Af Ae rfl (Aa rfl (.int .i64 ((j + 1 : Nat) : Int)) (fun b w hb hH => AJ rfl rfl rfl rfl (by rw [IntWalk.i64_in _ (by omega)]; omega) hb) (Af Ae rfl (AG ?_))))))))))))
  exact B6 (j + 1) 0 (by omega) (show N + 1 - (j + 1) < N + 1 - j by omega) ⟨rfl, rfl, rfl, rfl, trivial⟩ rfl
  obtain rfl : j = N := by omega
  obtain ⟨f, hf⟩ : ∃ f, fs[j]? = some f := ⟨_, List.getElem?_eq_getElem hlt⟩
  obtain ⟨b, hb_⟩ : ∃ b, (Cn d (nameL f)).getD [] = b := ⟨_, rfl⟩
  obtain ⟨ok, hok⟩ : ∃ ok, (Cn d (nameL f)).isSome = ok := ⟨_, rfl⟩
  have hfb := hfs f (List.mem_of_getElem? hf)
  refine Ad (Af Ae rfl (Aa rfl (.bool true) (fun b w hb hH => A5 rfl rfl rfl (BY (by omega)) hb) (Ab (Ar (AE rfl (Av (AC (Ar (AK (Ad (Af Ae rfl (Ab (AX 0 rfl EO.open_ (fun _ => rfl) ?_))))))))))))); rintro svs
  refine AL.fact 5 rfl (fun _ h => h.2) ?_; rintro hfc
  refine AL.leave [5] rfl rfl ?_
  obtain ⟨x, hx, hxf⟩ := NW hfc hf
  have hsl := H6 hfc
  refine Ad (Af Ae rfl (Aa rfl (.pointer (some ⟨p, 0, none⟩)) (fun b w hb hH => Ba rfl rfl (Bl Dl rfl) (hH.row 5 rfl) hb) (Aa rfl (.pointer (some ⟨p, 0, none⟩)) (fun b w hb hH => by exact B4 rfl rfl hb) (Af Ae rfl (Aa rfl (sv) (fun b w hb hH => Ba rfl rfl (Bl C6 rfl) (hH.row 0 rfl) hb) (Af Ae rfl (Aa rfl (AN sv (j * 2)) (fun b w hb hH => EZ 1 BT AM rfl j (by omega) rfl rfl rfl hH hb) (Af Ae rfl (Ab (Ar ?_))))))))))
  refine EY 1 rfl ?_
  refine BV 14 2 [⟨.quiet, [none, none], fun _ => .pointer (some ⟨p, 0, none⟩), []⟩, ⟨.quiet, [none, none], fun _ => .pointer (some ⟨p, 0, none⟩), [0]⟩, ⟨.quiet, [none, none], fun _ => .pointer (some ⟨p, 0, none⟩), [1]⟩, ⟨.quiet, [none, none], fun _ => .pointer (some ⟨dk, 0, none⟩), [2]⟩, ⟨.quiet, [none, none], fun _ => AN sv (j * 2), []⟩, ⟨.quiet, [none, none], fun _ => AN sv (j * 2), [4]⟩, ⟨.quiet, [none, none], fun _ => AN sv (j * 2 + 0), [5]⟩, ⟨.quiet, [none, none], fun _ => .int .u64 (x.f : Int), [6]⟩, ⟨.actv 0, [some false, some false], fun _ => .string (bs (nameL x.f)), [7]⟩, ⟨.act 1, [some true, some false], fun _ => undef, [3, 8]⟩, ⟨.quiet, [some true, some true], fun ρ => match ρ with | [_, some rv] => rv | _ => undef, [9]⟩, ⟨.quiet, [some true, some true], fun ρ => match ρ with | [_, some rv] => (CT rv 0) | _ => undef, [10]⟩, ⟨.quiet, [some true, some true], fun ρ => match ρ with | [_, some rv] => (CT rv 1) | _ => undef, [10]⟩, ⟨.quiet, [some true, some true], fun ρ => match ρ with | [_, some rv] => (CT rv 0) | _ => undef, [11]⟩] [(0, .func k #[] caps), (1, .pointer (some ⟨g, 0, none⟩)), (11, .int .i64 (fs.length : Int)), (12, .int .i64 (j : Int)), (13, .bool true), (14, .int .i64 (j : Int)), (3, .int .i64 (j : Int)), (15, .pointer (some ⟨p, 0, none⟩)), (16, .pointer (some ⟨p, 0, none⟩)), (17, .pointer (some ⟨p, 2, none⟩)), (18, sv), (19, .int .i64 (j : Int)), (20, AN sv (j * 2)), (4, AN sv (j * 2))] (fun ρ => match ρ with | [r0, r1] => [DT r1 (fun rv => Gb rv b ok) (Gj), cell p 76 #[.pointer (some ⟨dk, 0, none⟩), .int .i64 (lim : Int), sv], Aj 83 2 encSg sv svs, Ag dk d, Ao tb, R j svs, cell g 29 #[.pointer (some ⟨p, 0, none⟩)]] | _ => []) (by kernel_rfl) (by kernel_rfl) ⟨rfl, rfl, rfl, rfl, rfl, rfl, rfl, rfl, rfl, rfl, rfl, rfl, rfl, rfl, trivial⟩ rfl ?_ ?_
  refine Ac (by intro r0_ r1_; exact ⟨rfl, fun b w hH hb => Ba rfl rfl (Bl Dl rfl) (hH.row 6 rfl) hb⟩) (Ac (by intro r0_ r1_; exact ⟨rfl, fun b w hH hb => by exact B4 rfl rfl hb⟩) (Ac (by intro r0_ r1_; exact ⟨rfl, fun b w hH hb => Ah Ae rfl hb⟩) (Ac (by intro r0_ r1_; exact ⟨rfl, fun b w hH hb => Ba rfl rfl (Bl B8 rfl) (hH.row 1 rfl) hb⟩) (Ac (by intro r0_ r1_; exact ⟨rfl, fun b w hH hb => Ah Ae rfl hb⟩) ?_))))
  refine Ac (by intro r0_ r1_; exact ⟨rfl, fun b w hH hb => BE 2 rfl (j := j) (List.getElem?_eq_some_iff.1 hx).1 rfl rfl hH hb⟩) ?_
  refine Ac (by intro r0_ r1_; exact ⟨rfl, fun b w hH hb => FR AM (by decide) (hH.vec 2 rfl AM) (j := j) hx Bf rfl rfl hb⟩) (Ac (by intro r0_ r1_; exact ⟨rfl, fun b w hH hb => Bq AM (by decide) (hH.vec 2 rfl AM) (j := j) hx AQ (off := 0) rfl rfl rfl hb⟩) (Ac (by exact ⟨rfl, Bt.su (As (os' := fun _ => [Gj, cell p 76 #[.pointer (some ⟨dk, 0, none⟩), .int .i64 (lim : Int), sv], Aj 83 2 encSg sv svs, Ag dk d, Ao tb, R j svs, cell g 29 #[.pointer (some ⟨p, 0, none⟩)]]) [4] 0 (Ai Tryz.func29 (by kernel_rfl) rfl) (C7 tb (n := x.f) (by omega)) rfl rfl rfl (fun _ => rfl) rfl rfl rfl) rfl⟩) (Ac (by intro v0_; exact ⟨rfl, Bt.s (As (os' := fun rv => [Gb rv b ok, cell p 76 #[.pointer (some ⟨dk, 0, none⟩), .int .i64 (lim : Int), sv], Aj 83 2 encSg sv svs, Ag dk d, Ao tb, R j svs, cell g 29 #[.pointer (some ⟨p, 0, none⟩)]]) [3, 0] 1 (Ai Tryz.func95 (by kernel_rfl) rfl) (E4 hd (by rw [hxf]; exact hok) (by rw [hxf]; exact hb_)) rfl rfl rfl (fun _ => rfl) rfl rfl rfl) (fun _ => rfl)⟩) (Ac (by intro v0_ rv; exact ⟨rfl, fun b w hH hb => Ah Ae rfl hb⟩) (Ac (by intro v0_ rv; exact ⟨rfl, fun b w hH hb => G5 0 (by decide) rfl rfl rfl hH hb⟩) (Ac (by intro v0_ rv; exact ⟨rfl, fun b w hH hb => G5 0 (by decide) rfl rfl rfl hH hb⟩) (Ac (by intro v0_ rv; exact ⟨rfl, fun b w hH hb => Ah Ae rfl hb⟩) ?_)))))))
  exact B9
  intro v0_ rv
  refine BU.keep (env' := [(0, .func k #[] caps), (1, .pointer (some ⟨g, 0, none⟩)), (11, .int .i64 (fs.length : Int)), (12, .int .i64 (j : Int)), (13, .bool true), (14, .int .i64 (j : Int)), (3, .int .i64 (j : Int)), (15, .pointer (some ⟨p, 0, none⟩)), (16, .pointer (some ⟨p, 0, none⟩)), (17, .pointer (some ⟨p, 2, none⟩)), (18, sv), (19, .int .i64 (j : Int)), (20, AN sv (j * 2)), (4, AN sv (j * 2)), (22, .pointer (some ⟨p, 0, none⟩)), (23, .pointer (some ⟨p, 0, none⟩)), (24, .pointer (some ⟨p, 0, none⟩)), (25, .pointer (some ⟨dk, 0, none⟩)), (26, AN sv (j * 2)), (27, AN sv (j * 2)), (28, AN sv (j * 2 + 0)), (29, .int .u64 (x.f : Int)), (30, .string (bs (nameL x.f))), (31, rv), (21, rv), (32, (CT rv 0)), (33, (CT rv 1)), (5, (CT rv 0))]) ⟨rfl, rfl, rfl, rfl, rfl, rfl, rfl, rfl, rfl, rfl, rfl, rfl, rfl, rfl, rfl, rfl, rfl, rfl, rfl, rfl, rfl, rfl, rfl, rfl, rfl, rfl, rfl, rfl, trivial⟩ (FO 0 rfl Gb.open_ (fun _ => rfl) ?_); rintro ⟨bv, rfl⟩
  refine BU.keep (env' := [(0, .func k #[] caps), (1, .pointer (some ⟨g, 0, none⟩)), (11, .int .i64 (fs.length : Int)), (12, .int .i64 (j : Int)), (13, .bool true), (14, .int .i64 (j : Int)), (3, .int .i64 (j : Int)), (15, .pointer (some ⟨p, 0, none⟩)), (16, .pointer (some ⟨p, 0, none⟩)), (17, .pointer (some ⟨p, 2, none⟩)), (18, sv), (19, .int .i64 (j : Int)), (20, AN sv (j * 2)), (4, AN sv (j * 2)), (22, .pointer (some ⟨p, 0, none⟩)), (23, .pointer (some ⟨p, 0, none⟩)), (24, .pointer (some ⟨p, 0, none⟩)), (25, .pointer (some ⟨dk, 0, none⟩)), (26, AN sv (j * 2)), (27, AN sv (j * 2)), (28, AN sv (j * 2 + 0)), (29, .int .u64 (x.f : Int)), (30, .string (bs (nameL x.f))), (31, .tuple #[bv, .bool ok]), (21, .tuple #[bv, .bool ok]), (32, bv), (33, .bool ok), (5, bv)]) ⟨rfl, rfl, rfl, rfl, rfl, rfl, rfl, rfl, rfl, rfl, rfl, rfl, rfl, rfl, rfl, rfl, rfl, rfl, rfl, rfl, rfl, rfl, rfl, rfl, rfl, rfl, rfl, rfl, trivial⟩ (BU.mid [Aj 5 1 encB bv b, cell p 76 #[.pointer (some ⟨dk, 0, none⟩), .int .i64 (lim : Int), sv], Aj 83 2 encSg sv svs, Ag dk d, Ao tb, R j svs, cell g 29 #[.pointer (some ⟨p, 0, none⟩)]] (.refl _) (Af Ae rfl (AG (AC (Bj [1, 2, 3, 4, 5] rfl (F8 hfc) rfl (Ar (Kq (KN Hb 3 (by rintro ⟨a, w, h⟩; first | exact h.elim | exact nomatch h.1 | (obtain ⟨_, h, _⟩ := h; exact nomatch h)) (by kernel_rfl) (Af Ae rfl (O9 (F5 (X := Unit) (post := fun _ => [Z]) (os' := fun _ => [Z, cell g 29 #[.pointer (some ⟨p, 0, none⟩)]]) Hb [0, 1] (hzz j f bv b hf hb_ rfl) rfl rfl rfl rfl rfl rfl (fun _ => rfl) ?_))))))))))); rintro ⟨⟩
  refine E3 Hb (by rintro ⟨a, w, h⟩; first | exact h.elim | exact nomatch h.1 | (obtain ⟨_, h, _⟩ := h; exact nomatch h)) (by kernel_rfl) (Af Ae rfl (AG (AC (AE rfl (AB (BH (Ek (Ek (BH ?_)))))))))
  exact JY  (fun w h => AH () rfl [0, 1] rfl h El) rfl
end Go.Proofs.YtjcfimmcogkopaaGreatDoor.Sep
