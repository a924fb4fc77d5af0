/-
  SgS · SgF · SgL
-/
import Derived.Test.YtaipejaeeohpkaaGreatDoorUF01
import Derived.Test.YtaipejaeeohpkaaGreatDoorUI01
import Derived.Test.YtaipejaeeohpkaaGreatDoorUJ02
import Derived.Test.YtaipejaeeohpkaaGreatDoorUK02
set_option linter.unusedSimpArgs false
set_option linter.unusedVariables false
set_option maxRecDepth 100000
namespace Go.Proofs.YtaipejaeeohpkaaGreatDoor.Sep
open Go.RowKit
open Go.Proofs.YtaipejaeeohpkaaGreatDoor.Mem (Dist Blk Chg below0)
def encMk (m : Int × Nat) : List Value := [.int .u64 m.1, .int .i64 (m.2 : Int)]
theorem okMk : EncOf 2 encMk := ⟨fun _ => rfl, fun x v h => by unfold encMk at h; simp at h; rcases h with rfl | rfl <;> rfl⟩
structure SegV where
  f : Nat
  l : List (Int × Nat)
  A : Option Addr
  c : Nat
def SegV.v (x : SegV) : Value := .slice x.A x.l.length x.c
def SegV.m (x : SegV) : Nat × List (Int × Nat) := (x.f, x.l)
def encSg (x : SegV) : List Value := [.int .u64 (x.f : Int), x.v]
theorem okSg : EncOf 2 encSg := ⟨fun _ => rfl, fun x v h => by unfold encSg SegV.v at h; simp at h; rcases h with rfl | rfl <;> rfl⟩
def MksE (svs : List SegV) : Ass := Each (fun x : SegV => Vec 104 2 encMk x.v x.l) svs
abbrev SegsM := List (Nat × List (Int × Nat))
def LogT (p dk lim : Nat) (ss : SegsM) : Ass := fun rs => ∃ (sv : Value) (svs : List SegV), Parts [cell p 87 #[.pointer (some ⟨dk, 0, none⟩), .int .i64 (lim : Int), sv], Vec 92 2 encSg sv svs, MksE svs, fact (svs.map SegV.m = ss)] rs
theorem LogT.open_ {p dk lim : Nat} {ss : SegsM} : ∀ rs, LogT p dk lim ss rs → ∃ x : Value × List SegV, Parts [cell p 87 #[.pointer (some ⟨dk, 0, none⟩), .int .i64 (lim : Int), x.1], Vec 92 2 encSg x.1 x.2, MksE x.2, fact (x.2.map SegV.m = ss)] rs := fun _ ⟨sv, svs, h⟩ => ⟨(sv, svs), h⟩
theorem logT_mk {p dk lim : Nat} {ss : SegsM} {sv : Value} {svs : List SegV} (h : svs.map SegV.m = ss) : ∀ rs, Parts [cell p 87 #[.pointer (some ⟨dk, 0, none⟩), .int .i64 (lim : Int), sv], Vec 92 2 encSg sv svs, MksE svs] rs → LogT p dk lim ss rs := fun _ hz => ⟨sv, svs, fact_add h hz⟩
def SgI (p dk lim : Nat) (sv : Value) (d : DiskD) (tb : Tb) (fs : List Nat) (R : List SegV → Ass) : Ass := fun rs => ∃ svs : List SegV, Parts [cell p 87 #[.pointer (some ⟨dk, 0, none⟩), .int .i64 (lim : Int), sv], Vec 92 2 encSg sv svs, DiskT dk d, TabZ tb, R svs, fact (svs.map SegV.f = fs)] rs
theorem SgI.open_ {p dk lim : Nat} {sv : Value} {d : DiskD} {tb : Tb} {fs : List Nat} {R : List SegV → Ass} : ∀ rs, SgI p dk lim sv d tb fs R rs → ∃ svs : List SegV, Parts [cell p 87 #[.pointer (some ⟨dk, 0, none⟩), .int .i64 (lim : Int), sv], Vec 92 2 encSg sv svs, DiskT dk d, TabZ tb, R svs, fact (svs.map SegV.f = fs)] rs := fun _ h => h
theorem sgI_mk {p dk lim : Nat} {sv : Value} {d : DiskD} {tb : Tb} {fs : List Nat} {R : List SegV → Ass} {svs : List SegV} (h : svs.map SegV.f = fs) : ∀ rs, Parts [cell p 87 #[.pointer (some ⟨dk, 0, none⟩), .int .i64 (lim : Int), sv], Vec 92 2 encSg sv svs, DiskT dk d, TabZ tb, R svs] rs → SgI p dk lim sv d tb fs R rs := fun _ hz => ⟨svs, fact_add h hz⟩
theorem perm5 {a b c d x f : Ass} {A : List Ass} : ([a, b, c, d, x, f] ++ A).Perm (x :: ([a, b, c, d, f] ++ A)) := List.perm_middle (l₁ := [a, b, c, d]) (l₂ := f :: A)
theorem sgI_out {p dk lim : Nat} {sv : Value} {d : DiskD} {tb : Tb} {fs : List Nat} {X : List SegV → Ass} {A : List Ass} {L : Nat} {r : Loop} {rs : List RowT} (h : Parts (SgI p dk lim sv d tb fs (fun s => recI L r (X s)) :: A) rs) : ∃ rs', rs.Perm rs' ∧ Parts (recT L r :: SgI p dk lim sv d tb fs X :: A) rs' := by
 obtain ⟨a, b, e, ⟨svs, h1⟩, h2⟩ := h
 have h3 : Parts ([cell p 87 #[.pointer (some ⟨dk, 0, none⟩), .int .i64 (lim : Int), sv], Vec 92 2 encSg sv svs, DiskT dk d, TabZ tb, recI L r (X svs), fact (svs.map SegV.f = fs)] ++ A) rs := e ▸ h1.app h2
 have h4 : ([cell p 87 #[.pointer (some ⟨dk, 0, none⟩), .int .i64 (lim : Int), sv], Vec 92 2 encSg sv svs, DiskT dk d, TabZ tb, recI L r (X svs), fact (svs.map SegV.f = fs)] ++ A).Perm (recI L r (X svs) :: ([cell p 87 #[.pointer (some ⟨dk, 0, none⟩), .int .i64 (lim : Int), sv], Vec 92 2 encSg sv svs, DiskT dk d, TabZ tb, fact (svs.map SegV.f = fs)] ++ A)) := perm5
 obtain ⟨rs1, p1, h5⟩ := h3.perm h4
 have h6 := recI_split h5
 have h7 : (recT L r :: X svs :: ([cell p 87 #[.pointer (some ⟨dk, 0, none⟩), .int .i64 (lim : Int), sv], Vec 92 2 encSg sv svs, DiskT dk d, TabZ tb, fact (svs.map SegV.f = fs)] ++ A)).Perm ([recT L r] ++ ([cell p 87 #[.pointer (some ⟨dk, 0, none⟩), .int .i64 (lim : Int), sv], Vec 92 2 encSg sv svs, DiskT dk d, TabZ tb, X svs, fact (svs.map SegV.f = fs)] ++ A)) := List.Perm.cons _ perm5.symm
 obtain ⟨rs2, p2, h8⟩ := h6.perm h7
 obtain ⟨x, y, e1, h9, h10⟩ := h8.split
 obtain ⟨y1, y2, e2, h11, h12⟩ := h10.split
 refine ⟨rs2, p1.trans p2, ?_⟩
 rw [e1, e2]
 exact ⟨x, y1 ++ y2, rfl, Parts.one' h9, y1, y2, rfl, ⟨svs, h11⟩, h12⟩
theorem sgI_in {p dk lim : Nat} {sv : Value} {d : DiskD} {tb : Tb} {fs : List Nat} {X : List SegV → Ass} {A : List Ass} {L : Nat} {r : Loop} {rs : List RowT} (h : Parts (recT L r :: SgI p dk lim sv d tb fs X :: A) rs) : ∃ rs', rs.Perm rs' ∧ Parts (SgI p dk lim sv d tb fs (fun s => recI L r (X s)) :: A) rs' := by
 obtain ⟨x, y, e1, h9, y1, y2, e2, ⟨svs, h11⟩, h12⟩ := h
 have h8 : Parts ([recT L r] ++ ([cell p 87 #[.pointer (some ⟨dk, 0, none⟩), .int .i64 (lim : Int), sv], Vec 92 2 encSg sv svs, DiskT dk d, TabZ tb, X svs, fact (svs.map SegV.f = fs)] ++ A)) rs := by
  rw [e1, e2]
  exact (Parts.one h9).app (h11.app h12)
 have h7 : ([recT L r] ++ ([cell p 87 #[.pointer (some ⟨dk, 0, none⟩), .int .i64 (lim : Int), sv], Vec 92 2 encSg sv svs, DiskT dk d, TabZ tb, X svs, fact (svs.map SegV.f = fs)] ++ A)).Perm (recT L r :: X svs :: ([cell p 87 #[.pointer (some ⟨dk, 0, none⟩), .int .i64 (lim : Int), sv], Vec 92 2 encSg sv svs, DiskT dk d, TabZ tb, fact (svs.map SegV.f = fs)] ++ A)) := List.Perm.cons _ perm5
 obtain ⟨rs2, p2, h6⟩ := h8.perm h7
 have h5 := recI_join h6
 have h4 : (recI L r (X svs) :: ([cell p 87 #[.pointer (some ⟨dk, 0, none⟩), .int .i64 (lim : Int), sv], Vec 92 2 encSg sv svs, DiskT dk d, TabZ tb, fact (svs.map SegV.f = fs)] ++ A)).Perm ([cell p 87 #[.pointer (some ⟨dk, 0, none⟩), .int .i64 (lim : Int), sv], Vec 92 2 encSg sv svs, DiskT dk d, TabZ tb, recI L r (X svs), fact (svs.map SegV.f = fs)] ++ A) := perm5.symm
 obtain ⟨rs3, p3, h3⟩ := h5.perm h4
 obtain ⟨a, b, e, h1, h2⟩ := h3.split
 exact ⟨rs3, p2.trans p3, a, b, e, ⟨svs, h1⟩, h2⟩
theorem sg_it {P : Program} {F : FuncId} {args : Array Value} {p dk lim : Nat} {sv : Value} {d : DiskD} {tb : Tb} {fs : List Nat} {X Y : List SegV → Ass} {A A' : List Ass} {L : Nat} {r r' : Loop} {v : Value} (h : Does P F args (SgI p dk lim sv d tb fs (fun s => recI L r (X s)) :: A) (fun _ : Unit => v) (fun _ => SgI p dk lim sv d tb fs (fun s => recI L r' (Y s)) :: A')) : Does P F args (recT L r :: SgI p dk lim sv d tb fs X :: A) (fun _ : Unit => v) (fun _ => recT L r' :: SgI p dk lim sv d tb fs Y :: A') := fun w rs h1 h2 h3 => ((h.imp fun _ hz => sgI_in hz) w rs h1 h2 h3).mono fun _ _ ⟨x, he, y, hy, hc⟩ => by
 obtain ⟨z, p1, hz⟩ := sgI_out hy
 exact ⟨x, he, z, hz, chg_perm' hc p1⟩
theorem sg_rd {P : Program} {f : Value} {vs : List Value} {p dk lim : Nat} {sv : Value} {d : DiskD} {tb : Tb} {fs : List Nat} {X Y : List SegV → Ass} {A A' : List Ass} {L : Nat} {r r' : Loop} {v : Value} (h : DoesF P f vs (recT L r :: SgI p dk lim sv d tb fs X :: A) (fun _ : Unit => v) (fun _ => recT L r' :: SgI p dk lim sv d tb fs Y :: A')) : DoesF P f vs (SgI p dk lim sv d tb fs (fun s => recI L r (X s)) :: A) (fun _ : Unit => v) (fun _ => SgI p dk lim sv d tb fs (fun s => recI L r' (Y s)) :: A') := fun w rs h1 h2 h3 => ((h.imp fun _ hz => sgI_out hz) w rs h1 h2 h3).mono fun _ _ ⟨x, he, y, hy, hc⟩ => by
 obtain ⟨z, p1, hz⟩ := sgI_in hy
 exact ⟨x, he, z, hz, chg_perm' hc p1⟩
section
variable {P : Program} {B : Nat → Prop} {w0 w : World} {os : List Ass} {n : Nat} {env : List (Nat × Value)} {o : Oper} {act : Act} {e : TypeId} {k : Nat} {α : Type} {enc : α → List Value} {v : Value} {l : List α}
theorem e_vnil (i : Nat) (hi : os[i]? = some (Vec e k enc v l)) {j : Nat} (hj : j < l.length) {x : Operand} (ho : o.op = .nilCheck x) (hx : evs env x = some (elp v (j * k))) (hH : Hp B w0 w os) (hF : Fr n act env) : (execOp act.eval o).run P w = .ok (.value (elp v (j * k))) w := by
  obtain ⟨rs, hv, _⟩ := hH.thing i hi
  rcases hv with ⟨_, h2, _⟩ | ⟨g, c, cs, h2, _⟩
  · subst h2; exact absurd hj (Nat.not_lt_zero _)
  · subst h2
    have : elp (.slice (some ⟨g, 0, none⟩) l.length c) (j * k) = .pointer (some ⟨g, j * k, none⟩) := by simp [elp]
    rw [this] at hx ⊢
    exact xNc ho hx hF
end
def tupAt (v : Value) (i : Nat) : Value := match v with | .tuple vs => vs.getD i undef | _ => undef
def TupB (v : Value) (b : List UInt8) (ok : Bool) : Ass := fun rs => ∃ bv, v = .tuple #[bv, .bool ok] ∧ Vec 5 1 encB bv b rs
theorem TupB.open_ {v : Value} {b : List UInt8} {ok : Bool} : ∀ rs, TupB v b ok rs → ∃ x : { bv : Value // v = .tuple #[bv, .bool ok] }, Parts [Vec 5 1 encB x.1 b] rs := fun _ ⟨bv, h, hv⟩ => ⟨⟨bv, h⟩, Parts.one hv⟩
theorem e_tup {P : Program} {B : Nat → Prop} {w0 w : World} {os : List Ass} {n : Nat} {env : List (Nat × Value)} {o : Oper} {act : Act} {v : Value} {b : List UInt8} {ok : Bool} (i : Nat) {k : Nat} (hk : k < 2) (hi : os[i]? = some (TupB v b ok)) {x : Operand} (ho : o.op = .extract x k) (hx : evs env x = some v) (hH : Hp B w0 w os) (hF : Fr n act env) : (execOp act.eval o).run P w = .ok (.value (tupAt v k)) w := by
  obtain ⟨rs, ⟨bv, hv, _⟩, _⟩ := hH.thing i hi
  subst hv
  have h2 : k = 0 ∨ k = 1 := by omega
  rcases h2 with rfl | rfl <;> exact exec_extract ho hx rfl hF
theorem disk_readT {p : Nat} {d : DiskD} {n b : List UInt8} {ok : Bool} (hd : d.fit) (h : (readD d n).isSome = ok) (hb : (readD d n).getD [] = b) : Does Tryz.prog 94 #[.pointer (some ⟨p, 0, none⟩), .string (bs n)] [DiskT p d] (fun v : Value => v) (fun v => [DiskT p d, TupB v b ok]) := fun w rs h1 h2 h3 => (disk_read hd h hb w rs h1 h2 h3).mono fun e w' ⟨bv, he, rs', hp, hc⟩ => by
 obtain ⟨a, c, e1, ha, c1, d1, e2, hv, hn⟩ := hp
 exact ⟨_, he, rs', ⟨a, c, e1, ha, c1, d1, e2, ⟨bv, rfl, hv⟩, hn⟩, hc⟩
theorem hp_close {B : Nat → Prop} {w0 w : World} {os : List Ass} {t : Ass} (ids : List Nat) (hn : nodupB ids = true) (ht : ∀ rs, Parts (selA ids os) rs → t rs) (h : Hp B w0 w os) : Hp B w0 w (t :: rstA ids os) := by
 obtain ⟨rs, h1, h2⟩ := h
 obtain ⟨_, rs', p, h3⟩ := close_ex ids hn ht rs h1
 exact ⟨rs', h3, hp_perm h2 p⟩
theorem segs_at {svs : List SegV} {fs : List Nat} {j f : Nat} (h : svs.map SegV.f = fs) (hf : fs[j]? = some f) : ∃ x, svs[j]? = some x ∧ x.f = f := by
  subst h
  rw [List.getElem?_map] at hf
  cases hx : svs[j]? with
  | none => rw [hx] at hf; cases hf
  | some x => rw [hx] at hf; exact ⟨x, rfl, by simpa using hf⟩
theorem segs_len {svs : List SegV} {fs : List Nat} (h : svs.map SegV.f = fs) : svs.length = fs.length := by rw [← h, List.length_map]
end Go.Proofs.YtaipejaeeohpkaaGreatDoor.Sep
namespace Go.Proofs.YtaipejaeeohpkaaGreatDoor.Sep
open Go.RowKit
open Go.Proofs.YtaipejaeeohpkaaGreatDoor.Mem (Dist Blk Chg below0)
theorem entries_does {A0 : Option Addr} {n c0 : Nat} : Does Tryz.prog 86 #[.slice A0 n c0] [] (fun (g : Nat) => .func (.func 135) #[] #[.pointer (some ⟨g, 0, none⟩)]) (fun (g : Nat) => [cell g 30 #[.slice A0 n c0]]) := by
 refine d_ins (args := [.slice A0 n c0]) 4 Tryz.func86 rfl rfl rfl ?_; intro w rs
 refine d_reg ?_
 refine h_q hflT rfl ?_
 refine h_act (post := fun g => [cell g 30 #[.slice A0 n c0]]) rfl (a_box (cs := #[.slice A0 n c0]) rfl rfl rfl) ?_; rintro g
 refine h_q hflT rfl ?_
 refine h_done (d_reg ?_)
 refine h_q hflT rfl ?_
 refine h_val rfl (.func (.func 135) #[] #[.pointer (some ⟨g, 0, none⟩)]) (fun b w hb hH => e_func rfl rfl hb) ?_
 refine h_q hflT rfl ?_
 refine h_done (d_ret ?_)
 exact f_fin1 (.tmp rfl) (fun w h => tells g rfl [0] rfl h sPr) rfl
theorem files_does {p : Nat} : Does Tryz.prog 85 #[.pointer (some ⟨p, 0, none⟩)] [] (fun (g : Nat) => .func (.func 134) #[] #[.pointer (some ⟨g, 0, none⟩)]) (fun (g : Nat) => [cell g 26 #[.pointer (some ⟨p, 0, none⟩)]]) := by
 refine d_ins (args := [.pointer (some ⟨p, 0, none⟩)]) 4 Tryz.func85 rfl rfl rfl ?_; intro w rs
 refine d_reg ?_
 refine h_q hflT rfl ?_
 refine h_act (post := fun g => [cell g 26 #[.pointer (some ⟨p, 0, none⟩)]]) rfl (a_box (cs := #[.pointer (some ⟨p, 0, none⟩)]) rfl rfl rfl) ?_; rintro g
 refine h_q hflT rfl ?_
 refine h_done (d_reg ?_)
 refine h_q hflT rfl ?_
 refine h_val rfl (.func (.func 134) #[] #[.pointer (some ⟨g, 0, none⟩)]) (fun b w hb hH => e_func rfl rfl hb) ?_
 refine h_q hflT rfl ?_
 refine h_done (d_ret ?_)
 exact f_fin1 (.tmp rfl) (fun w h => tells g rfl [0] rfl h sPr) rfl
theorem e_vlenN {P : Program} {B : Nat → Prop} {w0 w : World} {os : List Ass} {n : Nat} {env : List (Nat × Value)} {o : Oper} {act : Act} {e t : TypeId} {k : Nat} {α : Type} {enc : α → List Value} {v : Value} {l : List α} (i : Nat) {m : Nat} (hm : l.length = m) (hu : P.underlying t = some (.slice e)) (hi : os[i]? = some (Vec e k enc v l)) {x : Operand} (ho : o.op = .call { callee := .builtin .len, args := #[x], argTypes := #[t] }) (hx : evs env x = some v) (hH : Hp B w0 w os) (hF : Fr n act env) : (execOp act.eval o).run P w = .ok (.value (.int .i64 (m : Int))) w := hm ▸ e_vlen i hu hi ho hx hH hF
theorem files1 (k : Fn) (caps : Array Value) (g p dk lim : Nat) (sv : Value) {d : DiskD} (tb : Tb) {fs : List Nat} (R : Nat → List SegV → Ass) {N : Nat} (hd : d.fit) (hfs : ∀ f, f ∈ fs → f ≤ 72057594037927935) (hl : fs.length ≤ 1000000) (hN : fs.length = N) (hyy : ∀ (j f : Nat) (bv : Value) (b : List UInt8), fs[j]? = some f → (readD d (nameL f)).getD [] = b → DoesF Tryz.prog (.func k #[] caps) [elp sv (j * 2), bv] [SgI p dk lim sv d tb fs (R j), Vec 5 1 encB bv b] (fun _ : Unit => .bool true) (fun _ : Unit => [SgI p dk lim sv d tb fs (R (j + 1))])) : Does Tryz.prog 134 #[.func k #[] caps, .pointer (some ⟨g, 0, none⟩)] [SgI p dk lim sv d tb fs (R 0), cell g 26 #[.pointer (some ⟨p, 0, none⟩)]] (fun (_ : Unit) => .tuple #[]) (fun (_ : Unit) => [SgI p dk lim sv d tb fs (R N), cell g 26 #[.pointer (some ⟨p, 0, none⟩)]]) := by
  refine d_ins (args := [.func k #[] caps, .pointer (some ⟨g, 0, none⟩)]) 40 Tryz.func134 rfl rfl rfl ?_; intro w rs
  refine d_open 0 rfl SgI.open_ (fun _ => rfl) ?_; rintro svs
  refine WC2.fact 5 rfl (fun _ h => h.2) ?_; rintro hfc0
  refine WC2.leave [5] rfl rfl ?_
  have hsl0 := segs_len hfc0
  have hsl0' := hsl0
  refine d_reg ?_
  refine h_q hflT rfl ?_
  refine h_val rfl (.pointer (some ⟨p, 0, none⟩)) (fun b w hb hH => xLd rfl rfl (rOn ty_p_seg_Log rfl) (hH.row 5 rfl) hb) ?_
  refine h_val rfl (.pointer (some ⟨p, 0, none⟩)) (fun b w hb hH => by exact xNc rfl rfl hb) ?_
  refine h_q hflT rfl ?_
  refine h_val rfl (sv) (fun b w hb hH => xLd rfl rfl (rOn tySs rfl) (hH.row 0 rfl) hb) ?_
  refine h_val rfl (.int .i64 (fs.length : Int)) (fun b w hb hH => e_vlenN 1 hsl0 Tryz.underlying85 rfl rfl rfl hH hb) ?_
  refine h_q hflT rfl ?_
  refine h_done (d_block ?_)
  refine d_close [0, 1, 2, 3, 4] rfl (sgI_mk hfc0) rfl ?_
  refine d_loop (α := Nat) (fun j => [(0, .func k #[] caps), (1, .pointer (some ⟨g, 0, none⟩)), (11, .int .i64 (fs.length : Int)), (12, .int .i64 (j : Int))]) (fun j => [SgI p dk lim sv d tb fs (R j), cell g 26 #[.pointer (some ⟨p, 0, none⟩)]]) (fun j => j ≤ N) (fun j => N - j) 0 (Nat.zero_le _) ⟨rfl, rfl, rfl, rfl, trivial⟩ rfl ?_
  rintro j hI
  refine WC2.at_ (env' := [(0, .func k #[] caps), (1, .pointer (some ⟨g, 0, none⟩)), (11, .int .i64 (fs.length : Int)), (12, .int .i64 (j : Int))]) (rs' := [SgI p dk lim sv d tb fs (R j), cell g 26 #[.pointer (some ⟨p, 0, none⟩)]]) ⟨rfl, rfl, rfl, rfl, trivial⟩ rfl ?_
  rcases Nat.lt_or_ge j N with hjN | hjN
  · skip
    have hlt : j < fs.length := by omega
    obtain ⟨f, hf⟩ : ∃ f, fs[j]? = some f := ⟨_, List.getElem?_eq_getElem hlt⟩
    obtain ⟨b, hb_⟩ : ∃ b, (readD d (nameL f)).getD [] = b := ⟨_, rfl⟩
    obtain ⟨ok, hok⟩ : ∃ ok, (readD d (nameL f)).isSome = ok := ⟨_, rfl⟩
    have hfb := hfs f (List.mem_of_getElem? hf)
    refine d_reg ?_
    refine h_q hflT rfl ?_
    refine h_val rfl (.bool true) (fun b w hb hH => xCm rfl rfl rfl (cmp_lss_t (by omega)) hb) ?_
    refine h_done (d_seq (d_then rfl (d_skip (f_to (d_seq (d_block (d_reg ?_)))))))
    refine h_q hflT rfl ?_
    refine h_done ?_
    refine d_open 0 rfl SgI.open_ (fun _ => rfl) ?_; rintro svs
    refine WC2.fact 5 rfl (fun _ h => h.2) ?_; rintro hfc
    refine WC2.leave [5] rfl rfl ?_
    obtain ⟨x, hx, hxf⟩ := segs_at hfc hf
    have hsl := segs_len hfc
    refine d_reg ?_
    refine h_q hflT rfl ?_
    refine h_val rfl (.pointer (some ⟨p, 0, none⟩)) (fun b w hb hH => xLd rfl rfl (rOn ty_p_seg_Log rfl) (hH.row 5 rfl) hb) ?_
    refine h_val rfl (.pointer (some ⟨p, 0, none⟩)) (fun b w hb hH => by exact xNc rfl rfl hb) ?_
    refine h_q hflT rfl ?_
    refine h_val rfl (sv) (fun b w hb hH => xLd rfl rfl (rOn tySs rfl) (hH.row 0 rfl) hb) ?_
    refine h_q hflT rfl ?_
    refine h_val rfl (elp sv (j * 2)) (fun b w hb hH => e_vidx 1 sl_seg_segment okSg rfl j (by omega) rfl rfl rfl hH hb) ?_
    refine h_q hflT rfl ?_
    refine h_done (d_seq ?_)
    refine d_emps 1 rfl ?_
    refine d_parS 14 2 [⟨.quiet, [none, none], fun _ => .pointer (some ⟨p, 0, none⟩), []⟩, ⟨.quiet, [none, none], fun _ => .pointer (some ⟨p, 0, none⟩), [0]⟩, ⟨.quiet, [none, none], fun _ => .pointer (some ⟨p, 0, none⟩), [1]⟩, ⟨.quiet, [none, none], fun _ => .pointer (some ⟨dk, 0, none⟩), [2]⟩, ⟨.quiet, [none, none], fun _ => elp sv (j * 2), []⟩, ⟨.quiet, [none, none], fun _ => elp sv (j * 2), [4]⟩, ⟨.quiet, [none, none], fun _ => elp sv (j * 2 + 0), [5]⟩, ⟨.quiet, [none, none], fun _ => .int .u64 (x.f : Int), [6]⟩, ⟨.actv 0, [some false, some false], fun _ => .string (bs (nameL x.f)), [7]⟩, ⟨.act 1, [some true, some false], fun _ => undef, [3, 8]⟩, ⟨.quiet, [some true, some true], fun ρ => match ρ with | [_, some rv] => rv | _ => undef, [9]⟩, ⟨.quiet, [some true, some true], fun ρ => match ρ with | [_, some rv] => (tupAt rv 0) | _ => undef, [10]⟩, ⟨.quiet, [some true, some true], fun ρ => match ρ with | [_, some rv] => (tupAt rv 1) | _ => undef, [10]⟩, ⟨.quiet, [some true, some true], fun ρ => match ρ with | [_, some rv] => (tupAt rv 0) | _ => undef, [11]⟩] [(0, .func k #[] caps), (1, .pointer (some ⟨g, 0, none⟩)), (11, .int .i64 (fs.length : Int)), (12, .int .i64 (j : Int)), (13, .bool true), (14, .int .i64 (j : Int)), (3, .int .i64 (j : Int)), (15, .pointer (some ⟨p, 0, none⟩)), (16, .pointer (some ⟨p, 0, none⟩)), (17, .pointer (some ⟨p, 2, none⟩)), (18, sv), (19, .int .i64 (j : Int)), (20, elp sv (j * 2)), (4, elp sv (j * 2))] (fun ρ => match ρ with | [r0, r1] => [selS r1 (fun rv => TupB rv b ok) (emp), cell p 87 #[.pointer (some ⟨dk, 0, none⟩), .int .i64 (lim : Int), sv], Vec 92 2 encSg sv svs, DiskT dk d, TabZ tb, R j svs, cell g 26 #[.pointer (some ⟨p, 0, none⟩)]] | _ => []) (by kernel_rfl) (by kernel_rfl) ⟨rfl, rfl, rfl, rfl, rfl, rfl, rfl, rfl, rfl, rfl, rfl, rfl, rfl, rfl, trivial⟩ rfl ?_ ?_
    · skip
      refine s_cons (by intro r0_ r1_; exact ⟨rfl, fun b w hH hb => xLd rfl rfl (rOn ty_p_seg_Log rfl) (hH.row 6 rfl) hb⟩) ?_
      refine s_cons (by intro r0_ r1_; exact ⟨rfl, fun b w hH hb => by exact xNc rfl rfl hb⟩) ?_
      refine s_cons (by intro r0_ r1_; exact ⟨rfl, fun b w hH hb => exec_q1 hflT rfl hb⟩) ?_
      refine s_cons (by intro r0_ r1_; exact ⟨rfl, fun b w hH hb => xLd rfl rfl (rOn ty_p_disk_Disk rfl) (hH.row 1 rfl) hb⟩) ?_
      refine s_cons (by intro r0_ r1_; exact ⟨rfl, fun b w hH hb => exec_q1 hflT rfl hb⟩) ?_
      refine s_cons (by intro r0_ r1_; exact ⟨rfl, fun b w hH hb => e_vnil 2 rfl (j := j) (List.getElem?_eq_some_iff.1 hx).1 rfl rfl hH hb⟩) ?_
      refine s_cons (by intro r0_ r1_; exact ⟨rfl, fun b w hH hb => eSf okSg (by decide) (hH.vec 2 rfl okSg) (j := j) hx fd_seg_segment_0 rfl rfl hb⟩) ?_
      refine s_cons (by intro r0_ r1_; exact ⟨rfl, fun b w hH hb => e_sload okSg (by decide) (hH.vec 2 rfl okSg) (j := j) hx ty_uint64 (off := 0) rfl rfl rfl hb⟩) ?_
      refine s_cons (by exact ⟨rfl, Acts.su (a_does (os' := fun _ => [emp, cell p 87 #[.pointer (some ⟨dk, 0, none⟩), .int .i64 (lim : Int), sv], Vec 92 2 encSg sv svs, DiskT dk d, TabZ tb, R j svs, cell g 26 #[.pointer (some ⟨p, 0, none⟩)]]) [4] 0 (ent_of Tryz.func19 (by kernel_rfl) rfl) (name_does tb (n := x.f) (by omega)) rfl rfl rfl (fun _ => rfl) rfl rfl rfl) rfl⟩) ?_
      refine s_cons (by intro v0_; exact ⟨rfl, Acts.s (a_does (os' := fun rv => [TupB rv b ok, cell p 87 #[.pointer (some ⟨dk, 0, none⟩), .int .i64 (lim : Int), sv], Vec 92 2 encSg sv svs, DiskT dk d, TabZ tb, R j svs, cell g 26 #[.pointer (some ⟨p, 0, none⟩)]]) [3, 0] 1 (ent_of Tryz.func94 (by kernel_rfl) rfl) (disk_readT hd (by rw [hxf]; exact hok) (by rw [hxf]; exact hb_)) rfl rfl rfl (fun _ => rfl) rfl rfl rfl) (fun _ => rfl)⟩) ?_
      refine s_cons (by intro v0_ rv; exact ⟨rfl, fun b w hH hb => exec_q1 hflT rfl hb⟩) ?_
      refine s_cons (by intro v0_ rv; exact ⟨rfl, fun b w hH hb => e_tup 0 (by decide) rfl rfl rfl hH hb⟩) ?_
      refine s_cons (by intro v0_ rv; exact ⟨rfl, fun b w hH hb => e_tup 0 (by decide) rfl rfl rfl hH hb⟩) ?_
      refine s_cons (by intro v0_ rv; exact ⟨rfl, fun b w hH hb => exec_q1 hflT rfl hb⟩) ?_
      exact s_nil
    intro v0_ rv
    refine WL2.keep (env' := [(0, .func k #[] caps), (1, .pointer (some ⟨g, 0, none⟩)), (11, .int .i64 (fs.length : Int)), (12, .int .i64 (j : Int)), (13, .bool true), (14, .int .i64 (j : Int)), (3, .int .i64 (j : Int)), (15, .pointer (some ⟨p, 0, none⟩)), (16, .pointer (some ⟨p, 0, none⟩)), (17, .pointer (some ⟨p, 2, none⟩)), (18, sv), (19, .int .i64 (j : Int)), (20, elp sv (j * 2)), (4, elp sv (j * 2)), (22, .pointer (some ⟨p, 0, none⟩)), (23, .pointer (some ⟨p, 0, none⟩)), (24, .pointer (some ⟨p, 0, none⟩)), (25, .pointer (some ⟨dk, 0, none⟩)), (26, elp sv (j * 2)), (27, elp sv (j * 2)), (28, elp sv (j * 2 + 0)), (29, .int .u64 (x.f : Int)), (30, .string (bs (nameL x.f))), (31, rv), (21, rv), (32, (tupAt rv 0)), (33, (tupAt rv 1)), (5, (tupAt rv 0))]) ⟨rfl, rfl, rfl, rfl, rfl, rfl, rfl, rfl, rfl, rfl, rfl, rfl, rfl, rfl, rfl, rfl, rfl, rfl, rfl, rfl, rfl, rfl, rfl, rfl, rfl, rfl, rfl, rfl, trivial⟩ ?_
    refine h_open 0 rfl TupB.open_ (fun _ => rfl) ?_; rintro ⟨bv, rfl⟩
    refine WL2.keep (env' := [(0, .func k #[] caps), (1, .pointer (some ⟨g, 0, none⟩)), (11, .int .i64 (fs.length : Int)), (12, .int .i64 (j : Int)), (13, .bool true), (14, .int .i64 (j : Int)), (3, .int .i64 (j : Int)), (15, .pointer (some ⟨p, 0, none⟩)), (16, .pointer (some ⟨p, 0, none⟩)), (17, .pointer (some ⟨p, 2, none⟩)), (18, sv), (19, .int .i64 (j : Int)), (20, elp sv (j * 2)), (4, elp sv (j * 2)), (22, .pointer (some ⟨p, 0, none⟩)), (23, .pointer (some ⟨p, 0, none⟩)), (24, .pointer (some ⟨p, 0, none⟩)), (25, .pointer (some ⟨dk, 0, none⟩)), (26, elp sv (j * 2)), (27, elp sv (j * 2)), (28, elp sv (j * 2 + 0)), (29, .int .u64 (x.f : Int)), (30, .string (bs (nameL x.f))), (31, .tuple #[bv, .bool ok]), (21, .tuple #[bv, .bool ok]), (32, bv), (33, .bool ok), (5, bv)]) ⟨rfl, rfl, rfl, rfl, rfl, rfl, rfl, rfl, rfl, rfl, rfl, rfl, rfl, rfl, rfl, rfl, rfl, rfl, rfl, rfl, rfl, rfl, rfl, rfl, rfl, rfl, rfl, rfl, trivial⟩ ?_
    refine WL2.mid [Vec 5 1 encB bv b, cell p 87 #[.pointer (some ⟨dk, 0, none⟩), .int .i64 (lim : Int), sv], Vec 92 2 encSg sv svs, DiskT dk d, TabZ tb, R j svs, cell g 26 #[.pointer (some ⟨p, 0, none⟩)]] (.refl _) ?_
    refine h_q hflT rfl ?_
    refine h_nil (f_to ?_)
    refine d_close [1, 2, 3, 4, 5] rfl (sgI_mk hfc) rfl ?_
    refine d_seq ?_
    refine d_regI (i_pre gf_w 3 (by rintro ⟨a, w, h⟩; first | exact h.elim | exact nomatch h.1 | (obtain ⟨_, h, _⟩ := h; exact nomatch h)) (by kernel_rfl) ?_)
    refine h_q hflT rfl ?_
    refine i_to ?_
    refine i_does (X := Unit) (post := fun _ => [SgI p dk lim sv d tb fs (R (j + 1))]) (os' := fun _ => [SgI p dk lim sv d tb fs (R (j + 1)), cell g 26 #[.pointer (some ⟨p, 0, none⟩)]]) gf_w [0, 1] (hyy j f bv b hf hb_) rfl rfl rfl rfl rfl rfl (fun _ => rfl) ?_; rintro ⟨⟩
    refine i_rest gf_w (by rintro ⟨a, w, h⟩; first | exact h.elim | exact nomatch h.1 | (obtain ⟨_, h, _⟩ := h; exact nomatch h)) (by kernel_rfl) ?_
    refine h_q hflT rfl ?_
    refine h_nil (f_to (d_else rfl (d_skip (f_block (f_to (d_reg1 ?_))))))
    refine h_q hflT rfl ?_
    refine h_val rfl (.int .i64 ((j + 1 : Nat) : Int)) (fun b w hb hH => exec_ar rfl rfl rfl rfl (by rw [IntWalk.i64_in _ (by omega)]; omega) hb) ?_
    refine h_q hflT rfl ?_
    refine h_nil ?_
    exact f_again (j + 1) 0 (by omega) (show N - (j + 1) < N - j by omega) ⟨rfl, rfl, rfl, rfl, trivial⟩ rfl
  · skip
    obtain rfl : j = N := by omega
    refine d_reg ?_
    refine h_q hflT rfl ?_
    refine h_val rfl (.bool false) (fun b w hb hH => xCm rfl rfl rfl (cmp_lss_f (by omega)) hb) ?_
    refine h_done (d_seq (d_else rfl (d_exit (fTe (fTe (f_block_exit ?_))))))
    exact f_fin0n  (fun w h => tells () rfl [0, 1] rfl h sPr) rfl
end Go.Proofs.YtaipejaeeohpkaaGreatDoor.Sep
namespace Go.Proofs.YtaipejaeeohpkaaGreatDoor.Sep
open Go.RowKit
open Go.Proofs.YtaipejaeeohpkaaGreatDoor.Mem (Dist Blk Chg below0)
def entsB (d : DiskD) (f : Nat) : List (EntD × Nat) := entsL ((readD d (nameL f)).getD [])
def listM (d : DiskD) (fs : List Nat) : List EntD := fs.flatMap fun f => (entsB d f).map (·.1)
theorem listM_take {d : DiskD} {fs : List Nat} {j f : Nat} (h : fs[j]? = some f) : listM d (fs.take (j + 1)) = listM d (fs.take j) ++ (entsB d f).map (·.1) := by
  unfold listM
  rw [List.take_add_one, h, List.flatMap_append]
  simp
theorem listM_le (d : DiskD) (fs : List Nat) (j : Nat) : (listM d (fs.take j)).length ≤ (listM d fs).length := by
 have h : listM d fs = listM d (fs.take j) ++ listM d (fs.drop j) := by
  unfold listM
  rw [← List.flatMap_append, List.take_append_drop]
 rw [h, List.length_append]; omega
def AccT (g : Nat) (L : List EntD) : Ass := fun rs => ∃ x : EsV, Parts [cell g 52 #[x.v], Ents 34 x.v x.l, fact (x.l.map (·.e) = L)] rs
theorem AccT.open_ {g : Nat} {L : List EntD} : ∀ rs, AccT g L rs → ∃ x : EsV, Parts [cell g 52 #[x.v], Ents 34 x.v x.l, fact (x.l.map (·.e) = L)] rs := fun _ h => h
theorem accT_mk {g : Nat} {L : List EntD} {v : Value} {l : List EntV} (h : l.map (·.e) = L) : ∀ rs, Parts [cell g 52 #[v], Ents 34 v l] rs → AccT g L rs := fun _ hz => ⟨⟨v, l⟩, fact_add h hz⟩
theorem accT_nil {g : Nat} : ∀ rs, Parts [cell g 52 #[.slice none 0 0]] rs → AccT g [] rs := fun rs hz => ⟨⟨.slice none 0 0, []⟩, fact_add (xs := [cell g 52 #[.slice none 0 0], Ents 34 (.slice none 0 0) []]) rfl (by
 obtain ⟨a, b, e, h1, h2⟩ := hz
 unfold Parts at h2
 subst h2
 exact ⟨a, [], e, h1, [], [], rfl, entsT_nil, rfl⟩)⟩
theorem ents1 (k : Fn) (caps : Array Value) (g : Nat) (T : Nat → Ass) {A0 : Option Addr} {c0 : Nat} {y : List UInt8} {es : List (EntD × Nat)} {N : Nat} (hl : y.length ≤ 137438953472) (hes : entsL y = es) (hN : es.length = N)
    (hyy : ∀ (j : Nat) (A : Option Addr) (c : Nat) (e : EntD) (n : Nat), es[j]? = some (e, n) → DoesF Tryz.prog (.func k #[] caps) [.agg #[.int .i64 e.k, .int .u64 e.t, .int .u64 e.i, .slice A e.d.length c, .int .i64 e.c], .int .i64 (n : Int)] [T j, Vec 5 1 encB (.slice A e.d.length c) e.d] (fun _ : Unit => .bool true) (fun _ : Unit => [T (j + 1)])) :
    Does Tryz.prog 135 #[.func k #[] caps, .pointer (some ⟨g, 0, none⟩)] [T 0, Vec 5 1 encB (.slice A0 y.length c0) y, cell g 30 #[.slice A0 y.length c0]] (fun (_ : Unit) => .tuple #[]) (fun (_ : Unit) => [T N, Vec 5 1 encB (.slice A0 y.length c0) y, cell g 30 #[.slice A0 y.length c0]]) := by
  have hle := entsP_len (listL y).1 0
  change (entsL y).length ≤ _ at hle
  rw [hes, hN] at hle
  rcases Nat.lt_or_eq_of_le hle with h | h
  · exact ents1b k caps g T hl rfl hes hN h hyy
  · exact ents1a k caps g T hl rfl hes hN h.symm hyy
theorem ents1e (k : Fn) (caps : Array Value) (g : Nat) (T : Nat → Ass) (T0 Tn : Ass) {A0 : Option Addr} {c0 : Nat} {y : List UInt8} {es : List (EntD × Nat)} {N : Nat} (h0 : T 0 = T0) (hn : T N = Tn) (hl : y.length ≤ 137438953472) (hes : entsL y = es) (hN : es.length = N)
  (hyy : ∀ (j : Nat) (A : Option Addr) (c : Nat) (e : EntD) (n : Nat), es[j]? = some (e, n) → DoesF Tryz.prog (.func k #[] caps) [.agg #[.int .i64 e.k, .int .u64 e.t, .int .u64 e.i, .slice A e.d.length c, .int .i64 e.c], .int .i64 (n : Int)] [T j, Vec 5 1 encB (.slice A e.d.length c) e.d] (fun _ : Unit => .bool true) (fun _ : Unit => [T (j + 1)])) :
  Does Tryz.prog 135 #[.func k #[] caps, .pointer (some ⟨g, 0, none⟩)] [T0, Vec 5 1 encB (.slice A0 y.length c0) y, cell g 30 #[.slice A0 y.length c0]] (fun (_ : Unit) => .tuple #[]) (fun (_ : Unit) => [Tn, Vec 5 1 encB (.slice A0 y.length c0) y, cell g 30 #[.slice A0 y.length c0]]) := by
 subst h0; subst hn
 exact ents1 k caps g T hl hes hN hyy
theorem acc_lt {d : DiskD} {fs : List Nat} {j f i : Nat} (hf : fs[j]? = some f) (hi : i < (entsB d f).length) (hL : (listM d fs).length ≤ 1000000) : (listM d (fs.take j) ++ ((entsB d f).take i).map (·.1)).length < 1000000 := by
  have h1 := listM_le d fs (j + 1)
  rw [listM_take hf] at h1
  simp only [List.length_append, List.length_map, List.length_take] at h1 ⊢
  omega
theorem acc_next {l : List EntV} {d : DiskD} {f i n : Nat} {M : List EntD} {e : EntD} {A : Option Addr} {c : Nat} (h : l.map (·.e) = M ++ ((entsB d f).take i).map (·.1)) (hi : (entsB d f)[i]? = some (e, n)) : (l ++ [(⟨e, A, c⟩ : EntV)]).map (·.e) = M ++ ((entsB d f).take (i + 1)).map (·.1) := by
  rw [List.map_append, h, List.append_assoc, List.take_add_one, hi]
  simp
theorem star_open {l : List Ass} : ∀ rs, star l rs → ∃ _ : Unit, Parts l rs := fun _ h => ⟨(), h⟩
theorem star_close {l : List Ass} : ∀ rs, Parts l rs → star l rs := fun _ h => h
theorem list_does {p dk lim : Nat} {ss : SegsM} {d : DiskD} {fs : List Nat} {N : Nat} (tb : Tb) (hd : d.fit) (hs0 : ss.map (·.1) = fs) (hfs : ∀ f, f ∈ fs → f ≤ 72057594037927935) (hfl : fs.length ≤ 1000000) (hN : fs.length = N) (hL : (listM d fs).length ≤ 1000000) (hbl : ∀ f b, f ∈ fs → (readD d (nameL f)).getD [] = b → b.length ≤ 137438953472) : Does Tryz.prog 33 #[.pointer (some ⟨p, 0, none⟩)] [LogT p dk lim ss, DiskT dk d, TabZ tb] (fun (x : EsV) => x.v) (fun (x : EsV) => [Ents 34 x.v x.l, LogT p dk lim ss, DiskT dk d, TabZ tb, fact (x.l.map (·.e) = listM d fs)]) := by
  refine d_insM (args := [.pointer (some ⟨p, 0, none⟩)]) 20 Tryz.func33 rfl rfl rfl ?_; intro w rs
  refine d_open 0 rfl LogT.open_ (fun _ => rfl) ?_; rintro ⟨sv, svs⟩
  refine WC2.fact 3 rfl (fun _ h => h.2) ?_; rintro hm0
  have hf0 : svs.map SegV.f = fs := by rw [← hs0, ← hm0, List.map_map]; rfl
  refine d_reg ?_
  refine h_q hflT rfl ?_
  refine h_done (d_reg ?_)
  refine h_q hflT rfl ?_
  refine h_act (post := fun gl => [cell gl 52 #[.slice none 0 0], cell p 87 #[.pointer (some ⟨dk, 0, none⟩), .int .i64 (lim : Int), sv], Vec 92 2 encSg sv svs, MksE svs, fact (svs.map SegV.m = ss), DiskT dk d, TabZ tb]) rfl (a_alloc ze_s_api_Entry rfl) ?_; rintro gl
  refine h_done (d_seq ?_)
  refine d_close [0] rfl (accT_nil : ∀ rs, _ → AccT gl (listM d (fs.take 0)) rs) rfl ?_
  refine d_close [0, 3, 4] rfl star_close rfl ?_
  refine d_close [1, 2, 3, 4, 0] rfl (sgI_mk (R := (fun svs => star [AccT gl (listM d (fs.take 0)), MksE svs, fact (svs.map SegV.m = ss)])) hf0) rfl ?_
  refine WC2.keep (env' := [(0, .pointer (some ⟨p, 0, none⟩)), (2, .slice none 0 0), (3, .pointer (some ⟨gl, 0, none⟩))]) ⟨rfl, rfl, rfl, trivial⟩ ?_
  refine WC2.mid [SgI p dk lim sv d tb fs (fun svs => star [AccT gl (listM d (fs.take 0)), MksE svs, fact (svs.map SegV.m = ss)])] (.refl _) ?_
  refine d_reg ?_
  refine h_q hflT rfl ?_
  refine h_act (post := fun gf => [cell gf 26 #[.pointer (some ⟨p, 0, none⟩)], SgI p dk lim sv d tb fs (fun svs => star [AccT gl (listM d (fs.take 0)), MksE svs, fact (svs.map SegV.m = ss)])]) rfl (a_does (os' := fun gf => [cell gf 26 #[.pointer (some ⟨p, 0, none⟩)], SgI p dk lim sv d tb fs (fun svs => star [AccT gl (listM d (fs.take 0)), MksE svs, fact (svs.map SegV.m = ss)])]) [] 0 (ent_of Tryz.func85 (by kernel_rfl) rfl) (files_does) rfl rfl rfl (fun _ => rfl) rfl rfl rfl) ?_; rintro gf
  refine h_done (d_block ?_)
  refine WC2.keep (env' := [(0, .pointer (some ⟨p, 0, none⟩)), (2, .slice none 0 0), (3, .pointer (some ⟨gl, 0, none⟩)), (7, .pointer (some ⟨p, 0, none⟩)), (8, .func (.func 134) #[] #[.pointer (some ⟨gf, 0, none⟩)])]) ⟨rfl, rfl, rfl, rfl, rfl, trivial⟩ ?_
  refine WC2.mid [cell gf 26 #[.pointer (some ⟨p, 0, none⟩)], SgI p dk lim sv d tb fs (fun svs => star [AccT gl (listM d (fs.take 0)), MksE svs, fact (svs.map SegV.m = ss)])] (.refl _) ?_
  refine wp_rangeF (caps := [.pointer (some ⟨gf, 0, none⟩)]) (post := [SgI p dk lim sv d tb fs (fun svs => star [AccT gl (listM d (fs.take N)), MksE svs, fact (svs.map SegV.m = ss)]), cell gf 26 #[.pointer (some ⟨p, 0, none⟩)]]) (os' := [SgI p dk lim sv d tb fs (fun svs => star [AccT gl (listM d (fs.take N)), MksE svs, fact (svs.map SegV.m = ss)]), cell gf 26 #[.pointer (some ⟨p, 0, none⟩)]]) (.normal) [1, 0] rfl (ent_of Tryz.func134 (by kernel_rfl) rfl) (fun L1 fn1 tm1 hf1 r1 k11 k12 k13 k14 k15 k16 => sg_it (files1 (.yield L1) #[] gf p dk lim sv tb (fun j svs => recI L1 r1 (star [AccT gl (listM d (fs.take j)), MksE svs, fact (svs.map SegV.m = ss)])) hd hfs hfl hN ?_)) rfl rfl rfl ?_
  · skip
    intro j f bv b hf hb_
    refine sg_rd (doesF_round (n := 20) (env := [(10, bv), (9, elp sv (j * 2)), (0, .pointer (some ⟨p, 0, none⟩)), (2, .slice none 0 0), (3, .pointer (some ⟨gl, 0, none⟩)), (7, .pointer (some ⟨p, 0, none⟩)), (8, .func (.func 134) #[] #[.pointer (some ⟨gf, 0, none⟩)])]) (.normal) k12 k11 (by rw [k14]; rfl) ?_ ?_)
    · rw [k14, k13]
      refine (congrArg (fun t => Fr 20 { tmps := t, defers := [] } _) (?_ : _ = ((tm1.setIfInBounds 9 (elp sv (j * 2))).setIfInBounds 10 bv))).mpr ((hf1.put (d := 9) (by decide) _).put (d := 10) (by decide) _)
      simp
    · intro w0 rs
      rw [k15]
      refine r_reg (by kernel_rfl) (by rintro ⟨a, w, h⟩; first | exact h.elim | exact nomatch h.1 | (obtain ⟨_, h, _⟩ := h; exact nomatch h)) ?_
      refine h_q hflT rfl ?_
      refine h_nil ?_
      refine r_begin 0 rfl k11 ?_
      rw [k16]
      refine WCR.fact 2 rfl (fun _ h => Vec.is h) ?_; rintro ⟨A0, c0, rfl⟩
      refine WCR.keep (env' := [(10, .slice A0 b.length c0), (9, elp sv (j * 2)), (0, .pointer (some ⟨p, 0, none⟩)), (2, .slice none 0 0), (3, .pointer (some ⟨gl, 0, none⟩)), (7, .pointer (some ⟨p, 0, none⟩)), (8, .func (.func 134) #[] #[.pointer (some ⟨gf, 0, none⟩)]), (5, .slice A0 b.length c0)]) ⟨rfl, rfl, rfl, rfl, rfl, rfl, rfl, rfl, trivial⟩ ?_
      refine WCR.mid [recT L1 (busyR r1), SgI p dk lim sv d tb fs (fun svs => star [AccT gl (listM d (fs.take j)), MksE svs, fact (svs.map SegV.m = ss)]), Vec 5 1 encB (.slice A0 b.length c0) b] (.refl _) ?_
      refine r_open 1 rfl SgI.open_ (fun _ => rfl) ?_; rintro svs
      refine WCR.fact 5 rfl (fun _ h => h.2) ?_; rintro hfc
      refine WCR.leave [5] rfl rfl ?_
      refine r_open 4 rfl star_open (fun _ => rfl) ?_; rintro ⟨⟩
      refine r_block ?_
      refine r_seq (r_reg (by kernel_rfl) (by rintro ⟨a, w, h⟩; first | exact h.elim | exact nomatch h.1 | (obtain ⟨_, h, _⟩ := h; exact nomatch h)) ?_)
      refine h_q hflT rfl ?_
      refine h_act (post := fun ge => [cell ge 30 #[.slice A0 b.length c0], AccT gl (listM d (fs.take j)), MksE svs, fact (svs.map SegV.m = ss), cell p 87 #[.pointer (some ⟨dk, 0, none⟩), .int .i64 (lim : Int), sv], Vec 92 2 encSg sv svs, DiskT dk d, TabZ tb, recT L1 (busyR r1), Vec 5 1 encB (.slice A0 b.length c0) b]) rfl (a_does (os' := fun ge => [cell ge 30 #[.slice A0 b.length c0], AccT gl (listM d (fs.take j)), MksE svs, fact (svs.map SegV.m = ss), cell p 87 #[.pointer (some ⟨dk, 0, none⟩), .int .i64 (lim : Int), sv], Vec 92 2 encSg sv svs, DiskT dk d, TabZ tb, recT L1 (busyR r1), Vec 5 1 encB (.slice A0 b.length c0) b]) [] 0 (ent_of Tryz.func86 (by kernel_rfl) rfl) (entries_does) rfl rfl rfl (fun _ => rfl) rfl rfl rfl) ?_; rintro ge
      refine h_nil (r_to ?_)
      refine r_block ?_
      refine WCR.keep (env' := [(10, .slice A0 b.length c0), (9, elp sv (j * 2)), (0, .pointer (some ⟨p, 0, none⟩)), (2, .slice none 0 0), (3, .pointer (some ⟨gl, 0, none⟩)), (7, .pointer (some ⟨p, 0, none⟩)), (8, .func (.func 134) #[] #[.pointer (some ⟨gf, 0, none⟩)]), (5, .slice A0 b.length c0), (11, .slice A0 b.length c0), (12, .func (.func 135) #[] #[.pointer (some ⟨ge, 0, none⟩)])]) ⟨rfl, rfl, rfl, rfl, rfl, rfl, rfl, rfl, rfl, rfl, trivial⟩ ?_
      refine WCR.mid [cell ge 30 #[.slice A0 b.length c0], AccT gl (listM d (fs.take j)), MksE svs, fact (svs.map SegV.m = ss), cell p 87 #[.pointer (some ⟨dk, 0, none⟩), .int .i64 (lim : Int), sv], Vec 92 2 encSg sv svs, DiskT dk d, TabZ tb, recT L1 (busyR r1), Vec 5 1 encB (.slice A0 b.length c0) b] (.refl _) ?_
      refine r_rangeF (caps := [.pointer (some ⟨ge, 0, none⟩)]) (post := [AccT gl (listM d (fs.take (j + 1))), Vec 5 1 encB (.slice A0 b.length c0) b, cell ge 30 #[.slice A0 b.length c0]]) (os' := [AccT gl (listM d (fs.take (j + 1))), Vec 5 1 encB (.slice A0 b.length c0) b, cell ge 30 #[.slice A0 b.length c0], MksE svs, fact (svs.map SegV.m = ss), cell p 87 #[.pointer (some ⟨dk, 0, none⟩), .int .i64 (lim : Int), sv], Vec 92 2 encSg sv svs, DiskT dk d, TabZ tb, recT L1 (busyR r1)]) (.normal) 8 rfl [1, 9, 0] rfl (ent_of Tryz.func135 (by kernel_rfl) rfl) (fun L2 fn2 tm2 hf2 r2 k21 k22 k23 k24 k25 k26 => it_in (ents1e (.yield L2) #[] ge (fun i => recI L2 r2 (AccT gl (listM d (fs.take j) ++ ((entsB d f).take i).map (·.1)))) _ _ (A0 := A0) (c0 := c0) (N := (entsB d f).length) (by rw [List.take_zero, List.map_nil, List.append_nil]) (by rw [List.take_length, ← listM_take hf]; rfl) (hbl f b (List.mem_of_getElem? hf) hb_) (show entsL b = entsB d f by rw [← hb_]; rfl) rfl ?_)) rfl rfl rfl ?_
      · skip
        intro i A c e n hei
        have hil : i < (entsB d f).length := (List.getElem?_eq_some_iff.1 hei).1
        have hacc := acc_lt hf hil hL
        refine rd_in (doesF_round (n := 20) (env := [(14, .int .i64 (n : Int)), (13, .agg #[.int .i64 e.k, .int .u64 e.t, .int .u64 e.i, .slice A e.d.length c, .int .i64 e.c]), (10, .slice A0 b.length c0), (9, elp sv (j * 2)), (0, .pointer (some ⟨p, 0, none⟩)), (2, .slice none 0 0), (3, .pointer (some ⟨gl, 0, none⟩)), (7, .pointer (some ⟨p, 0, none⟩)), (8, .func (.func 134) #[] #[.pointer (some ⟨gf, 0, none⟩)]), (5, .slice A0 b.length c0), (11, .slice A0 b.length c0), (12, .func (.func 135) #[] #[.pointer (some ⟨ge, 0, none⟩)])]) (.normal) k22 k21 (by rw [k24]; rfl) ?_ ?_)
        · rw [k24, k23]
          refine (congrArg (fun t => Fr 20 { tmps := t, defers := [] } _) (?_ : _ = ((tm2.setIfInBounds 13 (.agg #[.int .i64 e.k, .int .u64 e.t, .int .u64 e.i, .slice A e.d.length c, .int .i64 e.c])).setIfInBounds 14 (.int .i64 (n : Int))))).mpr ((hf2.put (d := 13) (by decide) _).put (d := 14) (by decide) _)
          simp
        · intro w0 rs
          rw [k25]
          refine r_reg (by kernel_rfl) (by rintro ⟨a, w, h⟩; first | exact h.elim | exact nomatch h.1 | (obtain ⟨_, h, _⟩ := h; exact nomatch h)) ?_
          refine h_q hflT rfl ?_
          refine h_act (post := fun gx => [cell gx 34 #[.int .i64 0, .int .u64 0, .int .u64 0, .slice none 0 0, .int .i64 0], recT L2 r2, AccT gl (listM d (fs.take j) ++ ((entsB d f).take i).map (·.1)), Vec 5 1 encB (.slice A e.d.length c) e.d]) rfl (a_alloc ze_api_Entry rfl) ?_; rintro gx
          refine h_acts (post := fun _ => [cell gx 34 #[.int .i64 e.k, .int .u64 e.t, .int .u64 e.i, .slice A e.d.length c, .int .i64 e.c], recT L2 r2, AccT gl (listM d (fs.take j) ++ ((entsB d f).take i).map (·.1)), Vec 5 1 encB (.slice A e.d.length c) e.d]) rfl rfl (a_store 0 (v := .agg #[.int .i64 e.k, .int .u64 e.t, .int .u64 e.i, .slice A e.d.length c, .int .i64 e.c]) #[.int .i64 e.k, .int .u64 e.t, .int .u64 e.i, .slice A e.d.length c, .int .i64 e.c] tyEn.2 rfl rfl rfl rfl rfl rfl rfl rfl rfl) ?_; rintro ⟨⟩
          refine h_nil ?_
          refine r_begin 1 rfl k21 ?_
          rw [k26]
          refine r_open 2 rfl AccT.open_ (fun _ => rfl) ?_; rintro ⟨v, l⟩
          refine WCR.fact 2 rfl (fun _ h => h.2) ?_; rintro hl1
          refine WCR.leave [2] rfl rfl ?_
          replace hl1 : l.map (·.e) = listM d (fs.take j) ++ ((entsB d f).take i).map (·.1) := hl1
          have hl2 : l.length < 1000000 := by have := congrArg List.length hl1; rw [List.length_map] at this; omega
          refine r_open 1 rfl ents_open (fun _ => rfl) ?_; rintro ⟨⟩
          refine r_block ?_
          refine r_reg (by kernel_rfl) (by rintro ⟨a, w, h⟩; first | exact h.elim | exact nomatch h.1 | (obtain ⟨_, h, _⟩ := h; exact nomatch h)) ?_
          refine h_q hflT rfl ?_
          refine h_val rfl (v) (fun b w hb hH => xLd rfl rfl (rOn ty_s_api_Entry rfl) (hH.row 2 rfl) hb) ?_
          refine h_val rfl (.agg #[.int .i64 e.k, .int .u64 e.t, .int .u64 e.i, .slice A e.d.length c, .int .i64 e.c]) (fun b w hb hH => xLd rfl rfl (rAg (cs := [.int .i64 e.k, .int .u64 e.t, .int .u64 e.i, .slice A e.d.length c, .int .i64 e.c]) tyEn rfl) (hH.row 3 rfl) hb) ?_
          refine h_act (X := Value) (val := fun v : Value => v) (post := fun u1 => [Vec 34 5 encV u1 ([(⟨e, A, c⟩ : EntV)]), Vec 34 5 encV v l, Each (fun x : EntV => Vec 5 1 encB x.v x.e.d) l, cell gl 52 #[v], cell gx 34 #[.int .i64 e.k, .int .u64 e.t, .int .u64 e.i, .slice A e.d.length c, .int .i64 e.c], recT L2 (busyR r2), Vec 5 1 encB (.slice A e.d.length c) e.d]) rfl (by refine a_buildK (e := 34) (t := 52) (k := 5) (enc := encV) (x := .tmp 16) (c := .agg #[.int .i64 e.k, .int .u64 e.t, .int .u64 e.i, .slice A e.d.length c, .int .i64 e.c]) ?_ ?_ ?_ (⟨e, A, c⟩ : EntV) ?_ ?_ ?_; exact sl_api_Entry; exact (by decide); exact okV; exact rfl; exact rfl; exact rfl) ?_; rintro u1
          refine h_act (post := fun ev2 => [Vec 34 5 encV u1 ([(⟨e, A, c⟩ : EntV)]), Vec 34 5 encV ev2 (l ++ [(⟨e, A, c⟩ : EntV)]), Each (fun x : EntV => Vec 5 1 encB x.v x.e.d) l, cell gl 52 #[v], cell gx 34 #[.int .i64 e.k, .int .u64 e.t, .int .u64 e.i, .slice A e.d.length c, .int .i64 e.c], recT L2 (busyR r2), Vec 5 1 encB (.slice A e.d.length c) e.d]) rfl (a_appendK (nb := 56) 1 sl_api_Entry okV (by kernel_rfl) (by decide) rfl ([(⟨e, A, c⟩ : EntV)]) (fun w hH => hH.vec 0 rfl okV) (by simp only [List.length_cons, List.length_nil]; omega) rfl rfl rfl rfl) ?_; rintro ev2
          refine h_acts (post := fun _ => [Vec 34 5 encV u1 ([(⟨e, A, c⟩ : EntV)]), Vec 34 5 encV ev2 (l ++ [(⟨e, A, c⟩ : EntV)]), Each (fun x : EntV => Vec 5 1 encB x.v x.e.d) l, cell gl 52 #[ev2], cell gx 34 #[.int .i64 e.k, .int .u64 e.t, .int .u64 e.i, .slice A e.d.length c, .int .i64 e.c], recT L2 (busyR r2), Vec 5 1 encB (.slice A e.d.length c) e.d]) rfl rfl (a_storev 3 1 (v := ev2) #[ev2] ty_s_api_Entry.2 rfl (fun _ h => Vec.c1 h) rfl rfl rfl rfl rfl rfl rfl) ?_; rintro ⟨⟩
          refine h_nil (f_block ?_)
          refine f_close [1, 2, 6] rfl (ents_push (x := (⟨e, A, c⟩ : EntV))) rfl ?_
          refine f_close [2, 0] rfl (accT_mk (acc_next hl1 hei)) rfl ?_
          exact r_tell [3, 0] rfl rfl
      refine f_block (f_block ?_)
      refine f_close [0, 3, 4] rfl star_close rfl ?_
      refine f_close [3, 4, 5, 6, 0] rfl (sgI_mk (R := (fun svs => star [AccT gl (listM d (fs.take (j + 1))), MksE svs, fact (svs.map SegV.m = ss)])) hfc) rfl ?_
      exact r_tell [3, 0] rfl rfl
  intro D aT wT hDm hD0 hdf hF hH
  obtain ⟨svs, hH⟩ := hp_open 0 rfl SgI.open_ hH
  obtain ⟨_, hH⟩ := hp_open 4 rfl star_open hH
  have hm3 := thing_is (p := svs.map SegV.m = ss) 2 rfl (fun _ h => h.2) hH
  obtain ⟨⟨v, l⟩, hH⟩ := hp_open 0 rfl AccT.open_ hH
  have hl3 := thing_is (p := l.map (·.e) = listM d (fs.take N)) 2 rfl (fun _ h => h.2) hH
  rw [← hN, List.take_length] at hl3
  replace hH := hp_close (os := [cell gl 52 #[v], Ents 34 v l, fact (l.map (·.e) = listM d (fs.take N)), MksE svs, fact (svs.map SegV.m = ss), cell p 87 #[.pointer (some ⟨dk, 0, none⟩), .int .i64 (lim : Int), sv], Vec 92 2 encSg sv svs, DiskT dk d, TabZ tb, fact (svs.map SegV.f = fs), cell gf 26 #[.pointer (some ⟨p, 0, none⟩)]]) (t := LogT p dk lim ss) [5, 6, 3] rfl (logT_mk hm3) hH
  refine t_reg (env := [(2, .slice none 0 0), (3, .pointer (some ⟨gl, 0, none⟩))]) (os := [LogT p dk lim ss, cell gl 52 #[v], Ents 34 v l, fact (l.map (·.e) = listM d (fs.take N)), fact (svs.map SegV.m = ss), DiskT dk d, TabZ tb, fact (svs.map SegV.f = fs), cell gf 26 #[.pointer (some ⟨p, 0, none⟩)]]) ?_ aT wT hDm hD0 hdf (hF.keep ⟨rfl, rfl, trivial⟩) hH
  refine t_val rfl (v) (fun b w hb hH => xLd rfl rfl (rOn ty_s_api_Entry rfl) (hH.row 1 rfl) hb) ?_
  refine t_val rfl (v) (fun b w hb hH => exec_q1 hflT rfl hb) ?_
  exact t_done (t_ret (fun a w hD hD0 hd hF hH => m_fin1 (os := [LogT p dk lim ss, cell gl 52 #[v], Ents 34 v l, fact (l.map (·.e) = listM d (fs.take N)), fact (svs.map SegV.m = ss), DiskT dk d, TabZ tb, fact (svs.map SegV.f = fs), cell gf 26 #[.pointer (some ⟨p, 0, none⟩)]]) (.tmp rfl) rfl (fun w' h => tells (X := EsV) ⟨v, l⟩ rfl [2, 0, 5, 6] rfl h (fun z hz => ⟨z, .refl _, fact_add (xs := [Ents 34 v l, LogT p dk lim ss, DiskT dk d, TabZ tb]) hl3 hz⟩)) D a w hD hD0 hd hF hH))
end Go.Proofs.YtaipejaeeohpkaaGreatDoor.Sep
