/-
  SgX · SgY · SgI
-/
import Derived.Test.YtnknboibmifacaaGreatDoorVM01
import Derived.Test.YtnknboibmifacaaGreatDoorVM02
set_option linter.unusedSimpArgs false
set_option linter.unusedVariables false
set_option maxRecDepth 100000
namespace Go.Proofs.YtnknboibmifacaaGreatDoor.Sep
open Go.RowKit
open Go.Proofs.YtnknboibmifacaaGreatDoor.Mem (AR B3 Chg Av)
theorem Ot {e : TypeId} {k : Nat} {α : Type} {enc : α → List Value} (he : EncOf k enc) {A : Option Addr} {c : Nat} {l : List α} {j : Nat} (hj : j ≤ l.length) : ∀ rs, Al [Ak e k enc (.slice A l.length c) l] rs → Ak e k enc (.slice A (l.take j).length c) (l.take j) rs := fun rs h => by
  rcases Al.one' h with ⟨h1, h2, h3⟩ | ⟨g, c', cs, h1, h2, h3, h4, h5, h6⟩
  · subst h2
    exact .inl ⟨by simpa using h1, by simp, h3⟩
  · have hl : (l.take j).length = j := by rw [List.length_take]; omega
    simp only [Value.slice.injEq] at h1
    obtain ⟨rfl, _, rfl⟩ := h1
    refine .inr ⟨g, c, cs, rfl, by omega, h3, h4, ?_, h6⟩
    rw [hl, ← FY he, ← h5, List.take_take]
    congr 1
    exact (Nat.min_eq_left (Nat.mul_le_mul_right k hj)).symm
theorem I8 {k : Nat} {A : Option Addr} {n c j : Nat} : Ca k (.slice A n c) 0 j = .slice A j c := by
  have e : A.map (·.add 0) = A := by
    cases A with
    | none => rfl
    | some a =>
      have : a.add 0 = a := by obtain ⟨b, o, q⟩ := a; cases q <;> simp [Addr.add]
      simp [this]
  simp [Ca, e]
theorem Ll {e : TypeId} {k : Nat} {α : Type} {enc : α → List Value} {A : Option Addr} {c n : Nat} {l : List α} : ∀ rs, Ak e k enc (.slice A n c) l rs → l.length ≤ c := fun rs h => by
  rcases h with ⟨h1, h2, h3⟩ | ⟨g, c', cs, h1, h2, h3, h4, h5, h6⟩
  · subst h2; exact Nat.zero_le _
  · simp only [Value.slice.injEq] at h1; omega
theorem Ou {e : TypeId} {k : Nat} {α β : Type} {enc : α → List Value} {enc' : β → List Value} {v : Value} {l : List α} {m : List β} (hl : l.length = m.length) (hf : flat enc l = flat enc' m) : ∀ rs, Al [Ak e k enc v l] rs → Ak e k enc' v m rs := fun rs h => by
  rcases Al.one' h with ⟨h1, h2, h3⟩ | ⟨g, c, cs, h1, h2, h3, h4, h5, h6⟩
  · subst h2
    exact .inl ⟨h1, List.length_eq_zero_iff.1 hl.symm, h3⟩
  · exact .inr ⟨g, c, cs, by rw [h1, hl], by omega, h3, h4, by rw [← hl, h5, hf], h6⟩
def encSw (x : Nat × Value) : List Value := [.int .u64 (x.1 : Int), if x.2.oneCell' = true then x.2 else .nilIface]
theorem WI : EncOf 2 encSw := ⟨fun _ => rfl, fun x v h => by
  unfold encSw at h
  rw [List.mem_cons, List.mem_singleton] at h
  rcases h with rfl | rfl
  · rfl
  · split
    · assumption
    · rfl⟩
def SegV.w (x : SegV) : Nat × Value := (x.f, x.v)
theorem QT (l : List SegV) : flat encSg l = flat encSw (l.map SegV.w) := by
 unfold flat
 rw [List.flatMap_map]
 rfl
theorem Vk {e : TypeId} {v : Value} {l : List SegV} : ∀ rs, Al [Ak e 2 encSg v l] rs → Ak e 2 encSw v (l.map SegV.w) rs := Ou (by rw [List.length_map]) (QT l)
theorem Vl {e : TypeId} {v : Value} {l : List SegV} {m : List (Nat × Value)} {y : SegV} (h : m = [y.w]) : ∀ rs, Al [Ak e 2 encSw v (l.map SegV.w ++ m)] rs → Ak e 2 encSg v (l ++ [y]) rs := by
 subst h
 rw [show l.map SegV.w ++ [y.w] = (l ++ [y]).map SegV.w by simp]
 exact Ou (by rw [List.length_map]) (QT _).symm
section
variable {P : Program} {Q : Exit → Act → World → Prop} {n : Nat} {B : Nat → Prop} {w0 : World} {os : List Ass} {env : List (Nat × Value)} {o : Oper} {t e e' : TypeId} {u : Value} {k' : Nat} {α : Type} {enc' : α → List Value} {l' : List α}
theorem TR (q : Nat) (f : Nat) (hT : SliceT P t e 2) (hq : os[q]? = some (Ak e' k' enc' u l')) {x : Operand} (ho : o.op = .buildSlice t 1 #[(0, x)]) (hx : evs env x = some (.agg #[.int .u64 (f : Int), u])) : Bm P Q n env B w0 os o (fun v : Value => v) (fun v => Ak e 2 encSw v [(f, u)] :: os) := fun b w hH hF K hK => by
 obtain ⟨rs, h1, _⟩ := hH.thing q hq
 obtain ⟨A, c, rfl⟩ := h1.is
 exact Dl hT (by decide) WI (f, .slice A l'.length c) rfl ho hx b w hH hF K hK
end
theorem Ov {svs : List SegV} {y : SegV} : ∀ rs, Al [Bd svs, Ak 104 2 encMk (.slice y.A y.l.length y.c) y.l] rs → Bd (svs ++ [y]) rs := fun rs h => Gm rs h
theorem TS {svs : List SegV} {n : Nat} {x : SegV} (hn : svs.length = n + 1) (hx : svs[n]? = some x) : ∀ rs, Bd svs rs → ∃ _ : Unit, Al [Bd (svs.take n), Ak 104 2 encMk (.slice x.A x.l.length x.c) x.l] rs := fun rs h => by
 obtain ⟨_, a, b, e, h1, c, d, e2, h2, h3⟩ := F7 hx rs h
 have h4 : svs.drop (n + 1) = [] := List.drop_of_length_le (by omega)
 rw [h4] at h3
 exact ⟨(), a, b, e, h1, c, d, e2, h2, by
  obtain ⟨p, q, e3, h5, h6⟩ := h3
  have : p = [] := h5
  subst this; subst e3
  exact h6⟩
theorem TT {svs : List SegV} {ss : SegsM} {f : Nat} {l : List (Int × Nat)} (h : svs.map SegV.m = ss ++ [(f, l)]) : (svs.take ss.length).map SegV.m = ss := by
 rw [List.map_take, h, List.take_left]
theorem TU {svs : List SegV} {ss : SegsM} {y : SegV} (h : svs.map SegV.m = ss) : (svs ++ [y]).map SegV.m = ss ++ [(y.f, y.l)] := by
 rw [List.map_append, h]; rfl
theorem QU {svs : List SegV} {ss : SegsM} {y : SegV} {p : Nat × List (Int × Nat)} (h : svs.map SegV.m = ss ++ [p]) : (svs.set ss.length y).map SegV.m = ss ++ [(y.f, y.l)] := by
 rw [List.map_set, h, List.set_append_right _ _ (Nat.le_refl _), Nat.sub_self]; rfl
end Go.Proofs.YtnknboibmifacaaGreatDoor.Sep
namespace Go.Proofs.YtnknboibmifacaaGreatDoor.Sep
open Go.RowKit
open Go.Proofs.YtnknboibmifacaaGreatDoor.Mem (AR B3 Chg Av)
theorem Db {p dk lim : Nat} {sv : Value} {svs : List SegV} {ss : SegsM} {A : List Ass} (h : svs.map SegV.m = ss) : ∀ rs, Al ([cell p 87 #[.pointer (some ⟨dk, 0, none⟩), .int .i64 (lim : Int), sv], Ak 92 2 encSg sv svs, Bd svs] ++ A) rs → ∃ rs', rs.Perm rs' ∧ Al (AA p dk lim ss :: A) rs' := fun rs hz => by
 obtain ⟨a, b, e, h1, h2⟩ := hz.split
 exact ⟨rs, .refl _, a, b, e, Dv h a h1, h2⟩
theorem M9 {p dk lim : Nat} {ss : SegsM} {f : Nat} {l : List (Int × Nat)} (hl : ss.length ≤ 1000000) (hl2 : l.length ≤ 1000000) (hf : f ≤ 72057594037927935) (h0 : l ≠ []){d : DiskD} {b : List UInt8} {ok : Bool} {m : Int × Nat} (tb : Tb) (hd : d.fit) (hok : (D6 d (nameL f)).isSome = ok) (hb_ : (D6 d (nameL f)).getD [] = b) (hm1 : l[l.length - 1]? = some m) (hbl : b.length ≤ 137438953472) (hmb : m.2 = b.length) : AP Tryz.prog 42 #[.pointer (some ⟨p, 0, none⟩)] [AA p dk lim (ss ++ [(f, l)]), Ag dk d, Ao tb] (fun (_ : Unit) => .int .i64 0) (fun (_ : Unit) => [AA p dk lim (ss ++ [(f, l)]), Ag dk d, Ao tb]) := by
  refine Bj (args := [.pointer (some ⟨p, 0, none⟩)]) 69 Tryz.func42 rfl rfl rfl ?_; intro w rs
  refine A7 0 rfl AA.open_ (fun _ => rfl) ?_; rintro ⟨sv, svs⟩
  refine AN.fact 3 rfl (fun _ h => h.2) ?_; rintro hm
  refine AN.leave [3] rfl rfl ?_
  replace hm : svs.map SegV.m = ss ++ [(f, l)] := hm
  obtain ⟨x, hx, rfl, rfl, hn⟩ := Da hm
  have hl0 : 0 < x.l.length := List.length_pos_iff.2 h0
  refine Ad ?_
  refine Af Ae rfl ?_
  refine Ab (An (AQ ?_))
  refine CY (α := Unit) (fun _q => [(0, .pointer (some ⟨p, 0, none⟩)), (2, .int .i64 0)]) (fun _q => [cell p 87 #[.pointer (some ⟨dk, 0, none⟩), .int .i64 (lim : Int), sv], Ak 92 2 encSg sv svs, Bd svs, Ag dk d, Ao tb]) (fun _q => True) (fun _q => 0) () trivial ⟨rfl, rfl, trivial⟩ rfl ?_
  rintro _q _hI
  refine AN.at_ (env' := [(0, .pointer (some ⟨p, 0, none⟩)), (2, .int .i64 0)]) (rs' := [cell p 87 #[.pointer (some ⟨dk, 0, none⟩), .int .i64 (lim : Int), sv], Ak 92 2 encSg sv svs, Bd svs, Ag dk d, Ao tb]) ⟨rfl, rfl, trivial⟩ rfl ?_
  refine An (Ad ?_)
  refine Af Ae rfl ?_
  refine Aa rfl (.pointer (some ⟨p, 0, none⟩)) (fun b w hb hH => by exact B8 rfl rfl hb) ?_
  refine Af Ae rfl ?_
  refine Aa rfl (sv) (fun b w hb hH => AY rfl rfl (Bi C4 rfl) (hH.row 0 rfl) hb) ?_
  refine Aa rfl (.int .i64 ((ss.length + 1 : Nat) : Int)) (fun b w hb hH => BS 1 hn Tryz.underlying85 rfl rfl rfl hH hb) ?_
  refine Aa rfl (.bool true) (fun b w hb hH => AZ rfl rfl rfl (BO (by omega)) hb) ?_
  refine Af Ae rfl ?_
  refine Am rfl (Au (os' := fun _ => [cell p 87 #[.pointer (some ⟨dk, 0, none⟩), .int .i64 (lim : Int), sv], Ak 92 2 encSg sv svs, Bd svs, Ag dk d, Ao tb]) [0, 1] 0 (Aj Tryz.func49 (by kernel_rfl) rfl) (Co hn (by omega)) rfl rfl rfl (fun _ => rfl) rfl rfl rfl) ?_; rintro ⟨⟩
  refine Aa rfl (AV sv (ss.length * 2)) (fun b w hb hH => B0 1 rfl (j := ss.length) (List.getElem?_eq_some_iff.1 hx).1 rfl rfl hH hb) ?_
  refine Aa rfl (AV sv (ss.length * 2 + 1)) (fun b w hb hH => GJ AT (by decide) (hH.vec 1 rfl AT) (j := ss.length) hx Bo rfl rfl hb) ?_
  refine Aa rfl (.slice x.A x.l.length x.c) (fun b w hb hH => BD AT (by decide) (hH.vec 1 rfl AT) (j := ss.length) hx Bw (off := 1) rfl rfl rfl hb) ?_
  refine Aa rfl (.int .i64 (x.l.length : Int)) (fun b w hb hH => Bp ((DF 2 rfl hx hH)) Tryz.underlying90 rfl rfl hb) ?_
  refine Aa rfl (.bool false) (fun b w hb hH => AZ rfl rfl rfl (EK (by omega)) hb) ?_
  refine Af Ae rfl ?_
  refine Ab (As rfl (C8 (Gx (Gx (Br (AB (An (Ad ?_))))))))
  refine Af Ae rfl ?_
  refine Aa rfl (.pointer (some ⟨p, 0, none⟩)) (fun b w hb hH => by exact B8 rfl rfl hb) ?_
  refine Af Ae rfl ?_
  refine Aa rfl (sv) (fun b w hb hH => AY rfl rfl (Bi C4 rfl) (hH.row 0 rfl) hb) ?_
  refine Aa rfl (.int .i64 ((ss.length + 1 : Nat) : Int)) (fun b w hb hH => BS 1 hn Tryz.underlying85 rfl rfl rfl hH hb) ?_
  refine Aa rfl (.bool false) (fun b w hb hH => AZ rfl rfl rfl (EK (by omega)) hb) ?_
  refine Ab (As rfl (Aw (AB (Ad ?_))))
  refine Af Ae rfl ?_
  refine Am rfl (Au (os' := fun _ => [cell p 87 #[.pointer (some ⟨dk, 0, none⟩), .int .i64 (lim : Int), sv], Ak 92 2 encSg sv svs, Bd svs, Ag dk d, Ao tb]) [0, 1] 0 (Aj Tryz.func49 (by kernel_rfl) rfl) (Co hn (by omega)) rfl rfl rfl (fun _ => rfl) rfl rfl rfl) ?_; rintro ⟨⟩
  refine Af Ae rfl ?_
  refine Ab (An (An ?_))
  refine Gh 1 rfl ?_
  refine BV 14 2 [⟨.quiet, [none, none], fun _ => .pointer (some ⟨p, 0, none⟩), []⟩, ⟨.quiet, [none, none], fun _ => .pointer (some ⟨p, 0, none⟩), [0]⟩, ⟨.quiet, [none, none], fun _ => .pointer (some ⟨p, 0, none⟩), [1]⟩, ⟨.quiet, [none, none], fun _ => .pointer (some ⟨dk, 0, none⟩), [2]⟩, ⟨.quiet, [none, none], fun _ => AV sv (ss.length * 2), []⟩, ⟨.quiet, [none, none], fun _ => AV sv (ss.length * 2), [4]⟩, ⟨.quiet, [none, none], fun _ => AV sv (ss.length * 2 + 0), [5]⟩, ⟨.quiet, [none, none], fun _ => .int .u64 (x.f : Int), [6]⟩, ⟨.actv 0, [some false, some false], fun _ => .string (bs (nameL x.f)), [7]⟩, ⟨.act 1, [some true, some false], fun _ => undef, [3, 8]⟩, ⟨.quiet, [some true, some true], fun ρ => match ρ with | [_, some rv] => rv | _ => undef, [9]⟩, ⟨.quiet, [some true, some true], fun ρ => match ρ with | [_, some rv] => (GA rv 0) | _ => undef, [10]⟩, ⟨.quiet, [some true, some true], fun ρ => match ρ with | [_, some rv] => (GA rv 1) | _ => undef, [10]⟩, ⟨.quiet, [some true, some true], fun ρ => match ρ with | [_, some rv] => (GA rv 0) | _ => undef, [11]⟩] [(0, .pointer (some ⟨p, 0, none⟩)), (2, .int .i64 0), (4, AV sv (ss.length * 2))] (fun ρ => match ρ with | [r0, r1] => [DR r1 (fun rv => LS rv b ok) (GE), cell p 87 #[.pointer (some ⟨dk, 0, none⟩), .int .i64 (lim : Int), sv], Ak 92 2 encSg sv svs, Bd svs, Ag dk d, Ao tb] | _ => []) (by kernel_rfl) (by kernel_rfl) ⟨rfl, rfl, rfl, trivial⟩ rfl ?_ ?_
  · skip
    refine Ac (by intro r0_ r1_; exact ⟨rfl, fun b w hH hb => Ah Ae rfl hb⟩) ?_
    refine Ac (by intro r0_ r1_; exact ⟨rfl, fun b w hH hb => by exact B8 rfl rfl hb⟩) ?_
    refine Ac (by intro r0_ r1_; exact ⟨rfl, fun b w hH hb => Ah Ae rfl hb⟩) ?_
    refine Ac (by intro r0_ r1_; exact ⟨rfl, fun b w hH hb => AY rfl rfl (Bi CL rfl) (hH.row 1 rfl) hb⟩) ?_
    refine Ac (by intro r0_ r1_; exact ⟨rfl, fun b w hH hb => Ah Ae rfl hb⟩) ?_
    refine Ac (by intro r0_ r1_; exact ⟨rfl, fun b w hH hb => B0 2 rfl (j := ss.length) (List.getElem?_eq_some_iff.1 hx).1 rfl rfl hH hb⟩) ?_
    refine Ac (by intro r0_ r1_; exact ⟨rfl, fun b w hH hb => GJ AT (by decide) (hH.vec 2 rfl AT) (j := ss.length) hx Bn rfl rfl hb⟩) ?_
    refine Ac (by intro r0_ r1_; exact ⟨rfl, fun b w hH hb => BD AT (by decide) (hH.vec 2 rfl AT) (j := ss.length) hx AO (off := 0) rfl rfl rfl hb⟩) ?_
    refine Ac (by exact ⟨rfl, Bm.su (Au (os' := fun _ => [GE, cell p 87 #[.pointer (some ⟨dk, 0, none⟩), .int .i64 (lim : Int), sv], Ak 92 2 encSg sv svs, Bd svs, Ag dk d, Ao tb]) [5] 0 (Aj Tryz.func19 (by kernel_rfl) rfl) (DK tb (n := x.f) (by omega)) rfl rfl rfl (fun _ => rfl) rfl rfl rfl) rfl⟩) ?_
    refine Ac (by intro v0_; exact ⟨rfl, Bm.s (Au (os' := fun rv => [LS rv b ok, cell p 87 #[.pointer (some ⟨dk, 0, none⟩), .int .i64 (lim : Int), sv], Ak 92 2 encSg sv svs, Bd svs, Ag dk d, Ao tb]) [4, 0] 1 (Aj Tryz.func94 (by kernel_rfl) rfl) (Lh hd hok hb_) rfl rfl rfl (fun _ => rfl) rfl rfl rfl) (fun _ => rfl)⟩) ?_
    refine Ac (by intro v0_ rv; exact ⟨rfl, fun b w hH hb => Ah Ae rfl hb⟩) ?_
    refine Ac (by intro v0_ rv; exact ⟨rfl, fun b w hH hb => QR 0 (by decide) rfl rfl rfl hH hb⟩) ?_
    refine Ac (by intro v0_ rv; exact ⟨rfl, fun b w hH hb => QR 0 (by decide) rfl rfl rfl hH hb⟩) ?_
    refine Ac (by intro v0_ rv; exact ⟨rfl, fun b w hH hb => Ah Ae rfl hb⟩) ?_
    exact B7
  intro v0_ rv
  refine BT.keep (env' := [(0, .pointer (some ⟨p, 0, none⟩)), (2, .int .i64 0), (4, AV sv (ss.length * 2)), (47, (GA rv 1)), (5, (GA rv 0))]) ⟨rfl, rfl, rfl, rfl, rfl, trivial⟩ ?_
  refine Jd 0 rfl LS.open_ (fun _ => rfl) ?_; rintro ⟨bv, rfl⟩
  refine BT.keep (env' := [(0, .pointer (some ⟨p, 0, none⟩)), (2, .int .i64 0), (4, AV sv (ss.length * 2)), (47, .bool ok), (5, bv)]) ⟨rfl, rfl, rfl, rfl, rfl, trivial⟩ ?_
  refine BT.mid [Ak 5 1 encB bv b, cell p 87 #[.pointer (some ⟨dk, 0, none⟩), .int .i64 (lim : Int), sv], Ak 92 2 encSg sv svs, Bd svs, Ag dk d, Ao tb] (.refl _) ?_
  refine Af Ae rfl ?_
  refine AD (AB (Ad ?_))
  refine Af Ae rfl ?_
  refine Aa rfl (.int .i64 (b.length : Int)) (fun b w hb hH => Ez 0 Tryz.underlying30 rfl rfl rfl hH hb) ?_
  refine Af Ae rfl ?_
  refine Aa rfl (AV sv (ss.length * 2)) (fun b w hb hH => B0 2 rfl (j := ss.length) (List.getElem?_eq_some_iff.1 hx).1 rfl rfl hH hb) ?_
  refine Aa rfl (.agg (encSg x).toArray) (fun b w hb hH => Dz AT (by decide) (hH.vec 2 rfl AT) (j := ss.length) hx B5 rfl rfl hb) ?_
  refine Am (post := fun _ => [Ak 5 1 encB bv b, cell p 87 #[.pointer (some ⟨dk, 0, none⟩), .int .i64 (lim : Int), sv], Ak 92 2 encSg sv svs, Bd svs, Ag dk d, Ao tb]) rfl (Bc (Aj Tryz.func93 (by kernel_rfl) rfl) (fun w hH => Lj w (DF 3 rfl hx hH) hm1 hl0 hl2) rfl rfl rfl) ?_; rintro ⟨⟩
  refine Aa rfl (.bool false) (fun b w hb hH => AZ rfl rfl rfl (BE (by omega)) hb) ?_
  refine Ab (As rfl (Aw (AB (Ad ?_))))
  refine Af Ae rfl ?_
  refine Ab (Az ?_)
  exact Ay (.tmp rfl) (fun w h => AC () rfl [1, 2, 3, 4, 5] rfl h (fun z hz => Db hm z hz)) rfl
theorem Ow {p dk lim : Nat} {d : DiskD} (tb : Tb) : AP Tryz.prog 42 #[.pointer (some ⟨p, 0, none⟩)] [AA p dk lim ([]), Ag dk d, Ao tb] (fun (_ : Unit) => .int .i64 0) (fun (_ : Unit) => [AA p dk lim ([]), Ag dk d, Ao tb]) := by
 refine Bj (args := [.pointer (some ⟨p, 0, none⟩)]) 69 Tryz.func42 rfl rfl rfl ?_; intro w rs
 refine A7 0 rfl AA.open_ (fun _ => rfl) ?_; rintro ⟨sv, svs⟩
 refine AN.fact 3 rfl (fun _ h => h.2) ?_; rintro hm
 refine AN.leave [3] rfl rfl ?_
 replace hm : svs.map SegV.m = [] := hm
 have hn : svs.length = 0 := by have := congrArg List.length hm; simpa using this
 refine Ad ?_
 refine Af Ae rfl ?_
 refine Ab (An (AQ ?_))
 refine CY (α := Unit) (fun _q => [(0, .pointer (some ⟨p, 0, none⟩)), (2, .int .i64 0)]) (fun _q => [cell p 87 #[.pointer (some ⟨dk, 0, none⟩), .int .i64 (lim : Int), sv], Ak 92 2 encSg sv svs, Bd svs, Ag dk d, Ao tb]) (fun _q => True) (fun _q => 0) () trivial ⟨rfl, rfl, trivial⟩ rfl ?_
 rintro _q _hI
 refine AN.at_ (env' := [(0, .pointer (some ⟨p, 0, none⟩)), (2, .int .i64 0)]) (rs' := [cell p 87 #[.pointer (some ⟨dk, 0, none⟩), .int .i64 (lim : Int), sv], Ak 92 2 encSg sv svs, Bd svs, Ag dk d, Ao tb]) ⟨rfl, rfl, trivial⟩ rfl ?_
 refine An (Ad ?_)
 refine Af Ae rfl ?_
 refine Aa rfl (.pointer (some ⟨p, 0, none⟩)) (fun b w hb hH => by exact B8 rfl rfl hb) ?_
 refine Af Ae rfl ?_
 refine Aa rfl (sv) (fun b w hb hH => AY rfl rfl (Bi C4 rfl) (hH.row 0 rfl) hb) ?_
 refine Aa rfl (.int .i64 ((0 : Nat) : Int)) (fun b w hb hH => BS 1 hn Tryz.underlying85 rfl rfl rfl hH hb) ?_
 refine Aa rfl (.bool false) (fun b w hb hH => AZ rfl rfl rfl (BE (by omega)) hb) ?_
 refine Af Ae rfl ?_
 refine Ab (As rfl (C8 (Gx (Gx (Br (AB (An (Ad ?_))))))))
 refine Af Ae rfl ?_
 refine Aa rfl (.pointer (some ⟨p, 0, none⟩)) (fun b w hb hH => by exact B8 rfl rfl hb) ?_
 refine Af Ae rfl ?_
 refine Aa rfl (sv) (fun b w hb hH => AY rfl rfl (Bi C4 rfl) (hH.row 0 rfl) hb) ?_
 refine Aa rfl (.int .i64 ((0 : Nat) : Int)) (fun b w hb hH => BS 1 hn Tryz.underlying85 rfl rfl rfl hH hb) ?_
 refine Aa rfl (.bool true) (fun b w hb hH => AZ rfl rfl rfl (FI (by omega)) hb) ?_
 refine Ab (AI rfl (Ad ?_))
 refine Af Ae rfl ?_
 refine Ab (Az (D8 ?_))
 exact Ay (.tmp rfl) (fun w h => AC () rfl [0, 1, 2, 3, 4] rfl h (fun z hz => Db hm z hz)) rfl
theorem Kb {p dk lim : Nat} {ss : SegsM} {f : Nat} {l : List (Int × Nat)} {d d' : DiskD} (hl : ss.length ≤ 1000000) (hf : f ≤ 72057594037927935) (tb : Tb) (hd : d.fit) (hdel : Jp d (nameL f) = (d', 0)) : AP Tryz.prog 50 #[.pointer (some ⟨p, 0, none⟩)] [AA p dk lim (ss ++ [(f, l)]), Ag dk d, Ao tb] (fun (_ : Unit) => .int .i64 0) (fun (_ : Unit) => [AA p dk lim ss, Ag dk d', Ao tb]) := by
  refine Bj (args := [.pointer (some ⟨p, 0, none⟩)]) 32 Tryz.func50 rfl rfl rfl ?_; intro w rs
  refine A7 0 rfl AA.open_ (fun _ => rfl) ?_; rintro ⟨sv, svs⟩
  refine AN.fact 3 rfl (fun _ h => h.2) ?_; rintro hm
  refine AN.leave [3] rfl rfl ?_
  replace hm : svs.map SegV.m = ss ++ [(f, l)] := hm
  obtain ⟨x, hx, rfl, rfl, hn⟩ := Da hm
  refine AN.fact 1 rfl (fun _ h => Ak.is h) ?_; rintro ⟨AS, cS, hsv⟩
  change sv = .slice AS svs.length cS at hsv
  subst hsv
  refine AN.keep (env' := [(0, .pointer (some ⟨p, 0, none⟩))]) ⟨rfl, trivial⟩ ?_
  refine AN.mid [cell p 87 #[.pointer (some ⟨dk, 0, none⟩), .int .i64 (lim : Int), .slice AS svs.length cS], Ak 92 2 encSg (.slice AS svs.length cS) svs, Bd svs, Ag dk d, Ao tb] (.refl _) ?_
  refine AN.fact 1 rfl Ll ?_; rintro hcap
  refine Ad ?_
  refine Af Ae rfl ?_
  refine Ab (An (An ?_))
  refine BV 11 3 [⟨.quiet, [none, none, none], fun _ => .pointer (some ⟨p, 0, none⟩), []⟩, ⟨.quiet, [none, none, none], fun _ => .pointer (some ⟨p, 0, none⟩), [0]⟩, ⟨.quiet, [none, none, none], fun _ => .pointer (some ⟨p, 0, none⟩), [1]⟩, ⟨.quiet, [none, none, none], fun _ => .pointer (some ⟨dk, 0, none⟩), [2]⟩, ⟨.quiet, [none, none, none], fun _ => .pointer (some ⟨p, 0, none⟩), []⟩, ⟨.actv 0, [some false, some false, some false], fun _ => AV (.slice AS svs.length cS) (ss.length * 2), [4]⟩, ⟨.quiet, [some true, none, none], fun _ => AV (.slice AS svs.length cS) (ss.length * 2), [5]⟩, ⟨.quiet, [some true, none, none], fun _ => AV (.slice AS svs.length cS) (ss.length * 2 + 0), [6]⟩, ⟨.quiet, [some true, none, none], fun _ => .int .u64 (x.f : Int), [7]⟩, ⟨.actv 1, [some true, some false, some false], fun _ => .string (bs (nameL x.f)), [8]⟩, ⟨.actv 2, [some true, some true, some false], fun _ => .int .i64 0, [3, 9]⟩] [(0, .pointer (some ⟨p, 0, none⟩)), (2, .int .i64 0)] (fun ρ => match ρ with | [r0, r1, r2] => [cell p 87 #[.pointer (some ⟨dk, 0, none⟩), .int .i64 (lim : Int), .slice AS svs.length cS], Ak 92 2 encSg (.slice AS svs.length cS) svs, Bd svs, DR r2 (fun _ => Ag dk d') (Ag dk d), Ao tb] | _ => []) (by kernel_rfl) (by kernel_rfl) ⟨rfl, rfl, trivial⟩ rfl ?_ ?_
  · skip
    refine Ac (by intro r0_ r1_ r2_; exact ⟨rfl, fun b w hH hb => Ah Ae rfl hb⟩) ?_
    refine Ac (by intro r0_ r1_ r2_; exact ⟨rfl, fun b w hH hb => by exact B8 rfl rfl hb⟩) ?_
    refine Ac (by intro r0_ r1_ r2_; exact ⟨rfl, fun b w hH hb => Ah Ae rfl hb⟩) ?_
    refine Ac (by intro r0_ r1_ r2_; exact ⟨rfl, fun b w hH hb => AY rfl rfl (Bi CL rfl) (hH.row 0 rfl) hb⟩) ?_
    refine Ac (by intro r0_ r1_ r2_; exact ⟨rfl, fun b w hH hb => Ah Ae rfl hb⟩) ?_
    refine Ac (by exact ⟨rfl, Bm.su (Au (os' := fun _ => [cell p 87 #[.pointer (some ⟨dk, 0, none⟩), .int .i64 (lim : Int), .slice AS svs.length cS], Ak 92 2 encSg (.slice AS svs.length cS) svs, Bd svs, Ag dk d, Ao tb]) [0, 1] 0 (Aj Tryz.func49 (by kernel_rfl) rfl) (Co hn (by omega)) rfl rfl rfl (fun _ => rfl) rfl rfl rfl) rfl⟩) ?_
    refine Ac (by intro v0_ r1_ r2_; exact ⟨rfl, fun b w hH hb => B0 1 rfl (j := ss.length) (List.getElem?_eq_some_iff.1 hx).1 rfl rfl hH hb⟩) ?_
    refine Ac (by intro v0_ r1_ r2_; exact ⟨rfl, fun b w hH hb => GJ AT (by decide) (hH.vec 1 rfl AT) (j := ss.length) hx Bn rfl rfl hb⟩) ?_
    refine Ac (by intro v0_ r1_ r2_; exact ⟨rfl, fun b w hH hb => BD AT (by decide) (hH.vec 1 rfl AT) (j := ss.length) hx AO (off := 0) rfl rfl rfl hb⟩) ?_
    refine Ac (by intro v0_; exact ⟨rfl, Bm.su (Au (os' := fun _ => [cell p 87 #[.pointer (some ⟨dk, 0, none⟩), .int .i64 (lim : Int), .slice AS svs.length cS], Ak 92 2 encSg (.slice AS svs.length cS) svs, Bd svs, Ag dk d, Ao tb]) [4] 0 (Aj Tryz.func19 (by kernel_rfl) rfl) (DK tb (n := x.f) (by omega)) rfl rfl rfl (fun _ => rfl) rfl rfl rfl) rfl⟩) ?_
    refine Ac (by intro v0_ v1_; exact ⟨rfl, Bm.su (Au (os' := fun _ => [cell p 87 #[.pointer (some ⟨dk, 0, none⟩), .int .i64 (lim : Int), .slice AS svs.length cS], Ak 92 2 encSg (.slice AS svs.length cS) svs, Bd svs, Ag dk d', Ao tb]) [3] 0 (Aj Tryz.func89 (by kernel_rfl) rfl) (JV hd hdel) rfl rfl rfl (fun _ => rfl) rfl rfl rfl) rfl⟩) ?_
    exact B7
  intro v0_ v1_ v2_
  refine BT.keep (env' := [(0, .pointer (some ⟨p, 0, none⟩)), (2, .int .i64 0), (14, .int .i64 0)]) ⟨rfl, rfl, rfl, trivial⟩ ?_
  refine Af Ae rfl ?_
  refine AD (AB (Ad ?_))
  refine Af Ae rfl ?_
  refine Aa rfl (.bool false) (fun b w hb hH => AZ rfl rfl rfl (Bu (by decide)) hb) ?_
  refine Ab (As rfl (Aw (AB ?_)))
  refine A7 2 rfl (TS hn hx) (fun _ => rfl) ?_; rintro ⟨⟩
  have htl : (svs.take ss.length).length = ss.length := by rw [List.length_take]; omega
  have hsub2 : Ca 2 (.slice AS svs.length cS) 0 ss.length = .slice AS (svs.take ss.length).length cS := by rw [htl]; exact I8
  refine Bg [3] rfl (Ot AT (j := ss.length) (by omega)) rfl ?_
  refine AN.keep (env' := [(0, .pointer (some ⟨p, 0, none⟩)), (2, .int .i64 0), (14, .int .i64 0), (3, .int .i64 0), (15, .int .i64 0), (16, .bool false)]) ⟨rfl, rfl, rfl, rfl, rfl, rfl, trivial⟩ ?_
  refine AN.mid [Ak 92 2 encSg (.slice AS (svs.take ss.length).length cS) (svs.take ss.length), Bd (svs.take ss.length), Ak 104 2 encMk (.slice x.A x.l.length x.c) x.l, cell p 87 #[.pointer (some ⟨dk, 0, none⟩), .int .i64 (lim : Int), .slice AS svs.length cS], Ag dk d', Ao tb] (.refl _) ?_
  refine An ?_
  refine BV 14 0 [⟨.quiet, [], fun _ => .pointer (some ⟨p, 0, none⟩), []⟩, ⟨.quiet, [], fun _ => .pointer (some ⟨p, 0, none⟩), []⟩, ⟨.quiet, [], fun _ => .pointer (some ⟨p, 0, none⟩), [1]⟩, ⟨.quiet, [], fun _ => .pointer (some ⟨p, 2, none⟩), [2]⟩, ⟨.quiet, [], fun _ => .slice AS svs.length cS, [3]⟩, ⟨.quiet, [], fun _ => .pointer (some ⟨p, 0, none⟩), []⟩, ⟨.quiet, [], fun _ => .pointer (some ⟨p, 0, none⟩), [5]⟩, ⟨.quiet, [], fun _ => .pointer (some ⟨p, 2, none⟩), [6]⟩, ⟨.quiet, [], fun _ => .slice AS svs.length cS, [7]⟩, ⟨.quiet, [], fun _ => .int .i64 (svs.length : Int), [8]⟩, ⟨.quiet, [], fun _ => .int .i64 (ss.length : Int), [9]⟩, ⟨.quiet, [], fun _ => .slice AS (svs.take ss.length).length cS, [4, 10]⟩, ⟨.quiet, [], fun _ => .pointer (some ⟨p, 0, none⟩), [0]⟩, ⟨.quiet, [], fun _ => .pointer (some ⟨p, 2, none⟩), [12]⟩] [(0, .pointer (some ⟨p, 0, none⟩)), (2, .int .i64 0)] (fun _ => [Ak 92 2 encSg (.slice AS (svs.take ss.length).length cS) (svs.take ss.length), Bd (svs.take ss.length), Ak 104 2 encMk (.slice x.A x.l.length x.c) x.l, cell p 87 #[.pointer (some ⟨dk, 0, none⟩), .int .i64 (lim : Int), .slice AS svs.length cS], Ag dk d', Ao tb]) (by kernel_rfl) (by kernel_rfl) ⟨rfl, rfl, trivial⟩ rfl ?_ ?_
  · skip
    refine Ac (by exact ⟨rfl, fun b w hH hb => Ah Ae rfl hb⟩) ?_
    refine Ac (by exact ⟨rfl, fun b w hH hb => Ah Ae rfl hb⟩) ?_
    refine Ac (by exact ⟨rfl, fun b w hH hb => by exact B8 rfl rfl hb⟩) ?_
    refine Ac (by exact ⟨rfl, fun b w hH hb => Ah Ae rfl hb⟩) ?_
    refine Ac (by exact ⟨rfl, fun b w hH hb => AY rfl rfl (Bi C4 rfl) (hH.row 3 rfl) hb⟩) ?_
    refine Ac (by exact ⟨rfl, fun b w hH hb => Ah Ae rfl hb⟩) ?_
    refine Ac (by exact ⟨rfl, fun b w hH hb => by exact B8 rfl rfl hb⟩) ?_
    refine Ac (by exact ⟨rfl, fun b w hH hb => Ah Ae rfl hb⟩) ?_
    refine Ac (by exact ⟨rfl, fun b w hH hb => AY rfl rfl (Bi C4 rfl) (hH.row 3 rfl) hb⟩) ?_
    refine Ac (by exact ⟨rfl, fun b w hH hb => DL Ba rfl rfl hH hb⟩) ?_
    refine Ac (by exact ⟨rfl, fun b w hH hb => AH rfl rfl rfl rfl (by rw [IntWalk.i64_in _ (by omega)]; omega) hb⟩) ?_
    refine Ac (by exact ⟨rfl, fun b w hH hb => F0 (j := ss.length) Ba hsub2 (by omega) rfl rfl rfl hH hb⟩) ?_
    refine Ac (by exact ⟨rfl, fun b w hH hb => by exact B8 rfl rfl hb⟩) ?_
    refine Ac (by exact ⟨rfl, fun b w hH hb => Ah Ae rfl hb⟩) ?_
    exact B7
  refine BT.keep (env' := [(2, .int .i64 0), (29, .slice AS (svs.take ss.length).length cS), (31, .pointer (some ⟨p, 2, none⟩))]) ⟨rfl, rfl, rfl, trivial⟩ ?_
  refine Af Ae rfl ?_
  refine AL (post := fun _ => [Ak 92 2 encSg (.slice AS (svs.take ss.length).length cS) (svs.take ss.length), Bd (svs.take ss.length), Ak 104 2 encMk (.slice x.A x.l.length x.c) x.l, cell p 87 #[.pointer (some ⟨dk, 0, none⟩), .int .i64 (lim : Int), .slice AS (svs.take ss.length).length cS], Ag dk d', Ao tb]) rfl rfl (AU 3 (v := .slice AS (svs.take ss.length).length cS) #[.pointer (some ⟨dk, 0, none⟩), .int .i64 (lim : Int), .slice AS (svs.take ss.length).length cS] C4.2 rfl rfl rfl rfl rfl rfl rfl rfl rfl) ?_; rintro ⟨⟩
  refine AD (AB (Ad ?_))
  refine Af Ae rfl ?_
  refine Ab (Az ?_)
  exact Ay (.tmp rfl) (fun w h => AC () rfl [3, 0, 1, 4, 5] rfl h (fun z hz => Db (TT hm) z hz)) rfl
end Go.Proofs.YtnknboibmifacaaGreatDoor.Sep
namespace Go.Proofs.YtnknboibmifacaaGreatDoor.Sep
open Go.RowKit
open Go.Proofs.YtnknboibmifacaaGreatDoor.Mem (AR B3 Chg Av)
theorem VU : EncOf 1 encKs := ⟨fun _ => rfl, fun x v h => by unfold encKs at h; simp at h; subst h; rfl⟩
theorem Na {p dk lim : Nat} {d : DiskD} {fs : List Nat} (tb : Tb) (hd : d.fit) (hfs : ∀ f, f ∈ fs → f ≤ 72057594037927935) (hfl : fs.length ≤ 1000000) (hL : (By d fs).length ≤ 1000000) (hbl : ∀ f b, f ∈ fs → (D6 d (nameL f)).getD [] = b → b.length ≤ 137438953472)
  (hwh : ∀ (j f : Nat) (b : List UInt8), fs[j]? = some f → (D6 d (nameL f)).getD [] = b → ∃ m, (CA d f).getLast? = some m ∧ m.2 = b.length) : AP Tryz.prog 42 #[.pointer (some ⟨p, 0, none⟩)] [AA p dk lim (marksM d fs), Ag dk d, Ao tb] (fun (_ : Unit) => .int .i64 0) (fun (_ : Unit) => [AA p dk lim (marksM d fs), Ag dk d, Ao tb]) := by
  cases hg : fs.getLast? with
  | none =>
    have h0 := List.getLast?_eq_none_iff.1 hg
    subst h0
    exact Ow tb
  | some f =>
    obtain ⟨r, rfl⟩ := List.getLast?_eq_some_iff.1 hg
    have hf : (r ++ [f])[r.length]? = some f := by simp
    obtain ⟨m, hm1, hm2⟩ := hwh r.length f _ hf rfl
    have h0 : CA d f ≠ [] := fun h0 => by rw [h0] at hm1; cases hm1
    have hle := M8 hf hL
    have hml : (CA d f).length = (Cn d f).length := by unfold CA; rw [List.length_map]
    have hrl : r.length ≤ 1000000 := by rw [List.length_append] at hfl; omega
    have hmm : marksM d (r ++ [f]) = marksM d r ++ [(f, CA d f)] := by simp [marksM]
    rw [hmm]
    exact M9 (by unfold marksM; rw [List.length_map]; exact hrl) (by omega) (hfs f (by simp)) h0 tb hd rfl rfl (by rw [← List.getLast?_eq_getElem?]; exact hm1) (hbl f _ (by simp) rfl) hm2
theorem TV {svs : List SegV} {fs : List Nat} {j f : Nat} (hf : fs[j]? = some f) (hm : svs.map SegV.m = (fs.take j).map fun f => (f, [])) : (svs ++ [(⟨f, [], none, 0⟩ : SegV)]).map SegV.m = (fs.take (j + 1)).map fun f => (f, []) := by
 rw [List.take_add_one, hf, List.map_append, List.map_append, hm]
 rfl
theorem R7 {dk lim : Nat} {d : DiskD} {fs : List Nat} (hl1 : 64 ≤ lim) (hl2 : lim ≤ 16384) (hdn : d.down = false) (hds : d.now.length ≤ 1000000) (hnm : Ik d.now = fs.map nameL) (tb : Tb) (hd : d.fit) (hfs : ∀ f, f ∈ fs → f ≤ 72057594037927935) (hfl : fs.length ≤ 1000000) (hL : (By d fs).length ≤ 1000000) (hbl : ∀ f b, f ∈ fs → (D6 d (nameL f)).getD [] = b → b.length ≤ 137438953472)
  (hok : ∀ (j f i : Nat) (e : EntD) (n : Nat), fs[j]? = some f → (Cn d f)[i]? = some (e, n) → (i = 0 → e.i = f) ∧ ((AG (Cr d fs j f i)).2 = 0 ∨ ((AG (Cr d fs j f i)).2 ≠ 0 ∧ e.i = (AG (Cr d fs j f i)).2 + 1 ∧ (AG (Cr d fs j f i)).1 ≤ e.t)) ∧ 0 ≤ (AG (Cr d fs j f i)).2 ∧ (AG (Cr d fs j f i)).2 ≤ 72057594037927935)
  (hwh : ∀ (j f : Nat) (b : List UInt8), fs[j]? = some f → (D6 d (nameL f)).getD [] = b → ∃ m, (CA d f).getLast? = some m ∧ m.2 = b.length) : AP Tryz.prog 11 #[.pointer (some ⟨dk, 0, none⟩), .int .i64 (lim : Int)] [Ag dk d, Ao tb] (fun (p : Nat) => .tuple #[.pointer (some ⟨p, 0, none⟩), .int .i64 0]) (fun (p : Nat) => [AA p dk lim (marksM d fs), Ag dk d, Ao tb]) := by
  refine Bj (args := [.pointer (some ⟨dk, 0, none⟩), .int .i64 (lim : Int)]) 59 Tryz.func11 rfl rfl rfl ?_; intro w rs
  refine Ad ?_
  refine Af Ae rfl ?_
  refine Ab (An (Ad ?_))
  refine Af Ae rfl ?_
  refine Aa rfl (.bool false) (fun b w hb hH => DT (by kernel_rfl) rfl rfl rfl hb) ?_
  refine Af Ae rfl ?_
  refine Aa rfl (.bool false) (fun b w hb hH => AZ rfl rfl rfl (BU (by omega)) hb) ?_
  refine Af Ae rfl ?_
  refine Aa rfl (.bool false) (fun b w hb hH => AZ rfl rfl rfl (BE (by omega)) hb) ?_
  refine Af Ae rfl ?_
  refine Ab (As rfl (Aw (AB (Ad ?_))))
  refine Af Ae rfl ?_
  refine Aa rfl (.agg #[.pointer (some ⟨dk, 0, none⟩), .int .i64 (lim : Int), .slice none 0 0]) (fun b w hb hH => Bv rfl rfl (by kernel_rfl) hb) ?_
  refine Am (post := fun p => [cell p 87 #[.pointer (some ⟨dk, 0, none⟩), .int .i64 (lim : Int), .slice none 0 0], Ag dk d, Ao tb]) rfl (CD (cs := #[.pointer (some ⟨dk, 0, none⟩), .int .i64 (lim : Int), .slice none 0 0]) rfl rfl rfl) ?_; rintro p
  refine Af Ae rfl ?_
  refine Ab (An (Ad ?_))
  refine Af Ae rfl ?_
  refine Am rfl (Au (os' := fun nv => [Ak 9 1 encKs nv (fs.map nameL), cell p 87 #[.pointer (some ⟨dk, 0, none⟩), .int .i64 (lim : Int), .slice none 0 0], Ag dk d, Ao tb]) [1] 0 (Aj Tryz.func14 (by kernel_rfl) rfl) (Oc hdn hds hnm) rfl rfl rfl (fun _ => rfl) rfl rfl rfl) ?_; rintro nv
  refine Aa rfl (.int .i64 (fs.length : Int)) (fun b w hb hH => BS 0 (List.length_map ..) Tryz.underlying35 rfl rfl rfl hH hb) ?_
  refine Af Ae rfl ?_
  refine Ab (AQ ?_)
  refine BN 92 2 encSg ?_
  refine NY (t := Bd []) (Fy) ?_
  refine Bg [3, 1, 0] rfl (Dv (svs := []) rfl) rfl ?_
  refine AN.keep (env' := [(0, .pointer (some ⟨dk, 0, none⟩)), (1, .int .i64 (lim : Int)), (4, .pointer none), (5, .int .i64 0), (12, .pointer (some ⟨dk, 0, none⟩)), (13, .bool false), (14, .bool false), (15, .int .i64 (lim : Int)), (16, .bool false), (17, .bool false), (18, .bool false), (19, .int .i64 (lim : Int)), (20, .bool false), (21, .bool false), (22, .pointer (some ⟨dk, 0, none⟩)), (23, .int .i64 (lim : Int)), (24, .agg #[.pointer (some ⟨dk, 0, none⟩), .int .i64 (lim : Int), .slice none 0 0]), (25, .pointer (some ⟨p, 0, none⟩)), (6, .pointer (some ⟨p, 0, none⟩)), (26, .pointer (some ⟨dk, 0, none⟩)), (27, nv), (28, .int .i64 (fs.length : Int)), (29, .int .i64 0)]) ⟨rfl, rfl, rfl, rfl, rfl, rfl, rfl, rfl, rfl, rfl, rfl, rfl, rfl, rfl, rfl, rfl, rfl, rfl, rfl, rfl, rfl, rfl, rfl, trivial⟩ ?_
  refine AN.mid [AA p dk lim ((fs.take 0).map fun f => (f, [])), Ak 9 1 encKs nv (fs.map nameL), Ag dk d, Ao tb] (.refl _) ?_
  refine CY (α := Nat) (fun j => [(4, .pointer none), (5, .int .i64 0), (6, .pointer (some ⟨p, 0, none⟩)), (27, nv), (28, .int .i64 (fs.length : Int)), (29, .int .i64 (j : Int))]) (fun j => [AA p dk lim ((fs.take j).map fun f => (f, [])), Ak 9 1 encKs nv (fs.map nameL), Ag dk d, Ao tb]) (fun j => j ≤ fs.length) (fun j => fs.length - j) 0 (Nat.zero_le _) ⟨rfl, rfl, rfl, rfl, rfl, rfl, trivial⟩ rfl ?_
  rintro j hI
  refine AN.at_ (env' := [(4, .pointer none), (5, .int .i64 0), (6, .pointer (some ⟨p, 0, none⟩)), (27, nv), (28, .int .i64 (fs.length : Int)), (29, .int .i64 (j : Int))]) (rs' := [AA p dk lim ((fs.take j).map fun f => (f, [])), Ak 9 1 encKs nv (fs.map nameL), Ag dk d, Ao tb]) ⟨rfl, rfl, rfl, rfl, rfl, rfl, trivial⟩ rfl ?_
  rcases Nat.lt_or_ge j fs.length with hjN | hjN
  · skip
    obtain ⟨f, hfj⟩ : ∃ f, fs[j]? = some f := ⟨_, List.getElem?_eq_getElem hjN⟩
    have hfb := hfs f (List.mem_of_getElem? hfj)
    have hnj : (fs.map nameL)[j]? = some (nameL f) := by rw [List.getElem?_map, hfj]; rfl
    have hnjl : j < (fs.map nameL).length := by rw [List.length_map]; exact hjN
    refine Ad ?_
    refine Af Ae rfl ?_
    refine Aa rfl (.bool true) (fun b w hb hH => AZ rfl rfl rfl (Ck (by omega)) hb) ?_
    refine Ab (An (AI rfl (Aw (AB (An (AQ (Ad ?_)))))))
    refine Af Ae rfl ?_
    refine Aa rfl (AV nv (j * 1)) (fun b w hb hH => EB 1 RT VU rfl j hnjl rfl rfl rfl hH hb) ?_
    refine Aa rfl (.string (bs (nameL f))) (fun b w hb hH => SE 1 CF VU rfl j (a := (nameL f)) hnj rfl rfl rfl hH hb) ?_
    refine Af Ae rfl ?_
    refine Ab (Ad ?_)
    refine Af Ae rfl ?_
    refine Am rfl (Au (os' := fun _ => [AA p dk lim ((fs.take j).map fun f => (f, [])), Ak 9 1 encKs nv (fs.map nameL), Ag dk d, Ao tb]) [3] 0 (Aj Tryz.func40 (by kernel_rfl) rfl) (On tb (n := f) hfb) rfl rfl rfl (fun _ => rfl) rfl rfl rfl) ?_; rintro ⟨⟩
    refine Af Ae rfl ?_
    refine Ab (Ad ?_)
    refine Af Ae rfl ?_
    refine Ab (AI rfl ?_)
    refine A7 0 rfl AA.open_ (fun _ => rfl) ?_; rintro ⟨sv, svs⟩
    refine AN.fact 3 rfl (fun _ h => h.2) ?_; rintro hm
    refine AN.leave [3] rfl rfl ?_
    replace hm : svs.map SegV.m = ((fs.take j).map fun f => (f, [])) := hm
    have hsl : svs.length ≤ 1000000 := by have := congrArg List.length hm; simp only [List.length_map, List.length_take] at this; omega
    refine BJ ?_
    refine Af Ae rfl ?_
    refine Aa rfl (.pointer (some ⟨p, 0, none⟩)) (fun b w hb hH => by exact B8 rfl rfl hb) ?_
    refine Af Ae rfl ?_
    refine Aa rfl (sv) (fun b w hb hH => AY rfl rfl (Bi C4 rfl) (hH.row 0 rfl) hb) ?_
    refine Af Ae rfl ?_
    refine Aa rfl (.agg #[.int .u64 (f : Int), .slice none 0 0]) (fun b w hb hH => Bv rfl rfl (by kernel_rfl) hb) ?_
    refine Am (X := Value) (val := fun v : Value => v) (post := fun su => [Ak 92 2 encSg su ([(⟨f, [], none, 0⟩ : SegV)]), cell p 87 #[.pointer (some ⟨dk, 0, none⟩), .int .i64 (lim : Int), sv], Ak 92 2 encSg sv svs, Bd svs, Ak 9 1 encKs nv (fs.map nameL), Ag dk d, Ao tb]) rfl (by refine Dl (e := 92) (t := 85) (k := 2) (enc := encSg) (x := .tmp 45) (c := .agg #[.int .u64 (f : Int), .slice none 0 0]) ?_ ?_ ?_ (⟨f, [], none, 0⟩ : SegV) ?_ ?_ ?_; exact Ba; exact (by decide); exact AT; exact rfl; exact rfl; exact rfl) ?_; rintro su
    refine Am (post := fun nv2 => [Ak 92 2 encSg su ([(⟨f, [], none, 0⟩ : SegV)]), cell p 87 #[.pointer (some ⟨dk, 0, none⟩), .int .i64 (lim : Int), sv], Ak 92 2 encSg nv2 (svs ++ [(⟨f, [], none, 0⟩ : SegV)]), Bd svs, Ak 9 1 encKs nv (fs.map nameL), Ag dk d, Ao tb]) rfl (Do (nb := 32) 2 Ba AT (by kernel_rfl) (by decide) rfl ([(⟨f, [], none, 0⟩ : SegV)]) (fun w hH => hH.vec 0 rfl AT) (by simp only [List.length_cons, List.length_nil]; omega) rfl rfl rfl rfl) ?_; rintro nv2
    refine Aa rfl (.pointer (some ⟨p, 0, none⟩)) (fun b w hb hH => by exact B8 rfl rfl hb) ?_
    refine Af Ae rfl ?_
    refine AL (post := fun _ => [Ak 92 2 encSg su ([(⟨f, [], none, 0⟩ : SegV)]), cell p 87 #[.pointer (some ⟨dk, 0, none⟩), .int .i64 (lim : Int), nv2], Ak 92 2 encSg nv2 (svs ++ [(⟨f, [], none, 0⟩ : SegV)]), Bd svs, Ak 9 1 encKs nv (fs.map nameL), Ag dk d, Ao tb]) rfl rfl (Ee 1 2 (v := nv2) #[.pointer (some ⟨dk, 0, none⟩), .int .i64 (lim : Int), nv2] C4.2 rfl (fun _ h => Ak.c1 h) rfl rfl rfl rfl rfl rfl rfl) ?_; rintro ⟨⟩
    refine AD (AW (AB ?_))
    refine BN 104 2 encMk ?_
    refine Bg [4, 0] rfl (Ov (y := (⟨f, [], none, 0⟩ : SegV))) rfl ?_
    refine Bg [2, 3, 0] rfl (Dv (TV hfj hm)) rfl ?_
    refine AN.leave [1] rfl rfl ?_
    refine AN.keep (env' := [(4, .pointer none), (5, .int .i64 0), (6, .pointer (some ⟨p, 0, none⟩)), (27, nv), (28, .int .i64 (fs.length : Int)), (29, .int .i64 (j : Int)), (30, .bool true), (31, AV nv (j * 1)), (32, .string (bs (nameL f))), (8, .string (bs (nameL f))), (34, .string (bs (nameL f))), (35, .tuple #[.int .u64 (f : Int), .bool true]), (33, .tuple #[.int .u64 (f : Int), .bool true]), (36, .int .u64 (f : Int)), (37, .bool true), (9, .int .u64 (f : Int)), (10, .bool true), (38, .bool true), (39, .pointer (some ⟨p, 0, none⟩)), (40, .pointer (some ⟨p, 0, none⟩)), (41, .pointer (some ⟨p, 0, none⟩)), (42, .pointer (some ⟨p, 2, none⟩)), (43, sv), (44, .int .u64 (f : Int)), (45, .agg #[.int .u64 (f : Int), .slice none 0 0]), (46, su), (47, nv2), (48, .pointer (some ⟨p, 0, none⟩)), (49, .pointer (some ⟨p, 2, none⟩))]) ⟨rfl, rfl, rfl, rfl, rfl, rfl, rfl, rfl, rfl, rfl, rfl, rfl, rfl, rfl, rfl, rfl, rfl, rfl, rfl, rfl, rfl, rfl, rfl, rfl, rfl, rfl, rfl, rfl, rfl, trivial⟩ ?_
    refine AN.mid [AA p dk lim ((fs.take (j + 1)).map fun f => (f, [])), Ak 9 1 encKs nv (fs.map nameL), Ag dk d, Ao tb] (.refl _) ?_
    refine BJ ?_
    refine Af Ae rfl ?_
    refine Aa rfl (.int .i64 ((j + 1 : Nat) : Int)) (fun b w hb hH => AH rfl rfl rfl rfl (by rw [IntWalk.i64_in _ (by omega)]; omega) hb) ?_
    refine Af Ae rfl ?_
    refine AD ?_
    exact Cm (j + 1) 0 (by omega) (show fs.length - (j + 1) < fs.length - j by omega) ⟨rfl, rfl, rfl, rfl, rfl, rfl, trivial⟩ rfl
  · skip
    have hje : j = fs.length := by omega
    refine Ad ?_
    refine Af Ae rfl ?_
    refine Aa rfl (.bool false) (fun b w hb hH => AZ rfl rfl rfl (BU (by omega)) hb) ?_
    refine Ab (An (As rfl (C8 (Gx (Gx (Br (AB ?_)))))))
    rw [show fs.take j = fs by rw [hje, List.take_length]]
    refine AN.keep (env' := [(4, .pointer none), (5, .int .i64 0), (6, .pointer (some ⟨p, 0, none⟩)), (27, nv), (28, .int .i64 (fs.length : Int)), (29, .int .i64 (j : Int)), (30, .bool false)]) ⟨rfl, rfl, rfl, rfl, rfl, rfl, rfl, trivial⟩ ?_
    refine AN.mid [AA p dk lim (fs.map fun f => (f, [])), Ak 9 1 encKs nv (fs.map nameL), Ag dk d, Ao tb] (.refl _) ?_
    refine Ad ?_
    refine Af Ae rfl ?_
    refine Am rfl (Au (os' := fun _ => [AA p dk lim (marksM d fs), Ak 9 1 encKs nv (fs.map nameL), Ag dk d, Ao tb]) [0, 2, 3] 0 (Aj Tryz.func41 (by kernel_rfl) rfl) (P3 tb hd hfs hfl rfl hL hbl hok hwh) rfl rfl rfl (fun _ => rfl) rfl rfl rfl) ?_; rintro ⟨⟩
    refine Ab (An (Ad ?_))
    refine Af Ae rfl ?_
    refine Am rfl (Au (os' := fun _ => [AA p dk lim (marksM d fs), Ak 9 1 encKs nv (fs.map nameL), Ag dk d, Ao tb]) [0, 2, 3] 0 (Aj Tryz.func42 (by kernel_rfl) rfl) (Na tb hd hfs hfl hL hbl hwh) rfl rfl rfl (fun _ => rfl) rfl rfl rfl) ?_; rintro ⟨⟩
    refine Af Ae rfl ?_
    refine Ab (Ad ?_)
    refine Af Ae rfl ?_
    refine Aa rfl (.bool false) (fun b w hb hH => AZ rfl rfl rfl (Bu (by decide)) hb) ?_
    refine Ab (As rfl (Aw (AB (Ad ?_))))
    refine Af Ae rfl ?_
    refine Ab (Az ?_)
    exact Ch (.tmp rfl) (.tmp rfl) (fun w h => AC p rfl [0, 2, 3] rfl h Ed) rfl
end Go.Proofs.YtnknboibmifacaaGreatDoor.Sep
