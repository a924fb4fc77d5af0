/-
  SgX · SgY · SgI
-/
import Derived.Test.YtjcfimmcogkopaaGreatDoorWX01
import Derived.Test.YtjcfimmcogkopaaGreatDoorWM01
import Derived.Test.YtjcfimmcogkopaaGreatDoorWM02
set_option linter.unusedSimpArgs false
set_option linter.unusedVariables false
set_option maxHeartbeats 4000000
set_option maxRecDepth 100000
namespace Go.Proofs.YtjcfimmcogkopaaGreatDoor.Sep
variable {A : Option Addr} {e : TypeId} {j k n : Nat} {l svs : List SegV} {ss : SegsM} {y : SegV} {α : Type}
open Go.RowKit
open Go.Proofs.YtjcfimmcogkopaaGreatDoor.Mem (AG BC Chg Ak)
theorem Pm {enc : α → List Value} (he : EncOf k enc) {c : Nat} {l : List α} (hj : j ≤ l.length) : ∀ rs, Ae [Af e k enc (.slice A l.length c) l] rs → Af e k enc (.slice A (l.take j).length c) (l.take j) rs := fun rs h => by
  rcases Ae.one' h with ⟨h1, h2, h3⟩ | ⟨g, c', cs, h1, h2, h3, h4, h5, h6⟩
  · subst h2
    exact .inl ⟨by simpa using h1, by simp, h3⟩
  · have hl : (l.take j).length = j := by rw [List.length_take]; omega
    simp only [Value.slice.injEq] at h1
    obtain ⟨rfl, _, rfl⟩ := h1
    refine .inr ⟨g, c, cs, rfl, by omega, h3, h4, ?_, h6⟩
    rw [hl, ← HW he, ← h5, List.take_take]
    congr 1
    exact (Nat.min_eq_left (Nat.mul_le_mul_right k hj)).symm
theorem HH {c : Nat} : BN k (.slice A n c) 0 j = .slice A j c := by
  have e : A.map (·.add 0) = A := by
    cases A with
    | none => rfl
    | some a =>
      have : a.add 0 = a := by obtain ⟨b, o, q⟩ := a; cases q <;> simp [Addr.add]
      simp [this]
  simp [BN, e]
theorem JJ {enc : α → List Value} {c : Nat} {l : List α} : ∀ rs, Af e k enc (.slice A n c) l rs → l.length ≤ c := fun rs h => by
  rcases h with ⟨h1, h2, h3⟩ | ⟨g, c', cs, h1, h2, h3, h4, h5, h6⟩
  · subst h2; exact Nat.zero_le _
  · simp only [Value.slice.injEq] at h1; omega
theorem Pn {β : Type} {enc : α → List Value} {enc' : β → List Value} {v : Value} {l : List α} {m : List β} (hl : l.length = m.length) (hf : flat enc l = flat enc' m) : ∀ rs, Ae [Af e k enc v l] rs → Af e k enc' v m rs := fun rs h => by
  rcases Ae.one' h with ⟨h1, h2, h3⟩ | ⟨g, c, cs, h1, h2, h3, h4, h5, h6⟩
  · subst h2
    exact .inl ⟨h1, List.length_eq_zero_iff.1 hl.symm, h3⟩
  · exact .inr ⟨g, c, cs, by rw [h1, hl], by omega, h3, h4, by rw [← hl, h5, hf], h6⟩
def encSw (x : Nat × Value) : List Value := [.int .u64 (x.1 : Int), if x.2.oneCell' = true then x.2 else .nilIface]
theorem Ww : EncOf 2 encSw := ⟨fun _ => rfl, fun x v h => by
  unfold encSw at h
  rw [List.mem_cons, List.mem_singleton] at h
  rcases h with rfl | rfl
  · rfl
  · split
    · assumption
    · rfl⟩
def SegV.w (x : SegV) : Nat × Value := (x.f, x.v)
theorem RS (l : List SegV) : flat encSg l = flat encSw (l.map SegV.w) := by
 unfold flat
 rw [List.flatMap_map]
 rfl
theorem Wx {v : Value} : ∀ rs, Ae [Af e 2 encSg v l] rs → Af e 2 encSw v (l.map SegV.w) rs := Pn (by rw [List.length_map]) (RS l)
theorem Wy {v : Value} {m : List (Nat × Value)} (h : m = [y.w]) : ∀ rs, Ae [Af e 2 encSw v (l.map SegV.w ++ m)] rs → Af e 2 encSg v (l ++ [y]) rs := by
 subst h
 rw [show l.map SegV.w ++ [y.w] = (l ++ [y]).map SegV.w by simp]
 exact Pn (by rw [List.length_map]) (RS _).symm
section
variable {P : Program} {Q : Exit → Act → World → Prop} {n : Nat} {B : Nat → Prop} {w0 : World} {os : List Ass} {env : List (Nat × Value)} {o : Oper} {t e e' : TypeId} {u : Value} {k' : Nat} {α : Type} {enc' : α → List Value} {l' : List α}
theorem U5 (q : Nat) (f : Nat) (hT : SliceT P t e 2) (hq : os[q]? = some (Af e' k' enc' u l')) {x : Operand} (ho : o.op = .buildSlice t 1 #[(0, x)]) (hx : evs env x = some (.agg #[.int .u64 (f : Int), u])) : AR P Q n env B w0 os o (fun v : Value => v) (fun v => Af e 2 encSw v [(f, u)] :: os) := fun b w hH hF K hK => by
 obtain ⟨rs, h1, _⟩ := hH.thing q hq
 obtain ⟨A, c, rfl⟩ := h1.is
 exact CA hT (by decide) Ww (f, .slice A l'.length c) rfl ho hx b w hH hF K hK
end
theorem Mp : ∀ rs, Ae [AX svs, Af 137 2 encMk (.slice y.A y.l.length y.c) y.l] rs → AX (svs ++ [y]) rs := fun rs h => Gt rs h
theorem U6 {x : SegV} (hn : svs.length = n + 1) (hx : svs[n]? = some x) : ∀ rs, AX svs rs → ∃ _ : Unit, Ae [AX (svs.take n), Af 137 2 encMk (.slice x.A x.l.length x.c) x.l] rs := fun rs h => by
 obtain ⟨_, a, b, e, h1, c, d, e2, h2, h3⟩ := JI hx rs h
 have h4 : svs.drop (n + 1) = [] := List.drop_of_length_le (by omega)
 rw [h4] at h3
 exact ⟨(), a, b, e, h1, c, d, e2, h2, by
  obtain ⟨p, q, e3, h5, h6⟩ := h3
  have : p = [] := h5
  subst this; subst e3
  exact h6⟩
theorem U7 {f : Nat} {l : List (Int × Nat)} (h : svs.map SegV.m = ss ++ [(f, l)]) : (svs.take ss.length).map SegV.m = ss := by
 rw [List.map_take, h, List.take_left]
theorem U9 (h : svs.map SegV.m = ss) : (svs ++ [y]).map SegV.m = ss ++ [(y.f, y.l)] := by
 rw [List.map_append, h]; rfl
theorem RT {p : Nat × List (Int × Nat)} (h : svs.map SegV.m = ss ++ [p]) : (svs.set ss.length y).map SegV.m = ss ++ [(y.f, y.l)] := by
 rw [List.map_set, h, List.set_append_right _ _ (Nat.le_refl _), Nat.sub_self]; rfl
end Go.Proofs.YtjcfimmcogkopaaGreatDoor.Sep
namespace Go.Proofs.YtjcfimmcogkopaaGreatDoor.Sep
variable {d : DiskD} {dk f lim p : Nat} {l : List (Int × Nat)} {ss : SegsM}
open Go.RowKit
open Go.Proofs.YtjcfimmcogkopaaGreatDoor.Mem (AG BC Chg Ak)
theorem Cu {sv : Value} {svs : List SegV} {A : List Ass} (h : svs.map SegV.m = ss) : ∀ rs, Ae ([cell p 76 #[.pointer (some ⟨dk, 0, none⟩), .int .i64 (lim : Int), sv], Af 83 2 encSg sv svs, AX svs] ++ A) rs → ∃ rs', rs.Perm rs' ∧ Ae (Ao p dk lim ss :: A) rs' := fun rs hz => by
 obtain ⟨a, b, e, h1, h2⟩ := hz.split
 exact ⟨rs, .refl _, a, b, e, Ch h a h1, h2⟩
theorem N2 (hl : ss.length ≤ 1000000) (hl2 : l.length ≤ 1000000) (hf : f ≤ 72057594037927935) (h0 : l ≠ []){b : List UInt8} {ok : Bool} {m : Int × Nat} (tb : Tb) (hd : d.fit) (hok : (BH d (nameL f)).isSome = ok) (hb_ : (BH d (nameL f)).getD [] = b) (hm1 : l[l.length - 1]? = some m) (hbl : b.length ≤ 137438953472) (hmb : m.2 = b.length) : AA Tryz.prog 37 #[.pointer (some ⟨p, 0, none⟩)] [Ao p dk lim (ss ++ [(f, l)]), Ab dk d, Aj tb] (fun (_ : Unit) => .int .i64 0) (fun (_ : Unit) => [Ao p dk lim (ss ++ [(f, l)]), Ab dk d, Aj tb]) := by
  refine AP (args := [.pointer (some ⟨p, 0, none⟩)]) 69 Tryz.func37 rfl rfl rfl ?_; intro w rs
  refine oC 0 Ao.open_ ?_; rintro ⟨sv, svs⟩
  refine AH.fact 3 rfl (fun _ h => h.2) ?_; rintro hm
  refine lC [3] ?_
  replace hm : svs.map SegV.m = ss ++ [(f, l)] := hm
  obtain ⟨x, hx, rfl, rfl, hn⟩ := BQ hm
  have hl0 : 0 < x.l.length := List.length_pos_iff.2 h0
  refine AV ?_
  refine BT (α := Unit) (fun _q => [(0, .pointer (some ⟨p, 0, none⟩)), (2, .int .i64 0)]) (fun _q => [cell p 76 #[.pointer (some ⟨dk, 0, none⟩), .int .i64 (lim : Int), sv], Af 83 2 encSg sv svs, AX svs, Ab dk d, Aj tb]) (fun _q => True) (fun _q => 0) () trivial ⟨rfl, rfl, trivial⟩ rfl ?_
  rintro _q _hI
  refine AH.at_ (env' := [(0, .pointer (some ⟨p, 0, none⟩)), (2, .int .i64 0)]) (rs' := [cell p 76 #[.pointer (some ⟨dk, 0, none⟩), .int .i64 (lim : Int), sv], Af 83 2 encSg sv svs, AX svs, Ab dk d, Aj tb]) ⟨rfl, rfl, trivial⟩ rfl (AV ?_)
  refine Aa rfl (.int .i64 ((ss.length + 1 : Nat) : Int)) (fun b w hb hH => A7 1 hn Tryz.underlying74 rfl rfl rfl hH hb) (Ai ?_)
  refine Am Ac rfl (CE [0, 1] (Bm hn (by omega)) ?_)
  refine Aa rfl (AN sv (ss.length * 2)) (fun b w hb hH => A6 1 rfl (j := ss.length) (List.getElem?_eq_some_iff.1 hx).1 rfl rfl hH hb) ?_
  refine Aq ?_
  refine Aa rfl (.int .i64 (x.l.length : Int)) (fun b w hb hH => AJ ((B6 2 rfl hx hH)) Tryz.underlying81 rfl rfl hb) (AK ?_)
  refine B2 (Eh ?_)
  refine Aa rfl (.int .i64 ((ss.length + 1 : Nat) : Int)) (fun b w hb hH => A7 1 hn Tryz.underlying74 rfl rfl rfl hH hb) (Ce ?_)
  refine Am Ac rfl (CE [0, 1] (Bm hn (by omega)) ?_)
  refine AK ?_
  refine Ey 1 rfl ?_
  refine Bk 14 2 [⟨.quiet, [none, none], fun _ => .pointer (some ⟨p, 0, none⟩), []⟩, ⟨.quiet, [none, none], fun _ => .pointer (some ⟨p, 0, none⟩), [0]⟩, ⟨.quiet, [none, none], fun _ => .pointer (some ⟨p, 0, none⟩), [1]⟩, ⟨.quiet, [none, none], fun _ => .pointer (some ⟨dk, 0, none⟩), [2]⟩, ⟨.quiet, [none, none], fun _ => AN sv (ss.length * 2), []⟩, ⟨.quiet, [none, none], fun _ => AN sv (ss.length * 2), [4]⟩, ⟨.quiet, [none, none], fun _ => AN sv (ss.length * 2 + 0), [5]⟩, ⟨.quiet, [none, none], fun _ => .int .u64 (x.f : Int), [6]⟩, ⟨.actv 0, [some false, some false], fun _ => .string (bs (nameL x.f)), [7]⟩, ⟨.act 1, [some true, some false], fun _ => undef, [3, 8]⟩, ⟨.quiet, [some true, some true], fun ρ => match ρ with | [_, some rv] => rv | _ => undef, [9]⟩, ⟨.quiet, [some true, some true], fun ρ => match ρ with | [_, some rv] => (Cd rv 0) | _ => undef, [10]⟩, ⟨.quiet, [some true, some true], fun ρ => match ρ with | [_, some rv] => (Cd rv 1) | _ => undef, [10]⟩, ⟨.quiet, [some true, some true], fun ρ => match ρ with | [_, some rv] => (Cd rv 0) | _ => undef, [11]⟩] [(0, .pointer (some ⟨p, 0, none⟩)), (2, .int .i64 0), (4, AN sv (ss.length * 2))] (fun ρ => match ρ with | [r0, r1] => [Dm r1 (fun rv => FJ rv b ok) (emp), cell p 76 #[.pointer (some ⟨dk, 0, none⟩), .int .i64 (lim : Int), sv], Af 83 2 encSg sv svs, AX svs, Ab dk d, Aj tb] | _ => []) (by kernel_rfl) (by kernel_rfl) ⟨rfl, rfl, rfl, trivial⟩ rfl ?_ ?_
  refine BD ?_
  refine Ad (by intro r0_ r1_; exact ⟨rfl, fun b w hH hb => A6 2 rfl (j := ss.length) (List.getElem?_eq_some_iff.1 hx).1 rfl rfl hH hb⟩) ?_
  refine Aq ?_
  refine Ad (by exact ⟨rfl, AR.su (AM (os' := fun _ => [emp, cell p 76 #[.pointer (some ⟨dk, 0, none⟩), .int .i64 (lim : Int), sv], Af 83 2 encSg sv svs, AX svs, Ab dk d, Aj tb]) [5] 0 (Ah Tryz.func29 (by kernel_rfl) rfl) (Cn tb (n := x.f) (by omega)) rfl rfl rfl (fun _ => rfl) rfl rfl rfl) rfl⟩) (Ad (by intro v0_; exact ⟨rfl, AR.s (AM (os' := fun rv => [FJ rv b ok, cell p 76 #[.pointer (some ⟨dk, 0, none⟩), .int .i64 (lim : Int), sv], Af 83 2 encSg sv svs, AX svs, Ab dk d, Aj tb]) [4, 0] 1 (Ah Tryz.func95 (by kernel_rfl) rfl) (EG hd hok hb_) rfl rfl rfl (fun _ => rfl) rfl rfl rfl) (fun _ => rfl)⟩) (Ai ?_))
  refine Ad (by intro v0_ rv; exact ⟨rfl, fun b w hH hb => GL 0 (by decide) rfl rfl rfl hH hb⟩) (Ad (by intro v0_ rv; exact ⟨rfl, fun b w hH hb => GL 0 (by decide) rfl rfl rfl hH hb⟩) (Ai ?_))
  exact Bv
  intro v0_ rv
  refine A5.keep (env' := [(0, .pointer (some ⟨p, 0, none⟩)), (2, .int .i64 0), (4, AN sv (ss.length * 2)), (47, (Cd rv 1)), (5, (Cd rv 0))]) ⟨rfl, rfl, rfl, rfl, rfl, trivial⟩ (Fo 0 rfl FJ.open_ (fun _ => rfl) ?_); rintro ⟨bv, rfl⟩
  refine kL [0, 2, 4, 47, 5] ?_
  refine A5.mid [Af 5 1 encB bv b, cell p 76 #[.pointer (some ⟨dk, 0, none⟩), .int .i64 (lim : Int), sv], Af 83 2 encSg sv svs, AX svs, Ab dk d, Aj tb] (.refl _) (AK ?_)
  refine Am Ac rfl ?_
  refine Aa rfl (AN sv (ss.length * 2)) (fun b w hb hH => A6 2 rfl (j := ss.length) (List.getElem?_eq_some_iff.1 hx).1 rfl rfl hH hb) ?_
  refine Aa rfl (.agg (encSg x).toArray) (fun b w hb hH => CD CI (by decide) (hH.vec 2 rfl CI) (j := ss.length) hx Bj rfl rfl hb) (FD (fun w hH => GD w (B6 3 rfl hx hH) hm1 hl0 hl2) ?_)
  refine Eh ?_
  exact An (.tmp rfl) (fun w h => As () rfl [1, 2, 3, 4, 5] rfl h (fun z hz => Cu hm z hz)) rfl
theorem Po (tb : Tb) : AA Tryz.prog 37 #[.pointer (some ⟨p, 0, none⟩)] [Ao p dk lim ([]), Ab dk d, Aj tb] (fun (_ : Unit) => .int .i64 0) (fun (_ : Unit) => [Ao p dk lim ([]), Ab dk d, Aj tb]) := by
 refine AP (args := [.pointer (some ⟨p, 0, none⟩)]) 69 Tryz.func37 rfl rfl rfl ?_; intro w rs
 refine oC 0 Ao.open_ ?_; rintro ⟨sv, svs⟩
 refine AH.fact 3 rfl (fun _ h => h.2) ?_; rintro hm
 refine lC [3] ?_
 replace hm : svs.map SegV.m = [] := hm
 have hn : svs.length = 0 := by have := congrArg List.length hm; simpa using this
 refine AV ?_
 refine BT (α := Unit) (fun _q => [(0, .pointer (some ⟨p, 0, none⟩)), (2, .int .i64 0)]) (fun _q => [cell p 76 #[.pointer (some ⟨dk, 0, none⟩), .int .i64 (lim : Int), sv], Af 83 2 encSg sv svs, AX svs, Ab dk d, Aj tb]) (fun _q => True) (fun _q => 0) () trivial ⟨rfl, rfl, trivial⟩ rfl ?_
 rintro _q _hI
 refine AH.at_ (env' := [(0, .pointer (some ⟨p, 0, none⟩)), (2, .int .i64 0)]) (rs' := [cell p 76 #[.pointer (some ⟨dk, 0, none⟩), .int .i64 (lim : Int), sv], Af 83 2 encSg sv svs, AX svs, Ab dk d, Aj tb]) ⟨rfl, rfl, trivial⟩ rfl (AV ?_)
 refine Aa rfl (.int .i64 ((0 : Nat) : Int)) (fun b w hb hH => A7 1 hn Tryz.underlying74 rfl rfl rfl hH hb) (AK ?_)
 refine B2 (Eh ?_)
 refine Aa rfl (.int .i64 ((0 : Nat) : Int)) (fun b w hb hH => A7 1 hn Tryz.underlying74 rfl rfl rfl hH hb) (Dc ?_)
 exact An (.tmp rfl) (fun w h => As () rfl [0, 1, 2, 3, 4] rfl h (fun z hz => Cu hm z hz)) rfl
theorem K6 {d' : DiskD} (hl : ss.length ≤ 1000000) (hf : f ≤ 72057594037927935) (tb : Tb) (hd : d.fit) (hdel : Ik d (nameL f) = (d', 0)) : AA Tryz.prog 87 #[.pointer (some ⟨p, 0, none⟩)] [Ao p dk lim (ss ++ [(f, l)]), Ab dk d, Aj tb] (fun (_ : Unit) => .int .i64 0) (fun (_ : Unit) => [Ao p dk lim ss, Ab dk d', Aj tb]) := by
  refine AP (args := [.pointer (some ⟨p, 0, none⟩)]) 32 Tryz.func87 rfl rfl rfl ?_; intro w rs
  refine oC 0 Ao.open_ ?_; rintro ⟨sv, svs⟩
  refine AH.fact 3 rfl (fun _ h => h.2) ?_; rintro hm
  refine lC [3] ?_
  replace hm : svs.map SegV.m = ss ++ [(f, l)] := hm
  obtain ⟨x, hx, rfl, rfl, hn⟩ := BQ hm
  refine AH.fact 1 rfl (fun _ h => Af.is h) ?_; rintro ⟨AS, cS, hsv⟩
  change sv = .slice AS svs.length cS at hsv
  subst hsv
  refine kC [0] ?_
  refine AH.mid [cell p 76 #[.pointer (some ⟨dk, 0, none⟩), .int .i64 (lim : Int), .slice AS svs.length cS], Af 83 2 encSg (.slice AS svs.length cS) svs, AX svs, Ab dk d, Aj tb] (.refl _) (AH.fact 1 rfl JJ ?_); rintro hcap
  refine AV ?_
  refine Bk 11 3 [⟨.quiet, [none, none, none], fun _ => .pointer (some ⟨p, 0, none⟩), []⟩, ⟨.quiet, [none, none, none], fun _ => .pointer (some ⟨p, 0, none⟩), [0]⟩, ⟨.quiet, [none, none, none], fun _ => .pointer (some ⟨p, 0, none⟩), [1]⟩, ⟨.quiet, [none, none, none], fun _ => .pointer (some ⟨dk, 0, none⟩), [2]⟩, ⟨.quiet, [none, none, none], fun _ => .pointer (some ⟨p, 0, none⟩), []⟩, ⟨.actv 0, [some false, some false, some false], fun _ => AN (.slice AS svs.length cS) (ss.length * 2), [4]⟩, ⟨.quiet, [some true, none, none], fun _ => AN (.slice AS svs.length cS) (ss.length * 2), [5]⟩, ⟨.quiet, [some true, none, none], fun _ => AN (.slice AS svs.length cS) (ss.length * 2 + 0), [6]⟩, ⟨.quiet, [some true, none, none], fun _ => .int .u64 (x.f : Int), [7]⟩, ⟨.actv 1, [some true, some false, some false], fun _ => .string (bs (nameL x.f)), [8]⟩, ⟨.actv 2, [some true, some true, some false], fun _ => .int .i64 0, [3, 9]⟩] [(0, .pointer (some ⟨p, 0, none⟩)), (2, .int .i64 0)] (fun ρ => match ρ with | [r0, r1, r2] => [cell p 76 #[.pointer (some ⟨dk, 0, none⟩), .int .i64 (lim : Int), .slice AS svs.length cS], Af 83 2 encSg (.slice AS svs.length cS) svs, AX svs, Dm r2 (fun _ => Ab dk d') (Ab dk d), Aj tb] | _ => []) (by kernel_rfl) (by kernel_rfl) ⟨rfl, rfl, trivial⟩ rfl ?_ ?_
  refine BD ?_
  refine Ad (by exact ⟨rfl, AR.su (AM (os' := fun _ => [cell p 76 #[.pointer (some ⟨dk, 0, none⟩), .int .i64 (lim : Int), .slice AS svs.length cS], Af 83 2 encSg (.slice AS svs.length cS) svs, AX svs, Ab dk d, Aj tb]) [0, 1] 0 (Ah Tryz.func86 (by kernel_rfl) rfl) (Bm hn (by omega)) rfl rfl rfl (fun _ => rfl) rfl rfl rfl) rfl⟩) ?_
  refine Ad (by intro v0_ r1_ r2_; exact ⟨rfl, fun b w hH hb => A6 1 rfl (j := ss.length) (List.getElem?_eq_some_iff.1 hx).1 rfl rfl hH hb⟩) ?_
  refine Aq ?_
  refine Ad (by intro v0_; exact ⟨rfl, AR.su (AM (os' := fun _ => [cell p 76 #[.pointer (some ⟨dk, 0, none⟩), .int .i64 (lim : Int), .slice AS svs.length cS], Af 83 2 encSg (.slice AS svs.length cS) svs, AX svs, Ab dk d, Aj tb]) [4] 0 (Ah Tryz.func29 (by kernel_rfl) rfl) (Cn tb (n := x.f) (by omega)) rfl rfl rfl (fun _ => rfl) rfl rfl rfl) rfl⟩) (Ad (by intro v0_ v1_; exact ⟨rfl, AR.su (AM (os' := fun _ => [cell p 76 #[.pointer (some ⟨dk, 0, none⟩), .int .i64 (lim : Int), .slice AS svs.length cS], Af 83 2 encSg (.slice AS svs.length cS) svs, AX svs, Ab dk d', Aj tb]) [3] 0 (Ah Tryz.func103 (by kernel_rfl) rfl) (O4 hd hdel) rfl rfl rfl (fun _ => rfl) rfl rfl rfl) rfl⟩) ?_)
  exact Bv
  intro v0_ v1_ v2_
  refine A5.keep (env' := [(0, .pointer (some ⟨p, 0, none⟩)), (2, .int .i64 0), (14, .int .i64 0)]) ⟨rfl, rfl, rfl, trivial⟩ (Aq ?_)
  refine Am Ac rfl (Aa rfl (.bool false) (fun b w hb hH => DS rfl rfl rfl (BF (by decide)) hb) (AV ?_))
  refine FT 2 rfl (U6 hn hx) (fun _ => rfl) ?_; rintro ⟨⟩
  have htl : (svs.take ss.length).length = ss.length := by rw [List.length_take]; omega
  have hsub2 : BN 2 (.slice AS svs.length cS) 0 ss.length = .slice AS (svs.take ss.length).length cS := by rw [htl]; exact HH
  refine cC [3] (Pm CI (j := ss.length) (by omega)) ?_
  refine kC [0, 2, 14, 3, 15, 16] ?_
  refine AH.mid [Af 83 2 encSg (.slice AS (svs.take ss.length).length cS) (svs.take ss.length), AX (svs.take ss.length), Af 137 2 encMk (.slice x.A x.l.length x.c) x.l, cell p 76 #[.pointer (some ⟨dk, 0, none⟩), .int .i64 (lim : Int), .slice AS svs.length cS], Ab dk d', Aj tb] (.refl _) (Bu ?_)
  refine Bk 14 0 [⟨.quiet, [], fun _ => .pointer (some ⟨p, 0, none⟩), []⟩, ⟨.quiet, [], fun _ => .pointer (some ⟨p, 0, none⟩), []⟩, ⟨.quiet, [], fun _ => .pointer (some ⟨p, 0, none⟩), [1]⟩, ⟨.quiet, [], fun _ => .pointer (some ⟨p, 2, none⟩), [2]⟩, ⟨.quiet, [], fun _ => .slice AS svs.length cS, [3]⟩, ⟨.quiet, [], fun _ => .pointer (some ⟨p, 0, none⟩), []⟩, ⟨.quiet, [], fun _ => .pointer (some ⟨p, 0, none⟩), [5]⟩, ⟨.quiet, [], fun _ => .pointer (some ⟨p, 2, none⟩), [6]⟩, ⟨.quiet, [], fun _ => .slice AS svs.length cS, [7]⟩, ⟨.quiet, [], fun _ => .int .i64 (svs.length : Int), [8]⟩, ⟨.quiet, [], fun _ => .int .i64 (ss.length : Int), [9]⟩, ⟨.quiet, [], fun _ => .slice AS (svs.take ss.length).length cS, [4, 10]⟩, ⟨.quiet, [], fun _ => .pointer (some ⟨p, 0, none⟩), [0]⟩, ⟨.quiet, [], fun _ => .pointer (some ⟨p, 2, none⟩), [12]⟩] [(0, .pointer (some ⟨p, 0, none⟩)), (2, .int .i64 0)] (fun _ => [Af 83 2 encSg (.slice AS (svs.take ss.length).length cS) (svs.take ss.length), AX (svs.take ss.length), Af 137 2 encMk (.slice x.A x.l.length x.c) x.l, cell p 76 #[.pointer (some ⟨dk, 0, none⟩), .int .i64 (lim : Int), .slice AS svs.length cS], Ab dk d', Aj tb]) (by kernel_rfl) (by kernel_rfl) ⟨rfl, rfl, trivial⟩ rfl ?_ ?_
  refine Ai ?_
  refine Ai ?_
  refine Ai ?_
  refine Ai ?_
  refine Ai ?_
  refine Ai ?_
  refine Ai ?_
  refine Ai ?_
  refine Ai ?_
  refine Ad (by exact ⟨rfl, fun b w hH hb => ES Bg rfl rfl hH hb⟩) (Ad (by exact ⟨rfl, fun b w hH hb => Ay rfl rfl rfl rfl (by rw [IntWalk.i64_in _ (by omega)]; omega) hb⟩) (Ad (by exact ⟨rfl, fun b w hH hb => Fq (j := ss.length) Bg hsub2 (by omega) rfl rfl rfl hH hb⟩) (Aq ?_)))
  exact Bv
  refine A5.keep (env' := [(2, .int .i64 0), (29, .slice AS (svs.take ss.length).length cS), (31, .pointer (some ⟨p, 2, none⟩))]) ⟨rfl, rfl, rfl, trivial⟩ (Am Ac rfl (Bt (post := fun _ => [Af 83 2 encSg (.slice AS (svs.take ss.length).length cS) (svs.take ss.length), AX (svs.take ss.length), Af 137 2 encMk (.slice x.A x.l.length x.c) x.l, cell p 76 #[.pointer (some ⟨dk, 0, none⟩), .int .i64 (lim : Int), .slice AS (svs.take ss.length).length cS], Ab dk d', Aj tb]) rfl rfl (CW 3 (v := .slice AS (svs.take ss.length).length cS) #[.pointer (some ⟨dk, 0, none⟩), .int .i64 (lim : Int), .slice AS (svs.take ss.length).length cS] Sw.2 rfl rfl rfl rfl rfl rfl rfl rfl rfl) ?_)); rintro ⟨⟩
  refine AV ?_
  exact An (.tmp rfl) (fun w h => As () rfl [3, 0, 1, 4, 5] rfl h (fun z hz => Cu (U7 hm) z hz)) rfl
end Go.Proofs.YtjcfimmcogkopaaGreatDoor.Sep
namespace Go.Proofs.YtjcfimmcogkopaaGreatDoor.Sep
variable {d : DiskD} {fs : List Nat} {lim : Nat}
open Go.RowKit
open Go.Proofs.YtjcfimmcogkopaaGreatDoor.Mem (AG BC Chg Ak)
theorem RU : EncOf 1 encKs := ⟨fun _ => rfl, fun x v h => by unfold encKs at h; simp at h; subst h; rfl⟩
theorem N3 {p dk : Nat} (tb : Tb) (hd : d.fit) (hfs : ∀ f, f ∈ fs → f ≤ 72057594037927935) (hfl : fs.length ≤ 1000000) (hL : (Ba d fs).length ≤ 1000000) (hbl : ∀ f b, f ∈ fs → (BH d (nameL f)).getD [] = b → b.length ≤ 137438953472)
  (hwh : ∀ (j f : Nat) (b : List UInt8), fs[j]? = some f → (BH d (nameL f)).getD [] = b → ∃ m, (BA d f).getLast? = some m ∧ m.2 = b.length) : AA Tryz.prog 37 #[.pointer (some ⟨p, 0, none⟩)] [Ao p dk lim (marksM d fs), Ab dk d, Aj tb] (fun (_ : Unit) => .int .i64 0) (fun (_ : Unit) => [Ao p dk lim (marksM d fs), Ab dk d, Aj tb]) := by
  cases hg : fs.getLast? with
  | none =>
    have h0 := List.getLast?_eq_none_iff.1 hg
    subst h0
    exact Po tb
  | some f =>
    obtain ⟨r, rfl⟩ := List.getLast?_eq_some_iff.1 hg
    have hf : (r ++ [f])[r.length]? = some f := by simp
    obtain ⟨m, hm1, hm2⟩ := hwh r.length f _ hf rfl
    have h0 : BA d f ≠ [] := fun h0 => by rw [h0] at hm1; cases hm1
    have hle := N1 hf hL
    have hml : (BA d f).length = (BB d f).length := by unfold BA; rw [List.length_map]
    have hrl : r.length ≤ 1000000 := by rw [List.length_append] at hfl; omega
    have hmm : marksM d (r ++ [f]) = marksM d r ++ [(f, BA d f)] := by simp [marksM]
    rw [hmm]
    exact N2 (by unfold marksM; rw [List.length_map]; exact hrl) (by omega) (hfs f (by simp)) h0 tb hd rfl rfl (by rw [← List.getLast?_eq_getElem?]; exact hm1) (hbl f _ (by simp) rfl) hm2
theorem Pp {svs : List SegV} {j f : Nat} (hf : fs[j]? = some f) (hm : svs.map SegV.m = (fs.take j).map fun f => (f, [])) : (svs ++ [(⟨f, [], none, 0⟩ : SegV)]).map SegV.m = (fs.take (j + 1)).map fun f => (f, []) := by
 rw [List.take_add_one, hf, List.map_append, List.map_append, hm]
 rfl
theorem Te {dk : Nat} (hl1 : 64 ≤ lim) (hl2 : lim ≤ 16384) (hdn : d.down = false) (hds : d.now.length ≤ 1000000) (hnm : FU d.now = fs.map nameL) (tb : Tb) (hd : d.fit) (hfs : ∀ f, f ∈ fs → f ≤ 72057594037927935) (hfl : fs.length ≤ 1000000) (hL : (Ba d fs).length ≤ 1000000) (hbl : ∀ f b, f ∈ fs → (BH d (nameL f)).getD [] = b → b.length ≤ 137438953472)
 (hok : ∀ (j f i : Nat) (e : EntD) (n : Nat), fs[j]? = some f → (BB d f)[i]? = some (e, n) → (i = 0 → e.i = f) ∧ ((Ar (BL d fs j f i)).2 = 0 ∨ ((Ar (BL d fs j f i)).2 ≠ 0 ∧ e.i = (Ar (BL d fs j f i)).2 + 1 ∧ (Ar (BL d fs j f i)).1 ≤ e.t)) ∧ 0 ≤ (Ar (BL d fs j f i)).2 ∧ (Ar (BL d fs j f i)).2 ≤ 72057594037927935)
 (hwh : ∀ (j f : Nat) (b : List UInt8), fs[j]? = some f → (BH d (nameL f)).getD [] = b → ∃ m, (BA d f).getLast? = some m ∧ m.2 = b.length) : AA Tryz.prog 9 #[.pointer (some ⟨dk, 0, none⟩), .int .i64 (lim : Int)] [Ab dk d, Aj tb] (fun (p : Nat) => .tuple #[.pointer (some ⟨p, 0, none⟩), .int .i64 0]) (fun (p : Nat) => [Ao p dk lim (marksM d fs), Ab dk d, Aj tb]) := by
 refine AP (args := [.pointer (some ⟨dk, 0, none⟩), .int .i64 (lim : Int)]) 59 Tryz.func9 rfl rfl rfl ?_; intro w rs
 refine Ci ?_
 refine Am Ac rfl (Aa rfl (.agg #[.pointer (some ⟨dk, 0, none⟩), .int .i64 (lim : Int), .slice none 0 0]) (fun b w hb hH => AY rfl rfl (by kernel_rfl) hb) (I5 ?_)); rintro p
 refine AK ?_
 refine Am Ac rfl (GI [1] (KJ hdn hds hnm) ?_); rintro nv
 refine Aa rfl (.int .i64 (fs.length : Int)) (fun b w hb hH => A7 0 (List.length_map ..) Tryz.underlying77 rfl rfl rfl hH hb) (Aq ?_)
 refine Bb 83 2 encSg (Hx (t := AX []) (C0) (cC [3, 1, 0] (Ch (svs := []) rfl) ?_))
 refine kC [0, 1, 4, 5, 12, 13, 14, 15, 16, 17, 18, 19, 20, 21, 22, 23, 24, 25, 6, 26, 27, 28, 29] ?_
 refine AH.mid [Ao p dk lim ((fs.take 0).map fun f => (f, [])), Af 9 1 encKs nv (fs.map nameL), Ab dk d, Aj tb] (.refl _) (BT (α := Nat) (fun j => [(4, .pointer none), (5, .int .i64 0), (6, .pointer (some ⟨p, 0, none⟩)), (27, nv), (28, .int .i64 (fs.length : Int)), (29, .int .i64 (j : Int))]) (fun j => [Ao p dk lim ((fs.take j).map fun f => (f, [])), Af 9 1 encKs nv (fs.map nameL), Ab dk d, Aj tb]) (fun j => j ≤ fs.length) (fun j => fs.length - j) 0 (Nat.zero_le _) ⟨rfl, rfl, rfl, rfl, rfl, rfl, trivial⟩ rfl ?_)
 rintro j hI
 refine AH.at_ (env' := [(4, .pointer none), (5, .int .i64 0), (6, .pointer (some ⟨p, 0, none⟩)), (27, nv), (28, .int .i64 (fs.length : Int)), (29, .int .i64 (j : Int))]) (rs' := [Ao p dk lim ((fs.take j).map fun f => (f, [])), Af 9 1 encKs nv (fs.map nameL), Ab dk d, Aj tb]) ⟨rfl, rfl, rfl, rfl, rfl, rfl, trivial⟩ rfl ?_
 rcases Nat.lt_or_ge j fs.length with hjN | hjN
 obtain ⟨f, hfj⟩ : ∃ f, fs[j]? = some f := ⟨_, List.getElem?_eq_getElem hjN⟩
 have hfb := hfs f (List.mem_of_getElem? hfj)
 have hnj : (fs.map nameL)[j]? = some (nameL f) := by rw [List.getElem?_map, hfj]; rfl
 have hnjl : j < (fs.map nameL).length := by rw [List.length_map]; exact hjN
 refine GK ?_
 refine Am Ac rfl (Aa rfl (AN nv (j * 1)) (fun b w hb hH => Ez 1 Kd RU rfl j hnjl rfl rfl rfl hH hb) (Aa rfl (.string (bs (nameL f))) (fun b w hb hH => Ot 1 J9 RU rfl j (a := (nameL f)) hnj rfl rfl rfl hH hb) (Aq ?_)))
 refine Am Ac rfl (CE [3] (KS tb (n := f) hfb) ?_)
 refine AV ?_
 refine oC 0 Ao.open_ ?_; rintro ⟨sv, svs⟩
 refine AH.fact 3 rfl (fun _ h => h.2) ?_; rintro hm
 refine lC [3] ?_
 replace hm : svs.map SegV.m = ((fs.take j).map fun f => (f, [])) := hm
 have hsl : svs.length ≤ 1000000 := by have := congrArg List.length hm; simp only [List.length_map, List.length_take] at this; omega
 refine AK ?_
 refine Am Ac rfl (Aa rfl (.agg #[.int .u64 (f : Int), .slice none 0 0]) (fun b w hb hH => AY rfl rfl (by kernel_rfl) hb) ?_)
 refine AQ (X := Value) (val := fun v : Value => v) (post := fun su => [Af 83 2 encSg su ([(⟨f, [], none, 0⟩ : SegV)]), cell p 76 #[.pointer (some ⟨dk, 0, none⟩), .int .i64 (lim : Int), sv], Af 83 2 encSg sv svs, AX svs, Af 9 1 encKs nv (fs.map nameL), Ab dk d, Aj tb]) rfl (by refine CA (e := 83) (t := 74) (k := 2) (enc := encSg) (x := .tmp 45) (c := .agg #[.int .u64 (f : Int), .slice none 0 0]) ?_ ?_ ?_ (⟨f, [], none, 0⟩ : SegV) ?_ ?_ ?_; exact Bg; exact (by decide); exact CI; exact rfl; exact rfl; exact rfl) ?_; rintro su
 refine AQ (post := fun nv2 => [Af 83 2 encSg su ([(⟨f, [], none, 0⟩ : SegV)]), cell p 76 #[.pointer (some ⟨dk, 0, none⟩), .int .i64 (lim : Int), sv], Af 83 2 encSg nv2 (svs ++ [(⟨f, [], none, 0⟩ : SegV)]), AX svs, Af 9 1 encKs nv (fs.map nameL), Ab dk d, Aj tb]) rfl (Ct (nb := 32) 2 Bg CI (by kernel_rfl) (by decide) rfl ([(⟨f, [], none, 0⟩ : SegV)]) (fun w hH => hH.vec 0 rfl CI) (by simp only [List.length_cons, List.length_nil]; omega) rfl rfl rfl rfl) ?_; rintro nv2
 refine Ai ?_
 refine Am Ac rfl (Bt (post := fun _ => [Af 83 2 encSg su ([(⟨f, [], none, 0⟩ : SegV)]), cell p 76 #[.pointer (some ⟨dk, 0, none⟩), .int .i64 (lim : Int), nv2], Af 83 2 encSg nv2 (svs ++ [(⟨f, [], none, 0⟩ : SegV)]), AX svs, Af 9 1 encKs nv (fs.map nameL), Ab dk d, Aj tb]) rfl rfl (D8 1 2 (v := nv2) #[.pointer (some ⟨dk, 0, none⟩), .int .i64 (lim : Int), nv2] Sw.2 rfl (fun _ h => Af.c1 h) rfl rfl rfl rfl rfl rfl rfl) ?_); rintro ⟨⟩
 refine AK ?_
 refine Bb 137 2 encMk (cC [4, 0] (Mp (y := (⟨f, [], none, 0⟩ : SegV))) ?_)
 refine cC [2, 3, 0] (Ch (Pp hfj hm)) ?_
 refine lC [1] ?_
 refine kC [4, 5, 6, 27, 28, 29, 30, 31, 32, 8, 34, 35, 33, 36, 37, 9, 10, 38, 39, 40, 41, 42, 43, 44, 45, 46, 47, 48, 49] ?_
 refine AH.mid [Ao p dk lim ((fs.take (j + 1)).map fun f => (f, [])), Af 9 1 encKs nv (fs.map nameL), Ab dk d, Aj tb] (.refl _) (Dl (Am Ac rfl (Aa rfl (.int .i64 ((j + 1 : Nat) : Int)) (fun b w hb hH => Ay rfl rfl rfl rfl (by rw [IntWalk.i64_in _ (by omega)]; omega) hb) (Ai ?_))))
 exact Br (j + 1) 0 (by omega) (show fs.length - (j + 1) < fs.length - j by omega) ⟨rfl, rfl, rfl, rfl, rfl, rfl, trivial⟩ rfl
 have hje : j = fs.length := by omega
 refine BD ?_
 refine B2 (AV ?_)
 rw [show fs.take j = fs by rw [hje, List.take_length]]
 refine kC [4, 5, 6, 27, 28, 29, 30] ?_
 refine AH.mid [Ao p dk lim (fs.map fun f => (f, [])), Af 9 1 encKs nv (fs.map nameL), Ab dk d, Aj tb] (.refl _) (Al (Am Ac rfl (CE [0, 2, 3] (QV tb hd hfs hfl rfl hL hbl hok hwh) ?_)))
 refine AK ?_
 refine Am Ac rfl (CE [0, 2, 3] (N3 tb hd hfs hfl hL hbl hwh) ?_)
 refine GK ?_
 exact BJ (.tmp rfl) (.tmp rfl) (fun w h => As p rfl [0, 2, 3] rfl h DK) rfl
end Go.Proofs.YtjcfimmcogkopaaGreatDoor.Sep
