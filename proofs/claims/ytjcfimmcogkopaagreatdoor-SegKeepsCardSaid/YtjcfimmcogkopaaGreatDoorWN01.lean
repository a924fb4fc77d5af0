/-
  SgX · SgY · SgI
-/
import Derived.Test.YtjcfimmcogkopaaGreatDoorWM01
import Derived.Test.YtjcfimmcogkopaaGreatDoorWM02
set_option linter.unusedSimpArgs false
set_option linter.unusedVariables false
set_option maxRecDepth 100000
namespace Go.Proofs.YtjcfimmcogkopaaGreatDoor.Sep
open Go.RowKit
open Go.Proofs.YtjcfimmcogkopaaGreatDoor.Mem (Bb Ci Chg Aw)
theorem Pi {e : TypeId} {k : Nat} {α : Type} {enc : α → List Value} (he : EncOf k enc) {A : Option Addr} {c : Nat} {l : List α} {j : Nat} (hj : j ≤ l.length) : ∀ rs, Am [Aj e k enc (.slice A l.length c) l] rs → Aj e k enc (.slice A (l.take j).length c) (l.take j) rs := fun rs h => by
  rcases Am.one' h with ⟨h1, h2, h3⟩ | ⟨g, c', cs, h1, h2, h3, h4, h5, h6⟩
  · subst h2
    exact .inl ⟨by simpa using h1, by simp, h3⟩
  · have hl : (l.take j).length = j := by rw [List.length_take]; omega
    simp only [Value.slice.injEq] at h1
    obtain ⟨rfl, _, rfl⟩ := h1
    refine .inr ⟨g, c, cs, rfl, by omega, h3, h4, ?_, h6⟩
    rw [hl, ← If he, ← h5, List.take_take]
    congr 1
    exact (Nat.min_eq_left (Nat.mul_le_mul_right k hj)).symm
theorem H7 {k : Nat} {A : Option Addr} {n c j : Nat} : Cu k (.slice A n c) 0 j = .slice A j c := by
  have e : A.map (·.add 0) = A := by
    cases A with
    | none => rfl
    | some a =>
      have : a.add 0 = a := by obtain ⟨b, o, q⟩ := a; cases q <;> simp [Addr.add]
      simp [this]
  simp [Cu, e]
theorem JS {e : TypeId} {k : Nat} {α : Type} {enc : α → List Value} {A : Option Addr} {c n : Nat} {l : List α} : ∀ rs, Aj e k enc (.slice A n c) l rs → l.length ≤ c := fun rs h => by
  rcases h with ⟨h1, h2, h3⟩ | ⟨g, c', cs, h1, h2, h3, h4, h5, h6⟩
  · subst h2; exact Nat.zero_le _
  · simp only [Value.slice.injEq] at h1; omega
theorem Pj {e : TypeId} {k : Nat} {α β : Type} {enc : α → List Value} {enc' : β → List Value} {v : Value} {l : List α} {m : List β} (hl : l.length = m.length) (hf : flat enc l = flat enc' m) : ∀ rs, Am [Aj e k enc v l] rs → Aj e k enc' v m rs := fun rs h => by
  rcases Am.one' h with ⟨h1, h2, h3⟩ | ⟨g, c, cs, h1, h2, h3, h4, h5, h6⟩
  · subst h2
    exact .inl ⟨h1, List.length_eq_zero_iff.1 hl.symm, h3⟩
  · exact .inr ⟨g, c, cs, by rw [h1, hl], by omega, h3, h4, by rw [← hl, h5, hf], h6⟩
def encSw (x : Nat × Value) : List Value := [.int .u64 (x.1 : Int), if x.2.oneCell' = true then x.2 else .nilIface]
theorem Xu : EncOf 2 encSw := ⟨fun _ => rfl, fun x v h => by
  unfold encSw at h
  rw [List.mem_cons, List.mem_singleton] at h
  rcases h with rfl | rfl
  · rfl
  · split
    · assumption
    · rfl⟩
def SegV.w (x : SegV) : Nat × Value := (x.f, x.v)
theorem RQ (l : List SegV) : flat encSg l = flat encSw (l.map SegV.w) := by
 unfold flat
 rw [List.flatMap_map]
 rfl
theorem Wd {e : TypeId} {v : Value} {l : List SegV} : ∀ rs, Am [Aj e 2 encSg v l] rs → Aj e 2 encSw v (l.map SegV.w) rs := Pj (by rw [List.length_map]) (RQ l)
theorem We {e : TypeId} {v : Value} {l : List SegV} {m : List (Nat × Value)} {y : SegV} (h : m = [y.w]) : ∀ rs, Am [Aj e 2 encSw v (l.map SegV.w ++ m)] rs → Aj e 2 encSg v (l ++ [y]) rs := by
 subst h
 rw [show l.map SegV.w ++ [y.w] = (l ++ [y]).map SegV.w by simp]
 exact Pj (by rw [List.length_map]) (RQ _).symm
section
variable {P : Program} {Q : Exit → Act → World → Prop} {n : Nat} {B : Nat → Prop} {w0 : World} {os : List Ass} {env : List (Nat × Value)} {o : Oper} {t e e' : TypeId} {u : Value} {k' : Nat} {α : Type} {enc' : α → List Value} {l' : List α}
theorem US (q : Nat) (f : Nat) (hT : SliceT P t e 2) (hq : os[q]? = some (Aj e' k' enc' u l')) {x : Operand} (ho : o.op = .buildSlice t 1 #[(0, x)]) (hx : evs env x = some (.agg #[.int .u64 (f : Int), u])) : Bt P Q n env B w0 os o (fun v : Value => v) (fun v => Aj e 2 encSw v [(f, u)] :: os) := fun b w hH hF K hK => by
 obtain ⟨rs, h1, _⟩ := hH.thing q hq
 obtain ⟨A, c, rfl⟩ := h1.is
 exact Dm hT (by decide) Xu (f, .slice A l'.length c) rfl ho hx b w hH hF K hK
end
theorem Ml {svs : List SegV} {y : SegV} : ∀ rs, Am [Bc svs, Aj 137 2 encMk (.slice y.A y.l.length y.c) y.l] rs → Bc (svs ++ [y]) rs := fun rs h => GQ rs h
theorem UT {svs : List SegV} {n : Nat} {x : SegV} (hn : svs.length = n + 1) (hx : svs[n]? = some x) : ∀ rs, Bc svs rs → ∃ _ : Unit, Am [Bc (svs.take n), Aj 137 2 encMk (.slice x.A x.l.length x.c) x.l] rs := fun rs h => by
 obtain ⟨_, a, b, e, h1, c, d, e2, h2, h3⟩ := JR hx rs h
 have h4 : svs.drop (n + 1) = [] := List.drop_of_length_le (by omega)
 rw [h4] at h3
 exact ⟨(), a, b, e, h1, c, d, e2, h2, by
  obtain ⟨p, q, e3, h5, h6⟩ := h3
  have : p = [] := h5
  subst this; subst e3
  exact h6⟩
theorem UU {svs : List SegV} {ss : SegsM} {f : Nat} {l : List (Int × Nat)} (h : svs.map SegV.m = ss ++ [(f, l)]) : (svs.take ss.length).map SegV.m = ss := by
 rw [List.map_take, h, List.take_left]
theorem UV {svs : List SegV} {ss : SegsM} {y : SegV} (h : svs.map SegV.m = ss) : (svs ++ [y]).map SegV.m = ss ++ [(y.f, y.l)] := by
 rw [List.map_append, h]; rfl
theorem RR {svs : List SegV} {ss : SegsM} {y : SegV} {p : Nat × List (Int × Nat)} (h : svs.map SegV.m = ss ++ [p]) : (svs.set ss.length y).map SegV.m = ss ++ [(y.f, y.l)] := by
 rw [List.map_set, h, List.set_append_right _ _ (Nat.le_refl _), Nat.sub_self]; rfl
end Go.Proofs.YtjcfimmcogkopaaGreatDoor.Sep
namespace Go.Proofs.YtjcfimmcogkopaaGreatDoor.Sep
open Go.RowKit
open Go.Proofs.YtjcfimmcogkopaaGreatDoor.Mem (Bb Ci Chg Aw)
theorem Dg {p dk lim : Nat} {sv : Value} {svs : List SegV} {ss : SegsM} {A : List Ass} (h : svs.map SegV.m = ss) : ∀ rs, Am ([cell p 76 #[.pointer (some ⟨dk, 0, none⟩), .int .i64 (lim : Int), sv], Aj 83 2 encSg sv svs, Bc svs] ++ A) rs → ∃ rs', rs.Perm rs' ∧ Am (Ay p dk lim ss :: A) rs' := fun rs hz => by
 obtain ⟨a, b, e, h1, h2⟩ := hz.split
 exact ⟨rs, .refl _, a, b, e, CV h a h1, h2⟩
theorem NZ {p dk lim : Nat} {ss : SegsM} {f : Nat} {l : List (Int × Nat)} (hl : ss.length ≤ 1000000) (hl2 : l.length ≤ 1000000) (hf : f ≤ 72057594037927935) (h0 : l ≠ []){d : DiskD} {b : List UInt8} {ok : Bool} {m : Int × Nat} (tb : Tb) (hd : d.fit) (hok : (Cn d (nameL f)).isSome = ok) (hb_ : (Cn d (nameL f)).getD [] = b) (hm1 : l[l.length - 1]? = some m) (hbl : b.length ≤ 137438953472) (hmb : m.2 = b.length) : AV Tryz.prog 37 #[.pointer (some ⟨p, 0, none⟩)] [Ay p dk lim (ss ++ [(f, l)]), Ag dk d, Ao tb] (fun (_ : Unit) => .int .i64 0) (fun (_ : Unit) => [Ay p dk lim (ss ++ [(f, l)]), Ag dk d, Ao tb]) := by
  refine Bo (args := [.pointer (some ⟨p, 0, none⟩)]) 69 Tryz.func37 rfl rfl rfl ?_; intro w rs
  refine AX 0 rfl Ay.open_ (fun _ => rfl) ?_; rintro ⟨sv, svs⟩
  refine AL.fact 3 rfl (fun _ h => h.2) ?_; rintro hm
  refine AL.leave [3] rfl rfl ?_
  replace hm : svs.map SegV.m = ss ++ [(f, l)] := hm
  obtain ⟨x, hx, rfl, rfl, hn⟩ := CB hm
  have hl0 : 0 < x.l.length := List.length_pos_iff.2 h0
  refine Ad (Af Ae rfl (Ab (Ar (AK (CC (α := Unit) (fun _q => [(0, .pointer (some ⟨p, 0, none⟩)), (2, .int .i64 0)]) (fun _q => [cell p 76 #[.pointer (some ⟨dk, 0, none⟩), .int .i64 (lim : Int), sv], Aj 83 2 encSg sv svs, Bc svs, Ag dk d, Ao tb]) (fun _q => True) (fun _q => 0) () trivial ⟨rfl, rfl, trivial⟩ rfl ?_)))))
  rintro _q _hI
  refine AL.at_ (env' := [(0, .pointer (some ⟨p, 0, none⟩)), (2, .int .i64 0)]) (rs' := [cell p 76 #[.pointer (some ⟨dk, 0, none⟩), .int .i64 (lim : Int), sv], Aj 83 2 encSg sv svs, Bc svs, Ag dk d, Ao tb]) ⟨rfl, rfl, trivial⟩ rfl (Ar (Ad (Af Ae rfl (Aa rfl (.pointer (some ⟨p, 0, none⟩)) (fun b w hb hH => by exact B4 rfl rfl hb) (Af Ae rfl (Aa rfl (sv) (fun b w hb hH => Ba rfl rfl (Bl C6 rfl) (hH.row 0 rfl) hb) (Aa rfl (.int .i64 ((ss.length + 1 : Nat) : Int)) (fun b w hb hH => BG 1 hn Tryz.underlying74 rfl rfl rfl hH hb) (Aa rfl (.bool true) (fun b w hb hH => A5 rfl rfl rfl (BD (by omega)) hb) (Af Ae rfl (Al rfl (As (os' := fun _ => [cell p 76 #[.pointer (some ⟨dk, 0, none⟩), .int .i64 (lim : Int), sv], Aj 83 2 encSg sv svs, Bc svs, Ag dk d, Ao tb]) [0, 1] 0 (Ai Tryz.func86 (by kernel_rfl) rfl) (BZ hn (by omega)) rfl rfl rfl (fun _ => rfl) rfl rfl rfl) ?_)))))))))); rintro ⟨⟩
  refine Aa rfl (AN sv (ss.length * 2)) (fun b w hb hH => BE 1 rfl (j := ss.length) (List.getElem?_eq_some_iff.1 hx).1 rfl rfl hH hb) ?_
  refine Aa rfl (AN sv (ss.length * 2 + 1)) (fun b w hb hH => FR AM (by decide) (hH.vec 1 rfl AM) (j := ss.length) hx A7 rfl rfl hb) (Aa rfl (.slice x.A x.l.length x.c) (fun b w hb hH => Bq AM (by decide) (hH.vec 1 rfl AM) (j := ss.length) hx Bm (off := 1) rfl rfl rfl hb) (Aa rfl (.int .i64 (x.l.length : Int)) (fun b w hb hH => Be ((CL 2 rfl hx hH)) Tryz.underlying81 rfl rfl hb) (Aa rfl (.bool false) (fun b w hb hH => A5 rfl rfl rfl (EM (by omega)) hb) (Af Ae rfl (Ab (Au rfl (CJ (Fq (Fq (Bg (AC (Ar (Ad (Af Ae rfl (Aa rfl (.pointer (some ⟨p, 0, none⟩)) (fun b w hb hH => by exact B4 rfl rfl hb) (Af Ae rfl (Aa rfl (sv) (fun b w hb hH => Ba rfl rfl (Bl C6 rfl) (hH.row 0 rfl) hb) ?_)))))))))))))))))
  refine Aa rfl (.int .i64 ((ss.length + 1 : Nat) : Int)) (fun b w hb hH => BG 1 hn Tryz.underlying74 rfl rfl rfl hH hb) (Aa rfl (.bool false) (fun b w hb hH => A5 rfl rfl rfl (EM (by omega)) hb) (Ab (Au rfl (Av (AC (Ad (Af Ae rfl (Al rfl (As (os' := fun _ => [cell p 76 #[.pointer (some ⟨dk, 0, none⟩), .int .i64 (lim : Int), sv], Aj 83 2 encSg sv svs, Bc svs, Ag dk d, Ao tb]) [0, 1] 0 (Ai Tryz.func86 (by kernel_rfl) rfl) (BZ hn (by omega)) rfl rfl rfl (fun _ => rfl) rfl rfl rfl) ?_)))))))); rintro ⟨⟩
  refine Af Ae rfl (Ab (Ar (Ar (EY 1 rfl ?_))))
  refine BV 14 2 [⟨.quiet, [none, none], fun _ => .pointer (some ⟨p, 0, none⟩), []⟩, ⟨.quiet, [none, none], fun _ => .pointer (some ⟨p, 0, none⟩), [0]⟩, ⟨.quiet, [none, none], fun _ => .pointer (some ⟨p, 0, none⟩), [1]⟩, ⟨.quiet, [none, none], fun _ => .pointer (some ⟨dk, 0, none⟩), [2]⟩, ⟨.quiet, [none, none], fun _ => AN sv (ss.length * 2), []⟩, ⟨.quiet, [none, none], fun _ => AN sv (ss.length * 2), [4]⟩, ⟨.quiet, [none, none], fun _ => AN sv (ss.length * 2 + 0), [5]⟩, ⟨.quiet, [none, none], fun _ => .int .u64 (x.f : Int), [6]⟩, ⟨.actv 0, [some false, some false], fun _ => .string (bs (nameL x.f)), [7]⟩, ⟨.act 1, [some true, some false], fun _ => undef, [3, 8]⟩, ⟨.quiet, [some true, some true], fun ρ => match ρ with | [_, some rv] => rv | _ => undef, [9]⟩, ⟨.quiet, [some true, some true], fun ρ => match ρ with | [_, some rv] => (CT rv 0) | _ => undef, [10]⟩, ⟨.quiet, [some true, some true], fun ρ => match ρ with | [_, some rv] => (CT rv 1) | _ => undef, [10]⟩, ⟨.quiet, [some true, some true], fun ρ => match ρ with | [_, some rv] => (CT rv 0) | _ => undef, [11]⟩] [(0, .pointer (some ⟨p, 0, none⟩)), (2, .int .i64 0), (4, AN sv (ss.length * 2))] (fun ρ => match ρ with | [r0, r1] => [DT r1 (fun rv => Gb rv b ok) (Gj), cell p 76 #[.pointer (some ⟨dk, 0, none⟩), .int .i64 (lim : Int), sv], Aj 83 2 encSg sv svs, Bc svs, Ag dk d, Ao tb] | _ => []) (by kernel_rfl) (by kernel_rfl) ⟨rfl, rfl, rfl, trivial⟩ rfl ?_ ?_
  refine Ac (by intro r0_ r1_; exact ⟨rfl, fun b w hH hb => Ah Ae rfl hb⟩) (Ac (by intro r0_ r1_; exact ⟨rfl, fun b w hH hb => by exact B4 rfl rfl hb⟩) (Ac (by intro r0_ r1_; exact ⟨rfl, fun b w hH hb => Ah Ae rfl hb⟩) (Ac (by intro r0_ r1_; exact ⟨rfl, fun b w hH hb => Ba rfl rfl (Bl B8 rfl) (hH.row 1 rfl) hb⟩) (Ac (by intro r0_ r1_; exact ⟨rfl, fun b w hH hb => Ah Ae rfl hb⟩) ?_))))
  refine Ac (by intro r0_ r1_; exact ⟨rfl, fun b w hH hb => BE 2 rfl (j := ss.length) (List.getElem?_eq_some_iff.1 hx).1 rfl rfl hH hb⟩) ?_
  refine Ac (by intro r0_ r1_; exact ⟨rfl, fun b w hH hb => FR AM (by decide) (hH.vec 2 rfl AM) (j := ss.length) hx Bf rfl rfl hb⟩) (Ac (by intro r0_ r1_; exact ⟨rfl, fun b w hH hb => Bq AM (by decide) (hH.vec 2 rfl AM) (j := ss.length) hx AQ (off := 0) rfl rfl rfl hb⟩) (Ac (by exact ⟨rfl, Bt.su (As (os' := fun _ => [Gj, cell p 76 #[.pointer (some ⟨dk, 0, none⟩), .int .i64 (lim : Int), sv], Aj 83 2 encSg sv svs, Bc svs, Ag dk d, Ao tb]) [5] 0 (Ai Tryz.func29 (by kernel_rfl) rfl) (C7 tb (n := x.f) (by omega)) rfl rfl rfl (fun _ => rfl) rfl rfl rfl) rfl⟩) (Ac (by intro v0_; exact ⟨rfl, Bt.s (As (os' := fun rv => [Gb rv b ok, cell p 76 #[.pointer (some ⟨dk, 0, none⟩), .int .i64 (lim : Int), sv], Aj 83 2 encSg sv svs, Bc svs, Ag dk d, Ao tb]) [4, 0] 1 (Ai Tryz.func95 (by kernel_rfl) rfl) (E4 hd hok hb_) rfl rfl rfl (fun _ => rfl) rfl rfl rfl) (fun _ => rfl)⟩) (Ac (by intro v0_ rv; exact ⟨rfl, fun b w hH hb => Ah Ae rfl hb⟩) (Ac (by intro v0_ rv; exact ⟨rfl, fun b w hH hb => G5 0 (by decide) rfl rfl rfl hH hb⟩) (Ac (by intro v0_ rv; exact ⟨rfl, fun b w hH hb => G5 0 (by decide) rfl rfl rfl hH hb⟩) (Ac (by intro v0_ rv; exact ⟨rfl, fun b w hH hb => Ah Ae rfl hb⟩) ?_)))))))
  exact B9
  intro v0_ rv
  refine BU.keep (env' := [(0, .pointer (some ⟨p, 0, none⟩)), (2, .int .i64 0), (4, AN sv (ss.length * 2)), (47, (CT rv 1)), (5, (CT rv 0))]) ⟨rfl, rfl, rfl, rfl, rfl, trivial⟩ (FO 0 rfl Gb.open_ (fun _ => rfl) ?_); rintro ⟨bv, rfl⟩
  refine BU.keep (env' := [(0, .pointer (some ⟨p, 0, none⟩)), (2, .int .i64 0), (4, AN sv (ss.length * 2)), (47, .bool ok), (5, bv)]) ⟨rfl, rfl, rfl, rfl, rfl, trivial⟩ (BU.mid [Aj 5 1 encB bv b, cell p 76 #[.pointer (some ⟨dk, 0, none⟩), .int .i64 (lim : Int), sv], Aj 83 2 encSg sv svs, Bc svs, Ag dk d, Ao tb] (.refl _) (Af Ae rfl (AG (AC (Ad (Af Ae rfl (Aa rfl (.int .i64 (b.length : Int)) (fun b w hb hH => Cv 0 Tryz.underlying49 rfl rfl rfl hH hb) (Af Ae rfl ?_))))))))
  refine Aa rfl (AN sv (ss.length * 2)) (fun b w hb hH => BE 2 rfl (j := ss.length) (List.getElem?_eq_some_iff.1 hx).1 rfl rfl hH hb) ?_
  refine Aa rfl (.agg (encSg x).toArray) (fun b w hb hH => Dp AM (by decide) (hH.vec 2 rfl AM) (j := ss.length) hx B1 rfl rfl hb) (Al (post := fun _ => [Aj 5 1 encB bv b, cell p 76 #[.pointer (some ⟨dk, 0, none⟩), .int .i64 (lim : Int), sv], Aj 83 2 encSg sv svs, Bc svs, Ag dk d, Ao tb]) rfl (Bk (Ai Tryz.func94 (by kernel_rfl) rfl) (fun w hH => G0 w (CL 3 rfl hx hH) hm1 hl0 hl2) rfl rfl rfl) ?_); rintro ⟨⟩
  refine Aa rfl (.bool false) (fun b w hb hH => A5 rfl rfl rfl (By (by omega)) hb) (Ab (Au rfl (Av (AC (Ad (Af Ae rfl (Ab (AB ?_))))))))
  exact AA (.tmp rfl) (fun w h => AH () rfl [1, 2, 3, 4, 5] rfl h (fun z hz => Dg hm z hz)) rfl
theorem Pk {p dk lim : Nat} {d : DiskD} (tb : Tb) : AV Tryz.prog 37 #[.pointer (some ⟨p, 0, none⟩)] [Ay p dk lim ([]), Ag dk d, Ao tb] (fun (_ : Unit) => .int .i64 0) (fun (_ : Unit) => [Ay p dk lim ([]), Ag dk d, Ao tb]) := by
 refine Bo (args := [.pointer (some ⟨p, 0, none⟩)]) 69 Tryz.func37 rfl rfl rfl ?_; intro w rs
 refine AX 0 rfl Ay.open_ (fun _ => rfl) ?_; rintro ⟨sv, svs⟩
 refine AL.fact 3 rfl (fun _ h => h.2) ?_; rintro hm
 refine AL.leave [3] rfl rfl ?_
 replace hm : svs.map SegV.m = [] := hm
 have hn : svs.length = 0 := by have := congrArg List.length hm; simpa using this
 refine Ad (Af Ae rfl (Ab (Ar (AK (CC (α := Unit) (fun _q => [(0, .pointer (some ⟨p, 0, none⟩)), (2, .int .i64 0)]) (fun _q => [cell p 76 #[.pointer (some ⟨dk, 0, none⟩), .int .i64 (lim : Int), sv], Aj 83 2 encSg sv svs, Bc svs, Ag dk d, Ao tb]) (fun _q => True) (fun _q => 0) () trivial ⟨rfl, rfl, trivial⟩ rfl ?_)))))
 rintro _q _hI
 refine AL.at_ (env' := [(0, .pointer (some ⟨p, 0, none⟩)), (2, .int .i64 0)]) (rs' := [cell p 76 #[.pointer (some ⟨dk, 0, none⟩), .int .i64 (lim : Int), sv], Aj 83 2 encSg sv svs, Bc svs, Ag dk d, Ao tb]) ⟨rfl, rfl, trivial⟩ rfl (Ar (Ad (Af Ae rfl (Aa rfl (.pointer (some ⟨p, 0, none⟩)) (fun b w hb hH => by exact B4 rfl rfl hb) (Af Ae rfl (Aa rfl (sv) (fun b w hb hH => Ba rfl rfl (Bl C6 rfl) (hH.row 0 rfl) hb) (Aa rfl (.int .i64 ((0 : Nat) : Int)) (fun b w hb hH => BG 1 hn Tryz.underlying74 rfl rfl rfl hH hb) (Aa rfl (.bool false) (fun b w hb hH => A5 rfl rfl rfl (By (by omega)) hb) (Af Ae rfl (Ab (Au rfl (CJ (Fq (Fq (Bg (AC (Ar (Ad ?_))))))))))))))))))
 refine Af Ae rfl (Aa rfl (.pointer (some ⟨p, 0, none⟩)) (fun b w hb hH => by exact B4 rfl rfl hb) (Af Ae rfl (Aa rfl (sv) (fun b w hb hH => Ba rfl rfl (Bl C6 rfl) (hH.row 0 rfl) hb) (Aa rfl (.int .i64 ((0 : Nat) : Int)) (fun b w hb hH => BG 1 hn Tryz.underlying74 rfl rfl rfl hH hb) (Aa rfl (.bool true) (fun b w hb hH => A5 rfl rfl rfl (Fw (by omega)) hb) (Ab (AE rfl (Ad (Af Ae rfl (Ab (AB (Ek ?_))))))))))))
 exact AA (.tmp rfl) (fun w h => AH () rfl [0, 1, 2, 3, 4] rfl h (fun z hz => Dg hm z hz)) rfl
theorem K3 {p dk lim : Nat} {ss : SegsM} {f : Nat} {l : List (Int × Nat)} {d d' : DiskD} (hl : ss.length ≤ 1000000) (hf : f ≤ 72057594037927935) (tb : Tb) (hd : d.fit) (hdel : Iy d (nameL f) = (d', 0)) : AV Tryz.prog 87 #[.pointer (some ⟨p, 0, none⟩)] [Ay p dk lim (ss ++ [(f, l)]), Ag dk d, Ao tb] (fun (_ : Unit) => .int .i64 0) (fun (_ : Unit) => [Ay p dk lim ss, Ag dk d', Ao tb]) := by
  refine Bo (args := [.pointer (some ⟨p, 0, none⟩)]) 32 Tryz.func87 rfl rfl rfl ?_; intro w rs
  refine AX 0 rfl Ay.open_ (fun _ => rfl) ?_; rintro ⟨sv, svs⟩
  refine AL.fact 3 rfl (fun _ h => h.2) ?_; rintro hm
  refine AL.leave [3] rfl rfl ?_
  replace hm : svs.map SegV.m = ss ++ [(f, l)] := hm
  obtain ⟨x, hx, rfl, rfl, hn⟩ := CB hm
  refine AL.fact 1 rfl (fun _ h => Aj.is h) ?_; rintro ⟨AS, cS, hsv⟩
  change sv = .slice AS svs.length cS at hsv
  subst hsv
  refine AL.keep (env' := [(0, .pointer (some ⟨p, 0, none⟩))]) ⟨rfl, trivial⟩ (AL.mid [cell p 76 #[.pointer (some ⟨dk, 0, none⟩), .int .i64 (lim : Int), .slice AS svs.length cS], Aj 83 2 encSg (.slice AS svs.length cS) svs, Bc svs, Ag dk d, Ao tb] (.refl _) (AL.fact 1 rfl JS ?_)); rintro hcap
  refine Ad (Af Ae rfl (Ab (Ar (Ar ?_))))
  refine BV 11 3 [⟨.quiet, [none, none, none], fun _ => .pointer (some ⟨p, 0, none⟩), []⟩, ⟨.quiet, [none, none, none], fun _ => .pointer (some ⟨p, 0, none⟩), [0]⟩, ⟨.quiet, [none, none, none], fun _ => .pointer (some ⟨p, 0, none⟩), [1]⟩, ⟨.quiet, [none, none, none], fun _ => .pointer (some ⟨dk, 0, none⟩), [2]⟩, ⟨.quiet, [none, none, none], fun _ => .pointer (some ⟨p, 0, none⟩), []⟩, ⟨.actv 0, [some false, some false, some false], fun _ => AN (.slice AS svs.length cS) (ss.length * 2), [4]⟩, ⟨.quiet, [some true, none, none], fun _ => AN (.slice AS svs.length cS) (ss.length * 2), [5]⟩, ⟨.quiet, [some true, none, none], fun _ => AN (.slice AS svs.length cS) (ss.length * 2 + 0), [6]⟩, ⟨.quiet, [some true, none, none], fun _ => .int .u64 (x.f : Int), [7]⟩, ⟨.actv 1, [some true, some false, some false], fun _ => .string (bs (nameL x.f)), [8]⟩, ⟨.actv 2, [some true, some true, some false], fun _ => .int .i64 0, [3, 9]⟩] [(0, .pointer (some ⟨p, 0, none⟩)), (2, .int .i64 0)] (fun ρ => match ρ with | [r0, r1, r2] => [cell p 76 #[.pointer (some ⟨dk, 0, none⟩), .int .i64 (lim : Int), .slice AS svs.length cS], Aj 83 2 encSg (.slice AS svs.length cS) svs, Bc svs, DT r2 (fun _ => Ag dk d') (Ag dk d), Ao tb] | _ => []) (by kernel_rfl) (by kernel_rfl) ⟨rfl, rfl, trivial⟩ rfl ?_ ?_
  refine Ac (by intro r0_ r1_ r2_; exact ⟨rfl, fun b w hH hb => Ah Ae rfl hb⟩) (Ac (by intro r0_ r1_ r2_; exact ⟨rfl, fun b w hH hb => by exact B4 rfl rfl hb⟩) (Ac (by intro r0_ r1_ r2_; exact ⟨rfl, fun b w hH hb => Ah Ae rfl hb⟩) (Ac (by intro r0_ r1_ r2_; exact ⟨rfl, fun b w hH hb => Ba rfl rfl (Bl B8 rfl) (hH.row 0 rfl) hb⟩) (Ac (by intro r0_ r1_ r2_; exact ⟨rfl, fun b w hH hb => Ah Ae rfl hb⟩) (Ac (by exact ⟨rfl, Bt.su (As (os' := fun _ => [cell p 76 #[.pointer (some ⟨dk, 0, none⟩), .int .i64 (lim : Int), .slice AS svs.length cS], Aj 83 2 encSg (.slice AS svs.length cS) svs, Bc svs, Ag dk d, Ao tb]) [0, 1] 0 (Ai Tryz.func86 (by kernel_rfl) rfl) (BZ hn (by omega)) rfl rfl rfl (fun _ => rfl) rfl rfl rfl) rfl⟩) ?_)))))
  refine Ac (by intro v0_ r1_ r2_; exact ⟨rfl, fun b w hH hb => BE 1 rfl (j := ss.length) (List.getElem?_eq_some_iff.1 hx).1 rfl rfl hH hb⟩) ?_
  refine Ac (by intro v0_ r1_ r2_; exact ⟨rfl, fun b w hH hb => FR AM (by decide) (hH.vec 1 rfl AM) (j := ss.length) hx Bf rfl rfl hb⟩) (Ac (by intro v0_ r1_ r2_; exact ⟨rfl, fun b w hH hb => Bq AM (by decide) (hH.vec 1 rfl AM) (j := ss.length) hx AQ (off := 0) rfl rfl rfl hb⟩) (Ac (by intro v0_; exact ⟨rfl, Bt.su (As (os' := fun _ => [cell p 76 #[.pointer (some ⟨dk, 0, none⟩), .int .i64 (lim : Int), .slice AS svs.length cS], Aj 83 2 encSg (.slice AS svs.length cS) svs, Bc svs, Ag dk d, Ao tb]) [4] 0 (Ai Tryz.func29 (by kernel_rfl) rfl) (C7 tb (n := x.f) (by omega)) rfl rfl rfl (fun _ => rfl) rfl rfl rfl) rfl⟩) (Ac (by intro v0_ v1_; exact ⟨rfl, Bt.su (As (os' := fun _ => [cell p 76 #[.pointer (some ⟨dk, 0, none⟩), .int .i64 (lim : Int), .slice AS svs.length cS], Aj 83 2 encSg (.slice AS svs.length cS) svs, Bc svs, Ag dk d', Ao tb]) [3] 0 (Ai Tryz.func103 (by kernel_rfl) rfl) (O0 hd hdel) rfl rfl rfl (fun _ => rfl) rfl rfl rfl) rfl⟩) ?_)))
  exact B9
  intro v0_ v1_ v2_
  refine BU.keep (env' := [(0, .pointer (some ⟨p, 0, none⟩)), (2, .int .i64 0), (14, .int .i64 0)]) ⟨rfl, rfl, rfl, trivial⟩ (Af Ae rfl (AG (AC (Ad (Af Ae rfl (Aa rfl (.bool false) (fun b w hb hH => A5 rfl rfl rfl (Bn (by decide)) hb) (Ab (Au rfl (Av (AC (AX 2 rfl (UT hn hx) (fun _ => rfl) ?_))))))))))); rintro ⟨⟩
  have htl : (svs.take ss.length).length = ss.length := by rw [List.length_take]; omega
  have hsub2 : Cu 2 (.slice AS svs.length cS) 0 ss.length = .slice AS (svs.take ss.length).length cS := by rw [htl]; exact H7
  refine Bj [3] rfl (Pi AM (j := ss.length) (by omega)) rfl (AL.keep (env' := [(0, .pointer (some ⟨p, 0, none⟩)), (2, .int .i64 0), (14, .int .i64 0), (3, .int .i64 0), (15, .int .i64 0), (16, .bool false)]) ⟨rfl, rfl, rfl, rfl, rfl, rfl, trivial⟩ (AL.mid [Aj 83 2 encSg (.slice AS (svs.take ss.length).length cS) (svs.take ss.length), Bc (svs.take ss.length), Aj 137 2 encMk (.slice x.A x.l.length x.c) x.l, cell p 76 #[.pointer (some ⟨dk, 0, none⟩), .int .i64 (lim : Int), .slice AS svs.length cS], Ag dk d', Ao tb] (.refl _) (Ar ?_)))
  refine BV 14 0 [⟨.quiet, [], fun _ => .pointer (some ⟨p, 0, none⟩), []⟩, ⟨.quiet, [], fun _ => .pointer (some ⟨p, 0, none⟩), []⟩, ⟨.quiet, [], fun _ => .pointer (some ⟨p, 0, none⟩), [1]⟩, ⟨.quiet, [], fun _ => .pointer (some ⟨p, 2, none⟩), [2]⟩, ⟨.quiet, [], fun _ => .slice AS svs.length cS, [3]⟩, ⟨.quiet, [], fun _ => .pointer (some ⟨p, 0, none⟩), []⟩, ⟨.quiet, [], fun _ => .pointer (some ⟨p, 0, none⟩), [5]⟩, ⟨.quiet, [], fun _ => .pointer (some ⟨p, 2, none⟩), [6]⟩, ⟨.quiet, [], fun _ => .slice AS svs.length cS, [7]⟩, ⟨.quiet, [], fun _ => .int .i64 (svs.length : Int), [8]⟩, ⟨.quiet, [], fun _ => .int .i64 (ss.length : Int), [9]⟩, ⟨.quiet, [], fun _ => .slice AS (svs.take ss.length).length cS, [4, 10]⟩, ⟨.quiet, [], fun _ => .pointer (some ⟨p, 0, none⟩), [0]⟩, ⟨.quiet, [], fun _ => .pointer (some ⟨p, 2, none⟩), [12]⟩] [(0, .pointer (some ⟨p, 0, none⟩)), (2, .int .i64 0)] (fun _ => [Aj 83 2 encSg (.slice AS (svs.take ss.length).length cS) (svs.take ss.length), Bc (svs.take ss.length), Aj 137 2 encMk (.slice x.A x.l.length x.c) x.l, cell p 76 #[.pointer (some ⟨dk, 0, none⟩), .int .i64 (lim : Int), .slice AS svs.length cS], Ag dk d', Ao tb]) (by kernel_rfl) (by kernel_rfl) ⟨rfl, rfl, trivial⟩ rfl ?_ ?_
  refine Ac (by exact ⟨rfl, fun b w hH hb => Ah Ae rfl hb⟩) (Ac (by exact ⟨rfl, fun b w hH hb => Ah Ae rfl hb⟩) (Ac (by exact ⟨rfl, fun b w hH hb => by exact B4 rfl rfl hb⟩) (Ac (by exact ⟨rfl, fun b w hH hb => Ah Ae rfl hb⟩) (Ac (by exact ⟨rfl, fun b w hH hb => Ba rfl rfl (Bl C6 rfl) (hH.row 3 rfl) hb⟩) (Ac (by exact ⟨rfl, fun b w hH hb => Ah Ae rfl hb⟩) (Ac (by exact ⟨rfl, fun b w hH hb => by exact B4 rfl rfl hb⟩) (Ac (by exact ⟨rfl, fun b w hH hb => Ah Ae rfl hb⟩) (Ac (by exact ⟨rfl, fun b w hH hb => Ba rfl rfl (Bl C6 rfl) (hH.row 3 rfl) hb⟩) (Ac (by exact ⟨rfl, fun b w hH hb => Fd BT rfl rfl hH hb⟩) ?_)))))))))
  refine Ac (by exact ⟨rfl, fun b w hH hb => AJ rfl rfl rfl rfl (by rw [IntWalk.i64_in _ (by omega)]; omega) hb⟩) (Ac (by exact ⟨rfl, fun b w hH hb => FQ (j := ss.length) BT hsub2 (by omega) rfl rfl rfl hH hb⟩) (Ac (by exact ⟨rfl, fun b w hH hb => by exact B4 rfl rfl hb⟩) (Ac (by exact ⟨rfl, fun b w hH hb => Ah Ae rfl hb⟩) ?_)))
  exact B9
  refine BU.keep (env' := [(2, .int .i64 0), (29, .slice AS (svs.take ss.length).length cS), (31, .pointer (some ⟨p, 2, none⟩))]) ⟨rfl, rfl, rfl, trivial⟩ (Af Ae rfl (AR (post := fun _ => [Aj 83 2 encSg (.slice AS (svs.take ss.length).length cS) (svs.take ss.length), Bc (svs.take ss.length), Aj 137 2 encMk (.slice x.A x.l.length x.c) x.l, cell p 76 #[.pointer (some ⟨dk, 0, none⟩), .int .i64 (lim : Int), .slice AS (svs.take ss.length).length cS], Ag dk d', Ao tb]) rfl rfl (AZ 3 (v := .slice AS (svs.take ss.length).length cS) #[.pointer (some ⟨dk, 0, none⟩), .int .i64 (lim : Int), .slice AS (svs.take ss.length).length cS] C6.2 rfl rfl rfl rfl rfl rfl rfl rfl rfl) ?_)); rintro ⟨⟩
  refine AG (AC (Ad (Af Ae rfl (Ab (AB ?_)))))
  exact AA (.tmp rfl) (fun w h => AH () rfl [3, 0, 1, 4, 5] rfl h (fun z hz => Dg (UU hm) z hz)) rfl
end Go.Proofs.YtjcfimmcogkopaaGreatDoor.Sep
namespace Go.Proofs.YtjcfimmcogkopaaGreatDoor.Sep
open Go.RowKit
open Go.Proofs.YtjcfimmcogkopaaGreatDoor.Mem (Bb Ci Chg Aw)
theorem RS : EncOf 1 encKs := ⟨fun _ => rfl, fun x v h => by unfold encKs at h; simp at h; subst h; rfl⟩
theorem N0 {p dk lim : Nat} {d : DiskD} {fs : List Nat} (tb : Tb) (hd : d.fit) (hfs : ∀ f, f ∈ fs → f ≤ 72057594037927935) (hfl : fs.length ≤ 1000000) (hL : (Bz d fs).length ≤ 1000000) (hbl : ∀ f b, f ∈ fs → (Cn d (nameL f)).getD [] = b → b.length ≤ 137438953472)
  (hwh : ∀ (j f : Nat) (b : List UInt8), fs[j]? = some f → (Cn d (nameL f)).getD [] = b → ∃ m, (Cg d f).getLast? = some m ∧ m.2 = b.length) : AV Tryz.prog 37 #[.pointer (some ⟨p, 0, none⟩)] [Ay p dk lim (marksM d fs), Ag dk d, Ao tb] (fun (_ : Unit) => .int .i64 0) (fun (_ : Unit) => [Ay p dk lim (marksM d fs), Ag dk d, Ao tb]) := by
  cases hg : fs.getLast? with
  | none =>
    have h0 := List.getLast?_eq_none_iff.1 hg
    subst h0
    exact Pk tb
  | some f =>
    obtain ⟨r, rfl⟩ := List.getLast?_eq_some_iff.1 hg
    have hf : (r ++ [f])[r.length]? = some f := by simp
    obtain ⟨m, hm1, hm2⟩ := hwh r.length f _ hf rfl
    have h0 : Cg d f ≠ [] := fun h0 => by rw [h0] at hm1; cases hm1
    have hle := NY hf hL
    have hml : (Cg d f).length = (Ca d f).length := by unfold Cg; rw [List.length_map]
    have hrl : r.length ≤ 1000000 := by rw [List.length_append] at hfl; omega
    have hmm : marksM d (r ++ [f]) = marksM d r ++ [(f, Cg d f)] := by simp [marksM]
    rw [hmm]
    exact NZ (by unfold marksM; rw [List.length_map]; exact hrl) (by omega) (hfs f (by simp)) h0 tb hd rfl rfl (by rw [← List.getLast?_eq_getElem?]; exact hm1) (hbl f _ (by simp) rfl) hm2
theorem Pl {svs : List SegV} {fs : List Nat} {j f : Nat} (hf : fs[j]? = some f) (hm : svs.map SegV.m = (fs.take j).map fun f => (f, [])) : (svs ++ [(⟨f, [], none, 0⟩ : SegV)]).map SegV.m = (fs.take (j + 1)).map fun f => (f, []) := by
 rw [List.take_add_one, hf, List.map_append, List.map_append, hm]
 rfl
theorem S4 {dk lim : Nat} {d : DiskD} {fs : List Nat} (hl1 : 64 ≤ lim) (hl2 : lim ≤ 16384) (hdn : d.down = false) (hds : d.now.length ≤ 1000000) (hnm : Gl d.now = fs.map nameL) (tb : Tb) (hd : d.fit) (hfs : ∀ f, f ∈ fs → f ≤ 72057594037927935) (hfl : fs.length ≤ 1000000) (hL : (Bz d fs).length ≤ 1000000) (hbl : ∀ f b, f ∈ fs → (Cn d (nameL f)).getD [] = b → b.length ≤ 137438953472)
 (hok : ∀ (j f i : Nat) (e : EntD) (n : Nat), fs[j]? = some f → (Ca d f)[i]? = some (e, n) → (i = 0 → e.i = f) ∧ ((AD (Cr d fs j f i)).2 = 0 ∨ ((AD (Cr d fs j f i)).2 ≠ 0 ∧ e.i = (AD (Cr d fs j f i)).2 + 1 ∧ (AD (Cr d fs j f i)).1 ≤ e.t)) ∧ 0 ≤ (AD (Cr d fs j f i)).2 ∧ (AD (Cr d fs j f i)).2 ≤ 72057594037927935)
 (hwh : ∀ (j f : Nat) (b : List UInt8), fs[j]? = some f → (Cn d (nameL f)).getD [] = b → ∃ m, (Cg d f).getLast? = some m ∧ m.2 = b.length) : AV Tryz.prog 9 #[.pointer (some ⟨dk, 0, none⟩), .int .i64 (lim : Int)] [Ag dk d, Ao tb] (fun (p : Nat) => .tuple #[.pointer (some ⟨p, 0, none⟩), .int .i64 0]) (fun (p : Nat) => [Ay p dk lim (marksM d fs), Ag dk d, Ao tb]) := by
 refine Bo (args := [.pointer (some ⟨dk, 0, none⟩), .int .i64 (lim : Int)]) 59 Tryz.func9 rfl rfl rfl ?_; intro w rs
 refine Ad (Af Ae rfl (Ab (Ar (Ad (Af Ae rfl (Aa rfl (.bool false) (fun b w hb hH => CX (by kernel_rfl) rfl rfl rfl hb) (Af Ae rfl (Aa rfl (.bool false) (fun b w hb hH => A5 rfl rfl rfl (BI (by omega)) hb) (Af Ae rfl (Aa rfl (.bool false) (fun b w hb hH => A5 rfl rfl rfl (By (by omega)) hb) (Af Ae rfl ?_)))))))))))
 refine Ab (Au rfl (Av (AC (Ad (Af Ae rfl (Aa rfl (.agg #[.pointer (some ⟨dk, 0, none⟩), .int .i64 (lim : Int), .slice none 0 0]) (fun b w hb hH => BA rfl rfl (by kernel_rfl) hb) (Al (post := fun p => [cell p 76 #[.pointer (some ⟨dk, 0, none⟩), .int .i64 (lim : Int), .slice none 0 0], Ag dk d, Ao tb]) rfl (CW (cs := #[.pointer (some ⟨dk, 0, none⟩), .int .i64 (lim : Int), .slice none 0 0]) rfl rfl rfl) ?_))))))); rintro p
 refine Af Ae rfl (Ab (Ar (Ad (Af Ae rfl (Al rfl (As (os' := fun nv => [Aj 9 1 encKs nv (fs.map nameL), cell p 76 #[.pointer (some ⟨dk, 0, none⟩), .int .i64 (lim : Int), .slice none 0 0], Ag dk d, Ao tb]) [1] 0 (Ai Tryz.func34 (by kernel_rfl) rfl) (KK hdn hds hnm) rfl rfl rfl (fun _ => rfl) rfl rfl rfl) ?_))))); rintro nv
 refine Aa rfl (.int .i64 (fs.length : Int)) (fun b w hb hH => BG 0 (List.length_map ..) Tryz.underlying77 rfl rfl rfl hH hb) (Af Ae rfl (Ab (AK (BK 83 2 encSg (H2 (t := Bc []) (DE) (Bj [3, 1, 0] rfl (CV (svs := []) rfl) rfl (AL.keep (env' := [(0, .pointer (some ⟨dk, 0, none⟩)), (1, .int .i64 (lim : Int)), (4, .pointer none), (5, .int .i64 0), (12, .pointer (some ⟨dk, 0, none⟩)), (13, .bool false), (14, .bool false), (15, .int .i64 (lim : Int)), (16, .bool false), (17, .bool false), (18, .bool false), (19, .int .i64 (lim : Int)), (20, .bool false), (21, .bool false), (22, .pointer (some ⟨dk, 0, none⟩)), (23, .int .i64 (lim : Int)), (24, .agg #[.pointer (some ⟨dk, 0, none⟩), .int .i64 (lim : Int), .slice none 0 0]), (25, .pointer (some ⟨p, 0, none⟩)), (6, .pointer (some ⟨p, 0, none⟩)), (26, .pointer (some ⟨dk, 0, none⟩)), (27, nv), (28, .int .i64 (fs.length : Int)), (29, .int .i64 0)]) ⟨rfl, rfl, rfl, rfl, rfl, rfl, rfl, rfl, rfl, rfl, rfl, rfl, rfl, rfl, rfl, rfl, rfl, rfl, rfl, rfl, rfl, rfl, rfl, trivial⟩ (AL.mid [Ay p dk lim ((fs.take 0).map fun f => (f, [])), Aj 9 1 encKs nv (fs.map nameL), Ag dk d, Ao tb] (.refl _) (CC (α := Nat) (fun j => [(4, .pointer none), (5, .int .i64 0), (6, .pointer (some ⟨p, 0, none⟩)), (27, nv), (28, .int .i64 (fs.length : Int)), (29, .int .i64 (j : Int))]) (fun j => [Ay p dk lim ((fs.take j).map fun f => (f, [])), Aj 9 1 encKs nv (fs.map nameL), Ag dk d, Ao tb]) (fun j => j ≤ fs.length) (fun j => fs.length - j) 0 (Nat.zero_le _) ⟨rfl, rfl, rfl, rfl, rfl, rfl, trivial⟩ rfl ?_)))))))))
 rintro j hI
 refine AL.at_ (env' := [(4, .pointer none), (5, .int .i64 0), (6, .pointer (some ⟨p, 0, none⟩)), (27, nv), (28, .int .i64 (fs.length : Int)), (29, .int .i64 (j : Int))]) (rs' := [Ay p dk lim ((fs.take j).map fun f => (f, [])), Aj 9 1 encKs nv (fs.map nameL), Ag dk d, Ao tb]) ⟨rfl, rfl, rfl, rfl, rfl, rfl, trivial⟩ rfl ?_
 rcases Nat.lt_or_ge j fs.length with hjN | hjN
 obtain ⟨f, hfj⟩ : ∃ f, fs[j]? = some f := ⟨_, List.getElem?_eq_getElem hjN⟩
 have hfb := hfs f (List.mem_of_getElem? hfj)
 have hnj : (fs.map nameL)[j]? = some (nameL f) := by rw [List.getElem?_map, hfj]; rfl
 have hnjl : j < (fs.map nameL).length := by rw [List.length_map]; exact hjN
 refine Ad (Af Ae rfl (Aa rfl (.bool true) (fun b w hb hH => A5 rfl rfl rfl (BY (by omega)) hb) (Ab (Ar (AE rfl (Av (AC (Ar (AK (Ad (Af Ae rfl (Aa rfl (AN nv (j * 1)) (fun b w hb hH => EZ 1 MX RS rfl j hnjl rfl rfl rfl hH hb) (Aa rfl (.string (bs (nameL f))) (fun b w hb hH => Oo 1 CR RS rfl j (a := (nameL f)) hnj rfl rfl rfl hH hb) (Af Ae rfl (Ab (Ad (Af Ae rfl ?_)))))))))))))))))
 refine Al rfl (As (os' := fun _ => [Ay p dk lim ((fs.take j).map fun f => (f, [])), Aj 9 1 encKs nv (fs.map nameL), Ag dk d, Ao tb]) [3] 0 (Ai Tryz.func35 (by kernel_rfl) rfl) (KT tb (n := f) hfb) rfl rfl rfl (fun _ => rfl) rfl rfl rfl) ?_; rintro ⟨⟩
 refine Af Ae rfl (Ab (Ad (Af Ae rfl (Ab (AE rfl (AX 0 rfl Ay.open_ (fun _ => rfl) ?_)))))); rintro ⟨sv, svs⟩
 refine AL.fact 3 rfl (fun _ h => h.2) ?_; rintro hm
 refine AL.leave [3] rfl rfl ?_
 replace hm : svs.map SegV.m = ((fs.take j).map fun f => (f, [])) := hm
 have hsl : svs.length ≤ 1000000 := by have := congrArg List.length hm; simp only [List.length_map, List.length_take] at this; omega
 refine BB (Af Ae rfl (Aa rfl (.pointer (some ⟨p, 0, none⟩)) (fun b w hb hH => by exact B4 rfl rfl hb) (Af Ae rfl (Aa rfl (sv) (fun b w hb hH => Ba rfl rfl (Bl C6 rfl) (hH.row 0 rfl) hb) (Af Ae rfl (Aa rfl (.agg #[.int .u64 (f : Int), .slice none 0 0]) (fun b w hb hH => BA rfl rfl (by kernel_rfl) hb) ?_))))))
 refine Al (X := Value) (val := fun v : Value => v) (post := fun su => [Aj 83 2 encSg su ([(⟨f, [], none, 0⟩ : SegV)]), cell p 76 #[.pointer (some ⟨dk, 0, none⟩), .int .i64 (lim : Int), sv], Aj 83 2 encSg sv svs, Bc svs, Aj 9 1 encKs nv (fs.map nameL), Ag dk d, Ao tb]) rfl (by refine Dm (e := 83) (t := 74) (k := 2) (enc := encSg) (x := .tmp 45) (c := .agg #[.int .u64 (f : Int), .slice none 0 0]) ?_ ?_ ?_ (⟨f, [], none, 0⟩ : SegV) ?_ ?_ ?_; exact BT; exact (by decide); exact AM; exact rfl; exact rfl; exact rfl) ?_; rintro su
 refine Al (post := fun nv2 => [Aj 83 2 encSg su ([(⟨f, [], none, 0⟩ : SegV)]), cell p 76 #[.pointer (some ⟨dk, 0, none⟩), .int .i64 (lim : Int), sv], Aj 83 2 encSg nv2 (svs ++ [(⟨f, [], none, 0⟩ : SegV)]), Bc svs, Aj 9 1 encKs nv (fs.map nameL), Ag dk d, Ao tb]) rfl (Df (nb := 32) 2 BT AM (by kernel_rfl) (by decide) rfl ([(⟨f, [], none, 0⟩ : SegV)]) (fun w hH => hH.vec 0 rfl AM) (by simp only [List.length_cons, List.length_nil]; omega) rfl rfl rfl rfl) ?_; rintro nv2
 refine Aa rfl (.pointer (some ⟨p, 0, none⟩)) (fun b w hb hH => by exact B4 rfl rfl hb) (Af Ae rfl (AR (post := fun _ => [Aj 83 2 encSg su ([(⟨f, [], none, 0⟩ : SegV)]), cell p 76 #[.pointer (some ⟨dk, 0, none⟩), .int .i64 (lim : Int), nv2], Aj 83 2 encSg nv2 (svs ++ [(⟨f, [], none, 0⟩ : SegV)]), Bc svs, Aj 9 1 encKs nv (fs.map nameL), Ag dk d, Ao tb]) rfl rfl (Ez 1 2 (v := nv2) #[.pointer (some ⟨dk, 0, none⟩), .int .i64 (lim : Int), nv2] C6.2 rfl (fun _ h => Aj.c1 h) rfl rfl rfl rfl rfl rfl rfl) ?_)); rintro ⟨⟩
 refine AG (A6 (AC (BK 137 2 encMk (Bj [4, 0] rfl (Ml (y := (⟨f, [], none, 0⟩ : SegV))) rfl (Bj [2, 3, 0] rfl (CV (Pl hfj hm)) rfl (AL.leave [1] rfl rfl (AL.keep (env' := [(4, .pointer none), (5, .int .i64 0), (6, .pointer (some ⟨p, 0, none⟩)), (27, nv), (28, .int .i64 (fs.length : Int)), (29, .int .i64 (j : Int)), (30, .bool true), (31, AN nv (j * 1)), (32, .string (bs (nameL f))), (8, .string (bs (nameL f))), (34, .string (bs (nameL f))), (35, .tuple #[.int .u64 (f : Int), .bool true]), (33, .tuple #[.int .u64 (f : Int), .bool true]), (36, .int .u64 (f : Int)), (37, .bool true), (9, .int .u64 (f : Int)), (10, .bool true), (38, .bool true), (39, .pointer (some ⟨p, 0, none⟩)), (40, .pointer (some ⟨p, 0, none⟩)), (41, .pointer (some ⟨p, 0, none⟩)), (42, .pointer (some ⟨p, 2, none⟩)), (43, sv), (44, .int .u64 (f : Int)), (45, .agg #[.int .u64 (f : Int), .slice none 0 0]), (46, su), (47, nv2), (48, .pointer (some ⟨p, 0, none⟩)), (49, .pointer (some ⟨p, 2, none⟩))]) ⟨rfl, rfl, rfl, rfl, rfl, rfl, rfl, rfl, rfl, rfl, rfl, rfl, rfl, rfl, rfl, rfl, rfl, rfl, rfl, rfl, rfl, rfl, rfl, rfl, rfl, rfl, rfl, rfl, rfl, trivial⟩ (AL.mid [Ay p dk lim ((fs.take (j + 1)).map fun f => (f, [])), Aj 9 1 encKs nv (fs.map nameL), Ag dk d, Ao tb] (.refl _) (BB (Af Ae rfl (Aa rfl (.int .i64 ((j + 1 : Nat) : Int)) (fun b w hb hH => AJ rfl rfl rfl rfl (by rw [IntWalk.i64_in _ (by omega)]; omega) hb) ?_)))))))))))
 refine Af Ae rfl (AG ?_)
 exact B6 (j + 1) 0 (by omega) (show fs.length - (j + 1) < fs.length - j by omega) ⟨rfl, rfl, rfl, rfl, rfl, rfl, trivial⟩ rfl
 have hje : j = fs.length := by omega
 refine Ad (Af Ae rfl (Aa rfl (.bool false) (fun b w hb hH => A5 rfl rfl rfl (BI (by omega)) hb) (Ab (Ar (Au rfl (CJ (Fq (Fq (Bg (AC ?_))))))))))
 rw [show fs.take j = fs by rw [hje, List.take_length]]
 refine AL.keep (env' := [(4, .pointer none), (5, .int .i64 0), (6, .pointer (some ⟨p, 0, none⟩)), (27, nv), (28, .int .i64 (fs.length : Int)), (29, .int .i64 (j : Int)), (30, .bool false)]) ⟨rfl, rfl, rfl, rfl, rfl, rfl, rfl, trivial⟩ (AL.mid [Ay p dk lim (fs.map fun f => (f, [])), Aj 9 1 encKs nv (fs.map nameL), Ag dk d, Ao tb] (.refl _) (Ad (Af Ae rfl (Al rfl (As (os' := fun _ => [Ay p dk lim (marksM d fs), Aj 9 1 encKs nv (fs.map nameL), Ag dk d, Ao tb]) [0, 2, 3] 0 (Ai Tryz.func36 (by kernel_rfl) rfl) (QR tb hd hfs hfl rfl hL hbl hok hwh) rfl rfl rfl (fun _ => rfl) rfl rfl rfl) ?_)))); rintro ⟨⟩
 refine Ab (Ar (Ad (Af Ae rfl (Al rfl (As (os' := fun _ => [Ay p dk lim (marksM d fs), Aj 9 1 encKs nv (fs.map nameL), Ag dk d, Ao tb]) [0, 2, 3] 0 (Ai Tryz.func37 (by kernel_rfl) rfl) (N0 tb hd hfs hfl hL hbl hwh) rfl rfl rfl (fun _ => rfl) rfl rfl rfl) ?_)))); rintro ⟨⟩
 refine Af Ae rfl (Ab (Ad (Af Ae rfl (Aa rfl (.bool false) (fun b w hb hH => A5 rfl rfl rfl (Bn (by decide)) hb) (Ab (Au rfl (Av (AC (Ad (Af Ae rfl (Ab (AB ?_))))))))))))
 exact Co (.tmp rfl) (.tmp rfl) (fun w h => AH p rfl [0, 2, 3] rfl h El) rfl
end Go.Proofs.YtjcfimmcogkopaaGreatDoor.Sep
