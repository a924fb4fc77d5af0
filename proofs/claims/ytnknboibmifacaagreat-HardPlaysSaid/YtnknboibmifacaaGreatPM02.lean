/-
  RdkB
-/
import Derived.Test.YtnknboibmifacaaGreatPB02
import Derived.Test.YtnknboibmifacaaGreatPM01
set_option linter.unusedSimpArgs false
set_option linter.unusedVariables false
set_option maxRecDepth 100000
namespace Go.Proofs.YtnknboibmifacaaGreat.Sep
open Go.RowKit
open Go.Proofs.YtnknboibmifacaaGreat.Mem (Bl Co Chg AG)
def encRO (x : OpV) : List Value := [.int .i64 x.o.kind, .string (bs x.o.name), .string (bs x.o.to), x.v, .int .i64 (x.o.cutS : Int)]
theorem CY : EncOf 5 encRO := ⟨fun _ => rfl, fun x v h => by unfold encRO OpV.v at h; simp at h; rcases h with rfl | rfl | rfl | rfl | rfl <;> rfl⟩
structure RDo where
  rv : Value
  rl : List RFl
  bv : Value
  bd : List UInt8
def Ev (l : List RFl) (o : OpD) (z : RDo) : Prop := Ex z.rl ∧ (∀ g, (FU l).Perm g → (FU z.rl).Perm (AI g o)) ∧ ∀ x, x ∈ z.rl → x ∈ l ∨ (x.v = z.bv ∧ x.d = z.bd)
theorem Lt {l m : List RFl} {o : OpD} {f : RFl} {rv : Value} (hm : Ex m) (hsub : ∀ x, x ∈ m → x ∈ l) (h : ∀ g, (FU l).Perm g → ∃ g', (FU m).Perm g' ∧ AI g o = BG g' f.n f.d) : Ev l o ⟨rv, D0 m f, f.v, f.d⟩ := by
  refine ⟨Oi hm, fun g hg => ?_, fun x hx => ?_⟩
  · obtain ⟨g', h1, h2⟩ := h g hg
    rw [h2]; exact US hm h1
  · rcases Jh.1 hx with rfl | hx
    · exact .inr ⟨rfl, rfl⟩
    · exact .inl (hsub x (GE.1 hx).1)
theorem Lu {l : List RFl} {g : FS} {n : List UInt8} {r : Option (List UInt8)} (hs : Ex l) (h : (FU l).Perm g) (hr : AQ (FU l) n = r) : AQ g n = r := by rw [← El h (DP hs)]; exact hr
theorem Mh {l : List RFl} {n b x : List UInt8} {A : Option Addr} {c : Nat} {rv : Value} (hs : Ex l) (hg : (AQ (FU l) n).getD [] = x) : Ev l (.app n b) ⟨rv, D0 l ⟨n, A, c, x ++ b⟩, .slice A (x ++ b).length c, x ++ b⟩ :=
 Lt (f := ⟨n, A, c, x ++ b⟩) hs (fun _ h => h) fun g h => ⟨g, h, by show BG g n ((AQ g n).getD [] ++ b) = _; rw [Lu hs h rfl, hg]⟩
theorem RQ {l : List RFl} {n x : List UInt8} {s : Nat} {A : Option Addr} {c : Nat} {rv : Value} (hs : Ex l) (hg : AQ (FU l) n = some x) : Ev l (.cut n s) ⟨rv, D0 l ⟨n, A, c, x.take s⟩, .slice A (x.take s).length c, x.take s⟩ :=
  Lt (f := ⟨n, A, c, x.take s⟩) hs (fun _ h => h) fun g h => ⟨g, h, by show (match AQ g n with | some x => BG g n (x.take s) | none => g) = _; rw [Lu hs h hg]⟩
theorem RR {l : List RFl} {n m x : List UInt8} {A : Option Addr} {c : Nat} {rv : Value} (hs : Ex l) (hg : AQ (FU l) n = some x) : Ev l (.ren n m) ⟨rv, D0 (DV l n) ⟨m, A, c, x⟩, .slice A x.length c, x⟩ :=
  Lt (f := ⟨m, A, c, x⟩) (Kr hs) (fun _ h => (GE.1 h).1) fun g h => ⟨BX g n, TC hs h, by show (match AQ g n with | some x => BG (BX g n) m x | none => g) = _; rw [Lu hs h hg]⟩
theorem Mi {l : List RFl} {n : List UInt8} {rv : Value} (hs : Ex l) : Ev l (.del n) ⟨rv, DV l n, .slice none 0 0, []⟩ := ⟨Kr hs, fun _ h => TC hs h, fun _ h => .inl (GE.1 h).1⟩
theorem PH {e : TypeId} {A : Option Addr} {c : Nat} {l : List UInt8} {k : Nat} (hk : k ≤ l.length) : ∀ rs, Ap [As e 1 encB (.slice A l.length c) l] rs → As e 1 encB (.slice A (l.take k).length c) (l.take k) rs := fun rs h => by
 have h1 := K5 hk rs h
 rw [I1] at h1
 rw [show (l.take k).length = k by rw [List.length_take]; omega]
 exact h1
theorem HU {X Y : Ass} {l l' : List RFl} {o : OpD} {n d : List UInt8} {fv rv : Value} {A : Option Addr} {c : Nat} (e : fv = .slice A d.length c) (h : Ev l o ⟨rv, D0 l' ⟨n, A, c, d⟩, fv, d⟩) : ∀ rs, Ap [X, Y, As 5 1 encB fv d, Hf l' n d fv rv] rs → ∃ z, rs.Perm z ∧ Ap [X, Y, As 5 1 encB fv d, As 52 2 encRF rv (D0 l' ⟨n, A, c, d⟩), fact (Ev l o ⟨rv, D0 l' ⟨n, A, c, d⟩, fv, d⟩)] z := fun rs hr => by
 obtain ⟨a, _, rfl, h1, b, _, rfl, h2, p, _, rfl, h3, q, _, rfl, ⟨A2, c2, e2, h4⟩, rfl⟩ := hr
 rw [e] at e2
 simp only [Value.slice.injEq] at e2
 obtain ⟨rfl, _, rfl⟩ := e2
 exact ⟨_, .refl _, a, _, rfl, h1, b, _, rfl, h2, p, _, rfl, h3, q, _, rfl, h4, [], _, rfl, ⟨rfl, h⟩, rfl⟩
theorem MY {e : TypeId} {A : Option Addr} {c n : Nat} {l : List UInt8} : ∀ rs, As e 1 encB (.slice A n c) l rs → l.length ≤ c := fun rs h => by
  rcases h with ⟨h1, h2, _⟩ | ⟨g, cap, cs, h1, h2, _⟩
  · rw [h2]; exact Nat.zero_le _
  · simp only [Value.slice.injEq] at h1; omega
theorem PI {X Y : Ass} {v : Value} {l : List RFl} {n : List UInt8} {A : Option Addr} {c : Nat} {b : List UInt8} (hX : Ff X v l) (hl : l.length ≤ 1000000) (hs : Ex l) {j : Nat} {x : RFl} (hj : l[j]? = some x) (hn : x.n = n) (hlt : ∀ (k : Nat) (y : RFl), k < j → l[k]? = some y → y.n ≠ n) (hg : AQ (FU l) n = some x.d) (hYx : CX Y x.v x.d) (hxd : x.d.length ≤ 1099511627776) (hO : CX Y (.slice A b.length c) b) (hbl : b.length ≤ 1099511627776) : AU Tryz.prog 67 #[v, .agg #[.int .i64 0, .string (bs n), .string (bs ([])), .slice A b.length c, .int .i64 0]] [X, Y] (fun (z : RDo) => z.rv) (fun (z : RDo) => [X, Y, As 5 1 encB z.bv z.bd, As 52 2 encRF z.rv z.rl, fact (Ev l (.app n b) z)]) := by
  refine Bd (args := [v, .agg #[.int .i64 0, .string (bs n), .string (bs ([])), .slice A b.length c, .int .i64 0]]) 59 Tryz.func67 rfl rfl rfl ?_; intro w rs
  refine Ad ?_
  refine Ae Ag rfl ?_
  refine Aj (post := fun g3 => [cell g3 103 #[.int .i64 0, .string (bs n), .string (bs ([])), .slice A b.length c, .int .i64 0], X, Y]) rfl (CC (cs := #[.int .i64 0, .string (bs n), .string (bs ([])), .slice A b.length c, .int .i64 0]) rfl rfl rfl) ?_; rintro g3
  refine Ae Ag rfl ?_
  refine Aa (Ad ?_)
  refine Ae Ag rfl ?_
  refine Aa (Aq (Ad ?_))
  refine Ae Ag rfl ?_
  refine Ab rfl (.string (bs n)) (fun b w hb hH => A6 rfl rfl (Bk Ba rfl) (hH.row 0 rfl) hb) ?_
  refine Aj rfl (Al (os' := fun _ => [cell g3 103 #[.int .i64 0, .string (bs n), .string (bs ([])), .slice A b.length c, .int .i64 0], X, Y]) [1] 0 (Ah Tryz.func61 (by kernel_rfl) rfl) (C7 hX hl hj hn hlt) rfl rfl rfl (fun _ => rfl) rfl rfl rfl) ?_; rintro ⟨⟩
  refine Ae Ag rfl ?_
  refine Aa (Ad ?_)
  refine Ae Ag rfl ?_
  refine Ab rfl (.bool true) (fun b w hb hH => AV rfl rfl rfl (B7 (by omega)) hb) ?_
  refine Aa (AC rfl (Br ?_))
  refine Ae Ag rfl ?_
  refine Aj (X := Value) (val := fun v : Value => v) (post := fun u0 => [As 5 1 encB u0 ([]), cell g3 103 #[.int .i64 0, .string (bs n), .string (bs ([])), .slice A b.length c, .int .i64 0], X, Y]) rfl (by refine ET (e := 5) (t := 48) (k := 1) (enc := encB) ?_ ?_; exact AJ; exact rfl) ?_; rintro u0
  refine Ae Ag rfl ?_
  refine Ab rfl (BP v (j * 2)) (fun b w hb hH => BF BT ((hH.rdFs 2 rfl hX)) Az (j := j) hj rfl rfl rfl hb) ?_
  refine Ab rfl (BP v (j * 2 + 1)) (fun b w hb hH => IS BT (by decide) ((hH.rdFs 2 rfl hX)) (j := j) hj BC rfl rfl hb) ?_
  refine Ab rfl (.slice x.A x.d.length x.c) (fun b w hb hH => Bm BT (by decide) ((hH.rdFs 2 rfl hX)) (j := j) hj C3 (off := 1) rfl rfl rfl hb) ?_
  refine Aj (post := fun u1 => [As 5 1 encB u1 x.d, cell g3 103 #[.int .i64 0, .string (bs n), .string (bs ([])), .slice A b.length c, .int .i64 0], X, Y]) rfl (Cz 0 AJ (by kernel_rfl) rfl (x.d) (fun w hH => (hH.rd8 3 rfl hYx).rd) (by simp only [List.length_nil]; omega) rfl rfl rfl (List.nil_append _)) ?_; rintro u1
  refine Ae Ag rfl ?_
  refine AP (AE (Aq (Ad ?_)))
  refine Ae Ag rfl ?_
  refine Ab rfl (.int .i64 0) (fun b w hb hH => A6 rfl rfl (Bk AR rfl) (hH.row 1 rfl) hb) ?_
  refine Aa (Bb (Ad ?_))
  refine Ae Ag rfl ?_
  refine Ab rfl (.bool true) (fun b w hb hH => AV rfl rfl rfl (H7 (by decide)) hb) ?_
  refine Ae Ag rfl ?_
  refine Aa (AC rfl (Aq ?_))
  refine EF 1 rfl ?_
  refine BO 9 2 [⟨.quiet, [none, none], fun _ => v, []⟩, ⟨.quiet, [none, none], fun _ => .pointer (some ⟨g3, 1, none⟩), []⟩, ⟨.quiet, [none, none], fun _ => .string (bs n), [1]⟩, ⟨.quiet, [none, none], fun _ => u1, []⟩, ⟨.quiet, [none, none], fun _ => .pointer (some ⟨g3, 3, none⟩), []⟩, ⟨.quiet, [none, none], fun _ => .slice A b.length c, [4]⟩, ⟨.act 0, [some false, some false], fun _ => undef, [3, 5]⟩, ⟨.quiet, [some true, none], fun ρ => match ρ with | [some u2, _] => .agg #[.string (bs n), u2] | _ => undef, [2, 6]⟩, ⟨.act 1, [some true, some false], fun _ => undef, [0, 7]⟩] [(0, v), (3, .pointer (some ⟨g3, 0, none⟩)), (4, .slice none 0 0), (5, u1)] (fun ρ => match ρ with | [r0, r1] => [CD r1 (fun rv1 => CD r0 (fun u2 => Hf l n (x.d ++ b) u2 rv1) (D1)) (D1), CD r0 (fun u2 => As 5 1 encB u2 (x.d ++ b)) (As 5 1 encB u1 x.d), cell g3 103 #[.int .i64 0, .string (bs n), .string (bs ([])), .slice A b.length c, .int .i64 0], X, Y] | _ => []) (by kernel_rfl) (by kernel_rfl) ⟨rfl, rfl, rfl, rfl, trivial⟩ rfl ?_ ?_
  · skip
    refine Ac (by intro r0_ r1_; exact ⟨rfl, fun b w hH hb => Af Ag rfl hb⟩) ?_
    refine Ac (by intro r0_ r1_; exact ⟨rfl, fun b w hH hb => Af Ag rfl hb⟩) ?_
    refine Ac (by intro r0_ r1_; exact ⟨rfl, fun b w hH hb => A6 rfl rfl (Bk Ba rfl) (hH.row 2 rfl) hb⟩) ?_
    refine Ac (by intro r0_ r1_; exact ⟨rfl, fun b w hH hb => Af Ag rfl hb⟩) ?_
    refine Ac (by intro r0_ r1_; exact ⟨rfl, fun b w hH hb => Af Ag rfl hb⟩) ?_
    refine Ac (by intro r0_ r1_; exact ⟨rfl, fun b w hH hb => A6 rfl rfl (Bk C3 rfl) (hH.row 2 rfl) hb⟩) ?_
    refine Ac (by exact ⟨rfl, Bp.s (Cz 1 AJ (by kernel_rfl) rfl (b) (fun w hH => (hH.rd8 4 rfl hO).rd) (by omega) rfl rfl rfl rfl) (fun _ => rfl)⟩) ?_
    refine Ac (by intro u2 r1_; exact ⟨rfl, fun b w hH hb => (by obtain ⟨_, h1_, _⟩ := hH.thing 1 rfl; obtain ⟨A2, c2, e2⟩ := As.is h1_; subst e2; exact Bg rfl rfl rfl hb)⟩) ?_
    refine Ac (by intro u2; exact ⟨rfl, Bp.s (Al (os' := fun rv1 => [Hf l n (x.d ++ b) u2 rv1, As 5 1 encB u2 (x.d ++ b), cell g3 103 #[.int .i64 0, .string (bs n), .string (bs ([])), .slice A b.length c, .int .i64 0], X, Y]) [3, 1, 0] 1 (Ah Tryz.func82 (by kernel_rfl) rfl) (MX hX hl) rfl rfl rfl (fun _ => rfl) rfl rfl rfl) (fun _ => rfl)⟩) ?_
    exact B2
  intro u2 rv1
  refine Cg.keep (env' := [(0, v), (3, .pointer (some ⟨g3, 0, none⟩)), (4, .slice none 0 0), (32, rv1)]) ⟨rfl, rfl, rfl, rfl, trivial⟩ ?_
  refine Ae Ag rfl ?_
  refine AP (AE (Ay (Bw (CM ?_))))
  exact Av (.tmp rfl) (fun w h => (by obtain ⟨_, ⟨A3, c3, ez, _⟩, _⟩ := h.thing 0 rfl; exact AB (X := RDo) ⟨rv1, D0 l ⟨n, A3, c3, x.d ++ b⟩, u2, x.d ++ b⟩ rfl [3, 4, 1, 0] rfl h (HU ez (by rw [ez]; exact Mh hs (by rw [hg]; rfl))))) rfl
theorem PJ {X Y : Ass} {v : Value} {l : List RFl} {n : List UInt8} {A : Option Addr} {c : Nat} {b : List UInt8} (hX : Ff X v l) (hl : l.length ≤ 1000000) (hs : Ex l) (hn : ∀ x : RFl, x ∈ l → x.n ≠ n) (hg : AQ (FU l) n = none) (hO : CX Y (.slice A b.length c) b) (hbl : b.length ≤ 1099511627776) : AU Tryz.prog 67 #[v, .agg #[.int .i64 0, .string (bs n), .string (bs ([])), .slice A b.length c, .int .i64 0]] [X, Y] (fun (z : RDo) => z.rv) (fun (z : RDo) => [X, Y, As 5 1 encB z.bv z.bd, As 52 2 encRF z.rv z.rl, fact (Ev l (.app n b) z)]) := by
  refine Bd (args := [v, .agg #[.int .i64 0, .string (bs n), .string (bs ([])), .slice A b.length c, .int .i64 0]]) 59 Tryz.func67 rfl rfl rfl ?_; intro w rs
  refine Ad ?_
  refine Ae Ag rfl ?_
  refine Aj (post := fun g3 => [cell g3 103 #[.int .i64 0, .string (bs n), .string (bs ([])), .slice A b.length c, .int .i64 0], X, Y]) rfl (CC (cs := #[.int .i64 0, .string (bs n), .string (bs ([])), .slice A b.length c, .int .i64 0]) rfl rfl rfl) ?_; rintro g3
  refine Ae Ag rfl ?_
  refine Aa (Ad ?_)
  refine Ae Ag rfl ?_
  refine Aa (Aq (Ad ?_))
  refine Ae Ag rfl ?_
  refine Ab rfl (.string (bs n)) (fun b w hb hH => A6 rfl rfl (Bk Ba rfl) (hH.row 0 rfl) hb) ?_
  refine Aj rfl (Al (os' := fun _ => [cell g3 103 #[.int .i64 0, .string (bs n), .string (bs ([])), .slice A b.length c, .int .i64 0], X, Y]) [1] 0 (Ah Tryz.func61 (by kernel_rfl) rfl) (Dn hX hl hn) rfl rfl rfl (fun _ => rfl) rfl rfl rfl) ?_; rintro ⟨⟩
  refine Ae Ag rfl ?_
  refine Aa (Ad ?_)
  refine Ae Ag rfl ?_
  refine Ab rfl (.bool false) (fun b w hb hH => AV rfl rfl rfl (De (by omega)) hb) ?_
  refine Aa (Ar rfl (Ax (AE (Aq (Ad ?_)))))
  refine Ae Ag rfl ?_
  refine Ab rfl (.int .i64 0) (fun b w hb hH => A6 rfl rfl (Bk AR rfl) (hH.row 0 rfl) hb) ?_
  refine Aa (Bb (Ad ?_))
  refine Ae Ag rfl ?_
  refine Ab rfl (.bool true) (fun b w hb hH => AV rfl rfl rfl (H7 (by decide)) hb) ?_
  refine Ae Ag rfl ?_
  refine Aa (AC rfl ?_)
  refine B4 5 1 encB ?_
  refine Aq ?_
  refine EF 1 rfl ?_
  refine BO 9 2 [⟨.quiet, [none, none], fun _ => v, []⟩, ⟨.quiet, [none, none], fun _ => .pointer (some ⟨g3, 1, none⟩), []⟩, ⟨.quiet, [none, none], fun _ => .string (bs n), [1]⟩, ⟨.quiet, [none, none], fun _ => .slice none 0 0, []⟩, ⟨.quiet, [none, none], fun _ => .pointer (some ⟨g3, 3, none⟩), []⟩, ⟨.quiet, [none, none], fun _ => .slice A b.length c, [4]⟩, ⟨.act 0, [some false, some false], fun _ => undef, [3, 5]⟩, ⟨.quiet, [some true, none], fun ρ => match ρ with | [some u2, _] => .agg #[.string (bs n), u2] | _ => undef, [2, 6]⟩, ⟨.act 1, [some true, some false], fun _ => undef, [0, 7]⟩] [(0, v), (3, .pointer (some ⟨g3, 0, none⟩)), (4, .slice none 0 0), (5, .slice none 0 0)] (fun ρ => match ρ with | [r0, r1] => [CD r1 (fun rv1 => CD r0 (fun u2 => Hf l n ([] ++ b) u2 rv1) (D1)) (D1), CD r0 (fun u2 => As 5 1 encB u2 ([] ++ b)) (As 5 1 encB (.slice none 0 0) ([])), cell g3 103 #[.int .i64 0, .string (bs n), .string (bs ([])), .slice A b.length c, .int .i64 0], X, Y] | _ => []) (by kernel_rfl) (by kernel_rfl) ⟨rfl, rfl, rfl, rfl, trivial⟩ rfl ?_ ?_
  · skip
    refine Ac (by intro r0_ r1_; exact ⟨rfl, fun b w hH hb => Af Ag rfl hb⟩) ?_
    refine Ac (by intro r0_ r1_; exact ⟨rfl, fun b w hH hb => Af Ag rfl hb⟩) ?_
    refine Ac (by intro r0_ r1_; exact ⟨rfl, fun b w hH hb => A6 rfl rfl (Bk Ba rfl) (hH.row 2 rfl) hb⟩) ?_
    refine Ac (by intro r0_ r1_; exact ⟨rfl, fun b w hH hb => Af Ag rfl hb⟩) ?_
    refine Ac (by intro r0_ r1_; exact ⟨rfl, fun b w hH hb => Af Ag rfl hb⟩) ?_
    refine Ac (by intro r0_ r1_; exact ⟨rfl, fun b w hH hb => A6 rfl rfl (Bk C3 rfl) (hH.row 2 rfl) hb⟩) ?_
    refine Ac (by exact ⟨rfl, Bp.s (Cz 1 AJ (by kernel_rfl) rfl (b) (fun w hH => (hH.rd8 4 rfl hO).rd) (by simp only [List.length_nil]; omega) rfl rfl rfl rfl) (fun _ => rfl)⟩) ?_
    refine Ac (by intro u2 r1_; exact ⟨rfl, fun b w hH hb => (by obtain ⟨_, h1_, _⟩ := hH.thing 1 rfl; obtain ⟨A2, c2, e2⟩ := As.is h1_; subst e2; exact Bg rfl rfl rfl hb)⟩) ?_
    refine Ac (by intro u2; exact ⟨rfl, Bp.s (Al (os' := fun rv1 => [Hf l n ([] ++ b) u2 rv1, As 5 1 encB u2 ([] ++ b), cell g3 103 #[.int .i64 0, .string (bs n), .string (bs ([])), .slice A b.length c, .int .i64 0], X, Y]) [3, 1, 0] 1 (Ah Tryz.func82 (by kernel_rfl) rfl) (MX hX hl) rfl rfl rfl (fun _ => rfl) rfl rfl rfl) (fun _ => rfl)⟩) ?_
    exact B2
  intro u2 rv1
  refine Cg.keep (env' := [(0, v), (3, .pointer (some ⟨g3, 0, none⟩)), (4, .slice none 0 0), (32, rv1)]) ⟨rfl, rfl, rfl, rfl, trivial⟩ ?_
  refine Ae Ag rfl ?_
  refine AP (AE (Ay (Bw (CM ?_))))
  exact Av (.tmp rfl) (fun w h => (by obtain ⟨_, ⟨A3, c3, ez, _⟩, _⟩ := h.thing 0 rfl; exact AB (X := RDo) ⟨rv1, D0 l ⟨n, A3, c3, [] ++ b⟩, u2, [] ++ b⟩ rfl [3, 4, 1, 0] rfl h (HU ez (by rw [ez]; exact Mh hs (by rw [hg]; rfl))))) rfl
theorem RS {X Y : Ass} {v : Value} {l : List RFl} {n : List UInt8} {A : Option Addr} {c : Nat} {s : Nat} (hX : Ff X v l) (hl : l.length ≤ 1000000) (hs : Ex l) {j : Nat} {x : RFl} (hj : l[j]? = some x) (hn : x.n = n) (hlt : ∀ (k : Nat) (y : RFl), k < j → l[k]? = some y → y.n ≠ n) (hg : AQ (FU l) n = some x.d) (hYx : CX Y x.v x.d) (hxd : x.d.length ≤ 1099511627776) (hsx : s ≤ x.d.length) : AU Tryz.prog 67 #[v, .agg #[.int .i64 1, .string (bs n), .string (bs ([])), .slice A 0 c, .int .i64 (s : Int)]] [X, Y] (fun (z : RDo) => z.rv) (fun (z : RDo) => [X, Y, As 5 1 encB z.bv z.bd, As 52 2 encRF z.rv z.rl, fact (Ev l (.cut n s) z)]) := by
  refine Bd (args := [v, .agg #[.int .i64 1, .string (bs n), .string (bs ([])), .slice A 0 c, .int .i64 (s : Int)]]) 59 Tryz.func67 rfl rfl rfl ?_; intro w rs
  refine Ad ?_
  refine Ae Ag rfl ?_
  refine Aj (post := fun g3 => [cell g3 103 #[.int .i64 1, .string (bs n), .string (bs ([])), .slice A 0 c, .int .i64 (s : Int)], X, Y]) rfl (CC (cs := #[.int .i64 1, .string (bs n), .string (bs ([])), .slice A 0 c, .int .i64 (s : Int)]) rfl rfl rfl) ?_; rintro g3
  refine Ae Ag rfl ?_
  refine Aa (Ad ?_)
  refine Ae Ag rfl ?_
  refine Aa (Aq (Ad ?_))
  refine Ae Ag rfl ?_
  refine Ab rfl (.string (bs n)) (fun b w hb hH => A6 rfl rfl (Bk Ba rfl) (hH.row 0 rfl) hb) ?_
  refine Aj rfl (Al (os' := fun _ => [cell g3 103 #[.int .i64 1, .string (bs n), .string (bs ([])), .slice A 0 c, .int .i64 (s : Int)], X, Y]) [1] 0 (Ah Tryz.func61 (by kernel_rfl) rfl) (C7 hX hl hj hn hlt) rfl rfl rfl (fun _ => rfl) rfl rfl rfl) ?_; rintro ⟨⟩
  refine Ae Ag rfl ?_
  refine Aa (Ad ?_)
  refine Ae Ag rfl ?_
  refine Ab rfl (.bool true) (fun b w hb hH => AV rfl rfl rfl (B7 (by omega)) hb) ?_
  refine Aa (AC rfl (Br ?_))
  refine Ae Ag rfl ?_
  refine Aj (X := Value) (val := fun v : Value => v) (post := fun u0 => [As 5 1 encB u0 ([]), cell g3 103 #[.int .i64 1, .string (bs n), .string (bs ([])), .slice A 0 c, .int .i64 (s : Int)], X, Y]) rfl (by refine ET (e := 5) (t := 48) (k := 1) (enc := encB) ?_ ?_; exact AJ; exact rfl) ?_; rintro u0
  refine Ae Ag rfl ?_
  refine Ab rfl (BP v (j * 2)) (fun b w hb hH => BF BT ((hH.rdFs 2 rfl hX)) Az (j := j) hj rfl rfl rfl hb) ?_
  refine Ab rfl (BP v (j * 2 + 1)) (fun b w hb hH => IS BT (by decide) ((hH.rdFs 2 rfl hX)) (j := j) hj BC rfl rfl hb) ?_
  refine Ab rfl (.slice x.A x.d.length x.c) (fun b w hb hH => Bm BT (by decide) ((hH.rdFs 2 rfl hX)) (j := j) hj C3 (off := 1) rfl rfl rfl hb) ?_
  refine Aj (post := fun u1 => [As 5 1 encB u1 x.d, cell g3 103 #[.int .i64 1, .string (bs n), .string (bs ([])), .slice A 0 c, .int .i64 (s : Int)], X, Y]) rfl (Cz 0 AJ (by kernel_rfl) rfl (x.d) (fun w hH => (hH.rd8 3 rfl hYx).rd) (by simp only [List.length_nil]; omega) rfl rfl rfl (List.nil_append _)) ?_; rintro u1
  refine Ae Ag rfl ?_
  refine AP (AE (Aq (Ad ?_)))
  refine Ae Ag rfl ?_
  refine Ab rfl (.int .i64 1) (fun b w hb hH => A6 rfl rfl (Bk AR rfl) (hH.row 1 rfl) hb) ?_
  refine Aa (Bb (Ad ?_))
  refine Ae Ag rfl ?_
  refine Ab rfl (.bool false) (fun b w hb hH => AV rfl rfl rfl (Ge (by decide)) hb) ?_
  refine Ae Ag rfl ?_
  refine Aa (Ar rfl (Ad ?_))
  refine Ae Ag rfl ?_
  refine Ab rfl (.bool true) (fun b w hb hH => AV rfl rfl rfl (H7 (by decide)) hb) ?_
  refine Ae Ag rfl ?_
  refine Aa (AC rfl ?_)
  refine Bv.fact 0 rfl (fun _ h => As.is h) ?_; rintro ⟨A1, c1, rfl⟩
  refine Bv.fact 0 rfl MY ?_; rintro hcap
  have htl : (x.d.take s).length = s := by rw [List.length_take]; omega
  have hsub2 : Cm 1 (.slice A1 x.d.length c1) 0 s = .slice A1 (x.d.take s).length c1 := by rw [htl]; exact I1
  refine AX [0] rfl (PH hsx) rfl ?_
  refine Bv.keep (env' := [(0, v), (1, .agg #[.int .i64 1, .string (bs n), .string (bs ([])), .slice A 0 c, .int .i64 (s : Int)]), (3, .pointer (some ⟨g3, 0, none⟩)), (4, .slice none 0 0), (7, v), (8, .pointer (some ⟨g3, 1, none⟩)), (9, .string (bs n)), (10, .int .i64 (j : Int)), (6, .int .i64 (j : Int)), (11, .int .i64 (j : Int)), (12, .bool true), (13, u0), (14, v), (15, .int .i64 (j : Int)), (16, BP v (j * 2)), (17, BP v (j * 2 + 1)), (18, .slice x.A x.d.length x.c), (19, .slice A1 x.d.length c1), (5, .slice A1 x.d.length c1), (20, .pointer (some ⟨g3, 0, none⟩)), (21, .int .i64 1), (23, .bool false), (22, .bool false), (34, .bool true), (33, .bool true)]) ⟨rfl, rfl, rfl, rfl, rfl, rfl, rfl, rfl, rfl, rfl, rfl, rfl, rfl, rfl, rfl, rfl, rfl, rfl, rfl, rfl, rfl, rfl, rfl, rfl, rfl, trivial⟩ ?_
  refine Bv.mid [As 5 1 encB (.slice A1 (x.d.take s).length c1) (x.d.take s), cell g3 103 #[.int .i64 1, .string (bs n), .string (bs ([])), .slice A 0 c, .int .i64 (s : Int)], X, Y] (.refl _) ?_
  refine Aq ?_
  refine EF 1 rfl ?_
  refine BO 9 1 [⟨.quiet, [none], fun _ => v, []⟩, ⟨.quiet, [none], fun _ => .pointer (some ⟨g3, 1, none⟩), []⟩, ⟨.quiet, [none], fun _ => .string (bs n), [1]⟩, ⟨.quiet, [none], fun _ => .slice A1 x.d.length c1, []⟩, ⟨.quiet, [none], fun _ => .pointer (some ⟨g3, 4, none⟩), []⟩, ⟨.quiet, [none], fun _ => .int .i64 (s : Int), [4]⟩, ⟨.quiet, [none], fun _ => .slice A1 (x.d.take s).length c1, [3, 5]⟩, ⟨.quiet, [none], fun _ => .agg #[.string (bs n), .slice A1 (x.d.take s).length c1], [2, 6]⟩, ⟨.act 0, [some false], fun _ => undef, [0, 7]⟩] [(0, v), (3, .pointer (some ⟨g3, 0, none⟩)), (4, .slice none 0 0), (5, .slice A1 x.d.length c1)] (fun ρ => match ρ with | [r0] => [CD r0 (fun rv1 => Hf l n (x.d.take s) (.slice A1 (x.d.take s).length c1) rv1) (D1), As 5 1 encB (.slice A1 (x.d.take s).length c1) (x.d.take s), cell g3 103 #[.int .i64 1, .string (bs n), .string (bs ([])), .slice A 0 c, .int .i64 (s : Int)], X, Y] | _ => []) (by kernel_rfl) (by kernel_rfl) ⟨rfl, rfl, rfl, rfl, trivial⟩ rfl ?_ ?_
  · skip
    refine Ac (by intro r0_; exact ⟨rfl, fun b w hH hb => Af Ag rfl hb⟩) ?_
    refine Ac (by intro r0_; exact ⟨rfl, fun b w hH hb => Af Ag rfl hb⟩) ?_
    refine Ac (by intro r0_; exact ⟨rfl, fun b w hH hb => A6 rfl rfl (Bk Ba rfl) (hH.row 2 rfl) hb⟩) ?_
    refine Ac (by intro r0_; exact ⟨rfl, fun b w hH hb => Af Ag rfl hb⟩) ?_
    refine Ac (by intro r0_; exact ⟨rfl, fun b w hH hb => Af Ag rfl hb⟩) ?_
    refine Ac (by intro r0_; exact ⟨rfl, fun b w hH hb => A6 rfl rfl (Bk AR rfl) (hH.row 2 rfl) hb⟩) ?_
    refine Ac (by intro r0_; exact ⟨rfl, fun b w hH hb => IK (j := s) AJ hsub2 (by omega) rfl rfl rfl hH hb⟩) ?_
    refine Ac (by intro r0_; exact ⟨rfl, fun b w hH hb => Bg rfl rfl (by kernel_rfl) hb⟩) ?_
    refine Ac (by exact ⟨rfl, Bp.s (Al (os' := fun rv1 => [Hf l n (x.d.take s) (.slice A1 (x.d.take s).length c1) rv1, As 5 1 encB (.slice A1 (x.d.take s).length c1) (x.d.take s), cell g3 103 #[.int .i64 1, .string (bs n), .string (bs ([])), .slice A 0 c, .int .i64 (s : Int)], X, Y]) [3, 1, 0] 1 (Ah Tryz.func82 (by kernel_rfl) rfl) (MX hX hl) rfl rfl rfl (fun _ => rfl) rfl rfl rfl) (fun _ => rfl)⟩) ?_
    exact B2
  intro rv1
  refine Cg.keep (env' := [(0, v), (3, .pointer (some ⟨g3, 0, none⟩)), (4, .slice none 0 0), (43, rv1)]) ⟨rfl, rfl, rfl, rfl, trivial⟩ ?_
  refine Ae Ag rfl ?_
  refine AP (AE (Ay (Bw (CM ?_))))
  exact Av (.tmp rfl) (fun w h => (by obtain ⟨_, ⟨A3, c3, ez, _⟩, _⟩ := h.thing 0 rfl; exact AB (X := RDo) ⟨rv1, D0 l ⟨n, A3, c3, x.d.take s⟩, .slice A1 (x.d.take s).length c1, x.d.take s⟩ rfl [3, 4, 1, 0] rfl h (HU ez (by rw [ez]; exact RQ hs hg)))) rfl
theorem RT {X Y : Ass} {v : Value} {l : List RFl} {n : List UInt8} {A : Option Addr} {c : Nat} {m_ : List UInt8} (hX : Ff X v l) (hl : l.length ≤ 1000000) (hs : Ex l) {j : Nat} {x : RFl} (hj : l[j]? = some x) (hn : x.n = n) (hlt : ∀ (k : Nat) (y : RFl), k < j → l[k]? = some y → y.n ≠ n) (hg : AQ (FU l) n = some x.d) (hYx : CX Y x.v x.d) (hxd : x.d.length ≤ 1099511627776) : AU Tryz.prog 67 #[v, .agg #[.int .i64 2, .string (bs n), .string (bs m_), .slice A 0 c, .int .i64 0]] [X, Y] (fun (z : RDo) => z.rv) (fun (z : RDo) => [X, Y, As 5 1 encB z.bv z.bd, As 52 2 encRF z.rv z.rl, fact (Ev l (.ren n m_) z)]) := by
  refine Bd (args := [v, .agg #[.int .i64 2, .string (bs n), .string (bs m_), .slice A 0 c, .int .i64 0]]) 59 Tryz.func67 rfl rfl rfl ?_; intro w rs
  refine Ad ?_
  refine Ae Ag rfl ?_
  refine Aj (post := fun g3 => [cell g3 103 #[.int .i64 2, .string (bs n), .string (bs m_), .slice A 0 c, .int .i64 0], X, Y]) rfl (CC (cs := #[.int .i64 2, .string (bs n), .string (bs m_), .slice A 0 c, .int .i64 0]) rfl rfl rfl) ?_; rintro g3
  refine Ae Ag rfl ?_
  refine Aa (Ad ?_)
  refine Ae Ag rfl ?_
  refine Aa (Aq (Ad ?_))
  refine Ae Ag rfl ?_
  refine Ab rfl (.string (bs n)) (fun b w hb hH => A6 rfl rfl (Bk Ba rfl) (hH.row 0 rfl) hb) ?_
  refine Aj rfl (Al (os' := fun _ => [cell g3 103 #[.int .i64 2, .string (bs n), .string (bs m_), .slice A 0 c, .int .i64 0], X, Y]) [1] 0 (Ah Tryz.func61 (by kernel_rfl) rfl) (C7 hX hl hj hn hlt) rfl rfl rfl (fun _ => rfl) rfl rfl rfl) ?_; rintro ⟨⟩
  refine Ae Ag rfl ?_
  refine Aa (Ad ?_)
  refine Ae Ag rfl ?_
  refine Ab rfl (.bool true) (fun b w hb hH => AV rfl rfl rfl (B7 (by omega)) hb) ?_
  refine Aa (AC rfl (Br ?_))
  refine Ae Ag rfl ?_
  refine Aj (X := Value) (val := fun v : Value => v) (post := fun u0 => [As 5 1 encB u0 ([]), cell g3 103 #[.int .i64 2, .string (bs n), .string (bs m_), .slice A 0 c, .int .i64 0], X, Y]) rfl (by refine ET (e := 5) (t := 48) (k := 1) (enc := encB) ?_ ?_; exact AJ; exact rfl) ?_; rintro u0
  refine Ae Ag rfl ?_
  refine Ab rfl (BP v (j * 2)) (fun b w hb hH => BF BT ((hH.rdFs 2 rfl hX)) Az (j := j) hj rfl rfl rfl hb) ?_
  refine Ab rfl (BP v (j * 2 + 1)) (fun b w hb hH => IS BT (by decide) ((hH.rdFs 2 rfl hX)) (j := j) hj BC rfl rfl hb) ?_
  refine Ab rfl (.slice x.A x.d.length x.c) (fun b w hb hH => Bm BT (by decide) ((hH.rdFs 2 rfl hX)) (j := j) hj C3 (off := 1) rfl rfl rfl hb) ?_
  refine Aj (post := fun u1 => [As 5 1 encB u1 x.d, cell g3 103 #[.int .i64 2, .string (bs n), .string (bs m_), .slice A 0 c, .int .i64 0], X, Y]) rfl (Cz 0 AJ (by kernel_rfl) rfl (x.d) (fun w hH => (hH.rd8 3 rfl hYx).rd) (by simp only [List.length_nil]; omega) rfl rfl rfl (List.nil_append _)) ?_; rintro u1
  refine Ae Ag rfl ?_
  refine AP (AE (Aq (Ad ?_)))
  refine Ae Ag rfl ?_
  refine Ab rfl (.int .i64 2) (fun b w hb hH => A6 rfl rfl (Bk AR rfl) (hH.row 1 rfl) hb) ?_
  refine Aa (Bb (Ad ?_))
  refine Ae Ag rfl ?_
  refine Ab rfl (.bool false) (fun b w hb hH => AV rfl rfl rfl (Ge (by decide)) hb) ?_
  refine Ae Ag rfl ?_
  refine Aa (Ar rfl (Ad ?_))
  refine Ae Ag rfl ?_
  refine Ab rfl (.bool false) (fun b w hb hH => AV rfl rfl rfl (Ge (by decide)) hb) ?_
  refine Ae Ag rfl ?_
  refine Aa (Ar rfl (Ad ?_))
  refine Ae Ag rfl ?_
  refine Ab rfl (.bool true) (fun b w hb hH => AV rfl rfl rfl (H7 (by decide)) hb) ?_
  refine Ae Ag rfl ?_
  refine Aa (AC rfl (Aq ?_))
  refine EF 2 rfl ?_
  refine BO 9 2 [⟨.quiet, [none, none], fun _ => v, []⟩, ⟨.quiet, [none, none], fun _ => .pointer (some ⟨g3, 1, none⟩), []⟩, ⟨.quiet, [none, none], fun _ => .string (bs n), [1]⟩, ⟨.act 0, [some false, some false], fun _ => undef, [0, 2]⟩, ⟨.quiet, [none, none], fun _ => .pointer (some ⟨g3, 2, none⟩), []⟩, ⟨.quiet, [none, none], fun _ => .string (bs m_), [4]⟩, ⟨.quiet, [none, none], fun _ => u1, []⟩, ⟨.quiet, [none, none], fun _ => .agg #[.string (bs m_), u1], [5, 6]⟩, ⟨.act 1, [some true, some false], fun _ => undef, [3, 7]⟩] [(0, v), (3, .pointer (some ⟨g3, 0, none⟩)), (4, .slice none 0 0), (5, u1)] (fun ρ => match ρ with | [r0, r1] => [CD r1 (fun rv1 => Hf (DV l n) m_ x.d u1 rv1) (D1), CD r0 (fun mv => As 52 2 encRF mv (DV l n)) (D1), As 5 1 encB u1 x.d, cell g3 103 #[.int .i64 2, .string (bs n), .string (bs m_), .slice A 0 c, .int .i64 0], X, Y] | _ => []) (by kernel_rfl) (by kernel_rfl) ⟨rfl, rfl, rfl, rfl, trivial⟩ rfl ?_ ?_
  · skip
    refine Ac (by intro r0_ r1_; exact ⟨rfl, fun b w hH hb => Af Ag rfl hb⟩) ?_
    refine Ac (by intro r0_ r1_; exact ⟨rfl, fun b w hH hb => Af Ag rfl hb⟩) ?_
    refine Ac (by intro r0_ r1_; exact ⟨rfl, fun b w hH hb => A6 rfl rfl (Bk Ba rfl) (hH.row 3 rfl) hb⟩) ?_
    refine Ac (by exact ⟨rfl, Bp.s (Al (os' := fun mv => [D1, As 52 2 encRF mv (DV l n), As 5 1 encB u1 x.d, cell g3 103 #[.int .i64 2, .string (bs n), .string (bs m_), .slice A 0 c, .int .i64 0], X, Y]) [4, 1] 1 (Ah Tryz.func83 (by kernel_rfl) rfl) (Ji hX hl rfl) rfl rfl rfl (fun _ => rfl) rfl rfl rfl) (fun _ => rfl)⟩) ?_
    refine Ac (by intro r0_ r1_; exact ⟨rfl, fun b w hH hb => Af Ag rfl hb⟩) ?_
    refine Ac (by intro r0_ r1_; exact ⟨rfl, fun b w hH hb => A6 rfl rfl (Bk Ba rfl) (hH.row 3 rfl) hb⟩) ?_
    refine Ac (by intro r0_ r1_; exact ⟨rfl, fun b w hH hb => Af Ag rfl hb⟩) ?_
    refine Ac (by intro r0_ r1_; exact ⟨rfl, fun b w hH hb => (by obtain ⟨_, h1_, _⟩ := hH.thing 2 rfl; obtain ⟨A2, c2, e2⟩ := As.is h1_; subst e2; exact Bg rfl rfl rfl hb)⟩) ?_
    refine Ac (by intro mv; exact ⟨rfl, Bp.s (Al (os' := fun rv1 => [Hf (DV l n) m_ x.d u1 rv1, As 52 2 encRF mv (DV l n), As 5 1 encB u1 x.d, cell g3 103 #[.int .i64 2, .string (bs n), .string (bs m_), .slice A 0 c, .int .i64 0], X, Y]) [1, 2, 0] 1 (Ah Tryz.func82 (by kernel_rfl) rfl) (MX CT (Nat.le_trans (List.length_filter_le ..) hl)) rfl rfl rfl (fun _ => rfl) rfl rfl rfl) (fun _ => rfl)⟩) ?_
    exact B2
  intro mv rv1
  refine Cg.keep (env' := [(0, v), (3, .pointer (some ⟨g3, 0, none⟩)), (4, .slice none 0 0), (54, rv1)]) ⟨rfl, rfl, rfl, rfl, trivial⟩ ?_
  refine Ae Ag rfl ?_
  refine AP (AE (Ay (Bw (CM ?_))))
  exact Av (.tmp rfl) (fun w h => (by obtain ⟨_, ⟨A3, c3, ez, _⟩, _⟩ := h.thing 0 rfl; exact AB (X := RDo) ⟨rv1, D0 (DV l n) ⟨m_, A3, c3, x.d⟩, u1, x.d⟩ rfl [4, 5, 2, 0] rfl h (HU ez (by rw [ez]; exact RR hs hg)))) rfl
theorem PK {X Y : Ass} {v : Value} {l : List RFl} {n : List UInt8} {A : Option Addr} {c : Nat} (hX : Ff X v l) (hl : l.length ≤ 1000000) (hs : Ex l) {j : Nat} {x : RFl} (hj : l[j]? = some x) (hn : x.n = n) (hlt : ∀ (k : Nat) (y : RFl), k < j → l[k]? = some y → y.n ≠ n) (hg : AQ (FU l) n = some x.d) (hYx : CX Y x.v x.d) (hxd : x.d.length ≤ 1099511627776) : AU Tryz.prog 67 #[v, .agg #[.int .i64 3, .string (bs n), .string (bs ([])), .slice A 0 c, .int .i64 0]] [X, Y] (fun (z : RDo) => z.rv) (fun (z : RDo) => [X, Y, As 5 1 encB z.bv z.bd, As 52 2 encRF z.rv z.rl, fact (Ev l (.del n) z)]) := by
 refine Bd (args := [v, .agg #[.int .i64 3, .string (bs n), .string (bs ([])), .slice A 0 c, .int .i64 0]]) 59 Tryz.func67 rfl rfl rfl ?_; intro w rs
 refine Ad ?_
 refine Ae Ag rfl ?_
 refine Aj (post := fun g3 => [cell g3 103 #[.int .i64 3, .string (bs n), .string (bs ([])), .slice A 0 c, .int .i64 0], X, Y]) rfl (CC (cs := #[.int .i64 3, .string (bs n), .string (bs ([])), .slice A 0 c, .int .i64 0]) rfl rfl rfl) ?_; rintro g3
 refine Ae Ag rfl ?_
 refine Aa (Ad ?_)
 refine Ae Ag rfl ?_
 refine Aa (Aq (Ad ?_))
 refine Ae Ag rfl ?_
 refine Ab rfl (.string (bs n)) (fun b w hb hH => A6 rfl rfl (Bk Ba rfl) (hH.row 0 rfl) hb) ?_
 refine Aj rfl (Al (os' := fun _ => [cell g3 103 #[.int .i64 3, .string (bs n), .string (bs ([])), .slice A 0 c, .int .i64 0], X, Y]) [1] 0 (Ah Tryz.func61 (by kernel_rfl) rfl) (C7 hX hl hj hn hlt) rfl rfl rfl (fun _ => rfl) rfl rfl rfl) ?_; rintro ⟨⟩
 refine Ae Ag rfl ?_
 refine Aa (Ad ?_)
 refine Ae Ag rfl ?_
 refine Ab rfl (.bool true) (fun b w hb hH => AV rfl rfl rfl (B7 (by omega)) hb) ?_
 refine Aa (AC rfl (Br ?_))
 refine Ae Ag rfl ?_
 refine Aj (X := Value) (val := fun v : Value => v) (post := fun u0 => [As 5 1 encB u0 ([]), cell g3 103 #[.int .i64 3, .string (bs n), .string (bs ([])), .slice A 0 c, .int .i64 0], X, Y]) rfl (by refine ET (e := 5) (t := 48) (k := 1) (enc := encB) ?_ ?_; exact AJ; exact rfl) ?_; rintro u0
 refine Ae Ag rfl ?_
 refine Ab rfl (BP v (j * 2)) (fun b w hb hH => BF BT ((hH.rdFs 2 rfl hX)) Az (j := j) hj rfl rfl rfl hb) ?_
 refine Ab rfl (BP v (j * 2 + 1)) (fun b w hb hH => IS BT (by decide) ((hH.rdFs 2 rfl hX)) (j := j) hj BC rfl rfl hb) ?_
 refine Ab rfl (.slice x.A x.d.length x.c) (fun b w hb hH => Bm BT (by decide) ((hH.rdFs 2 rfl hX)) (j := j) hj C3 (off := 1) rfl rfl rfl hb) ?_
 refine Aj (post := fun u1 => [As 5 1 encB u1 x.d, cell g3 103 #[.int .i64 3, .string (bs n), .string (bs ([])), .slice A 0 c, .int .i64 0], X, Y]) rfl (Cz 0 AJ (by kernel_rfl) rfl (x.d) (fun w hH => (hH.rd8 3 rfl hYx).rd) (by simp only [List.length_nil]; omega) rfl rfl rfl (List.nil_append _)) ?_; rintro u1
 refine Ae Ag rfl ?_
 refine AP (AE (Aq (Ad ?_)))
 refine Ae Ag rfl ?_
 refine Ab rfl (.int .i64 3) (fun b w hb hH => A6 rfl rfl (Bk AR rfl) (hH.row 1 rfl) hb) ?_
 refine Aa (Bb (Ad ?_))
 refine Ae Ag rfl ?_
 refine Ab rfl (.bool false) (fun b w hb hH => AV rfl rfl rfl (Ge (by decide)) hb) ?_
 refine Ae Ag rfl ?_
 refine Aa (Ar rfl (Ad ?_))
 refine Ae Ag rfl ?_
 refine Ab rfl (.bool false) (fun b w hb hH => AV rfl rfl rfl (Ge (by decide)) hb) ?_
 refine Ae Ag rfl ?_
 refine Aa (Ar rfl (Ad ?_))
 refine Ae Ag rfl ?_
 refine Ab rfl (.bool false) (fun b w hb hH => AV rfl rfl rfl (Ge (by decide)) hb) ?_
 refine Ae Ag rfl ?_
 refine Aa (Ar rfl (Ax (Bt (AE ?_))))
 refine B4 5 1 encB ?_
 refine Ad ?_
 refine Ae Ag rfl ?_
 refine Ab rfl (.string (bs n)) (fun b w hb hH => A6 rfl rfl (Bk Ba rfl) (hH.row 2 rfl) hb) ?_
 refine Aj rfl (Al (os' := fun mv => [As 52 2 encRF mv (DV l n), As 5 1 encB (.slice none 0 0) ([]), As 5 1 encB u1 x.d, cell g3 103 #[.int .i64 3, .string (bs n), .string (bs ([])), .slice A 0 c, .int .i64 0], X, Y]) [3] 0 (Ah Tryz.func83 (by kernel_rfl) rfl) (Ji hX hl rfl) rfl rfl rfl (fun _ => rfl) rfl rfl rfl) ?_; rintro mv
 refine Ae Ag rfl ?_
 refine Aa (Ay ?_)
 exact Av (.tmp rfl) (fun w h => AB (X := RDo) ⟨mv, DV l n, .slice none 0 0, []⟩ rfl [4, 5, 1, 0] rfl h (fun q hq => ⟨q, .refl _, Eo (xs := [_, _, _, _]) (Mi hs) hq⟩)) rfl
theorem PL {X Y : Ass} {v : Value} {l : List RFl} {n : List UInt8} {A : Option Addr} {c : Nat} (hX : Ff X v l) (hl : l.length ≤ 1000000) (hs : Ex l) (hn : ∀ x : RFl, x ∈ l → x.n ≠ n) (hg : AQ (FU l) n = none) : AU Tryz.prog 67 #[v, .agg #[.int .i64 3, .string (bs n), .string (bs ([])), .slice A 0 c, .int .i64 0]] [X, Y] (fun (z : RDo) => z.rv) (fun (z : RDo) => [X, Y, As 5 1 encB z.bv z.bd, As 52 2 encRF z.rv z.rl, fact (Ev l (.del n) z)]) := by
 refine Bd (args := [v, .agg #[.int .i64 3, .string (bs n), .string (bs ([])), .slice A 0 c, .int .i64 0]]) 59 Tryz.func67 rfl rfl rfl ?_; intro w rs
 refine Ad ?_
 refine Ae Ag rfl ?_
 refine Aj (post := fun g3 => [cell g3 103 #[.int .i64 3, .string (bs n), .string (bs ([])), .slice A 0 c, .int .i64 0], X, Y]) rfl (CC (cs := #[.int .i64 3, .string (bs n), .string (bs ([])), .slice A 0 c, .int .i64 0]) rfl rfl rfl) ?_; rintro g3
 refine Ae Ag rfl ?_
 refine Aa (Ad ?_)
 refine Ae Ag rfl ?_
 refine Aa (Aq (Ad ?_))
 refine Ae Ag rfl ?_
 refine Ab rfl (.string (bs n)) (fun b w hb hH => A6 rfl rfl (Bk Ba rfl) (hH.row 0 rfl) hb) ?_
 refine Aj rfl (Al (os' := fun _ => [cell g3 103 #[.int .i64 3, .string (bs n), .string (bs ([])), .slice A 0 c, .int .i64 0], X, Y]) [1] 0 (Ah Tryz.func61 (by kernel_rfl) rfl) (Dn hX hl hn) rfl rfl rfl (fun _ => rfl) rfl rfl rfl) ?_; rintro ⟨⟩
 refine Ae Ag rfl ?_
 refine Aa (Ad ?_)
 refine Ae Ag rfl ?_
 refine Ab rfl (.bool false) (fun b w hb hH => AV rfl rfl rfl (De (by omega)) hb) ?_
 refine Aa (Ar rfl (Ax (AE (Aq (Ad ?_)))))
 refine Ae Ag rfl ?_
 refine Ab rfl (.int .i64 3) (fun b w hb hH => A6 rfl rfl (Bk AR rfl) (hH.row 0 rfl) hb) ?_
 refine Aa (Bb (Ad ?_))
 refine Ae Ag rfl ?_
 refine Ab rfl (.bool false) (fun b w hb hH => AV rfl rfl rfl (Ge (by decide)) hb) ?_
 refine Ae Ag rfl ?_
 refine Aa (Ar rfl (Ad ?_))
 refine Ae Ag rfl ?_
 refine Ab rfl (.bool false) (fun b w hb hH => AV rfl rfl rfl (Ge (by decide)) hb) ?_
 refine Ae Ag rfl ?_
 refine Aa (Ar rfl (Ad ?_))
 refine Ae Ag rfl ?_
 refine Ab rfl (.bool false) (fun b w hb hH => AV rfl rfl rfl (Ge (by decide)) hb) ?_
 refine Ae Ag rfl ?_
 refine Aa (Ar rfl (Ax (Bt (AE ?_))))
 refine B4 5 1 encB ?_
 refine Ad ?_
 refine Ae Ag rfl ?_
 refine Ab rfl (.string (bs n)) (fun b w hb hH => A6 rfl rfl (Bk Ba rfl) (hH.row 1 rfl) hb) ?_
 refine Aj rfl (Al (os' := fun mv => [As 52 2 encRF mv (DV l n), As 5 1 encB (.slice none 0 0) ([]), cell g3 103 #[.int .i64 3, .string (bs n), .string (bs ([])), .slice A 0 c, .int .i64 0], X, Y]) [2] 0 (Ah Tryz.func83 (by kernel_rfl) rfl) (Ji hX hl rfl) rfl rfl rfl (fun _ => rfl) rfl rfl rfl) ?_; rintro mv
 refine Ae Ag rfl ?_
 refine Aa (Ay ?_)
 exact Av (.tmp rfl) (fun w h => AB (X := RDo) ⟨mv, DV l n, .slice none 0 0, []⟩ rfl [3, 4, 1, 0] rfl h (fun q hq => ⟨q, .refl _, Eo (xs := [_, _, _, _]) (Mi hs) hq⟩)) rfl
theorem RU {X Y : Ass} {v : Value} {l : List RFl} {x : OpV} (hX : Ff X v l) (hl : l.length ≤ 1000000) (hs : Ex l) (ho : LB (FU l) x.o) (hY : ∀ y : RFl, y ∈ l → CX Y y.v y.d ∧ y.d.length ≤ 1099511627776) (hO : CX Y x.v x.o.data) (hbl : x.o.data.length ≤ 1099511627776) : AU Tryz.prog 67 #[v, .agg (encRO x).toArray] [X, Y] (fun z : RDo => z.rv) (fun z => [X, Y, As 5 1 encB z.bv z.bd, As 52 2 encRF z.rv z.rl, fact (Ev l x.o z)]) := by
  obtain ⟨o, A, c⟩ := x
  cases o with
  | app n b =>
    rcases Ha hs n with ⟨j, y, hj, hn, hlt, hg⟩ | ⟨hn, hg⟩
    · have := hY y (List.mem_of_getElem? hj)
      exact PI hX hl hs hj hn hlt hg this.1 this.2 hO hbl
    · exact PJ hX hl hs hn hg hO hbl
  | cut n s =>
    obtain ⟨q, h1, h2⟩ := ho
    rcases Ha hs n with ⟨j, y, hj, hn, hlt, hg⟩ | ⟨hn, hg⟩
    · have := hY y (List.mem_of_getElem? hj)
      rw [hg] at h1
      cases h1
      exact RS hX hl hs hj hn hlt hg this.1 this.2 h2
    · rw [hg] at h1; cases h1
  | ren n m =>
    obtain ⟨⟨q, h1⟩, _⟩ := ho
    rcases Ha hs n with ⟨j, y, hj, hn, hlt, hg⟩ | ⟨hn, hg⟩
    · have := hY y (List.mem_of_getElem? hj)
      exact RT hX hl hs hj hn hlt hg this.1 this.2
    · rw [hg] at h1; cases h1
  | del n =>
    rcases Ha hs n with ⟨j, y, hj, hn, hlt, hg⟩ | ⟨hn, hg⟩
    · have := hY y (List.mem_of_getElem? hj)
      exact PK hX hl hs hj hn hlt hg this.1 this.2
    · exact PL hX hl hs hn hg
end Go.Proofs.YtnknboibmifacaaGreat.Sep
