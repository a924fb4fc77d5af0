/-
  RdkB
-/
import Derived.Test.YtnknboibmifacaaGreatYB02
import Derived.Test.YtnknboibmifacaaGreatYM01
set_option linter.unusedSimpArgs false
set_option linter.unusedVariables false
set_option maxRecDepth 100000
namespace Go.Proofs.YtnknboibmifacaaGreat.Sep
open Go.RowKit
open Go.Proofs.YtnknboibmifacaaGreat.Mem (Bd Cj Chg AF)
def encRO (x : OpV) : List Value := [.int .i64 x.o.kind, .string (bs x.o.name), .string (bs x.o.to), x.v, .int .i64 (x.o.cutS : Int)]
theorem Tn : EncOf 5 encRO := ⟨fun _ => rfl, fun x v h => by unfold encRO OpV.v at h; simp at h; rcases h with rfl | rfl | rfl | rfl | rfl <;> rfl⟩
structure RDo where
  rv : Value
  rl : List RFl
  bv : Value
  bd : List UInt8
def Ek (l : List RFl) (o : OpD) (z : RDo) : Prop := Ei z.rl ∧ (∀ g, (FO l).Perm g → (FO z.rl).Perm (AW g o)) ∧ ∀ x, x ∈ z.rl → x ∈ l ∨ (x.v = z.bv ∧ x.d = z.bd)
theorem K8 {l m : List RFl} {o : OpD} {f : RFl} {rv : Value} (hm : Ei m) (hsub : ∀ x, x ∈ m → x ∈ l) (h : ∀ g, (FO l).Perm g → ∃ g', (FO m).Perm g' ∧ AW g o = Bz g' f.n f.d) : Ek l o ⟨rv, DO m f, f.v, f.d⟩ := by
  refine ⟨NZ hm, fun g hg => ?_, fun x hx => ?_⟩
  · obtain ⟨g', h1, h2⟩ := h g hg
    rw [h2]; exact Uv hm h1
  · rcases IT.1 hx with rfl | hx
    · exact .inr ⟨rfl, rfl⟩
    · exact .inl (hsub x (F9.1 hx).1)
theorem K9 {l : List RFl} {g : FS} {n : List UInt8} {r : Option (List UInt8)} (hs : Ei l) (h : (FO l).Perm g) (hr : AL (FO l) n = r) : AL g n = r := by rw [← D9 h (DB hs)]; exact hr
theorem LV {l : List RFl} {n b x : List UInt8} {A : Option Addr} {c : Nat} {rv : Value} (hs : Ei l) (hg : (AL (FO l) n).getD [] = x) : Ek l (.app n b) ⟨rv, DO l ⟨n, A, c, x ++ b⟩, .slice A (x ++ b).length c, x ++ b⟩ :=
 K8 (f := ⟨n, A, c, x ++ b⟩) hs (fun _ h => h) fun g h => ⟨g, h, by show Bz g n ((AL g n).getD [] ++ b) = _; rw [K9 hs h rfl, hg]⟩
theorem Ry {l : List RFl} {n x : List UInt8} {s : Nat} {A : Option Addr} {c : Nat} {rv : Value} (hs : Ei l) (hg : AL (FO l) n = some x) : Ek l (.cut n s) ⟨rv, DO l ⟨n, A, c, x.take s⟩, .slice A (x.take s).length c, x.take s⟩ :=
  K8 (f := ⟨n, A, c, x.take s⟩) hs (fun _ h => h) fun g h => ⟨g, h, by show (match AL g n with | some x => Bz g n (x.take s) | none => g) = _; rw [K9 hs h hg]⟩
theorem Rz {l : List RFl} {n m x : List UInt8} {A : Option Addr} {c : Nat} {rv : Value} (hs : Ei l) (hg : AL (FO l) n = some x) : Ek l (.ren n m) ⟨rv, DO (DH l n) ⟨m, A, c, x⟩, .slice A x.length c, x⟩ :=
  K8 (f := ⟨m, A, c, x⟩) (J9 hs) (fun _ h => (F9.1 h).1) fun g h => ⟨BS g n, Tl hs h, by show (match AL g n with | some x => Bz (BS g n) m x | none => g) = _; rw [K9 hs h hg]⟩
theorem LW {l : List RFl} {n : List UInt8} {rv : Value} (hs : Ei l) : Ek l (.del n) ⟨rv, DH l n, .slice none 0 0, []⟩ := ⟨J9 hs, fun _ h => Tl hs h, fun _ h => .inl (F9.1 h).1⟩
theorem Pt {e : TypeId} {A : Option Addr} {c : Nat} {l : List UInt8} {k : Nat} (hk : k ≤ l.length) : ∀ rs, Al [Ao e 1 encB (.slice A l.length c) l] rs → Ao e 1 encB (.slice A (l.take k).length c) (l.take k) rs := fun rs h => by
 have h1 := KN hk rs h
 rw [JY] at h1
 rw [show (l.take k).length = k by rw [List.length_take]; omega]
 exact h1
theorem Hm {X Y : Ass} {l l' : List RFl} {o : OpD} {n d : List UInt8} {fv rv : Value} {A : Option Addr} {c : Nat} (e : fv = .slice A d.length c) (h : Ek l o ⟨rv, DO l' ⟨n, A, c, d⟩, fv, d⟩) : ∀ rs, Al [X, Y, Ao 5 1 encB fv d, GV l' n d fv rv] rs → ∃ z, rs.Perm z ∧ Al [X, Y, Ao 5 1 encB fv d, Ao 52 2 encRF rv (DO l' ⟨n, A, c, d⟩), fact (Ek l o ⟨rv, DO l' ⟨n, A, c, d⟩, fv, d⟩)] z := fun rs hr => by
 obtain ⟨a, _, rfl, h1, b, _, rfl, h2, p, _, rfl, h3, q, _, rfl, ⟨A2, c2, e2, h4⟩, rfl⟩ := hr
 rw [e] at e2
 simp only [Value.slice.injEq] at e2
 obtain ⟨rfl, _, rfl⟩ := e2
 exact ⟨_, .refl _, a, _, rfl, h1, b, _, rfl, h2, p, _, rfl, h3, q, _, rfl, h4, [], _, rfl, ⟨rfl, h⟩, rfl⟩
theorem IV {e : TypeId} {A : Option Addr} {c n : Nat} {l : List UInt8} : ∀ rs, Ao e 1 encB (.slice A n c) l rs → l.length ≤ c := fun rs h => by
  rcases h with ⟨h1, h2, _⟩ | ⟨g, cap, cs, h1, h2, _⟩
  · rw [h2]; exact Nat.zero_le _
  · simp only [Value.slice.injEq] at h1; omega
theorem Pu {X Y : Ass} {v : Value} {l : List RFl} {n : List UInt8} {A : Option Addr} {c : Nat} {b : List UInt8} (hX : Fh X v l) (hl : l.length ≤ 1000000) (hs : Ei l) {j : Nat} {x : RFl} (hj : l[j]? = some x) (hn : x.n = n) (hlt : ∀ (k : Nat) (y : RFl), k < j → l[k]? = some y → y.n ≠ n) (hg : AL (FO l) n = some x.d) (hYx : Cw Y x.v x.d) (hxd : x.d.length ≤ 1099511627776) (hO : Cw Y (.slice A b.length c) b) (hbl : b.length ≤ 1099511627776) : AS Tryz.prog 67 #[v, .agg #[.int .i64 0, .string (bs n), .string (bs ([])), .slice A b.length c, .int .i64 0]] [X, Y] (fun (z : RDo) => z.rv) (fun (z : RDo) => [X, Y, Ao 5 1 encB z.bv z.bd, Ao 52 2 encRF z.rv z.rl, fact (Ek l (.app n b) z)]) := by
  refine A6 (args := [v, .agg #[.int .i64 0, .string (bs n), .string (bs ([])), .slice A b.length c, .int .i64 0]]) 59 Tryz.func67 rfl rfl rfl ?_; intro w rs
  refine Ad ?_
  refine Af Ag rfl ?_
  refine Ai (post := fun g3 => [cell g3 103 #[.int .i64 0, .string (bs n), .string (bs ([])), .slice A b.length c, .int .i64 0], X, Y]) rfl (CZ (cs := #[.int .i64 0, .string (bs n), .string (bs ([])), .slice A b.length c, .int .i64 0]) rfl rfl rfl) ?_; rintro g3
  refine Af Ag rfl ?_
  refine Ab (Ad ?_)
  refine Af Ag rfl ?_
  refine Ab (Aq (Ad ?_))
  refine Af Ag rfl ?_
  refine Ac rfl (.string (bs n)) (fun b w hb hH => Bg rfl rfl (Bt AR rfl) (hH.row 0 rfl) hb) ?_
  refine Ai rfl (Am (os' := fun _ => [cell g3 103 #[.int .i64 0, .string (bs n), .string (bs ([])), .slice A b.length c, .int .i64 0], X, Y]) [1] 0 (Ah Tryz.func61 (by kernel_rfl) rfl) (C6 hX hl hj hn hlt) rfl rfl rfl (fun _ => rfl) rfl rfl rfl) ?_; rintro ⟨⟩
  refine Af Ag rfl ?_
  refine Ab (Ad ?_)
  refine Af Ag rfl ?_
  refine Ac rfl (.bool true) (fun b w hb hH => Bh rfl rfl rfl (Cs (by omega)) hb) ?_
  refine Ab (AD rfl (BI ?_))
  refine Af Ag rfl ?_
  refine Ai (X := Value) (val := fun v : Value => v) (post := fun u0 => [Ao 5 1 encB u0 ([]), cell g3 103 #[.int .i64 0, .string (bs n), .string (bs ([])), .slice A b.length c, .int .i64 0], X, Y]) rfl (by refine D7 (e := 5) (t := 48) (k := 1) (enc := encB) ?_ ?_; exact AC; exact rfl) ?_; rintro u0
  refine Af Ag rfl ?_
  refine Ac rfl (Cc v (j * 2)) (fun b w hb hH => BA BH ((hH.rdFs 2 rfl hX)) Ar (j := j) hj rfl rfl rfl hb) ?_
  refine Ac rfl (Cc v (j * 2 + 1)) (fun b w hb hH => Lf BH (by decide) ((hH.rdFs 2 rfl hX)) (j := j) hj Bw rfl rfl hb) ?_
  refine Ac rfl (.slice x.A x.d.length x.c) (fun b w hb hH => Bp BH (by decide) ((hH.rdFs 2 rfl hX)) (j := j) hj C3 (off := 1) rfl rfl rfl hb) ?_
  refine Ai (post := fun u1 => [Ao 5 1 encB u1 x.d, cell g3 103 #[.int .i64 0, .string (bs n), .string (bs ([])), .slice A b.length c, .int .i64 0], X, Y]) rfl (Ca 0 AC (by kernel_rfl) rfl (x.d) (fun w hH => (hH.rd8 3 rfl hYx).rd) (by simp only [List.length_nil]; omega) rfl rfl rfl (List.nil_append _)) ?_; rintro u1
  refine Af Ag rfl ?_
  refine AP (AG (Aq (Ad ?_)))
  refine Af Ag rfl ?_
  refine Ac rfl (.int .i64 0) (fun b w hb hH => Bg rfl rfl (Bt Bj rfl) (hH.row 1 rfl) hb) ?_
  refine Ab (AX (Ad ?_))
  refine Af Ag rfl ?_
  refine Ac rfl (.bool true) (fun b w hb hH => Bh rfl rfl rfl (Ks (by decide)) hb) ?_
  refine Af Ag rfl ?_
  refine Ab (AD rfl (Aq ?_))
  refine EL 1 rfl ?_
  refine BM 9 2 [⟨.quiet, [none, none], fun _ => v, []⟩, ⟨.quiet, [none, none], fun _ => .pointer (some ⟨g3, 1, none⟩), []⟩, ⟨.quiet, [none, none], fun _ => .string (bs n), [1]⟩, ⟨.quiet, [none, none], fun _ => u1, []⟩, ⟨.quiet, [none, none], fun _ => .pointer (some ⟨g3, 3, none⟩), []⟩, ⟨.quiet, [none, none], fun _ => .slice A b.length c, [4]⟩, ⟨.act 0, [some false, some false], fun _ => undef, [3, 5]⟩, ⟨.quiet, [some true, none], fun ρ => match ρ with | [some u2, _] => .agg #[.string (bs n), u2] | _ => undef, [2, 6]⟩, ⟨.act 1, [some true, some false], fun _ => undef, [0, 7]⟩] [(0, v), (3, .pointer (some ⟨g3, 0, none⟩)), (4, .slice none 0 0), (5, u1)] (fun ρ => match ρ with | [r0, r1] => [CP r1 (fun rv1 => CP r0 (fun u2 => GV l n (x.d ++ b) u2 rv1) (E0)) (E0), CP r0 (fun u2 => Ao 5 1 encB u2 (x.d ++ b)) (Ao 5 1 encB u1 x.d), cell g3 103 #[.int .i64 0, .string (bs n), .string (bs ([])), .slice A b.length c, .int .i64 0], X, Y] | _ => []) (by kernel_rfl) (by kernel_rfl) ⟨rfl, rfl, rfl, rfl, trivial⟩ rfl ?_ ?_
  · skip
    refine Aa (by intro r0_ r1_; exact ⟨rfl, fun b w hH hb => Ae Ag rfl hb⟩) ?_
    refine Aa (by intro r0_ r1_; exact ⟨rfl, fun b w hH hb => Ae Ag rfl hb⟩) ?_
    refine Aa (by intro r0_ r1_; exact ⟨rfl, fun b w hH hb => Bg rfl rfl (Bt AR rfl) (hH.row 2 rfl) hb⟩) ?_
    refine Aa (by intro r0_ r1_; exact ⟨rfl, fun b w hH hb => Ae Ag rfl hb⟩) ?_
    refine Aa (by intro r0_ r1_; exact ⟨rfl, fun b w hH hb => Ae Ag rfl hb⟩) ?_
    refine Aa (by intro r0_ r1_; exact ⟨rfl, fun b w hH hb => Bg rfl rfl (Bt C3 rfl) (hH.row 2 rfl) hb⟩) ?_
    refine Aa (by exact ⟨rfl, Br.s (Ca 1 AC (by kernel_rfl) rfl (b) (fun w hH => (hH.rd8 4 rfl hO).rd) (by omega) rfl rfl rfl rfl) (fun _ => rfl)⟩) ?_
    refine Aa (by intro u2 r1_; exact ⟨rfl, fun b w hH hb => (by obtain ⟨_, h1_, _⟩ := hH.thing 1 rfl; obtain ⟨A2, c2, e2⟩ := Ao.is h1_; subst e2; exact AV rfl rfl rfl hb)⟩) ?_
    refine Aa (by intro u2; exact ⟨rfl, Br.s (Am (os' := fun rv1 => [GV l n (x.d ++ b) u2 rv1, Ao 5 1 encB u2 (x.d ++ b), cell g3 103 #[.int .i64 0, .string (bs n), .string (bs ([])), .slice A b.length c, .int .i64 0], X, Y]) [3, 1, 0] 1 (Ah Tryz.func82 (by kernel_rfl) rfl) (MK hX hl) rfl rfl rfl (fun _ => rfl) rfl rfl rfl) (fun _ => rfl)⟩) ?_
    exact B7
  intro u2 rv1
  refine Ch.keep (env' := [(0, v), (3, .pointer (some ⟨g3, 0, none⟩)), (4, .slice none 0 0), (32, rv1)]) ⟨rfl, rfl, rfl, rfl, trivial⟩ ?_
  refine Af Ag rfl ?_
  refine AP (AG (Az (Bm (CO ?_))))
  exact Ay (.tmp rfl) (fun w h => (by obtain ⟨_, ⟨A3, c3, ez, _⟩, _⟩ := h.thing 0 rfl; exact AB (X := RDo) ⟨rv1, DO l ⟨n, A3, c3, x.d ++ b⟩, u2, x.d ++ b⟩ rfl [3, 4, 1, 0] rfl h (Hm ez (by rw [ez]; exact LV hs (by rw [hg]; rfl))))) rfl
theorem Pv {X Y : Ass} {v : Value} {l : List RFl} {n : List UInt8} {A : Option Addr} {c : Nat} {b : List UInt8} (hX : Fh X v l) (hl : l.length ≤ 1000000) (hs : Ei l) (hn : ∀ x : RFl, x ∈ l → x.n ≠ n) (hg : AL (FO l) n = none) (hO : Cw Y (.slice A b.length c) b) (hbl : b.length ≤ 1099511627776) : AS Tryz.prog 67 #[v, .agg #[.int .i64 0, .string (bs n), .string (bs ([])), .slice A b.length c, .int .i64 0]] [X, Y] (fun (z : RDo) => z.rv) (fun (z : RDo) => [X, Y, Ao 5 1 encB z.bv z.bd, Ao 52 2 encRF z.rv z.rl, fact (Ek l (.app n b) z)]) := by
  refine A6 (args := [v, .agg #[.int .i64 0, .string (bs n), .string (bs ([])), .slice A b.length c, .int .i64 0]]) 59 Tryz.func67 rfl rfl rfl ?_; intro w rs
  refine Ad ?_
  refine Af Ag rfl ?_
  refine Ai (post := fun g3 => [cell g3 103 #[.int .i64 0, .string (bs n), .string (bs ([])), .slice A b.length c, .int .i64 0], X, Y]) rfl (CZ (cs := #[.int .i64 0, .string (bs n), .string (bs ([])), .slice A b.length c, .int .i64 0]) rfl rfl rfl) ?_; rintro g3
  refine Af Ag rfl ?_
  refine Ab (Ad ?_)
  refine Af Ag rfl ?_
  refine Ab (Aq (Ad ?_))
  refine Af Ag rfl ?_
  refine Ac rfl (.string (bs n)) (fun b w hb hH => Bg rfl rfl (Bt AR rfl) (hH.row 0 rfl) hb) ?_
  refine Ai rfl (Am (os' := fun _ => [cell g3 103 #[.int .i64 0, .string (bs n), .string (bs ([])), .slice A b.length c, .int .i64 0], X, Y]) [1] 0 (Ah Tryz.func61 (by kernel_rfl) rfl) (Dw hX hl hn) rfl rfl rfl (fun _ => rfl) rfl rfl rfl) ?_; rintro ⟨⟩
  refine Af Ag rfl ?_
  refine Ab (Ad ?_)
  refine Af Ag rfl ?_
  refine Ac rfl (.bool false) (fun b w hb hH => Bh rfl rfl rfl (DX (by omega)) hb) ?_
  refine Ab (Au rfl (Ax (AG (Aq (Ad ?_)))))
  refine Af Ag rfl ?_
  refine Ac rfl (.int .i64 0) (fun b w hb hH => Bg rfl rfl (Bt Bj rfl) (hH.row 0 rfl) hb) ?_
  refine Ab (AX (Ad ?_))
  refine Af Ag rfl ?_
  refine Ac rfl (.bool true) (fun b w hb hH => Bh rfl rfl rfl (Ks (by decide)) hb) ?_
  refine Af Ag rfl ?_
  refine Ab (AD rfl ?_)
  refine BZ 5 1 encB ?_
  refine Aq ?_
  refine EL 1 rfl ?_
  refine BM 9 2 [⟨.quiet, [none, none], fun _ => v, []⟩, ⟨.quiet, [none, none], fun _ => .pointer (some ⟨g3, 1, none⟩), []⟩, ⟨.quiet, [none, none], fun _ => .string (bs n), [1]⟩, ⟨.quiet, [none, none], fun _ => .slice none 0 0, []⟩, ⟨.quiet, [none, none], fun _ => .pointer (some ⟨g3, 3, none⟩), []⟩, ⟨.quiet, [none, none], fun _ => .slice A b.length c, [4]⟩, ⟨.act 0, [some false, some false], fun _ => undef, [3, 5]⟩, ⟨.quiet, [some true, none], fun ρ => match ρ with | [some u2, _] => .agg #[.string (bs n), u2] | _ => undef, [2, 6]⟩, ⟨.act 1, [some true, some false], fun _ => undef, [0, 7]⟩] [(0, v), (3, .pointer (some ⟨g3, 0, none⟩)), (4, .slice none 0 0), (5, .slice none 0 0)] (fun ρ => match ρ with | [r0, r1] => [CP r1 (fun rv1 => CP r0 (fun u2 => GV l n ([] ++ b) u2 rv1) (E0)) (E0), CP r0 (fun u2 => Ao 5 1 encB u2 ([] ++ b)) (Ao 5 1 encB (.slice none 0 0) ([])), cell g3 103 #[.int .i64 0, .string (bs n), .string (bs ([])), .slice A b.length c, .int .i64 0], X, Y] | _ => []) (by kernel_rfl) (by kernel_rfl) ⟨rfl, rfl, rfl, rfl, trivial⟩ rfl ?_ ?_
  · skip
    refine Aa (by intro r0_ r1_; exact ⟨rfl, fun b w hH hb => Ae Ag rfl hb⟩) ?_
    refine Aa (by intro r0_ r1_; exact ⟨rfl, fun b w hH hb => Ae Ag rfl hb⟩) ?_
    refine Aa (by intro r0_ r1_; exact ⟨rfl, fun b w hH hb => Bg rfl rfl (Bt AR rfl) (hH.row 2 rfl) hb⟩) ?_
    refine Aa (by intro r0_ r1_; exact ⟨rfl, fun b w hH hb => Ae Ag rfl hb⟩) ?_
    refine Aa (by intro r0_ r1_; exact ⟨rfl, fun b w hH hb => Ae Ag rfl hb⟩) ?_
    refine Aa (by intro r0_ r1_; exact ⟨rfl, fun b w hH hb => Bg rfl rfl (Bt C3 rfl) (hH.row 2 rfl) hb⟩) ?_
    refine Aa (by exact ⟨rfl, Br.s (Ca 1 AC (by kernel_rfl) rfl (b) (fun w hH => (hH.rd8 4 rfl hO).rd) (by simp only [List.length_nil]; omega) rfl rfl rfl rfl) (fun _ => rfl)⟩) ?_
    refine Aa (by intro u2 r1_; exact ⟨rfl, fun b w hH hb => (by obtain ⟨_, h1_, _⟩ := hH.thing 1 rfl; obtain ⟨A2, c2, e2⟩ := Ao.is h1_; subst e2; exact AV rfl rfl rfl hb)⟩) ?_
    refine Aa (by intro u2; exact ⟨rfl, Br.s (Am (os' := fun rv1 => [GV l n ([] ++ b) u2 rv1, Ao 5 1 encB u2 ([] ++ b), cell g3 103 #[.int .i64 0, .string (bs n), .string (bs ([])), .slice A b.length c, .int .i64 0], X, Y]) [3, 1, 0] 1 (Ah Tryz.func82 (by kernel_rfl) rfl) (MK hX hl) rfl rfl rfl (fun _ => rfl) rfl rfl rfl) (fun _ => rfl)⟩) ?_
    exact B7
  intro u2 rv1
  refine Ch.keep (env' := [(0, v), (3, .pointer (some ⟨g3, 0, none⟩)), (4, .slice none 0 0), (32, rv1)]) ⟨rfl, rfl, rfl, rfl, trivial⟩ ?_
  refine Af Ag rfl ?_
  refine AP (AG (Az (Bm (CO ?_))))
  exact Ay (.tmp rfl) (fun w h => (by obtain ⟨_, ⟨A3, c3, ez, _⟩, _⟩ := h.thing 0 rfl; exact AB (X := RDo) ⟨rv1, DO l ⟨n, A3, c3, [] ++ b⟩, u2, [] ++ b⟩ rfl [3, 4, 1, 0] rfl h (Hm ez (by rw [ez]; exact LV hs (by rw [hg]; rfl))))) rfl
theorem RA {X Y : Ass} {v : Value} {l : List RFl} {n : List UInt8} {A : Option Addr} {c : Nat} {s : Nat} (hX : Fh X v l) (hl : l.length ≤ 1000000) (hs : Ei l) {j : Nat} {x : RFl} (hj : l[j]? = some x) (hn : x.n = n) (hlt : ∀ (k : Nat) (y : RFl), k < j → l[k]? = some y → y.n ≠ n) (hg : AL (FO l) n = some x.d) (hYx : Cw Y x.v x.d) (hxd : x.d.length ≤ 1099511627776) (hsx : s ≤ x.d.length) : AS Tryz.prog 67 #[v, .agg #[.int .i64 1, .string (bs n), .string (bs ([])), .slice A 0 c, .int .i64 (s : Int)]] [X, Y] (fun (z : RDo) => z.rv) (fun (z : RDo) => [X, Y, Ao 5 1 encB z.bv z.bd, Ao 52 2 encRF z.rv z.rl, fact (Ek l (.cut n s) z)]) := by
  refine A6 (args := [v, .agg #[.int .i64 1, .string (bs n), .string (bs ([])), .slice A 0 c, .int .i64 (s : Int)]]) 59 Tryz.func67 rfl rfl rfl ?_; intro w rs
  refine Ad ?_
  refine Af Ag rfl ?_
  refine Ai (post := fun g3 => [cell g3 103 #[.int .i64 1, .string (bs n), .string (bs ([])), .slice A 0 c, .int .i64 (s : Int)], X, Y]) rfl (CZ (cs := #[.int .i64 1, .string (bs n), .string (bs ([])), .slice A 0 c, .int .i64 (s : Int)]) rfl rfl rfl) ?_; rintro g3
  refine Af Ag rfl ?_
  refine Ab (Ad ?_)
  refine Af Ag rfl ?_
  refine Ab (Aq (Ad ?_))
  refine Af Ag rfl ?_
  refine Ac rfl (.string (bs n)) (fun b w hb hH => Bg rfl rfl (Bt AR rfl) (hH.row 0 rfl) hb) ?_
  refine Ai rfl (Am (os' := fun _ => [cell g3 103 #[.int .i64 1, .string (bs n), .string (bs ([])), .slice A 0 c, .int .i64 (s : Int)], X, Y]) [1] 0 (Ah Tryz.func61 (by kernel_rfl) rfl) (C6 hX hl hj hn hlt) rfl rfl rfl (fun _ => rfl) rfl rfl rfl) ?_; rintro ⟨⟩
  refine Af Ag rfl ?_
  refine Ab (Ad ?_)
  refine Af Ag rfl ?_
  refine Ac rfl (.bool true) (fun b w hb hH => Bh rfl rfl rfl (Cs (by omega)) hb) ?_
  refine Ab (AD rfl (BI ?_))
  refine Af Ag rfl ?_
  refine Ai (X := Value) (val := fun v : Value => v) (post := fun u0 => [Ao 5 1 encB u0 ([]), cell g3 103 #[.int .i64 1, .string (bs n), .string (bs ([])), .slice A 0 c, .int .i64 (s : Int)], X, Y]) rfl (by refine D7 (e := 5) (t := 48) (k := 1) (enc := encB) ?_ ?_; exact AC; exact rfl) ?_; rintro u0
  refine Af Ag rfl ?_
  refine Ac rfl (Cc v (j * 2)) (fun b w hb hH => BA BH ((hH.rdFs 2 rfl hX)) Ar (j := j) hj rfl rfl rfl hb) ?_
  refine Ac rfl (Cc v (j * 2 + 1)) (fun b w hb hH => Lf BH (by decide) ((hH.rdFs 2 rfl hX)) (j := j) hj Bw rfl rfl hb) ?_
  refine Ac rfl (.slice x.A x.d.length x.c) (fun b w hb hH => Bp BH (by decide) ((hH.rdFs 2 rfl hX)) (j := j) hj C3 (off := 1) rfl rfl rfl hb) ?_
  refine Ai (post := fun u1 => [Ao 5 1 encB u1 x.d, cell g3 103 #[.int .i64 1, .string (bs n), .string (bs ([])), .slice A 0 c, .int .i64 (s : Int)], X, Y]) rfl (Ca 0 AC (by kernel_rfl) rfl (x.d) (fun w hH => (hH.rd8 3 rfl hYx).rd) (by simp only [List.length_nil]; omega) rfl rfl rfl (List.nil_append _)) ?_; rintro u1
  refine Af Ag rfl ?_
  refine AP (AG (Aq (Ad ?_)))
  refine Af Ag rfl ?_
  refine Ac rfl (.int .i64 1) (fun b w hb hH => Bg rfl rfl (Bt Bj rfl) (hH.row 1 rfl) hb) ?_
  refine Ab (AX (Ad ?_))
  refine Af Ag rfl ?_
  refine Ac rfl (.bool false) (fun b w hb hH => Bh rfl rfl rfl (Le (by decide)) hb) ?_
  refine Af Ag rfl ?_
  refine Ab (Au rfl (Ad ?_))
  refine Af Ag rfl ?_
  refine Ac rfl (.bool true) (fun b w hb hH => Bh rfl rfl rfl (Ks (by decide)) hb) ?_
  refine Af Ag rfl ?_
  refine Ab (AD rfl ?_)
  refine Bo.fact 0 rfl (fun _ h => Ao.is h) ?_; rintro ⟨A1, c1, rfl⟩
  refine Bo.fact 0 rfl IV ?_; rintro hcap
  have htl : (x.d.take s).length = s := by rw [List.length_take]; omega
  have hsub2 : Ci 1 (.slice A1 x.d.length c1) 0 s = .slice A1 (x.d.take s).length c1 := by rw [htl]; exact JY
  refine Bf [0] rfl (Pt hsx) rfl ?_
  refine Bo.keep (env' := [(0, v), (1, .agg #[.int .i64 1, .string (bs n), .string (bs ([])), .slice A 0 c, .int .i64 (s : Int)]), (3, .pointer (some ⟨g3, 0, none⟩)), (4, .slice none 0 0), (7, v), (8, .pointer (some ⟨g3, 1, none⟩)), (9, .string (bs n)), (10, .int .i64 (j : Int)), (6, .int .i64 (j : Int)), (11, .int .i64 (j : Int)), (12, .bool true), (13, u0), (14, v), (15, .int .i64 (j : Int)), (16, Cc v (j * 2)), (17, Cc v (j * 2 + 1)), (18, .slice x.A x.d.length x.c), (19, .slice A1 x.d.length c1), (5, .slice A1 x.d.length c1), (20, .pointer (some ⟨g3, 0, none⟩)), (21, .int .i64 1), (23, .bool false), (22, .bool false), (34, .bool true), (33, .bool true)]) ⟨rfl, rfl, rfl, rfl, rfl, rfl, rfl, rfl, rfl, rfl, rfl, rfl, rfl, rfl, rfl, rfl, rfl, rfl, rfl, rfl, rfl, rfl, rfl, rfl, rfl, trivial⟩ ?_
  refine Bo.mid [Ao 5 1 encB (.slice A1 (x.d.take s).length c1) (x.d.take s), cell g3 103 #[.int .i64 1, .string (bs n), .string (bs ([])), .slice A 0 c, .int .i64 (s : Int)], X, Y] (.refl _) ?_
  refine Aq ?_
  refine EL 1 rfl ?_
  refine BM 9 1 [⟨.quiet, [none], fun _ => v, []⟩, ⟨.quiet, [none], fun _ => .pointer (some ⟨g3, 1, none⟩), []⟩, ⟨.quiet, [none], fun _ => .string (bs n), [1]⟩, ⟨.quiet, [none], fun _ => .slice A1 x.d.length c1, []⟩, ⟨.quiet, [none], fun _ => .pointer (some ⟨g3, 4, none⟩), []⟩, ⟨.quiet, [none], fun _ => .int .i64 (s : Int), [4]⟩, ⟨.quiet, [none], fun _ => .slice A1 (x.d.take s).length c1, [3, 5]⟩, ⟨.quiet, [none], fun _ => .agg #[.string (bs n), .slice A1 (x.d.take s).length c1], [2, 6]⟩, ⟨.act 0, [some false], fun _ => undef, [0, 7]⟩] [(0, v), (3, .pointer (some ⟨g3, 0, none⟩)), (4, .slice none 0 0), (5, .slice A1 x.d.length c1)] (fun ρ => match ρ with | [r0] => [CP r0 (fun rv1 => GV l n (x.d.take s) (.slice A1 (x.d.take s).length c1) rv1) (E0), Ao 5 1 encB (.slice A1 (x.d.take s).length c1) (x.d.take s), cell g3 103 #[.int .i64 1, .string (bs n), .string (bs ([])), .slice A 0 c, .int .i64 (s : Int)], X, Y] | _ => []) (by kernel_rfl) (by kernel_rfl) ⟨rfl, rfl, rfl, rfl, trivial⟩ rfl ?_ ?_
  · skip
    refine Aa (by intro r0_; exact ⟨rfl, fun b w hH hb => Ae Ag rfl hb⟩) ?_
    refine Aa (by intro r0_; exact ⟨rfl, fun b w hH hb => Ae Ag rfl hb⟩) ?_
    refine Aa (by intro r0_; exact ⟨rfl, fun b w hH hb => Bg rfl rfl (Bt AR rfl) (hH.row 2 rfl) hb⟩) ?_
    refine Aa (by intro r0_; exact ⟨rfl, fun b w hH hb => Ae Ag rfl hb⟩) ?_
    refine Aa (by intro r0_; exact ⟨rfl, fun b w hH hb => Ae Ag rfl hb⟩) ?_
    refine Aa (by intro r0_; exact ⟨rfl, fun b w hH hb => Bg rfl rfl (Bt Bj rfl) (hH.row 2 rfl) hb⟩) ?_
    refine Aa (by intro r0_; exact ⟨rfl, fun b w hH hb => Gr (j := s) AC hsub2 (by omega) rfl rfl rfl hH hb⟩) ?_
    refine Aa (by intro r0_; exact ⟨rfl, fun b w hH hb => AV rfl rfl (by kernel_rfl) hb⟩) ?_
    refine Aa (by exact ⟨rfl, Br.s (Am (os' := fun rv1 => [GV l n (x.d.take s) (.slice A1 (x.d.take s).length c1) rv1, Ao 5 1 encB (.slice A1 (x.d.take s).length c1) (x.d.take s), cell g3 103 #[.int .i64 1, .string (bs n), .string (bs ([])), .slice A 0 c, .int .i64 (s : Int)], X, Y]) [3, 1, 0] 1 (Ah Tryz.func82 (by kernel_rfl) rfl) (MK hX hl) rfl rfl rfl (fun _ => rfl) rfl rfl rfl) (fun _ => rfl)⟩) ?_
    exact B7
  intro rv1
  refine Ch.keep (env' := [(0, v), (3, .pointer (some ⟨g3, 0, none⟩)), (4, .slice none 0 0), (43, rv1)]) ⟨rfl, rfl, rfl, rfl, trivial⟩ ?_
  refine Af Ag rfl ?_
  refine AP (AG (Az (Bm (CO ?_))))
  exact Ay (.tmp rfl) (fun w h => (by obtain ⟨_, ⟨A3, c3, ez, _⟩, _⟩ := h.thing 0 rfl; exact AB (X := RDo) ⟨rv1, DO l ⟨n, A3, c3, x.d.take s⟩, .slice A1 (x.d.take s).length c1, x.d.take s⟩ rfl [3, 4, 1, 0] rfl h (Hm ez (by rw [ez]; exact Ry hs hg)))) rfl
theorem RB {X Y : Ass} {v : Value} {l : List RFl} {n : List UInt8} {A : Option Addr} {c : Nat} {m_ : List UInt8} (hX : Fh X v l) (hl : l.length ≤ 1000000) (hs : Ei l) {j : Nat} {x : RFl} (hj : l[j]? = some x) (hn : x.n = n) (hlt : ∀ (k : Nat) (y : RFl), k < j → l[k]? = some y → y.n ≠ n) (hg : AL (FO l) n = some x.d) (hYx : Cw Y x.v x.d) (hxd : x.d.length ≤ 1099511627776) : AS Tryz.prog 67 #[v, .agg #[.int .i64 2, .string (bs n), .string (bs m_), .slice A 0 c, .int .i64 0]] [X, Y] (fun (z : RDo) => z.rv) (fun (z : RDo) => [X, Y, Ao 5 1 encB z.bv z.bd, Ao 52 2 encRF z.rv z.rl, fact (Ek l (.ren n m_) z)]) := by
  refine A6 (args := [v, .agg #[.int .i64 2, .string (bs n), .string (bs m_), .slice A 0 c, .int .i64 0]]) 59 Tryz.func67 rfl rfl rfl ?_; intro w rs
  refine Ad ?_
  refine Af Ag rfl ?_
  refine Ai (post := fun g3 => [cell g3 103 #[.int .i64 2, .string (bs n), .string (bs m_), .slice A 0 c, .int .i64 0], X, Y]) rfl (CZ (cs := #[.int .i64 2, .string (bs n), .string (bs m_), .slice A 0 c, .int .i64 0]) rfl rfl rfl) ?_; rintro g3
  refine Af Ag rfl ?_
  refine Ab (Ad ?_)
  refine Af Ag rfl ?_
  refine Ab (Aq (Ad ?_))
  refine Af Ag rfl ?_
  refine Ac rfl (.string (bs n)) (fun b w hb hH => Bg rfl rfl (Bt AR rfl) (hH.row 0 rfl) hb) ?_
  refine Ai rfl (Am (os' := fun _ => [cell g3 103 #[.int .i64 2, .string (bs n), .string (bs m_), .slice A 0 c, .int .i64 0], X, Y]) [1] 0 (Ah Tryz.func61 (by kernel_rfl) rfl) (C6 hX hl hj hn hlt) rfl rfl rfl (fun _ => rfl) rfl rfl rfl) ?_; rintro ⟨⟩
  refine Af Ag rfl ?_
  refine Ab (Ad ?_)
  refine Af Ag rfl ?_
  refine Ac rfl (.bool true) (fun b w hb hH => Bh rfl rfl rfl (Cs (by omega)) hb) ?_
  refine Ab (AD rfl (BI ?_))
  refine Af Ag rfl ?_
  refine Ai (X := Value) (val := fun v : Value => v) (post := fun u0 => [Ao 5 1 encB u0 ([]), cell g3 103 #[.int .i64 2, .string (bs n), .string (bs m_), .slice A 0 c, .int .i64 0], X, Y]) rfl (by refine D7 (e := 5) (t := 48) (k := 1) (enc := encB) ?_ ?_; exact AC; exact rfl) ?_; rintro u0
  refine Af Ag rfl ?_
  refine Ac rfl (Cc v (j * 2)) (fun b w hb hH => BA BH ((hH.rdFs 2 rfl hX)) Ar (j := j) hj rfl rfl rfl hb) ?_
  refine Ac rfl (Cc v (j * 2 + 1)) (fun b w hb hH => Lf BH (by decide) ((hH.rdFs 2 rfl hX)) (j := j) hj Bw rfl rfl hb) ?_
  refine Ac rfl (.slice x.A x.d.length x.c) (fun b w hb hH => Bp BH (by decide) ((hH.rdFs 2 rfl hX)) (j := j) hj C3 (off := 1) rfl rfl rfl hb) ?_
  refine Ai (post := fun u1 => [Ao 5 1 encB u1 x.d, cell g3 103 #[.int .i64 2, .string (bs n), .string (bs m_), .slice A 0 c, .int .i64 0], X, Y]) rfl (Ca 0 AC (by kernel_rfl) rfl (x.d) (fun w hH => (hH.rd8 3 rfl hYx).rd) (by simp only [List.length_nil]; omega) rfl rfl rfl (List.nil_append _)) ?_; rintro u1
  refine Af Ag rfl ?_
  refine AP (AG (Aq (Ad ?_)))
  refine Af Ag rfl ?_
  refine Ac rfl (.int .i64 2) (fun b w hb hH => Bg rfl rfl (Bt Bj rfl) (hH.row 1 rfl) hb) ?_
  refine Ab (AX (Ad ?_))
  refine Af Ag rfl ?_
  refine Ac rfl (.bool false) (fun b w hb hH => Bh rfl rfl rfl (Le (by decide)) hb) ?_
  refine Af Ag rfl ?_
  refine Ab (Au rfl (Ad ?_))
  refine Af Ag rfl ?_
  refine Ac rfl (.bool false) (fun b w hb hH => Bh rfl rfl rfl (Le (by decide)) hb) ?_
  refine Af Ag rfl ?_
  refine Ab (Au rfl (Ad ?_))
  refine Af Ag rfl ?_
  refine Ac rfl (.bool true) (fun b w hb hH => Bh rfl rfl rfl (Ks (by decide)) hb) ?_
  refine Af Ag rfl ?_
  refine Ab (AD rfl (Aq ?_))
  refine EL 2 rfl ?_
  refine BM 9 2 [⟨.quiet, [none, none], fun _ => v, []⟩, ⟨.quiet, [none, none], fun _ => .pointer (some ⟨g3, 1, none⟩), []⟩, ⟨.quiet, [none, none], fun _ => .string (bs n), [1]⟩, ⟨.act 0, [some false, some false], fun _ => undef, [0, 2]⟩, ⟨.quiet, [none, none], fun _ => .pointer (some ⟨g3, 2, none⟩), []⟩, ⟨.quiet, [none, none], fun _ => .string (bs m_), [4]⟩, ⟨.quiet, [none, none], fun _ => u1, []⟩, ⟨.quiet, [none, none], fun _ => .agg #[.string (bs m_), u1], [5, 6]⟩, ⟨.act 1, [some true, some false], fun _ => undef, [3, 7]⟩] [(0, v), (3, .pointer (some ⟨g3, 0, none⟩)), (4, .slice none 0 0), (5, u1)] (fun ρ => match ρ with | [r0, r1] => [CP r1 (fun rv1 => GV (DH l n) m_ x.d u1 rv1) (E0), CP r0 (fun mv => Ao 52 2 encRF mv (DH l n)) (E0), Ao 5 1 encB u1 x.d, cell g3 103 #[.int .i64 2, .string (bs n), .string (bs m_), .slice A 0 c, .int .i64 0], X, Y] | _ => []) (by kernel_rfl) (by kernel_rfl) ⟨rfl, rfl, rfl, rfl, trivial⟩ rfl ?_ ?_
  · skip
    refine Aa (by intro r0_ r1_; exact ⟨rfl, fun b w hH hb => Ae Ag rfl hb⟩) ?_
    refine Aa (by intro r0_ r1_; exact ⟨rfl, fun b w hH hb => Ae Ag rfl hb⟩) ?_
    refine Aa (by intro r0_ r1_; exact ⟨rfl, fun b w hH hb => Bg rfl rfl (Bt AR rfl) (hH.row 3 rfl) hb⟩) ?_
    refine Aa (by exact ⟨rfl, Br.s (Am (os' := fun mv => [E0, Ao 52 2 encRF mv (DH l n), Ao 5 1 encB u1 x.d, cell g3 103 #[.int .i64 2, .string (bs n), .string (bs m_), .slice A 0 c, .int .i64 0], X, Y]) [4, 1] 1 (Ah Tryz.func83 (by kernel_rfl) rfl) (IU hX hl rfl) rfl rfl rfl (fun _ => rfl) rfl rfl rfl) (fun _ => rfl)⟩) ?_
    refine Aa (by intro r0_ r1_; exact ⟨rfl, fun b w hH hb => Ae Ag rfl hb⟩) ?_
    refine Aa (by intro r0_ r1_; exact ⟨rfl, fun b w hH hb => Bg rfl rfl (Bt AR rfl) (hH.row 3 rfl) hb⟩) ?_
    refine Aa (by intro r0_ r1_; exact ⟨rfl, fun b w hH hb => Ae Ag rfl hb⟩) ?_
    refine Aa (by intro r0_ r1_; exact ⟨rfl, fun b w hH hb => (by obtain ⟨_, h1_, _⟩ := hH.thing 2 rfl; obtain ⟨A2, c2, e2⟩ := Ao.is h1_; subst e2; exact AV rfl rfl rfl hb)⟩) ?_
    refine Aa (by intro mv; exact ⟨rfl, Br.s (Am (os' := fun rv1 => [GV (DH l n) m_ x.d u1 rv1, Ao 52 2 encRF mv (DH l n), Ao 5 1 encB u1 x.d, cell g3 103 #[.int .i64 2, .string (bs n), .string (bs m_), .slice A 0 c, .int .i64 0], X, Y]) [1, 2, 0] 1 (Ah Tryz.func82 (by kernel_rfl) rfl) (MK Cq (Nat.le_trans (List.length_filter_le ..) hl)) rfl rfl rfl (fun _ => rfl) rfl rfl rfl) (fun _ => rfl)⟩) ?_
    exact B7
  intro mv rv1
  refine Ch.keep (env' := [(0, v), (3, .pointer (some ⟨g3, 0, none⟩)), (4, .slice none 0 0), (54, rv1)]) ⟨rfl, rfl, rfl, rfl, trivial⟩ ?_
  refine Af Ag rfl ?_
  refine AP (AG (Az (Bm (CO ?_))))
  exact Ay (.tmp rfl) (fun w h => (by obtain ⟨_, ⟨A3, c3, ez, _⟩, _⟩ := h.thing 0 rfl; exact AB (X := RDo) ⟨rv1, DO (DH l n) ⟨m_, A3, c3, x.d⟩, u1, x.d⟩ rfl [4, 5, 2, 0] rfl h (Hm ez (by rw [ez]; exact Rz hs hg)))) rfl
theorem Pw {X Y : Ass} {v : Value} {l : List RFl} {n : List UInt8} {A : Option Addr} {c : Nat} (hX : Fh X v l) (hl : l.length ≤ 1000000) (hs : Ei l) {j : Nat} {x : RFl} (hj : l[j]? = some x) (hn : x.n = n) (hlt : ∀ (k : Nat) (y : RFl), k < j → l[k]? = some y → y.n ≠ n) (hg : AL (FO l) n = some x.d) (hYx : Cw Y x.v x.d) (hxd : x.d.length ≤ 1099511627776) : AS Tryz.prog 67 #[v, .agg #[.int .i64 3, .string (bs n), .string (bs ([])), .slice A 0 c, .int .i64 0]] [X, Y] (fun (z : RDo) => z.rv) (fun (z : RDo) => [X, Y, Ao 5 1 encB z.bv z.bd, Ao 52 2 encRF z.rv z.rl, fact (Ek l (.del n) z)]) := by
 refine A6 (args := [v, .agg #[.int .i64 3, .string (bs n), .string (bs ([])), .slice A 0 c, .int .i64 0]]) 59 Tryz.func67 rfl rfl rfl ?_; intro w rs
 refine Ad ?_
 refine Af Ag rfl ?_
 refine Ai (post := fun g3 => [cell g3 103 #[.int .i64 3, .string (bs n), .string (bs ([])), .slice A 0 c, .int .i64 0], X, Y]) rfl (CZ (cs := #[.int .i64 3, .string (bs n), .string (bs ([])), .slice A 0 c, .int .i64 0]) rfl rfl rfl) ?_; rintro g3
 refine Af Ag rfl ?_
 refine Ab (Ad ?_)
 refine Af Ag rfl ?_
 refine Ab (Aq (Ad ?_))
 refine Af Ag rfl ?_
 refine Ac rfl (.string (bs n)) (fun b w hb hH => Bg rfl rfl (Bt AR rfl) (hH.row 0 rfl) hb) ?_
 refine Ai rfl (Am (os' := fun _ => [cell g3 103 #[.int .i64 3, .string (bs n), .string (bs ([])), .slice A 0 c, .int .i64 0], X, Y]) [1] 0 (Ah Tryz.func61 (by kernel_rfl) rfl) (C6 hX hl hj hn hlt) rfl rfl rfl (fun _ => rfl) rfl rfl rfl) ?_; rintro ⟨⟩
 refine Af Ag rfl ?_
 refine Ab (Ad ?_)
 refine Af Ag rfl ?_
 refine Ac rfl (.bool true) (fun b w hb hH => Bh rfl rfl rfl (Cs (by omega)) hb) ?_
 refine Ab (AD rfl (BI ?_))
 refine Af Ag rfl ?_
 refine Ai (X := Value) (val := fun v : Value => v) (post := fun u0 => [Ao 5 1 encB u0 ([]), cell g3 103 #[.int .i64 3, .string (bs n), .string (bs ([])), .slice A 0 c, .int .i64 0], X, Y]) rfl (by refine D7 (e := 5) (t := 48) (k := 1) (enc := encB) ?_ ?_; exact AC; exact rfl) ?_; rintro u0
 refine Af Ag rfl ?_
 refine Ac rfl (Cc v (j * 2)) (fun b w hb hH => BA BH ((hH.rdFs 2 rfl hX)) Ar (j := j) hj rfl rfl rfl hb) ?_
 refine Ac rfl (Cc v (j * 2 + 1)) (fun b w hb hH => Lf BH (by decide) ((hH.rdFs 2 rfl hX)) (j := j) hj Bw rfl rfl hb) ?_
 refine Ac rfl (.slice x.A x.d.length x.c) (fun b w hb hH => Bp BH (by decide) ((hH.rdFs 2 rfl hX)) (j := j) hj C3 (off := 1) rfl rfl rfl hb) ?_
 refine Ai (post := fun u1 => [Ao 5 1 encB u1 x.d, cell g3 103 #[.int .i64 3, .string (bs n), .string (bs ([])), .slice A 0 c, .int .i64 0], X, Y]) rfl (Ca 0 AC (by kernel_rfl) rfl (x.d) (fun w hH => (hH.rd8 3 rfl hYx).rd) (by simp only [List.length_nil]; omega) rfl rfl rfl (List.nil_append _)) ?_; rintro u1
 refine Af Ag rfl ?_
 refine AP (AG (Aq (Ad ?_)))
 refine Af Ag rfl ?_
 refine Ac rfl (.int .i64 3) (fun b w hb hH => Bg rfl rfl (Bt Bj rfl) (hH.row 1 rfl) hb) ?_
 refine Ab (AX (Ad ?_))
 refine Af Ag rfl ?_
 refine Ac rfl (.bool false) (fun b w hb hH => Bh rfl rfl rfl (Le (by decide)) hb) ?_
 refine Af Ag rfl ?_
 refine Ab (Au rfl (Ad ?_))
 refine Af Ag rfl ?_
 refine Ac rfl (.bool false) (fun b w hb hH => Bh rfl rfl rfl (Le (by decide)) hb) ?_
 refine Af Ag rfl ?_
 refine Ab (Au rfl (Ad ?_))
 refine Af Ag rfl ?_
 refine Ac rfl (.bool false) (fun b w hb hH => Bh rfl rfl rfl (Le (by decide)) hb) ?_
 refine Af Ag rfl ?_
 refine Ab (Au rfl (Ax (BJ (AG ?_))))
 refine BZ 5 1 encB ?_
 refine Ad ?_
 refine Af Ag rfl ?_
 refine Ac rfl (.string (bs n)) (fun b w hb hH => Bg rfl rfl (Bt AR rfl) (hH.row 2 rfl) hb) ?_
 refine Ai rfl (Am (os' := fun mv => [Ao 52 2 encRF mv (DH l n), Ao 5 1 encB (.slice none 0 0) ([]), Ao 5 1 encB u1 x.d, cell g3 103 #[.int .i64 3, .string (bs n), .string (bs ([])), .slice A 0 c, .int .i64 0], X, Y]) [3] 0 (Ah Tryz.func83 (by kernel_rfl) rfl) (IU hX hl rfl) rfl rfl rfl (fun _ => rfl) rfl rfl rfl) ?_; rintro mv
 refine Af Ag rfl ?_
 refine Ab (Az ?_)
 exact Ay (.tmp rfl) (fun w h => AB (X := RDo) ⟨mv, DH l n, .slice none 0 0, []⟩ rfl [4, 5, 1, 0] rfl h (fun q hq => ⟨q, .refl _, Ed (xs := [_, _, _, _]) (LW hs) hq⟩)) rfl
theorem Px {X Y : Ass} {v : Value} {l : List RFl} {n : List UInt8} {A : Option Addr} {c : Nat} (hX : Fh X v l) (hl : l.length ≤ 1000000) (hs : Ei l) (hn : ∀ x : RFl, x ∈ l → x.n ≠ n) (hg : AL (FO l) n = none) : AS Tryz.prog 67 #[v, .agg #[.int .i64 3, .string (bs n), .string (bs ([])), .slice A 0 c, .int .i64 0]] [X, Y] (fun (z : RDo) => z.rv) (fun (z : RDo) => [X, Y, Ao 5 1 encB z.bv z.bd, Ao 52 2 encRF z.rv z.rl, fact (Ek l (.del n) z)]) := by
 refine A6 (args := [v, .agg #[.int .i64 3, .string (bs n), .string (bs ([])), .slice A 0 c, .int .i64 0]]) 59 Tryz.func67 rfl rfl rfl ?_; intro w rs
 refine Ad ?_
 refine Af Ag rfl ?_
 refine Ai (post := fun g3 => [cell g3 103 #[.int .i64 3, .string (bs n), .string (bs ([])), .slice A 0 c, .int .i64 0], X, Y]) rfl (CZ (cs := #[.int .i64 3, .string (bs n), .string (bs ([])), .slice A 0 c, .int .i64 0]) rfl rfl rfl) ?_; rintro g3
 refine Af Ag rfl ?_
 refine Ab (Ad ?_)
 refine Af Ag rfl ?_
 refine Ab (Aq (Ad ?_))
 refine Af Ag rfl ?_
 refine Ac rfl (.string (bs n)) (fun b w hb hH => Bg rfl rfl (Bt AR rfl) (hH.row 0 rfl) hb) ?_
 refine Ai rfl (Am (os' := fun _ => [cell g3 103 #[.int .i64 3, .string (bs n), .string (bs ([])), .slice A 0 c, .int .i64 0], X, Y]) [1] 0 (Ah Tryz.func61 (by kernel_rfl) rfl) (Dw hX hl hn) rfl rfl rfl (fun _ => rfl) rfl rfl rfl) ?_; rintro ⟨⟩
 refine Af Ag rfl ?_
 refine Ab (Ad ?_)
 refine Af Ag rfl ?_
 refine Ac rfl (.bool false) (fun b w hb hH => Bh rfl rfl rfl (DX (by omega)) hb) ?_
 refine Ab (Au rfl (Ax (AG (Aq (Ad ?_)))))
 refine Af Ag rfl ?_
 refine Ac rfl (.int .i64 3) (fun b w hb hH => Bg rfl rfl (Bt Bj rfl) (hH.row 0 rfl) hb) ?_
 refine Ab (AX (Ad ?_))
 refine Af Ag rfl ?_
 refine Ac rfl (.bool false) (fun b w hb hH => Bh rfl rfl rfl (Le (by decide)) hb) ?_
 refine Af Ag rfl ?_
 refine Ab (Au rfl (Ad ?_))
 refine Af Ag rfl ?_
 refine Ac rfl (.bool false) (fun b w hb hH => Bh rfl rfl rfl (Le (by decide)) hb) ?_
 refine Af Ag rfl ?_
 refine Ab (Au rfl (Ad ?_))
 refine Af Ag rfl ?_
 refine Ac rfl (.bool false) (fun b w hb hH => Bh rfl rfl rfl (Le (by decide)) hb) ?_
 refine Af Ag rfl ?_
 refine Ab (Au rfl (Ax (BJ (AG ?_))))
 refine BZ 5 1 encB ?_
 refine Ad ?_
 refine Af Ag rfl ?_
 refine Ac rfl (.string (bs n)) (fun b w hb hH => Bg rfl rfl (Bt AR rfl) (hH.row 1 rfl) hb) ?_
 refine Ai rfl (Am (os' := fun mv => [Ao 52 2 encRF mv (DH l n), Ao 5 1 encB (.slice none 0 0) ([]), cell g3 103 #[.int .i64 3, .string (bs n), .string (bs ([])), .slice A 0 c, .int .i64 0], X, Y]) [2] 0 (Ah Tryz.func83 (by kernel_rfl) rfl) (IU hX hl rfl) rfl rfl rfl (fun _ => rfl) rfl rfl rfl) ?_; rintro mv
 refine Af Ag rfl ?_
 refine Ab (Az ?_)
 exact Ay (.tmp rfl) (fun w h => AB (X := RDo) ⟨mv, DH l n, .slice none 0 0, []⟩ rfl [3, 4, 1, 0] rfl h (fun q hq => ⟨q, .refl _, Ed (xs := [_, _, _, _]) (LW hs) hq⟩)) rfl
theorem RC {X Y : Ass} {v : Value} {l : List RFl} {x : OpV} (hX : Fh X v l) (hl : l.length ≤ 1000000) (hs : Ei l) (ho : Ly (FO l) x.o) (hY : ∀ y : RFl, y ∈ l → Cw Y y.v y.d ∧ y.d.length ≤ 1099511627776) (hO : Cw Y x.v x.o.data) (hbl : x.o.data.length ≤ 1099511627776) : AS Tryz.prog 67 #[v, .agg (encRO x).toArray] [X, Y] (fun z : RDo => z.rv) (fun z => [X, Y, Ao 5 1 encB z.bv z.bd, Ao 52 2 encRF z.rv z.rl, fact (Ek l x.o z)]) := by
  obtain ⟨o, A, c⟩ := x
  cases o with
  | app n b =>
    rcases GQ hs n with ⟨j, y, hj, hn, hlt, hg⟩ | ⟨hn, hg⟩
    · have := hY y (List.mem_of_getElem? hj)
      exact Pu hX hl hs hj hn hlt hg this.1 this.2 hO hbl
    · exact Pv hX hl hs hn hg hO hbl
  | cut n s =>
    obtain ⟨q, h1, h2⟩ := ho
    rcases GQ hs n with ⟨j, y, hj, hn, hlt, hg⟩ | ⟨hn, hg⟩
    · have := hY y (List.mem_of_getElem? hj)
      rw [hg] at h1
      cases h1
      exact RA hX hl hs hj hn hlt hg this.1 this.2 h2
    · rw [hg] at h1; cases h1
  | ren n m =>
    obtain ⟨⟨q, h1⟩, _⟩ := ho
    rcases GQ hs n with ⟨j, y, hj, hn, hlt, hg⟩ | ⟨hn, hg⟩
    · have := hY y (List.mem_of_getElem? hj)
      exact RB hX hl hs hj hn hlt hg this.1 this.2
    · rw [hg] at h1; cases h1
  | del n =>
    rcases GQ hs n with ⟨j, y, hj, hn, hlt, hg⟩ | ⟨hn, hg⟩
    · have := hY y (List.mem_of_getElem? hj)
      exact Pw hX hl hs hj hn hlt hg this.1 this.2
    · exact Px hX hl hs hn hg
end Go.Proofs.YtnknboibmifacaaGreat.Sep
