/-
  DskB
-/
import Derived.Test.YtjcfimmcogkopaaGreatPC01
set_option linter.unusedSimpArgs false
set_option linter.unusedVariables false
set_option maxRecDepth 100000
namespace Go.Proofs.YtjcfimmcogkopaaGreat.Sep
open Go.RowKit
open Go.Proofs.YtjcfimmcogkopaaGreat.Mem (Bh Cs Chg AA)
theorem TZ {X : Ass} {v : Value} {f f' : FS} {n b : List UInt8} {A : Option Addr} {c : Nat} (hX : CO X (.slice A b.length c) b) (hl : AN f + b.length ≤ 4398046511104) (h : AG f (.app n b) = f') : AX Tryz.prog 73 #[v, .agg #[.int .i64 0, .string (bs n), .slice A b.length c, .int .i64 0, .string (bs ([]))]] [AC v f, X] (fun (_ : Unit) => .tuple #[]) (fun (_ : Unit) => [AC v f', X]) := by
  have h_ := h
  refine Bg (args := [v, .agg #[.int .i64 0, .string (bs n), .slice A b.length c, .int .i64 0, .string (bs ([]))]]) 49 Tryz.func73 rfl rfl rfl ?_; intro w rs
  refine BB.fact 0 rfl BR ?_; rintro hnd
  refine Be 0 rfl FJ (fun _ => rfl) ?_; rintro ⟨L, hL⟩
  subst hL
  refine Ad (Ae Am rfl (Aj (post := fun g1 => [cell g1 103 #[.int .i64 0, .string (bs n), .slice A b.length c, .int .i64 0, .string (bs ([]))], BK encKey AR v L, BA L, X]) rfl (CL (cs := #[.int .i64 0, .string (bs n), .slice A b.length c, .int .i64 0, .string (bs ([]))]) rfl rfl rfl) ?_)); rintro g1
  refine Ab (Ad (Ae Am rfl (Aa rfl (.int .i64 0) (fun b w hb hH => Ba rfl rfl (Bm Fs rfl) (hH.row 0 rfl) hb) (Ab (Bo (Ad (Ae Am rfl (Aa rfl (.bool true) (fun b w hb hH => AZ rfl rfl rfl (GT (by decide)) hb) (Ae Am rfl (Ab (AI rfl ?_)))))))))))
  rcases hq : Fb n L 0 with _ | q
  refine B6 5 1 encB ?_
  refine BL 10 1 [⟨.quiet, [none], fun _ => v, []⟩, ⟨.quiet, [none], fun _ => .pointer (some ⟨g1, 1, none⟩), []⟩, ⟨.quiet, [none], fun _ => .string (bs n), [1]⟩, ⟨.quiet, [none], fun _ => v, []⟩, ⟨.quiet, [none], fun _ => .pointer (some ⟨g1, 1, none⟩), []⟩, ⟨.quiet, [none], fun _ => .string (bs n), [4]⟩, ⟨.quiet, [none], fun _ => .slice none 0 0, [3, 5]⟩, ⟨.quiet, [none], fun _ => .pointer (some ⟨g1, 2, none⟩), []⟩, ⟨.quiet, [none], fun _ => .slice A b.length c, [7]⟩, ⟨.act 0, [some false], fun _ => undef, [6, 8]⟩] [(0, v), (3, .pointer (some ⟨g1, 0, none⟩))] (fun ρ => match ρ with | [r0] => [Co r0 (fun u => Ar 5 1 encB u b) (Ar 5 1 encB (.slice none 0 0) ([])), cell g1 103 #[.int .i64 0, .string (bs n), .slice A b.length c, .int .i64 0, .string (bs ([]))], BK encKey AR v L, BA L, X] | _ => []) (by kernel_rfl) (by kernel_rfl) ⟨rfl, rfl, trivial⟩ rfl ?_ ?_
  refine Ac (by intro r0_; exact ⟨rfl, fun b w hH hb => Af Am rfl hb⟩) (Ac (by intro r0_; exact ⟨rfl, fun b w hH hb => Af Am rfl hb⟩) (Ac (by intro r0_; exact ⟨rfl, fun b w hH hb => Ba rfl rfl (Bm Bd rfl) (hH.row 1 rfl) hb⟩) (Ac (by intro r0_; exact ⟨rfl, fun b w hH hb => Af Am rfl hb⟩) (Ac (by intro r0_; exact ⟨rfl, fun b w hH hb => Af Am rfl hb⟩) (Ac (by intro r0_; exact ⟨rfl, fun b w hH hb => Ba rfl rfl (Bm Bd rfl) (hH.row 1 rfl) hb⟩) (Ac (by intro r0_; exact ⟨rfl, fun b w hH hb => JL 2 Dz rfl (k := n) (r := none) (Om hq) rfl rfl rfl hH hb⟩) (Ac (by intro r0_; exact ⟨rfl, fun b w hH hb => Af Am rfl hb⟩) (Ac (by intro r0_; exact ⟨rfl, fun b w hH hb => Ba rfl rfl (Bm Cx rfl) (hH.row 1 rfl) hb⟩) (Ac (by exact ⟨rfl, Bk.s (CE 0 AJ (by kernel_rfl) rfl (b) (fun w hH => hH.rd 4 rfl hX.rd) (by simp only [List.length_nil]; omega) rfl rfl rfl (List.nil_append _)) (fun _ => rfl)⟩) ?_)))))))))
  exact B7
  intro u
  refine Cf.keep (env' := [(9, v), (11, .string (bs n)), (18, u)]) ⟨rfl, rfl, rfl, trivial⟩ (Ae Am rfl (AF (post := fun _ => [Ar 5 1 encB u b, cell g1 103 #[.int .i64 0, .string (bs n), .slice A b.length c, .int .i64 0, .string (bs ([]))], BK encKey AR v (BF L n (u, b)), BA L, X]) rfl rfl (JM 2 Dz rfl n (u, b) rfl rfl rfl rfl rfl rfl) ?_)); rintro ⟨⟩
  refine AV (BC ?_)
  exact CQ  (fun w h => AH () rfl [2, 3, 0, 4] rfl h (Mn hq (h_.symm.trans (TS hq)))) rfl
  refine Be 2 rfl (Ho hq) (fun _ => rfl) ?_; rintro ⟨⟩
  have hle : q.2.2.length ≤ AN (Cm L) := Jl hnd (by rw [Ep, FL hq]; rfl)
  refine BL 10 1 [⟨.quiet, [none], fun _ => v, []⟩, ⟨.quiet, [none], fun _ => .pointer (some ⟨g1, 1, none⟩), []⟩, ⟨.quiet, [none], fun _ => .string (bs n), [1]⟩, ⟨.quiet, [none], fun _ => v, []⟩, ⟨.quiet, [none], fun _ => .pointer (some ⟨g1, 1, none⟩), []⟩, ⟨.quiet, [none], fun _ => .string (bs n), [4]⟩, ⟨.quiet, [none], fun _ => q.2.1, [3, 5]⟩, ⟨.quiet, [none], fun _ => .pointer (some ⟨g1, 2, none⟩), []⟩, ⟨.quiet, [none], fun _ => .slice A b.length c, [7]⟩, ⟨.act 0, [some false], fun _ => undef, [6, 8]⟩] [(0, v), (3, .pointer (some ⟨g1, 0, none⟩))] (fun ρ => match ρ with | [r0] => [BA (L.take q.1), Co r0 (fun u => Ar 5 1 encB u (q.2.2 ++ b)) (Ar 5 1 encB q.2.1 q.2.2), BA (L.drop (q.1 + 1)), cell g1 103 #[.int .i64 0, .string (bs n), .slice A b.length c, .int .i64 0, .string (bs ([]))], BK encKey AR v L, X] | _ => []) (by kernel_rfl) (by kernel_rfl) ⟨rfl, rfl, trivial⟩ rfl ?_ ?_
  refine Ac (by intro r0_; exact ⟨rfl, fun b w hH hb => Af Am rfl hb⟩) (Ac (by intro r0_; exact ⟨rfl, fun b w hH hb => Af Am rfl hb⟩) (Ac (by intro r0_; exact ⟨rfl, fun b w hH hb => Ba rfl rfl (Bm Bd rfl) (hH.row 3 rfl) hb⟩) (Ac (by intro r0_; exact ⟨rfl, fun b w hH hb => Af Am rfl hb⟩) (Ac (by intro r0_; exact ⟨rfl, fun b w hH hb => Af Am rfl hb⟩) (Ac (by intro r0_; exact ⟨rfl, fun b w hH hb => Ba rfl rfl (Bm Bd rfl) (hH.row 3 rfl) hb⟩) (Ac (by intro r0_; exact ⟨rfl, fun b w hH hb => JL 4 Dz rfl (k := n) (r := some q.2) (FL hq) rfl rfl rfl hH hb⟩) (Ac (by intro r0_; exact ⟨rfl, fun b w hH hb => Af Am rfl hb⟩) (Ac (by intro r0_; exact ⟨rfl, fun b w hH hb => Ba rfl rfl (Bm Cx rfl) (hH.row 3 rfl) hb⟩) (Ac (by exact ⟨rfl, Bk.s (CE 1 AJ (by kernel_rfl) rfl (b) (fun w hH => hH.rd 5 rfl hX.rd) (by omega) rfl rfl rfl rfl) (fun _ => rfl)⟩) ?_)))))))))
  exact B7
  intro u
  refine Cf.keep (env' := [(9, v), (11, .string (bs n)), (18, u)]) ⟨rfl, rfl, rfl, trivial⟩ (Ae Am rfl (AF (post := fun _ => [BA (L.take q.1), Ar 5 1 encB u (q.2.2 ++ b), BA (L.drop (q.1 + 1)), cell g1 103 #[.int .i64 0, .string (bs n), .slice A b.length c, .int .i64 0, .string (bs ([]))], BK encKey AR v (BF L n (u, q.2.2 ++ b)), X]) rfl rfl (JM 4 Dz rfl n (u, q.2.2 ++ b) rfl rfl rfl rfl rfl rfl) ?_)); rintro ⟨⟩
  refine AV (BC ?_)
  exact CQ  (fun w h => AH () rfl [4, 0, 1, 2, 5] rfl h (JV hq (h_.symm.trans (TT hq)))) rfl
theorem WX {X : Ass} {v : Value} {f f' : FS} {n : List UInt8} {A : Option Addr} {c : Nat} (h : AG f (.del n) = f') : AX Tryz.prog 73 #[v, .agg #[.int .i64 3, .string (bs n), .slice A 0 c, .int .i64 0, .string (bs ([]))]] [AC v f, X] (fun (_ : Unit) => .tuple #[]) (fun (_ : Unit) => [AC v f', X]) := by
 have h_ := h
 refine Bg (args := [v, .agg #[.int .i64 3, .string (bs n), .slice A 0 c, .int .i64 0, .string (bs ([]))]]) 49 Tryz.func73 rfl rfl rfl ?_; intro w rs
 refine Be 0 rfl FJ (fun _ => rfl) ?_; rintro ⟨L, hL⟩
 subst hL
 refine Ad (Ae Am rfl (Aj (post := fun g1 => [cell g1 103 #[.int .i64 3, .string (bs n), .slice A 0 c, .int .i64 0, .string (bs ([]))], BK encKey AR v L, BA L, X]) rfl (CL (cs := #[.int .i64 3, .string (bs n), .slice A 0 c, .int .i64 0, .string (bs ([]))]) rfl rfl rfl) ?_)); rintro g1
 refine Ab (Ad (Ae Am rfl (Aa rfl (.int .i64 3) (fun b w hb hH => Ba rfl rfl (Bm Fs rfl) (hH.row 0 rfl) hb) (Ab (Bo (Ad (Ae Am rfl (Aa rfl (.bool false) (fun b w hb hH => AZ rfl rfl rfl (Fu (by decide)) hb) (Ae Am rfl (Ab (As rfl (Ad (Ae Am rfl (Aa rfl (.bool false) (fun b w hb hH => AZ rfl rfl rfl (Fu (by decide)) hb) ?_))))))))))))))
 refine Ae Am rfl (Ab (As rfl (Ad (Ae Am rfl (Aa rfl (.bool false) (fun b w hb hH => AZ rfl rfl rfl (Fu (by decide)) hb) (Ae Am rfl (Ab (As rfl (Ad (Ae Am rfl (Aa rfl (.bool true) (fun b w hb hH => AZ rfl rfl rfl (GT (by decide)) hb) (Ae Am rfl (Ab (AI rfl ?_))))))))))))))
 rcases hq : Fb n L 0 with _ | q
 have h1_ := h_.symm.trans (Re.trans (by rw [Mm hq]))
 refine Bp (Ae Am rfl (Aa rfl (.string (bs n)) (fun b w hb hH => Ba rfl rfl (Bm Bd rfl) (hH.row 0 rfl) hb) (AF (post := fun _ => [cell g1 103 #[.int .i64 3, .string (bs n), .slice A 0 c, .int .i64 0, .string (bs ([]))], BK encKey AR v L, BA L, X]) rfl rfl (Py 1 Dz rfl n rfl rfl rfl (Mm hq)) ?_))); rintro ⟨⟩
 refine AV (BC ?_)
 exact CQ  (fun w h => AH () rfl [1, 2, 3] rfl h (GI h1_)) rfl
 refine Be 2 rfl (Ho hq) (fun _ => rfl) ?_; rintro ⟨⟩
 refine Bp (Ae Am rfl (Aa rfl (.string (bs n)) (fun b w hb hH => Ba rfl rfl (Bm Bd rfl) (hH.row 3 rfl) hb) (AF (post := fun _ => [BA (L.take q.1), Ar 5 1 encB q.2.1 q.2.2, BA (L.drop (q.1 + 1)), cell g1 103 #[.int .i64 3, .string (bs n), .slice A 0 c, .int .i64 0, .string (bs ([]))], BK encKey AR v (BY L n), X]) rfl rfl (Py 4 Dz rfl n rfl rfl rfl rfl) ?_))); rintro ⟨⟩
 refine AV (BC ?_)
 exact CQ  (fun w h => AH () rfl [4, 0, 2, 5] rfl h (PP hq (h_.symm.trans Re))) rfl
theorem WY {X : Ass} {v : Value} {f f' : FS} {n x : List UInt8} {s : Nat} {A : Option Addr} {c : Nat} (hx : AS f n = some x) (hs : s ≤ x.length) (h : AG f (.cut n s) = f') : AX Tryz.prog 73 #[v, .agg #[.int .i64 1, .string (bs n), .slice A 0 c, .int .i64 (s : Int), .string (bs ([]))]] [AC v f, X] (fun (_ : Unit) => .tuple #[]) (fun (_ : Unit) => [AC v f', X]) := by
 have h_ := h
 refine Bg (args := [v, .agg #[.int .i64 1, .string (bs n), .slice A 0 c, .int .i64 (s : Int), .string (bs ([]))]]) 49 Tryz.func73 rfl rfl rfl ?_; intro w rs
 refine Be 0 rfl FJ (fun _ => rfl) ?_; rintro ⟨L, hL⟩
 subst hL
 obtain ⟨q, hq, hqx⟩ := Mo hx
 subst hqx
 refine Ad (Ae Am rfl (Aj (post := fun g1 => [cell g1 103 #[.int .i64 1, .string (bs n), .slice A 0 c, .int .i64 (s : Int), .string (bs ([]))], BK encKey AR v L, BA L, X]) rfl (CL (cs := #[.int .i64 1, .string (bs n), .slice A 0 c, .int .i64 (s : Int), .string (bs ([]))]) rfl rfl rfl) ?_)); rintro g1
 refine Ab (Ad (Ae Am rfl (Aa rfl (.int .i64 1) (fun b w hb hH => Ba rfl rfl (Bm Fs rfl) (hH.row 0 rfl) hb) (Ab (Bo (Ad (Ae Am rfl (Aa rfl (.bool false) (fun b w hb hH => AZ rfl rfl rfl (Fu (by decide)) hb) (Ae Am rfl (Ab (As rfl (Ad (Ae Am rfl (Aa rfl (.bool true) (fun b w hb hH => AZ rfl rfl rfl (GT (by decide)) hb) ?_))))))))))))))
 refine Ae Am rfl (Ab (AI rfl (Be 2 rfl (Ho hq) (fun _ => rfl) ?_))); rintro ⟨⟩
 refine BL 10 0 [⟨.quiet, [], fun _ => v, []⟩, ⟨.quiet, [], fun _ => .pointer (some ⟨g1, 1, none⟩), []⟩, ⟨.quiet, [], fun _ => .string (bs n), [1]⟩, ⟨.quiet, [], fun _ => v, []⟩, ⟨.quiet, [], fun _ => .pointer (some ⟨g1, 1, none⟩), []⟩, ⟨.quiet, [], fun _ => .string (bs n), [4]⟩, ⟨.quiet, [], fun _ => q.2.1, [3, 5]⟩, ⟨.quiet, [], fun _ => .pointer (some ⟨g1, 3, none⟩), []⟩, ⟨.quiet, [], fun _ => .int .i64 (s : Int), [7]⟩, ⟨.quiet, [], fun _ => CB 1 q.2.1 0 s, [6, 8]⟩] [(0, v), (3, .pointer (some ⟨g1, 0, none⟩))] (fun _ => [BA (L.take q.1), Ar 5 1 encB q.2.1 q.2.2, BA (L.drop (q.1 + 1)), cell g1 103 #[.int .i64 1, .string (bs n), .slice A 0 c, .int .i64 (s : Int), .string (bs ([]))], BK encKey AR v L, X]) (by kernel_rfl) (by kernel_rfl) ⟨rfl, rfl, trivial⟩ rfl ?_ ?_
 refine Ac (by exact ⟨rfl, fun b w hH hb => Af Am rfl hb⟩) (Ac (by exact ⟨rfl, fun b w hH hb => Af Am rfl hb⟩) (Ac (by exact ⟨rfl, fun b w hH hb => Ba rfl rfl (Bm Bd rfl) (hH.row 3 rfl) hb⟩) (Ac (by exact ⟨rfl, fun b w hH hb => Af Am rfl hb⟩) (Ac (by exact ⟨rfl, fun b w hH hb => Af Am rfl hb⟩) (Ac (by exact ⟨rfl, fun b w hH hb => Ba rfl rfl (Bm Bd rfl) (hH.row 3 rfl) hb⟩) (Ac (by exact ⟨rfl, fun b w hH hb => JL 4 Dz rfl (k := n) (r := some q.2) (FL hq) rfl rfl rfl hH hb⟩) (Ac (by exact ⟨rfl, fun b w hH hb => Af Am rfl hb⟩) (Ac (by exact ⟨rfl, fun b w hH hb => Ba rfl rfl (Bm Bc rfl) (hH.row 3 rfl) hb⟩) (Ac (by exact ⟨rfl, fun b w hH hb => HU 1 (b := s) AJ rfl hs rfl rfl rfl hH hb⟩) ?_)))))))))
 exact B7
 refine Cf.keep (env' := [(21, v), (23, .string (bs n)), (30, CB 1 q.2.1 0 s)]) ⟨rfl, rfl, rfl, trivial⟩ (Ae Am rfl (AF (post := fun _ => [BA (L.take q.1), Ar 5 1 encB q.2.1 q.2.2, BA (L.drop (q.1 + 1)), cell g1 103 #[.int .i64 1, .string (bs n), .slice A 0 c, .int .i64 (s : Int), .string (bs ([]))], BK encKey AR v (BF L n (CB 1 q.2.1 0 s, q.2.2.take s)), X]) rfl rfl (JM 4 Dz rfl n (CB 1 q.2.1 0 s, q.2.2.take s) rfl rfl rfl rfl rfl rfl) ?_)); rintro ⟨⟩
 refine AV (BC ?_)
 exact CQ  (fun w h => AH () rfl [4, 0, 1, 2, 5] rfl h (Si hq hs (h_.symm.trans (VH hq)))) rfl
theorem WZ {X : Ass} {v : Value} {f f' : FS} {n m_ x : List UInt8} {A : Option Addr} {c : Nat} (hx : AS f n = some x) (h : AG f (.ren n m_) = f') : AX Tryz.prog 73 #[v, .agg #[.int .i64 2, .string (bs n), .slice A 0 c, .int .i64 0, .string (bs m_)]] [AC v f, X] (fun (_ : Unit) => .tuple #[]) (fun (_ : Unit) => [AC v f', X]) := by
 have h_ := h
 refine Bg (args := [v, .agg #[.int .i64 2, .string (bs n), .slice A 0 c, .int .i64 0, .string (bs m_)]]) 49 Tryz.func73 rfl rfl rfl ?_; intro w rs
 refine Be 0 rfl FJ (fun _ => rfl) ?_; rintro ⟨L, hL⟩
 subst hL
 obtain ⟨q, hq, hqx⟩ := Mo hx
 subst hqx
 refine Ad (Ae Am rfl (Aj (post := fun g1 => [cell g1 103 #[.int .i64 2, .string (bs n), .slice A 0 c, .int .i64 0, .string (bs m_)], BK encKey AR v L, BA L, X]) rfl (CL (cs := #[.int .i64 2, .string (bs n), .slice A 0 c, .int .i64 0, .string (bs m_)]) rfl rfl rfl) ?_)); rintro g1
 refine Ab (Ad (Ae Am rfl (Aa rfl (.int .i64 2) (fun b w hb hH => Ba rfl rfl (Bm Fs rfl) (hH.row 0 rfl) hb) (Ab (Bo (Ad (Ae Am rfl (Aa rfl (.bool false) (fun b w hb hH => AZ rfl rfl rfl (Fu (by decide)) hb) (Ae Am rfl (Ab (As rfl (Ad (Ae Am rfl (Aa rfl (.bool false) (fun b w hb hH => AZ rfl rfl rfl (Fu (by decide)) hb) ?_))))))))))))))
 refine Ae Am rfl (Ab (As rfl (Ad (Ae Am rfl (Aa rfl (.bool true) (fun b w hb hH => AZ rfl rfl rfl (GT (by decide)) hb) (Ae Am rfl (Ab (AI rfl (Be 2 rfl (Ho hq) (fun _ => rfl) ?_))))))))); rintro ⟨⟩
 refine Ad (Ae Am rfl (Aa rfl (.string (bs n)) (fun b w hb hH => Ba rfl rfl (Bm Bd rfl) (hH.row 3 rfl) hb) (Aa rfl (q.2.1) (fun b w hb hH => JL 4 Dz rfl (k := n) (r := some q.2) (FL hq) rfl rfl rfl hH hb) (Ae Am rfl (Ab (Ad (Ae Am rfl (Aa rfl (.string (bs n)) (fun b w hb hH => Ba rfl rfl (Bm Bd rfl) (hH.row 3 rfl) hb) (AF (post := fun _ => [BA (L.take q.1), Ar 5 1 encB q.2.1 q.2.2, BA (L.drop (q.1 + 1)), cell g1 103 #[.int .i64 2, .string (bs n), .slice A 0 c, .int .i64 0, .string (bs m_)], BK encKey AR v (BY L n), X]) rfl rfl (Py 4 Dz rfl n rfl rfl rfl rfl) ?_))))))))); rintro ⟨⟩
 refine Ab (Bi [0, 2] rfl (Rf hq) rfl ?_)
 rcases hq2 : Fb m_ (BY L n) 0 with _ | q2
 refine Bp (Ae Am rfl (Aa rfl (.string (bs m_)) (fun b w hb hH => Ba rfl rfl (Bm Bd rfl) (hH.row 2 rfl) hb) (Ae Am rfl (AF (post := fun _ => [BA (BY L n), Ar 5 1 encB q.2.1 q.2.2, cell g1 103 #[.int .i64 2, .string (bs n), .slice A 0 c, .int .i64 0, .string (bs m_)], BK encKey AR v (BF (BY L n) m_ (q.2.1, q.2.2)), X]) rfl rfl (JM 3 Dz rfl m_ (q.2.1, q.2.2) rfl rfl rfl rfl rfl rfl) ?_)))); rintro ⟨⟩
 refine AV (BC ?_)
 exact CQ  (fun w h => AH () rfl [3, 0, 1, 4] rfl h (Mn hq2 (h_.symm.trans (Rg hq)))) rfl
 refine Be 0 rfl (Ho hq2) (fun _ => rfl) ?_; rintro ⟨⟩
 refine Bp (Ae Am rfl (Aa rfl (.string (bs m_)) (fun b w hb hH => Ba rfl rfl (Bm Bd rfl) (hH.row 4 rfl) hb) (Ae Am rfl (AF (post := fun _ => [BA ((BY L n).take q2.1), Ar 5 1 encB q2.2.1 q2.2.2, BA ((BY L n).drop (q2.1 + 1)), Ar 5 1 encB q.2.1 q.2.2, cell g1 103 #[.int .i64 2, .string (bs n), .slice A 0 c, .int .i64 0, .string (bs m_)], BK encKey AR v (BF (BY L n) m_ (q.2.1, q.2.2)), X]) rfl rfl (JM 5 Dz rfl m_ (q.2.1, q.2.2) rfl rfl rfl rfl rfl rfl) ?_)))); rintro ⟨⟩
 refine AV (BC ?_)
 exact CQ  (fun w h => AH () rfl [5, 0, 3, 2, 6] rfl h (JV hq2 (h_.symm.trans (Rg hq)))) rfl
theorem T0 {X : Ass} {v : Value} {f f' : FS} {x : OpV} (ho : L2 f x.o) (hX : CO X x.v x.o.data) (hl : AN f + x.o.size ≤ 4398046511104) (h : AG f x.o = f') : AX Tryz.prog 73 #[v, .agg (encO x).toArray] [AC v f, X] (fun _ : Unit => .tuple #[]) (fun _ => [AC v f', X]) := by
  obtain ⟨o, A, c⟩ := x
  cases o with
  | app n b => exact TZ hX hl h
  | cut n s => obtain ⟨y, h1, h2⟩ := ho; exact WY h1 h2 h
  | ren a b => obtain ⟨⟨y, h1⟩, _⟩ := ho; exact WZ h1 h
  | del n => exact WX h
end Go.Proofs.YtjcfimmcogkopaaGreat.Sep
