/-
  DskB
-/
import Derived.Test.YtnknboibmifacaaGreatPC01
set_option linter.unusedSimpArgs false
set_option linter.unusedVariables false
set_option maxRecDepth 100000
namespace Go.Proofs.YtnknboibmifacaaGreat.Sep
open Go.RowKit
open Go.Proofs.YtnknboibmifacaaGreat.Mem (Bl Co Chg AG)
theorem SU {X : Ass} {v : Value} {f f' : FS} {n b : List UInt8} {A : Option Addr} {c : Nat} (hX : CX X (.slice A b.length c) b) (hl : AK f + b.length ≤ 4398046511104) (h : AI f (.app n b) = f') : AU Tryz.prog 68 #[v, .agg #[.int .i64 0, .string (bs n), .slice A b.length c, .int .i64 0, .string (bs ([]))]] [AA v f, X] (fun (_ : Unit) => .tuple #[]) (fun (_ : Unit) => [AA v f', X]) := by
  have h_ := h
  refine Bd (args := [v, .agg #[.int .i64 0, .string (bs n), .slice A b.length c, .int .i64 0, .string (bs ([]))]]) 49 Tryz.func68 rfl rfl rfl ?_; intro w rs
  refine Bv.fact 0 rfl BD ?_; rintro hnd
  refine AZ 0 rfl Fq (fun _ => rfl) ?_; rintro ⟨L, hL⟩
  subst hL
  refine Ad ?_
  refine Ae Ak rfl ?_
  refine Aj (post := fun g1 => [cell g1 99 #[.int .i64 0, .string (bs n), .slice A b.length c, .int .i64 0, .string (bs ([]))], BH encKey AM v L, Bx L, X]) rfl (CC (cs := #[.int .i64 0, .string (bs n), .slice A b.length c, .int .i64 0, .string (bs ([]))]) rfl rfl rfl) ?_; rintro g1
  refine Aa (Ad ?_)
  refine Ae Ak rfl ?_
  refine Ab rfl (.int .i64 0) (fun b w hb hH => A6 rfl rfl (Bk Fe rfl) (hH.row 0 rfl) hb) ?_
  refine Aa (Bb (Ad ?_))
  refine Ae Ak rfl ?_
  refine Ab rfl (.bool true) (fun b w hb hH => AV rfl rfl rfl (H7 (by decide)) hb) ?_
  refine Ae Ak rfl ?_
  refine Aa (AC rfl ?_)
  rcases hq : E1 n L 0 with _ | q
  · skip
    refine B4 5 1 encB ?_
    refine BO 10 1 [⟨.quiet, [none], fun _ => v, []⟩, ⟨.quiet, [none], fun _ => .pointer (some ⟨g1, 1, none⟩), []⟩, ⟨.quiet, [none], fun _ => .string (bs n), [1]⟩, ⟨.quiet, [none], fun _ => v, []⟩, ⟨.quiet, [none], fun _ => .pointer (some ⟨g1, 1, none⟩), []⟩, ⟨.quiet, [none], fun _ => .string (bs n), [4]⟩, ⟨.quiet, [none], fun _ => .slice none 0 0, [3, 5]⟩, ⟨.quiet, [none], fun _ => .pointer (some ⟨g1, 2, none⟩), []⟩, ⟨.quiet, [none], fun _ => .slice A b.length c, [7]⟩, ⟨.act 0, [some false], fun _ => undef, [6, 8]⟩] [(0, v), (3, .pointer (some ⟨g1, 0, none⟩))] (fun ρ => match ρ with | [r0] => [CD r0 (fun u => As 5 1 encB u b) (As 5 1 encB (.slice none 0 0) ([])), cell g1 99 #[.int .i64 0, .string (bs n), .slice A b.length c, .int .i64 0, .string (bs ([]))], BH encKey AM v L, Bx L, X] | _ => []) (by kernel_rfl) (by kernel_rfl) ⟨rfl, rfl, trivial⟩ rfl ?_ ?_
    · skip
      refine Ac (by intro r0_; exact ⟨rfl, fun b w hH hb => Af Ak rfl hb⟩) ?_
      refine Ac (by intro r0_; exact ⟨rfl, fun b w hH hb => Af Ak rfl hb⟩) ?_
      refine Ac (by intro r0_; exact ⟨rfl, fun b w hH hb => A6 rfl rfl (Bk Ba rfl) (hH.row 1 rfl) hb⟩) ?_
      refine Ac (by intro r0_; exact ⟨rfl, fun b w hH hb => Af Ak rfl hb⟩) ?_
      refine Ac (by intro r0_; exact ⟨rfl, fun b w hH hb => Af Ak rfl hb⟩) ?_
      refine Ac (by intro r0_; exact ⟨rfl, fun b w hH hb => A6 rfl rfl (Bk Ba rfl) (hH.row 1 rfl) hb⟩) ?_
      refine Ac (by intro r0_; exact ⟨rfl, fun b w hH hb => GU 2 Dh rfl (k := n) (r := none) (NJ hq) rfl rfl rfl hH hb⟩) ?_
      refine Ac (by intro r0_; exact ⟨rfl, fun b w hH hb => Af Ak rfl hb⟩) ?_
      refine Ac (by intro r0_; exact ⟨rfl, fun b w hH hb => A6 rfl rfl (Bk C3 rfl) (hH.row 1 rfl) hb⟩) ?_
      refine Ac (by exact ⟨rfl, Bp.s (Cz 0 AJ (by kernel_rfl) rfl (b) (fun w hH => hH.rd 4 rfl hX.rd) (by simp only [List.length_nil]; omega) rfl rfl rfl (List.nil_append _)) (fun _ => rfl)⟩) ?_
      exact B2
    intro u
    refine Cg.keep (env' := [(9, v), (11, .string (bs n)), (18, u)]) ⟨rfl, rfl, rfl, trivial⟩ ?_
    refine Ae Ak rfl ?_
    refine AH (post := fun _ => [As 5 1 encB u b, cell g1 99 #[.int .i64 0, .string (bs n), .slice A b.length c, .int .i64 0, .string (bs ([]))], BH encKey AM v (BG L n (u, b)), Bx L, X]) rfl rfl (Jz 2 Dh rfl n (u, b) rfl rfl rfl rfl rfl rfl) ?_; rintro ⟨⟩
    refine AP (Bt ?_)
    exact CG  (fun w h => AB () rfl [2, 3, 0, 4] rfl h (LX hq (h_.symm.trans (SN hq)))) rfl
  · skip
    refine AZ 2 rfl (GX hq) (fun _ => rfl) ?_; rintro ⟨⟩
    have hle : q.2.2.length ≤ AK (Ce L) := I9 hnd (by rw [Em, Fs hq]; rfl)
    refine BO 10 1 [⟨.quiet, [none], fun _ => v, []⟩, ⟨.quiet, [none], fun _ => .pointer (some ⟨g1, 1, none⟩), []⟩, ⟨.quiet, [none], fun _ => .string (bs n), [1]⟩, ⟨.quiet, [none], fun _ => v, []⟩, ⟨.quiet, [none], fun _ => .pointer (some ⟨g1, 1, none⟩), []⟩, ⟨.quiet, [none], fun _ => .string (bs n), [4]⟩, ⟨.quiet, [none], fun _ => q.2.1, [3, 5]⟩, ⟨.quiet, [none], fun _ => .pointer (some ⟨g1, 2, none⟩), []⟩, ⟨.quiet, [none], fun _ => .slice A b.length c, [7]⟩, ⟨.act 0, [some false], fun _ => undef, [6, 8]⟩] [(0, v), (3, .pointer (some ⟨g1, 0, none⟩))] (fun ρ => match ρ with | [r0] => [Bx (L.take q.1), CD r0 (fun u => As 5 1 encB u (q.2.2 ++ b)) (As 5 1 encB q.2.1 q.2.2), Bx (L.drop (q.1 + 1)), cell g1 99 #[.int .i64 0, .string (bs n), .slice A b.length c, .int .i64 0, .string (bs ([]))], BH encKey AM v L, X] | _ => []) (by kernel_rfl) (by kernel_rfl) ⟨rfl, rfl, trivial⟩ rfl ?_ ?_
    · skip
      refine Ac (by intro r0_; exact ⟨rfl, fun b w hH hb => Af Ak rfl hb⟩) ?_
      refine Ac (by intro r0_; exact ⟨rfl, fun b w hH hb => Af Ak rfl hb⟩) ?_
      refine Ac (by intro r0_; exact ⟨rfl, fun b w hH hb => A6 rfl rfl (Bk Ba rfl) (hH.row 3 rfl) hb⟩) ?_
      refine Ac (by intro r0_; exact ⟨rfl, fun b w hH hb => Af Ak rfl hb⟩) ?_
      refine Ac (by intro r0_; exact ⟨rfl, fun b w hH hb => Af Ak rfl hb⟩) ?_
      refine Ac (by intro r0_; exact ⟨rfl, fun b w hH hb => A6 rfl rfl (Bk Ba rfl) (hH.row 3 rfl) hb⟩) ?_
      refine Ac (by intro r0_; exact ⟨rfl, fun b w hH hb => GU 4 Dh rfl (k := n) (r := some q.2) (Fs hq) rfl rfl rfl hH hb⟩) ?_
      refine Ac (by intro r0_; exact ⟨rfl, fun b w hH hb => Af Ak rfl hb⟩) ?_
      refine Ac (by intro r0_; exact ⟨rfl, fun b w hH hb => A6 rfl rfl (Bk C3 rfl) (hH.row 3 rfl) hb⟩) ?_
      refine Ac (by exact ⟨rfl, Bp.s (Cz 1 AJ (by kernel_rfl) rfl (b) (fun w hH => hH.rd 5 rfl hX.rd) (by omega) rfl rfl rfl rfl) (fun _ => rfl)⟩) ?_
      exact B2
    intro u
    refine Cg.keep (env' := [(9, v), (11, .string (bs n)), (18, u)]) ⟨rfl, rfl, rfl, trivial⟩ ?_
    refine Ae Ak rfl ?_
    refine AH (post := fun _ => [Bx (L.take q.1), As 5 1 encB u (q.2.2 ++ b), Bx (L.drop (q.1 + 1)), cell g1 99 #[.int .i64 0, .string (bs n), .slice A b.length c, .int .i64 0, .string (bs ([]))], BH encKey AM v (BG L n (u, q.2.2 ++ b)), X]) rfl rfl (Jz 4 Dh rfl n (u, q.2.2 ++ b) rfl rfl rfl rfl rfl rfl) ?_; rintro ⟨⟩
    refine AP (Bt ?_)
    exact CG  (fun w h => AB () rfl [4, 0, 1, 2, 5] rfl h (JH hq (h_.symm.trans (SO hq)))) rfl
theorem Vy {X : Ass} {v : Value} {f f' : FS} {n : List UInt8} {A : Option Addr} {c : Nat} (h : AI f (.del n) = f') : AU Tryz.prog 68 #[v, .agg #[.int .i64 3, .string (bs n), .slice A 0 c, .int .i64 0, .string (bs ([]))]] [AA v f, X] (fun (_ : Unit) => .tuple #[]) (fun (_ : Unit) => [AA v f', X]) := by
  have h_ := h
  refine Bd (args := [v, .agg #[.int .i64 3, .string (bs n), .slice A 0 c, .int .i64 0, .string (bs ([]))]]) 49 Tryz.func68 rfl rfl rfl ?_; intro w rs
  refine AZ 0 rfl Fq (fun _ => rfl) ?_; rintro ⟨L, hL⟩
  subst hL
  refine Ad ?_
  refine Ae Ak rfl ?_
  refine Aj (post := fun g1 => [cell g1 99 #[.int .i64 3, .string (bs n), .slice A 0 c, .int .i64 0, .string (bs ([]))], BH encKey AM v L, Bx L, X]) rfl (CC (cs := #[.int .i64 3, .string (bs n), .slice A 0 c, .int .i64 0, .string (bs ([]))]) rfl rfl rfl) ?_; rintro g1
  refine Aa (Ad ?_)
  refine Ae Ak rfl ?_
  refine Ab rfl (.int .i64 3) (fun b w hb hH => A6 rfl rfl (Bk Fe rfl) (hH.row 0 rfl) hb) ?_
  refine Aa (Bb (Ad ?_))
  refine Ae Ak rfl ?_
  refine Ab rfl (.bool false) (fun b w hb hH => AV rfl rfl rfl (Ge (by decide)) hb) ?_
  refine Ae Ak rfl ?_
  refine Aa (Ar rfl (Ad ?_))
  refine Ae Ak rfl ?_
  refine Ab rfl (.bool false) (fun b w hb hH => AV rfl rfl rfl (Ge (by decide)) hb) ?_
  refine Ae Ak rfl ?_
  refine Aa (Ar rfl (Ad ?_))
  refine Ae Ak rfl ?_
  refine Ab rfl (.bool false) (fun b w hb hH => AV rfl rfl rfl (Ge (by decide)) hb) ?_
  refine Ae Ak rfl ?_
  refine Aa (Ar rfl (Ad ?_))
  refine Ae Ak rfl ?_
  refine Ab rfl (.bool true) (fun b w hb hH => AV rfl rfl rfl (H7 (by decide)) hb) ?_
  refine Ae Ak rfl ?_
  refine Aa (AC rfl ?_)
  rcases hq : E1 n L 0 with _ | q
  · skip
    have h1_ := h_.symm.trans (Qm.trans (by rw [LW hq]))
    refine Br ?_
    refine Ae Ak rfl ?_
    refine Ab rfl (.string (bs n)) (fun b w hb hH => A6 rfl rfl (Bk Ba rfl) (hH.row 0 rfl) hb) ?_
    refine AH (post := fun _ => [cell g1 99 #[.int .i64 3, .string (bs n), .slice A 0 c, .int .i64 0, .string (bs ([]))], BH encKey AM v L, Bx L, X]) rfl rfl (OS 1 Dh rfl n rfl rfl rfl (LW hq)) ?_; rintro ⟨⟩
    refine AP (Bt ?_)
    exact CG  (fun w h => AB () rfl [1, 2, 3] rfl h (Gs h1_)) rfl
  · skip
    refine AZ 2 rfl (GX hq) (fun _ => rfl) ?_; rintro ⟨⟩
    refine Br ?_
    refine Ae Ak rfl ?_
    refine Ab rfl (.string (bs n)) (fun b w hb hH => A6 rfl rfl (Bk Ba rfl) (hH.row 3 rfl) hb) ?_
    refine AH (post := fun _ => [Bx (L.take q.1), As 5 1 encB q.2.1 q.2.2, Bx (L.drop (q.1 + 1)), cell g1 99 #[.int .i64 3, .string (bs n), .slice A 0 c, .int .i64 0, .string (bs ([]))], BH encKey AM v (BX L n), X]) rfl rfl (OS 4 Dh rfl n rfl rfl rfl rfl) ?_; rintro ⟨⟩
    refine AP (Bt ?_)
    exact CG  (fun w h => AB () rfl [4, 0, 2, 5] rfl h (O9 hq (h_.symm.trans Qm))) rfl
theorem Vz {X : Ass} {v : Value} {f f' : FS} {n x : List UInt8} {s : Nat} {A : Option Addr} {c : Nat} (hx : AQ f n = some x) (hs : s ≤ x.length) (h : AI f (.cut n s) = f') : AU Tryz.prog 68 #[v, .agg #[.int .i64 1, .string (bs n), .slice A 0 c, .int .i64 (s : Int), .string (bs ([]))]] [AA v f, X] (fun (_ : Unit) => .tuple #[]) (fun (_ : Unit) => [AA v f', X]) := by
  have h_ := h
  refine Bd (args := [v, .agg #[.int .i64 1, .string (bs n), .slice A 0 c, .int .i64 (s : Int), .string (bs ([]))]]) 49 Tryz.func68 rfl rfl rfl ?_; intro w rs
  refine AZ 0 rfl Fq (fun _ => rfl) ?_; rintro ⟨L, hL⟩
  subst hL
  obtain ⟨q, hq, hqx⟩ := LY hx
  subst hqx
  refine Ad ?_
  refine Ae Ak rfl ?_
  refine Aj (post := fun g1 => [cell g1 99 #[.int .i64 1, .string (bs n), .slice A 0 c, .int .i64 (s : Int), .string (bs ([]))], BH encKey AM v L, Bx L, X]) rfl (CC (cs := #[.int .i64 1, .string (bs n), .slice A 0 c, .int .i64 (s : Int), .string (bs ([]))]) rfl rfl rfl) ?_; rintro g1
  refine Aa (Ad ?_)
  refine Ae Ak rfl ?_
  refine Ab rfl (.int .i64 1) (fun b w hb hH => A6 rfl rfl (Bk Fe rfl) (hH.row 0 rfl) hb) ?_
  refine Aa (Bb (Ad ?_))
  refine Ae Ak rfl ?_
  refine Ab rfl (.bool false) (fun b w hb hH => AV rfl rfl rfl (Ge (by decide)) hb) ?_
  refine Ae Ak rfl ?_
  refine Aa (Ar rfl (Ad ?_))
  refine Ae Ak rfl ?_
  refine Ab rfl (.bool true) (fun b w hb hH => AV rfl rfl rfl (H7 (by decide)) hb) ?_
  refine Ae Ak rfl ?_
  refine Aa (AC rfl ?_)
  refine AZ 2 rfl (GX hq) (fun _ => rfl) ?_; rintro ⟨⟩
  refine BO 10 0 [⟨.quiet, [], fun _ => v, []⟩, ⟨.quiet, [], fun _ => .pointer (some ⟨g1, 1, none⟩), []⟩, ⟨.quiet, [], fun _ => .string (bs n), [1]⟩, ⟨.quiet, [], fun _ => v, []⟩, ⟨.quiet, [], fun _ => .pointer (some ⟨g1, 1, none⟩), []⟩, ⟨.quiet, [], fun _ => .string (bs n), [4]⟩, ⟨.quiet, [], fun _ => q.2.1, [3, 5]⟩, ⟨.quiet, [], fun _ => .pointer (some ⟨g1, 3, none⟩), []⟩, ⟨.quiet, [], fun _ => .int .i64 (s : Int), [7]⟩, ⟨.quiet, [], fun _ => Cm 1 q.2.1 0 s, [6, 8]⟩] [(0, v), (3, .pointer (some ⟨g1, 0, none⟩))] (fun _ => [Bx (L.take q.1), As 5 1 encB q.2.1 q.2.2, Bx (L.drop (q.1 + 1)), cell g1 99 #[.int .i64 1, .string (bs n), .slice A 0 c, .int .i64 (s : Int), .string (bs ([]))], BH encKey AM v L, X]) (by kernel_rfl) (by kernel_rfl) ⟨rfl, rfl, trivial⟩ rfl ?_ ?_
  · skip
    refine Ac (by exact ⟨rfl, fun b w hH hb => Af Ak rfl hb⟩) ?_
    refine Ac (by exact ⟨rfl, fun b w hH hb => Af Ak rfl hb⟩) ?_
    refine Ac (by exact ⟨rfl, fun b w hH hb => A6 rfl rfl (Bk Ba rfl) (hH.row 3 rfl) hb⟩) ?_
    refine Ac (by exact ⟨rfl, fun b w hH hb => Af Ak rfl hb⟩) ?_
    refine Ac (by exact ⟨rfl, fun b w hH hb => Af Ak rfl hb⟩) ?_
    refine Ac (by exact ⟨rfl, fun b w hH hb => A6 rfl rfl (Bk Ba rfl) (hH.row 3 rfl) hb⟩) ?_
    refine Ac (by exact ⟨rfl, fun b w hH hb => GU 4 Dh rfl (k := n) (r := some q.2) (Fs hq) rfl rfl rfl hH hb⟩) ?_
    refine Ac (by exact ⟨rfl, fun b w hH hb => Af Ak rfl hb⟩) ?_
    refine Ac (by exact ⟨rfl, fun b w hH hb => A6 rfl rfl (Bk AR rfl) (hH.row 3 rfl) hb⟩) ?_
    refine Ac (by exact ⟨rfl, fun b w hH hb => Ho 1 (b := s) AJ rfl hs rfl rfl rfl hH hb⟩) ?_
    exact B2
  refine Cg.keep (env' := [(21, v), (23, .string (bs n)), (30, Cm 1 q.2.1 0 s)]) ⟨rfl, rfl, rfl, trivial⟩ ?_
  refine Ae Ak rfl ?_
  refine AH (post := fun _ => [Bx (L.take q.1), As 5 1 encB q.2.1 q.2.2, Bx (L.drop (q.1 + 1)), cell g1 99 #[.int .i64 1, .string (bs n), .slice A 0 c, .int .i64 (s : Int), .string (bs ([]))], BH encKey AM v (BG L n (Cm 1 q.2.1 0 s, q.2.2.take s)), X]) rfl rfl (Jz 4 Dh rfl n (Cm 1 q.2.1 0 s, q.2.2.take s) rfl rfl rfl rfl rfl rfl) ?_; rintro ⟨⟩
  refine AP (Bt ?_)
  exact CG  (fun w h => AB () rfl [4, 0, 1, 2, 5] rfl h (Rp hq hs (h_.symm.trans (Ux hq)))) rfl
theorem VA {X : Ass} {v : Value} {f f' : FS} {n m_ x : List UInt8} {A : Option Addr} {c : Nat} (hx : AQ f n = some x) (h : AI f (.ren n m_) = f') : AU Tryz.prog 68 #[v, .agg #[.int .i64 2, .string (bs n), .slice A 0 c, .int .i64 0, .string (bs m_)]] [AA v f, X] (fun (_ : Unit) => .tuple #[]) (fun (_ : Unit) => [AA v f', X]) := by
  have h_ := h
  refine Bd (args := [v, .agg #[.int .i64 2, .string (bs n), .slice A 0 c, .int .i64 0, .string (bs m_)]]) 49 Tryz.func68 rfl rfl rfl ?_; intro w rs
  refine AZ 0 rfl Fq (fun _ => rfl) ?_; rintro ⟨L, hL⟩
  subst hL
  obtain ⟨q, hq, hqx⟩ := LY hx
  subst hqx
  refine Ad ?_
  refine Ae Ak rfl ?_
  refine Aj (post := fun g1 => [cell g1 99 #[.int .i64 2, .string (bs n), .slice A 0 c, .int .i64 0, .string (bs m_)], BH encKey AM v L, Bx L, X]) rfl (CC (cs := #[.int .i64 2, .string (bs n), .slice A 0 c, .int .i64 0, .string (bs m_)]) rfl rfl rfl) ?_; rintro g1
  refine Aa (Ad ?_)
  refine Ae Ak rfl ?_
  refine Ab rfl (.int .i64 2) (fun b w hb hH => A6 rfl rfl (Bk Fe rfl) (hH.row 0 rfl) hb) ?_
  refine Aa (Bb (Ad ?_))
  refine Ae Ak rfl ?_
  refine Ab rfl (.bool false) (fun b w hb hH => AV rfl rfl rfl (Ge (by decide)) hb) ?_
  refine Ae Ak rfl ?_
  refine Aa (Ar rfl (Ad ?_))
  refine Ae Ak rfl ?_
  refine Ab rfl (.bool false) (fun b w hb hH => AV rfl rfl rfl (Ge (by decide)) hb) ?_
  refine Ae Ak rfl ?_
  refine Aa (Ar rfl (Ad ?_))
  refine Ae Ak rfl ?_
  refine Ab rfl (.bool true) (fun b w hb hH => AV rfl rfl rfl (H7 (by decide)) hb) ?_
  refine Ae Ak rfl ?_
  refine Aa (AC rfl ?_)
  refine AZ 2 rfl (GX hq) (fun _ => rfl) ?_; rintro ⟨⟩
  refine Ad ?_
  refine Ae Ak rfl ?_
  refine Ab rfl (.string (bs n)) (fun b w hb hH => A6 rfl rfl (Bk Ba rfl) (hH.row 3 rfl) hb) ?_
  refine Ab rfl (q.2.1) (fun b w hb hH => GU 4 Dh rfl (k := n) (r := some q.2) (Fs hq) rfl rfl rfl hH hb) ?_
  refine Ae Ak rfl ?_
  refine Aa (Ad ?_)
  refine Ae Ak rfl ?_
  refine Ab rfl (.string (bs n)) (fun b w hb hH => A6 rfl rfl (Bk Ba rfl) (hH.row 3 rfl) hb) ?_
  refine AH (post := fun _ => [Bx (L.take q.1), As 5 1 encB q.2.1 q.2.2, Bx (L.drop (q.1 + 1)), cell g1 99 #[.int .i64 2, .string (bs n), .slice A 0 c, .int .i64 0, .string (bs m_)], BH encKey AM v (BX L n), X]) rfl rfl (OS 4 Dh rfl n rfl rfl rfl rfl) ?_; rintro ⟨⟩
  refine Aa ?_
  refine AX [0, 2] rfl (Qn hq) rfl ?_
  rcases hq2 : E1 m_ (BX L n) 0 with _ | q2
  · skip
    refine Br ?_
    refine Ae Ak rfl ?_
    refine Ab rfl (.string (bs m_)) (fun b w hb hH => A6 rfl rfl (Bk Ba rfl) (hH.row 2 rfl) hb) ?_
    refine Ae Ak rfl ?_
    refine AH (post := fun _ => [Bx (BX L n), As 5 1 encB q.2.1 q.2.2, cell g1 99 #[.int .i64 2, .string (bs n), .slice A 0 c, .int .i64 0, .string (bs m_)], BH encKey AM v (BG (BX L n) m_ (q.2.1, q.2.2)), X]) rfl rfl (Jz 3 Dh rfl m_ (q.2.1, q.2.2) rfl rfl rfl rfl rfl rfl) ?_; rintro ⟨⟩
    refine AP (Bt ?_)
    exact CG  (fun w h => AB () rfl [3, 0, 1, 4] rfl h (LX hq2 (h_.symm.trans (Qo hq)))) rfl
  · skip
    refine AZ 0 rfl (GX hq2) (fun _ => rfl) ?_; rintro ⟨⟩
    refine Br ?_
    refine Ae Ak rfl ?_
    refine Ab rfl (.string (bs m_)) (fun b w hb hH => A6 rfl rfl (Bk Ba rfl) (hH.row 4 rfl) hb) ?_
    refine Ae Ak rfl ?_
    refine AH (post := fun _ => [Bx ((BX L n).take q2.1), As 5 1 encB q2.2.1 q2.2.2, Bx ((BX L n).drop (q2.1 + 1)), As 5 1 encB q.2.1 q.2.2, cell g1 99 #[.int .i64 2, .string (bs n), .slice A 0 c, .int .i64 0, .string (bs m_)], BH encKey AM v (BG (BX L n) m_ (q.2.1, q.2.2)), X]) rfl rfl (Jz 5 Dh rfl m_ (q.2.1, q.2.2) rfl rfl rfl rfl rfl rfl) ?_; rintro ⟨⟩
    refine AP (Bt ?_)
    exact CG  (fun w h => AB () rfl [5, 0, 3, 2, 6] rfl h (JH hq2 (h_.symm.trans (Qo hq)))) rfl
theorem SV {X : Ass} {v : Value} {f f' : FS} {x : OpV} (ho : LB f x.o) (hX : CX X x.v x.o.data) (hl : AK f + x.o.size ≤ 4398046511104) (h : AI f x.o = f') : AU Tryz.prog 68 #[v, .agg (encO x).toArray] [AA v f, X] (fun _ : Unit => .tuple #[]) (fun _ => [AA v f', X]) := by
  obtain ⟨o, A, c⟩ := x
  cases o with
  | app n b => exact SU hX hl h
  | cut n s => obtain ⟨y, h1, h2⟩ := ho; exact Vz h1 h2 h
  | ren a b => obtain ⟨⟨y, h1⟩, _⟩ := ho; exact VA h1 h
  | del n => exact Vy h
end Go.Proofs.YtnknboibmifacaaGreat.Sep
