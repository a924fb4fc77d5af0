/-
  RdkF · RdkG
-/
import Derived.Test.YtjcfimmcogkopaaGreatYP01
set_option linter.unusedSimpArgs false
set_option linter.unusedVariables false
set_option maxRecDepth 100000
namespace Go.Proofs.YtjcfimmcogkopaaGreat.Sep
open Go.RowKit
open Go.Proofs.YtjcfimmcogkopaaGreat.Mem (AZ Ci Chg Au)
theorem M2 {f : FS} {n x : List UInt8} : (Bx f n x).length = if (AL f n).isSome = true then f.length else f.length + 1 := by
  cases e : AL f n with
  | none => rw [ES e]; simp
  | some y =>
    have h := congrArg List.length (IA (x := x) e)
    simp only [AH, List.length_map] at h
    rw [h]; simp
theorem Q7 {f : FS} {n x : List UInt8} (h : AL f n = some x) : (BR f n).length + 1 = f.length := by
 obtain ⟨q, h1, h2⟩ := KQ h
 have h3 := Dt h1
 unfold BR
 rw [h1]
 have h4 := (List.getElem?_eq_some_iff.1 h3.2).1
 simp only [Nat.sub_zero] at h4
 rw [List.length_eraseIdx, if_pos h4]
 omega
theorem Qd {f : FS} {n : List UInt8} : (BR f n).length ≤ f.length := by
  cases e : AL f n with
  | none => rw [KC e]; exact Nat.le_refl _
  | some x => have := Q7 e; omega
theorem Lf {f : FS} {o : OpD} (hf : f.length ≤ 64) (happ : ∀ n b, o = .app n b → AL f n = none → f.length < 64) : (AP f o).length ≤ 64 := by
  cases o with
  | app n b =>
    show (Bx f n _).length ≤ 64
    rw [M2]
    split
    · exact hf
    · rename_i h
      have := happ n b rfl (by simpa using h)
      omega
  | cut n s =>
    show (match AL f n with | some x => Bx f n (x.take s) | none => f).length ≤ 64
    cases e : AL f n with
    | none => exact hf
    | some x =>
      simp only
      rw [M2, e]
      simpa using hf
  | ren a b =>
    show (match AL f a with | some x => Bx (BR f a) b x | none => f).length ≤ 64
    cases e : AL f a with
    | none => exact hf
    | some x =>
      simp only
      have := Q7 e
      rw [M2]
      split <;> omega
  | del n => exact Nat.le_trans Qd hf
theorem FP {d d1 : DiskD} (h : Bj d = (d1, 0)) : d1.down = false ∧ d1.syn = d.syn ∧ d1.wait = d.wait ∧ d1.room = d.room := by
  rcases Fi d with ⟨hdn, hb⟩ | ⟨hdn, hz, hb⟩ | ⟨hdn, k, hz, hb⟩ | ⟨hdn, hz, hb⟩
  · rw [hb] at h; cases (Prod.mk.inj h).2
  · rw [hb] at h; cases (Prod.mk.inj h).2
  · rw [hb] at h; obtain ⟨rfl, _⟩ := Prod.mk.inj h; exact ⟨hdn, rfl, rfl, rfl⟩
  · rw [hb] at h; obtain ⟨rfl, _⟩ := Prod.mk.inj h; exact ⟨hdn, rfl, rfl, rfl⟩
theorem Ic {d d1 : DiskD} {e : Nat} (h : Bj d = (d1, e)) (hf : d.fit) : d1.fit := by
 rcases Fi d with ⟨_, hb⟩ | ⟨_, _, hb⟩ | ⟨_, k, _, hb⟩ | ⟨_, _, hb⟩ <;> (rw [hb] at h; obtain ⟨rfl, _⟩ := Prod.mk.inj h; exact hf)
theorem RDk.now64 {d : DiskD} (x : RDk d) : d.now.length ≤ 64 ∧ x.nl.length = d.now.length := by
 have h2 := x.pn.length_eq
 unfold FT at h2
 rw [List.length_map] at h2
 have := x.nlen
 omega
theorem Vh {d : DiskD} {n b : List UInt8} (h : D8 d n b = false) : d.room < (b.length : Int) ∨ ((b.length : Int) ≤ d.room ∧ d.room - (b.length : Int) < ((AF d.now : Nat) : Int)) ∨ ((b.length : Int) ≤ d.room ∧ ((AF d.now : Nat) : Int) ≤ d.room - (b.length : Int) ∧ AL d.now n = none ∧ 64 ≤ d.now.length) := by
  unfold D8 at h
  rw [Bool.and_eq_false_iff] at h
  rcases h with h | h
  · simp only [decide_eq_false_iff_not] at h
    omega
  · simp only [Bool.not_eq_false', Bool.and_eq_true, decide_eq_true_eq, Option.isNone_iff_eq_none] at h
    by_cases h1 : (b.length : Int) ≤ d.room
    · by_cases h2 : ((AF d.now : Nat) : Int) ≤ d.room - (b.length : Int)
      · exact .inr (.inr ⟨h1, h2, h.1, h.2⟩)
      · exact .inr (.inl ⟨h1, by omega⟩)
    · exact .inl (by omega)
theorem Lg {d : DiskD} {n b : List UInt8} (h : D8 d n b = true) : (b.length : Int) ≤ d.room ∧ ((AF d.now : Nat) : Int) ≤ d.room - (b.length : Int) ∧ ((∃ y, AL d.now n = some y) ∨ (AL d.now n = none ∧ d.now.length < 64)) := by
  unfold D8 at h
  rw [Bool.and_eq_true, decide_eq_true_eq] at h
  refine ⟨by omega, by omega, ?_⟩
  cases e : AL d.now n with
  | some y => exact .inl ⟨y, rfl⟩
  | none =>
    have h2 := h.2
    rw [e] at h2
    simp at h2
    exact .inr ⟨rfl, h2⟩
theorem Vi {p : Nat} {d d' : DiskD} {n b : List UInt8} {e : Nat} {X : Ass} {v : Value} (hf : d.fit) (hrm : 0 ≤ d.room ∧ d.room ≤ 1048576) (hX : Cu X v b) (hbl : b.length ≤ 140737488355328) (hnl : n.length ≤ 9223372036854775807) (h : Cc d n b = (d', e)) : AW Tryz.prog 23 #[.pointer (some ⟨p, 0, none⟩), .string (bs n), v] [AB p d, X] (fun (_ : Unit) => .int .i64 (e : Int)) (fun (_ : Unit) => [AB p d', X]) := by
  refine Be (args := [.pointer (some ⟨p, 0, none⟩), .string (bs n), v]) 59 Tryz.func23 rfl rfl rfl ?_; intro w rs
  obtain ⟨⟨d1, e1⟩, hb⟩ : ∃ R, Bj d = R := ⟨_, rfl⟩
  have hf1 := Ic hb hf
  unfold Cc at h
  rw [hb] at h; simp only at h
  refine Ad (Af Ai rfl (Ab (Aq (Ad (Af Ai rfl (Aj rfl (Am (os' := fun _ => [AB p d1, X]) [0] 0 (Ag Tryz.func32 (by kernel_rfl) rfl) (M1 hb) rfl rfl rfl (fun _ => rfl) rfl rfl rfl) ?_)))))); rintro ⟨⟩
  refine Af Ai rfl (Ab ?_)
  rcases Nat.eq_zero_or_pos e1 with he1 | he1
  rcases hnm : Cv n with _ | _
  rotate_left
  rcases hft : D8 d1 n b with _ | _
  subst he1
  rw [if_neg (by simp), if_neg (by simp [hnm]), hft, if_pos rfl] at h
  obtain ⟨rfl, rfl⟩ := Prod.mk.inj h
  obtain ⟨hdn, hs1, hw1, hr1⟩ := FP hb
  obtain ⟨fu, hfu⟩ : ∃ fu, d1.fuse.isSome = fu := ⟨_, rfl⟩
  refine Ad (Af Ai rfl (Ac rfl (.bool false) (fun b w hb hH => Bc rfl rfl rfl (AK (by omega)) hb) (Ab (Aw rfl (AC (AO (Aq (Ad (Af Ai rfl (Aj (post := fun _ => [AB p d1, X]) rfl (Bg (Ag Tryz.func65 (by kernel_rfl) rfl) (fun w hH => Ub w n true hnm (by omega)) rfl rfl rfl) ?_)))))))))); rintro ⟨⟩
  refine Af Ai rfl (Ab (Aw rfl (AC (AO (Aq ?_)))))
  rcases Vh hft with h1 | ⟨h1, h2⟩ | ⟨h1, h2, hg, h3⟩
  refine Bd 0 rfl (Dl hfu hdn) (fun _ => rfl) ?_; rintro x
  refine Aq ?_
  refine BK 36 0 [⟨.quiet, [], fun _ => v, []⟩, ⟨.quiet, [], fun _ => .int .i64 (b.length : Int), [0]⟩, ⟨.quiet, [], fun _ => .pointer (some ⟨p, 0, none⟩), []⟩, ⟨.quiet, [], fun _ => .pointer (some ⟨p, 0, none⟩), [2]⟩, ⟨.quiet, [], fun _ => .pointer (some ⟨p, 0, none⟩), [3]⟩, ⟨.quiet, [], fun _ => .int .i64 d1.room, [4]⟩, ⟨.quiet, [], fun _ => .bool true, [1, 5]⟩, ⟨.quiet, [], fun _ => .bool true, [6]⟩, ⟨.skip, [], fun _ => undef, [7]⟩, ⟨.skip, [], fun _ => undef, [8, 7]⟩, ⟨.skip, [], fun _ => undef, [7]⟩, ⟨.skip, [], fun _ => undef, [10, 7]⟩, ⟨.skip, [], fun _ => undef, [11, 7]⟩, ⟨.skip, [], fun _ => undef, [12, 7]⟩, ⟨.skip, [], fun _ => undef, [7]⟩, ⟨.skip, [], fun _ => undef, [14, 7]⟩, ⟨.skip, [], fun _ => undef, [13, 15, 7]⟩, ⟨.skip, [], fun _ => undef, [9, 16, 7]⟩, ⟨.quiet, [], fun _ => .bool true, [7, 17]⟩, ⟨.quiet, [], fun _ => .bool true, [18]⟩, ⟨.skip, [], fun _ => undef, [19]⟩, ⟨.skip, [], fun _ => undef, [20, 19]⟩, ⟨.skip, [], fun _ => undef, [21, 19]⟩, ⟨.skip, [], fun _ => undef, [22, 19]⟩, ⟨.skip, [], fun _ => undef, [19]⟩, ⟨.skip, [], fun _ => undef, [23, 24, 19]⟩, ⟨.skip, [], fun _ => undef, [25, 19]⟩, ⟨.skip, [], fun _ => undef, [26, 19]⟩, ⟨.skip, [], fun _ => undef, [27]⟩, ⟨.skip, [], fun _ => undef, [28, 27]⟩, ⟨.skip, [], fun _ => undef, [29, 27]⟩, ⟨.skip, [], fun _ => undef, [30, 27]⟩, ⟨.skip, [], fun _ => undef, [31, 27]⟩, ⟨.skip, [], fun _ => undef, [32, 27]⟩, ⟨.skip, [], fun _ => undef, [27, 33, 19]⟩, ⟨.quiet, [], fun _ => .bool true, [19, 34]⟩] [(0, .pointer (some ⟨p, 0, none⟩)), (1, .string (bs n)), (2, v), (6, .int .i64 0)] (fun _ => [cell p 61 #[.int .i64 d1.room, x.sv, x.nv, x.wv, .bool fu, .int .i64 x.fz, .bool false], x.F, x.Y, Ap 107 5 encRO x.wv x.W, X]) (by kernel_rfl) (by kernel_rfl) ⟨rfl, rfl, rfl, rfl, trivial⟩ rfl ?_ ?_
  refine Aa (by exact ⟨rfl, fun b w hH hb => Ae Ai rfl hb⟩) (Aa (by exact ⟨rfl, fun b w hH hb => AY (((hH.rd8 4 rfl hX).rd)) Tryz.underlying32 rfl rfl hb⟩) (Aa (by exact ⟨rfl, fun b w hH hb => Ae Ai rfl hb⟩) (Aa (by exact ⟨rfl, fun b w hH hb => by exact BQ rfl rfl hb⟩) (Aa (by exact ⟨rfl, fun b w hH hb => Ae Ai rfl hb⟩) (Aa (by exact ⟨rfl, fun b w hH hb => Bb rfl rfl (Bn Bt rfl) (hH.row 0 rfl) hb⟩) (Aa (by exact ⟨rfl, fun b w hH hb => Bc rfl rfl rfl (B4 (by omega)) hb⟩) (Aa (by exact ⟨rfl, fun b w hH hb => Ae Ai rfl hb⟩) (Aa (by exact ⟨rfl, rfl⟩) (Aa (by exact ⟨rfl, rfl⟩) ?_)))))))))
  refine Aa (by exact ⟨rfl, rfl⟩) (Aa (by exact ⟨rfl, rfl⟩) (Aa (by exact ⟨rfl, rfl⟩) (Aa (by exact ⟨rfl, rfl⟩) (Aa (by exact ⟨rfl, rfl⟩) (Aa (by exact ⟨rfl, rfl⟩) (Aa (by exact ⟨rfl, rfl⟩) (Aa (by exact ⟨rfl, rfl⟩) (Aa (by exact ⟨rfl, fun b w hH hb => Ae Ai rfl hb⟩) (Aa (by exact ⟨rfl, fun b w hH hb => Ae Ai rfl hb⟩) ?_)))))))))
  refine Aa (by exact ⟨rfl, rfl⟩) (Aa (by exact ⟨rfl, rfl⟩) (Aa (by exact ⟨rfl, rfl⟩) (Aa (by exact ⟨rfl, rfl⟩) (Aa (by exact ⟨rfl, rfl⟩) (Aa (by exact ⟨rfl, rfl⟩) (Aa (by exact ⟨rfl, rfl⟩) (Aa (by exact ⟨rfl, rfl⟩) (Aa (by exact ⟨rfl, rfl⟩) (Aa (by exact ⟨rfl, rfl⟩) ?_)))))))))
  refine Aa (by exact ⟨rfl, rfl⟩) (Aa (by exact ⟨rfl, rfl⟩) (Aa (by exact ⟨rfl, rfl⟩) (Aa (by exact ⟨rfl, rfl⟩) (Aa (by exact ⟨rfl, rfl⟩) (Aa (by exact ⟨rfl, fun b w hH hb => Ae Ai rfl hb⟩) ?_)))))
  exact Cf
  refine Ce.keep (env' := [(0, .pointer (some ⟨p, 0, none⟩)), (1, .string (bs n)), (2, v), (6, .int .i64 0), (51, .bool true)]) ⟨rfl, rfl, rfl, rfl, rfl, trivial⟩ (Bi (AO (AI rfl (Bk [0, 1, 2, 3] rfl (Cz x hfu hdn) rfl (Ad (Af Ai rfl (Ab (Av (C0 ?_)))))))))
  exact As (.tmp rfl) (fun w h => AG () rfl [0, 1] rfl h CV) rfl
  refine Bd 0 rfl (Dl hfu hdn) (fun _ => rfl) ?_; rintro x
  refine Aq ?_
  refine BK 36 1 [⟨.quiet, [none], fun _ => v, []⟩, ⟨.quiet, [none], fun _ => .int .i64 (b.length : Int), [0]⟩, ⟨.quiet, [none], fun _ => .pointer (some ⟨p, 0, none⟩), []⟩, ⟨.quiet, [none], fun _ => .pointer (some ⟨p, 0, none⟩), [2]⟩, ⟨.quiet, [none], fun _ => .pointer (some ⟨p, 0, none⟩), [3]⟩, ⟨.quiet, [none], fun _ => .int .i64 d1.room, [4]⟩, ⟨.quiet, [none], fun _ => .bool false, [1, 5]⟩, ⟨.quiet, [none], fun _ => .bool false, [6]⟩, ⟨.quiet, [none], fun _ => .pointer (some ⟨p, 0, none⟩), [7]⟩, ⟨.actv 0, [some false], fun _ => .int .i64 ((AF d1.now : Nat) : Int), [8, 7]⟩, ⟨.quiet, [none], fun _ => .pointer (some ⟨p, 0, none⟩), [7]⟩, ⟨.quiet, [none], fun _ => .pointer (some ⟨p, 0, none⟩), [10, 7]⟩, ⟨.quiet, [none], fun _ => .pointer (some ⟨p, 0, none⟩), [11, 7]⟩, ⟨.quiet, [none], fun _ => .int .i64 d1.room, [12, 7]⟩, ⟨.quiet, [none], fun _ => v, [7]⟩, ⟨.quiet, [none], fun _ => .int .i64 (b.length : Int), [14, 7]⟩, ⟨.quiet, [none], fun _ => .int .i64 (d1.room - (b.length : Int)), [13, 15, 7]⟩, ⟨.quiet, [some true], fun _ => .bool true, [9, 16, 7]⟩, ⟨.quiet, [some true], fun _ => .bool true, [7, 17]⟩, ⟨.quiet, [some true], fun _ => .bool true, [18]⟩, ⟨.skip, [some true], fun _ => undef, [19]⟩, ⟨.skip, [some true], fun _ => undef, [20, 19]⟩, ⟨.skip, [some true], fun _ => undef, [21, 19]⟩, ⟨.skip, [some true], fun _ => undef, [22, 19]⟩, ⟨.skip, [some true], fun _ => undef, [19]⟩, ⟨.skip, [some true], fun _ => undef, [23, 24, 19]⟩, ⟨.skip, [some true], fun _ => undef, [25, 19]⟩, ⟨.skip, [some true], fun _ => undef, [26, 19]⟩, ⟨.skip, [some true], fun _ => undef, [27]⟩, ⟨.skip, [some true], fun _ => undef, [28, 27]⟩, ⟨.skip, [some true], fun _ => undef, [29, 27]⟩, ⟨.skip, [some true], fun _ => undef, [30, 27]⟩, ⟨.skip, [some true], fun _ => undef, [31, 27]⟩, ⟨.skip, [some true], fun _ => undef, [32, 27]⟩, ⟨.skip, [some true], fun _ => undef, [27, 33, 19]⟩, ⟨.quiet, [some true], fun _ => .bool true, [19, 34]⟩] [(0, .pointer (some ⟨p, 0, none⟩)), (1, .string (bs n)), (2, v), (6, .int .i64 0)] (fun ρ => match ρ with | [r0] => [cell p 61 #[.int .i64 d1.room, x.sv, x.nv, x.wv, .bool fu, .int .i64 x.fz, .bool false], x.F, x.Y, Ap 107 5 encRO x.wv x.W, X] | _ => []) (by kernel_rfl) (by kernel_rfl) ⟨rfl, rfl, rfl, rfl, trivial⟩ rfl ?_ ?_
  refine Aa (by intro r0_; exact ⟨rfl, fun b w hH hb => Ae Ai rfl hb⟩) (Aa (by intro r0_; exact ⟨rfl, fun b w hH hb => AY (((hH.rd8 4 rfl hX).rd)) Tryz.underlying32 rfl rfl hb⟩) (Aa (by intro r0_; exact ⟨rfl, fun b w hH hb => Ae Ai rfl hb⟩) (Aa (by intro r0_; exact ⟨rfl, fun b w hH hb => by exact BQ rfl rfl hb⟩) (Aa (by intro r0_; exact ⟨rfl, fun b w hH hb => Ae Ai rfl hb⟩) (Aa (by intro r0_; exact ⟨rfl, fun b w hH hb => Bb rfl rfl (Bn Bt rfl) (hH.row 0 rfl) hb⟩) (Aa (by intro r0_; exact ⟨rfl, fun b w hH hb => Bc rfl rfl rfl (BE (by omega)) hb⟩) (Aa (by intro r0_; exact ⟨rfl, fun b w hH hb => Ae Ai rfl hb⟩) (Aa (by intro r0_; exact ⟨rfl, fun b w hH hb => Ae Ai rfl hb⟩) (Aa (by exact ⟨rfl, Bq.su (Am (os' := fun _ => [cell p 61 #[.int .i64 d1.room, x.sv, x.nv, x.wv, .bool fu, .int .i64 x.fz, .bool false], x.F, x.Y, Ap 107 5 encRO x.wv x.W, X]) [0, 1] 0 (Ag Tryz.func56 (by kernel_rfl) rfl) (Le x hf1) rfl rfl rfl (fun _ => rfl) rfl rfl rfl) rfl⟩) ?_)))))))))
  refine Aa (by intro r0_; exact ⟨rfl, fun b w hH hb => Ae Ai rfl hb⟩) (Aa (by intro r0_; exact ⟨rfl, fun b w hH hb => by exact BQ rfl rfl hb⟩) (Aa (by intro r0_; exact ⟨rfl, fun b w hH hb => Ae Ai rfl hb⟩) (Aa (by intro r0_; exact ⟨rfl, fun b w hH hb => Bb rfl rfl (Bn Bt rfl) (hH.row 0 rfl) hb⟩) (Aa (by intro r0_; exact ⟨rfl, fun b w hH hb => Ae Ai rfl hb⟩) (Aa (by intro r0_; exact ⟨rfl, fun b w hH hb => AY (((hH.rd8 4 rfl hX).rd)) Tryz.underlying32 rfl rfl hb⟩) (Aa (by intro r0_; exact ⟨rfl, fun b w hH hb => AS rfl rfl rfl rfl (IntWalk.i64_in _ (by omega)) hb⟩) (Aa (by intro v0_; exact ⟨rfl, fun b w hH hb => Bc rfl rfl rfl (B4 (by omega)) hb⟩) (Aa (by intro v0_; exact ⟨rfl, fun b w hH hb => Ae Ai rfl hb⟩) (Aa (by intro v0_; exact ⟨rfl, fun b w hH hb => Ae Ai rfl hb⟩) ?_)))))))))
  refine Aa (by intro v0_; exact ⟨rfl, rfl⟩) (Aa (by intro v0_; exact ⟨rfl, rfl⟩) (Aa (by intro v0_; exact ⟨rfl, rfl⟩) (Aa (by intro v0_; exact ⟨rfl, rfl⟩) (Aa (by intro v0_; exact ⟨rfl, rfl⟩) (Aa (by intro v0_; exact ⟨rfl, rfl⟩) (Aa (by intro v0_; exact ⟨rfl, rfl⟩) (Aa (by intro v0_; exact ⟨rfl, rfl⟩) (Aa (by intro v0_; exact ⟨rfl, rfl⟩) (Aa (by intro v0_; exact ⟨rfl, rfl⟩) ?_)))))))))
  refine Aa (by intro v0_; exact ⟨rfl, rfl⟩) (Aa (by intro v0_; exact ⟨rfl, rfl⟩) (Aa (by intro v0_; exact ⟨rfl, rfl⟩) (Aa (by intro v0_; exact ⟨rfl, rfl⟩) (Aa (by intro v0_; exact ⟨rfl, rfl⟩) (Aa (by intro v0_; exact ⟨rfl, fun b w hH hb => Ae Ai rfl hb⟩) ?_)))))
  exact Cf
  intro v0_
  refine Ce.keep (env' := [(0, .pointer (some ⟨p, 0, none⟩)), (1, .string (bs n)), (2, v), (6, .int .i64 0), (51, .bool true)]) ⟨rfl, rfl, rfl, rfl, rfl, trivial⟩ (Bi (AO (AI rfl (Bk [0, 1, 2, 3] rfl (Cz x hfu hdn) rfl (Ad (Af Ai rfl (Ab (Av (C0 ?_)))))))))
  exact As (.tmp rfl) (fun w h => AG () rfl [0, 1] rfl h CV) rfl
  refine Bd 0 rfl (Dl hfu hdn) (fun _ => rfl) ?_; rintro x
  have hn64 := x.now64
  refine Aq ?_
  refine BK 36 2 [⟨.quiet, [none, none], fun _ => v, []⟩, ⟨.quiet, [none, none], fun _ => .int .i64 (b.length : Int), [0]⟩, ⟨.quiet, [none, none], fun _ => .pointer (some ⟨p, 0, none⟩), []⟩, ⟨.quiet, [none, none], fun _ => .pointer (some ⟨p, 0, none⟩), [2]⟩, ⟨.quiet, [none, none], fun _ => .pointer (some ⟨p, 0, none⟩), [3]⟩, ⟨.quiet, [none, none], fun _ => .int .i64 d1.room, [4]⟩, ⟨.quiet, [none, none], fun _ => .bool false, [1, 5]⟩, ⟨.quiet, [none, none], fun _ => .bool false, [6]⟩, ⟨.quiet, [none, none], fun _ => .pointer (some ⟨p, 0, none⟩), [7]⟩, ⟨.actv 0, [some false, some false], fun _ => .int .i64 ((AF d1.now : Nat) : Int), [8, 7]⟩, ⟨.quiet, [none, none], fun _ => .pointer (some ⟨p, 0, none⟩), [7]⟩, ⟨.quiet, [none, none], fun _ => .pointer (some ⟨p, 0, none⟩), [10, 7]⟩, ⟨.quiet, [none, none], fun _ => .pointer (some ⟨p, 0, none⟩), [11, 7]⟩, ⟨.quiet, [none, none], fun _ => .int .i64 d1.room, [12, 7]⟩, ⟨.quiet, [none, none], fun _ => v, [7]⟩, ⟨.quiet, [none, none], fun _ => .int .i64 (b.length : Int), [14, 7]⟩, ⟨.quiet, [none, none], fun _ => .int .i64 (d1.room - (b.length : Int)), [13, 15, 7]⟩, ⟨.quiet, [some true, none], fun _ => .bool false, [9, 16, 7]⟩, ⟨.quiet, [some true, none], fun _ => .bool false, [7, 17]⟩, ⟨.quiet, [some true, none], fun _ => .bool false, [18]⟩, ⟨.quiet, [some true, none], fun _ => .pointer (some ⟨p, 0, none⟩), [19]⟩, ⟨.quiet, [some true, none], fun _ => .pointer (some ⟨p, 0, none⟩), [20, 19]⟩, ⟨.quiet, [some true, none], fun _ => .pointer (some ⟨p, 2, none⟩), [21, 19]⟩, ⟨.quiet, [some true, none], fun _ => x.nv, [22, 19]⟩, ⟨.quiet, [some true, none], fun _ => .string (bs n), [19]⟩, ⟨.actv 1, [some true, some false], fun _ => .int .i64 (-1), [23, 24, 19]⟩, ⟨.quiet, [some true, some true], fun _ => .bool true, [25, 19]⟩, ⟨.quiet, [some true, some true], fun _ => .bool true, [26, 19]⟩, ⟨.quiet, [some true, some true], fun _ => .pointer (some ⟨p, 0, none⟩), [27]⟩, ⟨.quiet, [some true, some true], fun _ => .pointer (some ⟨p, 0, none⟩), [28, 27]⟩, ⟨.quiet, [some true, some true], fun _ => .pointer (some ⟨p, 2, none⟩), [29, 27]⟩, ⟨.quiet, [some true, some true], fun _ => x.nv, [30, 27]⟩, ⟨.quiet, [some true, some true], fun _ => .int .i64 (x.nl.length : Int), [31, 27]⟩, ⟨.quiet, [some true, some true], fun _ => .bool true, [32, 27]⟩, ⟨.quiet, [some true, some true], fun _ => .bool true, [27, 33, 19]⟩, ⟨.quiet, [some true, some true], fun _ => .bool true, [19, 34]⟩] [(0, .pointer (some ⟨p, 0, none⟩)), (1, .string (bs n)), (2, v), (6, .int .i64 0)] (fun ρ => match ρ with | [r0, r1] => [cell p 61 #[.int .i64 d1.room, x.sv, x.nv, x.wv, .bool fu, .int .i64 x.fz, .bool false], x.F, x.Y, Ap 107 5 encRO x.wv x.W, X] | _ => []) (by kernel_rfl) (by kernel_rfl) ⟨rfl, rfl, rfl, rfl, trivial⟩ rfl ?_ ?_
  refine Aa (by intro r0_ r1_; exact ⟨rfl, fun b w hH hb => Ae Ai rfl hb⟩) (Aa (by intro r0_ r1_; exact ⟨rfl, fun b w hH hb => AY (((hH.rd8 4 rfl hX).rd)) Tryz.underlying32 rfl rfl hb⟩) (Aa (by intro r0_ r1_; exact ⟨rfl, fun b w hH hb => Ae Ai rfl hb⟩) (Aa (by intro r0_ r1_; exact ⟨rfl, fun b w hH hb => by exact BQ rfl rfl hb⟩) (Aa (by intro r0_ r1_; exact ⟨rfl, fun b w hH hb => Ae Ai rfl hb⟩) (Aa (by intro r0_ r1_; exact ⟨rfl, fun b w hH hb => Bb rfl rfl (Bn Bt rfl) (hH.row 0 rfl) hb⟩) (Aa (by intro r0_ r1_; exact ⟨rfl, fun b w hH hb => Bc rfl rfl rfl (BE (by omega)) hb⟩) (Aa (by intro r0_ r1_; exact ⟨rfl, fun b w hH hb => Ae Ai rfl hb⟩) (Aa (by intro r0_ r1_; exact ⟨rfl, fun b w hH hb => Ae Ai rfl hb⟩) (Aa (by exact ⟨rfl, Bq.su (Am (os' := fun _ => [cell p 61 #[.int .i64 d1.room, x.sv, x.nv, x.wv, .bool fu, .int .i64 x.fz, .bool false], x.F, x.Y, Ap 107 5 encRO x.wv x.W, X]) [0, 1] 0 (Ag Tryz.func56 (by kernel_rfl) rfl) (Le x hf1) rfl rfl rfl (fun _ => rfl) rfl rfl rfl) rfl⟩) ?_)))))))))
  refine Aa (by intro r0_ r1_; exact ⟨rfl, fun b w hH hb => Ae Ai rfl hb⟩) (Aa (by intro r0_ r1_; exact ⟨rfl, fun b w hH hb => by exact BQ rfl rfl hb⟩) (Aa (by intro r0_ r1_; exact ⟨rfl, fun b w hH hb => Ae Ai rfl hb⟩) (Aa (by intro r0_ r1_; exact ⟨rfl, fun b w hH hb => Bb rfl rfl (Bn Bt rfl) (hH.row 0 rfl) hb⟩) (Aa (by intro r0_ r1_; exact ⟨rfl, fun b w hH hb => Ae Ai rfl hb⟩) (Aa (by intro r0_ r1_; exact ⟨rfl, fun b w hH hb => AY (((hH.rd8 4 rfl hX).rd)) Tryz.underlying32 rfl rfl hb⟩) (Aa (by intro r0_ r1_; exact ⟨rfl, fun b w hH hb => AS rfl rfl rfl rfl (IntWalk.i64_in _ (by omega)) hb⟩) (Aa (by intro v0_ r1_; exact ⟨rfl, fun b w hH hb => Bc rfl rfl rfl (BE (by omega)) hb⟩) (Aa (by intro v0_ r1_; exact ⟨rfl, fun b w hH hb => Ae Ai rfl hb⟩) (Aa (by intro v0_ r1_; exact ⟨rfl, fun b w hH hb => Ae Ai rfl hb⟩) ?_)))))))))
  refine Aa (by intro v0_ r1_; exact ⟨rfl, fun b w hH hb => Ae Ai rfl hb⟩) (Aa (by intro v0_ r1_; exact ⟨rfl, fun b w hH hb => by exact BQ rfl rfl hb⟩) (Aa (by intro v0_ r1_; exact ⟨rfl, fun b w hH hb => Ae Ai rfl hb⟩) (Aa (by intro v0_ r1_; exact ⟨rfl, fun b w hH hb => Bb rfl rfl (Bn AD rfl) (hH.row 0 rfl) hb⟩) (Aa (by intro v0_ r1_; exact ⟨rfl, fun b w hH hb => Ae Ai rfl hb⟩) (Aa (by intro v0_; exact ⟨rfl, Bq.su (Am (os' := fun _ => [cell p 61 #[.int .i64 d1.room, x.sv, x.nv, x.wv, .bool fu, .int .i64 x.fz, .bool false], x.F, x.Y, Ap 107 5 encRO x.wv x.W, X]) [1] 0 (Ag Tryz.func66 (by kernel_rfl) rfl) (DP x.rn (by omega) (x.no_ hg)) rfl rfl rfl (fun _ => rfl) rfl rfl rfl) rfl⟩) (Aa (by intro v0_ v1_; exact ⟨rfl, fun b w hH hb => Bc rfl rfl rfl (BN (by omega)) hb⟩) (Aa (by intro v0_ v1_; exact ⟨rfl, fun b w hH hb => Ae Ai rfl hb⟩) (Aa (by intro v0_ v1_; exact ⟨rfl, fun b w hH hb => Ae Ai rfl hb⟩) (Aa (by intro v0_ v1_; exact ⟨rfl, fun b w hH hb => by exact BQ rfl rfl hb⟩) ?_)))))))))
  refine Aa (by intro v0_ v1_; exact ⟨rfl, fun b w hH hb => Ae Ai rfl hb⟩) (Aa (by intro v0_ v1_; exact ⟨rfl, fun b w hH hb => Bb rfl rfl (Bn AD rfl) (hH.row 0 rfl) hb⟩) (Aa (by intro v0_ v1_; exact ⟨rfl, fun b w hH hb => AY ((hH.rdFs 1 rfl x.rn)) Tryz.underlying55 rfl rfl hb⟩) (Aa (by intro v0_ v1_; exact ⟨rfl, fun b w hH hb => Bc rfl rfl rfl (B5 (by omega)) hb⟩) (Aa (by intro v0_ v1_; exact ⟨rfl, fun b w hH hb => Ae Ai rfl hb⟩) (Aa (by intro v0_ v1_; exact ⟨rfl, fun b w hH hb => Ae Ai rfl hb⟩) ?_)))))
  exact Cf
  intro v0_ v1_
  refine Ce.keep (env' := [(0, .pointer (some ⟨p, 0, none⟩)), (1, .string (bs n)), (2, v), (6, .int .i64 0), (51, .bool true)]) ⟨rfl, rfl, rfl, rfl, rfl, trivial⟩ (Bi (AO (AI rfl (Bk [0, 1, 2, 3] rfl (Cz x hfu hdn) rfl (Ad (Af Ai rfl (Ab (Av (C0 ?_)))))))))
  exact As (.tmp rfl) (fun w h => AG () rfl [0, 1] rfl h CV) rfl
  subst he1
  rw [if_neg (by simp), if_neg (by simp [hnm]), hft, if_neg (by simp)] at h
  obtain ⟨rfl, rfl⟩ := Prod.mk.inj h
  obtain ⟨h1, h2, h3⟩ := Lg hft
  obtain ⟨hdn, hs1, hw1, hr1⟩ := FP hb
  obtain ⟨fu, hfu⟩ : ∃ fu, d1.fuse.isSome = fu := ⟨_, rfl⟩
  refine Ad (Af Ai rfl (Ac rfl (.bool false) (fun b w hb hH => Bc rfl rfl rfl (AK (by omega)) hb) (Ab (Aw rfl (AC (AO (Aq (Ad (Af Ai rfl (Aj (post := fun _ => [AB p d1, X]) rfl (Bg (Ag Tryz.func65 (by kernel_rfl) rfl) (fun w hH => Ub w n true hnm (by omega)) rfl rfl rfl) ?_)))))))))); rintro ⟨⟩
  refine Af Ai rfl (Ab (Aw rfl (AC (AO (Aq ?_)))))
  rcases h3 with ⟨y0, hg⟩ | ⟨hg, h3⟩
  refine Bd 0 rfl (Dl hfu hdn) (fun _ => rfl) ?_; rintro x
  have hn64 := x.now64
  obtain ⟨j, q, hj, hq, hlt, hqb, hm⟩ := x.yes_ hg
  have hok : MM d1.now (.app n b) := hnm
  have hfew := Lf (o := .app n b) hn64.1 (fun m c e hg2 => by cases e; rw [hg] at hg2; cases hg2)
  have hyl : (OpD.data (.app n b)).length ≤ 1099511627776 := by show b.length ≤ _; omega
  refine Aq ?_
  refine BK 36 2 [⟨.quiet, [none, none], fun _ => v, []⟩, ⟨.quiet, [none, none], fun _ => .int .i64 (b.length : Int), [0]⟩, ⟨.quiet, [none, none], fun _ => .pointer (some ⟨p, 0, none⟩), []⟩, ⟨.quiet, [none, none], fun _ => .pointer (some ⟨p, 0, none⟩), [2]⟩, ⟨.quiet, [none, none], fun _ => .pointer (some ⟨p, 0, none⟩), [3]⟩, ⟨.quiet, [none, none], fun _ => .int .i64 d1.room, [4]⟩, ⟨.quiet, [none, none], fun _ => .bool false, [1, 5]⟩, ⟨.quiet, [none, none], fun _ => .bool false, [6]⟩, ⟨.quiet, [none, none], fun _ => .pointer (some ⟨p, 0, none⟩), [7]⟩, ⟨.actv 0, [some false, some false], fun _ => .int .i64 ((AF d1.now : Nat) : Int), [8, 7]⟩, ⟨.quiet, [none, none], fun _ => .pointer (some ⟨p, 0, none⟩), [7]⟩, ⟨.quiet, [none, none], fun _ => .pointer (some ⟨p, 0, none⟩), [10, 7]⟩, ⟨.quiet, [none, none], fun _ => .pointer (some ⟨p, 0, none⟩), [11, 7]⟩, ⟨.quiet, [none, none], fun _ => .int .i64 d1.room, [12, 7]⟩, ⟨.quiet, [none, none], fun _ => v, [7]⟩, ⟨.quiet, [none, none], fun _ => .int .i64 (b.length : Int), [14, 7]⟩, ⟨.quiet, [none, none], fun _ => .int .i64 (d1.room - (b.length : Int)), [13, 15, 7]⟩, ⟨.quiet, [some true, none], fun _ => .bool false, [9, 16, 7]⟩, ⟨.quiet, [some true, none], fun _ => .bool false, [7, 17]⟩, ⟨.quiet, [some true, none], fun _ => .bool false, [18]⟩, ⟨.quiet, [some true, none], fun _ => .pointer (some ⟨p, 0, none⟩), [19]⟩, ⟨.quiet, [some true, none], fun _ => .pointer (some ⟨p, 0, none⟩), [20, 19]⟩, ⟨.quiet, [some true, none], fun _ => .pointer (some ⟨p, 2, none⟩), [21, 19]⟩, ⟨.quiet, [some true, none], fun _ => x.nv, [22, 19]⟩, ⟨.quiet, [some true, none], fun _ => .string (bs n), [19]⟩, ⟨.actv 1, [some true, some false], fun _ => .int .i64 (j : Int), [23, 24, 19]⟩, ⟨.quiet, [some true, some true], fun _ => .bool false, [25, 19]⟩, ⟨.quiet, [some true, some true], fun _ => .bool false, [26, 19]⟩, ⟨.skip, [some true, some true], fun _ => undef, [27]⟩, ⟨.skip, [some true, some true], fun _ => undef, [28, 27]⟩, ⟨.skip, [some true, some true], fun _ => undef, [29, 27]⟩, ⟨.skip, [some true, some true], fun _ => undef, [30, 27]⟩, ⟨.skip, [some true, some true], fun _ => undef, [31, 27]⟩, ⟨.skip, [some true, some true], fun _ => undef, [32, 27]⟩, ⟨.quiet, [some true, some true], fun _ => .bool false, [27, 33, 19]⟩, ⟨.quiet, [some true, some true], fun _ => .bool false, [19, 34]⟩] [(0, .pointer (some ⟨p, 0, none⟩)), (1, .string (bs n)), (2, v), (6, .int .i64 0)] (fun ρ => match ρ with | [r0, r1] => [cell p 61 #[.int .i64 d1.room, x.sv, x.nv, x.wv, .bool fu, .int .i64 x.fz, .bool false], x.F, x.Y, Ap 107 5 encRO x.wv x.W, X] | _ => []) (by kernel_rfl) (by kernel_rfl) ⟨rfl, rfl, rfl, rfl, trivial⟩ rfl ?_ ?_
  refine Aa (by intro r0_ r1_; exact ⟨rfl, fun b w hH hb => Ae Ai rfl hb⟩) (Aa (by intro r0_ r1_; exact ⟨rfl, fun b w hH hb => AY (((hH.rd8 4 rfl hX).rd)) Tryz.underlying32 rfl rfl hb⟩) (Aa (by intro r0_ r1_; exact ⟨rfl, fun b w hH hb => Ae Ai rfl hb⟩) (Aa (by intro r0_ r1_; exact ⟨rfl, fun b w hH hb => by exact BQ rfl rfl hb⟩) (Aa (by intro r0_ r1_; exact ⟨rfl, fun b w hH hb => Ae Ai rfl hb⟩) (Aa (by intro r0_ r1_; exact ⟨rfl, fun b w hH hb => Bb rfl rfl (Bn Bt rfl) (hH.row 0 rfl) hb⟩) (Aa (by intro r0_ r1_; exact ⟨rfl, fun b w hH hb => Bc rfl rfl rfl (BE (by omega)) hb⟩) (Aa (by intro r0_ r1_; exact ⟨rfl, fun b w hH hb => Ae Ai rfl hb⟩) (Aa (by intro r0_ r1_; exact ⟨rfl, fun b w hH hb => Ae Ai rfl hb⟩) (Aa (by exact ⟨rfl, Bq.su (Am (os' := fun _ => [cell p 61 #[.int .i64 d1.room, x.sv, x.nv, x.wv, .bool fu, .int .i64 x.fz, .bool false], x.F, x.Y, Ap 107 5 encRO x.wv x.W, X]) [0, 1] 0 (Ag Tryz.func56 (by kernel_rfl) rfl) (Le x hf1) rfl rfl rfl (fun _ => rfl) rfl rfl rfl) rfl⟩) ?_)))))))))
  refine Aa (by intro r0_ r1_; exact ⟨rfl, fun b w hH hb => Ae Ai rfl hb⟩) (Aa (by intro r0_ r1_; exact ⟨rfl, fun b w hH hb => by exact BQ rfl rfl hb⟩) (Aa (by intro r0_ r1_; exact ⟨rfl, fun b w hH hb => Ae Ai rfl hb⟩) (Aa (by intro r0_ r1_; exact ⟨rfl, fun b w hH hb => Bb rfl rfl (Bn Bt rfl) (hH.row 0 rfl) hb⟩) (Aa (by intro r0_ r1_; exact ⟨rfl, fun b w hH hb => Ae Ai rfl hb⟩) (Aa (by intro r0_ r1_; exact ⟨rfl, fun b w hH hb => AY (((hH.rd8 4 rfl hX).rd)) Tryz.underlying32 rfl rfl hb⟩) (Aa (by intro r0_ r1_; exact ⟨rfl, fun b w hH hb => AS rfl rfl rfl rfl (IntWalk.i64_in _ (by omega)) hb⟩) (Aa (by intro v0_ r1_; exact ⟨rfl, fun b w hH hb => Bc rfl rfl rfl (BE (by omega)) hb⟩) (Aa (by intro v0_ r1_; exact ⟨rfl, fun b w hH hb => Ae Ai rfl hb⟩) (Aa (by intro v0_ r1_; exact ⟨rfl, fun b w hH hb => Ae Ai rfl hb⟩) ?_)))))))))
  refine Aa (by intro v0_ r1_; exact ⟨rfl, fun b w hH hb => Ae Ai rfl hb⟩) (Aa (by intro v0_ r1_; exact ⟨rfl, fun b w hH hb => by exact BQ rfl rfl hb⟩) (Aa (by intro v0_ r1_; exact ⟨rfl, fun b w hH hb => Ae Ai rfl hb⟩) (Aa (by intro v0_ r1_; exact ⟨rfl, fun b w hH hb => Bb rfl rfl (Bn AD rfl) (hH.row 0 rfl) hb⟩) (Aa (by intro v0_ r1_; exact ⟨rfl, fun b w hH hb => Ae Ai rfl hb⟩) (Aa (by intro v0_; exact ⟨rfl, Bq.su (Am (os' := fun _ => [cell p 61 #[.int .i64 d1.room, x.sv, x.nv, x.wv, .bool fu, .int .i64 x.fz, .bool false], x.F, x.Y, Ap 107 5 encRO x.wv x.W, X]) [1] 0 (Ag Tryz.func66 (by kernel_rfl) rfl) (Dw x.rn (by omega) hj hq hlt) rfl rfl rfl (fun _ => rfl) rfl rfl rfl) rfl⟩) (Aa (by intro v0_ v1_; exact ⟨rfl, fun b w hH hb => Bc rfl rfl rfl (B9 (by omega)) hb⟩) (Aa (by intro v0_ v1_; exact ⟨rfl, fun b w hH hb => Ae Ai rfl hb⟩) (Aa (by intro v0_ v1_; exact ⟨rfl, rfl⟩) (Aa (by intro v0_ v1_; exact ⟨rfl, rfl⟩) ?_)))))))))
  refine Aa (by intro v0_ v1_; exact ⟨rfl, rfl⟩) (Aa (by intro v0_ v1_; exact ⟨rfl, rfl⟩) (Aa (by intro v0_ v1_; exact ⟨rfl, rfl⟩) (Aa (by intro v0_ v1_; exact ⟨rfl, rfl⟩) (Aa (by intro v0_ v1_; exact ⟨rfl, fun b w hH hb => Ae Ai rfl hb⟩) (Aa (by intro v0_ v1_; exact ⟨rfl, fun b w hH hb => Ae Ai rfl hb⟩) ?_)))))
  exact Cf
  intro v0_ v1_
  refine Ce.keep (env' := [(0, .pointer (some ⟨p, 0, none⟩)), (1, .string (bs n)), (2, v), (6, .int .i64 0), (51, .bool false)]) ⟨rfl, rfl, rfl, rfl, rfl, trivial⟩ (Bi (AO (Aw rfl (AC (AO (Bk [0, 1, 2, 3] rfl (Cz x hfu hdn) rfl (Ad (Af Ai rfl ?_))))))))
  refine Aj (X := Value) (val := fun v : Value => v) (post := fun u54 => [Ap 5 1 encB u54 ([]), AB p d1, X]) rfl (by refine D4 (e := 5) (t := 32) (k := 1) (enc := encB) ?_ ?_; exact AE; exact rfl) ?_; rintro u54
  refine Af Ai rfl (Aj (post := fun u56 => [Ap 5 1 encB u56 b, AB p d1, X]) rfl (Co 0 AE (by kernel_rfl) rfl (b) (fun w hH => (hH.rd8 2 rfl hX).rd) (by simp only [List.length_nil]; omega) rfl rfl rfl (List.nil_append _)) ?_); rintro u56
  refine Ce.fact 0 rfl (fun _ h => Ap.is h) ?_; rintro ⟨A9, c9, rfl⟩
  refine Ce.fact 0 rfl M0 ?_; rintro hcap
  refine Ac rfl (.agg #[.int .i64 0, .string (bs n), .string { data := #[] }, .slice A9 b.length c9, .int .i64 0]) (fun b w hb hH => Bh rfl rfl (by kernel_rfl) hb) (Aj rfl (Am (os' := fun _ => [EF, AB p (Cj d1 (.app n b)), X]) [1, 0] 0 (Ag Tryz.func67 (by kernel_rfl) rfl) (Uc (y := ⟨.app n b, A9, c9⟩) hf1 hdn hok hfew Db hcap hyl) rfl rfl rfl (fun _ => rfl) rfl rfl rfl) ?_); rintro ⟨⟩
  refine Ce.leave [0] rfl rfl (Af Ai rfl (Ab (Av ?_)))
  exact As (.tmp rfl) (fun w h => AG () rfl [0, 1] rfl h CV) rfl
  refine Bd 0 rfl (Dl hfu hdn) (fun _ => rfl) ?_; rintro x
  have hn64 := x.now64
  have hok : MM d1.now (.app n b) := hnm
  have hfew := Lf (o := .app n b) hn64.1 (fun m c e hg2 => h3)
  have hyl : (OpD.data (.app n b)).length ≤ 1099511627776 := by show b.length ≤ _; omega
  refine Aq ?_
  refine BK 36 2 [⟨.quiet, [none, none], fun _ => v, []⟩, ⟨.quiet, [none, none], fun _ => .int .i64 (b.length : Int), [0]⟩, ⟨.quiet, [none, none], fun _ => .pointer (some ⟨p, 0, none⟩), []⟩, ⟨.quiet, [none, none], fun _ => .pointer (some ⟨p, 0, none⟩), [2]⟩, ⟨.quiet, [none, none], fun _ => .pointer (some ⟨p, 0, none⟩), [3]⟩, ⟨.quiet, [none, none], fun _ => .int .i64 d1.room, [4]⟩, ⟨.quiet, [none, none], fun _ => .bool false, [1, 5]⟩, ⟨.quiet, [none, none], fun _ => .bool false, [6]⟩, ⟨.quiet, [none, none], fun _ => .pointer (some ⟨p, 0, none⟩), [7]⟩, ⟨.actv 0, [some false, some false], fun _ => .int .i64 ((AF d1.now : Nat) : Int), [8, 7]⟩, ⟨.quiet, [none, none], fun _ => .pointer (some ⟨p, 0, none⟩), [7]⟩, ⟨.quiet, [none, none], fun _ => .pointer (some ⟨p, 0, none⟩), [10, 7]⟩, ⟨.quiet, [none, none], fun _ => .pointer (some ⟨p, 0, none⟩), [11, 7]⟩, ⟨.quiet, [none, none], fun _ => .int .i64 d1.room, [12, 7]⟩, ⟨.quiet, [none, none], fun _ => v, [7]⟩, ⟨.quiet, [none, none], fun _ => .int .i64 (b.length : Int), [14, 7]⟩, ⟨.quiet, [none, none], fun _ => .int .i64 (d1.room - (b.length : Int)), [13, 15, 7]⟩, ⟨.quiet, [some true, none], fun _ => .bool false, [9, 16, 7]⟩, ⟨.quiet, [some true, none], fun _ => .bool false, [7, 17]⟩, ⟨.quiet, [some true, none], fun _ => .bool false, [18]⟩, ⟨.quiet, [some true, none], fun _ => .pointer (some ⟨p, 0, none⟩), [19]⟩, ⟨.quiet, [some true, none], fun _ => .pointer (some ⟨p, 0, none⟩), [20, 19]⟩, ⟨.quiet, [some true, none], fun _ => .pointer (some ⟨p, 2, none⟩), [21, 19]⟩, ⟨.quiet, [some true, none], fun _ => x.nv, [22, 19]⟩, ⟨.quiet, [some true, none], fun _ => .string (bs n), [19]⟩, ⟨.actv 1, [some true, some false], fun _ => .int .i64 (-1), [23, 24, 19]⟩, ⟨.quiet, [some true, some true], fun _ => .bool true, [25, 19]⟩, ⟨.quiet, [some true, some true], fun _ => .bool true, [26, 19]⟩, ⟨.quiet, [some true, some true], fun _ => .pointer (some ⟨p, 0, none⟩), [27]⟩, ⟨.quiet, [some true, some true], fun _ => .pointer (some ⟨p, 0, none⟩), [28, 27]⟩, ⟨.quiet, [some true, some true], fun _ => .pointer (some ⟨p, 2, none⟩), [29, 27]⟩, ⟨.quiet, [some true, some true], fun _ => x.nv, [30, 27]⟩, ⟨.quiet, [some true, some true], fun _ => .int .i64 (x.nl.length : Int), [31, 27]⟩, ⟨.quiet, [some true, some true], fun _ => .bool false, [32, 27]⟩, ⟨.quiet, [some true, some true], fun _ => .bool false, [27, 33, 19]⟩, ⟨.quiet, [some true, some true], fun _ => .bool false, [19, 34]⟩] [(0, .pointer (some ⟨p, 0, none⟩)), (1, .string (bs n)), (2, v), (6, .int .i64 0)] (fun ρ => match ρ with | [r0, r1] => [cell p 61 #[.int .i64 d1.room, x.sv, x.nv, x.wv, .bool fu, .int .i64 x.fz, .bool false], x.F, x.Y, Ap 107 5 encRO x.wv x.W, X] | _ => []) (by kernel_rfl) (by kernel_rfl) ⟨rfl, rfl, rfl, rfl, trivial⟩ rfl ?_ ?_
  refine Aa (by intro r0_ r1_; exact ⟨rfl, fun b w hH hb => Ae Ai rfl hb⟩) (Aa (by intro r0_ r1_; exact ⟨rfl, fun b w hH hb => AY (((hH.rd8 4 rfl hX).rd)) Tryz.underlying32 rfl rfl hb⟩) (Aa (by intro r0_ r1_; exact ⟨rfl, fun b w hH hb => Ae Ai rfl hb⟩) (Aa (by intro r0_ r1_; exact ⟨rfl, fun b w hH hb => by exact BQ rfl rfl hb⟩) (Aa (by intro r0_ r1_; exact ⟨rfl, fun b w hH hb => Ae Ai rfl hb⟩) (Aa (by intro r0_ r1_; exact ⟨rfl, fun b w hH hb => Bb rfl rfl (Bn Bt rfl) (hH.row 0 rfl) hb⟩) (Aa (by intro r0_ r1_; exact ⟨rfl, fun b w hH hb => Bc rfl rfl rfl (BE (by omega)) hb⟩) (Aa (by intro r0_ r1_; exact ⟨rfl, fun b w hH hb => Ae Ai rfl hb⟩) (Aa (by intro r0_ r1_; exact ⟨rfl, fun b w hH hb => Ae Ai rfl hb⟩) (Aa (by exact ⟨rfl, Bq.su (Am (os' := fun _ => [cell p 61 #[.int .i64 d1.room, x.sv, x.nv, x.wv, .bool fu, .int .i64 x.fz, .bool false], x.F, x.Y, Ap 107 5 encRO x.wv x.W, X]) [0, 1] 0 (Ag Tryz.func56 (by kernel_rfl) rfl) (Le x hf1) rfl rfl rfl (fun _ => rfl) rfl rfl rfl) rfl⟩) ?_)))))))))
  refine Aa (by intro r0_ r1_; exact ⟨rfl, fun b w hH hb => Ae Ai rfl hb⟩) (Aa (by intro r0_ r1_; exact ⟨rfl, fun b w hH hb => by exact BQ rfl rfl hb⟩) (Aa (by intro r0_ r1_; exact ⟨rfl, fun b w hH hb => Ae Ai rfl hb⟩) (Aa (by intro r0_ r1_; exact ⟨rfl, fun b w hH hb => Bb rfl rfl (Bn Bt rfl) (hH.row 0 rfl) hb⟩) (Aa (by intro r0_ r1_; exact ⟨rfl, fun b w hH hb => Ae Ai rfl hb⟩) (Aa (by intro r0_ r1_; exact ⟨rfl, fun b w hH hb => AY (((hH.rd8 4 rfl hX).rd)) Tryz.underlying32 rfl rfl hb⟩) (Aa (by intro r0_ r1_; exact ⟨rfl, fun b w hH hb => AS rfl rfl rfl rfl (IntWalk.i64_in _ (by omega)) hb⟩) (Aa (by intro v0_ r1_; exact ⟨rfl, fun b w hH hb => Bc rfl rfl rfl (BE (by omega)) hb⟩) (Aa (by intro v0_ r1_; exact ⟨rfl, fun b w hH hb => Ae Ai rfl hb⟩) (Aa (by intro v0_ r1_; exact ⟨rfl, fun b w hH hb => Ae Ai rfl hb⟩) ?_)))))))))
  refine Aa (by intro v0_ r1_; exact ⟨rfl, fun b w hH hb => Ae Ai rfl hb⟩) (Aa (by intro v0_ r1_; exact ⟨rfl, fun b w hH hb => by exact BQ rfl rfl hb⟩) (Aa (by intro v0_ r1_; exact ⟨rfl, fun b w hH hb => Ae Ai rfl hb⟩) (Aa (by intro v0_ r1_; exact ⟨rfl, fun b w hH hb => Bb rfl rfl (Bn AD rfl) (hH.row 0 rfl) hb⟩) (Aa (by intro v0_ r1_; exact ⟨rfl, fun b w hH hb => Ae Ai rfl hb⟩) (Aa (by intro v0_; exact ⟨rfl, Bq.su (Am (os' := fun _ => [cell p 61 #[.int .i64 d1.room, x.sv, x.nv, x.wv, .bool fu, .int .i64 x.fz, .bool false], x.F, x.Y, Ap 107 5 encRO x.wv x.W, X]) [1] 0 (Ag Tryz.func66 (by kernel_rfl) rfl) (DP x.rn (by omega) (x.no_ hg)) rfl rfl rfl (fun _ => rfl) rfl rfl rfl) rfl⟩) (Aa (by intro v0_ v1_; exact ⟨rfl, fun b w hH hb => Bc rfl rfl rfl (BN (by omega)) hb⟩) (Aa (by intro v0_ v1_; exact ⟨rfl, fun b w hH hb => Ae Ai rfl hb⟩) (Aa (by intro v0_ v1_; exact ⟨rfl, fun b w hH hb => Ae Ai rfl hb⟩) (Aa (by intro v0_ v1_; exact ⟨rfl, fun b w hH hb => by exact BQ rfl rfl hb⟩) ?_)))))))))
  refine Aa (by intro v0_ v1_; exact ⟨rfl, fun b w hH hb => Ae Ai rfl hb⟩) (Aa (by intro v0_ v1_; exact ⟨rfl, fun b w hH hb => Bb rfl rfl (Bn AD rfl) (hH.row 0 rfl) hb⟩) (Aa (by intro v0_ v1_; exact ⟨rfl, fun b w hH hb => AY ((hH.rdFs 1 rfl x.rn)) Tryz.underlying55 rfl rfl hb⟩) (Aa (by intro v0_ v1_; exact ⟨rfl, fun b w hH hb => Bc rfl rfl rfl (Di (by omega)) hb⟩) (Aa (by intro v0_ v1_; exact ⟨rfl, fun b w hH hb => Ae Ai rfl hb⟩) (Aa (by intro v0_ v1_; exact ⟨rfl, fun b w hH hb => Ae Ai rfl hb⟩) ?_)))))
  exact Cf
  intro v0_ v1_
  refine Ce.keep (env' := [(0, .pointer (some ⟨p, 0, none⟩)), (1, .string (bs n)), (2, v), (6, .int .i64 0), (51, .bool false)]) ⟨rfl, rfl, rfl, rfl, rfl, trivial⟩ (Bi (AO (Aw rfl (AC (AO (Bk [0, 1, 2, 3] rfl (Cz x hfu hdn) rfl (Ad (Af Ai rfl ?_))))))))
  refine Aj (X := Value) (val := fun v : Value => v) (post := fun u54 => [Ap 5 1 encB u54 ([]), AB p d1, X]) rfl (by refine D4 (e := 5) (t := 32) (k := 1) (enc := encB) ?_ ?_; exact AE; exact rfl) ?_; rintro u54
  refine Af Ai rfl (Aj (post := fun u56 => [Ap 5 1 encB u56 b, AB p d1, X]) rfl (Co 0 AE (by kernel_rfl) rfl (b) (fun w hH => (hH.rd8 2 rfl hX).rd) (by simp only [List.length_nil]; omega) rfl rfl rfl (List.nil_append _)) ?_); rintro u56
  refine Ce.fact 0 rfl (fun _ h => Ap.is h) ?_; rintro ⟨A9, c9, rfl⟩
  refine Ce.fact 0 rfl M0 ?_; rintro hcap
  refine Ac rfl (.agg #[.int .i64 0, .string (bs n), .string { data := #[] }, .slice A9 b.length c9, .int .i64 0]) (fun b w hb hH => Bh rfl rfl (by kernel_rfl) hb) (Aj rfl (Am (os' := fun _ => [EF, AB p (Cj d1 (.app n b)), X]) [1, 0] 0 (Ag Tryz.func67 (by kernel_rfl) rfl) (Uc (y := ⟨.app n b, A9, c9⟩) hf1 hdn hok hfew Db hcap hyl) rfl rfl rfl (fun _ => rfl) rfl rfl rfl) ?_); rintro ⟨⟩
  refine Ce.leave [0] rfl rfl (Af Ai rfl (Ab (Av ?_)))
  exact As (.tmp rfl) (fun w h => AG () rfl [0, 1] rfl h CV) rfl
  rw [if_pos (by omega)] at h
  obtain ⟨rfl, rfl⟩ := Prod.mk.inj h
  refine Ad (Af Ai rfl (Ac rfl (.bool true) (fun b w hb hH => Bc rfl rfl rfl (BO (by omega)) hb) (Ab (AI rfl (Ad (Af Ai rfl (Ab (Av (C0 ?_)))))))))
  exact As (.tmp rfl) (fun w h => AG () rfl [0, 1] rfl h CV) rfl
  subst he1
  rw [if_neg (by simp), if_pos hnm] at h
  obtain ⟨rfl, rfl⟩ := Prod.mk.inj h
  refine Ad (Af Ai rfl (Ac rfl (.bool false) (fun b w hb hH => Bc rfl rfl rfl (AK (by omega)) hb) (Ab (Aw rfl (AC (AO (Aq (Ad (Af Ai rfl (Aj (post := fun _ => [AB p d1, X]) rfl (Bg (Ag Tryz.func65 (by kernel_rfl) rfl) (fun w hH => Ub w n false hnm (by omega)) rfl rfl rfl) ?_)))))))))); rintro ⟨⟩
  refine Af Ai rfl (Ab (AI rfl (Ad (Af Ai rfl (Ab (Av (C0 ?_)))))))
  exact As (.tmp rfl) (fun w h => AG () rfl [0, 1] rfl h CV) rfl
end Go.Proofs.YtjcfimmcogkopaaGreat.Sep
namespace Go.Proofs.YtjcfimmcogkopaaGreat.Sep
open Go.RowKit
open Go.Proofs.YtjcfimmcogkopaaGreat.Mem (AZ Ci Chg Au)
theorem Vj : Cu EF (.slice none 0 0) [] := fun rs w h1 h2 => QB w
theorem M3 {p : Nat} {d d' : DiskD} {n : List UInt8} {e : Nat} (hf : d.fit) (h : Fw d n = (d', e)) : AW Tryz.prog 37 #[.pointer (some ⟨p, 0, none⟩), .string (bs n)] [AB p d] (fun (_ : Unit) => .int .i64 (e : Int)) (fun (_ : Unit) => [AB p d']) := by
 refine Be (args := [.pointer (some ⟨p, 0, none⟩), .string (bs n)]) 22 Tryz.func37 rfl rfl rfl ?_; intro w rs
 obtain ⟨⟨d1, e1⟩, hb⟩ : ∃ R, Bj d = R := ⟨_, rfl⟩
 have hf1 := Ic hb hf
 unfold Fw at h
 rw [hb] at h; simp only at h
 refine Ad (Af Ai rfl (Ab (Aq (Ad (Af Ai rfl (Aj rfl (Am (os' := fun _ => [AB p d1]) [0] 0 (Ag Tryz.func32 (by kernel_rfl) rfl) (M1 hb) rfl rfl rfl (fun _ => rfl) rfl rfl rfl) ?_)))))); rintro ⟨⟩
 refine Af Ai rfl (Ab ?_)
 rcases Nat.eq_zero_or_pos e1 with he1 | he1
 rcases hg : AL d1.now n with _ | b
 subst he1
 rw [if_neg (by simp), hg] at h
 obtain ⟨rfl, rfl⟩ := Prod.mk.inj h
 obtain ⟨hdn, hs1, hw1, hr1⟩ := FP hb
 obtain ⟨fu, hfu⟩ : ∃ fu, d1.fuse.isSome = fu := ⟨_, rfl⟩
 refine Ad (Af Ai rfl (Ac rfl (.bool false) (fun b w hb hH => Bc rfl rfl rfl (AK (by omega)) hb) (Ab (Aw rfl (AC (AO (Aq (Bd 0 rfl (Dl hfu hdn) (fun _ => rfl) ?_)))))))); rintro x
 have hn64 := x.now64
 refine Ad (Af Ai rfl (Ac rfl (.pointer (some ⟨p, 0, none⟩)) (fun b w hb hH => by exact BQ rfl rfl hb) (Af Ai rfl (Ac rfl (x.nv) (fun b w hb hH => Bb rfl rfl (Bn AD rfl) (hH.row 0 rfl) hb) (Af Ai rfl (Aj rfl (Am (os' := fun _ => [cell p 61 #[.int .i64 d1.room, x.sv, x.nv, x.wv, .bool fu, .int .i64 x.fz, .bool false], x.F, x.Y, Ap 107 5 encRO x.wv x.W]) [1] 0 (Ag Tryz.func66 (by kernel_rfl) rfl) (DP x.rn (by omega) (x.no_ hg)) rfl rfl rfl (fun _ => rfl) rfl rfl rfl) ?_)))))); rintro ⟨⟩
 refine Ac rfl (.bool true) (fun b w hb hH => Bc rfl rfl rfl (BN (by omega)) hb) (Ab (AI rfl (Bk [0, 1, 2, 3] rfl (Cz x hfu hdn) rfl (Ad (Af Ai rfl (Ab (Av (C0 ?_))))))))
 exact As (.tmp rfl) (fun w h => AG () rfl [0] rfl h CV) rfl
 subst he1
 rw [if_neg (by simp), hg] at h
 obtain ⟨rfl, rfl⟩ := Prod.mk.inj h
 obtain ⟨hdn, hs1, hw1, hr1⟩ := FP hb
 obtain ⟨fu, hfu⟩ : ∃ fu, d1.fuse.isSome = fu := ⟨_, rfl⟩
 refine Ad (Af Ai rfl (Ac rfl (.bool false) (fun b w hb hH => Bc rfl rfl rfl (AK (by omega)) hb) (Ab (Aw rfl (AC (AO (Aq (Bd 0 rfl (Dl hfu hdn) (fun _ => rfl) ?_)))))))); rintro x
 have hn64 := x.now64
 obtain ⟨j, q, hj, hq, hlt, hqb, hm⟩ := x.yes_ hg
 subst hqb
 have hok : MM d1.now (.del n) := trivial
 have hfew := Lf (o := .del n) hn64.1 (fun m c e _ => by cases e)
 refine Ad (Af Ai rfl (Ac rfl (.pointer (some ⟨p, 0, none⟩)) (fun b w hb hH => by exact BQ rfl rfl hb) (Af Ai rfl (Ac rfl (x.nv) (fun b w hb hH => Bb rfl rfl (Bn AD rfl) (hH.row 0 rfl) hb) (Af Ai rfl (Aj rfl (Am (os' := fun _ => [cell p 61 #[.int .i64 d1.room, x.sv, x.nv, x.wv, .bool fu, .int .i64 x.fz, .bool false], x.F, x.Y, Ap 107 5 encRO x.wv x.W]) [1] 0 (Ag Tryz.func66 (by kernel_rfl) rfl) (Dw x.rn (by omega) hj hq hlt) rfl rfl rfl (fun _ => rfl) rfl rfl rfl) ?_)))))); rintro ⟨⟩
 refine Ac rfl (.bool false) (fun b w hb hH => Bc rfl rfl rfl (B9 (by omega)) hb) (Ab (Aw rfl (AC (AO (Bk [0, 1, 2, 3] rfl (Cz x hfu hdn) rfl (Hy (t := EF) (rfl) (Ad (Af Ai rfl (Ac rfl (.agg #[.int .i64 3, .string (bs n), .string { data := #[] }, .slice none 0 0, .int .i64 0]) (fun b w hb hH => Bh rfl rfl (by kernel_rfl) hb) (Aj rfl (Am (os' := fun _ => [EF, AB p (Cj d1 (.del n))]) [1, 0] 0 (Ag Tryz.func67 (by kernel_rfl) rfl) (Uc (y := ⟨.del n, none, 0⟩) hf1 hdn hok hfew Vj (Nat.le_refl 0) (Nat.zero_le _)) rfl rfl rfl (fun _ => rfl) rfl rfl rfl) ?_)))))))))); rintro ⟨⟩
 refine Ce.leave [0] rfl rfl (Af Ai rfl (Ab (Av ?_)))
 exact As (.tmp rfl) (fun w h => AG () rfl [0] rfl h CV) rfl
 rw [if_pos (by omega)] at h
 obtain ⟨rfl, rfl⟩ := Prod.mk.inj h
 refine Ad (Af Ai rfl (Ac rfl (.bool true) (fun b w hb hH => Bc rfl rfl rfl (BO (by omega)) hb) (Ab (AI rfl (Ad (Af Ai rfl (Ab (Av (C0 ?_)))))))))
 exact As (.tmp rfl) (fun w h => AG () rfl [0] rfl h CV) rfl
def RDk.sync {d : DiskD} (x : RDk d) : RDk { d with syn := d.now, wait := [] } where
  F := x.F
  Y := x.Y
  sv := x.nv
  nv := x.nv
  wv := .slice none 0 0
  sl := x.nl
  nl := x.nl
  W := []
  fz := x.fz
  hs := x.hn
  hn := x.hn
  ps := x.pn
  pn := x.pn
  hW := rfl
  rs := x.rn
  rn := x.rn
  ys := x.yn
  yn := x.yn
  yw := fun q h => nomatch h
  yc := fun q h => nomatch h
  hok := trivial
  few := fun k => by rw [List.take_nil]; exact x.now64.1
  hz := x.hz
  zr := x.zr
  nc := x.nc
  sc := x.nc
theorem Ud {p : Nat} {d : DiskD} (x : RDk d) {fu dn : Bool} (hfu : d.fuse.isSome = fu) (hdn : d.down = dn) : ∀ rs, Ak [cell p 61 #[.int .i64 d.room, x.nv, x.nv, .slice none 0 0, .bool fu, .int .i64 x.fz, .bool dn], x.F, x.Y] rs → AB p { d with syn := d.now, wait := [] } rs := fun rs h => ⟨x.sync, by
 subst hfu; subst hdn
 obtain ⟨r1, _, rfl, h1, r2, _, rfl, h2, r3, _, rfl, h3, rfl⟩ := h
 exact ⟨r1, _, rfl, h1, r2, _, rfl, h2, r3, [], by simp, h3, [], [], rfl, I1, rfl⟩⟩
theorem VA {p : Nat} {d d' : DiskD} {e : Nat} (hf : d.fit) (h : Fa d = (d', e)) : AW Tryz.prog 10 #[.pointer (some ⟨p, 0, none⟩)] [AB p d] (fun (_ : Unit) => .int .i64 (e : Int)) (fun (_ : Unit) => [AB p d']) := by
 refine Be (args := [.pointer (some ⟨p, 0, none⟩)]) 19 Tryz.func10 rfl rfl rfl ?_; intro w rs
 obtain ⟨⟨d1, e1⟩, hb⟩ : ∃ R, Bj d = R := ⟨_, rfl⟩
 have hf1 := Ic hb hf
 unfold Fa at h
 rw [hb] at h; simp only at h
 refine Ad (Af Ai rfl (Ab (Aq (Ad (Af Ai rfl (Aj rfl (Am (os' := fun _ => [AB p d1]) [0] 0 (Ag Tryz.func32 (by kernel_rfl) rfl) (M1 hb) rfl rfl rfl (fun _ => rfl) rfl rfl rfl) ?_)))))); rintro ⟨⟩
 refine Af Ai rfl (Ab ?_)
 rcases Nat.eq_zero_or_pos e1 with he1 | he1
 subst he1
 rw [if_neg (by simp)] at h
 obtain ⟨rfl, rfl⟩ := Prod.mk.inj h
 obtain ⟨hdn, hs1, hw1, hr1⟩ := FP hb
 obtain ⟨fu, hfu⟩ : ∃ fu, d1.fuse.isSome = fu := ⟨_, rfl⟩
 refine Ad (Af Ai rfl (Ac rfl (.bool false) (fun b w hb hH => Bc rfl rfl rfl (AK (by omega)) hb) (Ab (Aw rfl (AC (AO (Bd 0 rfl (Dl hfu hdn) (fun _ => rfl) ?_))))))); rintro x
 refine Ad (Af Ai rfl (Ac rfl (.pointer (some ⟨p, 0, none⟩)) (fun b w hb hH => by exact BQ rfl rfl hb) (Af Ai rfl (Ac rfl (x.nv) (fun b w hb hH => Bb rfl rfl (Bn AD rfl) (hH.row 0 rfl) hb) (Ac rfl (.pointer (some ⟨p, 0, none⟩)) (fun b w hb hH => by exact BQ rfl rfl hb) (Af Ai rfl (AU (post := fun _ => [cell p 61 #[.int .i64 d1.room, x.nv, x.nv, x.wv, .bool fu, .int .i64 x.fz, .bool false], x.F, x.Y, Ap 107 5 encRO x.wv x.W]) rfl rfl (Gn 0 1 (v := x.nv) #[.int .i64 d1.room, x.nv, x.nv, x.wv, .bool fu, .int .i64 x.fz, .bool false] AD.2 rfl (fun _ h => (fun _ => x.nc) h) rfl rfl rfl rfl rfl rfl rfl) ?_))))))); rintro ⟨⟩
 refine Ab (Ad (Af Ai rfl (Ac rfl (.pointer (some ⟨p, 0, none⟩)) (fun b w hb hH => by exact BQ rfl rfl hb) (Af Ai rfl (AU (post := fun _ => [cell p 61 #[.int .i64 d1.room, x.nv, x.nv, .slice none 0 0, .bool fu, .int .i64 x.fz, .bool false], x.F, x.Y, Ap 107 5 encRO x.wv x.W]) rfl rfl (AQ 0 (v := .slice none 0 0) #[.int .i64 d1.room, x.nv, x.nv, .slice none 0 0, .bool fu, .int .i64 x.fz, .bool false] CE.2 rfl rfl rfl rfl rfl rfl rfl rfl rfl) ?_))))); rintro ⟨⟩
 refine Ab (Bk [0, 1, 2] rfl (Ud x hfu hdn) rfl (Ad (Af Ai rfl (Ab (Av ?_)))))
 exact As (.tmp rfl) (fun w h => AG () rfl [0] rfl h CV) rfl
 rw [if_pos (by omega)] at h
 obtain ⟨rfl, rfl⟩ := Prod.mk.inj h
 refine Ad (Af Ai rfl (Ac rfl (.bool true) (fun b w hb hH => Bc rfl rfl rfl (BO (by omega)) hb) (Ab (AI rfl (Ad (Af Ai rfl (Ab (Av (C0 ?_)))))))))
 exact As (.tmp rfl) (fun w h => AG () rfl [0] rfl h CV) rfl
end Go.Proofs.YtjcfimmcogkopaaGreat.Sep
