/-
  RdkF
-/
import Derived.Test.YtjcfimmcogkopaaGreatPP01
set_option linter.unusedSimpArgs false
set_option linter.unusedVariables false
namespace Go.Proofs.YtjcfimmcogkopaaGreat.Sep
open Go.RowKit
open Go.Proofs.YtjcfimmcogkopaaGreat.Mem (Bh Cs Chg AA)
theorem KG {f : FS} {n x : List UInt8} : (BF f n x).length = if (AS f n).isSome = true then f.length else f.length + 1 := by
  cases e : AS f n with
  | none => rw [Fm e]; simp
  | some y =>
    have h := congrArg List.length (Jb (x := x) e)
    simp only [AO, List.length_map] at h
    rw [h]; simp
theorem RC {f : FS} {n x : List UInt8} (h : AS f n = some x) : (BY f n).length + 1 = f.length := by
 obtain ⟨q, h1, h2⟩ := Ls h
 have h3 := DH h1
 unfold BY
 rw [h1]
 have h4 := (List.getElem?_eq_some_iff.1 h3.2).1
 simp only [Nat.sub_zero] at h4
 rw [List.length_eraseIdx, if_pos h4]
 omega
theorem QC {f : FS} {n : List UInt8} : (BY f n).length ≤ f.length := by
  cases e : AS f n with
  | none => rw [Lf e]; exact Nat.le_refl _
  | some x => have := RC e; omega
theorem Jy {f : FS} {o : OpD} (hf : f.length ≤ 64) (happ : ∀ n b, o = .app n b → AS f n = none → f.length < 64) : (AG f o).length ≤ 64 := by
  cases o with
  | app n b =>
    show (BF f n _).length ≤ 64
    rw [KG]
    split
    · exact hf
    · rename_i h
      have := happ n b rfl (by simpa using h)
      omega
  | cut n s =>
    show (match AS f n with | some x => BF f n (x.take s) | none => f).length ≤ 64
    cases e : AS f n with
    | none => exact hf
    | some x =>
      simp only
      rw [KG, e]
      simpa using hf
  | ren a b =>
    show (match AS f a with | some x => BF (BY f a) b x | none => f).length ≤ 64
    cases e : AS f a with
    | none => exact hf
    | some x =>
      simp only
      have := RC e
      rw [KG]
      split <;> omega
  | del n => exact Nat.le_trans QC hf
theorem EY {d d1 : DiskD} (h : Bv d = (d1, 0)) : d1.down = false ∧ d1.syn = d.syn ∧ d1.wait = d.wait ∧ d1.room = d.room := by
  rcases EX d with ⟨hdn, hb⟩ | ⟨hdn, hz, hb⟩ | ⟨hdn, k, hz, hb⟩ | ⟨hdn, hz, hb⟩
  · rw [hb] at h; cases (Prod.mk.inj h).2
  · rw [hb] at h; cases (Prod.mk.inj h).2
  · rw [hb] at h; obtain ⟨rfl, _⟩ := Prod.mk.inj h; exact ⟨hdn, rfl, rfl, rfl⟩
  · rw [hb] at h; obtain ⟨rfl, _⟩ := Prod.mk.inj h; exact ⟨hdn, rfl, rfl, rfl⟩
theorem GP {d d1 : DiskD} {e : Nat} (h : Bv d = (d1, e)) (hf : d.fit) : d1.fit := by
 rcases EX d with ⟨_, hb⟩ | ⟨_, _, hb⟩ | ⟨_, k, _, hb⟩ | ⟨_, _, hb⟩ <;> (rw [hb] at h; obtain ⟨rfl, _⟩ := Prod.mk.inj h; exact hf)
theorem RDk.now64 {d : DiskD} (x : RDk d) : d.now.length ≤ 64 ∧ x.nl.length = d.now.length := by
 have h2 := x.pn.length_eq
 unfold F7 at h2
 rw [List.length_map] at h2
 have := x.nlen
 omega
theorem Wb {d : DiskD} {n b : List UInt8} (h : Eo d n b = false) : d.room < (b.length : Int) ∨ ((b.length : Int) ≤ d.room ∧ d.room - (b.length : Int) < ((AN d.now : Nat) : Int)) ∨ ((b.length : Int) ≤ d.room ∧ ((AN d.now : Nat) : Int) ≤ d.room - (b.length : Int) ∧ AS d.now n = none ∧ 64 ≤ d.now.length) := by
  unfold Eo at h
  rw [Bool.and_eq_false_iff] at h
  rcases h with h | h
  · simp only [decide_eq_false_iff_not] at h
    omega
  · simp only [Bool.not_eq_false', Bool.and_eq_true, decide_eq_true_eq, Option.isNone_iff_eq_none] at h
    by_cases h1 : (b.length : Int) ≤ d.room
    · by_cases h2 : ((AN d.now : Nat) : Int) ≤ d.room - (b.length : Int)
      · exact .inr (.inr ⟨h1, h2, h.1, h.2⟩)
      · exact .inr (.inl ⟨h1, by omega⟩)
    · exact .inl (by omega)
theorem LT {d : DiskD} {n b : List UInt8} (h : Eo d n b = true) : (b.length : Int) ≤ d.room ∧ ((AN d.now : Nat) : Int) ≤ d.room - (b.length : Int) ∧ ((∃ y, AS d.now n = some y) ∨ (AS d.now n = none ∧ d.now.length < 64)) := by
  unfold Eo at h
  rw [Bool.and_eq_true, decide_eq_true_eq] at h
  refine ⟨by omega, by omega, ?_⟩
  cases e : AS d.now n with
  | some y => exact .inl ⟨y, rfl⟩
  | none =>
    have h2 := h.2
    rw [e] at h2
    simp at h2
    exact .inr ⟨rfl, h2⟩
set_option maxRecDepth 100000 in
theorem RD {p : Nat} {d d' : DiskD} {n b : List UInt8} {e : Nat} {X : Ass} {v : Value} (hf : d.fit) (hrm : 0 ≤ d.room ∧ d.room ≤ 1048576) (hX : CO X v b) (hbl : b.length ≤ 140737488355328) (hnl : n.length ≤ 9223372036854775807) (h : Ci d n b = (d', e)) : AX Tryz.prog 23 #[.pointer (some ⟨p, 0, none⟩), .string (bs n), v] [An p d, X] (fun (_ : Unit) => .int .i64 (e : Int)) (fun (_ : Unit) => [An p d', X]) := by
  refine Bg (args := [.pointer (some ⟨p, 0, none⟩), .string (bs n), v]) 59 Tryz.func23 rfl rfl rfl ?_; intro w rs
  obtain ⟨⟨d1, e1⟩, hb⟩ : ∃ R, Bv d = R := ⟨_, rfl⟩
  have hf1 := GP hb hf
  unfold Ci at h
  rw [hb] at h; simp only at h
  refine Ad (Ae Ah rfl (Ab (Av (Ad (Ae Ah rfl (Aj rfl (Ak (os' := fun _ => [An p d1, X]) [0] 0 (Ai Tryz.func32 (by kernel_rfl) rfl) (KF hb) rfl rfl rfl (fun _ => rfl) rfl rfl rfl) ?_)))))); rintro ⟨⟩
  refine Ae Ah rfl (Ab ?_)
  rcases Nat.eq_zero_or_pos e1 with he1 | he1
  rcases hnm : CI n with _ | _
  rotate_left
  rcases hft : Eo d1 n b with _ | _
  subst he1
  rw [if_neg (by simp), if_neg (by simp [hnm]), hft, if_pos rfl] at h
  obtain ⟨rfl, rfl⟩ := Prod.mk.inj h
  obtain ⟨hdn, hs1, hw1, hr1⟩ := EY hb
  obtain ⟨fu, hfu⟩ : ∃ fu, d1.fuse.isSome = fu := ⟨_, rfl⟩
  refine Ad (Ae Ah rfl (Aa rfl (.bool false) (fun b w hb hH => AZ rfl rfl rfl (AP (by omega)) hb) (Ab (As rfl (AB (AL (Av (Ad (Ae Ah rfl (Aj (post := fun _ => [An p d1, X]) rfl (AU (Ai Tryz.func65 (by kernel_rfl) rfl) (fun w hH => ME w n true hnm (by omega)) rfl rfl rfl) ?_)))))))))); rintro ⟨⟩
  refine Ae Ah rfl (Ab (As rfl (AB (AL (Av ?_)))))
  rcases Wb hft with h1 | ⟨h1, h2⟩ | ⟨h1, h2, hg, h3⟩
  refine Be 0 rfl (CS hfu hdn) (fun _ => rfl) ?_; rintro x
  refine Av ?_
  refine BL 36 0 [⟨.quiet, [], fun _ => v, []⟩, ⟨.quiet, [], fun _ => .int .i64 (b.length : Int), [0]⟩, ⟨.quiet, [], fun _ => .pointer (some ⟨p, 0, none⟩), []⟩, ⟨.quiet, [], fun _ => .pointer (some ⟨p, 0, none⟩), [2]⟩, ⟨.quiet, [], fun _ => .pointer (some ⟨p, 0, none⟩), [3]⟩, ⟨.quiet, [], fun _ => .int .i64 d1.room, [4]⟩, ⟨.quiet, [], fun _ => .bool true, [1, 5]⟩, ⟨.quiet, [], fun _ => .bool true, [6]⟩, ⟨.skip, [], fun _ => undef, [7]⟩, ⟨.skip, [], fun _ => undef, [8, 7]⟩, ⟨.skip, [], fun _ => undef, [7]⟩, ⟨.skip, [], fun _ => undef, [10, 7]⟩, ⟨.skip, [], fun _ => undef, [11, 7]⟩, ⟨.skip, [], fun _ => undef, [12, 7]⟩, ⟨.skip, [], fun _ => undef, [7]⟩, ⟨.skip, [], fun _ => undef, [14, 7]⟩, ⟨.skip, [], fun _ => undef, [13, 15, 7]⟩, ⟨.skip, [], fun _ => undef, [9, 16, 7]⟩, ⟨.quiet, [], fun _ => .bool true, [7, 17]⟩, ⟨.quiet, [], fun _ => .bool true, [18]⟩, ⟨.skip, [], fun _ => undef, [19]⟩, ⟨.skip, [], fun _ => undef, [20, 19]⟩, ⟨.skip, [], fun _ => undef, [21, 19]⟩, ⟨.skip, [], fun _ => undef, [22, 19]⟩, ⟨.skip, [], fun _ => undef, [19]⟩, ⟨.skip, [], fun _ => undef, [23, 24, 19]⟩, ⟨.skip, [], fun _ => undef, [25, 19]⟩, ⟨.skip, [], fun _ => undef, [26, 19]⟩, ⟨.skip, [], fun _ => undef, [27]⟩, ⟨.skip, [], fun _ => undef, [28, 27]⟩, ⟨.skip, [], fun _ => undef, [29, 27]⟩, ⟨.skip, [], fun _ => undef, [30, 27]⟩, ⟨.skip, [], fun _ => undef, [31, 27]⟩, ⟨.skip, [], fun _ => undef, [32, 27]⟩, ⟨.skip, [], fun _ => undef, [27, 33, 19]⟩, ⟨.quiet, [], fun _ => .bool true, [19, 34]⟩] [(0, .pointer (some ⟨p, 0, none⟩)), (1, .string (bs n)), (2, v), (6, .int .i64 0)] (fun _ => [cell p 61 #[.int .i64 d1.room, x.sv, x.nv, x.wv, .bool fu, .int .i64 x.fz, .bool false], x.F, x.Y, Ar 107 5 encRO x.wv x.W, X]) (by kernel_rfl) (by kernel_rfl) ⟨rfl, rfl, rfl, rfl, trivial⟩ rfl ?_ ?_
  refine Ac (by exact ⟨rfl, fun b w hH hb => Af Ah rfl hb⟩) (Ac (by exact ⟨rfl, fun b w hH hb => Bf (((hH.rd8 4 rfl hX).rd)) Tryz.underlying32 rfl rfl hb⟩) (Ac (by exact ⟨rfl, fun b w hH hb => Af Ah rfl hb⟩) (Ac (by exact ⟨rfl, fun b w hH hb => by exact BD rfl rfl hb⟩) (Ac (by exact ⟨rfl, fun b w hH hb => Af Ah rfl hb⟩) (Ac (by exact ⟨rfl, fun b w hH hb => Ba rfl rfl (Bm Bc rfl) (hH.row 0 rfl) hb⟩) (Ac (by exact ⟨rfl, fun b w hH hb => AZ rfl rfl rfl (B0 (by omega)) hb⟩) (Ac (by exact ⟨rfl, fun b w hH hb => Af Ah rfl hb⟩) (Ac (by exact ⟨rfl, rfl⟩) (Ac (by exact ⟨rfl, rfl⟩) ?_)))))))))
  refine Ac (by exact ⟨rfl, rfl⟩) (Ac (by exact ⟨rfl, rfl⟩) (Ac (by exact ⟨rfl, rfl⟩) (Ac (by exact ⟨rfl, rfl⟩) (Ac (by exact ⟨rfl, rfl⟩) (Ac (by exact ⟨rfl, rfl⟩) (Ac (by exact ⟨rfl, rfl⟩) (Ac (by exact ⟨rfl, rfl⟩) (Ac (by exact ⟨rfl, fun b w hH hb => Af Ah rfl hb⟩) (Ac (by exact ⟨rfl, fun b w hH hb => Af Ah rfl hb⟩) ?_)))))))))
  refine Ac (by exact ⟨rfl, rfl⟩) (Ac (by exact ⟨rfl, rfl⟩) (Ac (by exact ⟨rfl, rfl⟩) (Ac (by exact ⟨rfl, rfl⟩) (Ac (by exact ⟨rfl, rfl⟩) (Ac (by exact ⟨rfl, rfl⟩) (Ac (by exact ⟨rfl, rfl⟩) (Ac (by exact ⟨rfl, rfl⟩) (Ac (by exact ⟨rfl, rfl⟩) (Ac (by exact ⟨rfl, rfl⟩) ?_)))))))))
  refine Ac (by exact ⟨rfl, rfl⟩) (Ac (by exact ⟨rfl, rfl⟩) (Ac (by exact ⟨rfl, rfl⟩) (Ac (by exact ⟨rfl, rfl⟩) (Ac (by exact ⟨rfl, rfl⟩) (Ac (by exact ⟨rfl, fun b w hH hb => Af Ah rfl hb⟩) ?_)))))
  exact B7
  refine Cf.keep (env' := [(0, .pointer (some ⟨p, 0, none⟩)), (1, .string (bs n)), (2, v), (6, .int .i64 0), (51, .bool true)]) ⟨rfl, rfl, rfl, rfl, rfl, trivial⟩ (AV (AL (AI rfl (Bi [0, 1, 2, 3] rfl (CD x hfu hdn) rfl (Ad (Ae Ah rfl (Ab (Ax (C4 ?_)))))))))
  exact Aw (.tmp rfl) (fun w h => AH () rfl [0, 1] rfl h CK) rfl
  refine Be 0 rfl (CS hfu hdn) (fun _ => rfl) ?_; rintro x
  refine Av ?_
  refine BL 36 1 [⟨.quiet, [none], fun _ => v, []⟩, ⟨.quiet, [none], fun _ => .int .i64 (b.length : Int), [0]⟩, ⟨.quiet, [none], fun _ => .pointer (some ⟨p, 0, none⟩), []⟩, ⟨.quiet, [none], fun _ => .pointer (some ⟨p, 0, none⟩), [2]⟩, ⟨.quiet, [none], fun _ => .pointer (some ⟨p, 0, none⟩), [3]⟩, ⟨.quiet, [none], fun _ => .int .i64 d1.room, [4]⟩, ⟨.quiet, [none], fun _ => .bool false, [1, 5]⟩, ⟨.quiet, [none], fun _ => .bool false, [6]⟩, ⟨.quiet, [none], fun _ => .pointer (some ⟨p, 0, none⟩), [7]⟩, ⟨.actv 0, [some false], fun _ => .int .i64 ((AN d1.now : Nat) : Int), [8, 7]⟩, ⟨.quiet, [none], fun _ => .pointer (some ⟨p, 0, none⟩), [7]⟩, ⟨.quiet, [none], fun _ => .pointer (some ⟨p, 0, none⟩), [10, 7]⟩, ⟨.quiet, [none], fun _ => .pointer (some ⟨p, 0, none⟩), [11, 7]⟩, ⟨.quiet, [none], fun _ => .int .i64 d1.room, [12, 7]⟩, ⟨.quiet, [none], fun _ => v, [7]⟩, ⟨.quiet, [none], fun _ => .int .i64 (b.length : Int), [14, 7]⟩, ⟨.quiet, [none], fun _ => .int .i64 (d1.room - (b.length : Int)), [13, 15, 7]⟩, ⟨.quiet, [some true], fun _ => .bool true, [9, 16, 7]⟩, ⟨.quiet, [some true], fun _ => .bool true, [7, 17]⟩, ⟨.quiet, [some true], fun _ => .bool true, [18]⟩, ⟨.skip, [some true], fun _ => undef, [19]⟩, ⟨.skip, [some true], fun _ => undef, [20, 19]⟩, ⟨.skip, [some true], fun _ => undef, [21, 19]⟩, ⟨.skip, [some true], fun _ => undef, [22, 19]⟩, ⟨.skip, [some true], fun _ => undef, [19]⟩, ⟨.skip, [some true], fun _ => undef, [23, 24, 19]⟩, ⟨.skip, [some true], fun _ => undef, [25, 19]⟩, ⟨.skip, [some true], fun _ => undef, [26, 19]⟩, ⟨.skip, [some true], fun _ => undef, [27]⟩, ⟨.skip, [some true], fun _ => undef, [28, 27]⟩, ⟨.skip, [some true], fun _ => undef, [29, 27]⟩, ⟨.skip, [some true], fun _ => undef, [30, 27]⟩, ⟨.skip, [some true], fun _ => undef, [31, 27]⟩, ⟨.skip, [some true], fun _ => undef, [32, 27]⟩, ⟨.skip, [some true], fun _ => undef, [27, 33, 19]⟩, ⟨.quiet, [some true], fun _ => .bool true, [19, 34]⟩] [(0, .pointer (some ⟨p, 0, none⟩)), (1, .string (bs n)), (2, v), (6, .int .i64 0)] (fun ρ => match ρ with | [r0] => [cell p 61 #[.int .i64 d1.room, x.sv, x.nv, x.wv, .bool fu, .int .i64 x.fz, .bool false], x.F, x.Y, Ar 107 5 encRO x.wv x.W, X] | _ => []) (by kernel_rfl) (by kernel_rfl) ⟨rfl, rfl, rfl, rfl, trivial⟩ rfl ?_ ?_
  refine Ac (by intro r0_; exact ⟨rfl, fun b w hH hb => Af Ah rfl hb⟩) (Ac (by intro r0_; exact ⟨rfl, fun b w hH hb => Bf (((hH.rd8 4 rfl hX).rd)) Tryz.underlying32 rfl rfl hb⟩) (Ac (by intro r0_; exact ⟨rfl, fun b w hH hb => Af Ah rfl hb⟩) (Ac (by intro r0_; exact ⟨rfl, fun b w hH hb => by exact BD rfl rfl hb⟩) (Ac (by intro r0_; exact ⟨rfl, fun b w hH hb => Af Ah rfl hb⟩) (Ac (by intro r0_; exact ⟨rfl, fun b w hH hb => Ba rfl rfl (Bm Bc rfl) (hH.row 0 rfl) hb⟩) (Ac (by intro r0_; exact ⟨rfl, fun b w hH hb => AZ rfl rfl rfl (BI (by omega)) hb⟩) (Ac (by intro r0_; exact ⟨rfl, fun b w hH hb => Af Ah rfl hb⟩) (Ac (by intro r0_; exact ⟨rfl, fun b w hH hb => Af Ah rfl hb⟩) (Ac (by exact ⟨rfl, Bk.su (Ak (os' := fun _ => [cell p 61 #[.int .i64 d1.room, x.sv, x.nv, x.wv, .bool fu, .int .i64 x.fz, .bool false], x.F, x.Y, Ar 107 5 encRO x.wv x.W, X]) [0, 1] 0 (Ai Tryz.func56 (by kernel_rfl) rfl) (LS x hf1) rfl rfl rfl (fun _ => rfl) rfl rfl rfl) rfl⟩) ?_)))))))))
  refine Ac (by intro r0_; exact ⟨rfl, fun b w hH hb => Af Ah rfl hb⟩) (Ac (by intro r0_; exact ⟨rfl, fun b w hH hb => by exact BD rfl rfl hb⟩) (Ac (by intro r0_; exact ⟨rfl, fun b w hH hb => Af Ah rfl hb⟩) (Ac (by intro r0_; exact ⟨rfl, fun b w hH hb => Ba rfl rfl (Bm Bc rfl) (hH.row 0 rfl) hb⟩) (Ac (by intro r0_; exact ⟨rfl, fun b w hH hb => Af Ah rfl hb⟩) (Ac (by intro r0_; exact ⟨rfl, fun b w hH hb => Bf (((hH.rd8 4 rfl hX).rd)) Tryz.underlying32 rfl rfl hb⟩) (Ac (by intro r0_; exact ⟨rfl, fun b w hH hb => AQ rfl rfl rfl rfl (IntWalk.i64_in _ (by omega)) hb⟩) (Ac (by intro v0_; exact ⟨rfl, fun b w hH hb => AZ rfl rfl rfl (B0 (by omega)) hb⟩) (Ac (by intro v0_; exact ⟨rfl, fun b w hH hb => Af Ah rfl hb⟩) (Ac (by intro v0_; exact ⟨rfl, fun b w hH hb => Af Ah rfl hb⟩) ?_)))))))))
  refine Ac (by intro v0_; exact ⟨rfl, rfl⟩) (Ac (by intro v0_; exact ⟨rfl, rfl⟩) (Ac (by intro v0_; exact ⟨rfl, rfl⟩) (Ac (by intro v0_; exact ⟨rfl, rfl⟩) (Ac (by intro v0_; exact ⟨rfl, rfl⟩) (Ac (by intro v0_; exact ⟨rfl, rfl⟩) (Ac (by intro v0_; exact ⟨rfl, rfl⟩) (Ac (by intro v0_; exact ⟨rfl, rfl⟩) (Ac (by intro v0_; exact ⟨rfl, rfl⟩) (Ac (by intro v0_; exact ⟨rfl, rfl⟩) ?_)))))))))
  refine Ac (by intro v0_; exact ⟨rfl, rfl⟩) (Ac (by intro v0_; exact ⟨rfl, rfl⟩) (Ac (by intro v0_; exact ⟨rfl, rfl⟩) (Ac (by intro v0_; exact ⟨rfl, rfl⟩) (Ac (by intro v0_; exact ⟨rfl, rfl⟩) (Ac (by intro v0_; exact ⟨rfl, fun b w hH hb => Af Ah rfl hb⟩) ?_)))))
  exact B7
  intro v0_
  refine Cf.keep (env' := [(0, .pointer (some ⟨p, 0, none⟩)), (1, .string (bs n)), (2, v), (6, .int .i64 0), (51, .bool true)]) ⟨rfl, rfl, rfl, rfl, rfl, trivial⟩ (AV (AL (AI rfl (Bi [0, 1, 2, 3] rfl (CD x hfu hdn) rfl (Ad (Ae Ah rfl (Ab (Ax (C4 ?_)))))))))
  exact Aw (.tmp rfl) (fun w h => AH () rfl [0, 1] rfl h CK) rfl
  refine Be 0 rfl (CS hfu hdn) (fun _ => rfl) ?_; rintro x
  have hn64 := x.now64
  refine Av ?_
  refine BL 36 2 [⟨.quiet, [none, none], fun _ => v, []⟩, ⟨.quiet, [none, none], fun _ => .int .i64 (b.length : Int), [0]⟩, ⟨.quiet, [none, none], fun _ => .pointer (some ⟨p, 0, none⟩), []⟩, ⟨.quiet, [none, none], fun _ => .pointer (some ⟨p, 0, none⟩), [2]⟩, ⟨.quiet, [none, none], fun _ => .pointer (some ⟨p, 0, none⟩), [3]⟩, ⟨.quiet, [none, none], fun _ => .int .i64 d1.room, [4]⟩, ⟨.quiet, [none, none], fun _ => .bool false, [1, 5]⟩, ⟨.quiet, [none, none], fun _ => .bool false, [6]⟩, ⟨.quiet, [none, none], fun _ => .pointer (some ⟨p, 0, none⟩), [7]⟩, ⟨.actv 0, [some false, some false], fun _ => .int .i64 ((AN d1.now : Nat) : Int), [8, 7]⟩, ⟨.quiet, [none, none], fun _ => .pointer (some ⟨p, 0, none⟩), [7]⟩, ⟨.quiet, [none, none], fun _ => .pointer (some ⟨p, 0, none⟩), [10, 7]⟩, ⟨.quiet, [none, none], fun _ => .pointer (some ⟨p, 0, none⟩), [11, 7]⟩, ⟨.quiet, [none, none], fun _ => .int .i64 d1.room, [12, 7]⟩, ⟨.quiet, [none, none], fun _ => v, [7]⟩, ⟨.quiet, [none, none], fun _ => .int .i64 (b.length : Int), [14, 7]⟩, ⟨.quiet, [none, none], fun _ => .int .i64 (d1.room - (b.length : Int)), [13, 15, 7]⟩, ⟨.quiet, [some true, none], fun _ => .bool false, [9, 16, 7]⟩, ⟨.quiet, [some true, none], fun _ => .bool false, [7, 17]⟩, ⟨.quiet, [some true, none], fun _ => .bool false, [18]⟩, ⟨.quiet, [some true, none], fun _ => .pointer (some ⟨p, 0, none⟩), [19]⟩, ⟨.quiet, [some true, none], fun _ => .pointer (some ⟨p, 0, none⟩), [20, 19]⟩, ⟨.quiet, [some true, none], fun _ => .pointer (some ⟨p, 2, none⟩), [21, 19]⟩, ⟨.quiet, [some true, none], fun _ => x.nv, [22, 19]⟩, ⟨.quiet, [some true, none], fun _ => .string (bs n), [19]⟩, ⟨.actv 1, [some true, some false], fun _ => .int .i64 (-1), [23, 24, 19]⟩, ⟨.quiet, [some true, some true], fun _ => .bool true, [25, 19]⟩, ⟨.quiet, [some true, some true], fun _ => .bool true, [26, 19]⟩, ⟨.quiet, [some true, some true], fun _ => .pointer (some ⟨p, 0, none⟩), [27]⟩, ⟨.quiet, [some true, some true], fun _ => .pointer (some ⟨p, 0, none⟩), [28, 27]⟩, ⟨.quiet, [some true, some true], fun _ => .pointer (some ⟨p, 2, none⟩), [29, 27]⟩, ⟨.quiet, [some true, some true], fun _ => x.nv, [30, 27]⟩, ⟨.quiet, [some true, some true], fun _ => .int .i64 (x.nl.length : Int), [31, 27]⟩, ⟨.quiet, [some true, some true], fun _ => .bool true, [32, 27]⟩, ⟨.quiet, [some true, some true], fun _ => .bool true, [27, 33, 19]⟩, ⟨.quiet, [some true, some true], fun _ => .bool true, [19, 34]⟩] [(0, .pointer (some ⟨p, 0, none⟩)), (1, .string (bs n)), (2, v), (6, .int .i64 0)] (fun ρ => match ρ with | [r0, r1] => [cell p 61 #[.int .i64 d1.room, x.sv, x.nv, x.wv, .bool fu, .int .i64 x.fz, .bool false], x.F, x.Y, Ar 107 5 encRO x.wv x.W, X] | _ => []) (by kernel_rfl) (by kernel_rfl) ⟨rfl, rfl, rfl, rfl, trivial⟩ rfl ?_ ?_
  refine Ac (by intro r0_ r1_; exact ⟨rfl, fun b w hH hb => Af Ah rfl hb⟩) (Ac (by intro r0_ r1_; exact ⟨rfl, fun b w hH hb => Bf (((hH.rd8 4 rfl hX).rd)) Tryz.underlying32 rfl rfl hb⟩) (Ac (by intro r0_ r1_; exact ⟨rfl, fun b w hH hb => Af Ah rfl hb⟩) (Ac (by intro r0_ r1_; exact ⟨rfl, fun b w hH hb => by exact BD rfl rfl hb⟩) (Ac (by intro r0_ r1_; exact ⟨rfl, fun b w hH hb => Af Ah rfl hb⟩) (Ac (by intro r0_ r1_; exact ⟨rfl, fun b w hH hb => Ba rfl rfl (Bm Bc rfl) (hH.row 0 rfl) hb⟩) (Ac (by intro r0_ r1_; exact ⟨rfl, fun b w hH hb => AZ rfl rfl rfl (BI (by omega)) hb⟩) (Ac (by intro r0_ r1_; exact ⟨rfl, fun b w hH hb => Af Ah rfl hb⟩) (Ac (by intro r0_ r1_; exact ⟨rfl, fun b w hH hb => Af Ah rfl hb⟩) (Ac (by exact ⟨rfl, Bk.su (Ak (os' := fun _ => [cell p 61 #[.int .i64 d1.room, x.sv, x.nv, x.wv, .bool fu, .int .i64 x.fz, .bool false], x.F, x.Y, Ar 107 5 encRO x.wv x.W, X]) [0, 1] 0 (Ai Tryz.func56 (by kernel_rfl) rfl) (LS x hf1) rfl rfl rfl (fun _ => rfl) rfl rfl rfl) rfl⟩) ?_)))))))))
  refine Ac (by intro r0_ r1_; exact ⟨rfl, fun b w hH hb => Af Ah rfl hb⟩) (Ac (by intro r0_ r1_; exact ⟨rfl, fun b w hH hb => by exact BD rfl rfl hb⟩) (Ac (by intro r0_ r1_; exact ⟨rfl, fun b w hH hb => Af Ah rfl hb⟩) (Ac (by intro r0_ r1_; exact ⟨rfl, fun b w hH hb => Ba rfl rfl (Bm Bc rfl) (hH.row 0 rfl) hb⟩) (Ac (by intro r0_ r1_; exact ⟨rfl, fun b w hH hb => Af Ah rfl hb⟩) (Ac (by intro r0_ r1_; exact ⟨rfl, fun b w hH hb => Bf (((hH.rd8 4 rfl hX).rd)) Tryz.underlying32 rfl rfl hb⟩) (Ac (by intro r0_ r1_; exact ⟨rfl, fun b w hH hb => AQ rfl rfl rfl rfl (IntWalk.i64_in _ (by omega)) hb⟩) (Ac (by intro v0_ r1_; exact ⟨rfl, fun b w hH hb => AZ rfl rfl rfl (BI (by omega)) hb⟩) (Ac (by intro v0_ r1_; exact ⟨rfl, fun b w hH hb => Af Ah rfl hb⟩) (Ac (by intro v0_ r1_; exact ⟨rfl, fun b w hH hb => Af Ah rfl hb⟩) ?_)))))))))
  refine Ac (by intro v0_ r1_; exact ⟨rfl, fun b w hH hb => Af Ah rfl hb⟩) (Ac (by intro v0_ r1_; exact ⟨rfl, fun b w hH hb => by exact BD rfl rfl hb⟩) (Ac (by intro v0_ r1_; exact ⟨rfl, fun b w hH hb => Af Ah rfl hb⟩) (Ac (by intro v0_ r1_; exact ⟨rfl, fun b w hH hb => Ba rfl rfl (Bm Ap rfl) (hH.row 0 rfl) hb⟩) (Ac (by intro v0_ r1_; exact ⟨rfl, fun b w hH hb => Af Ah rfl hb⟩) (Ac (by intro v0_; exact ⟨rfl, Bk.su (Ak (os' := fun _ => [cell p 61 #[.int .i64 d1.room, x.sv, x.nv, x.wv, .bool fu, .int .i64 x.fz, .bool false], x.F, x.Y, Ar 107 5 encRO x.wv x.W, X]) [1] 0 (Ai Tryz.func66 (by kernel_rfl) rfl) (DK x.rn (by omega) (x.no_ hg)) rfl rfl rfl (fun _ => rfl) rfl rfl rfl) rfl⟩) (Ac (by intro v0_ v1_; exact ⟨rfl, fun b w hH hb => AZ rfl rfl rfl (Bw (by omega)) hb⟩) (Ac (by intro v0_ v1_; exact ⟨rfl, fun b w hH hb => Af Ah rfl hb⟩) (Ac (by intro v0_ v1_; exact ⟨rfl, fun b w hH hb => Af Ah rfl hb⟩) (Ac (by intro v0_ v1_; exact ⟨rfl, fun b w hH hb => by exact BD rfl rfl hb⟩) ?_)))))))))
  refine Ac (by intro v0_ v1_; exact ⟨rfl, fun b w hH hb => Af Ah rfl hb⟩) (Ac (by intro v0_ v1_; exact ⟨rfl, fun b w hH hb => Ba rfl rfl (Bm Ap rfl) (hH.row 0 rfl) hb⟩) (Ac (by intro v0_ v1_; exact ⟨rfl, fun b w hH hb => Bf ((hH.rdFs 1 rfl x.rn)) Tryz.underlying55 rfl rfl hb⟩) (Ac (by intro v0_ v1_; exact ⟨rfl, fun b w hH hb => AZ rfl rfl rfl (B1 (by omega)) hb⟩) (Ac (by intro v0_ v1_; exact ⟨rfl, fun b w hH hb => Af Ah rfl hb⟩) (Ac (by intro v0_ v1_; exact ⟨rfl, fun b w hH hb => Af Ah rfl hb⟩) ?_)))))
  exact B7
  intro v0_ v1_
  refine Cf.keep (env' := [(0, .pointer (some ⟨p, 0, none⟩)), (1, .string (bs n)), (2, v), (6, .int .i64 0), (51, .bool true)]) ⟨rfl, rfl, rfl, rfl, rfl, trivial⟩ (AV (AL (AI rfl (Bi [0, 1, 2, 3] rfl (CD x hfu hdn) rfl (Ad (Ae Ah rfl (Ab (Ax (C4 ?_)))))))))
  exact Aw (.tmp rfl) (fun w h => AH () rfl [0, 1] rfl h CK) rfl
  subst he1
  rw [if_neg (by simp), if_neg (by simp [hnm]), hft, if_neg (by simp)] at h
  obtain ⟨rfl, rfl⟩ := Prod.mk.inj h
  obtain ⟨h1, h2, h3⟩ := LT hft
  obtain ⟨hdn, hs1, hw1, hr1⟩ := EY hb
  obtain ⟨fu, hfu⟩ : ∃ fu, d1.fuse.isSome = fu := ⟨_, rfl⟩
  refine Ad (Ae Ah rfl (Aa rfl (.bool false) (fun b w hb hH => AZ rfl rfl rfl (AP (by omega)) hb) (Ab (As rfl (AB (AL (Av (Ad (Ae Ah rfl (Aj (post := fun _ => [An p d1, X]) rfl (AU (Ai Tryz.func65 (by kernel_rfl) rfl) (fun w hH => ME w n true hnm (by omega)) rfl rfl rfl) ?_)))))))))); rintro ⟨⟩
  refine Ae Ah rfl (Ab (As rfl (AB (AL (Av ?_)))))
  rcases h3 with ⟨y0, hg⟩ | ⟨hg, h3⟩
  refine Be 0 rfl (CS hfu hdn) (fun _ => rfl) ?_; rintro x
  have hn64 := x.now64
  obtain ⟨j, q, hj, hq, hlt, hqb, hm⟩ := x.yes_ hg
  have hok : L2 d1.now (.app n b) := hnm
  have hfew := Jy (o := .app n b) hn64.1 (fun m c e hg2 => by cases e; rw [hg] at hg2; cases hg2)
  have hyl : (OpD.data (.app n b)).length ≤ 1099511627776 := by show b.length ≤ _; omega
  refine Av ?_
  refine BL 36 2 [⟨.quiet, [none, none], fun _ => v, []⟩, ⟨.quiet, [none, none], fun _ => .int .i64 (b.length : Int), [0]⟩, ⟨.quiet, [none, none], fun _ => .pointer (some ⟨p, 0, none⟩), []⟩, ⟨.quiet, [none, none], fun _ => .pointer (some ⟨p, 0, none⟩), [2]⟩, ⟨.quiet, [none, none], fun _ => .pointer (some ⟨p, 0, none⟩), [3]⟩, ⟨.quiet, [none, none], fun _ => .int .i64 d1.room, [4]⟩, ⟨.quiet, [none, none], fun _ => .bool false, [1, 5]⟩, ⟨.quiet, [none, none], fun _ => .bool false, [6]⟩, ⟨.quiet, [none, none], fun _ => .pointer (some ⟨p, 0, none⟩), [7]⟩, ⟨.actv 0, [some false, some false], fun _ => .int .i64 ((AN d1.now : Nat) : Int), [8, 7]⟩, ⟨.quiet, [none, none], fun _ => .pointer (some ⟨p, 0, none⟩), [7]⟩, ⟨.quiet, [none, none], fun _ => .pointer (some ⟨p, 0, none⟩), [10, 7]⟩, ⟨.quiet, [none, none], fun _ => .pointer (some ⟨p, 0, none⟩), [11, 7]⟩, ⟨.quiet, [none, none], fun _ => .int .i64 d1.room, [12, 7]⟩, ⟨.quiet, [none, none], fun _ => v, [7]⟩, ⟨.quiet, [none, none], fun _ => .int .i64 (b.length : Int), [14, 7]⟩, ⟨.quiet, [none, none], fun _ => .int .i64 (d1.room - (b.length : Int)), [13, 15, 7]⟩, ⟨.quiet, [some true, none], fun _ => .bool false, [9, 16, 7]⟩, ⟨.quiet, [some true, none], fun _ => .bool false, [7, 17]⟩, ⟨.quiet, [some true, none], fun _ => .bool false, [18]⟩, ⟨.quiet, [some true, none], fun _ => .pointer (some ⟨p, 0, none⟩), [19]⟩, ⟨.quiet, [some true, none], fun _ => .pointer (some ⟨p, 0, none⟩), [20, 19]⟩, ⟨.quiet, [some true, none], fun _ => .pointer (some ⟨p, 2, none⟩), [21, 19]⟩, ⟨.quiet, [some true, none], fun _ => x.nv, [22, 19]⟩, ⟨.quiet, [some true, none], fun _ => .string (bs n), [19]⟩, ⟨.actv 1, [some true, some false], fun _ => .int .i64 (j : Int), [23, 24, 19]⟩, ⟨.quiet, [some true, some true], fun _ => .bool false, [25, 19]⟩, ⟨.quiet, [some true, some true], fun _ => .bool false, [26, 19]⟩, ⟨.skip, [some true, some true], fun _ => undef, [27]⟩, ⟨.skip, [some true, some true], fun _ => undef, [28, 27]⟩, ⟨.skip, [some true, some true], fun _ => undef, [29, 27]⟩, ⟨.skip, [some true, some true], fun _ => undef, [30, 27]⟩, ⟨.skip, [some true, some true], fun _ => undef, [31, 27]⟩, ⟨.skip, [some true, some true], fun _ => undef, [32, 27]⟩, ⟨.quiet, [some true, some true], fun _ => .bool false, [27, 33, 19]⟩, ⟨.quiet, [some true, some true], fun _ => .bool false, [19, 34]⟩] [(0, .pointer (some ⟨p, 0, none⟩)), (1, .string (bs n)), (2, v), (6, .int .i64 0)] (fun ρ => match ρ with | [r0, r1] => [cell p 61 #[.int .i64 d1.room, x.sv, x.nv, x.wv, .bool fu, .int .i64 x.fz, .bool false], x.F, x.Y, Ar 107 5 encRO x.wv x.W, X] | _ => []) (by kernel_rfl) (by kernel_rfl) ⟨rfl, rfl, rfl, rfl, trivial⟩ rfl ?_ ?_
  refine Ac (by intro r0_ r1_; exact ⟨rfl, fun b w hH hb => Af Ah rfl hb⟩) (Ac (by intro r0_ r1_; exact ⟨rfl, fun b w hH hb => Bf (((hH.rd8 4 rfl hX).rd)) Tryz.underlying32 rfl rfl hb⟩) (Ac (by intro r0_ r1_; exact ⟨rfl, fun b w hH hb => Af Ah rfl hb⟩) (Ac (by intro r0_ r1_; exact ⟨rfl, fun b w hH hb => by exact BD rfl rfl hb⟩) (Ac (by intro r0_ r1_; exact ⟨rfl, fun b w hH hb => Af Ah rfl hb⟩) (Ac (by intro r0_ r1_; exact ⟨rfl, fun b w hH hb => Ba rfl rfl (Bm Bc rfl) (hH.row 0 rfl) hb⟩) (Ac (by intro r0_ r1_; exact ⟨rfl, fun b w hH hb => AZ rfl rfl rfl (BI (by omega)) hb⟩) (Ac (by intro r0_ r1_; exact ⟨rfl, fun b w hH hb => Af Ah rfl hb⟩) (Ac (by intro r0_ r1_; exact ⟨rfl, fun b w hH hb => Af Ah rfl hb⟩) (Ac (by exact ⟨rfl, Bk.su (Ak (os' := fun _ => [cell p 61 #[.int .i64 d1.room, x.sv, x.nv, x.wv, .bool fu, .int .i64 x.fz, .bool false], x.F, x.Y, Ar 107 5 encRO x.wv x.W, X]) [0, 1] 0 (Ai Tryz.func56 (by kernel_rfl) rfl) (LS x hf1) rfl rfl rfl (fun _ => rfl) rfl rfl rfl) rfl⟩) ?_)))))))))
  refine Ac (by intro r0_ r1_; exact ⟨rfl, fun b w hH hb => Af Ah rfl hb⟩) (Ac (by intro r0_ r1_; exact ⟨rfl, fun b w hH hb => by exact BD rfl rfl hb⟩) (Ac (by intro r0_ r1_; exact ⟨rfl, fun b w hH hb => Af Ah rfl hb⟩) (Ac (by intro r0_ r1_; exact ⟨rfl, fun b w hH hb => Ba rfl rfl (Bm Bc rfl) (hH.row 0 rfl) hb⟩) (Ac (by intro r0_ r1_; exact ⟨rfl, fun b w hH hb => Af Ah rfl hb⟩) (Ac (by intro r0_ r1_; exact ⟨rfl, fun b w hH hb => Bf (((hH.rd8 4 rfl hX).rd)) Tryz.underlying32 rfl rfl hb⟩) (Ac (by intro r0_ r1_; exact ⟨rfl, fun b w hH hb => AQ rfl rfl rfl rfl (IntWalk.i64_in _ (by omega)) hb⟩) (Ac (by intro v0_ r1_; exact ⟨rfl, fun b w hH hb => AZ rfl rfl rfl (BI (by omega)) hb⟩) (Ac (by intro v0_ r1_; exact ⟨rfl, fun b w hH hb => Af Ah rfl hb⟩) (Ac (by intro v0_ r1_; exact ⟨rfl, fun b w hH hb => Af Ah rfl hb⟩) ?_)))))))))
  refine Ac (by intro v0_ r1_; exact ⟨rfl, fun b w hH hb => Af Ah rfl hb⟩) (Ac (by intro v0_ r1_; exact ⟨rfl, fun b w hH hb => by exact BD rfl rfl hb⟩) (Ac (by intro v0_ r1_; exact ⟨rfl, fun b w hH hb => Af Ah rfl hb⟩) (Ac (by intro v0_ r1_; exact ⟨rfl, fun b w hH hb => Ba rfl rfl (Bm Ap rfl) (hH.row 0 rfl) hb⟩) (Ac (by intro v0_ r1_; exact ⟨rfl, fun b w hH hb => Af Ah rfl hb⟩) (Ac (by intro v0_; exact ⟨rfl, Bk.su (Ak (os' := fun _ => [cell p 61 #[.int .i64 d1.room, x.sv, x.nv, x.wv, .bool fu, .int .i64 x.fz, .bool false], x.F, x.Y, Ar 107 5 encRO x.wv x.W, X]) [1] 0 (Ai Tryz.func66 (by kernel_rfl) rfl) (Dv x.rn (by omega) hj hq hlt) rfl rfl rfl (fun _ => rfl) rfl rfl rfl) rfl⟩) (Ac (by intro v0_ v1_; exact ⟨rfl, fun b w hH hb => AZ rfl rfl rfl (BS (by omega)) hb⟩) (Ac (by intro v0_ v1_; exact ⟨rfl, fun b w hH hb => Af Ah rfl hb⟩) (Ac (by intro v0_ v1_; exact ⟨rfl, rfl⟩) (Ac (by intro v0_ v1_; exact ⟨rfl, rfl⟩) ?_)))))))))
  refine Ac (by intro v0_ v1_; exact ⟨rfl, rfl⟩) (Ac (by intro v0_ v1_; exact ⟨rfl, rfl⟩) (Ac (by intro v0_ v1_; exact ⟨rfl, rfl⟩) (Ac (by intro v0_ v1_; exact ⟨rfl, rfl⟩) (Ac (by intro v0_ v1_; exact ⟨rfl, fun b w hH hb => Af Ah rfl hb⟩) (Ac (by intro v0_ v1_; exact ⟨rfl, fun b w hH hb => Af Ah rfl hb⟩) ?_)))))
  exact B7
  intro v0_ v1_
  refine Cf.keep (env' := [(0, .pointer (some ⟨p, 0, none⟩)), (1, .string (bs n)), (2, v), (6, .int .i64 0), (51, .bool false)]) ⟨rfl, rfl, rfl, rfl, rfl, trivial⟩ (AV (AL (As rfl (AB (AL (Bi [0, 1, 2, 3] rfl (CD x hfu hdn) rfl (Ad (Ae Ah rfl ?_))))))))
  refine Aj (X := Value) (val := fun v : Value => v) (post := fun u54 => [Ar 5 1 encB u54 ([]), An p d1, X]) rfl (by refine D1 (e := 5) (t := 32) (k := 1) (enc := encB) ?_ ?_; exact AJ; exact rfl) ?_; rintro u54
  refine Ae Ah rfl (Aj (post := fun u56 => [Ar 5 1 encB u56 b, An p d1, X]) rfl (CE 0 AJ (by kernel_rfl) rfl (b) (fun w hH => (hH.rd8 2 rfl hX).rd) (by simp only [List.length_nil]; omega) rfl rfl rfl (List.nil_append _)) ?_); rintro u56
  refine Cf.fact 0 rfl (fun _ h => Ar.is h) ?_; rintro ⟨A9, c9, rfl⟩
  refine Cf.fact 0 rfl Nv ?_; rintro hcap
  refine Aa rfl (.agg #[.int .i64 0, .string (bs n), .string { data := #[] }, .slice A9 b.length c9, .int .i64 0]) (fun b w hb hH => Bn rfl rfl (by kernel_rfl) hb) (Aj rfl (Ak (os' := fun _ => [DN, An p (Cp d1 (.app n b)), X]) [1, 0] 0 (Ai Tryz.func67 (by kernel_rfl) rfl) (RB (y := ⟨.app n b, A9, c9⟩) hf1 hdn hok hfew C9 hcap hyl) rfl rfl rfl (fun _ => rfl) rfl rfl rfl) ?_); rintro ⟨⟩
  refine Cf.leave [0] rfl rfl (Ae Ah rfl (Ab (Ax ?_)))
  exact Aw (.tmp rfl) (fun w h => AH () rfl [0, 1] rfl h CK) rfl
  refine Be 0 rfl (CS hfu hdn) (fun _ => rfl) ?_; rintro x
  have hn64 := x.now64
  have hok : L2 d1.now (.app n b) := hnm
  have hfew := Jy (o := .app n b) hn64.1 (fun m c e hg2 => h3)
  have hyl : (OpD.data (.app n b)).length ≤ 1099511627776 := by show b.length ≤ _; omega
  refine Av ?_
  refine BL 36 2 [⟨.quiet, [none, none], fun _ => v, []⟩, ⟨.quiet, [none, none], fun _ => .int .i64 (b.length : Int), [0]⟩, ⟨.quiet, [none, none], fun _ => .pointer (some ⟨p, 0, none⟩), []⟩, ⟨.quiet, [none, none], fun _ => .pointer (some ⟨p, 0, none⟩), [2]⟩, ⟨.quiet, [none, none], fun _ => .pointer (some ⟨p, 0, none⟩), [3]⟩, ⟨.quiet, [none, none], fun _ => .int .i64 d1.room, [4]⟩, ⟨.quiet, [none, none], fun _ => .bool false, [1, 5]⟩, ⟨.quiet, [none, none], fun _ => .bool false, [6]⟩, ⟨.quiet, [none, none], fun _ => .pointer (some ⟨p, 0, none⟩), [7]⟩, ⟨.actv 0, [some false, some false], fun _ => .int .i64 ((AN d1.now : Nat) : Int), [8, 7]⟩, ⟨.quiet, [none, none], fun _ => .pointer (some ⟨p, 0, none⟩), [7]⟩, ⟨.quiet, [none, none], fun _ => .pointer (some ⟨p, 0, none⟩), [10, 7]⟩, ⟨.quiet, [none, none], fun _ => .pointer (some ⟨p, 0, none⟩), [11, 7]⟩, ⟨.quiet, [none, none], fun _ => .int .i64 d1.room, [12, 7]⟩, ⟨.quiet, [none, none], fun _ => v, [7]⟩, ⟨.quiet, [none, none], fun _ => .int .i64 (b.length : Int), [14, 7]⟩, ⟨.quiet, [none, none], fun _ => .int .i64 (d1.room - (b.length : Int)), [13, 15, 7]⟩, ⟨.quiet, [some true, none], fun _ => .bool false, [9, 16, 7]⟩, ⟨.quiet, [some true, none], fun _ => .bool false, [7, 17]⟩, ⟨.quiet, [some true, none], fun _ => .bool false, [18]⟩, ⟨.quiet, [some true, none], fun _ => .pointer (some ⟨p, 0, none⟩), [19]⟩, ⟨.quiet, [some true, none], fun _ => .pointer (some ⟨p, 0, none⟩), [20, 19]⟩, ⟨.quiet, [some true, none], fun _ => .pointer (some ⟨p, 2, none⟩), [21, 19]⟩, ⟨.quiet, [some true, none], fun _ => x.nv, [22, 19]⟩, ⟨.quiet, [some true, none], fun _ => .string (bs n), [19]⟩, ⟨.actv 1, [some true, some false], fun _ => .int .i64 (-1), [23, 24, 19]⟩, ⟨.quiet, [some true, some true], fun _ => .bool true, [25, 19]⟩, ⟨.quiet, [some true, some true], fun _ => .bool true, [26, 19]⟩, ⟨.quiet, [some true, some true], fun _ => .pointer (some ⟨p, 0, none⟩), [27]⟩, ⟨.quiet, [some true, some true], fun _ => .pointer (some ⟨p, 0, none⟩), [28, 27]⟩, ⟨.quiet, [some true, some true], fun _ => .pointer (some ⟨p, 2, none⟩), [29, 27]⟩, ⟨.quiet, [some true, some true], fun _ => x.nv, [30, 27]⟩, ⟨.quiet, [some true, some true], fun _ => .int .i64 (x.nl.length : Int), [31, 27]⟩, ⟨.quiet, [some true, some true], fun _ => .bool false, [32, 27]⟩, ⟨.quiet, [some true, some true], fun _ => .bool false, [27, 33, 19]⟩, ⟨.quiet, [some true, some true], fun _ => .bool false, [19, 34]⟩] [(0, .pointer (some ⟨p, 0, none⟩)), (1, .string (bs n)), (2, v), (6, .int .i64 0)] (fun ρ => match ρ with | [r0, r1] => [cell p 61 #[.int .i64 d1.room, x.sv, x.nv, x.wv, .bool fu, .int .i64 x.fz, .bool false], x.F, x.Y, Ar 107 5 encRO x.wv x.W, X] | _ => []) (by kernel_rfl) (by kernel_rfl) ⟨rfl, rfl, rfl, rfl, trivial⟩ rfl ?_ ?_
  refine Ac (by intro r0_ r1_; exact ⟨rfl, fun b w hH hb => Af Ah rfl hb⟩) (Ac (by intro r0_ r1_; exact ⟨rfl, fun b w hH hb => Bf (((hH.rd8 4 rfl hX).rd)) Tryz.underlying32 rfl rfl hb⟩) (Ac (by intro r0_ r1_; exact ⟨rfl, fun b w hH hb => Af Ah rfl hb⟩) (Ac (by intro r0_ r1_; exact ⟨rfl, fun b w hH hb => by exact BD rfl rfl hb⟩) (Ac (by intro r0_ r1_; exact ⟨rfl, fun b w hH hb => Af Ah rfl hb⟩) (Ac (by intro r0_ r1_; exact ⟨rfl, fun b w hH hb => Ba rfl rfl (Bm Bc rfl) (hH.row 0 rfl) hb⟩) (Ac (by intro r0_ r1_; exact ⟨rfl, fun b w hH hb => AZ rfl rfl rfl (BI (by omega)) hb⟩) (Ac (by intro r0_ r1_; exact ⟨rfl, fun b w hH hb => Af Ah rfl hb⟩) (Ac (by intro r0_ r1_; exact ⟨rfl, fun b w hH hb => Af Ah rfl hb⟩) (Ac (by exact ⟨rfl, Bk.su (Ak (os' := fun _ => [cell p 61 #[.int .i64 d1.room, x.sv, x.nv, x.wv, .bool fu, .int .i64 x.fz, .bool false], x.F, x.Y, Ar 107 5 encRO x.wv x.W, X]) [0, 1] 0 (Ai Tryz.func56 (by kernel_rfl) rfl) (LS x hf1) rfl rfl rfl (fun _ => rfl) rfl rfl rfl) rfl⟩) ?_)))))))))
  refine Ac (by intro r0_ r1_; exact ⟨rfl, fun b w hH hb => Af Ah rfl hb⟩) (Ac (by intro r0_ r1_; exact ⟨rfl, fun b w hH hb => by exact BD rfl rfl hb⟩) (Ac (by intro r0_ r1_; exact ⟨rfl, fun b w hH hb => Af Ah rfl hb⟩) (Ac (by intro r0_ r1_; exact ⟨rfl, fun b w hH hb => Ba rfl rfl (Bm Bc rfl) (hH.row 0 rfl) hb⟩) (Ac (by intro r0_ r1_; exact ⟨rfl, fun b w hH hb => Af Ah rfl hb⟩) (Ac (by intro r0_ r1_; exact ⟨rfl, fun b w hH hb => Bf (((hH.rd8 4 rfl hX).rd)) Tryz.underlying32 rfl rfl hb⟩) (Ac (by intro r0_ r1_; exact ⟨rfl, fun b w hH hb => AQ rfl rfl rfl rfl (IntWalk.i64_in _ (by omega)) hb⟩) (Ac (by intro v0_ r1_; exact ⟨rfl, fun b w hH hb => AZ rfl rfl rfl (BI (by omega)) hb⟩) (Ac (by intro v0_ r1_; exact ⟨rfl, fun b w hH hb => Af Ah rfl hb⟩) (Ac (by intro v0_ r1_; exact ⟨rfl, fun b w hH hb => Af Ah rfl hb⟩) ?_)))))))))
  refine Ac (by intro v0_ r1_; exact ⟨rfl, fun b w hH hb => Af Ah rfl hb⟩) (Ac (by intro v0_ r1_; exact ⟨rfl, fun b w hH hb => by exact BD rfl rfl hb⟩) (Ac (by intro v0_ r1_; exact ⟨rfl, fun b w hH hb => Af Ah rfl hb⟩) (Ac (by intro v0_ r1_; exact ⟨rfl, fun b w hH hb => Ba rfl rfl (Bm Ap rfl) (hH.row 0 rfl) hb⟩) (Ac (by intro v0_ r1_; exact ⟨rfl, fun b w hH hb => Af Ah rfl hb⟩) (Ac (by intro v0_; exact ⟨rfl, Bk.su (Ak (os' := fun _ => [cell p 61 #[.int .i64 d1.room, x.sv, x.nv, x.wv, .bool fu, .int .i64 x.fz, .bool false], x.F, x.Y, Ar 107 5 encRO x.wv x.W, X]) [1] 0 (Ai Tryz.func66 (by kernel_rfl) rfl) (DK x.rn (by omega) (x.no_ hg)) rfl rfl rfl (fun _ => rfl) rfl rfl rfl) rfl⟩) (Ac (by intro v0_ v1_; exact ⟨rfl, fun b w hH hb => AZ rfl rfl rfl (Bw (by omega)) hb⟩) (Ac (by intro v0_ v1_; exact ⟨rfl, fun b w hH hb => Af Ah rfl hb⟩) (Ac (by intro v0_ v1_; exact ⟨rfl, fun b w hH hb => Af Ah rfl hb⟩) (Ac (by intro v0_ v1_; exact ⟨rfl, fun b w hH hb => by exact BD rfl rfl hb⟩) ?_)))))))))
  refine Ac (by intro v0_ v1_; exact ⟨rfl, fun b w hH hb => Af Ah rfl hb⟩) (Ac (by intro v0_ v1_; exact ⟨rfl, fun b w hH hb => Ba rfl rfl (Bm Ap rfl) (hH.row 0 rfl) hb⟩) (Ac (by intro v0_ v1_; exact ⟨rfl, fun b w hH hb => Bf ((hH.rdFs 1 rfl x.rn)) Tryz.underlying55 rfl rfl hb⟩) (Ac (by intro v0_ v1_; exact ⟨rfl, fun b w hH hb => AZ rfl rfl rfl (C6 (by omega)) hb⟩) (Ac (by intro v0_ v1_; exact ⟨rfl, fun b w hH hb => Af Ah rfl hb⟩) (Ac (by intro v0_ v1_; exact ⟨rfl, fun b w hH hb => Af Ah rfl hb⟩) ?_)))))
  exact B7
  intro v0_ v1_
  refine Cf.keep (env' := [(0, .pointer (some ⟨p, 0, none⟩)), (1, .string (bs n)), (2, v), (6, .int .i64 0), (51, .bool false)]) ⟨rfl, rfl, rfl, rfl, rfl, trivial⟩ (AV (AL (As rfl (AB (AL (Bi [0, 1, 2, 3] rfl (CD x hfu hdn) rfl (Ad (Ae Ah rfl ?_))))))))
  refine Aj (X := Value) (val := fun v : Value => v) (post := fun u54 => [Ar 5 1 encB u54 ([]), An p d1, X]) rfl (by refine D1 (e := 5) (t := 32) (k := 1) (enc := encB) ?_ ?_; exact AJ; exact rfl) ?_; rintro u54
  refine Ae Ah rfl (Aj (post := fun u56 => [Ar 5 1 encB u56 b, An p d1, X]) rfl (CE 0 AJ (by kernel_rfl) rfl (b) (fun w hH => (hH.rd8 2 rfl hX).rd) (by simp only [List.length_nil]; omega) rfl rfl rfl (List.nil_append _)) ?_); rintro u56
  refine Cf.fact 0 rfl (fun _ h => Ar.is h) ?_; rintro ⟨A9, c9, rfl⟩
  refine Cf.fact 0 rfl Nv ?_; rintro hcap
  refine Aa rfl (.agg #[.int .i64 0, .string (bs n), .string { data := #[] }, .slice A9 b.length c9, .int .i64 0]) (fun b w hb hH => Bn rfl rfl (by kernel_rfl) hb) (Aj rfl (Ak (os' := fun _ => [DN, An p (Cp d1 (.app n b)), X]) [1, 0] 0 (Ai Tryz.func67 (by kernel_rfl) rfl) (RB (y := ⟨.app n b, A9, c9⟩) hf1 hdn hok hfew C9 hcap hyl) rfl rfl rfl (fun _ => rfl) rfl rfl rfl) ?_); rintro ⟨⟩
  refine Cf.leave [0] rfl rfl (Ae Ah rfl (Ab (Ax ?_)))
  exact Aw (.tmp rfl) (fun w h => AH () rfl [0, 1] rfl h CK) rfl
  rw [if_pos (by omega)] at h
  obtain ⟨rfl, rfl⟩ := Prod.mk.inj h
  refine Ad (Ae Ah rfl (Aa rfl (.bool true) (fun b w hb hH => AZ rfl rfl rfl (BO (by omega)) hb) (Ab (AI rfl (Ad (Ae Ah rfl (Ab (Ax (C4 ?_)))))))))
  exact Aw (.tmp rfl) (fun w h => AH () rfl [0, 1] rfl h CK) rfl
  subst he1
  rw [if_neg (by simp), if_pos hnm] at h
  obtain ⟨rfl, rfl⟩ := Prod.mk.inj h
  refine Ad (Ae Ah rfl (Aa rfl (.bool false) (fun b w hb hH => AZ rfl rfl rfl (AP (by omega)) hb) (Ab (As rfl (AB (AL (Av (Ad (Ae Ah rfl (Aj (post := fun _ => [An p d1, X]) rfl (AU (Ai Tryz.func65 (by kernel_rfl) rfl) (fun w hH => ME w n false hnm (by omega)) rfl rfl rfl) ?_)))))))))); rintro ⟨⟩
  refine Ae Ah rfl (Ab (AI rfl (Ad (Ae Ah rfl (Ab (Ax (C4 ?_)))))))
  exact Aw (.tmp rfl) (fun w h => AH () rfl [0, 1] rfl h CK) rfl
end Go.Proofs.YtjcfimmcogkopaaGreat.Sep
