/-
  RdkF
-/
import Derived.Test.YtnknboibmifacaaGreatYN01
set_option linter.unusedSimpArgs false
set_option linter.unusedVariables false
namespace Go.Proofs.YtnknboibmifacaaGreat.Sep
open Go.RowKit
open Go.Proofs.YtnknboibmifacaaGreat.Mem (Bd Cj Chg AF)
theorem ML {f : FS} {n x : List UInt8} : (Bz f n x).length = if (AL f n).isSome = true then f.length else f.length + 1 := by
  cases e : AL f n with
  | none => rw [EV e]; simp
  | some y =>
    have h := congrArg List.length (IA (x := x) e)
    simp only [AI, List.length_map] at h
    rw [h]; simp
theorem Qr {f : FS} {n x : List UInt8} (h : AL f n = some x) : (BS f n).length + 1 = f.length := by
 obtain ⟨q, h1, h2⟩ := KO h
 have h3 := Dn h1
 unfold BS
 rw [h1]
 have h4 := (List.getElem?_eq_some_iff.1 h3.2).1
 simp only [Nat.sub_zero] at h4
 rw [List.length_eraseIdx, if_pos h4]
 omega
theorem Pz {f : FS} {n : List UInt8} : (BS f n).length ≤ f.length := by
  cases e : AL f n with
  | none => rw [KC e]; exact Nat.le_refl _
  | some x => have := Qr e; omega
theorem IY {f : FS} {o : OpD} (hf : f.length ≤ 64) (happ : ∀ n b, o = .app n b → AL f n = none → f.length < 64) : (AW f o).length ≤ 64 := by
  cases o with
  | app n b =>
    show (Bz f n _).length ≤ 64
    rw [ML]
    split
    · exact hf
    · rename_i h
      have := happ n b rfl (by simpa using h)
      omega
  | cut n s =>
    show (match AL f n with | some x => Bz f n (x.take s) | none => f).length ≤ 64
    cases e : AL f n with
    | none => exact hf
    | some x =>
      simp only
      rw [ML, e]
      simpa using hf
  | ren a b =>
    show (match AL f a with | some x => Bz (BS f a) b x | none => f).length ≤ 64
    cases e : AL f a with
    | none => exact hf
    | some x =>
      simp only
      have := Qr e
      rw [ML]
      split <;> omega
  | del n => exact Nat.le_trans Pz hf
theorem Et {d d1 : DiskD} (h : Ba d = (d1, 0)) : d1.down = false ∧ d1.syn = d.syn ∧ d1.wait = d.wait ∧ d1.room = d.room := by
  rcases Fi d with ⟨hdn, hb⟩ | ⟨hdn, hz, hb⟩ | ⟨hdn, k, hz, hb⟩ | ⟨hdn, hz, hb⟩
  · rw [hb] at h; cases (Prod.mk.inj h).2
  · rw [hb] at h; cases (Prod.mk.inj h).2
  · rw [hb] at h; obtain ⟨rfl, _⟩ := Prod.mk.inj h; exact ⟨hdn, rfl, rfl, rfl⟩
  · rw [hb] at h; obtain ⟨rfl, _⟩ := Prod.mk.inj h; exact ⟨hdn, rfl, rfl, rfl⟩
theorem Ga {d d1 : DiskD} {e : Nat} (h : Ba d = (d1, e)) (hf : d.fit) : d1.fit := by
  rcases Fi d with ⟨_, hb⟩ | ⟨_, _, hb⟩ | ⟨_, k, _, hb⟩ | ⟨_, _, hb⟩ <;> (rw [hb] at h; obtain ⟨rfl, _⟩ := Prod.mk.inj h; exact hf)
theorem RDk.now64 {d : DiskD} (x : RDk d) : d.now.length ≤ 64 ∧ x.nl.length = d.now.length := by
 have h2 := x.pn.length_eq
 unfold FO at h2
 rw [List.length_map] at h2
 have := x.nlen
 omega
theorem Uy {d : DiskD} {n b : List UInt8} (h : EC d n b = false) : d.room < (b.length : Int) ∨ ((b.length : Int) ≤ d.room ∧ d.room - (b.length : Int) < ((AE d.now : Nat) : Int)) ∨ ((b.length : Int) ≤ d.room ∧ ((AE d.now : Nat) : Int) ≤ d.room - (b.length : Int) ∧ AL d.now n = none ∧ 64 ≤ d.now.length) := by
  unfold EC at h
  rw [Bool.and_eq_false_iff] at h
  rcases h with h | h
  · simp only [decide_eq_false_iff_not] at h
    omega
  · simp only [Bool.not_eq_false', Bool.and_eq_true, decide_eq_true_eq, Option.isNone_iff_eq_none] at h
    by_cases h1 : (b.length : Int) ≤ d.room
    · by_cases h2 : ((AE d.now : Nat) : Int) ≤ d.room - (b.length : Int)
      · exact .inr (.inr ⟨h1, h2, h.1, h.2⟩)
      · exact .inr (.inl ⟨h1, by omega⟩)
    · exact .inl (by omega)
theorem Lc {d : DiskD} {n b : List UInt8} (h : EC d n b = true) : (b.length : Int) ≤ d.room ∧ ((AE d.now : Nat) : Int) ≤ d.room - (b.length : Int) ∧ ((∃ y, AL d.now n = some y) ∨ (AL d.now n = none ∧ d.now.length < 64)) := by
  unfold EC at h
  rw [Bool.and_eq_true, decide_eq_true_eq] at h
  refine ⟨by omega, by omega, ?_⟩
  cases e : AL d.now n with
  | some y => exact .inl ⟨y, rfl⟩
  | none =>
    have h2 := h.2
    rw [e] at h2
    simp at h2
    exact .inr ⟨rfl, h2⟩
set_option maxRecDepth 100000 in
theorem Uz {p : Nat} {d d' : DiskD} {n b : List UInt8} {e : Nat} {X : Ass} {v : Value} (hf : d.fit) (hrm : 0 ≤ d.room ∧ d.room ≤ 1048576) (hX : Cw X v b) (hbl : b.length ≤ 140737488355328) (hnl : n.length ≤ 9223372036854775807) (h : Cl d n b = (d', e)) : AS Tryz.prog 22 #[.pointer (some ⟨p, 0, none⟩), .string (bs n), v] [AA p d, X] (fun (_ : Unit) => .int .i64 (e : Int)) (fun (_ : Unit) => [AA p d', X]) := by
  refine A6 (args := [.pointer (some ⟨p, 0, none⟩), .string (bs n), v]) 59 Tryz.func22 rfl rfl rfl ?_; intro w rs
  obtain ⟨⟨d1, e1⟩, hb⟩ : ∃ R, Ba d = R := ⟨_, rfl⟩
  have hf1 := Ga hb hf
  unfold Cl at h
  rw [hb] at h; simp only at h
  refine Ad ?_
  refine Af Ag rfl ?_
  refine Ab (Aq (Ad ?_))
  refine Af Ag rfl ?_
  refine Ai rfl (Am (os' := fun _ => [AA p d1, X]) [0] 0 (Ah Tryz.func30 (by kernel_rfl) rfl) (Ka hb) rfl rfl rfl (fun _ => rfl) rfl rfl rfl) ?_; rintro ⟨⟩
  refine Af Ag rfl ?_
  refine Ab ?_
  rcases Nat.eq_zero_or_pos e1 with he1 | he1
  rcases hnm : CA n with _ | _
  rotate_left
  rcases hft : EC d1 n b with _ | _
  · skip
    subst he1
    rw [if_neg (by simp), if_neg (by simp [hnm]), hft, if_pos rfl] at h
    obtain ⟨rfl, rfl⟩ := Prod.mk.inj h
    obtain ⟨hdn, hs1, hw1, hr1⟩ := Et hb
    obtain ⟨fu, hfu⟩ : ∃ fu, d1.fuse.isSome = fu := ⟨_, rfl⟩
    refine Ad ?_
    refine Af Ag rfl ?_
    refine Ac rfl (.bool false) (fun b w hb hH => Bh rfl rfl rfl (AU (by omega)) hb) ?_
    refine Ab (Au rfl (Ax (AG (Aq (Ad ?_)))))
    refine Af Ag rfl ?_
    refine Ai (post := fun _ => [AA p d1, X]) rfl (BQ (Ah Tryz.func60 (by kernel_rfl) rfl) (fun w hH => Tv w n true hnm (by omega)) rfl rfl rfl) ?_; rintro ⟨⟩
    refine Af Ag rfl ?_
    refine Ab (Au rfl (Ax (AG (Aq ?_))))
    rcases Uy hft with h1 | ⟨h1, h2⟩ | ⟨h1, h2, hg, h3⟩
    · skip
      refine AY 0 rfl (CX hfu hdn) (fun _ => rfl) ?_; rintro x
      refine Aq ?_
      refine BM 36 0 [⟨.quiet, [], fun _ => v, []⟩, ⟨.quiet, [], fun _ => .int .i64 (b.length : Int), [0]⟩, ⟨.quiet, [], fun _ => .pointer (some ⟨p, 0, none⟩), []⟩, ⟨.quiet, [], fun _ => .pointer (some ⟨p, 0, none⟩), [2]⟩, ⟨.quiet, [], fun _ => .pointer (some ⟨p, 0, none⟩), [3]⟩, ⟨.quiet, [], fun _ => .int .i64 d1.room, [4]⟩, ⟨.quiet, [], fun _ => .bool true, [1, 5]⟩, ⟨.quiet, [], fun _ => .bool true, [6]⟩, ⟨.skip, [], fun _ => undef, [7]⟩, ⟨.skip, [], fun _ => undef, [8, 7]⟩, ⟨.skip, [], fun _ => undef, [7]⟩, ⟨.skip, [], fun _ => undef, [10, 7]⟩, ⟨.skip, [], fun _ => undef, [11, 7]⟩, ⟨.skip, [], fun _ => undef, [12, 7]⟩, ⟨.skip, [], fun _ => undef, [7]⟩, ⟨.skip, [], fun _ => undef, [14, 7]⟩, ⟨.skip, [], fun _ => undef, [13, 15, 7]⟩, ⟨.skip, [], fun _ => undef, [9, 16, 7]⟩, ⟨.quiet, [], fun _ => .bool true, [7, 17]⟩, ⟨.quiet, [], fun _ => .bool true, [18]⟩, ⟨.skip, [], fun _ => undef, [19]⟩, ⟨.skip, [], fun _ => undef, [20, 19]⟩, ⟨.skip, [], fun _ => undef, [21, 19]⟩, ⟨.skip, [], fun _ => undef, [22, 19]⟩, ⟨.skip, [], fun _ => undef, [19]⟩, ⟨.skip, [], fun _ => undef, [23, 24, 19]⟩, ⟨.skip, [], fun _ => undef, [25, 19]⟩, ⟨.skip, [], fun _ => undef, [26, 19]⟩, ⟨.skip, [], fun _ => undef, [27]⟩, ⟨.skip, [], fun _ => undef, [28, 27]⟩, ⟨.skip, [], fun _ => undef, [29, 27]⟩, ⟨.skip, [], fun _ => undef, [30, 27]⟩, ⟨.skip, [], fun _ => undef, [31, 27]⟩, ⟨.skip, [], fun _ => undef, [32, 27]⟩, ⟨.skip, [], fun _ => undef, [27, 33, 19]⟩, ⟨.quiet, [], fun _ => .bool true, [19, 34]⟩] [(0, .pointer (some ⟨p, 0, none⟩)), (1, .string (bs n)), (2, v), (6, .int .i64 0)] (fun _ => [cell p 59 #[.int .i64 d1.room, x.sv, x.nv, x.wv, .bool fu, .int .i64 x.fz, .bool false], x.F, x.Y, Ao 103 5 encRO x.wv x.W, X]) (by kernel_rfl) (by kernel_rfl) ⟨rfl, rfl, rfl, rfl, trivial⟩ rfl ?_ ?_
      · skip
        refine Aa (by exact ⟨rfl, fun b w hH hb => Ae Ag rfl hb⟩) ?_
        refine Aa (by exact ⟨rfl, fun b w hH hb => AQ (((hH.rd8 4 rfl hX).rd)) Tryz.underlying48 rfl rfl hb⟩) ?_
        refine Aa (by exact ⟨rfl, fun b w hH hb => Ae Ag rfl hb⟩) ?_
        refine Aa (by exact ⟨rfl, fun b w hH hb => by exact BO rfl rfl hb⟩) ?_
        refine Aa (by exact ⟨rfl, fun b w hH hb => Ae Ag rfl hb⟩) ?_
        refine Aa (by exact ⟨rfl, fun b w hH hb => Bg rfl rfl (Bt Bj rfl) (hH.row 0 rfl) hb⟩) ?_
        refine Aa (by exact ⟨rfl, fun b w hH hb => Bh rfl rfl rfl (B2 (by omega)) hb⟩) ?_
        refine Aa (by exact ⟨rfl, fun b w hH hb => Ae Ag rfl hb⟩) ?_
        refine Aa (by exact ⟨rfl, rfl⟩) ?_
        refine Aa (by exact ⟨rfl, rfl⟩) ?_
        refine Aa (by exact ⟨rfl, rfl⟩) ?_
        refine Aa (by exact ⟨rfl, rfl⟩) ?_
        refine Aa (by exact ⟨rfl, rfl⟩) ?_
        refine Aa (by exact ⟨rfl, rfl⟩) ?_
        refine Aa (by exact ⟨rfl, rfl⟩) ?_
        refine Aa (by exact ⟨rfl, rfl⟩) ?_
        refine Aa (by exact ⟨rfl, rfl⟩) ?_
        refine Aa (by exact ⟨rfl, rfl⟩) ?_
        refine Aa (by exact ⟨rfl, fun b w hH hb => Ae Ag rfl hb⟩) ?_
        refine Aa (by exact ⟨rfl, fun b w hH hb => Ae Ag rfl hb⟩) ?_
        refine Aa (by exact ⟨rfl, rfl⟩) ?_
        refine Aa (by exact ⟨rfl, rfl⟩) ?_
        refine Aa (by exact ⟨rfl, rfl⟩) ?_
        refine Aa (by exact ⟨rfl, rfl⟩) ?_
        refine Aa (by exact ⟨rfl, rfl⟩) ?_
        refine Aa (by exact ⟨rfl, rfl⟩) ?_
        refine Aa (by exact ⟨rfl, rfl⟩) ?_
        refine Aa (by exact ⟨rfl, rfl⟩) ?_
        refine Aa (by exact ⟨rfl, rfl⟩) ?_
        refine Aa (by exact ⟨rfl, rfl⟩) ?_
        refine Aa (by exact ⟨rfl, rfl⟩) ?_
        refine Aa (by exact ⟨rfl, rfl⟩) ?_
        refine Aa (by exact ⟨rfl, rfl⟩) ?_
        refine Aa (by exact ⟨rfl, rfl⟩) ?_
        refine Aa (by exact ⟨rfl, rfl⟩) ?_
        refine Aa (by exact ⟨rfl, fun b w hH hb => Ae Ag rfl hb⟩) ?_
        exact B7
      refine Ch.keep (env' := [(0, .pointer (some ⟨p, 0, none⟩)), (1, .string (bs n)), (2, v), (6, .int .i64 0), (51, .bool true)]) ⟨rfl, rfl, rfl, rfl, rfl, trivial⟩ ?_
      refine AP (AG (AD rfl ?_))
      refine Bf [0, 1, 2, 3] rfl (Ce x hfu hdn) rfl ?_
      refine Ad ?_
      refine Af Ag rfl ?_
      refine Ab (Az (CO ?_))
      exact Ay (.tmp rfl) (fun w h => AB () rfl [0, 1] rfl h Cz) rfl
    · skip
      refine AY 0 rfl (CX hfu hdn) (fun _ => rfl) ?_; rintro x
      refine Aq ?_
      refine BM 36 1 [⟨.quiet, [none], fun _ => v, []⟩, ⟨.quiet, [none], fun _ => .int .i64 (b.length : Int), [0]⟩, ⟨.quiet, [none], fun _ => .pointer (some ⟨p, 0, none⟩), []⟩, ⟨.quiet, [none], fun _ => .pointer (some ⟨p, 0, none⟩), [2]⟩, ⟨.quiet, [none], fun _ => .pointer (some ⟨p, 0, none⟩), [3]⟩, ⟨.quiet, [none], fun _ => .int .i64 d1.room, [4]⟩, ⟨.quiet, [none], fun _ => .bool false, [1, 5]⟩, ⟨.quiet, [none], fun _ => .bool false, [6]⟩, ⟨.quiet, [none], fun _ => .pointer (some ⟨p, 0, none⟩), [7]⟩, ⟨.actv 0, [some false], fun _ => .int .i64 ((AE d1.now : Nat) : Int), [8, 7]⟩, ⟨.quiet, [none], fun _ => .pointer (some ⟨p, 0, none⟩), [7]⟩, ⟨.quiet, [none], fun _ => .pointer (some ⟨p, 0, none⟩), [10, 7]⟩, ⟨.quiet, [none], fun _ => .pointer (some ⟨p, 0, none⟩), [11, 7]⟩, ⟨.quiet, [none], fun _ => .int .i64 d1.room, [12, 7]⟩, ⟨.quiet, [none], fun _ => v, [7]⟩, ⟨.quiet, [none], fun _ => .int .i64 (b.length : Int), [14, 7]⟩, ⟨.quiet, [none], fun _ => .int .i64 (d1.room - (b.length : Int)), [13, 15, 7]⟩, ⟨.quiet, [some true], fun _ => .bool true, [9, 16, 7]⟩, ⟨.quiet, [some true], fun _ => .bool true, [7, 17]⟩, ⟨.quiet, [some true], fun _ => .bool true, [18]⟩, ⟨.skip, [some true], fun _ => undef, [19]⟩, ⟨.skip, [some true], fun _ => undef, [20, 19]⟩, ⟨.skip, [some true], fun _ => undef, [21, 19]⟩, ⟨.skip, [some true], fun _ => undef, [22, 19]⟩, ⟨.skip, [some true], fun _ => undef, [19]⟩, ⟨.skip, [some true], fun _ => undef, [23, 24, 19]⟩, ⟨.skip, [some true], fun _ => undef, [25, 19]⟩, ⟨.skip, [some true], fun _ => undef, [26, 19]⟩, ⟨.skip, [some true], fun _ => undef, [27]⟩, ⟨.skip, [some true], fun _ => undef, [28, 27]⟩, ⟨.skip, [some true], fun _ => undef, [29, 27]⟩, ⟨.skip, [some true], fun _ => undef, [30, 27]⟩, ⟨.skip, [some true], fun _ => undef, [31, 27]⟩, ⟨.skip, [some true], fun _ => undef, [32, 27]⟩, ⟨.skip, [some true], fun _ => undef, [27, 33, 19]⟩, ⟨.quiet, [some true], fun _ => .bool true, [19, 34]⟩] [(0, .pointer (some ⟨p, 0, none⟩)), (1, .string (bs n)), (2, v), (6, .int .i64 0)] (fun ρ => match ρ with | [r0] => [cell p 59 #[.int .i64 d1.room, x.sv, x.nv, x.wv, .bool fu, .int .i64 x.fz, .bool false], x.F, x.Y, Ao 103 5 encRO x.wv x.W, X] | _ => []) (by kernel_rfl) (by kernel_rfl) ⟨rfl, rfl, rfl, rfl, trivial⟩ rfl ?_ ?_
      · skip
        refine Aa (by intro r0_; exact ⟨rfl, fun b w hH hb => Ae Ag rfl hb⟩) ?_
        refine Aa (by intro r0_; exact ⟨rfl, fun b w hH hb => AQ (((hH.rd8 4 rfl hX).rd)) Tryz.underlying48 rfl rfl hb⟩) ?_
        refine Aa (by intro r0_; exact ⟨rfl, fun b w hH hb => Ae Ag rfl hb⟩) ?_
        refine Aa (by intro r0_; exact ⟨rfl, fun b w hH hb => by exact BO rfl rfl hb⟩) ?_
        refine Aa (by intro r0_; exact ⟨rfl, fun b w hH hb => Ae Ag rfl hb⟩) ?_
        refine Aa (by intro r0_; exact ⟨rfl, fun b w hH hb => Bg rfl rfl (Bt Bj rfl) (hH.row 0 rfl) hb⟩) ?_
        refine Aa (by intro r0_; exact ⟨rfl, fun b w hH hb => Bh rfl rfl rfl (BC (by omega)) hb⟩) ?_
        refine Aa (by intro r0_; exact ⟨rfl, fun b w hH hb => Ae Ag rfl hb⟩) ?_
        refine Aa (by intro r0_; exact ⟨rfl, fun b w hH hb => Ae Ag rfl hb⟩) ?_
        refine Aa (by exact ⟨rfl, Br.su (Am (os' := fun _ => [cell p 59 #[.int .i64 d1.room, x.sv, x.nv, x.wv, .bool fu, .int .i64 x.fz, .bool false], x.F, x.Y, Ao 103 5 encRO x.wv x.W, X]) [0, 1] 0 (Ah Tryz.func51 (by kernel_rfl) rfl) (Lb x hf1) rfl rfl rfl (fun _ => rfl) rfl rfl rfl) rfl⟩) ?_
        refine Aa (by intro r0_; exact ⟨rfl, fun b w hH hb => Ae Ag rfl hb⟩) ?_
        refine Aa (by intro r0_; exact ⟨rfl, fun b w hH hb => by exact BO rfl rfl hb⟩) ?_
        refine Aa (by intro r0_; exact ⟨rfl, fun b w hH hb => Ae Ag rfl hb⟩) ?_
        refine Aa (by intro r0_; exact ⟨rfl, fun b w hH hb => Bg rfl rfl (Bt Bj rfl) (hH.row 0 rfl) hb⟩) ?_
        refine Aa (by intro r0_; exact ⟨rfl, fun b w hH hb => Ae Ag rfl hb⟩) ?_
        refine Aa (by intro r0_; exact ⟨rfl, fun b w hH hb => AQ (((hH.rd8 4 rfl hX).rd)) Tryz.underlying48 rfl rfl hb⟩) ?_
        refine Aa (by intro r0_; exact ⟨rfl, fun b w hH hb => AK rfl rfl rfl rfl (IntWalk.i64_in _ (by omega)) hb⟩) ?_
        refine Aa (by intro v0_; exact ⟨rfl, fun b w hH hb => Bh rfl rfl rfl (B2 (by omega)) hb⟩) ?_
        refine Aa (by intro v0_; exact ⟨rfl, fun b w hH hb => Ae Ag rfl hb⟩) ?_
        refine Aa (by intro v0_; exact ⟨rfl, fun b w hH hb => Ae Ag rfl hb⟩) ?_
        refine Aa (by intro v0_; exact ⟨rfl, rfl⟩) ?_
        refine Aa (by intro v0_; exact ⟨rfl, rfl⟩) ?_
        refine Aa (by intro v0_; exact ⟨rfl, rfl⟩) ?_
        refine Aa (by intro v0_; exact ⟨rfl, rfl⟩) ?_
        refine Aa (by intro v0_; exact ⟨rfl, rfl⟩) ?_
        refine Aa (by intro v0_; exact ⟨rfl, rfl⟩) ?_
        refine Aa (by intro v0_; exact ⟨rfl, rfl⟩) ?_
        refine Aa (by intro v0_; exact ⟨rfl, rfl⟩) ?_
        refine Aa (by intro v0_; exact ⟨rfl, rfl⟩) ?_
        refine Aa (by intro v0_; exact ⟨rfl, rfl⟩) ?_
        refine Aa (by intro v0_; exact ⟨rfl, rfl⟩) ?_
        refine Aa (by intro v0_; exact ⟨rfl, rfl⟩) ?_
        refine Aa (by intro v0_; exact ⟨rfl, rfl⟩) ?_
        refine Aa (by intro v0_; exact ⟨rfl, rfl⟩) ?_
        refine Aa (by intro v0_; exact ⟨rfl, rfl⟩) ?_
        refine Aa (by intro v0_; exact ⟨rfl, fun b w hH hb => Ae Ag rfl hb⟩) ?_
        exact B7
      intro v0_
      refine Ch.keep (env' := [(0, .pointer (some ⟨p, 0, none⟩)), (1, .string (bs n)), (2, v), (6, .int .i64 0), (51, .bool true)]) ⟨rfl, rfl, rfl, rfl, rfl, trivial⟩ ?_
      refine AP (AG (AD rfl ?_))
      refine Bf [0, 1, 2, 3] rfl (Ce x hfu hdn) rfl ?_
      refine Ad ?_
      refine Af Ag rfl ?_
      refine Ab (Az (CO ?_))
      exact Ay (.tmp rfl) (fun w h => AB () rfl [0, 1] rfl h Cz) rfl
    · skip
      refine AY 0 rfl (CX hfu hdn) (fun _ => rfl) ?_; rintro x
      have hn64 := x.now64
      refine Aq ?_
      refine BM 36 2 [⟨.quiet, [none, none], fun _ => v, []⟩, ⟨.quiet, [none, none], fun _ => .int .i64 (b.length : Int), [0]⟩, ⟨.quiet, [none, none], fun _ => .pointer (some ⟨p, 0, none⟩), []⟩, ⟨.quiet, [none, none], fun _ => .pointer (some ⟨p, 0, none⟩), [2]⟩, ⟨.quiet, [none, none], fun _ => .pointer (some ⟨p, 0, none⟩), [3]⟩, ⟨.quiet, [none, none], fun _ => .int .i64 d1.room, [4]⟩, ⟨.quiet, [none, none], fun _ => .bool false, [1, 5]⟩, ⟨.quiet, [none, none], fun _ => .bool false, [6]⟩, ⟨.quiet, [none, none], fun _ => .pointer (some ⟨p, 0, none⟩), [7]⟩, ⟨.actv 0, [some false, some false], fun _ => .int .i64 ((AE d1.now : Nat) : Int), [8, 7]⟩, ⟨.quiet, [none, none], fun _ => .pointer (some ⟨p, 0, none⟩), [7]⟩, ⟨.quiet, [none, none], fun _ => .pointer (some ⟨p, 0, none⟩), [10, 7]⟩, ⟨.quiet, [none, none], fun _ => .pointer (some ⟨p, 0, none⟩), [11, 7]⟩, ⟨.quiet, [none, none], fun _ => .int .i64 d1.room, [12, 7]⟩, ⟨.quiet, [none, none], fun _ => v, [7]⟩, ⟨.quiet, [none, none], fun _ => .int .i64 (b.length : Int), [14, 7]⟩, ⟨.quiet, [none, none], fun _ => .int .i64 (d1.room - (b.length : Int)), [13, 15, 7]⟩, ⟨.quiet, [some true, none], fun _ => .bool false, [9, 16, 7]⟩, ⟨.quiet, [some true, none], fun _ => .bool false, [7, 17]⟩, ⟨.quiet, [some true, none], fun _ => .bool false, [18]⟩, ⟨.quiet, [some true, none], fun _ => .pointer (some ⟨p, 0, none⟩), [19]⟩, ⟨.quiet, [some true, none], fun _ => .pointer (some ⟨p, 0, none⟩), [20, 19]⟩, ⟨.quiet, [some true, none], fun _ => .pointer (some ⟨p, 2, none⟩), [21, 19]⟩, ⟨.quiet, [some true, none], fun _ => x.nv, [22, 19]⟩, ⟨.quiet, [some true, none], fun _ => .string (bs n), [19]⟩, ⟨.actv 1, [some true, some false], fun _ => .int .i64 (-1), [23, 24, 19]⟩, ⟨.quiet, [some true, some true], fun _ => .bool true, [25, 19]⟩, ⟨.quiet, [some true, some true], fun _ => .bool true, [26, 19]⟩, ⟨.quiet, [some true, some true], fun _ => .pointer (some ⟨p, 0, none⟩), [27]⟩, ⟨.quiet, [some true, some true], fun _ => .pointer (some ⟨p, 0, none⟩), [28, 27]⟩, ⟨.quiet, [some true, some true], fun _ => .pointer (some ⟨p, 2, none⟩), [29, 27]⟩, ⟨.quiet, [some true, some true], fun _ => x.nv, [30, 27]⟩, ⟨.quiet, [some true, some true], fun _ => .int .i64 (x.nl.length : Int), [31, 27]⟩, ⟨.quiet, [some true, some true], fun _ => .bool true, [32, 27]⟩, ⟨.quiet, [some true, some true], fun _ => .bool true, [27, 33, 19]⟩, ⟨.quiet, [some true, some true], fun _ => .bool true, [19, 34]⟩] [(0, .pointer (some ⟨p, 0, none⟩)), (1, .string (bs n)), (2, v), (6, .int .i64 0)] (fun ρ => match ρ with | [r0, r1] => [cell p 59 #[.int .i64 d1.room, x.sv, x.nv, x.wv, .bool fu, .int .i64 x.fz, .bool false], x.F, x.Y, Ao 103 5 encRO x.wv x.W, X] | _ => []) (by kernel_rfl) (by kernel_rfl) ⟨rfl, rfl, rfl, rfl, trivial⟩ rfl ?_ ?_
      · skip
        refine Aa (by intro r0_ r1_; exact ⟨rfl, fun b w hH hb => Ae Ag rfl hb⟩) ?_
        refine Aa (by intro r0_ r1_; exact ⟨rfl, fun b w hH hb => AQ (((hH.rd8 4 rfl hX).rd)) Tryz.underlying48 rfl rfl hb⟩) ?_
        refine Aa (by intro r0_ r1_; exact ⟨rfl, fun b w hH hb => Ae Ag rfl hb⟩) ?_
        refine Aa (by intro r0_ r1_; exact ⟨rfl, fun b w hH hb => by exact BO rfl rfl hb⟩) ?_
        refine Aa (by intro r0_ r1_; exact ⟨rfl, fun b w hH hb => Ae Ag rfl hb⟩) ?_
        refine Aa (by intro r0_ r1_; exact ⟨rfl, fun b w hH hb => Bg rfl rfl (Bt Bj rfl) (hH.row 0 rfl) hb⟩) ?_
        refine Aa (by intro r0_ r1_; exact ⟨rfl, fun b w hH hb => Bh rfl rfl rfl (BC (by omega)) hb⟩) ?_
        refine Aa (by intro r0_ r1_; exact ⟨rfl, fun b w hH hb => Ae Ag rfl hb⟩) ?_
        refine Aa (by intro r0_ r1_; exact ⟨rfl, fun b w hH hb => Ae Ag rfl hb⟩) ?_
        refine Aa (by exact ⟨rfl, Br.su (Am (os' := fun _ => [cell p 59 #[.int .i64 d1.room, x.sv, x.nv, x.wv, .bool fu, .int .i64 x.fz, .bool false], x.F, x.Y, Ao 103 5 encRO x.wv x.W, X]) [0, 1] 0 (Ah Tryz.func51 (by kernel_rfl) rfl) (Lb x hf1) rfl rfl rfl (fun _ => rfl) rfl rfl rfl) rfl⟩) ?_
        refine Aa (by intro r0_ r1_; exact ⟨rfl, fun b w hH hb => Ae Ag rfl hb⟩) ?_
        refine Aa (by intro r0_ r1_; exact ⟨rfl, fun b w hH hb => by exact BO rfl rfl hb⟩) ?_
        refine Aa (by intro r0_ r1_; exact ⟨rfl, fun b w hH hb => Ae Ag rfl hb⟩) ?_
        refine Aa (by intro r0_ r1_; exact ⟨rfl, fun b w hH hb => Bg rfl rfl (Bt Bj rfl) (hH.row 0 rfl) hb⟩) ?_
        refine Aa (by intro r0_ r1_; exact ⟨rfl, fun b w hH hb => Ae Ag rfl hb⟩) ?_
        refine Aa (by intro r0_ r1_; exact ⟨rfl, fun b w hH hb => AQ (((hH.rd8 4 rfl hX).rd)) Tryz.underlying48 rfl rfl hb⟩) ?_
        refine Aa (by intro r0_ r1_; exact ⟨rfl, fun b w hH hb => AK rfl rfl rfl rfl (IntWalk.i64_in _ (by omega)) hb⟩) ?_
        refine Aa (by intro v0_ r1_; exact ⟨rfl, fun b w hH hb => Bh rfl rfl rfl (BC (by omega)) hb⟩) ?_
        refine Aa (by intro v0_ r1_; exact ⟨rfl, fun b w hH hb => Ae Ag rfl hb⟩) ?_
        refine Aa (by intro v0_ r1_; exact ⟨rfl, fun b w hH hb => Ae Ag rfl hb⟩) ?_
        refine Aa (by intro v0_ r1_; exact ⟨rfl, fun b w hH hb => Ae Ag rfl hb⟩) ?_
        refine Aa (by intro v0_ r1_; exact ⟨rfl, fun b w hH hb => by exact BO rfl rfl hb⟩) ?_
        refine Aa (by intro v0_ r1_; exact ⟨rfl, fun b w hH hb => Ae Ag rfl hb⟩) ?_
        refine Aa (by intro v0_ r1_; exact ⟨rfl, fun b w hH hb => Bg rfl rfl (Bt Aw rfl) (hH.row 0 rfl) hb⟩) ?_
        refine Aa (by intro v0_ r1_; exact ⟨rfl, fun b w hH hb => Ae Ag rfl hb⟩) ?_
        refine Aa (by intro v0_; exact ⟨rfl, Br.su (Am (os' := fun _ => [cell p 59 #[.int .i64 d1.room, x.sv, x.nv, x.wv, .bool fu, .int .i64 x.fz, .bool false], x.F, x.Y, Ao 103 5 encRO x.wv x.W, X]) [1] 0 (Ah Tryz.func61 (by kernel_rfl) rfl) (Dw x.rn (by omega) (x.no_ hg)) rfl rfl rfl (fun _ => rfl) rfl rfl rfl) rfl⟩) ?_
        refine Aa (by intro v0_ v1_; exact ⟨rfl, fun b w hH hb => Bh rfl rfl rfl (Bl (by omega)) hb⟩) ?_
        refine Aa (by intro v0_ v1_; exact ⟨rfl, fun b w hH hb => Ae Ag rfl hb⟩) ?_
        refine Aa (by intro v0_ v1_; exact ⟨rfl, fun b w hH hb => Ae Ag rfl hb⟩) ?_
        refine Aa (by intro v0_ v1_; exact ⟨rfl, fun b w hH hb => by exact BO rfl rfl hb⟩) ?_
        refine Aa (by intro v0_ v1_; exact ⟨rfl, fun b w hH hb => Ae Ag rfl hb⟩) ?_
        refine Aa (by intro v0_ v1_; exact ⟨rfl, fun b w hH hb => Bg rfl rfl (Bt Aw rfl) (hH.row 0 rfl) hb⟩) ?_
        refine Aa (by intro v0_ v1_; exact ⟨rfl, fun b w hH hb => AQ ((hH.rdFs 1 rfl x.rn)) Tryz.underlying53 rfl rfl hb⟩) ?_
        refine Aa (by intro v0_ v1_; exact ⟨rfl, fun b w hH hb => Bh rfl rfl rfl (Cs (by omega)) hb⟩) ?_
        refine Aa (by intro v0_ v1_; exact ⟨rfl, fun b w hH hb => Ae Ag rfl hb⟩) ?_
        refine Aa (by intro v0_ v1_; exact ⟨rfl, fun b w hH hb => Ae Ag rfl hb⟩) ?_
        exact B7
      intro v0_ v1_
      refine Ch.keep (env' := [(0, .pointer (some ⟨p, 0, none⟩)), (1, .string (bs n)), (2, v), (6, .int .i64 0), (51, .bool true)]) ⟨rfl, rfl, rfl, rfl, rfl, trivial⟩ ?_
      refine AP (AG (AD rfl ?_))
      refine Bf [0, 1, 2, 3] rfl (Ce x hfu hdn) rfl ?_
      refine Ad ?_
      refine Af Ag rfl ?_
      refine Ab (Az (CO ?_))
      exact Ay (.tmp rfl) (fun w h => AB () rfl [0, 1] rfl h Cz) rfl
  · skip
    subst he1
    rw [if_neg (by simp), if_neg (by simp [hnm]), hft, if_neg (by simp)] at h
    obtain ⟨rfl, rfl⟩ := Prod.mk.inj h
    obtain ⟨h1, h2, h3⟩ := Lc hft
    obtain ⟨hdn, hs1, hw1, hr1⟩ := Et hb
    obtain ⟨fu, hfu⟩ : ∃ fu, d1.fuse.isSome = fu := ⟨_, rfl⟩
    refine Ad ?_
    refine Af Ag rfl ?_
    refine Ac rfl (.bool false) (fun b w hb hH => Bh rfl rfl rfl (AU (by omega)) hb) ?_
    refine Ab (Au rfl (Ax (AG (Aq (Ad ?_)))))
    refine Af Ag rfl ?_
    refine Ai (post := fun _ => [AA p d1, X]) rfl (BQ (Ah Tryz.func60 (by kernel_rfl) rfl) (fun w hH => Tv w n true hnm (by omega)) rfl rfl rfl) ?_; rintro ⟨⟩
    refine Af Ag rfl ?_
    refine Ab (Au rfl (Ax (AG (Aq ?_))))
    rcases h3 with ⟨y0, hg⟩ | ⟨hg, h3⟩
    · skip
      refine AY 0 rfl (CX hfu hdn) (fun _ => rfl) ?_; rintro x
      have hn64 := x.now64
      obtain ⟨j, q, hj, hq, hlt, hqb, hm⟩ := x.yes_ hg
      have hok : Ly d1.now (.app n b) := hnm
      have hfew := IY (o := .app n b) hn64.1 (fun m c e hg2 => by cases e; rw [hg] at hg2; cases hg2)
      have hyl : (OpD.data (.app n b)).length ≤ 1099511627776 := by show b.length ≤ _; omega
      refine Aq ?_
      refine BM 36 2 [⟨.quiet, [none, none], fun _ => v, []⟩, ⟨.quiet, [none, none], fun _ => .int .i64 (b.length : Int), [0]⟩, ⟨.quiet, [none, none], fun _ => .pointer (some ⟨p, 0, none⟩), []⟩, ⟨.quiet, [none, none], fun _ => .pointer (some ⟨p, 0, none⟩), [2]⟩, ⟨.quiet, [none, none], fun _ => .pointer (some ⟨p, 0, none⟩), [3]⟩, ⟨.quiet, [none, none], fun _ => .int .i64 d1.room, [4]⟩, ⟨.quiet, [none, none], fun _ => .bool false, [1, 5]⟩, ⟨.quiet, [none, none], fun _ => .bool false, [6]⟩, ⟨.quiet, [none, none], fun _ => .pointer (some ⟨p, 0, none⟩), [7]⟩, ⟨.actv 0, [some false, some false], fun _ => .int .i64 ((AE d1.now : Nat) : Int), [8, 7]⟩, ⟨.quiet, [none, none], fun _ => .pointer (some ⟨p, 0, none⟩), [7]⟩, ⟨.quiet, [none, none], fun _ => .pointer (some ⟨p, 0, none⟩), [10, 7]⟩, ⟨.quiet, [none, none], fun _ => .pointer (some ⟨p, 0, none⟩), [11, 7]⟩, ⟨.quiet, [none, none], fun _ => .int .i64 d1.room, [12, 7]⟩, ⟨.quiet, [none, none], fun _ => v, [7]⟩, ⟨.quiet, [none, none], fun _ => .int .i64 (b.length : Int), [14, 7]⟩, ⟨.quiet, [none, none], fun _ => .int .i64 (d1.room - (b.length : Int)), [13, 15, 7]⟩, ⟨.quiet, [some true, none], fun _ => .bool false, [9, 16, 7]⟩, ⟨.quiet, [some true, none], fun _ => .bool false, [7, 17]⟩, ⟨.quiet, [some true, none], fun _ => .bool false, [18]⟩, ⟨.quiet, [some true, none], fun _ => .pointer (some ⟨p, 0, none⟩), [19]⟩, ⟨.quiet, [some true, none], fun _ => .pointer (some ⟨p, 0, none⟩), [20, 19]⟩, ⟨.quiet, [some true, none], fun _ => .pointer (some ⟨p, 2, none⟩), [21, 19]⟩, ⟨.quiet, [some true, none], fun _ => x.nv, [22, 19]⟩, ⟨.quiet, [some true, none], fun _ => .string (bs n), [19]⟩, ⟨.actv 1, [some true, some false], fun _ => .int .i64 (j : Int), [23, 24, 19]⟩, ⟨.quiet, [some true, some true], fun _ => .bool false, [25, 19]⟩, ⟨.quiet, [some true, some true], fun _ => .bool false, [26, 19]⟩, ⟨.skip, [some true, some true], fun _ => undef, [27]⟩, ⟨.skip, [some true, some true], fun _ => undef, [28, 27]⟩, ⟨.skip, [some true, some true], fun _ => undef, [29, 27]⟩, ⟨.skip, [some true, some true], fun _ => undef, [30, 27]⟩, ⟨.skip, [some true, some true], fun _ => undef, [31, 27]⟩, ⟨.skip, [some true, some true], fun _ => undef, [32, 27]⟩, ⟨.quiet, [some true, some true], fun _ => .bool false, [27, 33, 19]⟩, ⟨.quiet, [some true, some true], fun _ => .bool false, [19, 34]⟩] [(0, .pointer (some ⟨p, 0, none⟩)), (1, .string (bs n)), (2, v), (6, .int .i64 0)] (fun ρ => match ρ with | [r0, r1] => [cell p 59 #[.int .i64 d1.room, x.sv, x.nv, x.wv, .bool fu, .int .i64 x.fz, .bool false], x.F, x.Y, Ao 103 5 encRO x.wv x.W, X] | _ => []) (by kernel_rfl) (by kernel_rfl) ⟨rfl, rfl, rfl, rfl, trivial⟩ rfl ?_ ?_
      · skip
        refine Aa (by intro r0_ r1_; exact ⟨rfl, fun b w hH hb => Ae Ag rfl hb⟩) ?_
        refine Aa (by intro r0_ r1_; exact ⟨rfl, fun b w hH hb => AQ (((hH.rd8 4 rfl hX).rd)) Tryz.underlying48 rfl rfl hb⟩) ?_
        refine Aa (by intro r0_ r1_; exact ⟨rfl, fun b w hH hb => Ae Ag rfl hb⟩) ?_
        refine Aa (by intro r0_ r1_; exact ⟨rfl, fun b w hH hb => by exact BO rfl rfl hb⟩) ?_
        refine Aa (by intro r0_ r1_; exact ⟨rfl, fun b w hH hb => Ae Ag rfl hb⟩) ?_
        refine Aa (by intro r0_ r1_; exact ⟨rfl, fun b w hH hb => Bg rfl rfl (Bt Bj rfl) (hH.row 0 rfl) hb⟩) ?_
        refine Aa (by intro r0_ r1_; exact ⟨rfl, fun b w hH hb => Bh rfl rfl rfl (BC (by omega)) hb⟩) ?_
        refine Aa (by intro r0_ r1_; exact ⟨rfl, fun b w hH hb => Ae Ag rfl hb⟩) ?_
        refine Aa (by intro r0_ r1_; exact ⟨rfl, fun b w hH hb => Ae Ag rfl hb⟩) ?_
        refine Aa (by exact ⟨rfl, Br.su (Am (os' := fun _ => [cell p 59 #[.int .i64 d1.room, x.sv, x.nv, x.wv, .bool fu, .int .i64 x.fz, .bool false], x.F, x.Y, Ao 103 5 encRO x.wv x.W, X]) [0, 1] 0 (Ah Tryz.func51 (by kernel_rfl) rfl) (Lb x hf1) rfl rfl rfl (fun _ => rfl) rfl rfl rfl) rfl⟩) ?_
        refine Aa (by intro r0_ r1_; exact ⟨rfl, fun b w hH hb => Ae Ag rfl hb⟩) ?_
        refine Aa (by intro r0_ r1_; exact ⟨rfl, fun b w hH hb => by exact BO rfl rfl hb⟩) ?_
        refine Aa (by intro r0_ r1_; exact ⟨rfl, fun b w hH hb => Ae Ag rfl hb⟩) ?_
        refine Aa (by intro r0_ r1_; exact ⟨rfl, fun b w hH hb => Bg rfl rfl (Bt Bj rfl) (hH.row 0 rfl) hb⟩) ?_
        refine Aa (by intro r0_ r1_; exact ⟨rfl, fun b w hH hb => Ae Ag rfl hb⟩) ?_
        refine Aa (by intro r0_ r1_; exact ⟨rfl, fun b w hH hb => AQ (((hH.rd8 4 rfl hX).rd)) Tryz.underlying48 rfl rfl hb⟩) ?_
        refine Aa (by intro r0_ r1_; exact ⟨rfl, fun b w hH hb => AK rfl rfl rfl rfl (IntWalk.i64_in _ (by omega)) hb⟩) ?_
        refine Aa (by intro v0_ r1_; exact ⟨rfl, fun b w hH hb => Bh rfl rfl rfl (BC (by omega)) hb⟩) ?_
        refine Aa (by intro v0_ r1_; exact ⟨rfl, fun b w hH hb => Ae Ag rfl hb⟩) ?_
        refine Aa (by intro v0_ r1_; exact ⟨rfl, fun b w hH hb => Ae Ag rfl hb⟩) ?_
        refine Aa (by intro v0_ r1_; exact ⟨rfl, fun b w hH hb => Ae Ag rfl hb⟩) ?_
        refine Aa (by intro v0_ r1_; exact ⟨rfl, fun b w hH hb => by exact BO rfl rfl hb⟩) ?_
        refine Aa (by intro v0_ r1_; exact ⟨rfl, fun b w hH hb => Ae Ag rfl hb⟩) ?_
        refine Aa (by intro v0_ r1_; exact ⟨rfl, fun b w hH hb => Bg rfl rfl (Bt Aw rfl) (hH.row 0 rfl) hb⟩) ?_
        refine Aa (by intro v0_ r1_; exact ⟨rfl, fun b w hH hb => Ae Ag rfl hb⟩) ?_
        refine Aa (by intro v0_; exact ⟨rfl, Br.su (Am (os' := fun _ => [cell p 59 #[.int .i64 d1.room, x.sv, x.nv, x.wv, .bool fu, .int .i64 x.fz, .bool false], x.F, x.Y, Ao 103 5 encRO x.wv x.W, X]) [1] 0 (Ah Tryz.func61 (by kernel_rfl) rfl) (C6 x.rn (by omega) hj hq hlt) rfl rfl rfl (fun _ => rfl) rfl rfl rfl) rfl⟩) ?_
        refine Aa (by intro v0_ v1_; exact ⟨rfl, fun b w hH hb => Bh rfl rfl rfl (Bu (by omega)) hb⟩) ?_
        refine Aa (by intro v0_ v1_; exact ⟨rfl, fun b w hH hb => Ae Ag rfl hb⟩) ?_
        refine Aa (by intro v0_ v1_; exact ⟨rfl, rfl⟩) ?_
        refine Aa (by intro v0_ v1_; exact ⟨rfl, rfl⟩) ?_
        refine Aa (by intro v0_ v1_; exact ⟨rfl, rfl⟩) ?_
        refine Aa (by intro v0_ v1_; exact ⟨rfl, rfl⟩) ?_
        refine Aa (by intro v0_ v1_; exact ⟨rfl, rfl⟩) ?_
        refine Aa (by intro v0_ v1_; exact ⟨rfl, rfl⟩) ?_
        refine Aa (by intro v0_ v1_; exact ⟨rfl, fun b w hH hb => Ae Ag rfl hb⟩) ?_
        refine Aa (by intro v0_ v1_; exact ⟨rfl, fun b w hH hb => Ae Ag rfl hb⟩) ?_
        exact B7
      intro v0_ v1_
      refine Ch.keep (env' := [(0, .pointer (some ⟨p, 0, none⟩)), (1, .string (bs n)), (2, v), (6, .int .i64 0), (51, .bool false)]) ⟨rfl, rfl, rfl, rfl, rfl, trivial⟩ ?_
      refine AP (AG (Au rfl (Ax (AG ?_))))
      refine Bf [0, 1, 2, 3] rfl (Ce x hfu hdn) rfl ?_
      refine Ad ?_
      refine Af Ag rfl ?_
      refine Ai (X := Value) (val := fun v : Value => v) (post := fun u54 => [Ao 5 1 encB u54 ([]), AA p d1, X]) rfl (by refine D7 (e := 5) (t := 48) (k := 1) (enc := encB) ?_ ?_; exact AC; exact rfl) ?_; rintro u54
      refine Af Ag rfl ?_
      refine Ai (post := fun u56 => [Ao 5 1 encB u56 b, AA p d1, X]) rfl (Ca 0 AC (by kernel_rfl) rfl (b) (fun w hH => (hH.rd8 2 rfl hX).rd) (by simp only [List.length_nil]; omega) rfl rfl rfl (List.nil_append _)) ?_; rintro u56
      refine Ch.fact 0 rfl (fun _ h => Ao.is h) ?_; rintro ⟨A9, c9, rfl⟩
      refine Ch.fact 0 rfl IV ?_; rintro hcap
      refine Ac rfl (.agg #[.int .i64 0, .string (bs n), .string { data := #[] }, .slice A9 b.length c9, .int .i64 0]) (fun b w hb hH => AV rfl rfl (by kernel_rfl) hb) ?_
      refine Ai rfl (Am (os' := fun _ => [E0, AA p (Cn d1 (.app n b)), X]) [1, 0] 0 (Ah Tryz.func62 (by kernel_rfl) rfl) (Qq (y := ⟨.app n b, A9, c9⟩) hf1 hdn hok hfew CQ hcap hyl) rfl rfl rfl (fun _ => rfl) rfl rfl rfl) ?_; rintro ⟨⟩
      refine Ch.leave [0] rfl rfl ?_
      refine Af Ag rfl ?_
      refine Ab (Az ?_)
      exact Ay (.tmp rfl) (fun w h => AB () rfl [0, 1] rfl h Cz) rfl
    · skip
      refine AY 0 rfl (CX hfu hdn) (fun _ => rfl) ?_; rintro x
      have hn64 := x.now64
      have hok : Ly d1.now (.app n b) := hnm
      have hfew := IY (o := .app n b) hn64.1 (fun m c e hg2 => h3)
      have hyl : (OpD.data (.app n b)).length ≤ 1099511627776 := by show b.length ≤ _; omega
      refine Aq ?_
      refine BM 36 2 [⟨.quiet, [none, none], fun _ => v, []⟩, ⟨.quiet, [none, none], fun _ => .int .i64 (b.length : Int), [0]⟩, ⟨.quiet, [none, none], fun _ => .pointer (some ⟨p, 0, none⟩), []⟩, ⟨.quiet, [none, none], fun _ => .pointer (some ⟨p, 0, none⟩), [2]⟩, ⟨.quiet, [none, none], fun _ => .pointer (some ⟨p, 0, none⟩), [3]⟩, ⟨.quiet, [none, none], fun _ => .int .i64 d1.room, [4]⟩, ⟨.quiet, [none, none], fun _ => .bool false, [1, 5]⟩, ⟨.quiet, [none, none], fun _ => .bool false, [6]⟩, ⟨.quiet, [none, none], fun _ => .pointer (some ⟨p, 0, none⟩), [7]⟩, ⟨.actv 0, [some false, some false], fun _ => .int .i64 ((AE d1.now : Nat) : Int), [8, 7]⟩, ⟨.quiet, [none, none], fun _ => .pointer (some ⟨p, 0, none⟩), [7]⟩, ⟨.quiet, [none, none], fun _ => .pointer (some ⟨p, 0, none⟩), [10, 7]⟩, ⟨.quiet, [none, none], fun _ => .pointer (some ⟨p, 0, none⟩), [11, 7]⟩, ⟨.quiet, [none, none], fun _ => .int .i64 d1.room, [12, 7]⟩, ⟨.quiet, [none, none], fun _ => v, [7]⟩, ⟨.quiet, [none, none], fun _ => .int .i64 (b.length : Int), [14, 7]⟩, ⟨.quiet, [none, none], fun _ => .int .i64 (d1.room - (b.length : Int)), [13, 15, 7]⟩, ⟨.quiet, [some true, none], fun _ => .bool false, [9, 16, 7]⟩, ⟨.quiet, [some true, none], fun _ => .bool false, [7, 17]⟩, ⟨.quiet, [some true, none], fun _ => .bool false, [18]⟩, ⟨.quiet, [some true, none], fun _ => .pointer (some ⟨p, 0, none⟩), [19]⟩, ⟨.quiet, [some true, none], fun _ => .pointer (some ⟨p, 0, none⟩), [20, 19]⟩, ⟨.quiet, [some true, none], fun _ => .pointer (some ⟨p, 2, none⟩), [21, 19]⟩, ⟨.quiet, [some true, none], fun _ => x.nv, [22, 19]⟩, ⟨.quiet, [some true, none], fun _ => .string (bs n), [19]⟩, ⟨.actv 1, [some true, some false], fun _ => .int .i64 (-1), [23, 24, 19]⟩, ⟨.quiet, [some true, some true], fun _ => .bool true, [25, 19]⟩, ⟨.quiet, [some true, some true], fun _ => .bool true, [26, 19]⟩, ⟨.quiet, [some true, some true], fun _ => .pointer (some ⟨p, 0, none⟩), [27]⟩, ⟨.quiet, [some true, some true], fun _ => .pointer (some ⟨p, 0, none⟩), [28, 27]⟩, ⟨.quiet, [some true, some true], fun _ => .pointer (some ⟨p, 2, none⟩), [29, 27]⟩, ⟨.quiet, [some true, some true], fun _ => x.nv, [30, 27]⟩, ⟨.quiet, [some true, some true], fun _ => .int .i64 (x.nl.length : Int), [31, 27]⟩, ⟨.quiet, [some true, some true], fun _ => .bool false, [32, 27]⟩, ⟨.quiet, [some true, some true], fun _ => .bool false, [27, 33, 19]⟩, ⟨.quiet, [some true, some true], fun _ => .bool false, [19, 34]⟩] [(0, .pointer (some ⟨p, 0, none⟩)), (1, .string (bs n)), (2, v), (6, .int .i64 0)] (fun ρ => match ρ with | [r0, r1] => [cell p 59 #[.int .i64 d1.room, x.sv, x.nv, x.wv, .bool fu, .int .i64 x.fz, .bool false], x.F, x.Y, Ao 103 5 encRO x.wv x.W, X] | _ => []) (by kernel_rfl) (by kernel_rfl) ⟨rfl, rfl, rfl, rfl, trivial⟩ rfl ?_ ?_
      · skip
        refine Aa (by intro r0_ r1_; exact ⟨rfl, fun b w hH hb => Ae Ag rfl hb⟩) ?_
        refine Aa (by intro r0_ r1_; exact ⟨rfl, fun b w hH hb => AQ (((hH.rd8 4 rfl hX).rd)) Tryz.underlying48 rfl rfl hb⟩) ?_
        refine Aa (by intro r0_ r1_; exact ⟨rfl, fun b w hH hb => Ae Ag rfl hb⟩) ?_
        refine Aa (by intro r0_ r1_; exact ⟨rfl, fun b w hH hb => by exact BO rfl rfl hb⟩) ?_
        refine Aa (by intro r0_ r1_; exact ⟨rfl, fun b w hH hb => Ae Ag rfl hb⟩) ?_
        refine Aa (by intro r0_ r1_; exact ⟨rfl, fun b w hH hb => Bg rfl rfl (Bt Bj rfl) (hH.row 0 rfl) hb⟩) ?_
        refine Aa (by intro r0_ r1_; exact ⟨rfl, fun b w hH hb => Bh rfl rfl rfl (BC (by omega)) hb⟩) ?_
        refine Aa (by intro r0_ r1_; exact ⟨rfl, fun b w hH hb => Ae Ag rfl hb⟩) ?_
        refine Aa (by intro r0_ r1_; exact ⟨rfl, fun b w hH hb => Ae Ag rfl hb⟩) ?_
        refine Aa (by exact ⟨rfl, Br.su (Am (os' := fun _ => [cell p 59 #[.int .i64 d1.room, x.sv, x.nv, x.wv, .bool fu, .int .i64 x.fz, .bool false], x.F, x.Y, Ao 103 5 encRO x.wv x.W, X]) [0, 1] 0 (Ah Tryz.func51 (by kernel_rfl) rfl) (Lb x hf1) rfl rfl rfl (fun _ => rfl) rfl rfl rfl) rfl⟩) ?_
        refine Aa (by intro r0_ r1_; exact ⟨rfl, fun b w hH hb => Ae Ag rfl hb⟩) ?_
        refine Aa (by intro r0_ r1_; exact ⟨rfl, fun b w hH hb => by exact BO rfl rfl hb⟩) ?_
        refine Aa (by intro r0_ r1_; exact ⟨rfl, fun b w hH hb => Ae Ag rfl hb⟩) ?_
        refine Aa (by intro r0_ r1_; exact ⟨rfl, fun b w hH hb => Bg rfl rfl (Bt Bj rfl) (hH.row 0 rfl) hb⟩) ?_
        refine Aa (by intro r0_ r1_; exact ⟨rfl, fun b w hH hb => Ae Ag rfl hb⟩) ?_
        refine Aa (by intro r0_ r1_; exact ⟨rfl, fun b w hH hb => AQ (((hH.rd8 4 rfl hX).rd)) Tryz.underlying48 rfl rfl hb⟩) ?_
        refine Aa (by intro r0_ r1_; exact ⟨rfl, fun b w hH hb => AK rfl rfl rfl rfl (IntWalk.i64_in _ (by omega)) hb⟩) ?_
        refine Aa (by intro v0_ r1_; exact ⟨rfl, fun b w hH hb => Bh rfl rfl rfl (BC (by omega)) hb⟩) ?_
        refine Aa (by intro v0_ r1_; exact ⟨rfl, fun b w hH hb => Ae Ag rfl hb⟩) ?_
        refine Aa (by intro v0_ r1_; exact ⟨rfl, fun b w hH hb => Ae Ag rfl hb⟩) ?_
        refine Aa (by intro v0_ r1_; exact ⟨rfl, fun b w hH hb => Ae Ag rfl hb⟩) ?_
        refine Aa (by intro v0_ r1_; exact ⟨rfl, fun b w hH hb => by exact BO rfl rfl hb⟩) ?_
        refine Aa (by intro v0_ r1_; exact ⟨rfl, fun b w hH hb => Ae Ag rfl hb⟩) ?_
        refine Aa (by intro v0_ r1_; exact ⟨rfl, fun b w hH hb => Bg rfl rfl (Bt Aw rfl) (hH.row 0 rfl) hb⟩) ?_
        refine Aa (by intro v0_ r1_; exact ⟨rfl, fun b w hH hb => Ae Ag rfl hb⟩) ?_
        refine Aa (by intro v0_; exact ⟨rfl, Br.su (Am (os' := fun _ => [cell p 59 #[.int .i64 d1.room, x.sv, x.nv, x.wv, .bool fu, .int .i64 x.fz, .bool false], x.F, x.Y, Ao 103 5 encRO x.wv x.W, X]) [1] 0 (Ah Tryz.func61 (by kernel_rfl) rfl) (Dw x.rn (by omega) (x.no_ hg)) rfl rfl rfl (fun _ => rfl) rfl rfl rfl) rfl⟩) ?_
        refine Aa (by intro v0_ v1_; exact ⟨rfl, fun b w hH hb => Bh rfl rfl rfl (Bl (by omega)) hb⟩) ?_
        refine Aa (by intro v0_ v1_; exact ⟨rfl, fun b w hH hb => Ae Ag rfl hb⟩) ?_
        refine Aa (by intro v0_ v1_; exact ⟨rfl, fun b w hH hb => Ae Ag rfl hb⟩) ?_
        refine Aa (by intro v0_ v1_; exact ⟨rfl, fun b w hH hb => by exact BO rfl rfl hb⟩) ?_
        refine Aa (by intro v0_ v1_; exact ⟨rfl, fun b w hH hb => Ae Ag rfl hb⟩) ?_
        refine Aa (by intro v0_ v1_; exact ⟨rfl, fun b w hH hb => Bg rfl rfl (Bt Aw rfl) (hH.row 0 rfl) hb⟩) ?_
        refine Aa (by intro v0_ v1_; exact ⟨rfl, fun b w hH hb => AQ ((hH.rdFs 1 rfl x.rn)) Tryz.underlying53 rfl rfl hb⟩) ?_
        refine Aa (by intro v0_ v1_; exact ⟨rfl, fun b w hH hb => Bh rfl rfl rfl (DX (by omega)) hb⟩) ?_
        refine Aa (by intro v0_ v1_; exact ⟨rfl, fun b w hH hb => Ae Ag rfl hb⟩) ?_
        refine Aa (by intro v0_ v1_; exact ⟨rfl, fun b w hH hb => Ae Ag rfl hb⟩) ?_
        exact B7
      intro v0_ v1_
      refine Ch.keep (env' := [(0, .pointer (some ⟨p, 0, none⟩)), (1, .string (bs n)), (2, v), (6, .int .i64 0), (51, .bool false)]) ⟨rfl, rfl, rfl, rfl, rfl, trivial⟩ ?_
      refine AP (AG (Au rfl (Ax (AG ?_))))
      refine Bf [0, 1, 2, 3] rfl (Ce x hfu hdn) rfl ?_
      refine Ad ?_
      refine Af Ag rfl ?_
      refine Ai (X := Value) (val := fun v : Value => v) (post := fun u54 => [Ao 5 1 encB u54 ([]), AA p d1, X]) rfl (by refine D7 (e := 5) (t := 48) (k := 1) (enc := encB) ?_ ?_; exact AC; exact rfl) ?_; rintro u54
      refine Af Ag rfl ?_
      refine Ai (post := fun u56 => [Ao 5 1 encB u56 b, AA p d1, X]) rfl (Ca 0 AC (by kernel_rfl) rfl (b) (fun w hH => (hH.rd8 2 rfl hX).rd) (by simp only [List.length_nil]; omega) rfl rfl rfl (List.nil_append _)) ?_; rintro u56
      refine Ch.fact 0 rfl (fun _ h => Ao.is h) ?_; rintro ⟨A9, c9, rfl⟩
      refine Ch.fact 0 rfl IV ?_; rintro hcap
      refine Ac rfl (.agg #[.int .i64 0, .string (bs n), .string { data := #[] }, .slice A9 b.length c9, .int .i64 0]) (fun b w hb hH => AV rfl rfl (by kernel_rfl) hb) ?_
      refine Ai rfl (Am (os' := fun _ => [E0, AA p (Cn d1 (.app n b)), X]) [1, 0] 0 (Ah Tryz.func62 (by kernel_rfl) rfl) (Qq (y := ⟨.app n b, A9, c9⟩) hf1 hdn hok hfew CQ hcap hyl) rfl rfl rfl (fun _ => rfl) rfl rfl rfl) ?_; rintro ⟨⟩
      refine Ch.leave [0] rfl rfl ?_
      refine Af Ag rfl ?_
      refine Ab (Az ?_)
      exact Ay (.tmp rfl) (fun w h => AB () rfl [0, 1] rfl h Cz) rfl
  · skip
    rw [if_pos (by omega)] at h
    obtain ⟨rfl, rfl⟩ := Prod.mk.inj h
    refine Ad ?_
    refine Af Ag rfl ?_
    refine Ac rfl (.bool true) (fun b w hb hH => Bh rfl rfl rfl (BY (by omega)) hb) ?_
    refine Ab (AD rfl (Ad ?_))
    refine Af Ag rfl ?_
    refine Ab (Az (CO ?_))
    exact Ay (.tmp rfl) (fun w h => AB () rfl [0, 1] rfl h Cz) rfl
  · skip
    subst he1
    rw [if_neg (by simp), if_pos hnm] at h
    obtain ⟨rfl, rfl⟩ := Prod.mk.inj h
    refine Ad ?_
    refine Af Ag rfl ?_
    refine Ac rfl (.bool false) (fun b w hb hH => Bh rfl rfl rfl (AU (by omega)) hb) ?_
    refine Ab (Au rfl (Ax (AG (Aq (Ad ?_)))))
    refine Af Ag rfl ?_
    refine Ai (post := fun _ => [AA p d1, X]) rfl (BQ (Ah Tryz.func60 (by kernel_rfl) rfl) (fun w hH => Tv w n false hnm (by omega)) rfl rfl rfl) ?_; rintro ⟨⟩
    refine Af Ag rfl ?_
    refine Ab (AD rfl (Ad ?_))
    refine Af Ag rfl ?_
    refine Ab (Az (CO ?_))
    exact Ay (.tmp rfl) (fun w h => AB () rfl [0, 1] rfl h Cz) rfl
end Go.Proofs.YtnknboibmifacaaGreat.Sep
