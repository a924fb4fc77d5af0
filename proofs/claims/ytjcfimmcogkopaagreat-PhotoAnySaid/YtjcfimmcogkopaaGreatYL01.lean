/-
  PhK
-/
import Derived.Test.YtjcfimmcogkopaaGreatYE02
import Derived.Test.YtjcfimmcogkopaaGreatYF01
import Derived.Test.YtjcfimmcogkopaaGreatYK03
set_option linter.unusedSimpArgs false
set_option linter.unusedVariables false
set_option maxRecDepth 100000
namespace Go.Proofs.YtjcfimmcogkopaaGreat.Sep
open Go.RowKit
open Go.Proofs.YtjcfimmcogkopaaGreat.Mem (AZ Ci Chg Au)
structure SnE where
  s : SnV
  A : Option Addr
  cp : Nat
instance : Inhabited SnE := ⟨⟨⟨0, 0, 0, []⟩, none, 0⟩⟩
def SnE.v (x : SnE) : Value := .slice x.A x.s.d.length x.cp
def sn4 : SnV := ⟨4, 2, 14, [97, 98]⟩
def sn5 : SnV := ⟨5, 2, 14, [99]⟩
theorem TY : SnOk sn4 := F9.1 (by decide)
theorem TZ : SnOk sn5 := F9.1 (by decide)
def Oz (y z : SnV) : Bool := (y.i == z.i && (y.t == z.t && y.c == z.c)) && y.d == z.d
theorem Gb (y : SnV) : Oz y y = true := by simp [Oz]
theorem Si (i t c : Int) (l : List UInt8) (hl : l.length ≤ maxLen) : AW Tryz.prog 24 #[.int .u64 i, .int .u64 t, .int .i64 c, .string (bs l)] [] (fun (x : Nat × Nat) => .agg #[.int .u64 i, .int .u64 t, .int .i64 c, .slice (some ⟨x.1, 0, none⟩) l.length x.2]) (fun (x : Nat × Nat) => [EE 5 x.1 x.2 l]) := by
 refine Be (args := [.int .u64 i, .int .u64 t, .int .i64 c, .string (bs l)]) 16 Tryz.func24 rfl rfl rfl ?_; intro w rs
 refine Ad (Af Ah rfl (Aj (post := fun g8 => [cell g8 34 #[.int .u64 0, .int .u64 0, .int .i64 0, .slice none 0 0]]) rfl (Ch BA rfl) ?_)); rintro g8
 refine Ab (Ad (Af Ah rfl (Ac rfl (.agg #[.int .u64 i, .int .u64 t, .int .i64 c]) (fun b w hb hH => Bh rfl rfl (by kernel_rfl) hb) (Af Ah rfl (Aj rfl (P1 hl Tryz.underlying9 Tryz.underlying32 Tryz.underlying5 rfl rfl) ?_))))); rintro ⟨g9, cg9⟩
 refine Ac rfl (.agg #[.int .u64 i, .int .u64 t, .int .i64 c, .slice (some ⟨g9, 0, none⟩) l.length cg9]) (fun b w hb hH => Bh rfl rfl (by kernel_rfl) hb) (AU (post := fun _ => [EE 5 g9 cg9 l, cell g8 34 #[.int .u64 i, .int .u64 t, .int .i64 c, .slice (some ⟨g9, 0, none⟩) l.length cg9]]) rfl rfl (AQ 1 (v := .agg #[.int .u64 i, .int .u64 t, .int .i64 c, .slice (some ⟨g9, 0, none⟩) l.length cg9]) #[.int .u64 i, .int .u64 t, .int .i64 c, .slice (some ⟨g9, 0, none⟩) l.length cg9] AA.2 rfl rfl rfl rfl rfl rfl rfl rfl rfl) ?_); rintro ⟨⟩
 refine Ab (Av ?_)
 exact As (.cell 1 (v := .agg #[.int .u64 i, .int .u64 t, .int .i64 c, .slice (some ⟨g9, 0, none⟩) l.length cg9]) (EX (cs := [.int .u64 i, .int .u64 t, .int .i64 c, .slice (some ⟨g9, 0, none⟩) l.length cg9]) AA rfl) rfl rfl) (fun w h => AG (g9, cg9) rfl [0] rfl h CV) rfl
theorem MX {s : SnV} {i t c : Int} {l : List UInt8} (h : s = ⟨i, t, c, l⟩ ∧ l.length ≤ 9223372036854775807) : AW Tryz.prog 24 #[.int .u64 i, .int .u64 t, .int .i64 c, .string (bs l)] [] (fun x : Nat × Nat => .agg #[.int .u64 s.i, .int .u64 s.t, .int .i64 s.c, .slice (some ⟨x.1, 0, none⟩) s.d.length x.2]) (fun x => [EE 5 x.1 x.2 s.d]) := by
 obtain ⟨rfl, h2⟩ := h
 exact Si i t c l h2
theorem Jz (w : World) {y z : SnV} {Ay Az : Option Addr} {cy cz : Nat} (hy : D6 w (.slice Ay y.d.length cy) y.d) (hz : D6 w (.slice Az z.d.length cz) z.d) (r : Bool) (hr : Oz y z = r) : Calls Tryz.prog 13 #[.agg #[.int .u64 y.i, .int .u64 y.t, .int .i64 y.c, .slice Ay y.d.length cy], .agg #[.int .u64 z.i, .int .u64 z.t, .int .i64 z.c, .slice Az z.d.length cz]] w fun e w' => e = .returned (.bool r) ∧ Below w.heap.size w w' := by
 refine Fz (args := [.agg #[.int .u64 y.i, .int .u64 y.t, .int .i64 y.c, .slice Ay y.d.length cy], .agg #[.int .u64 z.i, .int .u64 z.t, .int .i64 z.c, .slice Az z.d.length cz]]) 19 Tryz.func13 rfl rfl rfl ?_
 unfold Oz at hr
 refine Ad (Af Ah rfl (Aj (post := fun g2 => [cell g2 34 #[.int .u64 y.i, .int .u64 y.t, .int .i64 y.c, .slice Ay y.d.length cy]]) rfl (CU (cs := #[.int .u64 y.i, .int .u64 y.t, .int .i64 y.c, .slice Ay y.d.length cy]) rfl rfl rfl) ?_)); rintro g2
 refine Aj (post := fun g3 => [cell g3 34 #[.int .u64 z.i, .int .u64 z.t, .int .i64 z.c, .slice Az z.d.length cz], cell g2 34 #[.int .u64 y.i, .int .u64 y.t, .int .i64 y.c, .slice Ay y.d.length cy]]) rfl (CU (cs := #[.int .u64 z.i, .int .u64 z.t, .int .i64 z.c, .slice Az z.d.length cz]) rfl rfl rfl) ?_; rintro g3
 refine Af Ah rfl (Ab ?_)
 rcases h1 : (y.i == z.i && (y.t == z.t && y.c == z.c)) with _ | _
 obtain rfl : r = false := by rw [← hr, h1]; rfl
 refine Ad (Af Ah rfl (Ac rfl (.agg #[.int .u64 y.i, .int .u64 y.t, .int .i64 y.c]) (fun b w hb hH => Bb rfl rfl (EX (cs := [.int .u64 y.i, .int .u64 y.t, .int .i64 y.c, .slice Ay y.d.length cy]) Du rfl) (hH.row 1 rfl) hb) (Af Ah rfl (Ac rfl (.agg #[.int .u64 z.i, .int .u64 z.t, .int .i64 z.c]) (fun b w hb hH => Bb rfl rfl (EX (cs := [.int .u64 z.i, .int .u64 z.t, .int .i64 z.c, .slice Az z.d.length cz]) Du rfl) (hH.row 0 rfl) hb) (Ac rfl (.bool false) (fun b w hb hH => Im (Q0 _ _ _ _ _ _ false h1) rfl rfl rfl hb) (Af Ah rfl (Ab (Av ?_))))))))
 exact As (.tmp rfl) (fun w h => ⟨rfl, Au h.up⟩) rfl
 refine Ad (Af Ah rfl (Ac rfl (.agg #[.int .u64 y.i, .int .u64 y.t, .int .i64 y.c]) (fun b w hb hH => Bb rfl rfl (EX (cs := [.int .u64 y.i, .int .u64 y.t, .int .i64 y.c, .slice Ay y.d.length cy]) Du rfl) (hH.row 1 rfl) hb) (Af Ah rfl (Ac rfl (.agg #[.int .u64 z.i, .int .u64 z.t, .int .i64 z.c]) (fun b w hb hH => Bb rfl rfl (EX (cs := [.int .u64 z.i, .int .u64 z.t, .int .i64 z.c, .slice Az z.d.length cz]) Du rfl) (hH.row 0 rfl) hb) (Ac rfl (.bool true) (fun b w hb hH => Im (Q0 _ _ _ _ _ _ true h1) rfl rfl rfl hb) (Af Ah rfl (Ac rfl (.slice Ay y.d.length cy) (fun b w hb hH => Bb rfl rfl (Bn Cy rfl) (hH.row 1 rfl) hb) (Ac rfl (.string (bs y.d)) (fun b w hb hH => G9 Tryz.underlying32 Tryz.underlying5 (by kernel_rfl) Tryz.underlying9 ((hy.below (Au hH.up))) rfl rfl hb) (Af Ah rfl ?_)))))))))
 refine Ac rfl (.slice Az z.d.length cz) (fun b w hb hH => Bb rfl rfl (Bn Cy rfl) (hH.row 0 rfl) hb) (Ac rfl (.string (bs z.d)) (fun b w hb hH => G9 Tryz.underlying32 Tryz.underlying5 (by kernel_rfl) Tryz.underlying9 ((hz.below (Au hH.up))) rfl rfl hb) (Ac rfl (.bool r) (fun b w hb hH => G0 rfl rfl rfl (by rw [← hr, h1]; rfl) hb) (Af Ah rfl (Ab (Av ?_)))))
 exact As (.tmp rfl) (fun w h => ⟨rfl, Au h.up⟩) rfl
def Wu (v : Value) (s : SnV) : Ass := fun rs => ∃ A c, v = .agg #[.int .u64 s.i, .int .u64 s.t, .int .i64 s.c, .slice A s.d.length c] ∧ Jx (.slice A s.d.length c) s.d rs
def Xb (w : World) (v : Value) (s : SnV) : Prop := ∃ A c, v = .agg #[.int .u64 s.i, .int .u64 s.t, .int .i64 s.c, .slice A s.d.length c] ∧ D6 w (.slice A s.d.length c) s.d
theorem Hp.snT {B : Nat → Prop} {w0 w : World} {os : List Ass} {v : Value} {s : SnV} (h : Hp B w0 w os) (i : Nat) (hi : os[i]? = some (Wu v s)) : Xb w v s := by
 obtain ⟨rs, ⟨A, c, h1, h2⟩, h3⟩ := h.thing i hi
 exact ⟨A, c, h1, IX rs w h2 h3⟩
theorem Q1 {s : SnV} {i t c : Int} {l : List UInt8} (h : s = ⟨i, t, c, l⟩ ∧ l.length ≤ 9223372036854775807) : AW Tryz.prog 24 #[.int .u64 i, .int .u64 t, .int .i64 c, .string (bs l)] [] (fun v : Value => v) (fun v => [Wu v s]) := fun w rs h1 h2 h3 => by
 refine (MX h w rs h1 h2 h3).mono ?_
 rintro e w' ⟨⟨g, k⟩, he, rs', hp, hch⟩
 exact ⟨_, he, rs', Ak.one ⟨_, _, rfl, TW K7 _ hp⟩, hch⟩
theorem Q2 (w : World) {y z : SnV} {Ay : Option Addr} {cy : Nat} {v : Value} (hy : D6 w (.slice Ay y.d.length cy) y.d) (hz : Xb w v z) (r : Bool) (hr : Oz y z = r) : Calls Tryz.prog 13 #[.agg #[.int .u64 y.i, .int .u64 y.t, .int .i64 y.c, .slice Ay y.d.length cy], v] w fun e w' => e = .returned (.bool r) ∧ Below w.heap.size w w' := by
 obtain ⟨A, c, rfl, h⟩ := hz
 exact Jz w hy h r hr
theorem JQ (w : World)  : Calls Tryz.prog 6 #[] w fun e w' => e = .returned (.bool true) ∧ Below w.heap.size w w' := by
  refine Fz (args := []) 72 Tryz.func6 rfl rfl rfl ?_
  obtain ⟨d1, d2, d3, k1, f1, k2, f2, k3, f3, k4, r4, f5, r5, d4, k5⟩ := Xs TY TZ
  obtain ⟨d0, hd0⟩ : ∃ d0, HK 1048576 = d0 := ⟨_, rfl⟩
  have f0 : d0.fitK 9 := by rw [← hd0]; exact Ox (by decide)
  rw [hd0] at k1
  obtain ⟨dc, hdc⟩ : ∃ dc, C4 d3 1 0 = dc := ⟨_, rfl⟩
  rw [hdc] at f5 r5 k5
  obtain ⟨kk, hkk⟩ : ∃ k, Df d3 1 = k := ⟨_, rfl⟩
  obtain ⟨sa, hsa⟩ : ∃ sa, sn4 = sa := ⟨_, rfl⟩
  obtain ⟨sb, hsb⟩ : ∃ sb, sn5 = sb := ⟨_, rfl⟩
  have hka := TY
  have hkb := TZ
  have ha4 : sa = ⟨4, 2, 14, [97, 98]⟩ ∧ [97, 98].length ≤ 9223372036854775807 := ⟨hsa.symm, by decide⟩
  have hb5 : sb = ⟨5, 2, 14, [99]⟩ ∧ [99].length ≤ 9223372036854775807 := ⟨hsb.symm, by decide⟩
  rw [hsa] at k1 k5 hka
  rw [hsb] at k3 k4 hkb
  refine Ad (Af Ah rfl (Ab (Ad (Af Ah rfl (Aj rfl (Am (os' := fun p => [Ao p d0]) [] 0 (Ag Tryz.func21 (by kernel_rfl) rfl) ((hd0 ▸ N4 1048576 (by decide))) rfl rfl rfl (fun _ => rfl) rfl rfl rfl) ?_))))); rintro p
  refine Af Ah rfl (Ab (Aq (Ad (Af Ah rfl (Ac rfl (.bool false) (fun b w hb hH => Bc rfl rfl rfl (AK (by decide)) hb) (Af Ah rfl (Ac rfl (.bool false) (fun b w hb hH => CT (by kernel_rfl) rfl rfl rfl hb) (Af Ah rfl (Aj rfl (Am  [] 0 (Ag Tryz.func24 (by kernel_rfl) rfl) (MX ha4) rfl rfl rfl (fun _ => rfl) rfl rfl rfl) ?_))))))))); rintro ⟨g1, kc1⟩
  refine Aj rfl (Am (os' := fun _ => [EE 5 g1 kc1 sa.d, Ao p d1]) [1, 0] 0 (Ag Tryz.func17 (by kernel_rfl) rfl) (K9 hka (CH f0 (by decide)) K7 k1) rfl rfl rfl (fun _ => rfl) rfl rfl rfl) ?_; rintro ⟨⟩
  refine Ac rfl (.bool false) (fun b w hb hH => Bc rfl rfl rfl (AK (by decide)) hb) (Af Ah rfl (Aj rfl (Am (os' := fun _ => [EE 5 g1 kc1 sa.d, Ao p d2]) [1] 0 (Ag Tryz.func9 (by kernel_rfl) rfl) (Jp f1 k2) rfl rfl rfl (fun _ => rfl) rfl rfl rfl) ?_)); rintro ⟨⟩
  refine Ac rfl (.bool false) (fun b w hb hH => Bc rfl rfl rfl (AK (by decide)) hb) (Af Ah rfl (Aj rfl (Am  [] 0 (Ag Tryz.func24 (by kernel_rfl) rfl) (MX hb5) rfl rfl rfl (fun _ => rfl) rfl rfl rfl) ?_)); rintro ⟨g2, kc2⟩
  refine Aj rfl (Am (os' := fun _ => [EE 5 g2 kc2 sb.d, EE 5 g1 kc1 sa.d, Ao p d3]) [2, 0] 0 (Ag Tryz.func17 (by kernel_rfl) rfl) (K9 hkb (CH f2 (by decide)) K7 k3) rfl rfl rfl (fun _ => rfl) rfl rfl rfl) ?_; rintro ⟨⟩
  refine Ac rfl (.bool false) (fun b w hb hH => Bc rfl rfl rfl (AK (by decide)) hb) (Af Ah rfl (Ab (Aw rfl (AC (AO (Ad (Af Ah rfl (Aj rfl (Am  [2] 0 (Ag Tryz.func11 (by kernel_rfl) rfl) (Ib (CH f3 (by decide)) r4 k4) rfl rfl rfl (fun _ => rfl) rfl rfl rfl) ?_)))))))); rintro ⟨A6, c6⟩
  refine Af Ah rfl (Aj (post := fun g3_ => [cell g3_ 34 #[.int .u64 0, .int .u64 0, .int .i64 0, .slice none 0 0], Ap 5 1 encB (.slice A6 sb.d.length c6) sb.d, EE 5 g2 kc2 sb.d, EE 5 g1 kc1 sa.d, Ao p d3]) rfl (Ch BA rfl) ?_); rintro g3_
  refine AU (post := fun _ => [cell g3_ 34 #[.int .u64 sb.i, .int .u64 sb.t, .int .i64 sb.c, .slice A6 sb.d.length c6], Ap 5 1 encB (.slice A6 sb.d.length c6) sb.d, EE 5 g2 kc2 sb.d, EE 5 g1 kc1 sa.d, Ao p d3]) rfl rfl (AQ 0 (v := .agg #[.int .u64 sb.i, .int .u64 sb.t, .int .i64 sb.c, .slice A6 sb.d.length c6]) #[.int .u64 sb.i, .int .u64 sb.t, .int .i64 sb.c, .slice A6 sb.d.length c6] AA.2 rfl rfl rfl rfl rfl rfl rfl rfl rfl) ?_; rintro ⟨⟩
  refine Af Ah rfl (Ab (Ad (Af Ah rfl (Aj rfl (Am (os' := fun _ => [cell g3_ 34 #[.int .u64 sb.i, .int .u64 sb.t, .int .i64 sb.c, .slice A6 sb.d.length c6], Ap 5 1 encB (.slice A6 sb.d.length c6) sb.d, EE 5 g2 kc2 sb.d, EE 5 g1 kc1 sa.d, Ao p dc]) [4] 0 (Ag Tryz.func25 (by kernel_rfl) rfl) (Pu f3.fit (by decide) (by decide) hkk hdc) rfl rfl rfl (fun _ => rfl) rfl rfl rfl) ?_)))); rintro ⟨⟩
  refine Ab (Ad (Af Ah rfl (Aj rfl (Am  [4] 0 (Ag Tryz.func11 (by kernel_rfl) rfl) (Ib (CH f5 (by decide)) r5 k5) rfl rfl rfl (fun _ => rfl) rfl rfl rfl) ?_))); rintro ⟨A7, c7⟩
  refine Af Ah rfl (Aj (post := fun g6_ => [cell g6_ 34 #[.int .u64 0, .int .u64 0, .int .i64 0, .slice none 0 0], Ap 5 1 encB (.slice A7 sa.d.length c7) sa.d, cell g3_ 34 #[.int .u64 sb.i, .int .u64 sb.t, .int .i64 sb.c, .slice A6 sb.d.length c6], Ap 5 1 encB (.slice A6 sb.d.length c6) sb.d, EE 5 g2 kc2 sb.d, EE 5 g1 kc1 sa.d, Ao p d4]) rfl (Ch BA rfl) ?_); rintro g6_
  refine AU (post := fun _ => [cell g6_ 34 #[.int .u64 sa.i, .int .u64 sa.t, .int .i64 sa.c, .slice A7 sa.d.length c7], Ap 5 1 encB (.slice A7 sa.d.length c7) sa.d, cell g3_ 34 #[.int .u64 sb.i, .int .u64 sb.t, .int .i64 sb.c, .slice A6 sb.d.length c6], Ap 5 1 encB (.slice A6 sb.d.length c6) sb.d, EE 5 g2 kc2 sb.d, EE 5 g1 kc1 sa.d, Ao p d4]) rfl rfl (AQ 0 (v := .agg #[.int .u64 sa.i, .int .u64 sa.t, .int .i64 sa.c, .slice A7 sa.d.length c7]) #[.int .u64 sa.i, .int .u64 sa.t, .int .i64 sa.c, .slice A7 sa.d.length c7] AA.2 rfl rfl rfl rfl rfl rfl rfl rfl rfl) ?_; rintro ⟨⟩
  refine Af Ah rfl (Ab (Bv.keep (env' := [(0, .bool false), (3, .pointer (some ⟨g3_, 0, none⟩)), (4, .bool true), (5, .int .i64 0), (6, .pointer (some ⟨g6_, 0, none⟩)), (7, .bool true), (8, .int .i64 0)]) ⟨rfl, rfl, rfl, rfl, rfl, rfl, rfl, trivial⟩ (Aq (Ep 2 rfl ?_))))
  refine BK 22 4 [⟨.quiet, [none, none, none, none], fun _ => .int .i64 0, []⟩, ⟨.quiet, [none, none, none, none], fun _ => .bool true, [0]⟩, ⟨.quiet, [none, none, none, none], fun _ => .bool true, [1]⟩, ⟨.quiet, [none, none, none, none], fun _ => .bool true, [2]⟩, ⟨.quiet, [none, none, none, none], fun _ => .bool true, [2, 3]⟩, ⟨.quiet, [none, none, none, none], fun _ => .bool true, [4]⟩, ⟨.quiet, [none, none, none, none], fun _ => .agg #[.int .u64 sb.i, .int .u64 sb.t, .int .i64 sb.c, .slice A6 sb.d.length c6], [5]⟩, ⟨.act 0, [some false, some false, some false, some false], fun _ => undef, [5]⟩, ⟨.actv 1, [some true, some false, some false, some false], fun _ => .bool true, [6, 7, 5]⟩, ⟨.quiet, [some true, some true, none, none], fun _ => .bool true, [5, 8]⟩, ⟨.quiet, [some true, some true, none, none], fun _ => .bool true, [9]⟩, ⟨.quiet, [some true, some true, none, none], fun _ => .int .i64 0, [10]⟩, ⟨.quiet, [some true, some true, none, none], fun _ => .bool true, [11, 10]⟩, ⟨.quiet, [some true, some true, none, none], fun _ => .bool true, [10, 12]⟩, ⟨.quiet, [some true, some true, none, none], fun _ => .bool true, [13]⟩, ⟨.quiet, [some true, some true, none, none], fun _ => .bool true, [14]⟩, ⟨.quiet, [some true, some true, none, none], fun _ => .bool true, [14, 15]⟩, ⟨.quiet, [some true, some true, none, none], fun _ => .bool true, [16]⟩, ⟨.quiet, [some true, some true, none, none], fun _ => .agg #[.int .u64 sa.i, .int .u64 sa.t, .int .i64 sa.c, .slice A7 sa.d.length c7], [17]⟩, ⟨.act 2, [some true, some true, some false, some false], fun _ => undef, [17]⟩, ⟨.actv 3, [some true, some true, some true, some false], fun _ => .bool true, [18, 19, 17]⟩, ⟨.quiet, [some true, some true, some true, some true], fun _ => .bool true, [17, 20]⟩] [(0, .bool false), (3, .pointer (some ⟨g3_, 0, none⟩)), (4, .bool true), (5, .int .i64 0), (6, .pointer (some ⟨g6_, 0, none⟩)), (7, .bool true), (8, .int .i64 0)] (fun ρ => match ρ with | [rq0, rq1, rq2, rq3] => [CJ rq2 (fun sv4 => Wu sv4 sa) (EF), CJ rq0 (fun sv3 => Wu sv3 sb) (EF), cell g6_ 34 #[.int .u64 sa.i, .int .u64 sa.t, .int .i64 sa.c, .slice A7 sa.d.length c7], Ap 5 1 encB (.slice A7 sa.d.length c7) sa.d, cell g3_ 34 #[.int .u64 sb.i, .int .u64 sb.t, .int .i64 sb.c, .slice A6 sb.d.length c6], Ap 5 1 encB (.slice A6 sb.d.length c6) sb.d, EE 5 g2 kc2 sb.d, EE 5 g1 kc1 sa.d, Ao p d4] | _ => []) (by kernel_rfl) (by kernel_rfl) ⟨rfl, rfl, rfl, rfl, rfl, rfl, rfl, trivial⟩ rfl ?_ ?_
  refine Aa (by intro r0_ r1_ r2_ r3_; exact ⟨rfl, fun b w hH hb => Ae Ah rfl hb⟩) (Aa (by intro r0_ r1_ r2_ r3_; exact ⟨rfl, fun b w hH hb => Bc rfl rfl rfl (JV (by decide)) hb⟩) (Aa (by intro r0_ r1_ r2_ r3_; exact ⟨rfl, fun b w hH hb => Ae Ah rfl hb⟩) (Aa (by intro r0_ r1_ r2_ r3_; exact ⟨rfl, fun b w hH hb => Ae Ah rfl hb⟩) (Aa (by intro r0_ r1_ r2_ r3_; exact ⟨rfl, fun b w hH hb => Ae Ah rfl hb⟩) (Aa (by intro r0_ r1_ r2_ r3_; exact ⟨rfl, fun b w hH hb => Ae Ah rfl hb⟩) (Aa (by intro r0_ r1_ r2_ r3_; exact ⟨rfl, fun b w hH hb => Bb rfl rfl (EX (cs := [.int .u64 sb.i, .int .u64 sb.t, .int .i64 sb.c, .slice A6 sb.d.length c6]) AA rfl) (hH.row 4 rfl) hb⟩) (Aa (by exact ⟨rfl, Bq.s (Am (os' := fun sv3 => [EF, Wu sv3 sb, cell g6_ 34 #[.int .u64 sa.i, .int .u64 sa.t, .int .i64 sa.c, .slice A7 sa.d.length c7], Ap 5 1 encB (.slice A7 sa.d.length c7) sa.d, cell g3_ 34 #[.int .u64 sb.i, .int .u64 sb.t, .int .i64 sb.c, .slice A6 sb.d.length c6], Ap 5 1 encB (.slice A6 sb.d.length c6) sb.d, EE 5 g2 kc2 sb.d, EE 5 g1 kc1 sa.d, Ao p d4]) [1] 1 (Ag Tryz.func24 (by kernel_rfl) rfl) (Q1 hb5) rfl rfl rfl (fun _ => rfl) rfl rfl rfl) (fun _ => rfl)⟩) (Aa (by intro sv3; exact ⟨rfl, Bq.su (Bg (Ag Tryz.func13 (by kernel_rfl) rfl) (fun w hH => Q2 w (hH.sl8 5 rfl) (hH.snT 1 rfl) true (Gb _)) rfl rfl rfl) rfl⟩) (Aa (by intro sv3 v1_ r2_ r3_; exact ⟨rfl, fun b w hH hb => Ae Ah rfl hb⟩) ?_)))))))))
  refine Aa (by intro sv3 v1_ r2_ r3_; exact ⟨rfl, fun b w hH hb => Ae Ah rfl hb⟩) (Aa (by intro sv3 v1_ r2_ r3_; exact ⟨rfl, fun b w hH hb => Ae Ah rfl hb⟩) (Aa (by intro sv3 v1_ r2_ r3_; exact ⟨rfl, fun b w hH hb => Bc rfl rfl rfl (JV (by decide)) hb⟩) (Aa (by intro sv3 v1_ r2_ r3_; exact ⟨rfl, fun b w hH hb => Ae Ah rfl hb⟩) (Aa (by intro sv3 v1_ r2_ r3_; exact ⟨rfl, fun b w hH hb => Ae Ah rfl hb⟩) (Aa (by intro sv3 v1_ r2_ r3_; exact ⟨rfl, fun b w hH hb => Ae Ah rfl hb⟩) (Aa (by intro sv3 v1_ r2_ r3_; exact ⟨rfl, fun b w hH hb => Ae Ah rfl hb⟩) (Aa (by intro sv3 v1_ r2_ r3_; exact ⟨rfl, fun b w hH hb => Ae Ah rfl hb⟩) (Aa (by intro sv3 v1_ r2_ r3_; exact ⟨rfl, fun b w hH hb => Bb rfl rfl (EX (cs := [.int .u64 sa.i, .int .u64 sa.t, .int .i64 sa.c, .slice A7 sa.d.length c7]) AA rfl) (hH.row 2 rfl) hb⟩) (Aa (by intro sv3 v1_; exact ⟨rfl, Bq.s (Am (os' := fun sv4 => [Wu sv4 sa, Wu sv3 sb, cell g6_ 34 #[.int .u64 sa.i, .int .u64 sa.t, .int .i64 sa.c, .slice A7 sa.d.length c7], Ap 5 1 encB (.slice A7 sa.d.length c7) sa.d, cell g3_ 34 #[.int .u64 sb.i, .int .u64 sb.t, .int .i64 sb.c, .slice A6 sb.d.length c6], Ap 5 1 encB (.slice A6 sb.d.length c6) sb.d, EE 5 g2 kc2 sb.d, EE 5 g1 kc1 sa.d, Ao p d4]) [0] 1 (Ag Tryz.func24 (by kernel_rfl) rfl) (Q1 ha4) rfl rfl rfl (fun _ => rfl) rfl rfl rfl) (fun _ => rfl)⟩) ?_)))))))))
  refine Aa (by intro sv3 v1_ sv4; exact ⟨rfl, Bq.su (Bg (Ag Tryz.func13 (by kernel_rfl) rfl) (fun w hH => Q2 w (hH.sl8 3 rfl) (hH.snT 0 rfl) true (Gb _)) rfl rfl rfl) rfl⟩) (Aa (by intro sv3 v1_ sv4 v3_; exact ⟨rfl, fun b w hH hb => Ae Ah rfl hb⟩) ?_)
  exact Cf
  intro sv3 v1_ sv4 v3_
  refine Ce.keep (env' := [(0, .bool false), (71, .bool true)]) ⟨rfl, rfl, trivial⟩ (Af Ah rfl (Bi (AO (Av ?_))))
  exact As (.tmp rfl) (fun w h => ⟨rfl, Au h.up⟩) rfl
end Go.Proofs.YtjcfimmcogkopaaGreat.Sep
