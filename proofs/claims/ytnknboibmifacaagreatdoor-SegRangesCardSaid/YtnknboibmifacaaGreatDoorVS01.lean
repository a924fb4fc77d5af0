/-
  SgDel · SgDr · SgDm · SgAl
-/
import Derived.Test.YtnknboibmifacaaGreatDoorVL01
import Derived.Test.YtnknboibmifacaaGreatDoorVN03
import Derived.Test.YtnknboibmifacaaGreatDoorVO02
import Derived.Test.YtnknboibmifacaaGreatDoorVO03
set_option linter.unusedSimpArgs false
set_option linter.unusedVariables false
set_option maxRecDepth 100000
namespace Go.Proofs.YtnknboibmifacaaGreatDoor.Sep
open Go.RowKit
open Go.Proofs.YtnknboibmifacaaGreatDoor.Mem (AR B3 Chg Av)
set_option maxRecDepth 100000
theorem Gb {a b : List Value} {off : Nat} (h : off + b.length ≤ a.length) : (over? a off b).length = a.length := by
 simp only [over?, List.length_append, List.length_take, List.length_drop]; omega
theorem Qa {a b : List Value} {off : Nat} (h : off ≤ a.length) : (over? a off b).take (off + b.length) = a.take off ++ b := by
 unfold over?
 rw [List.take_append_of_le_length (by simp; omega), List.take_of_length_le (by simp; omega)]
theorem Sg {a b : List Value} {off k : Nat} (hk : k ≤ off) (h : off ≤ a.length) : (over? a off b).take k = a.take k := by
 unfold over?
 rw [List.append_assoc, List.take_append_of_le_length (by simp; omega), List.take_take, Nat.min_eq_left hk]
theorem Sh {e : TypeId} {k : Nat} {α : Type} {enc : α → List Value} {r : List α} {g c q i j : Nat} {a x d : List Value} {z : List RowT} (ha : a.length = c * k) (hq : q = r.length) (hqc : q ≤ c) (hm : c ≤ maxLen) (hj : q * k = i + x.length) (hjq : q * k = j) (hd : j + d.length ≤ a.length) (hr : a.take i ++ x = flat enc r) (hz : Al [cell g e (over? (over? a i x).toArray.toList j d).toArray] z) : Ak e k enc (.slice (some ⟨g, 0, none⟩) q c) r z := by
  have hle : q * k ≤ a.length := by rw [ha]; exact Nat.mul_le_mul_right k hqc
  rw [List.toList_toArray] at hz
  subst hq; subst hjq
  refine .inr ⟨g, c, _, rfl, hqc, hm, ?_, ?_, hz.one'⟩
  · rw [List.size_toArray, Gb (by rw [Gb (by omega)]; exact hd), Gb (by omega)]; exact ha
  · rw [List.toList_toArray, Sg (Nat.le_refl _) (by rw [Gb (by omega)]; omega), hj, Qa (by omega)]; exact hr
section
variable {P : Program} {Q : Exit → Act → World → Prop} {n : Nat} {B : Nat → Prop} {w0 w : World} {os : List Ass} {env : List (Nat × Value)} {o : Oper} {a : Act} {k : Nat}
theorem Hp.rowrd9 (h : Hp B w0 w os) (i : Nat) {g : Nat} {t : TypeId} {cs : Array Value} (hi : os[i]? = some (cell g t cs)) {off m c : Nat} {ys : List Value} (hys : (cs.toList.drop off).take (m * k) = ys) (hfit : off + m * k ≤ cs.size) : Dd w k (.slice (some ⟨g, off, none⟩) m c) m ys := by
  subst hys
  refine ⟨by simp; omega, _, c, rfl, .inr ⟨_, rfl, fun j x hx => ?_⟩⟩
  rw [Addr.add_lit, (h.row i hi).cell]
  rw [List.getElem?_take] at hx
  split at hx
  · rw [List.getElem?_drop] at hx
    simpa using hx
  · cases hx
theorem Hp.rowsub9 (h : Hp B w0 w os) (i : Nat) {g : Nat} {t : TypeId} {cs : Array Value} (hi : os[i]? = some (cell g t cs)) {p q m c : Nat} {ys : List Value} (hpq : p ≤ q) (hqc : q ≤ c) (hys : (cs.toList.drop (p * k)).take ((q - p) * k) = ys) (hfit : c * k ≤ cs.size) : Dd w k (Ca k (.slice (some ⟨g, 0, none⟩) m c) p q) (q - p) ys := by
  have hle : q * k ≤ c * k := Nat.mul_le_mul_right k hqc
  have hpk : p * k + (q - p) * k = q * k := by rw [← Nat.add_mul]; congr 1; omega
  by_cases hc : c = p
  · have : q = p := by omega
    subst this
    subst hc
    refine ⟨?_, some ⟨g, 0, none⟩, _, by simp [Ca]; rfl, .inr ⟨_, rfl, fun j x hx => ?_⟩⟩
    · rw [← hys]; simp
    · rw [← hys] at hx; simp at hx
  · have e : Ca k (.slice (some ⟨g, 0, none⟩) m c) p q = .slice (some ⟨g, p * k, none⟩) (q - p) (c - p) := by simp [Ca, hc, Addr.add_lit]
    rw [e]
    exact h.rowrd9 i hi hys (by omega)
theorem Vw {g m c p q : Nat} (hc : c ≠ p) : Ca k (.slice (some ⟨g, 0, none⟩) m c) p q = .slice (some ⟨g, p * k, none⟩) (q - p) (c - p) := by simp [Ca, hc, Addr.add_lit]
theorem WR {g m c q : Nat} : Ca k (.slice (some ⟨g, 0, none⟩) m c) 0 q = .slice (some ⟨g, 0, none⟩) q c := by
 simp [Ca, Addr.add_lit]
end
theorem LD (g c : Nat) (cs : Array Value) (l : List SegV) (i : Nat) (hi : i < l.length) (hl : l.length ≤ 17179869184) (hc : l.length ≤ c) (hm : c ≤ maxLen) (hs : cs.size = c * 2) (ht : cs.toList.take (l.length * 2) = flat encSg l) : AP Tryz.prog 90 #[.slice (some ⟨g, 0, none⟩) l.length c, .int .i64 (i : Int), .int .i64 ((i + 1 : Nat) : Int)] [cell g 92 cs] (fun (u : Value) => u) (fun (u : Value) => [Ak 92 2 encSg u (l.take i ++ l.drop (i + 1))]) := by
  have hm' : c ≤ 9223372036854775807 := by unfold maxLen at hm; exact hm
  have hd : (cs.toList.drop ((i + 1) * 2)).take ((l.length - (i + 1)) * 2) = flat encSg (l.drop (i + 1)) := by
    rw [← FZ AT, ← ht, List.drop_take]; congr 1; omega
  have hd0 : cs.toList.take (0 + i * 2) = flat encSg (l.take i) := by
    rw [← FY AT, ← ht, List.take_take]; congr 1; omega
  have hdl : (flat encSg (l.drop (i + 1))).length = (l.length - (i + 1)) * 2 := by rw [Dj AT, List.length_drop]
  have hsl : cs.toList.length = c * 2 := by rw [Array.length_toList]; exact hs
  obtain ⟨q, hq⟩ : ∃ q, q = i + (l.length - (i + 1)) := ⟨_, rfl⟩
  refine Bj (args := [.slice (some ⟨g, 0, none⟩) l.length c, .int .i64 (i : Int), .int .i64 ((i + 1 : Nat) : Int)]) 33 Tryz.func90 rfl rfl rfl ?_; intro w rs
  refine Ad ?_
  refine Af Ai rfl ?_
  refine Ab (Ad ?_)
  refine Af Ai rfl ?_
  refine Aa rfl (.int .i64 (l.length : Int)) (fun b w hb hH => DL Ba rfl rfl hH hb) ?_
  refine Aa rfl (Ca 2 (.slice (some ⟨g, 0, none⟩) l.length l.length) i (i + 1)) (fun b w hb hH => V7 Ba (by omega) (by omega) hc rfl rfl rfl rfl rfl hH hb) ?_
  refine Ab (An (Ad ?_))
  refine Af Ai rfl ?_
  refine Aa rfl (.bool false) (fun b w hb hH => AZ rfl rfl rfl (EK (by omega)) hb) ?_
  refine Ab (As rfl (Aw (AB (Ad ?_))))
  refine Af Ai rfl ?_
  refine Aa rfl (.int .i64 (l.length : Int)) (fun b w hb hH => DL Ba rfl rfl hH hb) ?_
  refine Af Ai rfl ?_
  refine Ab (An ?_)
  refine BV 7 1 [⟨.quiet, [none], fun _ => .slice (some ⟨g, 0, none⟩) l.length c, []⟩, ⟨.quiet, [none], fun _ => .int .i64 (i : Int), []⟩, ⟨.quiet, [none], fun _ => .slice (some ⟨g, 0, none⟩) i c, [0, 1]⟩, ⟨.quiet, [none], fun _ => .slice (some ⟨g, 0, none⟩) l.length c, []⟩, ⟨.quiet, [none], fun _ => .int .i64 ((i + 1 : Nat) : Int), []⟩, ⟨.quiet, [none], fun _ => Ca 2 (.slice (some ⟨g, 0, none⟩) l.length c) (i + 1) l.length, [3, 4]⟩, ⟨.actv 0, [some false], fun _ => .slice (some ⟨g, 0, none⟩) (i + (l.length - (i + 1))) c, [2, 5]⟩] [(0, .slice (some ⟨g, 0, none⟩) l.length c), (1, .int .i64 (i : Int)), (2, .int .i64 ((i + 1 : Nat) : Int)), (6, .slice none 0 0), (7, .int .i64 (l.length : Int))] (fun ρ => match ρ with | [r0] => [DR r0 (fun _ => cell g 92 (over? cs.toList (0 + i * 2) (flat encSg (l.drop (i + 1)))).toArray) (cell g 92 cs)] | _ => []) (by kernel_rfl) (by kernel_rfl) ⟨rfl, rfl, rfl, rfl, rfl, trivial⟩ rfl ?_ ?_
  · skip
    refine Ac (by intro r0_; exact ⟨rfl, fun b w hH hb => Ah Ai rfl hb⟩) ?_
    refine Ac (by intro r0_; exact ⟨rfl, fun b w hH hb => Ah Ai rfl hb⟩) ?_
    refine Ac (by intro r0_; exact ⟨rfl, fun b w hH hb => F0 (j := i) Ba WR (by omega) rfl rfl rfl hH hb⟩) ?_
    refine Ac (by intro r0_; exact ⟨rfl, fun b w hH hb => Ah Ai rfl hb⟩) ?_
    refine Ac (by intro r0_; exact ⟨rfl, fun b w hH hb => Ah Ai rfl hb⟩) ?_
    refine Ac (by intro r0_; exact ⟨rfl, fun b w hH hb => DS (i := (i + 1)) Ba rfl (by omega) rfl rfl rfl hH hb⟩) ?_
    refine Ac (by exact ⟨rfl, Bm.su (NA 0 Ba rfl (fun w hH => hH.rowsub9 0 rfl (k := 2) (p := i + 1) (q := l.length) (m := l.length) (c := c) (by omega) hc hd (by rw [hs]; exact Nat.le_refl _)) (IF AT _) (by omega) (by rw [hdl, hs]; omega) rfl rfl rfl rfl) rfl⟩) ?_
    exact B7
  intro v0_
  refine BT.keep (env' := [(0, .slice (some ⟨g, 0, none⟩) l.length c), (6, .slice none 0 0), (7, .int .i64 (l.length : Int)), (26, .slice (some ⟨g, 0, none⟩) (i + (l.length - (i + 1))) c)]) ⟨rfl, rfl, rfl, rfl, trivial⟩ ?_
  refine Af Ai rfl ?_
  refine AD (AB ?_)
  simp only [← hq]
  refine Ad ?_
  refine Af Ai rfl ?_
  refine Aa rfl (.int .i64 (q : Int)) (fun b w hb hH => DL Ba rfl rfl hH hb) ?_
  refine Af Ai rfl ?_
  refine Aa rfl (.slice (some ⟨g, q * 2, none⟩) (l.length - q) (c - q)) (fun b w hb hH => VC (i := q) (j := l.length) Ba (Vw (by omega)) (by omega) hc rfl rfl rfl rfl hH hb) ?_
  refine AL rfl rfl (Ur 0 Ba rfl (by rw [List.size_toArray, Gb (by rw [hdl, hsl]; omega), hsl]; omega) rfl rfl rfl) ?_; rintro ⟨zs, hz⟩
  refine Ab (Ad ?_)
  refine Af Ai rfl ?_
  refine Ab (Az ?_)
  exact Ay (.tmp rfl) (fun w h => AC (Value.slice (some ⟨g, 0, none⟩) q c) rfl [0] rfl h (fun z hz' => ⟨z, .refl _, Al.one (Sh (k := 2) (a := cs.toList) (i := 0 + i * 2) (x := flat encSg (l.drop (i + 1))) (j := q * 2) (d := zs) hsl (by simp; omega) (by omega) hm (by rw [hdl]; omega) rfl (by rw [hz, hsl]; omega) (by rw [hd0, FX]) hz')⟩)) rfl
theorem Qb (v : Value) (l : List SegV) (i : Nat) (hi : i < l.length) (hl : l.length ≤ 17179869184) : AP Tryz.prog 90 #[v, .int .i64 (i : Int), .int .i64 ((i + 1 : Nat) : Int)] [Ak 92 2 encSg v l] (fun u : Value => u) (fun u : Value => [Ak 92 2 encSg u (l.take i ++ l.drop (i + 1))]) := by
  intro w rs hp hr hd
  rcases hp.one' with ⟨_, h0, _⟩ | ⟨g, c, cs, hvv, hc, hm, hs, ht, hrr⟩
  · subst h0; exact absurd hi (by simp)
  · subst hvv
    exact LD g c cs l i hi hl hc hm hs ht w rs (Al.one hrr) hr hd
end Go.Proofs.YtnknboibmifacaaGreatDoor.Sep
namespace Go.Proofs.YtnknboibmifacaaGreatDoor.Sep
open Go.RowKit
open Go.Proofs.YtnknboibmifacaaGreatDoor.Mem (AR B3 Chg Av)
theorem OO (v : Value) (l : List SegV) (hi : 0 < l.length) (hl : l.length ≤ 17179869184) : AP Tryz.prog 90 #[v, .int .i64 0, .int .i64 1] [Ak 92 2 encSg v l] (fun u : Value => u) (fun u : Value => [Ak 92 2 encSg u (l.drop 1)]) := Qb v l 0 hi hl
theorem LE {svs : List SegV} {ss : SegsM} {j f : Nat} {l : List (Int × Nat)} (hm : svs.map SegV.m = ss.drop j) (h : ss[j]? = some (f, l)) : ∃ x, svs[0]? = some x ∧ x.f = f ∧ x.l = l := by
  have h1 := congrArg (·[0]?) hm
  simp only [List.getElem?_map, List.getElem?_drop, Nat.add_zero] at h1
  rw [h] at h1
  cases hx : svs[0]? with
  | none => rw [hx] at h1; cases h1
  | some x =>
    rw [hx] at h1
    simp [SegV.m] at h1
    exact ⟨x, rfl, h1.1, h1.2⟩
theorem Si {svs : List SegV} {ss : SegsM} {j : Nat} (hm : svs.map SegV.m = ss.drop j) : (svs.drop 1).map SegV.m = ss.drop (j + 1) := by
 rw [List.map_drop, hm, List.drop_drop]
theorem Sj {p dk lim n k : Nat} {ss : SegsM} {D : Nat → DiskD} (tb : Tb) (hl : ss.length ≤ 1000000) (hn64 : n ≤ 18446744073709551615) (hkl : k ≤ ss.length) (hdel : ∀ (i f : Nat) (l : List (Int × Nat)), i < k → ss[i]? = some (f, l) → i + 1 < ss.length ∧ l ≠ [] ∧ l.length ≤ 1000000 ∧ f ≤ 72057594037927935 ∧ f + l.length - 1 ≤ n ∧ (D i).fit ∧ Jp (D i) (nameL f) = (D (i + 1), 0)) (hstop : ss.length ≤ k + 1 ∨ ∃ (f : Nat) (l : List (Int × Nat)), ss[k]? = some (f, l) ∧ k + 1 < ss.length ∧ l ≠ [] ∧ l.length ≤ 1000000 ∧ f ≤ 72057594037927935 ∧ n < f + l.length - 1) : AP Tryz.prog 38 #[.pointer (some ⟨p, 0, none⟩), .int .u64 (n : Int)] [AA p dk lim ss, Ag dk (D 0), Ao tb] (fun (_ : Unit) => .int .i64 0) (fun (_ : Unit) => [AA p dk lim (ss.drop k), Ag dk (D k), Ao tb]) := by
  refine Bj (args := [.pointer (some ⟨p, 0, none⟩), .int .u64 (n : Int)]) 47 Tryz.func38 rfl rfl rfl ?_; intro w rs
  refine A7 0 rfl AA.open_ (fun _ => rfl) ?_; rintro ⟨sv, svs⟩
  refine AN.fact 3 rfl (fun _ h => h.2) ?_; rintro hm
  refine AN.leave [3] rfl rfl ?_
  replace hm : svs.map SegV.m = ss := hm
  refine Ad ?_
  refine Af Ae rfl ?_
  refine Ab (An (AQ ?_))
  refine Bg [2] rfl (fun _ h => Al.one' h) rfl ?_
  refine CY (α := Nat × Value × List SegV) (fun ⟨j, sw, sws⟩ => [(0, .pointer (some ⟨p, 0, none⟩)), (1, .int .u64 (n : Int)), (4, .int .i64 0)]) (fun ⟨j, sw, sws⟩ => [Bd sws, cell p 87 #[.pointer (some ⟨dk, 0, none⟩), .int .i64 (lim : Int), sw], Ak 92 2 encSg sw sws, Ag dk (D j), Ao tb]) (fun ⟨j, sw, sws⟩ => j ≤ k ∧ sws.map SegV.m = ss.drop j) (fun ⟨j, sw, sws⟩ => k - j) (0, sv, svs) ⟨Nat.zero_le _, hm⟩ ⟨rfl, rfl, rfl, trivial⟩ rfl ?_
  rintro ⟨j, sw, sws⟩ hI
  refine AN.at_ (env' := [(0, .pointer (some ⟨p, 0, none⟩)), (1, .int .u64 (n : Int)), (4, .int .i64 0)]) (rs' := [Bd sws, cell p 87 #[.pointer (some ⟨dk, 0, none⟩), .int .i64 (lim : Int), sw], Ak 92 2 encSg sw sws, Ag dk (D j), Ao tb]) ⟨rfl, rfl, rfl, trivial⟩ rfl ?_
  obtain ⟨hI1, hsm⟩ := hI
  have hn : sws.length = ss.length - j := by have := congrArg List.length hsm; rwa [List.length_map, List.length_drop] at this
  refine An ?_
  rcases Nat.lt_or_ge j k with hjk | hjk
  rotate_left
  rcases hstop with hst | hst
  · skip
    obtain rfl : j = k := by omega
    refine Ad ?_
    refine Af Ae rfl ?_
    refine Aa rfl (.pointer (some ⟨p, 0, none⟩)) (fun b w hb hH => by exact B8 rfl rfl hb) ?_
    refine Af Ae rfl ?_
    refine Aa rfl (sw) (fun b w hb hH => AY rfl rfl (Bi C4 rfl) (hH.row 1 rfl) hb) ?_
    refine Aa rfl (.int .i64 ((ss.length - j : Nat) : Int)) (fun b w hb hH => BS 2 hn Tryz.underlying85 rfl rfl rfl hH hb) ?_
    refine Aa rfl (.bool false) (fun b w hb hH => AZ rfl rfl rfl (BE (by omega)) hb) ?_
    refine Af Ae rfl ?_
    refine Ab (As rfl (C8 (Gx (Gx (Br (AB (Ad ?_)))))))
    refine Af Ae rfl ?_
    refine Ab (Az ?_)
    exact Ay (.tmp rfl) (fun w h => AC () rfl [1, 2, 0, 3, 4] rfl h (fun z hz => Db hsm z hz)) rfl
  · skip
    obtain rfl : j = k := by omega
    obtain ⟨f, l, hfl, hk1, h0, hl2, hf, hgt⟩ := hst
    obtain ⟨x, hx, rfl, rfl⟩ := LE hsm hfl
    have hl0 : 0 < x.l.length := List.length_pos_iff.2 h0
    refine Ad ?_
    refine Af Ae rfl ?_
    refine Aa rfl (.pointer (some ⟨p, 0, none⟩)) (fun b w hb hH => by exact B8 rfl rfl hb) ?_
    refine Af Ae rfl ?_
    refine Aa rfl (sw) (fun b w hb hH => AY rfl rfl (Bi C4 rfl) (hH.row 1 rfl) hb) ?_
    refine Aa rfl (.int .i64 ((ss.length - j : Nat) : Int)) (fun b w hb hH => BS 2 hn Tryz.underlying85 rfl rfl rfl hH hb) ?_
    refine Aa rfl (.bool true) (fun b w hb hH => AZ rfl rfl rfl (BO (by omega)) hb) ?_
    refine Af Ae rfl ?_
    refine Aa rfl (.pointer (some ⟨p, 0, none⟩)) (fun b w hb hH => by exact B8 rfl rfl hb) ?_
    refine Af Ae rfl ?_
    refine Aa rfl (sw) (fun b w hb hH => AY rfl rfl (Bi C4 rfl) (hH.row 1 rfl) hb) ?_
    refine Aa rfl (AV sw (0 * 2)) (fun b w hb hH => EB 2 Ba AT rfl 0 (by omega) rfl rfl rfl hH hb) ?_
    refine Aa rfl (.agg (encSg x).toArray) (fun b w hb hH => Dz AT (by decide) (hH.vec 2 rfl AT) (j := 0) hx B5 rfl rfl hb) ?_
    refine Am (post := fun _ => [Bd sws, cell p 87 #[.pointer (some ⟨dk, 0, none⟩), .int .i64 (lim : Int), sw], Ak 92 2 encSg sw sws, Ag dk (D j), Ao tb]) rfl (Bc (Aj Tryz.func52 (by kernel_rfl) rfl) (fun w hH => Lk w hl0 hl2 hf (DF 0 rfl hx hH)) rfl rfl rfl) ?_; rintro ⟨⟩
    refine Af Ae rfl ?_
    refine Aa rfl (.bool false) (fun b w hb hH => AZ rfl rfl rfl (Fe (by omega)) hb) ?_
    refine Af Ae rfl ?_
    refine Ab (As rfl (C8 (Gx (Gx (Br (AB (Ad ?_)))))))
    refine Af Ae rfl ?_
    refine Ab (Az ?_)
    exact Ay (.tmp rfl) (fun w h => AC () rfl [1, 2, 0, 3, 4] rfl h (fun z hz => Db hsm z hz)) rfl
  · skip
    obtain ⟨⟨f, l⟩, hfl⟩ : ∃ y, ss[j]? = some y := ⟨_, List.getElem?_eq_getElem (by omega)⟩
    obtain ⟨hj1, h0, hl2, hf, hle, hfd, hdd⟩ := hdel j f l hjk hfl
    obtain ⟨x, hx, rfl, rfl⟩ := LE hsm hfl
    have hl0 : 0 < x.l.length := List.length_pos_iff.2 h0
    refine Ad ?_
    refine Af Ae rfl ?_
    refine Aa rfl (.pointer (some ⟨p, 0, none⟩)) (fun b w hb hH => by exact B8 rfl rfl hb) ?_
    refine Af Ae rfl ?_
    refine Aa rfl (sw) (fun b w hb hH => AY rfl rfl (Bi C4 rfl) (hH.row 1 rfl) hb) ?_
    refine Aa rfl (.int .i64 ((ss.length - j : Nat) : Int)) (fun b w hb hH => BS 2 hn Tryz.underlying85 rfl rfl rfl hH hb) ?_
    refine Aa rfl (.bool true) (fun b w hb hH => AZ rfl rfl rfl (BO (by omega)) hb) ?_
    refine Af Ae rfl ?_
    refine Aa rfl (.pointer (some ⟨p, 0, none⟩)) (fun b w hb hH => by exact B8 rfl rfl hb) ?_
    refine Af Ae rfl ?_
    refine Aa rfl (sw) (fun b w hb hH => AY rfl rfl (Bi C4 rfl) (hH.row 1 rfl) hb) ?_
    refine Aa rfl (AV sw (0 * 2)) (fun b w hb hH => EB 2 Ba AT rfl 0 (by omega) rfl rfl rfl hH hb) ?_
    refine Aa rfl (.agg (encSg x).toArray) (fun b w hb hH => Dz AT (by decide) (hH.vec 2 rfl AT) (j := 0) hx B5 rfl rfl hb) ?_
    refine Am (post := fun _ => [Bd sws, cell p 87 #[.pointer (some ⟨dk, 0, none⟩), .int .i64 (lim : Int), sw], Ak 92 2 encSg sw sws, Ag dk (D j), Ao tb]) rfl (Bc (Aj Tryz.func52 (by kernel_rfl) rfl) (fun w hH => Lk w hl0 hl2 hf (DF 0 rfl hx hH)) rfl rfl rfl) ?_; rintro ⟨⟩
    refine Af Ae rfl ?_
    refine Aa rfl (.bool true) (fun b w hb hH => AZ rfl rfl rfl (Cb (by omega)) hb) ?_
    refine Af Ae rfl ?_
    refine Ab (AI rfl (Aw (AB (AQ (An (An ?_))))))
    refine BV 13 2 [⟨.quiet, [none, none], fun _ => .pointer (some ⟨p, 0, none⟩), []⟩, ⟨.quiet, [none, none], fun _ => .pointer (some ⟨p, 0, none⟩), [0]⟩, ⟨.quiet, [none, none], fun _ => .pointer (some ⟨p, 0, none⟩), [1]⟩, ⟨.quiet, [none, none], fun _ => .pointer (some ⟨dk, 0, none⟩), [2]⟩, ⟨.quiet, [none, none], fun _ => .pointer (some ⟨p, 0, none⟩), []⟩, ⟨.quiet, [none, none], fun _ => .pointer (some ⟨p, 0, none⟩), [4]⟩, ⟨.quiet, [none, none], fun _ => .pointer (some ⟨p, 2, none⟩), [5]⟩, ⟨.quiet, [none, none], fun _ => sw, [6]⟩, ⟨.quiet, [none, none], fun _ => AV sw (0 * 2), [7]⟩, ⟨.quiet, [none, none], fun _ => AV sw (0 * 2 + 0), [8]⟩, ⟨.quiet, [none, none], fun _ => .int .u64 (x.f : Int), [9]⟩, ⟨.actv 0, [some false, some false], fun _ => .string (bs (nameL x.f)), [10]⟩, ⟨.actv 1, [some true, some false], fun _ => .int .i64 0, [3, 11]⟩] [(0, .pointer (some ⟨p, 0, none⟩)), (1, .int .u64 (n : Int)), (4, .int .i64 0), (6, .pointer (some ⟨p, 0, none⟩)), (7, .pointer (some ⟨p, 0, none⟩)), (8, .pointer (some ⟨p, 2, none⟩)), (9, sw), (10, .int .i64 ((ss.length - j : Nat) : Int)), (11, .bool true), (12, .bool true), (13, .pointer (some ⟨p, 0, none⟩)), (14, .pointer (some ⟨p, 0, none⟩)), (15, .pointer (some ⟨p, 2, none⟩)), (16, sw), (17, AV sw (0 * 2)), (18, .agg (encSg x).toArray), (19, .int .u64 ((x.f + x.l.length - 1 : Nat) : Int)), (20, .int .u64 (n : Int)), (21, .bool true), (22, .bool true)] (fun ρ => match ρ with | [r0, r1] => [Bd sws, cell p 87 #[.pointer (some ⟨dk, 0, none⟩), .int .i64 (lim : Int), sw], Ak 92 2 encSg sw sws, DR r1 (fun _ => Ag dk (D (j + 1))) (Ag dk (D j)), Ao tb] | _ => []) (by kernel_rfl) (by kernel_rfl) ⟨rfl, rfl, rfl, rfl, rfl, rfl, rfl, rfl, rfl, rfl, rfl, rfl, rfl, rfl, rfl, rfl, rfl, rfl, rfl, rfl, trivial⟩ rfl ?_ ?_
    · skip
      refine Ac (by intro r0_ r1_; exact ⟨rfl, fun b w hH hb => Ah Ae rfl hb⟩) ?_
      refine Ac (by intro r0_ r1_; exact ⟨rfl, fun b w hH hb => by exact B8 rfl rfl hb⟩) ?_
      refine Ac (by intro r0_ r1_; exact ⟨rfl, fun b w hH hb => Ah Ae rfl hb⟩) ?_
      refine Ac (by intro r0_ r1_; exact ⟨rfl, fun b w hH hb => AY rfl rfl (Bi CL rfl) (hH.row 1 rfl) hb⟩) ?_
      refine Ac (by intro r0_ r1_; exact ⟨rfl, fun b w hH hb => Ah Ae rfl hb⟩) ?_
      refine Ac (by intro r0_ r1_; exact ⟨rfl, fun b w hH hb => by exact B8 rfl rfl hb⟩) ?_
      refine Ac (by intro r0_ r1_; exact ⟨rfl, fun b w hH hb => Ah Ae rfl hb⟩) ?_
      refine Ac (by intro r0_ r1_; exact ⟨rfl, fun b w hH hb => AY rfl rfl (Bi C4 rfl) (hH.row 1 rfl) hb⟩) ?_
      refine Ac (by intro r0_ r1_; exact ⟨rfl, fun b w hH hb => EB 2 Ba AT rfl 0 (by omega) rfl rfl rfl hH hb⟩) ?_
      refine Ac (by intro r0_ r1_; exact ⟨rfl, fun b w hH hb => GJ AT (by decide) (hH.vec 2 rfl AT) (j := 0) hx Bn rfl rfl hb⟩) ?_
      refine Ac (by intro r0_ r1_; exact ⟨rfl, fun b w hH hb => BD AT (by decide) (hH.vec 2 rfl AT) (j := 0) hx AO (off := 0) rfl rfl rfl hb⟩) ?_
      refine Ac (by exact ⟨rfl, Bm.su (Au (os' := fun _ => [Bd sws, cell p 87 #[.pointer (some ⟨dk, 0, none⟩), .int .i64 (lim : Int), sw], Ak 92 2 encSg sw sws, Ag dk (D j), Ao tb]) [4] 0 (Aj Tryz.func19 (by kernel_rfl) rfl) (DK tb (n := x.f) (by omega)) rfl rfl rfl (fun _ => rfl) rfl rfl rfl) rfl⟩) ?_
      refine Ac (by intro v0_; exact ⟨rfl, Bm.su (Au (os' := fun _ => [Bd sws, cell p 87 #[.pointer (some ⟨dk, 0, none⟩), .int .i64 (lim : Int), sw], Ak 92 2 encSg sw sws, Ag dk (D (j + 1)), Ao tb]) [3] 0 (Aj Tryz.func89 (by kernel_rfl) rfl) (JV hfd hdd) rfl rfl rfl (fun _ => rfl) rfl rfl rfl) rfl⟩) ?_
      exact B7
    intro v0_ v1_
    refine BT.keep (env' := [(0, .pointer (some ⟨p, 0, none⟩)), (1, .int .u64 (n : Int)), (4, .int .i64 0), (6, .pointer (some ⟨p, 0, none⟩)), (7, .pointer (some ⟨p, 0, none⟩)), (8, .pointer (some ⟨p, 2, none⟩)), (9, sw), (10, .int .i64 ((ss.length - j : Nat) : Int)), (11, .bool true), (12, .bool true), (13, .pointer (some ⟨p, 0, none⟩)), (14, .pointer (some ⟨p, 0, none⟩)), (15, .pointer (some ⟨p, 2, none⟩)), (16, sw), (17, AV sw (0 * 2)), (18, .agg (encSg x).toArray), (19, .int .u64 ((x.f + x.l.length - 1 : Nat) : Int)), (20, .int .u64 (n : Int)), (21, .bool true), (22, .bool true), (23, .pointer (some ⟨p, 0, none⟩)), (24, .pointer (some ⟨p, 0, none⟩)), (25, .pointer (some ⟨p, 0, none⟩)), (26, .pointer (some ⟨dk, 0, none⟩)), (27, .pointer (some ⟨p, 0, none⟩)), (28, .pointer (some ⟨p, 0, none⟩)), (29, .pointer (some ⟨p, 2, none⟩)), (30, sw), (31, AV sw (0 * 2)), (32, AV sw (0 * 2 + 0)), (33, .int .u64 (x.f : Int)), (34, .string (bs (nameL x.f))), (35, .int .i64 0)]) ⟨rfl, rfl, rfl, rfl, rfl, rfl, rfl, rfl, rfl, rfl, rfl, rfl, rfl, rfl, rfl, rfl, rfl, rfl, rfl, rfl, rfl, rfl, rfl, rfl, rfl, rfl, rfl, rfl, rfl, rfl, rfl, rfl, rfl, trivial⟩ ?_
    refine Af Ae rfl ?_
    refine AD (AB (Ad ?_))
    refine Af Ae rfl ?_
    refine Aa rfl (.bool false) (fun b w hb hH => AZ rfl rfl rfl (Bu (by decide)) hb) ?_
    refine Ab (As rfl (Aw (AB ?_)))
    refine A7 0 rfl (F7 hx) (fun _ => rfl) ?_; rintro ⟨⟩
    refine Bg [2] rfl (fun _ h => Al.one' h) rfl ?_
    refine AN.leave [1, 2] rfl rfl ?_
    refine BJ ?_
    refine Af Ae rfl ?_
    refine Aa rfl (.pointer (some ⟨p, 0, none⟩)) (fun b w hb hH => by exact B8 rfl rfl hb) ?_
    refine Af Ae rfl ?_
    refine Aa rfl (sw) (fun b w hb hH => AY rfl rfl (Bi C4 rfl) (hH.row 1 rfl) hb) ?_
    refine Am rfl (Au (os' := fun sv2 => [Bd (sws.drop 1), cell p 87 #[.pointer (some ⟨dk, 0, none⟩), .int .i64 (lim : Int), sw], Ak 92 2 encSg sv2 (sws.drop 1), Ag dk (D (j + 1)), Ao tb]) [2] 0 (Aj Tryz.func90 (by kernel_rfl) rfl) (OO sw sws (by omega) (by omega)) rfl rfl rfl (fun _ => rfl) rfl rfl rfl) ?_; rintro sv2
    refine Aa rfl (.pointer (some ⟨p, 0, none⟩)) (fun b w hb hH => by exact B8 rfl rfl hb) ?_
    refine Af Ae rfl ?_
    refine AL (post := fun _ => [Bd (sws.drop 1), cell p 87 #[.pointer (some ⟨dk, 0, none⟩), .int .i64 (lim : Int), sv2], Ak 92 2 encSg sv2 (sws.drop 1), Ag dk (D (j + 1)), Ao tb]) rfl rfl (Ee 1 2 (v := sv2) #[.pointer (some ⟨dk, 0, none⟩), .int .i64 (lim : Int), sv2] C4.2 rfl (fun _ h => Ak.c1 h) rfl rfl rfl rfl rfl rfl rfl) ?_; rintro ⟨⟩
    refine AD (AW ?_)
    exact Cm (j + 1, sv2, sws.drop 1) 0 ⟨hjk, Si hsm⟩ (show k - (j + 1) < k - j by omega) ⟨rfl, rfl, rfl, trivial⟩ rfl
end Go.Proofs.YtnknboibmifacaaGreatDoor.Sep
namespace Go.Proofs.YtnknboibmifacaaGreatDoor.Sep
open Go.RowKit
section
variable {κ ν : Type} [DecidableEq κ]
theorem Sk {l : List (κ × ν)} {k : κ} {b : ν} (hn : (A6 ((k, b) :: l)).Nodup) : Cp ((k, b) :: l) k = l := by
 unfold Cp
 rw [Jk (x := b) (j := 0) hn (by simp)]
 rfl
end
theorem LogD.del1 {d : DiskD} {M : LogMs} {q : Nat × List EntD} {w : Nat} (h : LogD d (q :: M) w) : Jp d (nameL q.1) = (Dk d (.del (nameL q.1)), 0) ∧ LogD (Dk d (.del (nameL q.1))) M (w + 1) := by
  have hq : q ∈ q :: M := List.mem_cons_self ..
  have hl := h.wl
  have hs := h.ws
  have hn := D7 h.g
  constructor
  · unfold Jp
    rw [HG h.down h.fuse]
    simp only
    rw [if_neg (by simp), h.now, F9 h.g hq]
  · exact ⟨h.down, h.fuse, h.room, by show (d.wait ++ [_]).length ≤ _; rw [List.length_append]; simp only [List.length_cons, List.length_nil]; omega, by
      show Be d.syn + ((d.wait ++ [OpD.del (nameL q.1)]).map OpD.size).sum ≤ _
      rw [List.map_append, List.sum_append]
      simp only [List.map_cons, List.map_nil, List.sum_cons, List.sum_nil, OpD.size]
      omega, by
      rw [GZ, h.now]
      exact Sk hn, h.g.tail⟩
def Mu (d : DiskD) (M : LogMs) (j : Nat) : DiskD := (M.take j).foldl (fun d q => Dk d (.del (nameL q.1))) d
theorem LF {d : DiskD} {M : LogMs} {j : Nat} {q : Nat × List EntD} (h : M[j]? = some q) : Mu d M (j + 1) = Dk (Mu d M j) (.del (nameL q.1)) := by
 unfold Mu
 rw [Fk h, List.foldl_append]
 rfl
theorem LogD.gone {d : DiskD} {M : LogMs} {w : Nat} (h : LogD d M w) : ∀ j, j ≤ M.length → LogD (Mu d M j) (M.drop j) (w + j)
  | 0, _ => h
  | j + 1, hj => by
    have h1 := h.gone j (by omega)
    obtain ⟨q, hq⟩ : ∃ q, M[j]? = some q := ⟨_, List.getElem?_eq_getElem (by omega)⟩
    rw [Dt hq] at h1
    rw [LF hq]
    exact h1.del1.2
theorem LG (n : Nat) : ∀ M : LogMs, ∃ k, k ≤ M.length ∧ (∀ i q, i < k → M[i]? = some q → i + 1 < M.length ∧ q.1 + q.2.length - 1 ≤ n) ∧ (M.length ≤ k + 1 ∨ ∃ q, M[k]? = some q ∧ k + 1 < M.length ∧ n < q.1 + q.2.length - 1)
  | [] => ⟨0, Nat.le_refl _, fun i q h => absurd h (Nat.not_lt_zero _), .inl (Nat.zero_le _)⟩
  | [q] => ⟨0, Nat.zero_le _, fun i q h => absurd h (Nat.not_lt_zero _), .inl (Nat.le_refl _)⟩
  | q :: q2 :: M => by
    by_cases hq : q.1 + q.2.length - 1 ≤ n
    · obtain ⟨k, h1, h2, h3⟩ := LG n (q2 :: M)
      refine ⟨k + 1, by rw [List.length_cons]; omega, fun i x hi hx => ?_, ?_⟩
      · cases i with
        | zero =>
          simp only [List.getElem?_cons_zero, Option.some.injEq] at hx
          subst hx
          exact ⟨by simp only [List.length_cons]; omega, hq⟩
        | succ i =>
          rw [List.getElem?_cons_succ] at hx
          have := h2 i x (by omega) hx
          exact ⟨by rw [List.length_cons]; omega, this.2⟩
      · rcases h3 with h3 | ⟨x, h3, h4, h5⟩
        · exact .inl (by rw [List.length_cons]; omega)
        · exact .inr ⟨x, by rw [List.getElem?_cons_succ]; exact h3, by rw [List.length_cons]; omega, h5⟩
    · exact ⟨0, Nat.zero_le _, fun i q h => absurd h (Nat.not_lt_zero _), .inr ⟨q, rfl, by simp only [List.length_cons]; omega, by omega⟩⟩
theorem Qc (M : LogMs) (k : Nat) : (Aq M).drop k = Aq (M.drop k) := by unfold Aq; rw [List.map_drop]
theorem LogD.drop {lim w n : Nat} {d : DiskD} {M : LogMs} (tb : Tb) (h : LogD d M w) (hn64 : n ≤ 18446744073709551615) (hw : w + M.length ≤ 9999) : ∃ d' k, k ≤ M.length ∧ LogD d' (M.drop k) (w + M.length) ∧ (∀ i q, i < k → M[i]? = some q → i + 1 < M.length ∧ q.1 + q.2.length - 1 ≤ n) ∧ ∀ (p dk : Nat), AP Tryz.prog 38 #[.pointer (some ⟨p, 0, none⟩), .int .u64 (n : Int)] [AA p dk lim (Aq M), Ag dk d, Ao tb] (fun (_ : Unit) => .int .i64 0) (fun (_ : Unit) => [AA p dk lim (Aq (M.drop k)), Ag dk d', Ao tb]) := by
  have hfew := h.g.few
  have hmany := h.g.many
  have hml : (Aq M).length = M.length := by unfold Aq; rw [List.length_map]
  have hseg : ∀ {q : Nat × List EntD}, q ∈ M → Cy q.2 ≠ [] ∧ (Cy q.2).length ≤ 1000000 ∧ q.1 ≤ 72057594037927935 := fun {q} hq => by
    have h1 := h.g.ne q hq
    have h2 : q.2.length ≤ (AE M).length := by
      obtain ⟨i, hi⟩ := List.getElem?_of_mem hq
      have hsp : AE M = AE (M.take i) ++ (q.2 ++ AE (M.drop (i + 1))) := by
        conv => lhs; rw [← List.take_append_drop i M, Dt hi, BL]
        rfl
      rw [hsp]; simp only [List.length_append]; omega
    refine ⟨fun e => h1 (List.length_eq_zero_iff.1 ?_), by rw [Cz]; omega, (h.g.first hq).2⟩
    rw [← Cz, e]; rfl
  obtain ⟨k, hk1, hk2, hk3⟩ := LG n M
  refine ⟨Mu d M k, k, hk1, ?_, hk2, fun p dk => ?_⟩
  · have ha := h.gone k hk1
    exact ⟨ha.down, ha.fuse, ha.room, by have := ha.wl; omega, by have := ha.ws; omega, ha.now, ha.g⟩
  · have h1 := Sj (p := p) (dk := dk) (lim := lim) (n := n) (k := k) (ss := Aq M) (D := Mu d M) tb (by omega) hn64 (by omega) (fun i f l hi hf => by
      obtain ⟨q, hq, rfl, rfl⟩ := OH hf
      have hqM := List.mem_of_getElem? hq
      obtain ⟨a1, a2, a3⟩ := hseg hqM
      obtain ⟨b1, b2⟩ := hk2 i q hi hq
      have h2 := h.gone i (by omega)
      refine ⟨by rw [hml]; exact b1, a1, a2, a3, by rw [Cz]; exact b2, h2.fit (by omega), ?_⟩
      rw [Dt hq] at h2
      rw [LF hq]
      exact h2.del1.1) (by
      rcases hk3 with h3 | ⟨q, hq, h4, h5⟩
      · exact .inl (by rw [hml]; exact h3)
      · obtain ⟨a1, a2, a3⟩ := hseg (List.mem_of_getElem? hq)
        exact .inr ⟨q.1, Cy q.2, HH hq, by rw [hml]; exact h4, a1, a2, a3, by rw [Cz]; exact h5⟩)
    rw [Qc] at h1
    exact h1
end Go.Proofs.YtnknboibmifacaaGreatDoor.Sep
namespace Go.Proofs.YtnknboibmifacaaGreatDoor.Sep
open Go.RowKit
open Go.Proofs.YtnknboibmifacaaGreatDoor.Mem (AR B3 Chg Av)
theorem OP {p : Nat} : AP Tryz.prog 36 #[.pointer (some ⟨p, 0, none⟩)] [] (fun (g : Nat) => .func (.func 88) #[] #[.pointer (some ⟨g, 0, none⟩)]) (fun (g : Nat) => [cell g 26 #[.pointer (some ⟨p, 0, none⟩)]]) := by
 refine Bj (args := [.pointer (some ⟨p, 0, none⟩)]) 4 Tryz.func36 rfl rfl rfl ?_; intro w rs
 refine Ad ?_
 refine Af Ae rfl ?_
 refine Am (post := fun g => [cell g 26 #[.pointer (some ⟨p, 0, none⟩)]]) rfl (CD (cs := #[.pointer (some ⟨p, 0, none⟩)]) rfl rfl rfl) ?_; rintro g
 refine Af Ae rfl ?_
 refine Ab (Ad ?_)
 refine Af Ae rfl ?_
 refine Aa rfl (.func (.func 88) #[] #[.pointer (some ⟨g, 0, none⟩)]) (fun b w hb hH => Je rfl rfl hb) ?_
 refine Af Ae rfl ?_
 refine Ab (Az ?_)
 exact Ay (.tmp rfl) (fun w h => AC g rfl [0] rfl h Ed) rfl
theorem Vx (k : Fn) (caps : Array Value) (g p dk lim : Nat) {W : Nat} {d : DiskD} {M : LogMs} (tb : Tb) (hD : LogD d M W) (hW9 : W ≤ 10000) (T : List EntV → Nat → Ass) (T0 : Ass) (hT0 : ∀ l, T l 0 = T0) {N : Nat} (hN : (AE M).length = N) (hyy : ∀ (l : List EntV) (j : Nat) (z : EntV), l.map (·.e) = AE M → l[j]? = some z → CQ Tryz.prog (.func k #[] caps) [.agg #[.int .i64 z.e.k, .int .u64 z.e.t, .int .u64 z.e.i, .slice z.A z.e.d.length z.c, .int .i64 z.e.c]] [T l j] (fun _ : Unit => .bool true) (fun _ : Unit => [T l (j + 1)])) : AP Tryz.prog 88 #[.func k #[] caps, .pointer (some ⟨g, 0, none⟩)] [T0, AA p dk lim (Aq M), Ag dk d, Ao tb, cell g 26 #[.pointer (some ⟨p, 0, none⟩)]] (fun (x : EsV) => .tuple #[]) (fun (x : EsV) => [T x.l N, Ak 34 5 encV x.v x.l, Bb (fun x : EntV => Ak 5 1 encB x.v x.e.d) x.l, AA p dk lim (Aq M), Ag dk d, Ao tb, cell g 26 #[.pointer (some ⟨p, 0, none⟩)], fact (x.l.map (·.e) = AE M)]) := by
  refine Bj (args := [.func k #[] caps, .pointer (some ⟨g, 0, none⟩)]) 19 Tryz.func88 rfl rfl rfl ?_; intro w rs
  refine An (Ad ?_)
  refine Af Ae rfl ?_
  refine Aa rfl (.bool false) (fun b w hb hH => EN Tryz.underlying77 rfl rfl rfl hb) ?_
  refine Ab (As rfl (Aw (AB (Ad ?_))))
  refine Af Ae rfl ?_
  refine Aa rfl (.pointer (some ⟨p, 0, none⟩)) (fun b w hb hH => AY rfl rfl (Bi Em rfl) (hH.row 4 rfl) hb) ?_
  refine Am rfl (Au (os' := fun (x : EsV) => [Ao tb, fact (x.l.map (·.e) = AE M), T0, Cc 34 x.v x.l, AA p dk lim (Aq M), Ag dk d, cell g 26 #[.pointer (some ⟨p, 0, none⟩)]]) [1, 2, 3] 0 (Aj Tryz.func33 (by kernel_rfl) rfl) (hD.listD tb hW9 p dk lim) rfl rfl rfl (fun _ => rfl) rfl rfl rfl) ?_; rintro x
  refine BT.fact 1 rfl (fun _ h => h.2) ?_; rintro hl0
  have hl : x.l.map (·.e) = AE M := hl0
  have hlx : x.l.length = (AE M).length := by rw [← hl, List.length_map]
  have hmany : x.l.length ≤ 1000000 := by have := hD.g.many; omega
  refine Jd 3 rfl DJ (fun _ => rfl) ?_; rintro ⟨⟩
  refine Aa rfl (.int .i64 (x.l.length : Int)) (fun b w hb hH => Ez 0 Tryz.underlying52 rfl rfl rfl hH hb) ?_
  refine Af Ae rfl ?_
  refine Ab (AQ ?_)
  rw [← hT0 x.l]
  refine Bg [4] rfl (fun _ h => Al.one' h) rfl ?_
  refine CY (α := Nat) (fun j => [(0, .func k #[] caps), (8, x.v), (9, .int .i64 (x.l.length : Int)), (10, .int .i64 (j : Int))]) (fun j => [T x.l j, Ak 34 5 encV x.v x.l, Bb (fun x : EntV => Ak 5 1 encB x.v x.e.d) x.l, Ao tb, fact (x.l.map (·.e) = AE M), AA p dk lim (Aq M), Ag dk d, cell g 26 #[.pointer (some ⟨p, 0, none⟩)]]) (fun j => j ≤ x.l.length) (fun j => x.l.length - j) 0 (Nat.zero_le _) ⟨rfl, rfl, rfl, rfl, trivial⟩ rfl ?_
  rintro j hI
  refine AN.at_ (env' := [(0, .func k #[] caps), (8, x.v), (9, .int .i64 (x.l.length : Int)), (10, .int .i64 (j : Int))]) (rs' := [T x.l j, Ak 34 5 encV x.v x.l, Bb (fun x : EntV => Ak 5 1 encB x.v x.e.d) x.l, Ao tb, fact (x.l.map (·.e) = AE M), AA p dk lim (Aq M), Ag dk d, cell g 26 #[.pointer (some ⟨p, 0, none⟩)]]) ⟨rfl, rfl, rfl, rfl, trivial⟩ rfl ?_
  rcases Nat.lt_or_ge j x.l.length with hlt | hlt
  · skip
    obtain ⟨z, hz⟩ : ∃ z, x.l[j]? = some z := ⟨_, List.getElem?_eq_getElem hlt⟩
    refine Ad ?_
    refine Af Ae rfl ?_
    refine Aa rfl (.bool true) (fun b w hb hH => AZ rfl rfl rfl (Ck (by omega)) hb) ?_
    refine Ab (An (AI rfl (Aw (AB (An (AQ (Ad ?_)))))))
    refine Af Ae rfl ?_
    refine Aa rfl (AV x.v (j * 5)) (fun b w hb hH => EB 1 AK Er rfl j hlt rfl rfl rfl hH hb) ?_
    refine Aa rfl (.agg (encV z).toArray) (fun b w hb hH => Dz Er (by decide) (hH.vec 1 rfl Er) (j := j) hz BH rfl rfl hb) ?_
    refine Am (post := fun gx => [cell gx 34 #[.int .i64 0, .int .u64 0, .int .u64 0, .slice none 0 0, .int .i64 0], T x.l j, Ak 34 5 encV x.v x.l, Bb (fun x : EntV => Ak 5 1 encB x.v x.e.d) x.l, Ao tb, fact (x.l.map (·.e) = AE M), AA p dk lim (Aq M), Ag dk d, cell g 26 #[.pointer (some ⟨p, 0, none⟩)]]) rfl (BW Bz rfl) ?_; rintro gx
    refine AL (post := fun _ => [cell gx 34 #[.int .i64 z.e.k, .int .u64 z.e.t, .int .u64 z.e.i, z.v, .int .i64 z.e.c], T x.l j, Ak 34 5 encV x.v x.l, Bb (fun x : EntV => Ak 5 1 encB x.v x.e.d) x.l, Ao tb, fact (x.l.map (·.e) = AE M), AA p dk lim (Aq M), Ag dk d, cell g 26 #[.pointer (some ⟨p, 0, none⟩)]]) rfl rfl (AU 0 (v := .agg (encV z).toArray) #[.int .i64 z.e.k, .int .u64 z.e.t, .int .u64 z.e.i, z.v, .int .i64 z.e.c] BH.2 rfl rfl rfl rfl rfl rfl rfl rfl rfl) ?_; rintro ⟨⟩
    refine Ab (An ?_)
    refine Ip (I3 FR 2 (by rintro ⟨a, w, h⟩; first | exact h.elim | exact nomatch h.1 | (obtain ⟨_, h, _⟩ := h; exact nomatch h)) (by kernel_rfl) ?_)
    refine Af Ae rfl ?_
    refine Aa rfl (.agg #[.int .i64 z.e.k, .int .u64 z.e.t, .int .u64 z.e.i, z.v, .int .i64 z.e.c]) (fun b w hb hH => AY rfl rfl (EY (cs := [.int .i64 z.e.k, .int .u64 z.e.t, .int .u64 z.e.i, z.v, .int .i64 z.e.c]) BH rfl) (hH.row 0 rfl) hb) ?_
    refine MX ?_
    refine E0 (X := Unit) (post := fun _ => [T x.l (j + 1)]) (os' := fun _ => [T x.l (j + 1), cell gx 34 #[.int .i64 z.e.k, .int .u64 z.e.t, .int .u64 z.e.i, z.v, .int .i64 z.e.c], Ak 34 5 encV x.v x.l, Bb (fun x : EntV => Ak 5 1 encB x.v x.e.d) x.l, Ao tb, fact (x.l.map (·.e) = AE M), AA p dk lim (Aq M), Ag dk d, cell g 26 #[.pointer (some ⟨p, 0, none⟩)]]) FR [1] (hyy x.l j z hl hz) rfl rfl rfl rfl rfl rfl (fun _ => rfl) ?_; rintro ⟨⟩
    refine El FR (by rintro ⟨a, w, h⟩; first | exact h.elim | exact nomatch h.1 | (obtain ⟨_, h, _⟩ := h; exact nomatch h)) (by kernel_rfl) ?_
    refine Af Ae rfl ?_
    refine AD (AB (As rfl (Aw (AW (AB ?_)))))
    refine AN.leave [1] rfl rfl ?_
    refine BJ ?_
    refine Af Ae rfl ?_
    refine Aa rfl (.int .i64 ((j + 1 : Nat) : Int)) (fun b w hb hH => AH rfl rfl rfl rfl (by rw [IntWalk.i64_in _ (by omega)]; omega) hb) ?_
    refine Af Ae rfl ?_
    refine AD ?_
    exact Cm (j + 1) 0 (by omega) (show x.l.length - (j + 1) < x.l.length - j by omega) ⟨rfl, rfl, rfl, rfl, trivial⟩ rfl
  · skip
    obtain rfl : j = N := by omega
    refine Ad ?_
    refine Af Ae rfl ?_
    refine Aa rfl (.bool false) (fun b w hb hH => AZ rfl rfl rfl (BU (by omega)) hb) ?_
    refine Ab (An (As rfl (C8 (Gx (Gx (Br ?_))))))
    exact Eb  (fun w h => AC x rfl [0, 1, 2, 5, 6, 3, 7, 4] rfl h Ed) rfl
theorem Ue (k : Fn) (caps : Array Value) (g p dk lim : Nat) {W : Nat} {d : DiskD} {M : LogMs} (tb : Tb) (hD : LogD d M W) (hW9 : W ≤ 10000) (T : List EntV → Nat → Ass) (T0 : Ass) (hT0 : ∀ l, T l 0 = T0) (Z : List EntV → Ass) {N : Nat} (hN : N < (AE M).length) (hyy : ∀ (l : List EntV) (j : Nat) (z : EntV), l.map (·.e) = AE M → l[j]? = some z → j < N → CQ Tryz.prog (.func k #[] caps) [.agg #[.int .i64 z.e.k, .int .u64 z.e.t, .int .u64 z.e.i, .slice z.A z.e.d.length z.c, .int .i64 z.e.c]] [T l j] (fun _ : Unit => .bool true) (fun _ : Unit => [T l (j + 1)])) (hzz : ∀ (l : List EntV) (j : Nat) (z : EntV), l.map (·.e) = AE M → l[j]? = some z → j = N → CQ Tryz.prog (.func k #[] caps) [.agg #[.int .i64 z.e.k, .int .u64 z.e.t, .int .u64 z.e.i, .slice z.A z.e.d.length z.c, .int .i64 z.e.c]] [T l j] (fun _ : Unit => .bool false) (fun _ : Unit => [Z l])) : AP Tryz.prog 88 #[.func k #[] caps, .pointer (some ⟨g, 0, none⟩)] [T0, AA p dk lim (Aq M), Ag dk d, Ao tb, cell g 26 #[.pointer (some ⟨p, 0, none⟩)]] (fun (x : EsV) => .tuple #[]) (fun (x : EsV) => [Z x.l, Ak 34 5 encV x.v x.l, Bb (fun x : EntV => Ak 5 1 encB x.v x.e.d) x.l, AA p dk lim (Aq M), Ag dk d, Ao tb, cell g 26 #[.pointer (some ⟨p, 0, none⟩)], fact (x.l.map (·.e) = AE M)]) := by
  refine Bj (args := [.func k #[] caps, .pointer (some ⟨g, 0, none⟩)]) 19 Tryz.func88 rfl rfl rfl ?_; intro w rs
  refine An (Ad ?_)
  refine Af Ae rfl ?_
  refine Aa rfl (.bool false) (fun b w hb hH => EN Tryz.underlying77 rfl rfl rfl hb) ?_
  refine Ab (As rfl (Aw (AB (Ad ?_))))
  refine Af Ae rfl ?_
  refine Aa rfl (.pointer (some ⟨p, 0, none⟩)) (fun b w hb hH => AY rfl rfl (Bi Em rfl) (hH.row 4 rfl) hb) ?_
  refine Am rfl (Au (os' := fun (x : EsV) => [Ao tb, fact (x.l.map (·.e) = AE M), T0, Cc 34 x.v x.l, AA p dk lim (Aq M), Ag dk d, cell g 26 #[.pointer (some ⟨p, 0, none⟩)]]) [1, 2, 3] 0 (Aj Tryz.func33 (by kernel_rfl) rfl) (hD.listD tb hW9 p dk lim) rfl rfl rfl (fun _ => rfl) rfl rfl rfl) ?_; rintro x
  refine BT.fact 1 rfl (fun _ h => h.2) ?_; rintro hl0
  have hl : x.l.map (·.e) = AE M := hl0
  have hlx : x.l.length = (AE M).length := by rw [← hl, List.length_map]
  have hmany : x.l.length ≤ 1000000 := by have := hD.g.many; omega
  refine Jd 3 rfl DJ (fun _ => rfl) ?_; rintro ⟨⟩
  refine Aa rfl (.int .i64 (x.l.length : Int)) (fun b w hb hH => Ez 0 Tryz.underlying52 rfl rfl rfl hH hb) ?_
  refine Af Ae rfl ?_
  refine Ab (AQ ?_)
  rw [← hT0 x.l]
  refine Bg [4] rfl (fun _ h => Al.one' h) rfl ?_
  refine CY (α := Nat) (fun j => [(0, .func k #[] caps), (8, x.v), (9, .int .i64 (x.l.length : Int)), (10, .int .i64 (j : Int))]) (fun j => [T x.l j, Ak 34 5 encV x.v x.l, Bb (fun x : EntV => Ak 5 1 encB x.v x.e.d) x.l, Ao tb, fact (x.l.map (·.e) = AE M), AA p dk lim (Aq M), Ag dk d, cell g 26 #[.pointer (some ⟨p, 0, none⟩)]]) (fun j => j ≤ N) (fun j => x.l.length - j) 0 (Nat.zero_le _) ⟨rfl, rfl, rfl, rfl, trivial⟩ rfl ?_
  rintro j hI
  refine AN.at_ (env' := [(0, .func k #[] caps), (8, x.v), (9, .int .i64 (x.l.length : Int)), (10, .int .i64 (j : Int))]) (rs' := [T x.l j, Ak 34 5 encV x.v x.l, Bb (fun x : EntV => Ak 5 1 encB x.v x.e.d) x.l, Ao tb, fact (x.l.map (·.e) = AE M), AA p dk lim (Aq M), Ag dk d, cell g 26 #[.pointer (some ⟨p, 0, none⟩)]]) ⟨rfl, rfl, rfl, rfl, trivial⟩ rfl ?_
  have hlt : j < x.l.length := by omega
  rcases Nat.lt_or_ge j N with hjN | hjN
  · skip
    obtain ⟨z, hz⟩ : ∃ z, x.l[j]? = some z := ⟨_, List.getElem?_eq_getElem hlt⟩
    refine Ad ?_
    refine Af Ae rfl ?_
    refine Aa rfl (.bool true) (fun b w hb hH => AZ rfl rfl rfl (Ck (by omega)) hb) ?_
    refine Ab (An (AI rfl (Aw (AB (An (AQ (Ad ?_)))))))
    refine Af Ae rfl ?_
    refine Aa rfl (AV x.v (j * 5)) (fun b w hb hH => EB 1 AK Er rfl j hlt rfl rfl rfl hH hb) ?_
    refine Aa rfl (.agg (encV z).toArray) (fun b w hb hH => Dz Er (by decide) (hH.vec 1 rfl Er) (j := j) hz BH rfl rfl hb) ?_
    refine Am (post := fun gx => [cell gx 34 #[.int .i64 0, .int .u64 0, .int .u64 0, .slice none 0 0, .int .i64 0], T x.l j, Ak 34 5 encV x.v x.l, Bb (fun x : EntV => Ak 5 1 encB x.v x.e.d) x.l, Ao tb, fact (x.l.map (·.e) = AE M), AA p dk lim (Aq M), Ag dk d, cell g 26 #[.pointer (some ⟨p, 0, none⟩)]]) rfl (BW Bz rfl) ?_; rintro gx
    refine AL (post := fun _ => [cell gx 34 #[.int .i64 z.e.k, .int .u64 z.e.t, .int .u64 z.e.i, z.v, .int .i64 z.e.c], T x.l j, Ak 34 5 encV x.v x.l, Bb (fun x : EntV => Ak 5 1 encB x.v x.e.d) x.l, Ao tb, fact (x.l.map (·.e) = AE M), AA p dk lim (Aq M), Ag dk d, cell g 26 #[.pointer (some ⟨p, 0, none⟩)]]) rfl rfl (AU 0 (v := .agg (encV z).toArray) #[.int .i64 z.e.k, .int .u64 z.e.t, .int .u64 z.e.i, z.v, .int .i64 z.e.c] BH.2 rfl rfl rfl rfl rfl rfl rfl rfl rfl) ?_; rintro ⟨⟩
    refine Ab (An ?_)
    refine Ip (I3 FR 2 (by rintro ⟨a, w, h⟩; first | exact h.elim | exact nomatch h.1 | (obtain ⟨_, h, _⟩ := h; exact nomatch h)) (by kernel_rfl) ?_)
    refine Af Ae rfl ?_
    refine Aa rfl (.agg #[.int .i64 z.e.k, .int .u64 z.e.t, .int .u64 z.e.i, z.v, .int .i64 z.e.c]) (fun b w hb hH => AY rfl rfl (EY (cs := [.int .i64 z.e.k, .int .u64 z.e.t, .int .u64 z.e.i, z.v, .int .i64 z.e.c]) BH rfl) (hH.row 0 rfl) hb) ?_
    refine MX ?_
    refine E0 (X := Unit) (post := fun _ => [T x.l (j + 1)]) (os' := fun _ => [T x.l (j + 1), cell gx 34 #[.int .i64 z.e.k, .int .u64 z.e.t, .int .u64 z.e.i, z.v, .int .i64 z.e.c], Ak 34 5 encV x.v x.l, Bb (fun x : EntV => Ak 5 1 encB x.v x.e.d) x.l, Ao tb, fact (x.l.map (·.e) = AE M), AA p dk lim (Aq M), Ag dk d, cell g 26 #[.pointer (some ⟨p, 0, none⟩)]]) FR [1] (hyy x.l j z hl hz hjN) rfl rfl rfl rfl rfl rfl (fun _ => rfl) ?_; rintro ⟨⟩
    refine El FR (by rintro ⟨a, w, h⟩; first | exact h.elim | exact nomatch h.1 | (obtain ⟨_, h, _⟩ := h; exact nomatch h)) (by kernel_rfl) ?_
    refine Af Ae rfl ?_
    refine AD (AB (As rfl (Aw (AW (AB ?_)))))
    refine AN.leave [1] rfl rfl ?_
    refine BJ ?_
    refine Af Ae rfl ?_
    refine Aa rfl (.int .i64 ((j + 1 : Nat) : Int)) (fun b w hb hH => AH rfl rfl rfl rfl (by rw [IntWalk.i64_in _ (by omega)]; omega) hb) ?_
    refine Af Ae rfl ?_
    refine AD ?_
    exact Cm (j + 1) 0 (by omega) (show x.l.length - (j + 1) < x.l.length - j by omega) ⟨rfl, rfl, rfl, rfl, trivial⟩ rfl
  · skip
    obtain rfl : j = N := by omega
    obtain ⟨z, hz⟩ : ∃ z, x.l[j]? = some z := ⟨_, List.getElem?_eq_getElem hlt⟩
    refine Ad ?_
    refine Af Ae rfl ?_
    refine Aa rfl (.bool true) (fun b w hb hH => AZ rfl rfl rfl (Ck (by omega)) hb) ?_
    refine Ab (An (AI rfl (Aw (AB (An (AQ (Ad ?_)))))))
    refine Af Ae rfl ?_
    refine Aa rfl (AV x.v (j * 5)) (fun b w hb hH => EB 1 AK Er rfl j hlt rfl rfl rfl hH hb) ?_
    refine Aa rfl (.agg (encV z).toArray) (fun b w hb hH => Dz Er (by decide) (hH.vec 1 rfl Er) (j := j) hz BH rfl rfl hb) ?_
    refine Am (post := fun gx => [cell gx 34 #[.int .i64 0, .int .u64 0, .int .u64 0, .slice none 0 0, .int .i64 0], T x.l j, Ak 34 5 encV x.v x.l, Bb (fun x : EntV => Ak 5 1 encB x.v x.e.d) x.l, Ao tb, fact (x.l.map (·.e) = AE M), AA p dk lim (Aq M), Ag dk d, cell g 26 #[.pointer (some ⟨p, 0, none⟩)]]) rfl (BW Bz rfl) ?_; rintro gx
    refine AL (post := fun _ => [cell gx 34 #[.int .i64 z.e.k, .int .u64 z.e.t, .int .u64 z.e.i, z.v, .int .i64 z.e.c], T x.l j, Ak 34 5 encV x.v x.l, Bb (fun x : EntV => Ak 5 1 encB x.v x.e.d) x.l, Ao tb, fact (x.l.map (·.e) = AE M), AA p dk lim (Aq M), Ag dk d, cell g 26 #[.pointer (some ⟨p, 0, none⟩)]]) rfl rfl (AU 0 (v := .agg (encV z).toArray) #[.int .i64 z.e.k, .int .u64 z.e.t, .int .u64 z.e.i, z.v, .int .i64 z.e.c] BH.2 rfl rfl rfl rfl rfl rfl rfl rfl rfl) ?_; rintro ⟨⟩
    refine Ab (An ?_)
    refine Ip (I3 FR 2 (by rintro ⟨a, w, h⟩; first | exact h.elim | exact nomatch h.1 | (obtain ⟨_, h, _⟩ := h; exact nomatch h)) (by kernel_rfl) ?_)
    refine Af Ae rfl ?_
    refine Aa rfl (.agg #[.int .i64 z.e.k, .int .u64 z.e.t, .int .u64 z.e.i, z.v, .int .i64 z.e.c]) (fun b w hb hH => AY rfl rfl (EY (cs := [.int .i64 z.e.k, .int .u64 z.e.t, .int .u64 z.e.i, z.v, .int .i64 z.e.c]) BH rfl) (hH.row 0 rfl) hb) ?_
    refine MX ?_
    refine E0 (X := Unit) (post := fun _ => [Z x.l]) (os' := fun _ => [Z x.l, cell gx 34 #[.int .i64 z.e.k, .int .u64 z.e.t, .int .u64 z.e.i, z.v, .int .i64 z.e.c], Ak 34 5 encV x.v x.l, Bb (fun x : EntV => Ak 5 1 encB x.v x.e.d) x.l, Ao tb, fact (x.l.map (·.e) = AE M), AA p dk lim (Aq M), Ag dk d, cell g 26 #[.pointer (some ⟨p, 0, none⟩)]]) FR [1] (hzz x.l j z hl hz rfl) rfl rfl rfl rfl rfl rfl (fun _ => rfl) ?_; rintro ⟨⟩
    refine El FR (by rintro ⟨a, w, h⟩; first | exact h.elim | exact nomatch h.1 | (obtain ⟨_, h, _⟩ := h; exact nomatch h)) (by kernel_rfl) ?_
    refine Af Ae rfl ?_
    refine AD (AB (AI rfl (Az (BC (D8 (D8 (BC ?_)))))))
    exact Kq  (fun w h => AC x rfl [0, 2, 3, 6, 7, 4, 8, 5] rfl h Ed) rfl
def Gc (gg gm : Nat) (m : Int) (l : List EntV) : Ass := fun rs => ∃ gv : Value, Al [cell gg 52 #[gv], Ak 34 5 encV gv l, cell gm 3 #[.int .i64 m]] rs
theorem Gc.open_ {gg gm : Nat} {m : Int} {l : List EntV} : ∀ rs, Gc gg gm m l rs → ∃ gv : Value, Al [cell gg 52 #[gv], Ak 34 5 encV gv l, cell gm 3 #[.int .i64 m]] rs := fun _ h => h
theorem Q2 {gg gm : Nat} {m : Int} {l : List EntV} (gv : Value) : ∀ rs, Al [cell gg 52 #[gv], Ak 34 5 encV gv l, cell gm 3 #[.int .i64 m]] rs → Gc gg gm m l rs := fun _ h => ⟨gv, h⟩
theorem Xy (gg gm : Nat) (m : Int) (P : List EntV) {z : EntV} {c : Bool} (hn : P.length ≤ 1000) (hc : decide (((P.length + 1 : Nat) : Int) < m) = c) : AP Tryz.prog 37 #[.agg #[.int .i64 z.e.k, .int .u64 z.e.t, .int .u64 z.e.i, .slice z.A z.e.d.length z.c, .int .i64 z.e.c], .pointer (some ⟨gg, 0, none⟩), .pointer (some ⟨gm, 0, none⟩)] [Gc gg gm m P] (fun (_ : Unit) => .bool c) (fun (_ : Unit) => [Gc gg gm m (P ++ [z])]) := by
 refine Bj (args := [.agg #[.int .i64 z.e.k, .int .u64 z.e.t, .int .u64 z.e.i, .slice z.A z.e.d.length z.c, .int .i64 z.e.c], .pointer (some ⟨gg, 0, none⟩), .pointer (some ⟨gm, 0, none⟩)]) 13 Tryz.func37 rfl rfl rfl ?_; intro w rs
 refine A7 0 rfl Gc.open_ (fun _ => rfl) ?_; rintro gv
 refine Ad ?_
 refine Af Ae rfl ?_
 refine Am (post := fun gb => [cell gb 34 #[.int .i64 z.e.k, .int .u64 z.e.t, .int .u64 z.e.i, .slice z.A z.e.d.length z.c, .int .i64 z.e.c], cell gg 52 #[gv], Ak 34 5 encV gv P, cell gm 3 #[.int .i64 m]]) rfl (CD (cs := #[.int .i64 z.e.k, .int .u64 z.e.t, .int .u64 z.e.i, .slice z.A z.e.d.length z.c, .int .i64 z.e.c]) rfl rfl rfl) ?_; rintro gb
 refine Af Ae rfl ?_
 refine Ab (Ad ?_)
 refine Af Ae rfl ?_
 refine Aa rfl (gv) (fun b w hb hH => AY rfl rfl (Bi CJ rfl) (hH.row 1 rfl) hb) ?_
 refine Aa rfl (.agg #[.int .i64 z.e.k, .int .u64 z.e.t, .int .u64 z.e.i, .slice z.A z.e.d.length z.c, .int .i64 z.e.c]) (fun b w hb hH => AY rfl rfl (EY (cs := [.int .i64 z.e.k, .int .u64 z.e.t, .int .u64 z.e.i, .slice z.A z.e.d.length z.c, .int .i64 z.e.c]) BH rfl) (hH.row 0 rfl) hb) ?_
 refine Am (X := Value) (val := fun v : Value => v) (post := fun b1 => [Ak 34 5 encV b1 ([z]), cell gb 34 #[.int .i64 z.e.k, .int .u64 z.e.t, .int .u64 z.e.i, .slice z.A z.e.d.length z.c, .int .i64 z.e.c], cell gg 52 #[gv], Ak 34 5 encV gv P, cell gm 3 #[.int .i64 m]]) rfl (by refine Dl (e := 34) (t := 52) (k := 5) (enc := encV) (x := .tmp 6) (c := .agg #[.int .i64 z.e.k, .int .u64 z.e.t, .int .u64 z.e.i, .slice z.A z.e.d.length z.c, .int .i64 z.e.c]) ?_ ?_ ?_ z ?_ ?_ ?_; exact AK; exact (by decide); exact Er; exact rfl; exact rfl; exact rfl) ?_; rintro b1
 refine Am (post := fun gv2 => [Ak 34 5 encV b1 ([z]), cell gb 34 #[.int .i64 z.e.k, .int .u64 z.e.t, .int .u64 z.e.i, .slice z.A z.e.d.length z.c, .int .i64 z.e.c], cell gg 52 #[gv], Ak 34 5 encV gv2 (P ++ [z]), cell gm 3 #[.int .i64 m]]) rfl (Do (nb := 56) 3 AK Er (by kernel_rfl) (by decide) rfl ([z]) (fun w hH => hH.vec 0 rfl Er) (by simp only [List.length_cons, List.length_nil]; omega) rfl rfl rfl rfl) ?_; rintro gv2
 refine AL (post := fun _ => [Ak 34 5 encV b1 ([z]), cell gb 34 #[.int .i64 z.e.k, .int .u64 z.e.t, .int .u64 z.e.i, .slice z.A z.e.d.length z.c, .int .i64 z.e.c], cell gg 52 #[gv2], Ak 34 5 encV gv2 (P ++ [z]), cell gm 3 #[.int .i64 m]]) rfl rfl (Ee 2 3 (v := gv2) #[gv2] CJ.2 rfl (fun _ h => Ak.c1 h) rfl rfl rfl rfl rfl rfl rfl) ?_; rintro ⟨⟩
 refine Ab ?_
 refine AN.leave [0, 1] rfl rfl ?_
 refine Ad ?_
 refine Af Ae rfl ?_
 refine Aa rfl (gv2) (fun b w hb hH => AY rfl rfl (Bi CJ rfl) (hH.row 0 rfl) hb) ?_
 refine Aa rfl (.int .i64 ((P ++ [z]).length : Int)) (fun b w hb hH => Ez 1 Tryz.underlying52 rfl rfl rfl hH hb) ?_
 refine Aa rfl (.int .i64 m) (fun b w hb hH => AY rfl rfl (Bi Bh rfl) (hH.row 2 rfl) hb) ?_
 refine Aa rfl (.bool c) (fun b w hb hH => AZ rfl rfl rfl (congrArg some (by rw [← hc]; exact decide_eq_decide.2 (by simp only [List.length_append, List.length_cons, List.length_nil] <;> omega))) hb) ?_
 refine Af Ae rfl ?_
 refine Ab (Az ?_)
 exact Ay (.tmp rfl) (fun w h => AC () rfl [0, 1, 2] rfl h (fun z9 hz9 => ⟨z9, .refl _, Al.one (Q2 gv2 z9 hz9)⟩)) rfl
end Go.Proofs.YtnknboibmifacaaGreatDoor.Sep
