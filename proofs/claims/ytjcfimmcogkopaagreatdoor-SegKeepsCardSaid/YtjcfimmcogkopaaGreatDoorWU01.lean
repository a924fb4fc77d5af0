/-
  SgKp
-/
import Derived.Test.YtjcfimmcogkopaaGreatDoorWR02
import Derived.Test.YtjcfimmcogkopaaGreatDoorWT01
set_option linter.unusedSimpArgs false
set_option linter.unusedVariables false
namespace Go.Proofs.YtjcfimmcogkopaaGreatDoor.Sep
open Go.RowKit
open Go.Proofs.YtjcfimmcogkopaaGreatDoor.Mem (Bb Ci Chg Aw)
theorem LogD.append1X {lim w : Nat} {d : DiskD} {M : LogMs} {z : EntV} (tb : Tb) (h : LogD d M w) (hli : lim ≤ 1000000000) (hr : BN z.e = true) (hf : Fh (AD (AU M)) z.e) (hm : (AU M).length < 60) (hw : w ≤ 9999) : ∃ o, OpAt lim M z.e o ∧ LogD (Cw d o) (Gn lim M z.e) (w + 1) ∧ ∀ (Y : Ass) (p dk : Nat) (v : Value), EN Y (.slice z.A z.e.d.length z.c) z.e.d → AV Tryz.prog 21 #[.pointer (some ⟨p, 0, none⟩), v] [Ay p dk lim (An M), Ag dk d, Ao tb, Aj 53 5 encV v [z], Y] (fun (_ : Unit) => .int .i64 0) (fun (_ : Unit) => [Ay p dk lim (An (Gn lim M z.e)), Ag dk (Cw d o), Ao tb, Aj 53 5 encV v [z], Y]) := by
  obtain ⟨o, ho, hD, hA⟩ := h.stepP (lim := lim) hw hr hf hm
  refine ⟨o, ho, hD, fun Y p dk v hY => ?_⟩
  have hz0 : ∀ (j : Nat) (y : EntV), [z][j]? = some y → j = 0 ∧ y = z := fun j y hj => by
    cases j with
    | zero => exact ⟨rfl, by simpa using hj.symm⟩
    | succ j => simp at hj
  have h3 := JT (Y := Y) (p := p) (dk := dk) (lim := lim) (s := (An M, d)) (v := v) (l := [z]) tb hli (by simp) (KZ h.g)
    (fun j y hy => by
      obtain ⟨rfl, rfl⟩ := hz0 j y hy
      show Fh (CM (DG (An M)) [y] 0) y.e
      rw [Mv h.g]
      simpa using hf)
    (fun j y hy => by obtain ⟨rfl, rfl⟩ := hz0 j y hy; exact hY)
    (fun j y hy => by
      obtain ⟨rfl, rfl⟩ := hz0 j y hy
      exact (h.add (lim := lim) hw hr hf hm).1)
  rw [show C0 lim (An M, d) [z] = (An (Gn lim M z.e), Cw d o) from hA] at h3
  exact h3
theorem LogD.sync {d : DiskD} {M : LogMs} {w : Nat} (h : LogD d M w) : ∃ d', Rn d = (d', 0) ∧ LogD d' M 0 ∧ d'.syn = BX M ∧ d'.wait = [] := by
  refine ⟨{ d with syn := d.now, wait := [] }, ?_, ⟨h.down, h.fuse, h.room, Nat.le_refl _, ?_, h.now, h.g⟩, h.now, rfl⟩
  · unfold Rn
    rw [FG h.down h.fuse]
    simp only
    rw [if_neg (by simp)]
  · have h1 := PC h.g
    show AT d.now + 0 ≤ _
    rw [h.now]; omega
theorem GE (lim : Nat) : ∀ (L : List EntD) (M : LogMs), AU (CP lim M L) = AU M ++ L
  | [], M => by simp [CP]
  | e :: r, M => by
    show AU (CP lim (Gn lim M e) r) = _
    rw [GE lim r, Pq]
    simp
theorem LogD.more {d : DiskD} {M : LogMs} {w w' : Nat} (h : LogD d M w) (hw : w ≤ w') : LogD d M w' := ⟨h.down, h.fuse, h.room, by have := h.wl; omega, by have := h.ws; omega, h.now, h.g⟩
theorem PendOk.opens {lim w : Nat} {M0 : LogMs} {L : List EntD} {d dc : DiskD} (tb : Tb) (hl1 : 64 ≤ lim) (hl2 : lim ≤ 16384) (h : PendOk lim M0 L d) (hD : LogD d (CP lim M0 L) w) (hL : ∀ e, e ∈ L → BN e = true) {keep torn : Int} (hc : FZ d keep torn = dc) : ∃ k d' M', k ≤ L.length ∧ LogD d' M' 1 ∧ AU M' = AU M0 ++ L.take k ∧ ∀ dk, AV Tryz.prog 9 #[.pointer (some ⟨dk, 0, none⟩), .int .i64 (lim : Int)] [Ag dk dc, Ao tb] (fun (p : Nat) => .tuple #[.pointer (some ⟨p, 0, none⟩), .int .i64 0]) (fun (p : Nat) => [Ay p dk lim (An M'), Ag dk d', Ao tb]) := by
  subst hc
  obtain ⟨k, hk, h1 | ⟨M, f, es, e, x, h1, h2⟩⟩ := h.crash hD hL keep torn
  · exact ⟨k, _, _, hk, h1.more (by omega), GE lim _ _, fun dk => h1.opens (dk := dk) tb (by omega) hl1 hl2⟩
  · obtain ⟨d', M', h3, h4, h5⟩ : ∃ d' M', LogD d' M' 1 ∧ AU M' = AU (M ++ [(f, es)]) ∧ ∀ dk, AV Tryz.prog 9 #[.pointer (some ⟨dk, 0, none⟩), .int .i64 (lim : Int)] [Ag dk (FZ d keep torn), Ao tb] (fun (p : Nat) => .tuple #[.pointer (some ⟨p, 0, none⟩), .int .i64 0]) (fun (p : Nat) => [Ay p dk lim (An M'), Ag dk d', Ao tb]) := h1.opensA tb (by omega) hl1 hl2
    exact ⟨k, d', M', hk, h3, by rw [h4, h2, GE], h5⟩
theorem Nm {lim i : Nat} {M1 : LogMs} {l2 : List EntV} {d : DiskD} {z : EntV} (tb : Tb) (hli : lim ≤ 1000000000) (hz : l2[i]? = some z) (hP : PendOk lim M1 ((l2.map (·.e)).take i) d) (hD : LogD d (CP lim M1 ((l2.map (·.e)).take i)) i) (hC : LogC (AU M1 ++ l2.map (·.e))) (hm : (AU M1).length + l2.length ≤ 60) : ∃ d', PendOk lim M1 ((l2.map (·.e)).take (i + 1)) d' ∧ LogD d' (CP lim M1 ((l2.map (·.e)).take (i + 1))) (i + 1) ∧ ∀ (Y : Ass) (p dk : Nat) (v : Value), EN Y (.slice z.A z.e.d.length z.c) z.e.d → AV Tryz.prog 21 #[.pointer (some ⟨p, 0, none⟩), v] [Ay p dk lim (An (CP lim M1 ((l2.map (·.e)).take i))), Ag dk d, Ao tb, Aj 53 5 encV v [z], Y] (fun (_ : Unit) => .int .i64 0) (fun (_ : Unit) => [Ay p dk lim (An (CP lim M1 ((l2.map (·.e)).take (i + 1)))), Ag dk d', Ao tb, Aj 53 5 encV v [z], Y]) := by
  have hil := (List.getElem?_eq_some_iff.1 hz).1
  have hz1 : (l2.map (·.e))[i]? = some z.e := by rw [List.getElem?_map, hz]; rfl
  have htk : (l2.map (·.e)).take (i + 1) = (l2.map (·.e)).take i ++ [z.e] := by rw [List.take_add_one, hz1]; rfl
  have hsp : AU M1 ++ l2.map (·.e) = (AU M1 ++ (l2.map (·.e)).take i) ++ z.e :: (l2.map (·.e)).drop (i + 1) := by
    conv => lhs; rw [← List.take_append_drop i (l2.map (·.e)), En hz1]
    simp
  have hzr := hC.right z.e (List.mem_append_right _ (List.mem_of_getElem? hz1))
  have hlen : (AU (CP lim M1 ((l2.map (·.e)).take i))).length < 60 := by rw [GE, List.length_append, List.length_take, List.length_map]; omega
  obtain ⟨o, ho, hD1, hA⟩ := hD.append1X (lim := lim) tb hli hzr (by rw [GE]; exact hC.fol _ _ _ hsp) hlen (by omega)
  have hnx := Nl (lim := lim) (M := M1) hz1
  refine ⟨_, by rw [htk]; exact hP.step ho hD1, by rw [hnx]; exact hD1, ?_⟩
  rw [hnx]
  exact hA
theorem Vd {b : Int} {l1 l : List EntV} {j : Nat} {z : EntV} (h : l1.map (·.e) = DA b 1 ((l.take 20).map (·.e))) (hz : l1[j]? = some z) : (1 ≤ z.e.t ∧ z.e.t ≤ 21) ∧ z.e.i = b + (j : Int) + 1 := by
  have h1 : (DA b 1 ((l.take 20).map (·.e)))[j]? = some z.e := by rw [← h, List.getElem?_map, hz]; rfl
  have h2 := R0 _ b 1 j z.e (by decide) h1
  have h3 := RZ _ b 1 j z.e h1
  have h4 := f20 l
  omega
theorem Ve {b : Int} {l1 : List EntV} {z : EntV} (hk : 0 < l1.length) (hz : l1[l1.length - 1]? = some z) (hi : z.e.i = b + ((l1.length - 1 : Nat) : Int) + 1) : (AD (l1.map (·.e))).2 = b + (l1.length : Int) ∧ (AD (l1.map (·.e))).1 ≤ max 1 z.e.t := by
  obtain ⟨r, y, hr⟩ := (Cz l1).resolve_left (List.length_pos_iff.1 hk)
  have hy : y = z := by
    rw [hr] at hz
    simpa using hz
  subst hy
  have h1 : l1.map (·.e) = r.map (·.e) ++ [y.e] := by rw [hr]; simp
  rw [h1, D3]
  exact ⟨by show y.e.i = _; rw [hi]; omega, by show y.e.t ≤ _; omega⟩
end Go.Proofs.YtjcfimmcogkopaaGreatDoor.Sep
