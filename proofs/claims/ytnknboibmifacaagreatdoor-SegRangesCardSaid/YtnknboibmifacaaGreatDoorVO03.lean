/-
  SgLd
-/
import Derived.Test.YtnknboibmifacaaGreatDoorVO02
set_option linter.unusedSimpArgs false
set_option linter.unusedVariables false
namespace Go.Proofs.YtnknboibmifacaaGreatDoor.Sep
open Go.RowKit
theorem LogD.firstD {d : DiskD} {M : LogMs} {w : Nat} {e : EntD} {r : List EntD} (h : LogD d M w) (he : AE M = e :: r) (p dk lim : Nat) : AP Tryz.prog 18 #[.pointer (some ⟨p, 0, none⟩)] [AA p dk lim (Aq M)] (fun (_ : Unit) => .int .u64 e.i) (fun (_ : Unit) => [AA p dk lim (Aq M)]) := by
  have hfew := h.g.few
  have hmany := h.g.many
  cases hM : M with
  | nil => rw [hM] at he; cases he
  | cons q M' =>
    have h0 : M[0]? = some q := by rw [hM]; rfl
    have h1 := h.g.at_ h0 (k := 0) (e := e) (by rw [he]; rfl)
    have h9 : (AE (M.take 0)).length = 0 := by rw [List.take_zero]; rfl
    rw [h9] at h1
    have h2 : (q.1 : Int) = e.i := by omega
    have h3 := T6 (p := p) (dk := dk) (lim := lim) (ss := Aq M) (HH h0) (by unfold Aq; rw [List.length_map]; omega)
    rw [h2] at h3
    rw [← hM]
    exact h3
theorem LogD.lastD {d : DiskD} {M : LogMs} {w : Nat} (h : LogD d M w) (p dk lim : Nat) : AP Tryz.prog 17 #[.pointer (some ⟨p, 0, none⟩)] [AA p dk lim (Aq M)] (fun (_ : Unit) => .int .u64 (AG (AE M)).2) (fun (_ : Unit) => [AA p dk lim (Aq M)]) := by
  have hmany := h.g.many
  have hfew := h.g.few
  rcases Dc M with rfl | ⟨M0, q, rfl⟩
  · exact R6
  · have hq : q ∈ M0 ++ [q] := List.mem_append_right _ (List.mem_singleton.2 rfl)
    have h1 := Lv h.g
    have hm : Aq (M0 ++ [q]) = Aq M0 ++ [(q.1, Cy q.2)] := by rw [De]; rfl
    have hml : (Aq M0).length = M0.length := by unfold Aq; rw [List.length_map]
    have hlen : M0.length ≤ 1000 := by rw [List.length_append] at hfew; omega
    have hql : q.2.length ≤ 1000 := by rw [BL, List.length_append] at hmany; simp only [AE, List.flatMap_cons, List.flatMap_nil, List.append_nil] at hmany; omega
    have h2 := R5 (p := p) (dk := dk) (lim := lim) (ss := Aq M0) (f := q.1) (l := Cy q.2) (by omega) (by rw [Cz]; omega) (h.g.first hq).2 (F8 (h.g.ne q hq))
    have h3 : (Dr (Aq (M0 ++ [q]))).2 = ((q.1 + (Cy q.2).length - 1 : Nat) : Int) := by
      unfold Dr
      rw [hm, List.getLast?_append]
      rfl
    rw [← h1, h3, hm]
    exact h2
theorem LogD.listD {d : DiskD} {M : LogMs} {w : Nat} (tb : Tb) (h : LogD d M w) (hw : w ≤ 10000) (p dk lim : Nat) : AP Tryz.prog 33 #[.pointer (some ⟨p, 0, none⟩)] [AA p dk lim (Aq M), Ag dk d, Ao tb] (fun (x : EsV) => x.v) (fun (x : EsV) => [Cc 34 x.v x.l, AA p dk lim (Aq M), Ag dk d, Ao tb, fact (x.l.map (·.e) = AE M)]) := by
  have hmany := h.g.many
  have hfew := h.g.few
  have hlist := h.lists (M' := M) fun _ hq => hq
  have h1 := R2 (p := p) (dk := dk) (lim := lim) (ss := Aq M) (d := d) (fs := M.map (·.1)) tb (h.fit hw) (by unfold Aq; rw [List.map_map]; rfl) (fun f hf => by obtain ⟨q, hq, rfl⟩ := List.mem_map.1 hf; exact (h.g.first hq).2) (by rw [List.length_map]; omega) rfl (by rw [hlist]; omega)
    (fun f b hf hb => by
      obtain ⟨q, hq, rfl⟩ := List.mem_map.1 hf
      rw [h.read hq] at hb
      have h3 := EI (h.g.seg hq).right
      have h4 : q.2.length ≤ (AE M).length := by
        obtain ⟨A, B, rfl⟩ := List.append_of_mem hq
        rw [BL]
        show _ ≤ (AE A ++ (q.2 ++ AE B)).length
        simp only [List.length_append]; omega
      rw [← hb]
      show (BF q.2).length ≤ _
      omega)
  rw [hlist] at h1
  exact h1
theorem OI {room : Int} (hr : room = 1048576) : LogD (G0 room) [] 0 := ⟨rfl, rfl, hr, Nat.le_refl _, by show Be [] + _ ≤ _; simp [G0, Be], rfl, LogG.nil⟩
end Go.Proofs.YtnknboibmifacaaGreatDoor.Sep
