/-
  SgLd
-/
import Derived.Test.YtaipejaeeohpkaaGreatDoorUO02
set_option linter.unusedSimpArgs false
set_option linter.unusedVariables false
namespace Go.Proofs.YtaipejaeeohpkaaGreatDoor.Sep
open Go.RowKit
theorem LogD.firstD {d : DiskD} {M : LogMs} {w : Nat} {e : EntD} {r : List EntD} (h : LogD d M w) (he : allE M = e :: r) (p dk lim : Nat) : Does Tryz.prog 18 #[.pointer (some ⟨p, 0, none⟩)] [LogT p dk lim (marksOf M)] (fun (_ : Unit) => .int .u64 e.i) (fun (_ : Unit) => [LogT p dk lim (marksOf M)]) := by
  have hfew := h.g.few
  have hmany := h.g.many
  cases hM : M with
  | nil => rw [hM] at he; cases he
  | cons q M' =>
    have h0 : M[0]? = some q := by rw [hM]; rfl
    have h1 := h.g.at_ h0 (k := 0) (e := e) (by rw [he]; rfl)
    have h9 : (allE (M.take 0)).length = 0 := by rw [List.take_zero]; rfl
    rw [h9] at h1
    have h2 : (q.1 : Int) = e.i := by omega
    have h3 := first_at (p := p) (dk := dk) (lim := lim) (ss := marksOf M) (marks_at' h0) (by unfold marksOf; rw [List.length_map]; omega)
    rw [h2] at h3
    rw [← hM]
    exact h3
theorem LogD.lastD {d : DiskD} {M : LogMs} {w : Nat} (h : LogD d M w) (p dk lim : Nat) : Does Tryz.prog 17 #[.pointer (some ⟨p, 0, none⟩)] [LogT p dk lim (marksOf M)] (fun (_ : Unit) => .int .u64 (lastIT (allE M)).2) (fun (_ : Unit) => [LogT p dk lim (marksOf M)]) := by
  have hmany := h.g.many
  have hfew := h.g.few
  rcases nil_snoc M with rfl | ⟨M0, q, rfl⟩
  · exact last_none
  · have hq : q ∈ M0 ++ [q] := List.mem_append_right _ (List.mem_singleton.2 rfl)
    have h1 := endM_marks h.g
    have hm : marksOf (M0 ++ [q]) = marksOf M0 ++ [(q.1, markL q.2)] := by rw [marksOf_app]; rfl
    have hml : (marksOf M0).length = M0.length := by unfold marksOf; rw [List.length_map]
    have hlen : M0.length ≤ 1000 := by rw [List.length_append] at hfew; omega
    have hql : q.2.length ≤ 1000 := by rw [allE_app, List.length_append] at hmany; simp only [allE, List.flatMap_cons, List.flatMap_nil, List.append_nil] at hmany; omega
    have h2 := last_does (p := p) (dk := dk) (lim := lim) (ss := marksOf M0) (f := q.1) (l := markL q.2) (by omega) (by rw [markL_len]; omega) (h.g.first hq).2 (markL_nil (h.g.ne q hq))
    have h3 : (endM (marksOf (M0 ++ [q]))).2 = ((q.1 + (markL q.2).length - 1 : Nat) : Int) := by
      unfold endM
      rw [hm, List.getLast?_append]
      rfl
    rw [← h1, h3, hm]
    exact h2
theorem LogD.listD {d : DiskD} {M : LogMs} {w : Nat} (tb : Tb) (h : LogD d M w) (hw : w ≤ 10000) (p dk lim : Nat) : Does Tryz.prog 33 #[.pointer (some ⟨p, 0, none⟩)] [LogT p dk lim (marksOf M), DiskT dk d, TabZ tb] (fun (x : EsV) => x.v) (fun (x : EsV) => [Ents 34 x.v x.l, LogT p dk lim (marksOf M), DiskT dk d, TabZ tb, fact (x.l.map (·.e) = allE M)]) := by
  have hmany := h.g.many
  have hfew := h.g.few
  have hlist := h.lists (M' := M) fun _ hq => hq
  have h1 := list_does (p := p) (dk := dk) (lim := lim) (ss := marksOf M) (d := d) (fs := M.map (·.1)) tb (h.fit hw) (by unfold marksOf; rw [List.map_map]; rfl) (fun f hf => by obtain ⟨q, hq, rfl⟩ := List.mem_map.1 hf; exact (h.g.first hq).2) (by rw [List.length_map]; omega) rfl (by rw [hlist]; omega)
    (fun f b hf hb => by
      obtain ⟨q, hq, rfl⟩ := List.mem_map.1 hf
      rw [h.read hq] at hb
      have h3 := bytes_len (h.g.seg hq).right
      have h4 : q.2.length ≤ (allE M).length := by
        obtain ⟨A, B, rfl⟩ := List.append_of_mem hq
        rw [allE_app]
        show _ ≤ (allE A ++ (q.2 ++ allE B)).length
        simp only [List.length_append]; omega
      rw [← hb]
      show (bytesE q.2).length ≤ _
      omega)
  rw [hlist] at h1
  exact h1
theorem logD_new {room : Int} (hr : room = 1048576) : LogD (newD room) [] 0 := ⟨rfl, rfl, hr, Nat.le_refl _, by show usedF [] + _ ≤ _; simp [newD, usedF], rfl, LogG.nil⟩
end Go.Proofs.YtaipejaeeohpkaaGreatDoor.Sep
