/-
  SgLd
-/
import Derived.Test.YtjcfimmcogkopaaGreatDoorWX01
import Derived.Test.YtjcfimmcogkopaaGreatDoorWO02
set_option linter.unusedSimpArgs false
set_option linter.unusedVariables false
set_option maxHeartbeats 4000000
namespace Go.Proofs.YtjcfimmcogkopaaGreatDoor.Sep
variable {M : LogMs} {d : DiskD}
open Go.RowKit
theorem LogD.firstD {w : Nat} {e : EntD} {r : List EntD} (h : LogD d M w) (he : AB M = e :: r) (p dk lim : Nat) : AA Tryz.prog 32 #[.pointer (some ⟨p, 0, none⟩)] [Ao p dk lim (Ag M)] (fun (_ : Unit) => .int .u64 e.i) (fun (_ : Unit) => [Ao p dk lim (Ag M)]) := by
  have hfew := h.g.few
  have hmany := h.g.many
  cases hM : M with
  | nil => rw [hM] at he; cases he
  | cons q M' =>
    have h0 : M[0]? = some q := by rw [hM]; rfl
    have h1 := h.g.at_ h0 (k := 0) (e := e) (by rw [he]; rfl)
    have h9 : (AB (M.take 0)).length = 0 := by rw [List.take_zero]; rfl
    rw [h9] at h1
    have h2 : (q.1 : Int) = e.i := by omega
    have h3 := Vh (p := p) (dk := dk) (lim := lim) (ss := Ag M) (Ge h0) (by unfold Ag; rw [List.length_map]; omega)
    rw [h2] at h3
    rw [← hM]
    exact h3
theorem LogD.lastD {w : Nat} (h : LogD d M w) (p dk lim : Nat) : AA Tryz.prog 33 #[.pointer (some ⟨p, 0, none⟩)] [Ao p dk lim (Ag M)] (fun (_ : Unit) => .int .u64 (Ar (AB M)).2) (fun (_ : Unit) => [Ao p dk lim (Ag M)]) := by
  have hmany := h.g.many
  have hfew := h.g.few
  rcases BP M with rfl | ⟨M0, q, rfl⟩
  · exact Ta
  · have hq : q ∈ M0 ++ [q] := List.mem_append_right _ (List.mem_singleton.2 rfl)
    have h1 := Mw h.g
    have hm : Ag (M0 ++ [q]) = Ag M0 ++ [(q.1, BZ q.2)] := by rw [Cl]; rfl
    have hml : (Ag M0).length = M0.length := by unfold Ag; rw [List.length_map]
    have hlen : M0.length ≤ 1000 := by rw [List.length_append] at hfew; omega
    have hql : q.2.length ≤ 1000 := by rw [Bi, List.length_append] at hmany; simp only [AB, List.flatMap_cons, List.flatMap_nil, List.append_nil] at hmany; omega
    have h2 := S9 (p := p) (dk := dk) (lim := lim) (ss := Ag M0) (f := q.1) (l := BZ q.2) (by omega) (by rw [Cv]; omega) (h.g.first hq).2 (EH (h.g.ne q hq))
    have h3 : (GW (Ag (M0 ++ [q]))).2 = ((q.1 + (BZ q.2).length - 1 : Nat) : Int) := by
      unfold GW
      rw [hm, List.getLast?_append]
      rfl
    rw [← h1, h3, hm]
    exact h2
theorem LogD.listD {w : Nat} (tb : Tb) (h : LogD d M w) (hw : w ≤ 10000) (p dk lim : Nat) : AA Tryz.prog 23 #[.pointer (some ⟨p, 0, none⟩)] [Ao p dk lim (Ag M), Ab dk d, Aj tb] (fun (x : EsV) => x.v) (fun (x : EsV) => [B9 53 x.v x.l, Ao p dk lim (Ag M), Ab dk d, Aj tb, fact (x.l.map (·.e) = AB M)]) := by
  have hmany := h.g.many
  have hfew := h.g.few
  have hlist := h.lists (M' := M) fun _ hq => hq
  have h1 := S6 (p := p) (dk := dk) (lim := lim) (ss := Ag M) (d := d) (fs := M.map (·.1)) tb (h.fit hw) (by unfold Ag; rw [List.map_map]; rfl) (fun f hf => by obtain ⟨q, hq, rfl⟩ := List.mem_map.1 hf; exact (h.g.first hq).2) (by rw [List.length_map]; omega) rfl (by rw [hlist]; omega)
    (fun f b hf hb => by
      obtain ⟨q, hq, rfl⟩ := List.mem_map.1 hf
      rw [h.read hq] at hb
      have h3 := C8 (h.g.seg hq).right
      have h4 : q.2.length ≤ (AB M).length := by
        obtain ⟨A, B, rfl⟩ := List.append_of_mem hq
        rw [Bi]
        show _ ≤ (AB A ++ (q.2 ++ AB B)).length
        simp only [List.length_append]; omega
      rw [← hb]
      show (AI q.2).length ≤ _
      omega)
  rw [hlist] at h1
  exact h1
theorem Px {room : Int} (hr : room = 1048576) : LogD (K4 room) [] 0 := ⟨rfl, rfl, hr, Nat.le_refl _, by show Az [] + _ ≤ _; simp [K4, Az], rfl, LogG.nil⟩
end Go.Proofs.YtjcfimmcogkopaaGreatDoor.Sep
