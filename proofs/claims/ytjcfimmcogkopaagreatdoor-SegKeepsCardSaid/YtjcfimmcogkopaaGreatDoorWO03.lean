/-
  SgLd
-/
import Derived.Test.YtjcfimmcogkopaaGreatDoorWO02
set_option linter.unusedSimpArgs false
set_option linter.unusedVariables false
namespace Go.Proofs.YtjcfimmcogkopaaGreatDoor.Sep
open Go.RowKit
theorem LogD.firstD {d : DiskD} {M : LogMs} {w : Nat} {e : EntD} {r : List EntD} (h : LogD d M w) (he : AU M = e :: r) (p dk lim : Nat) : AV Tryz.prog 32 #[.pointer (some ⟨p, 0, none⟩)] [Ay p dk lim (An M)] (fun (_ : Unit) => .int .u64 e.i) (fun (_ : Unit) => [Ay p dk lim (An M)]) := by
  have hfew := h.g.few
  have hmany := h.g.many
  cases hM : M with
  | nil => rw [hM] at he; cases he
  | cons q M' =>
    have h0 : M[0]? = some q := by rw [hM]; rfl
    have h1 := h.g.at_ h0 (k := 0) (e := e) (by rw [he]; rfl)
    have h9 : (AU (M.take 0)).length = 0 := by rw [List.take_zero]; rfl
    rw [h9] at h1
    have h2 : (q.1 : Int) = e.i := by omega
    have h3 := U3 (p := p) (dk := dk) (lim := lim) (ss := An M) (GC h0) (by unfold An; rw [List.length_map]; omega)
    rw [h2] at h3
    rw [← hM]
    exact h3
theorem LogD.lastD {d : DiskD} {M : LogMs} {w : Nat} (h : LogD d M w) (p dk lim : Nat) : AV Tryz.prog 33 #[.pointer (some ⟨p, 0, none⟩)] [Ay p dk lim (An M)] (fun (_ : Unit) => .int .u64 (AD (AU M)).2) (fun (_ : Unit) => [Ay p dk lim (An M)]) := by
  have hmany := h.g.many
  have hfew := h.g.few
  rcases Cz M with rfl | ⟨M0, q, rfl⟩
  · exact S2
  · have hq : q ∈ M0 ++ [q] := List.mem_append_right _ (List.mem_singleton.2 rfl)
    have h1 := Mt h.g
    have hm : An (M0 ++ [q]) = An M0 ++ [(q.1, CG q.2)] := by rw [C4]; rfl
    have hml : (An M0).length = M0.length := by unfold An; rw [List.length_map]
    have hlen : M0.length ≤ 1000 := by rw [List.length_append] at hfew; omega
    have hql : q.2.length ≤ 1000 := by rw [BP, List.length_append] at hmany; simp only [AU, List.flatMap_cons, List.flatMap_nil, List.append_nil] at hmany; omega
    have h2 := S1 (p := p) (dk := dk) (lim := lim) (ss := An M0) (f := q.1) (l := CG q.2) (by omega) (by rw [Dh]; omega) (h.g.first hq).2 (E5 (h.g.ne q hq))
    have h3 : (DG (An (M0 ++ [q]))).2 = ((q.1 + (CG q.2).length - 1 : Nat) : Int) := by
      unfold DG
      rw [hm, List.getLast?_append]
      rfl
    rw [← h1, h3, hm]
    exact h2
theorem LogD.listD {d : DiskD} {M : LogMs} {w : Nat} (tb : Tb) (h : LogD d M w) (hw : w ≤ 10000) (p dk lim : Nat) : AV Tryz.prog 23 #[.pointer (some ⟨p, 0, none⟩)] [Ay p dk lim (An M), Ag dk d, Ao tb] (fun (x : EsV) => x.v) (fun (x : EsV) => [Cm 53 x.v x.l, Ay p dk lim (An M), Ag dk d, Ao tb, fact (x.l.map (·.e) = AU M)]) := by
  have hmany := h.g.many
  have hfew := h.g.few
  have hlist := h.lists (M' := M) fun _ hq => hq
  have h1 := SY (p := p) (dk := dk) (lim := lim) (ss := An M) (d := d) (fs := M.map (·.1)) tb (h.fit hw) (by unfold An; rw [List.map_map]; rfl) (fun f hf => by obtain ⟨q, hq, rfl⟩ := List.mem_map.1 hf; exact (h.g.first hq).2) (by rw [List.length_map]; omega) rfl (by rw [hlist]; omega)
    (fun f b hf hb => by
      obtain ⟨q, hq, rfl⟩ := List.mem_map.1 hf
      rw [h.read hq] at hb
      have h3 := DJ (h.g.seg hq).right
      have h4 : q.2.length ≤ (AU M).length := by
        obtain ⟨A, B, rfl⟩ := List.append_of_mem hq
        rw [BP]
        show _ ≤ (AU A ++ (q.2 ++ AU B)).length
        simp only [List.length_append]; omega
      rw [← hb]
      show (Bd q.2).length ≤ _
      omega)
  rw [hlist] at h1
  exact h1
theorem Pt {room : Int} (hr : room = 1048576) : LogD (Hv room) [] 0 := ⟨rfl, rfl, hr, Nat.le_refl _, by show AT [] + _ ≤ _; simp [Hv, AT], rfl, LogG.nil⟩
end Go.Proofs.YtjcfimmcogkopaaGreatDoor.Sep
