/-
  RrX · HdR
-/
import Derived.Test.YtjcfimmcogkopaaGreatPA08
import Derived.Test.YtjcfimmcogkopaaGreatPB03
import Derived.Test.YtjcfimmcogkopaaGreatPH01
import Derived.Test.YtjcfimmcogkopaaGreatPI01
import Derived.Test.YtjcfimmcogkopaaGreatPK01
import Derived.Test.YtjcfimmcogkopaaGreatPN01
import Derived.Test.YtjcfimmcogkopaaGreatPP03
import Derived.Test.YtjcfimmcogkopaaGreatPR01
set_option linter.unusedSimpArgs false
set_option linter.unusedVariables false
namespace Go.Proofs.YtjcfimmcogkopaaGreat.Sep
open Go.RowKit
open Go.Proofs.YtjcfimmcogkopaaGreat.Mem (Bh Cs Chg AA)
variable {X : Ass} {v B : Value} {b l l' : List UInt8} {g f f' : Nat} {F : FuncId} {args : Array Value} {val : Value}
theorem MH (hX : CO X v b) {rs : List RowT} (h : X rs) {w : World} (hr : RowsOf w rs) (hn : ∀ x ∈ rs, x.1 ≠ g) (hg : g < w.heap.size) : ∃ A c, v = .slice A b.length c ∧ Bs (fun k => k ≠ g) w A c b := by
 obtain ⟨A, c, e, hb⟩ := hX rs w h hr
 refine ⟨A, c, e, hb.1, hb.2.1, fun hl => ?_⟩
 obtain ⟨g1, o, eA, _, hc⟩ := hb.2.2 hl
 refine ⟨g1, o, eA, fun eg => ?_, hc⟩
 subst eg
 have hr2 : RowsOf (w.putObj g1 (.deferred none)) rs := hr.map_ fun x hx hrx => by
  obtain ⟨ob, h1, h2⟩ := hrx.obj
  exact h2 _ ((World.putObj_heap_other (fun e => hn x hx e)).trans h1)
 obtain ⟨A2, c2, e2, hb2⟩ := hX rs _ h hr2
 rw [e] at e2
 simp only [Value.slice.injEq] at e2
 obtain ⟨rfl, _, rfl⟩ := e2
 obtain ⟨g2, o2, eA2, _, hc2⟩ := hb2.2.2 hl
 rw [eA] at eA2
 simp only [Option.some.injEq, Addr.mk.injEq] at eA2
 obtain ⟨rfl, rfl, _⟩ := eA2
 have h5 := hc2 0 (b[0]) (by simp [hl])
 have h6 : (w.putObj g1 (.deferred none)).heap[g1]? = some (.deferred none) := World.putObj_heap_same hg
 simp [World.cell?, h6] at h5
theorem LU (hX : CO X B b) (hl : b.length ≤ 140737488355328) (h : ∀ w A c, B = .slice A b.length c → Pn (fun k => k ≠ g) w g A c b l f → Calls Tryz.prog F args w fun e w' => e = .returned val ∧ Pn (fun k => k ≠ g) w' g A c b l' f' ∧ Mod (Il g) w w') : AX Tryz.prog F args [G8 B b g l f, X] (fun _ : Unit => val) (fun _ => [G8 B b g l' f', X]) := fun w rs h1 h2 h3 => by
  obtain ⟨r1, r2, rfl, ⟨j, hj, hlj, rfl⟩, hx⟩ := h1
  have hx2 : X r2 := hx.one'
  have hd := Bq.1 h3
  simp only [List.cons_append, List.nil_append, List.map_cons, List.nodup_cons] at hd
  have hr2 : RowsOf w r2 := AT.2 fun x hx => AT.1 h2 x (List.mem_append_right _ hx)
  have hn : ∀ x ∈ r2, x.1 ≠ g := fun x hx e => hd.1 (e ▸ List.mem_map_of_mem hx)
  have hrow := AT.1 h2 _ (List.mem_append_left _ (List.mem_singleton.2 rfl))
  have hrow2 : Di w g 83 #[B, .int .i64 (j : Int), .int .i64 (f : Int)] := hrow
  have hg : g < w.heap.size := (Array.getElem?_eq_some_iff.1 hrow2).1
  obtain ⟨A, c, rfl, hb⟩ := MH hX hx2 hr2 hn hg
  refine (h w A c rfl ⟨j, hj, hlj, hrow2, hb, hl, fun k hk e => hk e⟩).mono ?_
  rintro e w' ⟨he, ⟨j', hj', hl', hr', _⟩, hm⟩
  refine ⟨(), he, [(g, Ez 83, #[.slice A b.length c, .int .i64 (j' : Int), .int .i64 (f' : Int)])] ++ r2, ⟨_, r2, rfl, ⟨j', hj', hl', rfl⟩, hx⟩, hm.weaken fun k _ e => ⟨_, List.mem_append_left _ (List.mem_singleton.2 rfl), e.symm⟩, AT.2 fun x hx => ?_, Bq.2 ?_, fun x hx _ => ?_⟩
  · rcases List.mem_append.1 hx with h | h
    · rw [List.mem_singleton.1 h]; exact hr'
    · obtain ⟨ob, h4, h5⟩ := (AT.1 hr2 x h).obj
      exact h5 _ ((hm.block x.1 (Array.getElem?_eq_some_iff.1 h4).1 (fun e => hn x h e)).trans h4)
  · simp only [List.cons_append, List.nil_append, List.map_cons, List.nodup_cons]
    exact hd
  · rcases List.mem_append.1 hx with h | h
    · rw [List.mem_singleton.1 h]; exact ⟨_, List.mem_append_left _ (List.mem_singleton.2 rfl), rfl⟩
    · exact ⟨x, List.mem_append_right _ h, rfl⟩
theorem O6 (hX : CO X B b) (hl : b.length ≤ 140737488355328) (most : Nat) (hm : most < 256) (R : Nat × List UInt8 × Nat) (h : Bj most l f = R) : AX Tryz.prog 41 #[.pointer (some ⟨g, 0, none⟩), .int .u8 (most : Int)] [G8 B b g l f, X] (fun _ : Unit => .int .u8 (R.1 : Int)) (fun _ => [G8 B b g R.2.1 R.2.2, X]) := by
 subst h
 exact LU hX hl fun w A c _ hr => NV w g c f most A b l hr hm
theorem KJ (hX : CO X B b) (hl : b.length ≤ 140737488355328) (most : Nat) (hm : most < 18446744073709551616) (R : Nat × List UInt8 × Nat) (h : BW most l f = R) : AX Tryz.prog 40 #[.pointer (some ⟨g, 0, none⟩), .int .u64 (most : Int)] [G8 B b g l f, X] (fun _ : Unit => .int .u64 (R.1 : Int)) (fun _ => [G8 B b g R.2.1 R.2.2, X]) := by
 subst h
 exact LU hX hl fun w A c _ hr => Ke w g c f most A b l hr hm
theorem Ny (hX : CO X B b) (hl : b.length ≤ 140737488355328) (r : Nat) (h : DP l f = r) : AX Tryz.prog 43 #[.pointer (some ⟨g, 0, none⟩)] [G8 B b g l f, X] (fun _ : Unit => .int .i64 (r : Int)) (fun _ => [G8 B b g l f, X]) := by
 subst h
 refine LU hX hl fun w A c _ hr => (Po w g c f A b l hr).mono ?_
 rintro e w' ⟨he, hb⟩
 exact ⟨he, hr.mod (Mod.of_below hb Nil) (fun h => h.elim) (fun _ _ h => h), Mod.of_below hb _⟩
end Go.Proofs.YtjcfimmcogkopaaGreat.Sep
namespace Go.Proofs.YtjcfimmcogkopaaGreat.Sep
open Go.RowKit
open Go.Proofs.YtjcfimmcogkopaaGreat.Mem (Bh Cs Chg AA)
theorem U6 {B : Value} {b : List UInt8} {g : Nat} : ∀ rs, Al [cell g 83 #[B, .int .i64 0, .int .i64 0]] rs → G8 B b g b 0 rs := fun rs h => by
 have h1 : rs = [(g, Ez 83, #[B, .int .i64 0, .int .i64 0])] := h.one'
 exact ⟨0, Nat.zero_le _, by simp, h1⟩
set_option maxRecDepth 100000 in
theorem O7 {p : Nat} {d : DiskD} {n : List UInt8} {r : Bool} (hr : (Bx d n).isSome = r) : AX Tryz.prog 36 #[.pointer (some ⟨p, 0, none⟩), .string (bs n)] [An p d] (fun (_ : Unit) => .bool r) (fun (_ : Unit) => [An p d]) := by
 refine Bg (args := [.pointer (some ⟨p, 0, none⟩), .string (bs n)]) 14 Tryz.func36 rfl rfl rfl ?_; intro w rs
 refine Ad (Ae Ag rfl (Ab (Ad (Ae Ag rfl (Aj rfl (Ak (os' := fun rv => [DY p d rv ((Bx d n).getD [])]) [0] 0 (Ai Tryz.func38 (by kernel_rfl) rfl) (J9 hr rfl) rfl rfl rfl (fun _ => rfl) rfl rfl rfl) ?_))))); rintro rv
 refine Ae Ag rfl (Ab (Bi [0] rfl FA rfl (Ad (Ae Ag rfl (Ab (Ax ?_))))))
 exact Aw (.tmp rfl) (fun w h => AH () rfl [0] rfl h CK) rfl
end Go.Proofs.YtjcfimmcogkopaaGreat.Sep
