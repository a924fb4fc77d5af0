/-
  RrX · HdR
-/
import Derived.Test.YtjcfimmcogkopaaGreatYA08
import Derived.Test.YtjcfimmcogkopaaGreatYB03
import Derived.Test.YtjcfimmcogkopaaGreatYH01
import Derived.Test.YtjcfimmcogkopaaGreatYI01
import Derived.Test.YtjcfimmcogkopaaGreatYK01
import Derived.Test.YtjcfimmcogkopaaGreatYN01
import Derived.Test.YtjcfimmcogkopaaGreatYP02
import Derived.Test.YtjcfimmcogkopaaGreatYR01
set_option linter.unusedSimpArgs false
set_option linter.unusedVariables false
namespace Go.Proofs.YtjcfimmcogkopaaGreat.Sep
open Go.RowKit
open Go.Proofs.YtjcfimmcogkopaaGreat.Mem (AZ Ci Chg Au)
variable {X : Ass} {v B : Value} {b l l' : List UInt8} {g f f' : Nat} {F : FuncId} {args : Array Value} {val : Value}
theorem L9 (hX : Cu X v b) {rs : List RowT} (h : X rs) {w : World} (hr : RowsOf w rs) (hn : ∀ x ∈ rs, x.1 ≠ g) (hg : g < w.heap.size) : ∃ A c, v = .slice A b.length c ∧ Bs (fun k => k ≠ g) w A c b := by
 obtain ⟨A, c, e, hb⟩ := hX rs w h hr
 refine ⟨A, c, e, hb.1, hb.2.1, fun hl => ?_⟩
 obtain ⟨g1, o, eA, _, hc⟩ := hb.2.2 hl
 refine ⟨g1, o, eA, fun eg => ?_, hc⟩
 subst eg
 have hr2 : RowsOf (w.putObj g1 (.deferred none)) rs := hr.map_ fun x hx hrx => by
  obtain ⟨ob, h1, h2⟩ := hrx.obj
  exact h2 _ ((World.putObj_heap_other (fun e => hn x hx e)).trans h1)
 obtain ⟨A2, c2, e2, hb2⟩ := hX rs _ h hr2
 rw [e] at e2
 simp only [Value.slice.injEq] at e2
 obtain ⟨rfl, _, rfl⟩ := e2
 obtain ⟨g2, o2, eA2, _, hc2⟩ := hb2.2.2 hl
 rw [eA] at eA2
 simp only [Option.some.injEq, Addr.mk.injEq] at eA2
 obtain ⟨rfl, rfl, _⟩ := eA2
 have h5 := hc2 0 (b[0]) (by simp [hl])
 have h6 : (w.putObj g1 (.deferred none)).heap[g1]? = some (.deferred none) := World.putObj_heap_same hg
 simp [World.cell?, h6] at h5
theorem Lh (hX : Cu X B b) (hl : b.length ≤ 140737488355328) (h : ∀ w A c, B = .slice A b.length c → OW (fun k => k ≠ g) w g A c b l f → Calls Tryz.prog F args w fun e w' => e = .returned val ∧ OW (fun k => k ≠ g) w' g A c b l' f' ∧ Mod (Hq g) w w') : AW Tryz.prog F args [Gw B b g l f, X] (fun _ : Unit => val) (fun _ => [Gw B b g l' f', X]) := fun w rs h1 h2 h3 => by
  obtain ⟨r1, r2, rfl, ⟨j, hj, hlj, rfl⟩, hx⟩ := h1
  have hx2 : X r2 := hx.one'
  have hd := Bf.1 h3
  simp only [List.cons_append, List.nil_append, List.map_cons, List.nodup_cons] at hd
  have hr2 : RowsOf w r2 := AN.2 fun x hx => AN.1 h2 x (List.mem_append_right _ hx)
  have hn : ∀ x ∈ r2, x.1 ≠ g := fun x hx e => hd.1 (e ▸ List.mem_map_of_mem hx)
  have hrow := AN.1 h2 _ (List.mem_append_left _ (List.mem_singleton.2 rfl))
  have hrow2 : CY w g 83 #[B, .int .i64 (j : Int), .int .i64 (f : Int)] := hrow
  have hg : g < w.heap.size := (Array.getElem?_eq_some_iff.1 hrow2).1
  obtain ⟨A, c, rfl, hb⟩ := L9 hX hx2 hr2 hn hg
  refine (h w A c rfl ⟨j, hj, hlj, hrow2, hb, hl, fun k hk e => hk e⟩).mono ?_
  rintro e w' ⟨he, ⟨j', hj', hl', hr', _⟩, hm⟩
  refine ⟨(), he, [(g, Ed 83, #[.slice A b.length c, .int .i64 (j' : Int), .int .i64 (f' : Int)])] ++ r2, ⟨_, r2, rfl, ⟨j', hj', hl', rfl⟩, hx⟩, hm.weaken fun k _ e => ⟨_, List.mem_append_left _ (List.mem_singleton.2 rfl), e.symm⟩, AN.2 fun x hx => ?_, Bf.2 ?_, fun x hx _ => ?_⟩
  · rcases List.mem_append.1 hx with h | h
    · rw [List.mem_singleton.1 h]; exact hr'
    · obtain ⟨ob, h4, h5⟩ := (AN.1 hr2 x h).obj
      exact h5 _ ((hm.block x.1 (Array.getElem?_eq_some_iff.1 h4).1 (fun e => hn x h e)).trans h4)
  · simp only [List.cons_append, List.nil_append, List.map_cons, List.nodup_cons]
    exact hd
  · rcases List.mem_append.1 hx with h | h
    · rw [List.mem_singleton.1 h]; exact ⟨_, List.mem_append_left _ (List.mem_singleton.2 rfl), rfl⟩
    · exact ⟨x, List.mem_append_right _ h, rfl⟩
theorem OG (hX : Cu X B b) (hl : b.length ≤ 140737488355328) (most : Nat) (hm : most < 256) (R : Nat × List UInt8 × Nat) (h : Ba most l f = R) : AW Tryz.prog 41 #[.pointer (some ⟨g, 0, none⟩), .int .u8 (most : Int)] [Gw B b g l f, X] (fun _ : Unit => .int .u8 (R.1 : Int)) (fun _ => [Gw B b g R.2.1 R.2.2, X]) := by
 subst h
 exact Lh hX hl fun w A c _ hr => Nx w g c f most A b l hr hm
theorem Ka (hX : Cu X B b) (hl : b.length ≤ 140737488355328) (most : Nat) (hm : most < 18446744073709551616) (R : Nat × List UInt8 × Nat) (h : BL most l f = R) : AW Tryz.prog 40 #[.pointer (some ⟨g, 0, none⟩), .int .u64 (most : Int)] [Gw B b g l f, X] (fun _ : Unit => .int .u64 (R.1 : Int)) (fun _ => [Gw B b g R.2.1 R.2.2, X]) := by
 subst h
 exact Lh hX hl fun w A c _ hr => JF w g c f most A b l hr hm
theorem M5 (hX : Cu X B b) (hl : b.length ≤ 140737488355328) (r : Nat) (h : Dy l f = r) : AW Tryz.prog 43 #[.pointer (some ⟨g, 0, none⟩)] [Gw B b g l f, X] (fun _ : Unit => .int .i64 (r : Int)) (fun _ => [Gw B b g l f, X]) := by
 subst h
 refine Lh hX hl fun w A c _ hr => (OX w g c f A b l hr).mono ?_
 rintro e w' ⟨he, hb⟩
 exact ⟨he, hr.mod (Mod.of_below hb Nil) (fun h => h.elim) (fun _ _ h => h), Mod.of_below hb _⟩
end Go.Proofs.YtjcfimmcogkopaaGreat.Sep
namespace Go.Proofs.YtjcfimmcogkopaaGreat.Sep
open Go.RowKit
open Go.Proofs.YtjcfimmcogkopaaGreat.Mem (AZ Ci Chg Au)
theorem Uk {B : Value} {b : List UInt8} {g : Nat} : ∀ rs, Ak [cell g 83 #[B, .int .i64 0, .int .i64 0]] rs → Gw B b g b 0 rs := fun rs h => by
 have h1 : rs = [(g, Ed 83, #[B, .int .i64 0, .int .i64 0])] := h.one'
 exact ⟨0, Nat.zero_le _, by simp, h1⟩
set_option maxRecDepth 100000 in
theorem Ul {p : Nat} {d : DiskD} {n : List UInt8} {r : Bool} (hr : (Bo d n).isSome = r) : AW Tryz.prog 36 #[.pointer (some ⟨p, 0, none⟩), .string (bs n)] [AB p d] (fun (_ : Unit) => .bool r) (fun (_ : Unit) => [AB p d]) := by
 refine Be (args := [.pointer (some ⟨p, 0, none⟩), .string (bs n)]) 14 Tryz.func36 rfl rfl rfl ?_; intro w rs
 refine Ad (Af Ah rfl (Ab (Ad (Af Ah rfl (Aj rfl (Am (os' := fun rv => [DG p d rv ((Bo d n).getD [])]) [0] 0 (Ag Tryz.func38 (by kernel_rfl) rfl) (JA hr rfl) rfl rfl rfl (fun _ => rfl) rfl rfl rfl) ?_))))); rintro rv
 refine Af Ah rfl (Ab (Bk [0] rfl E3 rfl (Ad (Af Ah rfl (Ab (Av ?_))))))
 exact As (.tmp rfl) (fun w h => AG () rfl [0] rfl h CV) rfl
end Go.Proofs.YtjcfimmcogkopaaGreat.Sep
