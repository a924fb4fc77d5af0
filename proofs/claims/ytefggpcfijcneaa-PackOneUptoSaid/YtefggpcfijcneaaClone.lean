/-
  bytes.Clone: new bytes that read as those that were handed in.
-/
import Derived.Test.YtefggpcfijcneaaWords
import Derived.Test.YtefggpcfijcneaaRows
namespace Go.Proofs.Ytefggpcfijcneaa
open Go.RowKit

theorem tyU8 : U8 Try.prog 24 5 := ⟨Try.underlying24, Try.underlying5, by kernel_rfl⟩

theorem clone_any {S : Nat → Prop} (w : World) (A : Option Addr) (c : Nat) (l : List UInt8) (h : Bs S w A c l) (hl : l.length ≤ 140737488355328) :
    Calls Try.prog 37 #[.slice A l.length c] w fun e w' => ∃ v', e = .returned v' ∧ Own 5 w' w.heap.size v' l ∧ Below w.heap.size w w' := by
  have q : ∀ (W : World) (a : Option Addr) (n c : Nat), (binOp .eql 24 (.slice a n c) (.slice none 0 0)).run Try.prog W = .ok (.bool a.isNone) W :=
    fun W a n c => Lib.run_eql_slice_nil W _ _ a n c 0 0 Try.underlying24
  cases A with
  | none =>
    have hm : l = [] := h.of_none
    subst hm
    go_enter Try.func37, Try.ntmps37
    go_wp2
    go_ret
    exact ⟨_, rfl, Own.nil _ _ _, Below.refl _ _⟩
  | some a =>
    go_enter Try.func37, Try.ntmps37
    have own0 : Own 5 (w.alloc (.cells #[] 5)) w.heap.size (.slice (some ⟨w.heap.size, 0, none⟩) 0 0) [] := World.ownsRow_made w #[] 0 (Nat.le_refl _) (by simp [maxLen]) rfl
    have src : Bs (fun k => S k ∧ k < w.heap.size) (w.alloc (.cells #[] 5)) (some a) c l := (h.cut_old).mod ((Mod.refl Nil w).alloc _) (fun _ _ hf => hf)
    go_wp2_with (at_builtin; refine wpList_append_bs (t := 24) tyU8 rfl (.tmp 5) (.tmp 6) rfl own0 (by simp) src l.length (by simp) rfl rfl hl ?_; intro A' c' w' ho hm ha)
    go_ret
    refine ⟨_, rfl, by simpa using ho, ?_⟩
    exact ((Mod.refl Nil w).alloc _ |>.trans hm (fun i hi e => by rw [At.iff] at e; omega)).below (Nat.le_refl _) (fun _ hf => hf.elim)
end Go.Proofs.Ytefggpcfijcneaa
