/-
  RpcU2
-/
import Derived.Test.YtnhcbjlaeaohjaaBH03
import Derived.Test.YtnhcbjlaeaohjaaBL01
set_option linter.unusedSimpArgs false
set_option linter.unusedVariables false

namespace Go.Proofs.Ytnhcbjlaeaohjaa.Sep
open Go.RowKit
open Go.Proofs.Ytnhcbjlaeaohjaa.Mem (Dist Blk Chg below0)

/-- what is decoded is within its bounds -/
theorem decM_in {l : List UInt8} {m : MsgD} {en : Nat} (h : decM l = (m, en)) : m.ok ∧ m.es.length ≤ 4 ∧ (∀ e, e ∈ m.es → rightE e = true) ∧ m.d.length ≤ 256 := by
  have hb := decM_back l
  rw [h] at hb
  rcases hb with ⟨_, hb⟩ | ⟨_, hb, _, ho⟩
  · have hb : m = .zero := hb
    subst hb
    exact ⟨zero_ok, by decide, (fun e he => by cases he), by decide⟩
  · have N := numsD ho.i ho.lt ho.co hb
    exact ⟨ho, N.es.1, N.es.2, N.d⟩
theorem msgOk_dec {w : World} {x : MsgV} {l : List UInt8} {m : MsgD} {en : Nat} (h : decM l = (m, en)) (hm : x.m = m) (he : x.m.es = x.es.map (·.e)) (hr : EntsRd w x.ev x.es) (hd : Sl8 w x.dv x.m.d) : MsgOk w x := by
  obtain ⟨h1, h2, h3, h4⟩ := decM_in h
  rw [← hm] at h1 h2 h3 h4
  have hln : x.es.length ≤ 4 := by have := h2; rw [he, List.length_map] at this; exact this
  refine ⟨h1, he, hr, by omega, fun y hy => ?_, hd, by omega⟩
  have hy2 := h3 y.e (by rw [he]; exact List.mem_map_of_mem hy)
  have h5 := (rightE_iff hy2).2.2
  refine ⟨rightE_ok hy2, hr.2 y hy, ?_⟩
  rcases h5 with ⟨_, h, _⟩ | ⟨_, _, h, _⟩ | ⟨_, h, _⟩
  · rw [h]; simp
  · omega
  · rw [h]; simp
end Go.Proofs.Ytnhcbjlaeaohjaa.Sep
