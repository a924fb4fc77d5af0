/-
  The reference's Reader: Text.
-/
import Derived.Test.YtefggpcfijcneaaRefRead
import Derived.Deep.RegionHeld3
namespace Go.Proofs.Ytefggpcfijcneaa
open Go.RowKit

theorem op_append_bs {P : Program} {t e : TypeId} {base c : Nat} {v : Value} {l m : List UInt8} {S : Nat → Prop} {A : Option Addr} {w : World} {o : Oper} {a : Act} {K : Act → World → Prop} {Q : Exit → Act → World → Prop}
    (hu : U8 P t e) (s x : Operand) (ho : o.op = .call { callee := .builtin .append, args := #[s, x], argTypes := #[t, t] })
    (hown : Own e w base v l) (hb : base ≤ w.heap.size) (hr : Bs S w A c m) (n : Nat) (hn : n = l.length + m.length) (hs : a.eval s = v) (hx : a.eval x = .slice A m.length c) (hlen : n ≤ 140737488355328)
    (h : ∀ A' c' w', Own e w' base (.slice A' n c') (l ++ m) → Mod (At v) w w' → (∀ k, At (.slice A' n c') k → At v k ∨ k = w.heap.size) → K (a.put o.dst (.slice A' n c')) w') : Oper.wp P o a w K Q := by
  obtain ⟨v', w', hrun, h2, h3, h4⟩ := run_append_bs (P := P) (ty := o.type) hu hown hb hr (by omega)
  obtain ⟨A', c', rfl, _⟩ := h2.form
  rw [List.length_append, ← hn] at h2 hrun h4
  unfold Oper.wp execOp
  simp only [ho, resolve, invoke, builtin, Sem.run_bind, Sem.run_pure, Result.andThen_ok, List.map_toArray, List.map_cons, List.map_nil, hs, hx, hrun]
  exact h A' c' w' h2 h3 h4

set_option maxRecDepth 100000 in
set_option maxHeartbeats 4000000 in
theorem refRText_any {S : Nat → Prop} (w : World) (p c f : Nat) (most : Int) (A : Option Addr) (b l : List UInt8) (h : RRd S w p A c b l f) (hm1 : -9223372036854775808 ≤ most) (hm : most ≤ 9223372036854775807) :
    Calls Try.prog 41 #[.pointer (some ⟨p, 0, none⟩), .int .i64 most] w fun e w' =>
      ∃ v', e = .returned v' ∧ Own 5 w' w.heap.size v' (rtext most l f).1 ∧ RRd S w' p A c b (rtext most l f).2.1 (rtext most l f).2.2 ∧ Mod (One p) w w' := by
  have h' := h
  obtain ⟨j, hj, rfl, hr, hs, hl, hne⟩ := h
  have h0 := hr.cell 0
  have h1 := hr.cell 1
  have h2 := hr.cell 2
  simp at h0 h1 h2
  by_cases hf : f = 0
  · subst hf
    have hC := refRNum_any w p c 0 most.toNat A b (b.drop j) h' (by omega)
    have hn : rnum most.toNat (b.drop j) 0 = ((vnum most.toNat (b.drop j) 0 0).1, (b.drop j).drop (vnum most.toNat (b.drop j) 0 0).2.1, (vnum most.toNat (b.drop j) 0 0).2.2) := by unfold rnum; rw [if_neg (by simp)]
    rw [hn] at hC
    have hcv : IntKind.u64.wrap (max most 0) = (most.toNat : Int) := by rw [IntKind.wrap_u64]; omega
    have hends := vnum_ends most.toNat (b.drop j) 0 0 (by omega) (by decide)
    have hE : rtext most (b.drop j) 0 = if (vnum most.toNat (b.drop j) 0 0).2.2 ≠ 0 then ([], b.drop j, (vnum most.toNat (b.drop j) 0 0).2.2)
      else if (b.drop j).length - (vnum most.toNat (b.drop j) 0 0).2.1 < (vnum most.toNat (b.drop j) 0 0).1 then ([], b.drop j, 10)
      else (((b.drop j).drop (vnum most.toNat (b.drop j) 0 0).2.1).take (vnum most.toNat (b.drop j) 0 0).1, (b.drop j).drop ((vnum most.toNat (b.drop j) 0 0).2.1 + (vnum most.toNat (b.drop j) 0 0).1), 0) := by unfold rtext; rw [if_neg (by simp)]
    obtain ⟨⟨n, s, e2⟩, hx⟩ : ∃ x, vnum most.toNat (b.drop j) 0 0 = x := ⟨_, rfl⟩
    rw [hx] at hC hE hends
    simp only at hC hE hends
    have hC' : ∀ x : Int, x = (most.toNat : Int) → Calls Try.prog 40 #[.pointer (some ⟨p, 0, none⟩), .int .u64 x] w fun e w' =>
      e = .returned (.int .u64 (n : Int)) ∧ RRd S w' p A c b ((b.drop j).drop s) e2 ∧ Mod (One p) w w' := fun x hx => by rw [hx]; exact hC
    have HC := hid hC'
    have HE := hid hE
    clear hC hC' hx hn hE h'
    by_cases he2 : e2 = 0
    · subst he2
      have hs0 : 0 < s ∧ s ≤ (b.drop j).length ∧ n ≤ most.toNat := by omega
      clear hends
      have HS := hid hs0
      clear hs0
      have hn63 : n ≤ 9223372036854775807 := by have := HS.out; omega
      go_enter Try.func41, Try.ntmps41
      go_wp2_with (go_at_call 40; refine Calls.mono (HC.out _ (by omega)) ?_; rintro e w1 ⟨rfl, ⟨j1, hj1, hl1, hr1, hs1, _, _⟩, hm1⟩; have k0 := hr1.cell 0; have k1 := hr1.cell 1; have k2 := hr1.cell 2; have g1 := hr1.frozen 1; simp at k0 k1 k2)
      all_goals
        have hd1 : (b.drop j).length - s = b.length - j1 := by rw [← List.length_drop, hl1, List.length_drop]
        have HD1 := hid hd1
        have HL1 := hid hl1
        clear hd1 hl1
        by_cases hlt : b.length - j1 < n
        · have hlt' : (b.length : Int) - j1 < n := by omega
          go_quiet (fail)
          go_wp2_with (go_at_call 44; refine (refWrong_any _ p _ _ _ _ _ (hr1.mod ((Mod.refl Nil w1).drewN _) (fun hf => hf))).mono ?_; rintro e w2 ⟨rfl, hr2, hm2⟩)
          go_ret
          rw [HE.out, if_neg (by simp), HD1.out, if_pos hlt]
          have hm3 := (hm1.drewN _).same hm2
          exact ⟨_, rfl, Own.nil _ _ _, ⟨j, hj, rfl, hr2, hs.mod hm3 hne, hl, hne⟩, hm3⟩
        · have hlt' : (n : Int) ≤ (b.length : Int) - j1 := by omega
          obtain ⟨A2, hs2, hsl0⟩ := run_cut tyU8 hs1 j1 (j1 + n) (by omega) (by omega)
          have e1 : (b.take (j1 + n)).drop j1 = (b.drop j1).take n := by rw [List.drop_take]; congr 1; omega
          have e2 : ((b.drop j1).take n).length = n := by rw [List.length_take, List.length_drop]; omega
          rw [e1] at hsl0 hs2
          obtain ⟨T, hT⟩ : ∃ T, T = (b.drop j1).take n := ⟨_, rfl⟩
          rw [← hT] at hsl0 hs2 e2
          simp only [Int.natCast_add] at hsl0
          have HT := hid hT
          have H2 := hid e2
          have hTl : T.length ≤ 140737488355328 := by omega
          clear e1 e2 hT
          have own0 : ∀ W : World, Own 5 (W.alloc (.cells #[] 5)) W.heap.size (.slice (some ⟨W.heap.size, 0, none⟩) 0 0) [] := fun W => World.ownsRow_made W #[] 0 (Nat.le_refl _) (by simp [maxLen]) rfl
          have src : ∀ W, Mod Nil w1 W → Bs S W A2 (c - j1) T := fun W hW => hs2.mod hW (fun _ _ hf => hf)
          have mk : ∀ W, Mod Nil w1 W → W.cell? ⟨p, 0, none⟩ = some (.slice A b.length c) ∧ W.cell? ⟨p, 1, none⟩ = some (.int .i64 (j1 : Int)) := fun W hW => by
            have hr2 := hr1.mod hW (fun hf => hf)
            have q0 := hr2.cell 0
            have q1 := hr2.cell 1
            simp at q0 q1
            exact ⟨q0, q1⟩
          have MK := hid mk
          have hwn : IntKind.i64.wrap (n : Int) = n := by rw [IntKind.wrap_i64]; omega
          have hwj : IntKind.i64.wrap ((j1 : Int) + n) = j1 + n := by rw [IntKind.wrap_i64]; omega
          clear mk hs2
          go_quiet (fail)
          go_wp2_with fail
          go_region_held3 (fun W => W.cell? ⟨p, 0, none⟩ = some (.slice A b.length c) ∧ W.cell? ⟨p, 1, none⟩ = some (.int .i64 (j1 : Int)))
            (first
              | exact MK.out _ (((Mod.refl Nil w1).drewN _).drew)
              | exact MK.out _ ((((Mod.refl Nil w1).drewN _).drew).alloc _)
              | exact MK.out _ hM5)
            (first | (rw [if_pos (by rfl)]; refine op_append_bs (t := 24) tyU8 (.tmp 43) (.tmp 59) rfl (own0 _) (by simp) (src _ ((((Mod.refl Nil w1).drewN _).drew).alloc _)) T.length (by simp) rfl rfl (by omega) ?_; intro A5 c5 w5 ho5 hm5 ha5; have hM5 : Mod Nil w1 w5 := ((((Mod.refl Nil w1).drewN _).drew).alloc _).trans hm5 (fun i hi hk => by rw [At.iff] at hk; have hk' : i = w1.heap.size := hk; omega)))
          have hr5 := hr1.mod hM5 (fun hf => hf)
          have q0 := hr5.cell 0
          have q1 := hr5.cell 1
          have fz := hr5.frozen 1
          simp at q0 q1
          go_wp2_with fail
          go_ret
          have e3 : T = ((b.drop j).drop s).take n := by rw [HL1.out]; exact HT.out
          have e4 : (b.drop j).drop (s + n) = b.drop (j1 + n) := by rw [← List.drop_drop, HL1.out, List.drop_drop]
          rw [HE.out, if_neg (by simp), HD1.out, if_neg hlt, ← e3, e4]
          rw [List.nil_append] at ho5
          have hp1 := hr1.lt
          have hsz := hm1.size
          have ho6 : Own 5 w5 w.heap.size (.slice A5 T.length c5) T := ho5.rebase (fun k hk => Nat.le_trans hsz (ho5.lt k hk).1)
          have hall : Mod (One p) w (w5.setCell ⟨p, 1, none⟩ (.int .i64 ((j1 : Int) + n))) := (hm1.trans hM5 (fun _ _ hf => hf.elim)).same (Mod.one _ _ _ _)
          refine ⟨_, rfl, ho6.mod (Mod.one _ p 1 _) (fun k hk e => ?_), ⟨j1 + n, by omega, rfl, ?_, hs.mod hall hne, hl, hne⟩, hall⟩
          · have h5 : w1.heap.size ≤ k := (ho5.lt k hk).1
            unfold One at e
            omega
          · exact hr5.set 1 _
    · have HS := hid (show s = 0 by omega)
      clear hends
      go_enter Try.func41, Try.ntmps41
      go_wp2_with (go_at_call 40; refine Calls.mono (HC.out _ (by omega)) ?_; rintro e w1 ⟨rfl, ⟨j1, hj1, hl1, hr1, hs1, _, _⟩, hm1⟩; have k0 := hr1.cell 0; have k1 := hr1.cell 1; have k2 := hr1.cell 2; have g1 := hr1.frozen 1; simp at k0 k1 k2)
      all_goals
        go_ret
        rw [HE.out, if_pos he2]
        rw [HS.out, List.drop_zero] at hl1
        exact ⟨_, rfl, Own.nil _ _ _, ⟨j1, hj1, hl1, hr1, hs1, hl, hne⟩, hm1⟩
  · have hE : rtext most (b.drop j) f = ([], b.drop j, f) := by unfold rtext; rw [if_pos hf]
    have HE := hid hE
    clear hE
    go_enter Try.func41, Try.ntmps41
    go_wp2
    go_ret
    rw [HE.out]
    exact ⟨_, rfl, Own.nil _ _ _, ⟨j, hj, rfl, hr, hs, hl, hne⟩, Mod.refl _ _⟩
end Go.Proofs.Ytefggpcfijcneaa
