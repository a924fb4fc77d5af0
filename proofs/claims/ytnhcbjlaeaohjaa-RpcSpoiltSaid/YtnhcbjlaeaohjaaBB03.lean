/-
  RefText · Reader · Mk · RpcM · RpcN
-/
import Derived.Test.YtnhcbjlaeaohjaaBA08
import Derived.Test.YtnhcbjlaeaohjaaBB01
import Derived.Test.YtnhcbjlaeaohjaaBB02
import Derived.Deep.RegionHeld3
set_option linter.unusedSimpArgs false
set_option linter.unusedVariables false

namespace Go.Proofs.Ytnhcbjlaeaohjaa
open Go.RowKit

theorem op_append_bs {P : Program} {t e : TypeId} {base c : Nat} {v : Value} {l m : List UInt8} {S : Nat → Prop} {A : Option Addr} {w : World} {o : Oper} {a : Act} {K : Act → World → Prop} {Q : Exit → Act → World → Prop}
    (hu : U8 P t e) (s x : Operand) (ho : o.op = .call { callee := .builtin .append, args := #[s, x], argTypes := #[t, t] })
    (hown : Own e w base v l) (hb : base ≤ w.heap.size) (hr : Bs S w A c m) (n : Nat) (hn : n = l.length + m.length) (hs : a.eval s = v) (hx : a.eval x = .slice A m.length c) (hlen : n ≤ 140737488355328)
    (h : ∀ A' c' w', Own e w' base (.slice A' n c') (l ++ m) → Mod (At v) w w' → (∀ k, At (.slice A' n c') k → At v k ∨ k = w.heap.size) → K (a.put o.dst (.slice A' n c')) w') : Oper.wp P o a w K Q := by
  obtain ⟨v', w', hrun, h2, h3, h4⟩ := run_append_bs (P := P) (ty := o.type) hu hown hb hr (by omega)
  obtain ⟨A', c', rfl, _⟩ := h2.form
  rw [List.length_append, ← hn] at h2 hrun h4
  unfold Oper.wp execOp
  simp only [ho, resolve, invoke, builtin, Sem.run_bind, Sem.run_pure, Result.andThen_ok, List.map_toArray, List.map_cons, List.map_nil, hs, hx, hrun]
  exact h A' c' w' h2 h3 h4

set_option maxRecDepth 100000 in
set_option maxHeartbeats 4000000 in
theorem refRText_any {S : Nat → Prop} (w : World) (p c f : Nat) (most : Int) (A : Option Addr) (b l : List UInt8) (h : RRd S w p A c b l f) (hm1 : -9223372036854775808 ≤ most) (hm : most ≤ 9223372036854775807) :
    Calls Try.prog 64 #[.pointer (some ⟨p, 0, none⟩), .int .i64 most] w fun e w' =>
      ∃ v', e = .returned v' ∧ Own 5 w' w.heap.size v' (rtext most l f).1 ∧ RRd S w' p A c b (rtext most l f).2.1 (rtext most l f).2.2 ∧ Mod (One p) w w' := by
  have h' := h
  obtain ⟨j, hj, rfl, hr, hs, hl, hne⟩ := h
  have h0 := hr.cell 0
  have h1 := hr.cell 1
  have h2 := hr.cell 2
  simp at h0 h1 h2
  by_cases hf : f = 0
  · subst hf
    have hC := refRNum_any w p c 0 most.toNat A b (b.drop j) h' (by omega)
    have hn : rnum most.toNat (b.drop j) 0 = ((vnum most.toNat (b.drop j) 0 0).1, (b.drop j).drop (vnum most.toNat (b.drop j) 0 0).2.1, (vnum most.toNat (b.drop j) 0 0).2.2) := by unfold rnum; rw [if_neg (by simp)]
    rw [hn] at hC
    have hcv : IntKind.u64.wrap (max most 0) = (most.toNat : Int) := by rw [IntKind.wrap_u64]; omega
    have hends := vnum_ends most.toNat (b.drop j) 0 0 (by omega) (by decide)
    have hE : rtext most (b.drop j) 0 = if (vnum most.toNat (b.drop j) 0 0).2.2 ≠ 0 then ([], b.drop j, (vnum most.toNat (b.drop j) 0 0).2.2)
      else if (b.drop j).length - (vnum most.toNat (b.drop j) 0 0).2.1 < (vnum most.toNat (b.drop j) 0 0).1 then ([], b.drop j, 10)
      else (((b.drop j).drop (vnum most.toNat (b.drop j) 0 0).2.1).take (vnum most.toNat (b.drop j) 0 0).1, (b.drop j).drop ((vnum most.toNat (b.drop j) 0 0).2.1 + (vnum most.toNat (b.drop j) 0 0).1), 0) := by unfold rtext; rw [if_neg (by simp)]
    obtain ⟨⟨n, s, e2⟩, hx⟩ : ∃ x, vnum most.toNat (b.drop j) 0 0 = x := ⟨_, rfl⟩
    rw [hx] at hC hE hends
    simp only at hC hE hends
    have hC' : ∀ x : Int, x = (most.toNat : Int) → Calls Try.prog 63 #[.pointer (some ⟨p, 0, none⟩), .int .u64 x] w fun e w' =>
      e = .returned (.int .u64 (n : Int)) ∧ RRd S w' p A c b ((b.drop j).drop s) e2 ∧ Mod (One p) w w' := fun x hx => by rw [hx]; exact hC
    have HC := hid hC'
    have HE := hid hE
    clear hC hC' hx hn hE h'
    by_cases he2 : e2 = 0
    · subst he2
      have hs0 : 0 < s ∧ s ≤ (b.drop j).length ∧ n ≤ most.toNat := by omega
      clear hends
      have HS := hid hs0
      clear hs0
      have hn63 : n ≤ 9223372036854775807 := by have := HS.out; omega
      go_enter Try.func64, Try.ntmps64
      go_wp2_with (go_at_call 63; refine Calls.mono (HC.out _ (by omega)) ?_; rintro e w1 ⟨rfl, ⟨j1, hj1, hl1, hr1, hs1, _, _⟩, hm1⟩; have k0 := hr1.cell 0; have k1 := hr1.cell 1; have k2 := hr1.cell 2; have g1 := hr1.frozen 1; simp at k0 k1 k2)
      all_goals
        have hd1 : (b.drop j).length - s = b.length - j1 := by rw [← List.length_drop, hl1, List.length_drop]
        have HD1 := hid hd1
        have HL1 := hid hl1
        clear hd1 hl1
        by_cases hlt : b.length - j1 < n
        · have hlt' : (b.length : Int) - j1 < n := by omega
          go_quiet (fail)
          go_wp2_with (go_at_call 85; refine (refWrong_any _ p _ _ _ _ _ (hr1.mod ((Mod.refl Nil w1).drewN _) (fun hf => hf))).mono ?_; rintro e w2 ⟨rfl, hr2, hm2⟩)
          go_ret
          rw [HE.out, if_neg (by simp), HD1.out, if_pos hlt]
          have hm3 := (hm1.drewN _).same hm2
          exact ⟨_, rfl, Own.nil _ _ _, ⟨j, hj, rfl, hr2, hs.mod hm3 hne, hl, hne⟩, hm3⟩
        · have hlt' : (n : Int) ≤ (b.length : Int) - j1 := by omega
          obtain ⟨A2, hs2, hsl0⟩ := run_cut tyU8 hs1 j1 (j1 + n) (by omega) (by omega)
          have e1 : (b.take (j1 + n)).drop j1 = (b.drop j1).take n := by rw [List.drop_take]; congr 1; omega
          have e2 : ((b.drop j1).take n).length = n := by rw [List.length_take, List.length_drop]; omega
          rw [e1] at hsl0 hs2
          obtain ⟨T, hT⟩ : ∃ T, T = (b.drop j1).take n := ⟨_, rfl⟩
          rw [← hT] at hsl0 hs2 e2
          simp only [Int.natCast_add] at hsl0
          have HT := hid hT
          have H2 := hid e2
          have hTl : T.length ≤ 140737488355328 := by omega
          clear e1 e2 hT
          have own0 : ∀ W : World, Own 5 (W.alloc (.cells #[] 5)) W.heap.size (.slice (some ⟨W.heap.size, 0, none⟩) 0 0) [] := fun W => World.ownsRow_made W #[] 0 (Nat.le_refl _) (by simp [maxLen]) rfl
          have src : ∀ W, Mod Nil w1 W → Bs S W A2 (c - j1) T := fun W hW => hs2.mod hW (fun _ _ hf => hf)
          have mk : ∀ W, Mod Nil w1 W → W.cell? ⟨p, 0, none⟩ = some (.slice A b.length c) ∧ W.cell? ⟨p, 1, none⟩ = some (.int .i64 (j1 : Int)) := fun W hW => by
            have hr2 := hr1.mod hW (fun hf => hf)
            have q0 := hr2.cell 0
            have q1 := hr2.cell 1
            simp at q0 q1
            exact ⟨q0, q1⟩
          have MK := hid mk
          have hwn : IntKind.i64.wrap (n : Int) = n := by rw [IntKind.wrap_i64]; omega
          have hwj : IntKind.i64.wrap ((j1 : Int) + n) = j1 + n := by rw [IntKind.wrap_i64]; omega
          clear mk hs2
          go_quiet (fail)
          go_wp2_with fail
          go_region_held3 (fun W => W.cell? ⟨p, 0, none⟩ = some (.slice A b.length c) ∧ W.cell? ⟨p, 1, none⟩ = some (.int .i64 (j1 : Int)))
            (first
              | exact MK.out _ (((Mod.refl Nil w1).drewN _).drew)
              | exact MK.out _ ((((Mod.refl Nil w1).drewN _).drew).alloc _)
              | exact MK.out _ hM5)
            (first | (rw [if_pos (by rfl)]; refine op_append_bs (t := 26) tyU8 (.tmp 43) (.tmp 59) rfl (own0 _) (by simp) (src _ ((((Mod.refl Nil w1).drewN _).drew).alloc _)) T.length (by simp) rfl rfl (by omega) ?_; intro A5 c5 w5 ho5 hm5 ha5; have hM5 : Mod Nil w1 w5 := ((((Mod.refl Nil w1).drewN _).drew).alloc _).trans hm5 (fun i hi hk => by rw [At.iff] at hk; have hk' : i = w1.heap.size := hk; omega)))
          have hr5 := hr1.mod hM5 (fun hf => hf)
          have q0 := hr5.cell 0
          have q1 := hr5.cell 1
          have fz := hr5.frozen 1
          simp at q0 q1
          go_wp2_with fail
          go_ret
          have e3 : T = ((b.drop j).drop s).take n := by rw [HL1.out]; exact HT.out
          have e4 : (b.drop j).drop (s + n) = b.drop (j1 + n) := by rw [← List.drop_drop, HL1.out, List.drop_drop]
          rw [HE.out, if_neg (by simp), HD1.out, if_neg hlt, ← e3, e4]
          rw [List.nil_append] at ho5
          have hp1 := hr1.lt
          have hsz := hm1.size
          have ho6 : Own 5 w5 w.heap.size (.slice A5 T.length c5) T := ho5.rebase (fun k hk => Nat.le_trans hsz (ho5.lt k hk).1)
          have hall : Mod (One p) w (w5.setCell ⟨p, 1, none⟩ (.int .i64 ((j1 : Int) + n))) := (hm1.trans hM5 (fun _ _ hf => hf.elim)).same (Mod.one _ _ _ _)
          refine ⟨_, rfl, ho6.mod (Mod.one _ p 1 _) (fun k hk e => ?_), ⟨j1 + n, by omega, rfl, ?_, hs.mod hall hne, hl, hne⟩, hall⟩
          · have h5 : w1.heap.size ≤ k := (ho5.lt k hk).1
            unfold One at e
            omega
          · exact hr5.set 1 _
    · have HS := hid (show s = 0 by omega)
      clear hends
      go_enter Try.func64, Try.ntmps64
      go_wp2_with (go_at_call 63; refine Calls.mono (HC.out _ (by omega)) ?_; rintro e w1 ⟨rfl, ⟨j1, hj1, hl1, hr1, hs1, _, _⟩, hm1⟩; have k0 := hr1.cell 0; have k1 := hr1.cell 1; have k2 := hr1.cell 2; have g1 := hr1.frozen 1; simp at k0 k1 k2)
      all_goals
        go_ret
        rw [HE.out, if_pos he2]
        rw [HS.out, List.drop_zero] at hl1
        exact ⟨_, rfl, Own.nil _ _ _, ⟨j1, hj1, hl1, hr1, hs1, hl, hne⟩, hm1⟩
  · have hE : rtext most (b.drop j) f = ([], b.drop j, f) := by unfold rtext; rw [if_pos hf]
    have HE := hid hE
    clear hE
    go_enter Try.func64, Try.ntmps64
    go_wp2
    go_ret
    rw [HE.out]
    exact ⟨_, rfl, Own.nil _ _ _, ⟨j, hj, rfl, hr, hs, hl, hne⟩, Mod.refl _ _⟩
end Go.Proofs.Ytnhcbjlaeaohjaa

namespace Go.Proofs.Ytnhcbjlaeaohjaa
open Go.RowKit

/-- At block p lies a Reader of the bytes l with the fault f; its bytes lie in the blocks from base on, ahead of p. -/
def Rdr (w : World) (base p : Nat) (l : List UInt8) (f : Nat) : Prop :=
  l.length ≤ 140737488355328 ∧ ∃ A c, Row w p 99 #[.slice A l.length c, .int .i64 (f : Int)] ∧ Bs (fun k => base ≤ k ∧ k < p) w A c l

theorem Rdr.mod {S : Nat → Prop} {w w' : World} {base p f : Nat} {l : List UInt8} (h : Rdr w base p l f) (hm : Mod S w w') (hn : ∀ k, base ≤ k → k ≤ p → ¬ S k) (hb : base ≤ p) : Rdr w' base p l f := by
  obtain ⟨hl, A, c, hr, hs⟩ := h
  exact ⟨hl, A, c, hr.mod hm (hn p hb (Nat.le_refl _)), hs.mod hm (fun k hk => hn k hk.1 (by omega))⟩
theorem Rdr.lt {w : World} {base p f : Nat} {l : List UInt8} (h : Rdr w base p l f) : p < w.heap.size := by
  obtain ⟨_, _, _, hr, _⟩ := h
  exact hr.lt

end Go.Proofs.Ytnhcbjlaeaohjaa

namespace Go.Proofs.Ytnhcbjlaeaohjaa.Sep
open Go.RowKit
open Go.Proofs.Ytnhcbjlaeaohjaa.Mem (Dist Blk Chg below0)
section
variable {P : Program} {Q : Exit → Act → World → Prop} {n : Nat} {env : List (Nat × Value)} {B : Nat → Prop} {w0 w : World} {os : List Ass} {o : Oper}
/-- a call that reads what can be read in the present world, and answers new things -/
theorem a_makes {X : Type} {F : FuncId} {f : Operand} {args : Array Operand} {ats : Array TypeId} {vs : List Value} {val : X → Value} {post : X → List Ass} {os' : X → List Ass} (ids : List Nat) (pads : Nat) (hE : Ent P F) (hc : ∀ w, Hp B w0 w os → DoesU w P F vs.toArray [] val post) (hp : selA ids os = List.replicate pads emp) (hn : nodupB ids = true) (hb : (ids.all fun i => Nat.blt i os.length) = true) (he : ∀ x, (post x).drop ids.length ++ replA ids (padTo ids.length (post x)) os = os' x) (ho : o.op = .call { callee := .value f, args := args, argTypes := ats }) (hf : evs env f = some (.func (.func F) #[] #[])) (hx : evl env args.toList = some vs) :
    Acts P Q n env B w0 os o val os' := fun b w hH hb' K hK => by
  unfold Oper.wp
  rw [exec_call hE ho hf hx hb', Oper.upon_enter]
  obtain ⟨x, h0, h1, h2, h3, h4⟩ := hH.give2 ids (nodupB_iff hn)
  rw [hp] at h1
  have hx0 : x = [] := parts_emp.1 h1
  subst hx0
  refine (hc w hH w [] (Below.refl _ _) (fun x hx => by cases hx) rfl trivial trivial).mono ?_
  rintro e w' ⟨x, rfl, rs', hpx, hch⟩
  have hq := h4 (post x) rs' w' hpx hch
  refine hK x w' (he x ▸ Hp.imp hq fun rs h => ?_)
  obtain ⟨a, c, e, ha, hc'⟩ := h.split
  obtain ⟨a', p, ha'⟩ := padTo_parts (k := ids.length) ha
  have h2 := Parts.app ha' hc'
  rw [List.append_assoc] at h2
  obtain ⟨r2, p2, h3⟩ := h2.perm ((repl_perm (xs := post x) (nodupB_iff hn) hb).append_left _)
  exact ⟨r2, e ▸ (p.append_right c).trans p2, h3⟩
end
section
variable {P : Program} {F : FuncId} {args : Array Value} {l m b l' : List UInt8} {u : World} {g f f' : Nat} {v B : Value} {val : Value}
theorem does_ownV (val : Value → Value) (h : ∀ w, Below u.heap.size u w → Calls P F args w fun e w' => ∃ v', e = .returned (val v') ∧ Own 5 w' w.heap.size v' l ∧ Below w.heap.size w w') : DoesU u P F args [] val (fun v => [Vec 5 1 encB v l]) := fun w rs hU _ h1 h2 h3 => by
  unfold Parts at h1
  subst h1
  refine (h w hU).mono ?_
  rintro e w' ⟨v, he, ho, hb⟩
  obtain ⟨rs', hv, hr, hd, hx⟩ := own_vec ho
  exact ⟨v, he, rs', Parts.one hv, by simpa using chg_new (rs := []) trivial trivial hb hr hd fun x h => (hx x h).2⟩
theorem seal_mk (hv : Sl8 u v l) (hl : l.length + 4 ≤ 140737488355328) (r : List UInt8) (hr : sealed l = r) : DoesU u Try.prog 38 #[v] [] (fun v : Value => v) (fun v => [Vec 5 1 encB v r]) := by
  subst hr
  refine does_ownV (fun v => v) fun w hU => ?_
  obtain ⟨A, c, rfl, hb⟩ := hv.below hU
  exact seal_any w A c l hb hl
theorem rseal_mk (hv : Sl8 u v l) (hl : l.length + 4 ≤ 140737488355328) (r : List UInt8) (hr : sealed l = r) : DoesU u Try.prog 32 #[v] [] (fun v : Value => v) (fun v => [Vec 5 1 encB v r]) := by
  subst hr
  refine does_ownV (fun v => v) fun w hU => ?_
  obtain ⟨A, c, rfl, hb⟩ := hv.below hU
  exact refSeal_any w A c l hb hl
theorem unseal_mk (hv : Sl8 u v l) (hl : l.length ≤ 140737488355328) (x : List UInt8) (e : Nat) (hr : unsealed l = (x, e)) : DoesU u Try.prog 40 #[v] [] (fun v : Value => .tuple #[v, .int .i64 (e : Int)]) (fun v => [Vec 5 1 encB v x]) := by
  have hr1 : (unsealed l).1 = x := by rw [hr]
  have hr2 : (unsealed l).2 = e := by rw [hr]
  subst hr1; subst hr2
  refine does_ownV _ fun w hU => ?_
  obtain ⟨A, c, rfl, hb⟩ := hv.below hU
  exact unseal_any w A c l hb hl
theorem runseal_mk (hv : Sl8 u v l) (hl : l.length ≤ 140737488355328) (x : List UInt8) (e : Nat) (hr : unsealed l = (x, e)) : DoesU u Try.prog 73 #[v] [] (fun v : Value => .tuple #[v, .int .i64 (e : Int)]) (fun v => [Vec 5 1 encB v x]) := by
  have hr1 : (unsealed l).1 = x := by rw [hr]
  have hr2 : (unsealed l).2 = e := by rw [hr]
  subst hr1; subst hr2
  refine does_ownV _ fun w hU => ?_
  obtain ⟨A, c, rfl, hb⟩ := hv.below hU
  exact refUnseal_any w A c l hb hl
theorem r1_text (hv : Sl8 u v l) (hl : l.length + 10 ≤ 140737488355328) (r : List UInt8) (hr : layT l = r) : DoesU u Try.prog 56 #[v] [] (fun v : Value => v) (fun v => [Vec 5 1 encB v r]) := by
  subst hr
  refine does_ownV (fun v => v) fun w hU => ?_
  obtain ⟨A, c, rfl, hb⟩ := hv.below hU
  exact refText_any w A c l hb hl
/-! ## Text into a writer -/
theorem wt_textV (g : Nat) (l m : List UInt8) (v : Value) (r : List UInt8) (hr : l ++ layT m = r) (hl : l.length + m.length + 10 ≤ 140737488355328) : Does Try.prog 45 #[.pointer (some ⟨g, 0, none⟩), v] [WtT g l, Vec 5 1 encB v m] (fun _ : Unit => .tuple #[]) (fun _ => [WtT g r, Vec 5 1 encB v m]) := fun w rs h1 h2 h3 => by
  obtain ⟨a, b, rfl, ha, hb⟩ := h1
  have hb := hb.one'
  have ra : RowsOf w a := rows_iff.2 fun z hz => rows_iff.1 h2 z (by simp [hz])
  have rb : RowsOf w b := rows_iff.2 fun z hz => rows_iff.1 h2 z (by simp [hz])
  have hd := dist_iff.1 h3
  rw [List.map_append] at hd
  obtain ⟨wv, rv, rfl, hv, hw⟩ := wt_wtr ha ra
  have hfoot : ∀ k, Foot g wv k → Blk ((g, 94, #[wv]) :: rv) k := by
    rintro k (rfl | hk)
    · exact ⟨_, List.mem_cons_self, rfl⟩
    · rcases hv with ⟨e1, _, _⟩ | ⟨g', c, cs, e1, _, _, _, _, e6⟩
      · subst e1; exact absurd hk At.none
      · subst e1; subst e6
        exact ⟨(g', 5, cs), by simp, (At.iff.1 hk).symm⟩
  have hatv : ∀ k, At v k → Blk b k := fun k hk => by
    rcases hb with ⟨e1, _, _⟩ | ⟨g', c, cs, e1, _, _, _, _, e6⟩
    · subst e1; exact absurd hk At.none
    · subst e1; subst e6
      exact ⟨(g', 5, cs), by simp, (At.iff.1 hk).symm⟩
  have hap : ∀ k, At v k → ¬ Foot g wv k := fun k hk hf => by
    obtain ⟨x, hx, ex⟩ := hfoot k hf
    obtain ⟨y, hy, ey⟩ := hatv k hk
    exact (List.nodup_append.1 hd).2.2 _ (List.mem_map_of_mem hx) _ (List.mem_map_of_mem hy) (ex.trans ey.symm)
  obtain ⟨A, c, rfl, hbs⟩ := (vec_own hb rb).form
  refine (writerText_any w g wv l A c m hw hbs hap hl).mono ?_
  rintro e w' ⟨v', he, hw', hm, hat⟩
  obtain ⟨rs', hv', hr', hd', hx'⟩ := own_vec hw'.2
  have er : l ++ vlay m.length ++ m = r := by rw [← hr]; simp [layT]
  rw [er] at hw' hv'
  have hb' : RowsOf w' b := rows_iff.2 fun z hz => by
    have hz0 := rows_iff.1 rb z hz
    refine hz0.mod hm fun hf => ?_
    obtain ⟨x, hx, ex⟩ := hfoot _ hf
    exact (List.nodup_append.1 hd).2.2 _ (List.mem_map_of_mem hx) _ (List.mem_map_of_mem hz) ex
  have hnew : ∀ x ∈ (g, 94, #[v']) :: rs', Blk ((g, 94, #[wv]) :: rv) x.1 ∨ w.heap.size ≤ x.1 := fun x hxm => by
    rcases List.mem_cons.1 hxm with rfl | hxm
    · exact .inl ⟨_, List.mem_cons_self, rfl⟩
    · rcases hat _ (hx' x hxm).1 with h | h
      · exact .inl (hfoot _ (.inr h))
      · exact .inr h
  have hda : Dist ((g, 94, #[v']) :: rs') := ⟨fun y hy e => hw'.2.ne_row hw'.1 (by decide) ((show y.1 = g from e) ▸ (hx' y hy).1), hd'⟩
  refine ⟨(), he, ((g, 94, #[v']) :: rs') ++ b, ⟨_, b, rfl, ⟨v', [(g, 94, #[v'])], rs', rfl, rfl, Parts.one hv'⟩, Parts.one hb⟩, hm.weaken fun k hk hf => ?_, rows_iff.2 fun z hz => ?_, Mem.dist_app hda (dist_iff.2 (List.nodup_append.1 hd).2.1) fun x hx y hy e => ?_, fun x hx hlt => ?_⟩
  · obtain ⟨x, hx, ex⟩ := hfoot k hf
    exact ⟨x, List.mem_append_left _ hx, ex⟩
  · rcases List.mem_append.1 hz with h | h
    · exact rows_iff.1 (show RowsOf w' ((g, 94, #[v']) :: rs') from ⟨hw'.1, hr'⟩) z h
    · exact rows_iff.1 hb' z h
  · rcases hnew x hx with ⟨z, hz, ez⟩ | h
    · exact (List.nodup_append.1 hd).2.2 _ (List.mem_map_of_mem hz) _ (List.mem_map_of_mem hy) (ez.trans e.symm)
    · have := (rows_iff.1 rb y hy).lt
      omega
  · rcases List.mem_append.1 hx with h | h
    · rcases hnew x h with ⟨z, hz, ez⟩ | h
      · exact ⟨z, List.mem_append_left _ hz, ez⟩
      · omega
    · exact ⟨x, List.mem_append_right _ h, rfl⟩
theorem wt_textU (hv : Sl8 u v m) (g : Nat) (l : List UInt8) (r : List UInt8) (hr : l ++ layT m = r) (hl : l.length + m.length + 10 ≤ 140737488355328) : DoesU u Try.prog 45 #[.pointer (some ⟨g, 0, none⟩), v] [WtT g l] (fun _ : Unit => .tuple #[]) (fun _ => [WtT g r]) := fun w rs hU hS h1 h2 h3 => by
  obtain ⟨wv, rv, rfl, hv0, hw⟩ := wt_wtr h1.one' h2
  obtain ⟨A, c, rfl, hb⟩ := hv
  have hfoot : ∀ k, Foot g wv k → Blk ((g, 94, #[wv]) :: rv) k := by
    rintro k (rfl | hk)
    · exact ⟨_, List.mem_cons_self, rfl⟩
    · rcases hv0 with ⟨e1, _, _⟩ | ⟨g', c, cs, e1, _, _, _, _, e6⟩
      · subst e1; exact absurd hk At.none
      · subst e1; subst e6
        exact ⟨(g', 5, cs), by simp, (At.iff.1 hk).symm⟩
  have hb2 : Bs (fun k => k < u.heap.size) w A c m := (hb.weaken (T := fun k => k < u.heap.size) fun k hk _ => hk).below hU fun _ hk => hk
  refine (writerText_any w g wv l A c m hw hb2 (fun k hk hf => ?_) hl).mono ?_
  · obtain ⟨x, hx, ex⟩ := hfoot k hf
    have := hS x hx
    have hk : k < u.heap.size := hk
    have ex : x.1 = k := ex
    omega
  rintro e w' ⟨v', he, hw', hm, hat⟩
  obtain ⟨rs', hv', hr', hd', hx'⟩ := own_vec hw'.2
  have er : l ++ vlay m.length ++ m = r := by rw [← hr]; simp [layT]
  rw [er] at hw' hv'
  refine ⟨(), he, (g, 94, #[v']) :: rs', Parts.one ⟨v', [(g, 94, #[v'])], rs', rfl, rfl, Parts.one hv'⟩, hm.weaken fun k hk hf => hfoot k hf, ⟨hw'.1, hr'⟩, ⟨fun y hy e => hw'.2.ne_row hw'.1 (by decide) ((show y.1 = g from e) ▸ (hx' y hy).1), hd'⟩, fun x hxm hlt => ?_⟩
  rcases List.mem_cons.1 hxm with rfl | hxm
  · exact ⟨_, List.mem_cons_self, rfl⟩
  · rcases hat _ (hx' x hxm).1 with h | h
    · exact hfoot _ (.inr h)
    · omega
/-! ## The reference's reader over bytes of its own -/
theorem rx_parts {w : World} {rs : List RowT} (h1 : Parts [RrT B b g l f, Vec 5 1 encB B b] rs) (h2 : RowsOf w rs) (h3 : Dist rs) (hl : b.length ≤ 140737488355328) : ∃ A c x rv, B = .slice A b.length c ∧ rs = (g, 82, x) :: rv ∧ Vec 5 1 encB B b rv ∧ RRd (At B) w g A c b l f := by
  obtain ⟨a, c, rfl, ⟨j, hj, hlj, rfl⟩, hc⟩ := h1
  have hc := hc.one'
  have rb : RowsOf w c := rows_iff.2 fun z hz => rows_iff.1 h2 z (by simp [hz])
  obtain ⟨A, cc, rfl, hb⟩ := (vec_own hc rb).form
  refine ⟨A, cc, _, c, rfl, rfl, hc, j, hj, hlj, h2.1, hb, hl, fun k hk e => ?_⟩
  unfold One at e
  subst e
  rcases hc with ⟨e1, _, _⟩ | ⟨g', c', cs, e1, _, _, _, _, e6⟩
  · simp at e1
    obtain ⟨rfl, _⟩ := e1
    exact absurd hk At.none
  · simp at e1
    obtain ⟨rfl, rfl⟩ := e1
    subst e6
    exact h3.1 (g', 5, cs) (by simp) (At.iff.1 hk).symm
theorem rx_chg {w w' : World} {x y : Array Value} {rv rs' : List RowT} (h2 : RowsOf w ((g, 82, x) :: rv)) (h3 : Dist ((g, 82, x) :: rv)) (hy : Row w' g 82 y) (hm : Mod (One g) w w') (hr' : RowsOf w' rs') (hd' : Dist rs') (hn : ∀ x ∈ rs', w.heap.size ≤ x.1) : Chg w w' ((g, 82, x) :: rv) (((g, 82, y) :: rv) ++ rs') := by
  have hrv : RowsOf w' rv := rows_iff.2 fun z hz => by
    refine (rows_iff.1 h2.2 z hz).mod hm fun e => ?_
    unfold One at e
    exact h3.1 z hz e
  refine ⟨hm.weaken fun k _ e => ⟨_, List.mem_cons_self, e.symm⟩, rows_iff.2 fun z hz => ?_, Mem.dist_app ⟨h3.1, h3.2⟩ hd' fun p hp q hq e => ?_, fun p hp hlt => ?_⟩
  · rcases List.mem_append.1 hz with h | h
    · exact rows_iff.1 (show RowsOf w' ((g, 82, y) :: rv) from ⟨hy, hrv⟩) z h
    · exact rows_iff.1 hr' z h
  · have h1 := hn q hq
    rcases List.mem_cons.1 hp with rfl | hp
    · have := h2.1.lt
      have e : q.1 = g := e
      omega
    · have := (rows_iff.1 h2.2 p hp).lt
      omega
  · rcases List.mem_append.1 hp with h | h
    · rcases List.mem_cons.1 h with rfl | h
      · exact ⟨_, List.mem_cons_self, rfl⟩
      · exact ⟨p, List.mem_cons_of_mem _ h, rfl⟩
    · have := hn p h
      omega
theorem does_rx (hl : b.length ≤ 140737488355328) (h : ∀ w A c, B = .slice A b.length c → RRd (At B) w g A c b l f → Calls Try.prog F args w fun e w' => e = .returned val ∧ RRd (At B) w' g A c b l' f' ∧ Mod (One g) w w') : Does Try.prog F args [RrT B b g l f, Vec 5 1 encB B b] (fun _ : Unit => val) (fun _ => [RrT B b g l' f', Vec 5 1 encB B b]) := fun w rs h1 h2 h3 => by
  obtain ⟨A, c, x, rv, rfl, rfl, hv, hR⟩ := rx_parts h1 h2 h3 hl
  refine (h w A c rfl hR).mono ?_
  rintro e w' ⟨he, ⟨j', hj', hl', hr', _⟩, hm⟩
  refine ⟨(), he, _, ?_, by simpa using rx_chg (rs' := []) h2 h3 hr' hm trivial trivial (fun x hx => by cases hx)⟩
  exact ⟨[_], rv, rfl, ⟨j', hj', hl', rfl⟩, Parts.one hv⟩
theorem does_rxT (hl : b.length ≤ 140737488355328) (h : ∀ w A c, B = .slice A b.length c → RRd (At B) w g A c b l f → Calls Try.prog F args w fun e w' => ∃ v', e = .returned v' ∧ Own 5 w' w.heap.size v' m ∧ RRd (At B) w' g A c b l' f' ∧ Mod (One g) w w') : Does Try.prog F args [RrT B b g l f, Vec 5 1 encB B b] (fun v : Value => v) (fun v => [RrT B b g l' f', Vec 5 1 encB B b, Vec 5 1 encB v m]) := fun w rs h1 h2 h3 => by
  obtain ⟨A, c, x, rv, rfl, rfl, hv, hR⟩ := rx_parts h1 h2 h3 hl
  refine (h w A c rfl hR).mono ?_
  rintro e w' ⟨v', he, ho, ⟨j', hj', hl', hr', _⟩, hm⟩
  obtain ⟨rs', hv', hr1, hd', hx'⟩ := own_vec ho
  refine ⟨v', he, _, ?_, rx_chg (rs' := rs') h2 h3 hr' hm hr1 hd' (fun x hx => (hx' x hx).2)⟩
  exact ⟨[_], rv ++ rs', rfl, ⟨j', hj', hl', rfl⟩, rv, rs', rfl, hv, Parts.one hv'⟩
theorem rx_byte (hl : b.length ≤ 140737488355328) (most : Nat) (hm : most < 256) (R : Nat × List UInt8 × Nat) (h : rbyte most l f = R) : Does Try.prog 62 #[.pointer (some ⟨g, 0, none⟩), .int .u8 (most : Int)] [RrT B b g l f, Vec 5 1 encB B b] (fun _ : Unit => .int .u8 (R.1 : Int)) (fun _ => [RrT B b g R.2.1 R.2.2, Vec 5 1 encB B b]) := by
  subst h
  exact does_rx hl fun w A c _ hr => refByte_any w g c f most A b l hr hm
theorem rx_num (hl : b.length ≤ 140737488355328) (most : Nat) (hm : most < 18446744073709551616) (R : Nat × List UInt8 × Nat) (h : rnum most l f = R) : Does Try.prog 63 #[.pointer (some ⟨g, 0, none⟩), .int .u64 (most : Int)] [RrT B b g l f, Vec 5 1 encB B b] (fun _ : Unit => .int .u64 (R.1 : Int)) (fun _ => [RrT B b g R.2.1 R.2.2, Vec 5 1 encB B b]) := by
  subst h
  exact does_rx hl fun w A c _ hr => refRNum_any w g c f most A b l hr hm
theorem rx_text (hl : b.length ≤ 140737488355328) (most : Int) (hm1 : -9223372036854775808 ≤ most) (hm : most ≤ 9223372036854775807) (R : List UInt8 × List UInt8 × Nat) (h : rtext most l f = R) : Does Try.prog 64 #[.pointer (some ⟨g, 0, none⟩), .int .i64 most] [RrT B b g l f, Vec 5 1 encB B b] (fun v : Value => v) (fun v => [RrT B b g R.2.1 R.2.2, Vec 5 1 encB B b, Vec 5 1 encB v R.1]) := by
  subst h
  exact does_rxT hl fun w A c _ hr => refRText_any w g c f most A b l hr hm1 hm
theorem rx_end (hl : b.length ≤ 140737488355328) (r : Nat) (h : rend l f = r) : Does Try.prog 65 #[.pointer (some ⟨g, 0, none⟩)] [RrT B b g l f, Vec 5 1 encB B b] (fun _ : Unit => .int .i64 (r : Int)) (fun _ => [RrT B b g l f, Vec 5 1 encB B b]) := by
  subst h
  refine does_rx hl fun w A c _ hr => (refEnd_any w g c f A b l hr).mono ?_
  rintro e w' ⟨he, hb⟩
  exact ⟨he, hr.mod (Mod.of_below hb Nil) (fun h => h.elim) (fun _ _ h => h), Mod.of_below hb _⟩
/-- over an argument's bytes: a text -/
theorem rr_text (hB : Sl8 u B b) (hl : b.length ≤ 140737488355328) (most : Int) (hm1 : -9223372036854775808 ≤ most) (hm : most ≤ 9223372036854775807) (R : List UInt8 × List UInt8 × Nat) (h : rtext most l f = R) : DoesU u Try.prog 64 #[.pointer (some ⟨g, 0, none⟩), .int .i64 most] [RrT B b g l f] (fun v : Value => v) (fun v => [RrT B b g R.2.1 R.2.2, Vec 5 1 encB v R.1]) := fun w rs hU hS h1 h2 h3 => by
  subst h
  obtain ⟨j, hj, hlj, rfl⟩ := h1.one'
  obtain ⟨A, c, rfl, hb⟩ := hB
  have hg : u.heap.size ≤ g := hS _ List.mem_cons_self
  have hb2 : Bs (fun k => k < u.heap.size) w A c b := (hb.weaken (T := fun k => k < u.heap.size) fun k hk _ => hk).below hU fun _ hk => hk
  refine (refRText_any w g c f most A b l ⟨j, hj, hlj, h2.1, hb2, hl, fun k hk e => by unfold One at e; omega⟩ hm1 hm).mono ?_
  rintro e w' ⟨v', he, ho, ⟨j', hj', hl', hr', _⟩, hm⟩
  obtain ⟨rs', hv', hr1, hd', hx'⟩ := own_vec ho
  refine ⟨v', he, _, ?_, rx_chg (rs' := rs') h2 h3 hr' hm hr1 hd' (fun x hx => (hx' x hx).2)⟩
  exact ⟨[_], rs', rfl, ⟨j', hj', hl', rfl⟩, Parts.one hv'⟩
end
end Go.Proofs.Ytnhcbjlaeaohjaa.Sep

namespace Go.Proofs.Ytnhcbjlaeaohjaa

/-- a message -/
structure MsgD where
  k : Int
  a : Int
  b : Int
  t : Int
  i : Int
  lt : Int
  es : List EntD
  co : Int
  rf : Bool
  bi : Int
  bt : Int
  bc : Int
  o : Int
  d : List UInt8
  la : Bool
deriving DecidableEq
def MsgD.zero : MsgD := ⟨0, 0, 0, 0, 0, 0, [], 0, false, 0, 0, 0, 0, [], false⟩
structure MsgD.ok (m : MsgD) : Prop where
  k : I64 m.k
  a : I64 m.a
  b : I64 m.b
  t : U64 m.t
  i : U64 m.i
  lt : U64 m.lt
  es : m.es.length ≤ 9223372036854775807 ∧ ∀ e, e ∈ m.es → e.ok
  co : U64 m.co
  bi : U64 m.bi
  bt : U64 m.bt
  bc : I64 m.bc
  o : I64 m.o
  d : m.d.length ≤ 9223372036854775807

/-- the fields of a kind, as a sum of 1 (index), 2 (logterm), 4 (commit), 8 (entries), 16 (refused), 32 (base), 64 (offset), 128 (last), 256 (data) -/
def fm (k : Int) : Nat := if k = 1 then 131 else if k = 2 then 144 else if k = 3 then 15 else if k = 4 then 17 else if k = 5 then 480 else if k = 6 then 96 else 0
theorem fm_kinds {k : Int} (h : fm k ≠ 0) : k = 1 ∨ k = 2 ∨ k = 3 ∨ k = 4 ∨ k = 5 ∨ k = 6 := by
  unfold fm at h
  repeat' split at h
  all_goals first | omega | exact absurd rfl h
theorem fm_off {k : Int} (h : ¬ (1 ≤ k ∧ k ≤ 6)) : fm k = 0 := by
  rcases Nat.eq_zero_or_pos (fm k) with h0 | h0
  · exact h0
  · have := fm_kinds (k := k) (by omega)
    omega

def nodeB (n : Int) : Bool := decide (n ≥ 1) && decide (n ≤ 7)
def lowB (n : Int) : Bool := decide (n ≤ 72057594037927935)
def baseB (m : MsgD) : Bool := numB m.bi && numB m.bt && setB m.bc && m.bc != 0
def zeroB (m : MsgD) : Bool := m.bi == 0 && (m.bt == 0 && m.bc == 0)
def offB (n : Int) : Bool := decide (n ≥ 0) && decide (n ≤ 32768)
/-- do the entries follow? t: the message's term; i: the index before; p: the term before -/
def follow (t : Int) : Int → Int → List EntD → Bool
  | _, _, [] => true
  | i, p, e :: r => rightE e && e.i == i + 1 && decide (p ≤ e.t) && decide (e.t ≤ t) && follow t (i + 1) e.t r
def entsB (m : MsgD) : Bool := decide (m.es.length ≤ 4) && follow m.t m.i m.lt m.es
def rightM (m : MsgD) : Bool :=
  fm m.k != 0 && nodeB m.a && nodeB m.b && m.a != m.b && numB m.t && mayB (wth (fm m.k) 1) (lowB m.i) (m.i == 0) && mayB (wth (fm m.k) 2) (lowB m.lt) (m.lt == 0) && mayB (wth (fm m.k) 4) (lowB m.co) (m.co == 0)
    && mayB (wth (fm m.k) 8) (entsB m) (m.es == []) && mayB (wth (fm m.k) 16) true (m.rf == false) && mayB (wth (fm m.k) 32) (baseB m) (zeroB m) && mayB (wth (fm m.k) 64) (offB m.o) (m.o == 0) && mayB (wth (fm m.k) 128) true (m.la == false) && mayB (wth (fm m.k) 256) (decide (m.d.length ≤ 256)) (m.d == [])
/-- what a message that may be has -/
structure RightMD (m : MsgD) : Prop where
  k : fm m.k ≠ 0
  a : 1 ≤ m.a ∧ m.a ≤ 7
  b : 1 ≤ m.b ∧ m.b ≤ 7
  n : m.a ≠ m.b
  t : 1 ≤ m.t ∧ m.t ≤ 72057594037927935
  i : mayB (wth (fm m.k) 1) (lowB m.i) (m.i == 0) = true
  lt : mayB (wth (fm m.k) 2) (lowB m.lt) (m.lt == 0) = true
  co : mayB (wth (fm m.k) 4) (lowB m.co) (m.co == 0) = true
  es : mayB (wth (fm m.k) 8) (entsB m) (m.es == []) = true
  rf : mayB (wth (fm m.k) 16) true (m.rf == false) = true
  ba : mayB (wth (fm m.k) 32) (baseB m) (zeroB m) = true
  o : mayB (wth (fm m.k) 64) (offB m.o) (m.o == 0) = true
  la : mayB (wth (fm m.k) 128) true (m.la == false) = true
  d : mayB (wth (fm m.k) 256) (decide (m.d.length ≤ 256)) (m.d == []) = true
theorem nodeB_iff {n : Int} (h : nodeB n = true) : 1 ≤ n ∧ n ≤ 7 := by
  unfold nodeB at h
  simpa using h
theorem rightM_iff {m : MsgD} (h : rightM m = true) : RightMD m := by
  unfold rightM at h
  simp only [Bool.and_eq_true, bne_iff_ne, ne_eq] at h
  obtain ⟨⟨⟨⟨⟨⟨⟨⟨⟨⟨⟨⟨⟨h0, h1⟩, h2⟩, h3⟩, h4⟩, h5⟩, h6⟩, h7⟩, h8⟩, h9⟩, h10⟩, h11⟩, h12⟩, h13⟩ := h
  exact ⟨h0, nodeB_iff h1, nodeB_iff h2, h3, numB_iff h4, h5, h6, h7, h8, h9, h10, h11, h12, h13⟩
theorem follow_right {t : Int} : ∀ {es : List EntD} {i p : Int}, follow t i p es = true → ∀ e, e ∈ es → rightE e = true
  | [], _, _, _, e, he => by cases he
  | e0 :: r, i, p, h, e, he => by
    unfold follow at h
    simp only [Bool.and_eq_true] at h
    rcases List.mem_cons.1 he with rfl | he
    · exact h.1.1.1.1
    · exact follow_right h.2 e he

/-! ## What is laid -/
def flagN (b : Bool) : Nat := match b with | true => 1 | false => 0
theorem flagN_le (b : Bool) : flagN b ≤ 1 := by cases b <;> simp [flagN]
def layEs (es : List EntD) : List UInt8 := es.flatMap fun e => layT (layE e)
def layN (es : List EntD) : List UInt8 := vlay es.length ++ layEs es
def layB (b : Int × Int × Int) : List UInt8 := layU b.1 ++ (layU b.2.1 ++ [UInt8.ofNat b.2.2.toNat])
def headM (m : MsgD) : List UInt8 := [UInt8.ofNat m.k.toNat, UInt8.ofNat m.a.toNat, UInt8.ofNat m.b.toNat]
def layM (m : MsgD) : List UInt8 :=
  headM m ++ (layU m.t ++ (opt (wth (fm m.k) 1) (layU m.i) ++ (opt (wth (fm m.k) 2) (layU m.lt) ++ (opt (wth (fm m.k) 4) (layU m.co) ++ (opt (wth (fm m.k) 8) (layN m.es) ++ (opt (wth (fm m.k) 16) [UInt8.ofNat (flagN m.rf)] ++ (opt (wth (fm m.k) 32) (layB (m.bi, m.bt, m.bc)) ++ (opt (wth (fm m.k) 64) (layU m.o) ++ (opt (wth (fm m.k) 128) [UInt8.ofNat (flagN m.la)] ++ opt (wth (fm m.k) 256) (layT m.d))))))))))

/-! ## What is read -/
/-- an entry of a message -/
def rent (l : List UInt8) (f : Nat) : EntD × List UInt8 × Nat :=
  match rtext 160 l f with
  | (x, l1, f1) => if f1 ≠ 0 then (.zero, l1, f1) else ((decE x).1, l1, (decE x).2)
theorem rent_text {l l1 x : List UInt8} {f f1 : Nat} (h : rtext 160 l f = (x, l1, f1)) (hf : f1 ≠ 0) : rent l f = (.zero, l1, f1) := by
  unfold rent
  rw [h]
  simp only
  rw [if_pos hf]
theorem rent_of {l l1 x : List UInt8} {f e : Nat} {y : EntD} (h : rtext 160 l f = (x, l1, 0)) (he : decE x = (y, e)) : rent l f = (y, l1, e) := by
  unfold rent
  rw [h]
  simp only
  rw [if_neg (by simp), he]
theorem good_ent : Good rent (fun e => layT (layE e)) (fun e => rightE e = true) (fun e => e.ok) where
  lay e r h := by
    have hl := layE_len h
    exact rent_of ((good_text 160).lay (layE e) r ⟨by omega, by omega⟩) (decE_lay h)
  back l f h := by
    obtain ⟨⟨x, l1, f1⟩, h1⟩ : ∃ R, rtext 160 l f = R := ⟨_, rfl⟩
    by_cases hf : f1 = 0
    · subst hf
      obtain ⟨⟨y, e⟩, h2⟩ : ∃ R, decE x = R := ⟨_, rfl⟩
      rw [rent_of h1 h2] at h ⊢
      have hb := decE_back x
      rw [h2] at hb
      simp only at h hb ⊢
      obtain ⟨a, b⟩ := (good_text 160).back_of h1
      rcases hb with ⟨hb, _⟩ | ⟨_, _, hb⟩
      · exact absurd h hb
      · exact ⟨a, by rw [hb]; exact b⟩
    · rw [rent_text h1 hf] at h
      exact absurd h hf
  ok l f := by
    obtain ⟨⟨x, l1, f1⟩, h1⟩ : ∃ R, rtext 160 l f = R := ⟨_, rfl⟩
    by_cases hf : f1 = 0
    · subst hf
      obtain ⟨⟨y, e⟩, h2⟩ : ∃ R, decE x = R := ⟨_, rfl⟩
      rw [rent_of h1 h2]
      have hb := decE_back x
      rw [h2] at hb
      rcases hb with ⟨_, hb⟩ | ⟨_, hb, _⟩
      · simp only at hb; rw [hb]; exact EntD.zero_ok
      · exact rightE_ok hb
    · rw [rent_text h1 hf]; exact EntD.zero_ok
theorem rent_right {l l' : List UInt8} {f : Nat} {e : EntD} (h : rent l f = (e, l', 0)) : rightE e = true := by
  obtain ⟨⟨x, l1, f1⟩, h1⟩ : ∃ R, rtext 160 l f = R := ⟨_, rfl⟩
  by_cases hf : f1 = 0
  · subst hf
    obtain ⟨⟨y, e'⟩, h2⟩ : ∃ R, decE x = R := ⟨_, rfl⟩
    have e1 := (rent_of h1 h2).symm.trans h
    simp only [Prod.mk.injEq] at e1
    obtain ⟨rfl, rfl, rfl⟩ := e1
    have hb := decE_back x
    rw [h2] at hb
    rcases hb with ⟨hb, _⟩ | ⟨_, hb, _⟩
    · exact absurd rfl hb
    · exact hb
  · have e1 := (rent_text h1 hf).symm.trans h
    simp only [Prod.mk.injEq] at e1
    exact absurd e1.2.2 hf
/-- n entries -/
def rents : Nat → List UInt8 → Nat → List EntD × List UInt8 × Nat
  | 0, l, f => ([], l, f)
  | n + 1, l, f => match rent l f with
    | (e, l1, f1) => if f1 ≠ 0 then ([], l1, f1) else match rents n l1 0 with
      | (es, l2, f2) => (e :: es, l2, f2)
theorem rents_bad {n : Nat} {l l1 : List UInt8} {f f1 : Nat} {e : EntD} (h : rent l f = (e, l1, f1)) (hf : f1 ≠ 0) : rents (n + 1) l f = ([], l1, f1) := by
  unfold rents
  rw [h]
  simp only
  rw [if_pos hf]
theorem rents_of {n : Nat} {l l1 l2 : List UInt8} {f f2 : Nat} {e : EntD} {es : List EntD} (h : rent l f = (e, l1, 0)) (h2 : rents n l1 0 = (es, l2, f2)) : rents (n + 1) l f = (e :: es, l2, f2) := by
  rw [rents, h]
  simp only
  rw [if_neg (by simp), h2]
theorem rents_lay : ∀ (es : List EntD) (r : List UInt8), (∀ e, e ∈ es → rightE e = true) → rents es.length (layEs es ++ r) 0 = (es, r, 0)
  | [], r, _ => rfl
  | e :: es, r, h => by
    have e1 : layEs (e :: es) ++ r = layT (layE e) ++ (layEs es ++ r) := by simp [layEs]
    rw [e1]
    exact rents_of (good_ent.lay e _ (h e (List.mem_cons_self ..))) (rents_lay es r fun x hx => h x (List.mem_cons_of_mem _ hx))
theorem rents_back : ∀ {n : Nat} {l l' : List UInt8} {f : Nat} {es : List EntD}, rents n l f = (es, l', 0) → f = 0 ∧ l = layEs es ++ l' ∧ es.length = n ∧ ∀ e, e ∈ es → rightE e = true
  | 0, l, l', f, es, h => by
    unfold rents at h
    simp only [Prod.mk.injEq] at h
    obtain ⟨rfl, rfl, rfl⟩ := h
    exact ⟨rfl, rfl, rfl, fun e he => by cases he⟩
  | n + 1, l, l', f, es, h => by
    obtain ⟨⟨e, l1, f1⟩, h1⟩ : ∃ R, rent l f = R := ⟨_, rfl⟩
    by_cases hf : f1 = 0
    · subst hf
      obtain ⟨⟨es', l2, f2⟩, h2⟩ : ∃ R, rents n l1 0 = R := ⟨_, rfl⟩
      have e1 := (rents_of h1 h2).symm.trans h
      simp only [Prod.mk.injEq] at e1
      obtain ⟨rfl, rfl, rfl⟩ := e1
      obtain ⟨a, b⟩ := good_ent.back_of h1
      obtain ⟨_, b2, b3, b4⟩ := rents_back h2
      refine ⟨a, ?_, by simp [b3], fun x hx => ?_⟩
      · rw [b, b2]; simp [layEs]
      · rcases List.mem_cons.1 hx with rfl | hx
        · exact rent_right h1
        · exact b4 x hx
    · have e1 := (rents_bad h1 hf).symm.trans h
      simp only [Prod.mk.injEq] at e1
      exact absurd e1.2.2 hf
theorem rents_ok : ∀ {n : Nat} {l l' : List UInt8} {f f' : Nat} {es : List EntD}, rents n l f = (es, l', f') → es.length ≤ n ∧ ∀ e, e ∈ es → rightE e = true
  | 0, l, l', f, f', es, h => by
    unfold rents at h
    simp only [Prod.mk.injEq] at h
    obtain ⟨rfl, rfl, rfl⟩ := h
    exact ⟨by simp, fun e he => by cases he⟩
  | n + 1, l, l', f, f', es, h => by
    obtain ⟨⟨e, l1, f1⟩, h1⟩ : ∃ R, rent l f = R := ⟨_, rfl⟩
    by_cases hf : f1 = 0
    · subst hf
      obtain ⟨⟨es', l2, f2⟩, h2⟩ : ∃ R, rents n l1 0 = R := ⟨_, rfl⟩
      have e1 := (rents_of h1 h2).symm.trans h
      simp only [Prod.mk.injEq] at e1
      obtain ⟨rfl, rfl, rfl⟩ := e1
      obtain ⟨b3, b4⟩ := rents_ok h2
      refine ⟨by simp; omega, fun x hx => ?_⟩
      rcases List.mem_cons.1 hx with rfl | hx
      · exact rent_right h1
      · exact b4 x hx
    · have e1 := (rents_bad h1 hf).symm.trans h
      simp only [Prod.mk.injEq] at e1
      obtain ⟨rfl, _⟩ := e1
      exact ⟨by simp, fun e he => by cases he⟩
/-- a message's entries: their number, then each -/
def rlist (l : List UInt8) (f : Nat) : List EntD × List UInt8 × Nat :=
  match rnum 4 l f with
  | (n, l1, f1) => rents n l1 f1
theorem rlist_of {l l1 : List UInt8} {f f1 n : Nat} (h : rnum 4 l f = (n, l1, f1)) : rlist l f = rents n l1 f1 := by
  unfold rlist
  rw [h]
theorem good_list : Good rlist layN (fun es => es.length ≤ 4 ∧ ∀ e, e ∈ es → rightE e = true) (fun es => ∀ e, e ∈ es → rightE e = true) where
  lay es r h := by
    have e1 : rnum 4 (layN es ++ r) 0 = (es.length, layEs es ++ r, 0) := by
      unfold layN
      rw [List.append_assoc]
      exact (good_num 4).lay es.length _ ⟨h.1, by omega⟩
    rw [rlist_of e1]
    exact rents_lay es r h.2
  back l f h := by
    obtain ⟨⟨n, l1, f1⟩, h1⟩ : ∃ R, rnum 4 l f = R := ⟨_, rfl⟩
    rw [rlist_of h1] at h ⊢
    obtain ⟨⟨es, l2, f2⟩, h2⟩ : ∃ R, rents n l1 f1 = R := ⟨_, rfl⟩
    rw [h2] at h ⊢
    simp only at h ⊢
    subst h
    obtain ⟨rfl, b2, b3, _⟩ := rents_back h2
    obtain ⟨a, b⟩ := (good_num 4).back_of h1
    refine ⟨a, ?_⟩
    rw [b, b2, ← b3]
    simp [layN]
  ok l f := by
    obtain ⟨⟨n, l1, f1⟩, h1⟩ : ∃ R, rnum 4 l f = R := ⟨_, rfl⟩
    rw [rlist_of h1]
    obtain ⟨⟨es, l2, f2⟩, h2⟩ : ∃ R, rents n l1 f1 = R := ⟨_, rfl⟩
    rw [h2]
    exact (rents_ok h2).2
/-- a base -/
def rbase (l : List UInt8) (f : Nat) : (Int × Int × Int) × List UInt8 × Nat :=
  match rnum 72057594037927935 l f with
  | (x, l1, f1) => match rnum 72057594037927935 l1 f1 with
    | (y, l2, f2) => match rbyte 254 l2 f2 with
      | (z, l3, f3) => (((x : Int), (y : Int), (z : Int)), l3, f3)
theorem rbase_of {l l1 l2 l3 : List UInt8} {f f1 f2 f3 x y z : Nat} (h1 : rnum 72057594037927935 l f = (x, l1, f1)) (h2 : rnum 72057594037927935 l1 f1 = (y, l2, f2)) (h3 : rbyte 254 l2 f2 = (z, l3, f3)) : rbase l f = (((x : Int), (y : Int), (z : Int)), l3, f3) := by
  simp only [rbase, h1, h2, h3]
theorem good_base : Good rbase layB (fun b => (0 ≤ b.1 ∧ b.1 ≤ 72057594037927935) ∧ (0 ≤ b.2.1 ∧ b.2.1 ≤ 72057594037927935) ∧ (0 ≤ b.2.2 ∧ b.2.2 ≤ 254)) (fun b => U64 b.1 ∧ U64 b.2.1 ∧ (0 ≤ b.2.2 ∧ b.2.2 ≤ 255)) where
  lay b r h := by
    obtain ⟨x, y, z⟩ := b
    obtain ⟨h1, h2, h3⟩ := h
    simp only at h1 h2 h3
    have e1 : rnum 72057594037927935 (layB (x, y, z) ++ r) 0 = (x.toNat, layU y ++ ([UInt8.ofNat z.toNat] ++ r), 0) := by
      unfold layB
      rw [List.append_assoc, List.append_assoc]
      exact (good_num _).lay x.toNat _ (by omega)
    rw [rbase_of e1 ((good_num _).lay y.toNat _ (by omega)) ((good_byte 254).lay z.toNat r (by omega))]
    rw [show ((x.toNat : Nat) : Int) = x by omega, show ((y.toNat : Nat) : Int) = y by omega, show ((z.toNat : Nat) : Int) = z by omega]
  back l f h := by
    obtain ⟨⟨x, l1, f1⟩, h1⟩ : ∃ R, rnum 72057594037927935 l f = R := ⟨_, rfl⟩
    obtain ⟨⟨y, l2, f2⟩, h2⟩ : ∃ R, rnum 72057594037927935 l1 f1 = R := ⟨_, rfl⟩
    obtain ⟨⟨z, l3, f3⟩, h3⟩ : ∃ R, rbyte 254 l2 f2 = R := ⟨_, rfl⟩
    rw [rbase_of h1 h2 h3] at h ⊢
    simp only at h ⊢
    subst h
    obtain ⟨rfl, b3⟩ := (good_byte _).back_of h3
    obtain ⟨rfl, b2⟩ := (good_num _).back_of h2
    obtain ⟨rfl, b1⟩ := (good_num _).back_of h1
    refine ⟨rfl, ?_⟩
    rw [b1, b2, b3]
    simp [layB, layU]
  ok l f := by
    obtain ⟨⟨x, l1, f1⟩, h1⟩ : ∃ R, rnum 72057594037927935 l f = R := ⟨_, rfl⟩
    obtain ⟨⟨y, l2, f2⟩, h2⟩ : ∃ R, rnum 72057594037927935 l1 f1 = R := ⟨_, rfl⟩
    obtain ⟨⟨z, l3, f3⟩, h3⟩ : ∃ R, rbyte 254 l2 f2 = R := ⟨_, rfl⟩
    rw [rbase_of h1 h2 h3]
    have a1 := (good_num _).ok_of h1
    have a2 := (good_num _).ok_of h2
    have a3 := (good_byte _).ok_of h3
    exact ⟨⟨by simp only; omega, by simp only; omega⟩, ⟨by simp only; omega, by simp only; omega⟩, by simp only; omega, by simp only; omega⟩
/-- what is read of l: the message, the rest, what was wrong -/
def readM (l : List UInt8) : MsgD × List UInt8 × Nat :=
  match rbyte 6 l 0 with
  | (k, l0, f0) => match rI (k != 0) 0 (rbyte 7 l0 f0) l0 f0 with
  | (a, l1, f1) => match rI (k != 0) 0 (rbyte 7 l1 f1) l1 f1 with
  | (b, l2, f2) => match rI (k != 0) 0 (rnum 72057594037927935 l2 f2) l2 f2 with
  | (t, l3, f3) => match rI (wth (fm (k : Int)) 1) 0 (rnum 72057594037927935 l3 f3) l3 f3 with
  | (i, l4, f4) => match rI (wth (fm (k : Int)) 2) 0 (rnum 72057594037927935 l4 f4) l4 f4 with
  | (lt, l5, f5) => match rI (wth (fm (k : Int)) 4) 0 (rnum 72057594037927935 l5 f5) l5 f5 with
  | (co, l6, f6) => match rI (wth (fm (k : Int)) 8) [] (rlist l6 f6) l6 f6 with
  | (es, l7, f7) => match rI (wth (fm (k : Int)) 16) 0 (rbyte 1 l7 f7) l7 f7 with
  | (rf, l8, f8) => match rI (wth (fm (k : Int)) 32) (0, 0, 0) (rbase l8 f8) l8 f8 with
  | ((bi, bt, bc), l9, f9) => match rI (wth (fm (k : Int)) 64) 0 (rnum 32768 l9 f9) l9 f9 with
  | (o, l10, f10) => match rI (wth (fm (k : Int)) 128) 0 (rbyte 1 l10 f10) l10 f10 with
  | (la, l11, f11) => match rI (wth (fm (k : Int)) 256) [] (rtext 256 l11 f11) l11 f11 with
  | (d, l12, f12) => (⟨(k : Int), (a : Int), (b : Int), (t : Int), (i : Int), (lt : Int), es, (co : Int), rf == 1, bi, bt, bc, (o : Int), d, la == 1⟩, l12, f12)
/-- the same, step by step -/
structure ReadM (l : List UInt8) (m : MsgD) (l' : List UInt8) (f' : Nat) where
  mk ::
  k : Nat
  l0 : List UInt8
  f0 : Nat
  h0 : rbyte 6 l 0 = (k, l0, f0)
  a : Nat
  l1 : List UInt8
  f1 : Nat
  h1 : rI (k != 0) 0 (rbyte 7 l0 f0) l0 f0 = (a, l1, f1)
  b : Nat
  l2 : List UInt8
  f2 : Nat
  h2 : rI (k != 0) 0 (rbyte 7 l1 f1) l1 f1 = (b, l2, f2)
  t : Nat
  l3 : List UInt8
  f3 : Nat
  h3 : rI (k != 0) 0 (rnum 72057594037927935 l2 f2) l2 f2 = (t, l3, f3)
  i : Nat
  l4 : List UInt8
  f4 : Nat
  h4 : rI (wth (fm (k : Int)) 1) 0 (rnum 72057594037927935 l3 f3) l3 f3 = (i, l4, f4)
  lt : Nat
  l5 : List UInt8
  f5 : Nat
  h5 : rI (wth (fm (k : Int)) 2) 0 (rnum 72057594037927935 l4 f4) l4 f4 = (lt, l5, f5)
  co : Nat
  l6 : List UInt8
  f6 : Nat
  h6 : rI (wth (fm (k : Int)) 4) 0 (rnum 72057594037927935 l5 f5) l5 f5 = (co, l6, f6)
  es : List EntD
  l7 : List UInt8
  f7 : Nat
  h7 : rI (wth (fm (k : Int)) 8) [] (rlist l6 f6) l6 f6 = (es, l7, f7)
  rf : Nat
  l8 : List UInt8
  f8 : Nat
  h8 : rI (wth (fm (k : Int)) 16) 0 (rbyte 1 l7 f7) l7 f7 = (rf, l8, f8)
  bi : Int
  bt : Int
  bc : Int
  l9 : List UInt8
  f9 : Nat
  h9 : rI (wth (fm (k : Int)) 32) (0, 0, 0) (rbase l8 f8) l8 f8 = ((bi, bt, bc), l9, f9)
  o : Nat
  l10 : List UInt8
  f10 : Nat
  h10 : rI (wth (fm (k : Int)) 64) 0 (rnum 32768 l9 f9) l9 f9 = (o, l10, f10)
  la : Nat
  l11 : List UInt8
  f11 : Nat
  h11 : rI (wth (fm (k : Int)) 128) 0 (rbyte 1 l10 f10) l10 f10 = (la, l11, f11)
  d : List UInt8
  h12 : rI (wth (fm (k : Int)) 256) [] (rtext 256 l11 f11) l11 f11 = (d, l', f')
  hm : m = ⟨(k : Int), (a : Int), (b : Int), (t : Int), (i : Int), (lt : Int), es, (co : Int), rf == 1, bi, bt, bc, (o : Int), d, la == 1⟩
theorem ReadM.is {l l' : List UInt8} {m : MsgD} {f' : Nat} (h : ReadM l m l' f') : readM l = (m, l', f') := by
  obtain ⟨k, l0, f0, h0, a, l1, f1, h1, b, l2, f2, h2, t, l3, f3, h3, i, l4, f4, h4, lt, l5, f5, h5, co, l6, f6, h6, es, l7, f7, h7, rf, l8, f8, h8, bi, bt, bc, l9, f9, h9, o, l10, f10, h10, la, l11, f11, h11, d, h12, rfl⟩ := h
  simp only [readM, h0, h1, h2, h3, h4, h5, h6, h7, h8, h9, h10, h11, h12]
theorem readM_steps {l l' : List UInt8} {m : MsgD} {f' : Nat} (h : readM l = (m, l', f')) : Nonempty (ReadM l m l' f') := by
  obtain ⟨⟨k, l0, f0⟩, h0⟩ : ∃ R, rbyte 6 l 0 = R := ⟨_, rfl⟩
  obtain ⟨⟨a, l1, f1⟩, h1⟩ : ∃ R, rI (k != 0) 0 (rbyte 7 l0 f0) l0 f0 = R := ⟨_, rfl⟩
  obtain ⟨⟨b, l2, f2⟩, h2⟩ : ∃ R, rI (k != 0) 0 (rbyte 7 l1 f1) l1 f1 = R := ⟨_, rfl⟩
  obtain ⟨⟨t, l3, f3⟩, h3⟩ : ∃ R, rI (k != 0) 0 (rnum 72057594037927935 l2 f2) l2 f2 = R := ⟨_, rfl⟩
  obtain ⟨⟨i, l4, f4⟩, h4⟩ : ∃ R, rI (wth (fm (k : Int)) 1) 0 (rnum 72057594037927935 l3 f3) l3 f3 = R := ⟨_, rfl⟩
  obtain ⟨⟨lt, l5, f5⟩, h5⟩ : ∃ R, rI (wth (fm (k : Int)) 2) 0 (rnum 72057594037927935 l4 f4) l4 f4 = R := ⟨_, rfl⟩
  obtain ⟨⟨co, l6, f6⟩, h6⟩ : ∃ R, rI (wth (fm (k : Int)) 4) 0 (rnum 72057594037927935 l5 f5) l5 f5 = R := ⟨_, rfl⟩
  obtain ⟨⟨es, l7, f7⟩, h7⟩ : ∃ R, rI (wth (fm (k : Int)) 8) [] (rlist l6 f6) l6 f6 = R := ⟨_, rfl⟩
  obtain ⟨⟨rf, l8, f8⟩, h8⟩ : ∃ R, rI (wth (fm (k : Int)) 16) 0 (rbyte 1 l7 f7) l7 f7 = R := ⟨_, rfl⟩
  obtain ⟨⟨⟨bi, bt, bc⟩, l9, f9⟩, h9⟩ : ∃ R, rI (wth (fm (k : Int)) 32) ((0 : Int), (0 : Int), (0 : Int)) (rbase l8 f8) l8 f8 = R := ⟨_, rfl⟩
  obtain ⟨⟨o, l10, f10⟩, h10⟩ : ∃ R, rI (wth (fm (k : Int)) 64) 0 (rnum 32768 l9 f9) l9 f9 = R := ⟨_, rfl⟩
  obtain ⟨⟨la, l11, f11⟩, h11⟩ : ∃ R, rI (wth (fm (k : Int)) 128) 0 (rbyte 1 l10 f10) l10 f10 = R := ⟨_, rfl⟩
  obtain ⟨⟨d, l12, f12⟩, h12⟩ : ∃ R, rI (wth (fm (k : Int)) 256) [] (rtext 256 l11 f11) l11 f11 = R := ⟨_, rfl⟩
  have R : ReadM l _ l12 f12 := ⟨k, l0, f0, h0, a, l1, f1, h1, b, l2, f2, h2, t, l3, f3, h3, i, l4, f4, h4, lt, l5, f5, h5, co, l6, f6, h6, es, l7, f7, h7, rf, l8, f8, h8, bi, bt, bc, l9, f9, h9, o, l10, f10, h10, la, l11, f11, h11, d, h12, rfl⟩
  have e := R.is.symm.trans h
  simp only [Prod.mk.injEq] at e
  obtain ⟨e1, rfl, rfl⟩ := e
  exact ⟨e1 ▸ R⟩
end Go.Proofs.Ytnhcbjlaeaohjaa

namespace Go.Proofs.Ytnhcbjlaeaohjaa

theorem rnum_most (most : Nat) (l : List UInt8) (f : Nat) : (rnum most l f).1 ≤ most := by
  unfold rnum
  split
  · exact Nat.zero_le _
  · rcases vnum_ends most l 0 0 (by omega) (by decide) with ⟨_, _, _, h, _⟩ | ⟨h, _⟩
    · exact h
    · show (vnum most l 0 0).1 ≤ _
      rw [h]; exact Nat.zero_le _
/-- the numbers of a message that may be -/
structure NumsD (m : MsgD) : Prop where
  k : 1 ≤ m.k ∧ m.k ≤ 6
  i : 0 ≤ m.i ∧ m.i ≤ 72057594037927935
  lt : 0 ≤ m.lt ∧ m.lt ≤ 72057594037927935
  co : 0 ≤ m.co ∧ m.co ≤ 72057594037927935
  bi : 0 ≤ m.bi ∧ m.bi ≤ 72057594037927935
  bt : 0 ≤ m.bt ∧ m.bt ≤ 72057594037927935
  bc : 0 ≤ m.bc ∧ m.bc ≤ 254
  o : 0 ≤ m.o ∧ m.o ≤ 32768
  es : m.es.length ≤ 4 ∧ ∀ e, e ∈ m.es → rightE e = true
  d : m.d.length ≤ 256
theorem low_of {b : Bool} {n : Int} (h : mayB b (lowB n) (n == 0) = true) (hn : U64 n) : 0 ≤ n ∧ n ≤ 72057594037927935 := by
  have h0 := hn.1
  cases hb : b
  · have := mayB_f h hb; simp at this; omega
  · have := mayB_t h hb; unfold lowB at this; simp at this; omega
theorem numsD {m : MsgD} (hi : U64 m.i) (hlt : U64 m.lt) (hco : U64 m.co) (h : rightM m = true) : NumsD m := by
  have R := rightM_iff h
  have hk := fm_kinds R.k
  have hb : (0 ≤ m.bi ∧ m.bi ≤ 72057594037927935) ∧ (0 ≤ m.bt ∧ m.bt ≤ 72057594037927935) ∧ (0 ≤ m.bc ∧ m.bc ≤ 254) := by
    cases hb : wth (fm m.k) 32
    · have := mayB_f R.ba hb
      unfold zeroB at this
      simp at this
      omega
    · have := mayB_t R.ba hb
      unfold baseB at this
      simp only [Bool.and_eq_true, bne_iff_ne, ne_eq] at this
      obtain ⟨⟨⟨h1, h2⟩, h3⟩, _⟩ := this
      have h1 := numB_iff h1
      have h2 := numB_iff h2
      have h3 := setB_iff h3
      omega
  have ho : 0 ≤ m.o ∧ m.o ≤ 32768 := by
    cases hb : wth (fm m.k) 64
    · have := mayB_f R.o hb
      simp at this
      omega
    · have := mayB_t R.o hb
      unfold offB at this
      simp at this
      omega
  have he : m.es.length ≤ 4 ∧ ∀ e, e ∈ m.es → rightE e = true := by
    cases hb : wth (fm m.k) 8
    · have := mayB_f R.es hb
      simp at this
      rw [this]
      exact ⟨by simp, fun e he => by cases he⟩
    · have := mayB_t R.es hb
      unfold entsB at this
      simp only [Bool.and_eq_true, decide_eq_true_eq] at this
      exact ⟨this.1, follow_right this.2⟩
  have hd : m.d.length ≤ 256 := by
    cases hb : wth (fm m.k) 256
    · have := mayB_f R.d hb
      simp at this
      rw [this]; simp
    · have := mayB_t R.d hb
      simpa using this
  exact ⟨by omega, low_of R.i hi, low_of R.lt hlt, low_of R.co hco, hb.1, hb.2.1, hb.2.2, ho, he, hd⟩
/-! ## Its bytes are few -/
theorem layT_len2 {t : List UInt8} (h : t.length ≤ 256) : (layT t).length ≤ 258 := by
  unfold layT
  have := vlay_length_pow 1 t.length (by omega)
  rw [List.length_append]
  omega
theorem layT_lenE {t : List UInt8} (h : t.length ≤ 147) : (layT t).length ≤ 149 := by
  unfold layT
  have := vlay_length_pow 1 t.length (by omega)
  rw [List.length_append]
  omega
theorem layEs_len : ∀ {es : List EntD}, (∀ e, e ∈ es → rightE e = true) → (layEs es).length ≤ 149 * es.length
  | [], _ => by simp [layEs]
  | e :: es, h => by
    have h1 := layT_lenE (layE_len (h e (List.mem_cons_self ..)))
    have h2 := layEs_len (es := es) fun x hx => h x (List.mem_cons_of_mem _ hx)
    have e1 : layEs (e :: es) = layT (layE e) ++ layEs es := by simp [layEs]
    rw [e1, List.length_append, List.length_cons]
    omega
theorem opt_len' (b : Bool) {x : List UInt8} {n : Nat} (h : x.length ≤ n) : (opt b x).length ≤ n := Nat.le_trans (opt_len b x) h
theorem layM_len {m : MsgD} (hi : U64 m.i) (hlt : U64 m.lt) (hco : U64 m.co) (h : rightM m = true) : (layM m).length ≤ 1000 := by
  have R := rightM_iff h
  have N := numsD hi hlt hco h
  have a0 : (headM m).length = 3 := rfl
  have a1 := layU_mlen R.t.2
  have a2 := opt_len' (wth (fm m.k) 1) (layU_mlen N.i.2)
  have a3 := opt_len' (wth (fm m.k) 2) (layU_mlen N.lt.2)
  have a4 := opt_len' (wth (fm m.k) 4) (layU_mlen N.co.2)
  have a5 : (opt (wth (fm m.k) 8) (layN m.es)).length ≤ 597 := by
    refine opt_len' _ ?_
    have h1 := layEs_len N.es.2
    have h2 := vlay_length_pow 0 m.es.length (by have := N.es.1; omega)
    have h3 := N.es.1
    unfold layN
    rw [List.length_append]
    omega
  have a6 : (opt (wth (fm m.k) 16) [UInt8.ofNat (flagN m.rf)]).length ≤ 1 := opt_len' _ (by simp)
  have a7 : (opt (wth (fm m.k) 32) (layB (m.bi, m.bt, m.bc))).length ≤ 17 := by
    refine opt_len' _ ?_
    have h1 := layU_mlen N.bi.2
    have h2 := layU_mlen N.bt.2
    unfold layB
    simp only [List.length_append, List.length_cons, List.length_nil]
    omega
  have a8 := opt_len' (wth (fm m.k) 64) (layU_mlen (n := m.o) (by have := N.o.2; omega))
  have a9 : (opt (wth (fm m.k) 128) [UInt8.ofNat (flagN m.la)]).length ≤ 1 := opt_len' _ (by simp)
  have a10 := opt_len' (wth (fm m.k) 256) (layT_len2 N.d)
  unfold layM
  simp only [List.length_append]
  omega

/-! ## What was read is laid so -/
theorem back_u {most : Nat} {b : Bool} {l l' : List UInt8} {f n : Nat} (h : rI b 0 (rnum most l f) l f = (n, l', 0)) : f = 0 ∧ l = opt b (layU (n : Int)) ++ l' :=
  (good_if (good_num most) b 0 (by decide)).back_of h
theorem rbyte_one {l l' : List UInt8} {f f' n : Nat} (h : rbyte 1 l f = (n, l', f')) : n ≤ 1 := by
  unfold rbyte at h
  split at h
  · simp only [Prod.mk.injEq] at h; omega
  · cases l with
    | nil => simp only [Prod.mk.injEq] at h; omega
    | cons x r =>
      simp only at h
      split at h <;> simp only [Prod.mk.injEq] at h <;> omega
theorem flagN_of {n : Nat} (h : n ≤ 1) : flagN (n == 1) = n := by
  rcases (show n = 0 ∨ n = 1 by omega) with rfl | rfl <;> rfl
theorem back_f {b : Bool} {l l' : List UInt8} {f n : Nat} (h : rI b 0 (rbyte 1 l f) l f = (n, l', 0)) : f = 0 ∧ l = opt b [UInt8.ofNat (flagN (n == 1))] ++ l' := by
  have hb := (good_if (good_byte 1) b 0 (by decide)).back_of h
  cases b with
  | true =>
    rw [flagN_of (rbyte_one (h : rbyte 1 l f = (n, l', 0)))]
    exact hb
  | false => exact hb
theorem readM_back {l : List UInt8} {m : MsgD} (h : readM l = (m, [], 0)) (hk : fm m.k ≠ 0) : l = layM m := by
  obtain ⟨⟨k, l0, f0, h0, a, l1, f1, h1, b, l2, f2, h2, t, l3, f3, h3, i, l4, f4, h4, lt, l5, f5, h5, co, l6, f6, h6, es, l7, f7, h7, rf, l8, f8, h8, bi, bt, bc, l9, f9, h9, o, l10, f10, h10, la, l11, f11, h11, d, h12, rfl⟩⟩ := readM_steps h
  have hk : fm (k : Int) ≠ 0 := hk
  have kt : (k != 0) = true := by
    have := fm_kinds hk
    rw [bne_iff_ne]; omega
  rw [kt] at h1 h2 h3
  obtain ⟨rfl, b12⟩ := (good_if (good_text 256) _ _ trivial).back_of h12
  obtain ⟨rfl, b11⟩ := back_f h11
  obtain ⟨rfl, b10⟩ := back_u h10
  obtain ⟨rfl, b9⟩ := (good_if good_base _ _ ⟨⟨by decide, by decide⟩, ⟨by decide, by decide⟩, by decide, by decide⟩).back_of h9
  obtain ⟨rfl, b8⟩ := back_f h8
  obtain ⟨rfl, b7⟩ := (good_if good_list _ _ (fun e he => by cases he)).back_of h7
  obtain ⟨rfl, b6⟩ := back_u h6
  obtain ⟨rfl, b5⟩ := back_u h5
  obtain ⟨rfl, b4⟩ := back_u h4
  obtain ⟨rfl, b3⟩ := (good_num _).back_of (h3 : rnum 72057594037927935 l2 f2 = (t, l3, 0))
  obtain ⟨rfl, b2⟩ := (good_byte _).back_of (h2 : rbyte 7 l1 f1 = (b, l2, 0))
  obtain ⟨rfl, b1⟩ := (good_byte _).back_of (h1 : rbyte 7 l0 f0 = (a, l1, 0))
  obtain ⟨_, b0⟩ := (good_byte _).back_of h0
  rw [b0, b1, b2, b3, b4, b5, b6, b7, b8, b9, b10, b11, b12]
  simp [layM, headM, layU]
theorem rI_range {α : Type} {P : List UInt8 → Nat → α × List UInt8 × Nat} {enc : α → List UInt8} {dom rng : α → Prop} (h : Good P enc dom rng) {b : Bool} {z : α} (hz : rng z) {l l' : List UInt8} {f f' : Nat} {x : α} (e : rI b z (P l f) l f = (x, l', f')) : rng x :=
  (good_if h b z hz).ok_of e
/-- what is read is within its bounds -/
theorem readM_ok {l l' : List UInt8} {m : MsgD} {f' : Nat} (hd : l.length ≤ 9223372036854775807) (h : readM l = (m, l', f')) (hD : m.d.length ≤ 9223372036854775807) (hE : m.es.length ≤ 9223372036854775807) : m.ok := by
  obtain ⟨⟨k, l0, f0, h0, a, l1, f1, h1, b, l2, f2, h2, t, l3, f3, h3, i, l4, f4, h4, lt, l5, f5, h5, co, l6, f6, h6, es, l7, f7, h7, rf, l8, f8, h8, bi, bt, bc, l9, f9, h9, o, l10, f10, h10, la, l11, f11, h11, d, h12, rfl⟩⟩ := readM_steps h
  have a0 := (good_byte _).ok_of h0
  have a1 := rI_range (good_byte 7) (by decide) h1
  have a2 := rI_range (good_byte 7) (by decide) h2
  have a3 := rI_range (good_num _) (by decide) h3
  have a4 := rI_range (good_num _) (by decide) h4
  have a5 := rI_range (good_num _) (by decide) h5
  have a6 := rI_range (good_num _) (by decide) h6
  have a7 := rI_range good_list (fun e he => by cases he) h7
  have a9 := rI_range good_base ⟨⟨by decide, by decide⟩, ⟨by decide, by decide⟩, by decide, by decide⟩ h9
  have a10 : o ≤ 18446744073709551615 ∧ o ≤ 9223372036854775807 := by
    cases hb : wth (fm (k : Int)) 64
    · rw [hb] at h10
      have h10 : ((0 : Nat), l9, f9) = (o, l10, f10) := h10
      simp only [Prod.mk.injEq] at h10
      omega
    · rw [hb] at h10
      have h10 : rnum 32768 l9 f9 = (o, l10, f10) := h10
      have := rnum_most 32768 l9 f9
      rw [h10] at this
      simp only at this
      omega
  simp only at a9
  obtain ⟨c1, c2, c3⟩ := a9
  exact ⟨⟨by simp only; omega, by simp only; omega⟩, ⟨by simp only; omega, by simp only; omega⟩, ⟨by simp only; omega, by simp only; omega⟩, ⟨by simp only; omega, by simp only; omega⟩, ⟨by simp only; omega, by simp only; omega⟩, ⟨by simp only; omega, by simp only; omega⟩,
    ⟨hE, fun e he => rightE_ok (a7 e he)⟩, ⟨by simp only; omega, by simp only; omega⟩, c1, c2, ⟨by simp only; omega, by simp only; omega⟩, ⟨by simp only; omega, by simp only; omega⟩, hD⟩

/-! ## Decode -/
/-- what Decode answers -/
def decM (l : List UInt8) : MsgD × Nat :=
  if 1024 < l.length then (.zero, 12)
  else match unsealed l with
    | (x, e) => if e ≠ 0 then (.zero, e) else match readM x with
      | (m, l', f') => if rend l' f' ≠ 0 then (.zero, rend l' f') else if rightM m then (m, 0) else (.zero, 11)
theorem decM_long {l : List UInt8} (h : 1024 < l.length) : decM l = (.zero, 12) := by
  unfold decM
  rw [if_pos h]
theorem decM_seal {l x : List UInt8} {e : Nat} (h : ¬ 1024 < l.length) (hu : unsealed l = (x, e)) (he : e ≠ 0) : decM l = (.zero, e) := by
  unfold decM
  rw [if_neg h, hu]
  simp only
  rw [if_pos he]
theorem decM_bad {l x l' : List UInt8} {m : MsgD} {f' : Nat} (h : ¬ 1024 < l.length) (hu : unsealed l = (x, 0)) (hr : readM x = (m, l', f')) (hf : rend l' f' ≠ 0) : decM l = (.zero, rend l' f') := by
  unfold decM
  rw [if_neg h, hu]
  simp only
  rw [if_neg (by simp), hr]
  simp only
  rw [if_pos hf]
theorem decM_wrong {l x l' : List UInt8} {m : MsgD} {f' : Nat} (h : ¬ 1024 < l.length) (hu : unsealed l = (x, 0)) (hr : readM x = (m, l', f')) (hf : rend l' f' = 0) (hR : rightM m = false) : decM l = (.zero, 11) := by
  unfold decM
  rw [if_neg h, hu]
  simp only
  rw [if_neg (by simp), hr]
  simp only
  rw [if_neg (by simp [hf]), hR]
  rfl
theorem decM_right {l x l' : List UInt8} {m : MsgD} {f' : Nat} (h : ¬ 1024 < l.length) (hu : unsealed l = (x, 0)) (hr : readM x = (m, l', f')) (hf : rend l' f' = 0) (hR : rightM m = true) : decM l = (m, 0) := by
  unfold decM
  rw [if_neg h, hu]
  simp only
  rw [if_neg (by simp), hr]
  simp only
  rw [if_neg (by simp [hf]), hR]
  rfl
theorem sealed_len (l : List UInt8) : (sealed l).length = l.length + 4 := by simp [sealed, le4]
theorem unsealed_back {l x : List UInt8} (h : unsealed l = (x, 0)) : l = sealed x := by
  unfold unsealed at h
  split at h
  · simp at h
  · split at h
    · rename_i hs
      simp only [Prod.mk.injEq] at h
      rw [← h.1]
      unfold sealed
      rw [← hs, List.take_append_drop]
    · simp at h
/-- what Encode lays -/
def encM (m : MsgD) : List UInt8 := sealed (layM m)
/-- what is decoded is laid as it was -/
theorem decM_back (l : List UInt8) : ((decM l).2 ≠ 0 ∧ (decM l).1 = .zero) ∨ ((decM l).2 = 0 ∧ rightM (decM l).1 = true ∧ encM (decM l).1 = l ∧ (decM l).1.ok) := by
  by_cases h : 1024 < l.length
  · rw [decM_long h]; exact .inl ⟨by simp, rfl⟩
  · obtain ⟨⟨x, e⟩, hu⟩ : ∃ R, unsealed l = R := ⟨_, rfl⟩
    by_cases he : e = 0
    · subst he
      obtain ⟨⟨m, l', f'⟩, hr⟩ : ∃ R, readM x = R := ⟨_, rfl⟩
      by_cases hf : rend l' f' = 0
      · cases hR : rightM m
        · rw [decM_wrong h hu hr hf hR]; exact .inl ⟨by simp, rfl⟩
        · rw [decM_right h hu hr hf hR]
          obtain ⟨rfl, rfl⟩ := rend_zero hf
          have hb := readM_back hr (rightM_iff hR).k
          have hx : x.length ≤ 1024 := by
            have := unsealed_back hu
            rw [this, sealed_len] at h
            omega
          have hes : m.es.length ≤ 9223372036854775807 := by
            cases hb : wth (fm m.k) 8
            · have := mayB_f (rightM_iff hR).es hb
              simp at this
              rw [this]; simp
            · have := mayB_t (rightM_iff hR).es hb
              unfold entsB at this
              simp only [Bool.and_eq_true, decide_eq_true_eq] at this
              omega
          have hd : m.d.length ≤ 9223372036854775807 := by
            cases hb : wth (fm m.k) 256
            · have := mayB_f (rightM_iff hR).d hb
              simp at this
              rw [this]; simp
            · have := mayB_t (rightM_iff hR).d hb
              simp at this
              omega
          refine .inr ⟨rfl, hR, ?_, readM_ok (by omega) hr hd hes⟩
          unfold encM
          simp only
          rw [← hb]
          exact (unsealed_back hu).symm
      · rw [decM_bad h hu hr hf]; exact .inl ⟨hf, rfl⟩
    · rw [decM_seal h hu he]; exact .inl ⟨he, rfl⟩
end Go.Proofs.Ytnhcbjlaeaohjaa
