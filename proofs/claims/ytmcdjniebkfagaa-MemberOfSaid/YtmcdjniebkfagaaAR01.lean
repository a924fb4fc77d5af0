/-
  App · MbJ
-/
import Derived.Test.YtmcdjniebkfagaaAE03
import Derived.Test.YtmcdjniebkfagaaAQ01
set_option linter.unusedSimpArgs false
set_option linter.unusedVariables false

namespace Go.Proofs.Ytmcdjniebkfagaa.Sep
open Go.RowKit
open Go.Proofs.Ytmcdjniebkfagaa.Mem (Dist Blk Chg)
section
variable {P : Program} {t e ty : TypeId} {k : Nat} {α : Type} {enc : α → List Value} {v u : Value} {l m : List α} {w w' : World} {rs : List RowT}
theorem run_appendK {nb : Nat} (hT : SliceT P t e k) (hb : (P.info? e).map (fun i => i.bytes) = some nb) (hb1 : 1 ≤ nb) (he : EncOf k enc) (h : Vec e k enc v l rs) (hr : RowsOf w rs) (hd : Dist rs) (hu : SlRd w k u m.length (flat enc m)) (hlen : (l.length + m.length) * nb ≤ 140737488355328) :
    ∃ v' w', (Builtin.append_ #[t, t] ty #[v, u]).run P w = .ok v' w' ∧ ∃ rs', Vec e k enc v' (l ++ m) rs' ∧ Chg w w' rs rs' := by
  obtain ⟨i, z, hi, hz, hk, hby, hzs, _⟩ := hT.inf
  have hbn : i.bytes = nb := by simpa [hi] using hb
  have hl1 : l.length + m.length ≤ 140737488355328 := Nat.le_trans (Nat.le_mul_of_pos_right _ hb1) hlen
  obtain ⟨hul, A, c, rfl, hA⟩ := hu
  have hu1 := flat_one he m
  rcases hA with ⟨rfl, hm⟩ | ⟨a, rfl, hcells⟩
  · have hm' : m = [] := List.length_eq_zero_iff.1 hm
    subst hm'
    refine ⟨v, w, ?_, rs, by simpa using h, ⟨Mod.refl _ _, hr, hd, fun x hx _ => ⟨x, hx, rfl⟩⟩⟩
    rcases h with ⟨h1, h2, h3⟩ | ⟨g, c', cs, h1, h2, h3, h4, h5, h6⟩
    · subst h1
      simp [Builtin.append_, run_underlying hT.ht, sizeOf, typeInfo, hi, Builtin.lenOf, Builtin.firstCells]
    · subst h1
      simp [Builtin.append_, run_underlying hT.ht, sizeOf, typeInfo, hi, Builtin.lenOf, Builtin.firstCells, h2, storeCells]
  · have hown : w.ownsRow 0 e k v l.length (flat enc l) := by
      refine ⟨flat_len he l, ?_⟩
      rcases h with ⟨h1, h2, h3⟩ | ⟨g, c', cs, h1, h2, h3, h4, h5, h6⟩
      · exact .inl ⟨h1, by rw [h2]; rfl⟩
      · subst h6
        exact .inr ⟨g, c', cs, h1, Nat.zero_le _, hr.1, h2, h3, h4, h5⟩
    obtain ⟨v', w', hrun, h2, h3, _, h5⟩ := run_append_own_at (P := P) w 0 t ty e i z k i.bytes hT.ht hi hz hk rfl hzs hT.pos v l.length (flat enc l) hown a m.length c (flat enc m) hul hcells hu1 (by unfold maxLen; omega)
      (by rw [hbn]; omega) (Nat.zero_le _)
    refine ⟨v', w', hrun, ?_⟩
    have hm : Mod (At v) w w' := Mod.of_grown h3 (fun k hk => hk)
    have hmB : Mod (Blk rs) w w' := hm.weaken fun j _ hj => by
      rcases h with ⟨h1, _, _⟩ | ⟨g, c', cs, h1, _, _, _, _, h6⟩
      · subst h1; unfold At at hj; simp [Value.ownBlock] at hj
      · subst h1; subst h6
        unfold At at hj
        simp [Value.ownBlock] at hj
        exact ⟨(g, tyR e, cs), by simp, hj⟩
    rcases h2.2 with ⟨h1, hn⟩ | ⟨g, c', cs, h1, _, hrow, hle, hmx, hsz, htk⟩
    · have : l ++ m = [] := List.length_eq_zero_iff.1 (by rw [List.length_append]; exact hn)
      exact ⟨[], .inl ⟨h1, this, rfl⟩, ⟨hmB, trivial, trivial, fun x hx => by simp at hx⟩⟩
    · refine ⟨[(g, tyR e, cs)], .inr ⟨g, c', cs, by rw [h1, List.length_append], by rw [List.length_append]; exact hle, hmx, hsz, by rw [List.length_append, flat_app]; exact htk, rfl⟩, ⟨hmB, ⟨hrow, trivial⟩, ⟨(fun _ h => by cases h), trivial⟩, fun x hx hlt => ?_⟩⟩
      have : x = (g, tyR e, cs) := by simpa using hx
      subst this
      rcases h5 with h5 | h5
      · subst h1
        rcases h with ⟨h1, _, _⟩ | ⟨g', c'', cs', h1, _, _, _, _, h6⟩
        · subst h1; simp [Value.ownBlock] at h5
        · subst h1; subst h6
          simp [Value.ownBlock] at h5
          exact ⟨(g', tyR e, cs'), by simp, h5.symm⟩
      · subst h1
        simp [Value.ownBlock] at h5
        exact absurd hlt (by show ¬ g < w.heap.size; omega)
variable {Q : Exit → Act → World → Prop} {n : Nat} {B : Nat → Prop} {w0 : World} {os : List Ass} {env : List (Nat × Value)} {o : Oper}
theorem a_appendK {nb : Nat} (i : Nat) (hT : SliceT P t e k) (he : EncOf k enc) (hb : (P.info? e).map (fun i => i.bytes) = some nb) (hb1 : 1 ≤ nb) (hi : os[i]? = some (Vec e k enc v l)) (m : List α) (hu : ∀ w, Hp B w0 w os → SlRd w k u m.length (flat enc m)) (hlen : (l.length + m.length) * nb ≤ 140737488355328) {x y : Operand} (ho : o.op = .call { callee := .builtin .append, args := #[x, y], argTypes := #[t, t] }) (hx : evs env x = some v) (hy : evs env y = some u) {r : List α} (hr : l ++ m = r) :
    Acts P Q n env B w0 os o (fun v : Value => v) (fun v' => os.set i (Vec e k enc v' r)) := fun act w hH hF K hK => by
  subst hr
  have hH' := hH
  obtain ⟨rs0, hp, hm⟩ := hH
  obtain ⟨a, z, b, e1, hz, hbb⟩ := hp.at_ hi
  subst e1
  have p : (a ++ (z ++ b)).Perm (z ++ (a ++ b)) := by rw [← List.append_assoc, ← List.append_assoc]; exact List.perm_append_comm.append_right b
  have h5 := hp_perm hm p
  have hd := dist_iff.1 h5.apart
  rw [List.map_append] at hd
  obtain ⟨v', w', hr, y', hy', hc⟩ := run_appendK (P := P) (ty := o.type) hT hb hb1 he hz (rows_iff.2 fun z hz => h5.rows.mem z (by simp [hz])) (dist_iff.2 (List.nodup_append.1 hd).1) (hu w hH') hlen
  have p' : (y' ++ (a ++ b)).Perm (a ++ (y' ++ b)) := by rw [← List.append_assoc, ← List.append_assoc]; exact List.perm_append_comm.append_right b
  refine a_val (w0 := w) act (exec_bi ho (vs := [v, u]) (by simp [evl, hx, hy]) (fun cs => ?_) hF) (hK v' w' ⟨_, hbb _ y' hy', hp_perm (hp_chg h5 hc) p'⟩)
  simp only [builtin, Sem.run_bind, Sem.run_pure, Result.andThen_ok, hr]
end
end Go.Proofs.Ytmcdjniebkfagaa.Sep

namespace Go.Proofs.Ytmcdjniebkfagaa.Sep
open Go.RowKit
open Go.Proofs.Ytmcdjniebkfagaa.Mem (Dist Blk Chg below0)

theorem mst_mono {s v v' : Int} (h : ∀ k, k ∈ nds s → bt v k = true → bt v' k = true) (hm : mst s v = true) : mst s v' = true := by
  unfold mst at *
  simp only [decide_eq_true_eq] at *
  have := List.countP_mono_left (l := nds s) (p := bt v) (q := bt v') h
  omega
theorem nds_7 {s : Int} {k : Nat} (h : k ∈ nds s) : hs s (k : Int) = true ∧ 1 ≤ k ∧ k ≤ 7 := by
  have h1 := nds_mem.1 h
  have := (may_iff.1 (hs_may h1)).2
  exact ⟨h1, by omega, by omega⟩
theorem idxN_step (s : Int) (l : List Int) (n : Nat) : idxN s l n ≤ idxN s l (n + 1) := by
  by_cases h : hs s (n : Int) = true ∧ idxN s l n < num l n ∧ mst s ((rch s (num l n) l 8 : Nat) : Int) = true
  · rw [idxN_yes h]; omega
  · rw [idxN_not h]; omega
theorem idxN_ge (s : Int) (l : List Int) : ∀ n k : Nat, k < n → hs s (k : Int) = true → mst s ((rch s (num l k) l 8 : Nat) : Int) = true → num l k ≤ idxN s l n
  | 0, _, h, _, _ => absurd h (by omega)
  | n + 1, k, h, h1, h2 => by
    have hs1 := idxN_step s l n
    by_cases hk : k = n
    · subst hk
      rcases Int.lt_or_le (idxN s l k) (num l k) with hlt | hle
      · rw [idxN_yes ⟨h1, hlt, h2⟩]; omega
      · omega
    · have := idxN_ge s l n k (by omega) h1 h2
      omega
theorem idxN_is (s : Int) (l : List Int) : ∀ n, idxN s l n = 0 ∨ mst s ((rch s (idxN s l n) l 8 : Nat) : Int) = true
  | 0 => .inl rfl
  | n + 1 => by
    by_cases h : hs s (n : Int) = true ∧ idxN s l n < num l n ∧ mst s ((rch s (num l n) l 8 : Nat) : Int) = true
    · rw [idxN_yes h]; exact .inr h.2.2
    · rw [idxN_not h]; exact idxN_is s l n
theorem least_of {α : Type} (f : α → Int) : ∀ l : List α, l ≠ [] → ∃ a, a ∈ l ∧ ∀ b, b ∈ l → f a ≤ f b
  | [], h => absurd rfl h
  | [a], _ => ⟨a, by simp, by simp⟩
  | a :: b :: l, _ => by
    obtain ⟨c, hc, hm⟩ := least_of f (b :: l) (by simp)
    by_cases h : f a ≤ f c
    · exact ⟨a, by simp, fun x hx => by
        rcases List.mem_cons.1 hx with rfl | hx
        · exact Int.le_refl _
        · exact Int.le_trans h (hm x hx)⟩
    · exact ⟨c, by simp [hc], fun x hx => by
        rcases List.mem_cons.1 hx with rfl | hx
        · omega
        · exact hm x hx⟩
/-- what the law gathers: the nodes of a set that have so much, or more -/
def geP (s : Int) (l : List Int) (N : Int) (k : Nat) : Bool := hs s (k : Int) && decide (N ≤ num l k)
def gtP (s : Int) (l : List Int) (N : Int) (k : Nat) : Bool := hs s (k : Int) && decide (N < num l k)
theorem bt_min {p : Nat → Bool} {m k : Nat} (hk : k ≤ 7) : bt ((mk p (min m 8) : Nat) : Int) k = (decide (k < m) && p k) := by
  rw [mk_bt p (by omega)]
  rw [show decide (k < min m 8) = decide (k < m) by rw [decide_eq_decide]; omega]
theorem more_not {s : Int} {l : List Int} (hlo : ∀ x ∈ l, 0 ≤ x) {N c : Int} (hN : idxN s l 8 = N) (hc : ((mk (gtP s l N) (min l.length 8) : Nat) : Int) = c) : mst s c = false := by
  cases hm : mst s c with
  | false => rfl
  | true =>
    exfalso
    subst hc
    have hb : ∀ k, k ∈ nds s → bt ((mk (gtP s l N) (min l.length 8) : Nat) : Int) k = true → N < num l k := fun k hk h => by
      obtain ⟨h1, h2, h3⟩ := nds_7 hk
      rw [bt_min h3] at h
      unfold gtP at h
      simp at h
      exact h.2.2
    have hne : (nds s).filter (bt ((mk (gtP s l N) (min l.length 8) : Nat) : Int)) ≠ [] := fun e => by
      have h2 := hm
      unfold mst at h2
      rw [List.countP_eq_length_filter, e] at h2
      simp at h2
    obtain ⟨a, ha, hmin⟩ := least_of (fun k => num l k) _ hne
    obtain ⟨ha1, ha2⟩ := List.mem_filter.1 ha
    obtain ⟨h1, h2, h3⟩ := nds_7 ha1
    have h4 := idxN_ge s l 8 a (by omega) h1 (mst_mono (fun k hk hbk => by
      obtain ⟨q1, q2, q3⟩ := nds_7 hk
      unfold rch
      rw [mk_bt _ (by decide)]
      have := hmin k (List.mem_filter.2 ⟨hk, hbk⟩)
      unfold rchP
      rw [q1]
      simp
      omega) hm)
    have := hb a ha1 ha2
    omega
theorem some_is {s : Int} {l : List Int} (hlo : ∀ x ∈ l, 0 ≤ x) {N a : Int} (hN : idxN s l 8 = N) (h0 : N ≠ 0) (ha : ((mk (geP s l N) (min l.length 8) : Nat) : Int) = a) : mst s a = true := by
  subst ha
  have hp : 0 < N := by
    have h1 : 0 ≤ idxN s l 8 := by
      have h2 : ∀ n, 0 ≤ idxN s l n := fun n => by
        induction n with
        | zero => exact Int.le_refl 0
        | succ n ih => have := idxN_step s l n; omega
      exact h2 8
    omega
  rcases idxN_is s l 8 with h | h
  · omega
  · rw [hN] at h
    refine mst_mono (fun k hk hb => ?_) h
    obtain ⟨q1, q2, q3⟩ := nds_7 hk
    unfold rch at hb
    rw [mk_bt _ (by decide)] at hb
    unfold rchP at hb
    simp at hb
    rw [bt_min q3]
    unfold geP
    have hlt : k < l.length := by
      rcases Nat.lt_or_ge k l.length with h | h
      · exact h
      · have := num_out (l := l) (n := k) (by omega); omega
    simp [hlt, hb.2]
theorem mkm_no {p : Nat → Bool} {i : Nat} {z : Int} (hz : ((mk p (min i 8) : Nat) : Int) = z) (hp : i ≤ 7 → p i = false) : ((mk p (min (i + 1) 8) : Nat) : Int) = z := by
  by_cases h : i ≤ 7
  · rw [show min (i + 1) 8 = i + 1 by omega]
    exact mk_no (by rw [← hz, show min i 8 = i by omega]) (hp h)
  · rw [show min (i + 1) 8 = min i 8 by omega]; exact hz
theorem mkm_yes {p : Nat → Bool} {i : Nat} {z q y : Int} (hz : ((mk p (min i 8) : Nat) : Int) = z) (h1 : 1 ≤ i) (h7 : i ≤ 7) (hp : p i = true) (hq : (2 : Int) ^ ((i : Int)).toNat = q) (hy : ((mk p (min (i + 1) 8) : Nat) : Int) = y) : bits .or .i64 z q = y := mk_yes (by rw [← hz, show min i 8 = i by omega]) h1 h7 hp hq (by rw [← hy, show min (i + 1) 8 = i + 1 by omega])
theorem mk0 (p : Nat → Bool) : ((mk p (min 0 8) : Nat) : Int) = 0 := rfl
theorem hs_nat {s : Int} {i : Nat} (h : hs s (i : Int) = true) : 1 ≤ i ∧ i ≤ 7 := by
  have := (may_iff.1 (hs_may h)).2
  omega
theorem index_is (X : Ass) (mv : Value) (l : List Int) (hX : Rd X 1 encU mv l) (hl : l.length ≤ 9223372036854775807) (hmv : mv.cells = #[mv]) (s : Int) (h : -9223372036854775808 ≤ s ∧ s ≤ 9223372036854775807) (N : Int) (hN : idxN s l 8 = N) : Does Try.prog 30 #[.int .i64 s, mv] [X] (fun _ : Unit => .int .u64 N) (fun _ => [X]) := by subst hN; exact index_any X mv l hX hl hmv s h
theorem rindex_is (X : Ass) (mv : Value) (l : List Int) (hX : Rd X 1 encU mv l) (hl : l.length ≤ 9223372036854775807) (hlo : ∀ x ∈ l, 0 ≤ x) (s : Int) (N : Int) (hN : idxN s l 8 = N) : Does Try.prog 31 #[.int .i64 s, mv] [X] (fun _ : Unit => .int .u64 N) (fun _ => [X]) := by subst hN; exact rindex_any X mv l hX hl hlo s

set_option maxRecDepth 100000 in
set_option maxHeartbeats 1000000 in
theorem indexlaw_does {X : Ass} {mv : Value} {l : List Int} (hX : Rd X 1 encU mv l) (hl8 : l.length * 8 ≤ 140737488351232) (hlo : ∀ x ∈ l, 0 ≤ x) (set : Int) (is : Bool) (hset : -9223372036854775808 ≤ set ∧ set ≤ 9223372036854775807)  : Does Try.prog 8 #[.int .i64 set, .bool is, mv] [X] (fun (_ : Unit) => .bool true) (fun (_ : Unit) => [X]) := by
  obtain ⟨s, hs0⟩ : ∃ s, nearM set is = s := ⟨_, rfl⟩
  have hss := near_i64 hset is
  rw [hs0] at hss
  obtain ⟨N, hN⟩ : ∃ N, idxN s l 8 = N := ⟨_, rfl⟩
  have hl : l.length ≤ 9223372036854775807 := by omega
  refine d_ins (args := [.int .i64 set, .bool is, mv]) 90 Try.func8 rfl rfl rfl ?_; intro w rs
  refine d_reg ?_
  refine h_q hflS rfl ?_
  refine h_done (d_reg ?_)
  refine h_q hflS rfl ?_
  refine h_act (post := fun _ => [X]) rfl (a_call (ent_of Try.func18 (by kernel_rfl) rfl) (fun w hH => near_any w set hset is s hs0) rfl rfl rfl) ?_; rintro ⟨⟩
  refine h_q hflS rfl ?_
  refine h_done (d_reg ?_)
  refine h_q hflS rfl ?_
  refine h_act (X := Value) (val := fun v : Value => v) (post := fun u1 => [Vec 42 1 encU u1 ([]), X]) rfl (by refine a_build0 (e := 42) (t := 41) (k := 1) (enc := encU) ?_ ?_; exact sl_uint64; exact rfl) ?_; rintro u1
  refine h_q hflS rfl ?_
  refine h_act (post := fun u9 => [Vec 42 1 encU u9 l, X]) rfl (a_appendK (nb := 8) 0 sl_uint64 okU (by kernel_rfl) (by decide) rfl (l) (fun w hH => hH.rd 1 rfl hX) (by simp only [List.length_nil]; omega) rfl rfl rfl (List.nil_append _)) ?_; rintro u9
  refine WL2.fact 0 rfl (fun _ h => (Vec.c1 h).1) ?_; rintro hu9
  refine h_q hflS rfl ?_
  refine h_done (d_reg ?_)
  refine h_q hflS rfl ?_
  refine h_act (post := fun _ => [Vec 42 1 encU u9 l, X]) rfl (a_does (os' := fun _ => [Vec 42 1 encU u9 l, X]) [0] 0 (ent_of Try.func30 (by kernel_rfl) rfl) (index_is (Vec 42 1 encU u9 l) u9 l (fun rs w h1 h2 => h1.all okU h2) hl hu9 s hss N hN) rfl rfl rfl (fun _ => rfl) rfl rfl rfl) ?_; rintro ⟨⟩
  refine h_q hflS rfl ?_
  refine h_done (d_seq (d_reg ?_))
  refine h_q hflS rfl ?_
  refine h_act (post := fun _ => [Vec 42 1 encU u9 l, X]) rfl (a_call (ent_of Try.func14 (by kernel_rfl) rfl) (fun w hH => Run.known_calls w) rfl rfl rfl) ?_; rintro ⟨⟩
  refine h_q hflS rfl ?_
  refine h_act (post := fun _ => [Vec 42 1 encU u9 l, X]) rfl (a_does (os' := fun _ => [Vec 42 1 encU u9 l, X]) [1] 0 (ent_of Try.func31 (by kernel_rfl) rfl) (rindex_is X mv l hX hl hlo s N hN) rfl rfl rfl (fun _ => rfl) rfl rfl rfl) ?_; rintro ⟨⟩
  refine h_val rfl (.bool false) (fun b w hb hH => exec_cmp rfl rfl rfl (cmp_neq_f rfl) hb) ?_
  refine h_q hflS rfl ?_
  refine h_done (d_else rfl (d_skip (f_to (d_reg ?_))))
  refine h_q hflS rfl ?_
  refine h_done (d_reg ?_)
  refine h_q hflS rfl ?_
  refine h_done (d_seq (d_reg ?_))
  refine h_q hflS rfl ?_
  refine h_done (d_block ?_)
  refine d_loop (α := Nat × Int × Int) (fun ⟨i, a, c⟩ => [(2, mv), (6, .bool false), (0, .int .i64 s), (7, u9), (8, .int .u64 N), (9, .int .i64 a), (10, .int .i64 c), (11, .int .i64 ((i : Nat) : Int))]) (fun ⟨i, a, c⟩ => [Vec 42 1 encU u9 l, X]) (fun ⟨i, a, c⟩ => i ≤ l.length ∧ ((mk (geP s l N) (min i 8) : Nat) : Int) = a ∧ ((mk (gtP s l N) (min i 8) : Nat) : Int) = c) (fun ⟨i, a, c⟩ => l.length - i) (0, 0, 0) ⟨(Nat.zero_le _), mk0 _, mk0 _⟩ ⟨rfl, rfl, rfl, rfl, rfl, rfl, rfl, rfl, trivial⟩ rfl ?_
  rintro ⟨i, a, c⟩ hI
  refine WC2.at_ (env' := [(2, mv), (6, .bool false), (0, .int .i64 s), (7, u9), (8, .int .u64 N), (9, .int .i64 a), (10, .int .i64 c), (11, .int .i64 ((i : Nat) : Int))]) (rs' := [Vec 42 1 encU u9 l, X]) ⟨rfl, rfl, rfl, rfl, rfl, rfl, rfl, rfl, trivial⟩ rfl ?_
  have hI1 : i ≤ l.length := hI.1
  have hI2 : ((mk (geP s l N) (min i 8) : Nat) : Int) = a := hI.2.1
  have hI3 : ((mk (gtP s l N) (min i 8) : Nat) : Int) = c := hI.2.2
  refine d_seq ?_
  rcases Nat.lt_or_ge i l.length with hn | hn
  · skip
    obtain ⟨x, hx⟩ : ∃ x, l[i]? = some x := ⟨_, List.getElem?_eq_getElem hn⟩
    refine d_reg ?_
    refine h_q hflS rfl ?_
    refine h_val rfl (.int .i64 (l.length : Int)) (fun b w hb hH => e_rlen 1 hX Try.underlying41 rfl rfl rfl hH hb) ?_
    refine h_val rfl (.bool true) (fun b w hb hH => exec_cmp rfl rfl rfl (cmp_lss_t (by omega)) hb) ?_
    refine h_done (d_then rfl (d_skip (f_to (d_seq (d_block (d_seq ?_))))))
    cases hb : hs s (i : Int)
    rotate_left
    rcases Int.lt_or_le x N with hxN | hxN
    rotate_left
    rcases Int.lt_or_le N x with hNx | hNx
    · skip
      have hi7 := hs_nat hb
      have hnx := num_in hx
      obtain ⟨q, hq⟩ : ∃ q, (2 : Int) ^ ((i : Int)).toNat = q := ⟨_, rfl⟩
      have hn7 : (1 : Int) ≤ (i : Int) ∧ (i : Int) ≤ 7 := by omega
      obtain ⟨a2, ha2⟩ : ∃ a2, ((mk (geP s l N) (min (i + 1) 8) : Nat) : Int) = a2 := ⟨_, rfl⟩
      have hoa := mkm_yes hI2 hi7.1 hi7.2 (by unfold geP; rw [hb, hnx]; simp; omega) hq ha2
      obtain ⟨c2, hc2⟩ : ∃ c2, ((mk (gtP s l N) (min (i + 1) 8) : Nat) : Int) = c2 := ⟨_, rfl⟩
      have hoc := mkm_yes hI3 hi7.1 hi7.2 (by unfold gtP; rw [hb, hnx]; simp; omega) hq hc2
      refine d_seq ?_
      refine d_parS 9 0 [⟨.quiet, [], fun _ => u9, []⟩, ⟨.quiet, [], fun _ => .int .i64 ((i : Nat) : Int), []⟩, ⟨.quiet, [], fun _ => elp u9 (i * 1), [0, 1]⟩, ⟨.quiet, [], fun _ => .int .u64 x, [2]⟩, ⟨.quiet, [], fun _ => mv, []⟩, ⟨.quiet, [], fun _ => .int .i64 ((i : Nat) : Int), []⟩, ⟨.quiet, [], fun _ => elp' mv (i * 1), [4, 5]⟩, ⟨.quiet, [], fun _ => .int .u64 x, [6]⟩, ⟨.quiet, [], fun _ => .bool false, [3, 7]⟩] [(2, mv), (6, .bool false), (0, .int .i64 s), (7, u9), (8, .int .u64 N), (9, .int .i64 a), (10, .int .i64 c), (11, .int .i64 ((i : Nat) : Int)), (30, .int .i64 ((i : Nat) : Int)), (31, mv), (32, .int .i64 (l.length : Int)), (33, .bool true)] (fun _ => [Vec 42 1 encU u9 l, X]) (by kernel_rfl) (by kernel_rfl) ⟨rfl, rfl, rfl, rfl, rfl, rfl, rfl, rfl, rfl, rfl, rfl, rfl, trivial⟩ rfl ?_ ?_
      · skip
        refine s_cons (by exact ⟨rfl, fun b w hH hb => exec_q1 hflS rfl hb⟩) ?_
        refine s_cons (by exact ⟨rfl, fun b w hH hb => exec_q1 hflS rfl hb⟩) ?_
        refine s_cons (by exact ⟨rfl, fun b w hH hb => e_vidx 0 sl_uint64 okU rfl i hn rfl rfl rfl hH hb⟩) ?_
        refine s_cons (by exact ⟨rfl, fun b w hH hb => e_vload1 0 ty_uint64 okU rfl i (a := x) hx rfl rfl rfl hH hb⟩) ?_
        refine s_cons (by exact ⟨rfl, fun b w hH hb => exec_q1 hflS rfl hb⟩) ?_
        refine s_cons (by exact ⟨rfl, fun b w hH hb => exec_q1 hflS rfl hb⟩) ?_
        refine s_cons (by exact ⟨rfl, fun b w hH hb => e_ridx 1 hX sl_uint64 rfl i hn rfl rfl rfl hH hb⟩) ?_
        refine s_cons (by exact ⟨rfl, fun b w hH hb => e_rload1 1 hX ty_uint64 okU rfl i (a := x) hx rfl rfl rfl hH hb⟩) ?_
        refine s_cons (by exact ⟨rfl, fun b w hH hb => exec_cmp rfl rfl rfl (cmp_neq_f rfl) hb⟩) ?_
        exact s_nil
      refine WL2.keep (env' := [(2, mv), (6, .bool false), (0, .int .i64 s), (7, u9), (8, .int .u64 N), (9, .int .i64 a), (10, .int .i64 c), (11, .int .i64 ((i : Nat) : Int)), (30, .int .i64 ((i : Nat) : Int)), (31, mv), (32, .int .i64 (l.length : Int)), (33, .bool true), (36, u9), (37, .int .i64 ((i : Nat) : Int)), (38, elp u9 (i * 1)), (39, .int .u64 x), (40, mv), (41, .int .i64 ((i : Nat) : Int)), (42, elp' mv (i * 1)), (43, .int .u64 x), (44, .bool false)]) ⟨rfl, rfl, rfl, rfl, rfl, rfl, rfl, rfl, rfl, rfl, rfl, rfl, rfl, rfl, rfl, rfl, rfl, rfl, rfl, rfl, rfl, trivial⟩ ?_
      refine h_nil (f_to (d_else rfl (d_skip (f_to (d_seq (d_reg ?_))))))
      refine h_q hflS rfl ?_
      refine h_act (post := fun _ => [Vec 42 1 encU u9 l, X]) rfl (a_call (ent_of Try.func23 (by kernel_rfl) rfl) (fun w hH => has_any w s hss (i : Int) true hb) rfl rfl rfl) ?_; rintro ⟨⟩
      refine h_q hflS rfl ?_
      refine h_val rfl (elp' mv (i * 1)) (fun b w hb hH => e_ridx 1 hX sl_uint64 rfl i hn rfl rfl rfl hH hb) ?_
      refine h_val rfl (.int .u64 x) (fun b w hb hH => e_rload1 1 hX ty_uint64 okU rfl i (a := x) hx rfl rfl rfl hH hb) ?_
      refine h_q hflS rfl ?_
      refine h_val rfl (.bool true) (fun b w hb hH => exec_cmp rfl rfl rfl (cmp_geq_t (by omega)) hb) ?_
      refine h_q hflS rfl ?_
      refine h_done (d_then rfl (d_reg1 ?_))
      refine h_q hflS rfl ?_
      refine h_val rfl (.int .u64 (i : Int)) (fun b w hb hH => exec_conv Try.underlying3 Try.underlying39 (IntWalk.u64_in _ (by omega)) rfl rfl hb) ?_
      refine h_val rfl (.int .i64 q) (fun b w hb hH => exec_shl7 hn7 hq rfl rfl rfl hb) ?_
      refine h_val rfl (.int .i64 a2) (fun b w hb hH => exec_orI hoa rfl rfl rfl hb) ?_
      refine h_q hflS rfl ?_
      refine h_nil (f_to (d_reg ?_))
      refine h_q hflS rfl ?_
      refine h_act (post := fun _ => [Vec 42 1 encU u9 l, X]) rfl (a_call (ent_of Try.func23 (by kernel_rfl) rfl) (fun w hH => has_any w s hss (i : Int) true hb) rfl rfl rfl) ?_; rintro ⟨⟩
      refine h_q hflS rfl ?_
      refine h_val rfl (elp' mv (i * 1)) (fun b w hb hH => e_ridx 1 hX sl_uint64 rfl i hn rfl rfl rfl hH hb) ?_
      refine h_val rfl (.int .u64 x) (fun b w hb hH => e_rload1 1 hX ty_uint64 okU rfl i (a := x) hx rfl rfl rfl hH hb) ?_
      refine h_q hflS rfl ?_
      refine h_val rfl (.bool true) (fun b w hb hH => exec_cmp rfl rfl rfl (cmp_gtr_t (by omega)) hb) ?_
      refine h_q hflS rfl ?_
      refine h_done (d_then rfl (d_reg1 ?_))
      refine h_q hflS rfl ?_
      refine h_val rfl (.int .u64 (i : Int)) (fun b w hb hH => exec_conv Try.underlying3 Try.underlying39 (IntWalk.u64_in _ (by omega)) rfl rfl hb) ?_
      refine h_val rfl (.int .i64 q) (fun b w hb hH => exec_shl7 hn7 hq rfl rfl rfl hb) ?_
      refine h_val rfl (.int .i64 c2) (fun b w hb hH => exec_orI hoc rfl rfl rfl hb) ?_
      refine h_q hflS rfl ?_
      refine h_nil (f_block (f_to (d_reg1 ?_)))
      refine h_q hflS rfl ?_
      refine h_val rfl (.int .i64 ((i + 1 : Nat) : Int)) (fun b w hb hH => exec_ar rfl rfl rfl rfl (by rw [IntWalk.i64_in _ (by omega)]; omega) hb) ?_
      refine h_q hflS rfl ?_
      refine h_nil ?_
      exact f_again (i + 1, a2, c2) 0 ⟨show i + 1 ≤ l.length by omega, ha2, hc2⟩ (show l.length - (i + 1) < l.length - i by omega) ⟨rfl, rfl, rfl, rfl, rfl, rfl, rfl, rfl, trivial⟩ rfl
    · skip
      have hi7 := hs_nat hb
      have hnx := num_in hx
      obtain ⟨q, hq⟩ : ∃ q, (2 : Int) ^ ((i : Int)).toNat = q := ⟨_, rfl⟩
      have hn7 : (1 : Int) ≤ (i : Int) ∧ (i : Int) ≤ 7 := by omega
      obtain ⟨a2, ha2⟩ : ∃ a2, ((mk (geP s l N) (min (i + 1) 8) : Nat) : Int) = a2 := ⟨_, rfl⟩
      have hoa := mkm_yes hI2 hi7.1 hi7.2 (by unfold geP; rw [hb, hnx]; simp; omega) hq ha2
      have hc2 : ((mk (gtP s l N) (min (i + 1) 8) : Nat) : Int) = c := mkm_no hI3 (fun _ => by unfold gtP; rw [hb, hnx]; simp; omega)
      refine d_seq ?_
      refine d_parS 9 0 [⟨.quiet, [], fun _ => u9, []⟩, ⟨.quiet, [], fun _ => .int .i64 ((i : Nat) : Int), []⟩, ⟨.quiet, [], fun _ => elp u9 (i * 1), [0, 1]⟩, ⟨.quiet, [], fun _ => .int .u64 x, [2]⟩, ⟨.quiet, [], fun _ => mv, []⟩, ⟨.quiet, [], fun _ => .int .i64 ((i : Nat) : Int), []⟩, ⟨.quiet, [], fun _ => elp' mv (i * 1), [4, 5]⟩, ⟨.quiet, [], fun _ => .int .u64 x, [6]⟩, ⟨.quiet, [], fun _ => .bool false, [3, 7]⟩] [(2, mv), (6, .bool false), (0, .int .i64 s), (7, u9), (8, .int .u64 N), (9, .int .i64 a), (10, .int .i64 c), (11, .int .i64 ((i : Nat) : Int)), (30, .int .i64 ((i : Nat) : Int)), (31, mv), (32, .int .i64 (l.length : Int)), (33, .bool true)] (fun _ => [Vec 42 1 encU u9 l, X]) (by kernel_rfl) (by kernel_rfl) ⟨rfl, rfl, rfl, rfl, rfl, rfl, rfl, rfl, rfl, rfl, rfl, rfl, trivial⟩ rfl ?_ ?_
      · skip
        refine s_cons (by exact ⟨rfl, fun b w hH hb => exec_q1 hflS rfl hb⟩) ?_
        refine s_cons (by exact ⟨rfl, fun b w hH hb => exec_q1 hflS rfl hb⟩) ?_
        refine s_cons (by exact ⟨rfl, fun b w hH hb => e_vidx 0 sl_uint64 okU rfl i hn rfl rfl rfl hH hb⟩) ?_
        refine s_cons (by exact ⟨rfl, fun b w hH hb => e_vload1 0 ty_uint64 okU rfl i (a := x) hx rfl rfl rfl hH hb⟩) ?_
        refine s_cons (by exact ⟨rfl, fun b w hH hb => exec_q1 hflS rfl hb⟩) ?_
        refine s_cons (by exact ⟨rfl, fun b w hH hb => exec_q1 hflS rfl hb⟩) ?_
        refine s_cons (by exact ⟨rfl, fun b w hH hb => e_ridx 1 hX sl_uint64 rfl i hn rfl rfl rfl hH hb⟩) ?_
        refine s_cons (by exact ⟨rfl, fun b w hH hb => e_rload1 1 hX ty_uint64 okU rfl i (a := x) hx rfl rfl rfl hH hb⟩) ?_
        refine s_cons (by exact ⟨rfl, fun b w hH hb => exec_cmp rfl rfl rfl (cmp_neq_f rfl) hb⟩) ?_
        exact s_nil
      refine WL2.keep (env' := [(2, mv), (6, .bool false), (0, .int .i64 s), (7, u9), (8, .int .u64 N), (9, .int .i64 a), (10, .int .i64 c), (11, .int .i64 ((i : Nat) : Int)), (30, .int .i64 ((i : Nat) : Int)), (31, mv), (32, .int .i64 (l.length : Int)), (33, .bool true), (36, u9), (37, .int .i64 ((i : Nat) : Int)), (38, elp u9 (i * 1)), (39, .int .u64 x), (40, mv), (41, .int .i64 ((i : Nat) : Int)), (42, elp' mv (i * 1)), (43, .int .u64 x), (44, .bool false)]) ⟨rfl, rfl, rfl, rfl, rfl, rfl, rfl, rfl, rfl, rfl, rfl, rfl, rfl, rfl, rfl, rfl, rfl, rfl, rfl, rfl, rfl, trivial⟩ ?_
      refine h_nil (f_to (d_else rfl (d_skip (f_to (d_seq (d_reg ?_))))))
      refine h_q hflS rfl ?_
      refine h_act (post := fun _ => [Vec 42 1 encU u9 l, X]) rfl (a_call (ent_of Try.func23 (by kernel_rfl) rfl) (fun w hH => has_any w s hss (i : Int) true hb) rfl rfl rfl) ?_; rintro ⟨⟩
      refine h_q hflS rfl ?_
      refine h_val rfl (elp' mv (i * 1)) (fun b w hb hH => e_ridx 1 hX sl_uint64 rfl i hn rfl rfl rfl hH hb) ?_
      refine h_val rfl (.int .u64 x) (fun b w hb hH => e_rload1 1 hX ty_uint64 okU rfl i (a := x) hx rfl rfl rfl hH hb) ?_
      refine h_q hflS rfl ?_
      refine h_val rfl (.bool true) (fun b w hb hH => exec_cmp rfl rfl rfl (cmp_geq_t (by omega)) hb) ?_
      refine h_q hflS rfl ?_
      refine h_done (d_then rfl (d_reg1 ?_))
      refine h_q hflS rfl ?_
      refine h_val rfl (.int .u64 (i : Int)) (fun b w hb hH => exec_conv Try.underlying3 Try.underlying39 (IntWalk.u64_in _ (by omega)) rfl rfl hb) ?_
      refine h_val rfl (.int .i64 q) (fun b w hb hH => exec_shl7 hn7 hq rfl rfl rfl hb) ?_
      refine h_val rfl (.int .i64 a2) (fun b w hb hH => exec_orI hoa rfl rfl rfl hb) ?_
      refine h_q hflS rfl ?_
      refine h_nil (f_to (d_reg ?_))
      refine h_q hflS rfl ?_
      refine h_act (post := fun _ => [Vec 42 1 encU u9 l, X]) rfl (a_call (ent_of Try.func23 (by kernel_rfl) rfl) (fun w hH => has_any w s hss (i : Int) true hb) rfl rfl rfl) ?_; rintro ⟨⟩
      refine h_q hflS rfl ?_
      refine h_val rfl (elp' mv (i * 1)) (fun b w hb hH => e_ridx 1 hX sl_uint64 rfl i hn rfl rfl rfl hH hb) ?_
      refine h_val rfl (.int .u64 x) (fun b w hb hH => e_rload1 1 hX ty_uint64 okU rfl i (a := x) hx rfl rfl rfl hH hb) ?_
      refine h_q hflS rfl ?_
      refine h_val rfl (.bool false) (fun b w hb hH => exec_cmp rfl rfl rfl (cmp_gtr_f (by omega)) hb) ?_
      refine h_q hflS rfl ?_
      refine h_done (d_else rfl (d_skip (f_block (f_to (d_reg1 ?_)))))
      refine h_q hflS rfl ?_
      refine h_val rfl (.int .i64 ((i + 1 : Nat) : Int)) (fun b w hb hH => exec_ar rfl rfl rfl rfl (by rw [IntWalk.i64_in _ (by omega)]; omega) hb) ?_
      refine h_q hflS rfl ?_
      refine h_nil ?_
      exact f_again (i + 1, a2, c) 0 ⟨show i + 1 ≤ l.length by omega, ha2, hc2⟩ (show l.length - (i + 1) < l.length - i by omega) ⟨rfl, rfl, rfl, rfl, rfl, rfl, rfl, rfl, trivial⟩ rfl
    · skip
      have ha2 : ((mk (geP s l N) (min (i + 1) 8) : Nat) : Int) = a := mkm_no hI2 (fun _ => by unfold geP; rw [hb]; rfl)
      have hc2 : ((mk (gtP s l N) (min (i + 1) 8) : Nat) : Int) = c := mkm_no hI3 (fun _ => by unfold gtP; rw [hb]; rfl)
      refine d_seq ?_
      refine d_parS 9 0 [⟨.quiet, [], fun _ => u9, []⟩, ⟨.quiet, [], fun _ => .int .i64 ((i : Nat) : Int), []⟩, ⟨.quiet, [], fun _ => elp u9 (i * 1), [0, 1]⟩, ⟨.quiet, [], fun _ => .int .u64 x, [2]⟩, ⟨.quiet, [], fun _ => mv, []⟩, ⟨.quiet, [], fun _ => .int .i64 ((i : Nat) : Int), []⟩, ⟨.quiet, [], fun _ => elp' mv (i * 1), [4, 5]⟩, ⟨.quiet, [], fun _ => .int .u64 x, [6]⟩, ⟨.quiet, [], fun _ => .bool false, [3, 7]⟩] [(2, mv), (6, .bool false), (0, .int .i64 s), (7, u9), (8, .int .u64 N), (9, .int .i64 a), (10, .int .i64 c), (11, .int .i64 ((i : Nat) : Int)), (30, .int .i64 ((i : Nat) : Int)), (31, mv), (32, .int .i64 (l.length : Int)), (33, .bool true)] (fun _ => [Vec 42 1 encU u9 l, X]) (by kernel_rfl) (by kernel_rfl) ⟨rfl, rfl, rfl, rfl, rfl, rfl, rfl, rfl, rfl, rfl, rfl, rfl, trivial⟩ rfl ?_ ?_
      · skip
        refine s_cons (by exact ⟨rfl, fun b w hH hb => exec_q1 hflS rfl hb⟩) ?_
        refine s_cons (by exact ⟨rfl, fun b w hH hb => exec_q1 hflS rfl hb⟩) ?_
        refine s_cons (by exact ⟨rfl, fun b w hH hb => e_vidx 0 sl_uint64 okU rfl i hn rfl rfl rfl hH hb⟩) ?_
        refine s_cons (by exact ⟨rfl, fun b w hH hb => e_vload1 0 ty_uint64 okU rfl i (a := x) hx rfl rfl rfl hH hb⟩) ?_
        refine s_cons (by exact ⟨rfl, fun b w hH hb => exec_q1 hflS rfl hb⟩) ?_
        refine s_cons (by exact ⟨rfl, fun b w hH hb => exec_q1 hflS rfl hb⟩) ?_
        refine s_cons (by exact ⟨rfl, fun b w hH hb => e_ridx 1 hX sl_uint64 rfl i hn rfl rfl rfl hH hb⟩) ?_
        refine s_cons (by exact ⟨rfl, fun b w hH hb => e_rload1 1 hX ty_uint64 okU rfl i (a := x) hx rfl rfl rfl hH hb⟩) ?_
        refine s_cons (by exact ⟨rfl, fun b w hH hb => exec_cmp rfl rfl rfl (cmp_neq_f rfl) hb⟩) ?_
        exact s_nil
      refine WL2.keep (env' := [(2, mv), (6, .bool false), (0, .int .i64 s), (7, u9), (8, .int .u64 N), (9, .int .i64 a), (10, .int .i64 c), (11, .int .i64 ((i : Nat) : Int)), (30, .int .i64 ((i : Nat) : Int)), (31, mv), (32, .int .i64 (l.length : Int)), (33, .bool true), (36, u9), (37, .int .i64 ((i : Nat) : Int)), (38, elp u9 (i * 1)), (39, .int .u64 x), (40, mv), (41, .int .i64 ((i : Nat) : Int)), (42, elp' mv (i * 1)), (43, .int .u64 x), (44, .bool false)]) ⟨rfl, rfl, rfl, rfl, rfl, rfl, rfl, rfl, rfl, rfl, rfl, rfl, rfl, rfl, rfl, rfl, rfl, rfl, rfl, rfl, rfl, trivial⟩ ?_
      refine h_nil (f_to (d_else rfl (d_skip (f_to (d_seq (d_reg ?_))))))
      refine h_q hflS rfl ?_
      refine h_act (post := fun _ => [Vec 42 1 encU u9 l, X]) rfl (a_call (ent_of Try.func23 (by kernel_rfl) rfl) (fun w hH => has_any w s hss (i : Int) false hb) rfl rfl rfl) ?_; rintro ⟨⟩
      refine h_q hflS rfl ?_
      refine h_done (d_else rfl (d_skip (f_to (d_reg ?_))))
      refine h_q hflS rfl ?_
      refine h_act (post := fun _ => [Vec 42 1 encU u9 l, X]) rfl (a_call (ent_of Try.func23 (by kernel_rfl) rfl) (fun w hH => has_any w s hss (i : Int) false hb) rfl rfl rfl) ?_; rintro ⟨⟩
      refine h_q hflS rfl ?_
      refine h_done (d_else rfl (d_skip (f_block (f_to (d_reg1 ?_)))))
      refine h_q hflS rfl ?_
      refine h_val rfl (.int .i64 ((i + 1 : Nat) : Int)) (fun b w hb hH => exec_ar rfl rfl rfl rfl (by rw [IntWalk.i64_in _ (by omega)]; omega) hb) ?_
      refine h_q hflS rfl ?_
      refine h_nil ?_
      exact f_again (i + 1, a, c) 0 ⟨show i + 1 ≤ l.length by omega, ha2, hc2⟩ (show l.length - (i + 1) < l.length - i by omega) ⟨rfl, rfl, rfl, rfl, rfl, rfl, rfl, rfl, trivial⟩ rfl
    · skip
      have hi7 := hs_nat hb
      have hnx := num_in hx
      have ha2 : ((mk (geP s l N) (min (i + 1) 8) : Nat) : Int) = a := mkm_no hI2 (fun _ => by unfold geP; rw [hb, hnx]; simp; omega)
      have hc2 : ((mk (gtP s l N) (min (i + 1) 8) : Nat) : Int) = c := mkm_no hI3 (fun _ => by unfold gtP; rw [hb, hnx]; simp; omega)
      refine d_seq ?_
      refine d_parS 9 0 [⟨.quiet, [], fun _ => u9, []⟩, ⟨.quiet, [], fun _ => .int .i64 ((i : Nat) : Int), []⟩, ⟨.quiet, [], fun _ => elp u9 (i * 1), [0, 1]⟩, ⟨.quiet, [], fun _ => .int .u64 x, [2]⟩, ⟨.quiet, [], fun _ => mv, []⟩, ⟨.quiet, [], fun _ => .int .i64 ((i : Nat) : Int), []⟩, ⟨.quiet, [], fun _ => elp' mv (i * 1), [4, 5]⟩, ⟨.quiet, [], fun _ => .int .u64 x, [6]⟩, ⟨.quiet, [], fun _ => .bool false, [3, 7]⟩] [(2, mv), (6, .bool false), (0, .int .i64 s), (7, u9), (8, .int .u64 N), (9, .int .i64 a), (10, .int .i64 c), (11, .int .i64 ((i : Nat) : Int)), (30, .int .i64 ((i : Nat) : Int)), (31, mv), (32, .int .i64 (l.length : Int)), (33, .bool true)] (fun _ => [Vec 42 1 encU u9 l, X]) (by kernel_rfl) (by kernel_rfl) ⟨rfl, rfl, rfl, rfl, rfl, rfl, rfl, rfl, rfl, rfl, rfl, rfl, trivial⟩ rfl ?_ ?_
      · skip
        refine s_cons (by exact ⟨rfl, fun b w hH hb => exec_q1 hflS rfl hb⟩) ?_
        refine s_cons (by exact ⟨rfl, fun b w hH hb => exec_q1 hflS rfl hb⟩) ?_
        refine s_cons (by exact ⟨rfl, fun b w hH hb => e_vidx 0 sl_uint64 okU rfl i hn rfl rfl rfl hH hb⟩) ?_
        refine s_cons (by exact ⟨rfl, fun b w hH hb => e_vload1 0 ty_uint64 okU rfl i (a := x) hx rfl rfl rfl hH hb⟩) ?_
        refine s_cons (by exact ⟨rfl, fun b w hH hb => exec_q1 hflS rfl hb⟩) ?_
        refine s_cons (by exact ⟨rfl, fun b w hH hb => exec_q1 hflS rfl hb⟩) ?_
        refine s_cons (by exact ⟨rfl, fun b w hH hb => e_ridx 1 hX sl_uint64 rfl i hn rfl rfl rfl hH hb⟩) ?_
        refine s_cons (by exact ⟨rfl, fun b w hH hb => e_rload1 1 hX ty_uint64 okU rfl i (a := x) hx rfl rfl rfl hH hb⟩) ?_
        refine s_cons (by exact ⟨rfl, fun b w hH hb => exec_cmp rfl rfl rfl (cmp_neq_f rfl) hb⟩) ?_
        exact s_nil
      refine WL2.keep (env' := [(2, mv), (6, .bool false), (0, .int .i64 s), (7, u9), (8, .int .u64 N), (9, .int .i64 a), (10, .int .i64 c), (11, .int .i64 ((i : Nat) : Int)), (30, .int .i64 ((i : Nat) : Int)), (31, mv), (32, .int .i64 (l.length : Int)), (33, .bool true), (36, u9), (37, .int .i64 ((i : Nat) : Int)), (38, elp u9 (i * 1)), (39, .int .u64 x), (40, mv), (41, .int .i64 ((i : Nat) : Int)), (42, elp' mv (i * 1)), (43, .int .u64 x), (44, .bool false)]) ⟨rfl, rfl, rfl, rfl, rfl, rfl, rfl, rfl, rfl, rfl, rfl, rfl, rfl, rfl, rfl, rfl, rfl, rfl, rfl, rfl, rfl, trivial⟩ ?_
      refine h_nil (f_to (d_else rfl (d_skip (f_to (d_seq (d_reg ?_))))))
      refine h_q hflS rfl ?_
      refine h_act (post := fun _ => [Vec 42 1 encU u9 l, X]) rfl (a_call (ent_of Try.func23 (by kernel_rfl) rfl) (fun w hH => has_any w s hss (i : Int) true hb) rfl rfl rfl) ?_; rintro ⟨⟩
      refine h_q hflS rfl ?_
      refine h_val rfl (elp' mv (i * 1)) (fun b w hb hH => e_ridx 1 hX sl_uint64 rfl i hn rfl rfl rfl hH hb) ?_
      refine h_val rfl (.int .u64 x) (fun b w hb hH => e_rload1 1 hX ty_uint64 okU rfl i (a := x) hx rfl rfl rfl hH hb) ?_
      refine h_q hflS rfl ?_
      refine h_val rfl (.bool false) (fun b w hb hH => exec_cmp rfl rfl rfl (cmp_geq_f (by omega)) hb) ?_
      refine h_q hflS rfl ?_
      refine h_done (d_else rfl (d_skip (f_to (d_reg ?_))))
      refine h_q hflS rfl ?_
      refine h_act (post := fun _ => [Vec 42 1 encU u9 l, X]) rfl (a_call (ent_of Try.func23 (by kernel_rfl) rfl) (fun w hH => has_any w s hss (i : Int) true hb) rfl rfl rfl) ?_; rintro ⟨⟩
      refine h_q hflS rfl ?_
      refine h_val rfl (elp' mv (i * 1)) (fun b w hb hH => e_ridx 1 hX sl_uint64 rfl i hn rfl rfl rfl hH hb) ?_
      refine h_val rfl (.int .u64 x) (fun b w hb hH => e_rload1 1 hX ty_uint64 okU rfl i (a := x) hx rfl rfl rfl hH hb) ?_
      refine h_q hflS rfl ?_
      refine h_val rfl (.bool false) (fun b w hb hH => exec_cmp rfl rfl rfl (cmp_gtr_f (by omega)) hb) ?_
      refine h_q hflS rfl ?_
      refine h_done (d_else rfl (d_skip (f_block (f_to (d_reg1 ?_)))))
      refine h_q hflS rfl ?_
      refine h_val rfl (.int .i64 ((i + 1 : Nat) : Int)) (fun b w hb hH => exec_ar rfl rfl rfl rfl (by rw [IntWalk.i64_in _ (by omega)]; omega) hb) ?_
      refine h_q hflS rfl ?_
      refine h_nil ?_
      exact f_again (i + 1, a, c) 0 ⟨show i + 1 ≤ l.length by omega, ha2, hc2⟩ (show l.length - (i + 1) < l.length - i by omega) ⟨rfl, rfl, rfl, rfl, rfl, rfl, rfl, rfl, trivial⟩ rfl
  · skip
    have hle : i = l.length := by omega
    rw [hle] at hI2 hI3
    have hmn := more_not hlo hN hI3
    refine d_reg ?_
    refine h_q hflS rfl ?_
    refine h_val rfl (.int .i64 (l.length : Int)) (fun b w hb hH => e_rlen 1 hX Try.underlying41 rfl rfl rfl hH hb) ?_
    refine h_val rfl (.bool false) (fun b w hb hH => exec_cmp rfl rfl rfl (cmp_lss_f (by omega)) hb) ?_
    refine h_done (d_else rfl (d_exit (f_then_exit (f_then_exit (f_block_exit (f_to ?_))))))
    by_cases h0 : N = 0
    · skip
      refine d_reg ?_
      refine h_q hflS rfl ?_
      refine h_act (post := fun _ => [Vec 42 1 encU u9 l, X]) rfl (a_call (ent_of Try.func16 (by kernel_rfl) rfl) (fun w hH => most_any w s hss c false hmn) rfl rfl rfl) ?_; rintro ⟨⟩
      refine h_q hflS rfl ?_
      refine h_val rfl (.bool true) (fun b w hb hH => exec_cmp rfl rfl rfl (cmp_eql_t h0) hb) ?_
      refine h_q hflS rfl ?_
      refine h_done (d_ret ?_)
      exact f_fin1 (.tmp rfl) (fun w h => tells () rfl [1] rfl h same_parts) rfl
    · skip
      have hsm := some_is hlo hN h0 hI2
      refine d_reg ?_
      refine h_q hflS rfl ?_
      refine h_act (post := fun _ => [Vec 42 1 encU u9 l, X]) rfl (a_call (ent_of Try.func16 (by kernel_rfl) rfl) (fun w hH => most_any w s hss c false hmn) rfl rfl rfl) ?_; rintro ⟨⟩
      refine h_q hflS rfl ?_
      refine h_val rfl (.bool false) (fun b w hb hH => exec_cmp rfl rfl rfl (cmp_eql_f h0) hb) ?_
      refine h_q hflS rfl ?_
      refine h_act (post := fun _ => [Vec 42 1 encU u9 l, X]) rfl (a_call (ent_of Try.func16 (by kernel_rfl) rfl) (fun w hH => most_any w s hss a true hsm) rfl rfl rfl) ?_; rintro ⟨⟩
      refine h_q hflS rfl ?_
      refine h_done (d_ret ?_)
      exact f_fin1 (.tmp rfl) (fun w h => tells () rfl [1] rfl h same_parts) rfl
end Go.Proofs.Ytmcdjniebkfagaa.Sep
