/-
  Rl
-/
import Derived.Test.YtljpjfefjidakaaGreatAA07
import Derived.MapKept
set_option linter.unusedSimpArgs false
set_option linter.unusedVariables false

namespace Go.Proofs.YtljpjfefjidakaaGreat.Run
noncomputable section
open Go.RowKit Go.MapKept
section ops
variable {P : Program} {o : Oper} {env : Env} {H H' : Tr AO} {nx : Nat} {v : Value} {outs : List Out} {ρ : Rn} {w : World}

/-! ## Keys -/
/-- the kind of a key that has no numbers -/
def keyD (P : Program) (kt : TypeId) (k : Value) : Option TypeDesc := match P.underlying kt, k with
  | some .string, .string _ => some .string
  | some (.int j), .int j' _ => match decide (j' = j) with | true => some (.int j) | false => none
  | _, _ => none
theorem keyD_at {kt : TypeId} {k : Value} {d : TypeDesc} (h : keyD P kt k = some d) : P.underlying kt = some d ∧ IsKey d k ∧ nb k = true := by
  unfold keyD at h
  split at h
  · rename_i h1; cases h; exact ⟨h1, trivial, rfl⟩
  · rename_i h1
    split at h
    · rename_i h2; cases h; exact ⟨h1, show _ = _ from of_decide_eq_true h2, rfl⟩
    · cases h
  · cases h
def eqK : Value → Value → Option Bool
  | .string ⟨⟨l⟩⟩, .string ⟨⟨m⟩⟩ => some (eqL l m)
  | .int j a, .int j' b => match decide (j = j') with | true => some (decide (a = b)) | false => none
  | _, _ => none
theorem eqK_nb {a b : Value} {r : Bool} (h : eqK a b = some r) : nb a = true ∧ nb b = true := by
  unfold eqK at h
  split at h
  · exact ⟨rfl, rfl⟩
  · exact ⟨rfl, rfl⟩
  · cases h
theorem eqK_now {d : TypeDesc} {a b : Value} {r : Bool} (ha : IsKey d a) (h : eqK a b = some r) : Instr.sameNow d a b = some r ∧ (r = true → a = b) := by
  unfold eqK at h
  split at h
  · rename_i l m
    cases h
    have hd : d = .string := by cases d <;> simp_all [IsKey]
    subst hd
    have e : ((⟨⟨l⟩⟩ : ByteArray) == ⟨⟨m⟩⟩) = eqL l m := by
      rw [← eqL_beq]
      show ((⟨l⟩ : Array UInt8) == ⟨m⟩) = _
      simp
    refine ⟨by simp [Instr.sameNow, e], fun h => by rw [eqL_iff.1 h]⟩
  · rename_i j x j' y
    split at h
    · rename_i hj
      cases h
      have hj := of_decide_eq_true hj
      subst hj
      have hd : d = .int j := by cases d <;> simp_all [IsKey]
      subst hd
      refine ⟨by simp [Instr.sameNow, Int.instDecidableEq]; rfl, fun h => by rw [of_decide_eq_true h]⟩
    · cases h
  · cases h
abbrev En := Value × Value × Nat
def findA (k : Value) : List En → Nat → Option (Option (Nat × Value))
  | [], _ => some none
  | (k', v, _) :: r, i => match eqK k k' with
    | some true => some (some (i, v))
    | some false => findA k r (i + 1)
    | none => none
theorem findA_run {d : TypeDesc} {k : Value} (hk : IsKey d k) : ∀ {es : List En} {fs : List MapEntry} {i : Nat} {r : Option (Nat × Value)}, ERL ρ es fs → findA k es i = some r →
    match r with
    | none => Instr.findNow d k fs i = some none
    | some (j, v) => ∃ u e, VR ρ v u ∧ Instr.findNow d k fs i = some (some (j, u)) ∧ i ≤ j ∧ fs[j - i]? = some e ∧ e.key = k ∧ e.val = u ∧ ∃ b, es[j - i]? = some (k, v, b) ∧ e.born = b
  | _, _, i, r, .nil, h => by cases h; rfl
  | (k0, v0, b0) :: es, ⟨k1, v1, _⟩ :: fs, i, r, .cons hk0 hv0 hs, h => by
    unfold findA at h
    split at h
    · rename_i he
      cases h
      have hn := eqK_nb he
      have e1 := nb.eq hn.2 hk0
      subst e1
      obtain ⟨q1, q2⟩ := eqK_now hk he
      have := q2 rfl
      subst this
      exact ⟨v1, _, hv0, by simp [Instr.findNow, q1], Nat.le_refl _, by simp; rfl, rfl, rfl, b0, by simp, rfl⟩
    · rename_i he
      have hn := eqK_nb he
      have e1 := nb.eq hn.2 hk0
      subst e1
      obtain ⟨q1, q2⟩ := eqK_now hk he
      have ih := findA_run hk hs h
      cases r with
      | none => show Instr.findNow _ _ _ _ = _; simpa [Instr.findNow, q1] using ih
      | some jv =>
        obtain ⟨j, v⟩ := jv
        obtain ⟨u, e, z1, z2, z3, z4, z5, z6, b, z7, z8⟩ := ih
        have hj : j - i = (j - (i + 1)) + 1 := by omega
        exact ⟨u, e, z1, by simpa [Instr.findNow, q1] using z2, by omega, by rw [hj]; simpa using z4, z5, z6, b, by rw [hj]; simpa using z7, z8⟩
    · cases h
theorem ERL.app : ∀ {a b : List En} {c d : List MapEntry}, ERL ρ a c → ERL ρ b d → ERL ρ (a ++ b) (c ++ d)
  | _, _, _, _, .nil, h => h
  | _, _, _, _, .cons hk hv hs, h => .cons hk hv (hs.app h)
theorem ERL.modify {k k' v v' : Value} {b : Nat} (hk : VR ρ k k') (hv : VR ρ v v') : ∀ {es : List En} {fs : List MapEntry}, ERL ρ es fs → ∀ (j : Nat) {kv : En} {e : MapEntry}, es[j]? = some kv → kv.2.2 = b → ERL ρ (es.set j (k, v, b)) (fs.modify j fun e => { e with key := k', val := v' })
  | _, _, .nil, j, kv, e, h, _ => by simp at h
  | (k0, v0, b0) :: es, ⟨k1, v1, _⟩ :: fs, .cons hk0 hv0 hs, 0, kv, e, h, hb => by
    simp at h; subst h; subst hb
    simp only [List.set_cons_zero, List.modify_zero_cons]
    exact .cons hk hv hs
  | (k0, v0, b0) :: es, ⟨k1, v1, _⟩ :: fs, .cons hk0 hv0 hs, j + 1, kv, e, h, hb => by
    simp only [List.set_cons_succ, List.modify_succ_cons]
    exact .cons hk0 hv0 (ERL.modify hk hv hs j (e := e) (by simpa using h) hb)
theorem ERL.erase : ∀ {es : List En} {fs : List MapEntry}, ERL ρ es fs → ∀ (j : Nat), ERL ρ (es.eraseIdx j) (fs.eraseIdx j)
  | _, _, .nil, j => by simp; exact .nil
  | _, _, .cons hk hv hs, 0 => by simpa using hs
  | _, _, .cons hk hv hs, j + 1 => by simpa using ERL.cons hk hv (hs.erase j)
theorem ERL.filt (p : Nat → Bool) : ∀ {es : List En} {fs : List MapEntry}, ERL ρ es fs → ERL ρ (es.filter fun e => p e.2.2) (fs.filter fun e => p e.born)
  | _, _, .nil => .nil
  | (k0, v0, b0) :: es, ⟨k1, v1, _⟩ :: fs, .cons hk hv hs => by
    have ih := hs.filt p
    simp only [List.filter_cons]
    split
    · exact .cons hk hv ih
    · exact ih
theorem ERL.get : ∀ {es : List En} {fs : List MapEntry}, ERL ρ es fs → ∀ (j : Nat) (e : MapEntry), fs[j]? = some e → ∃ k v, es[j]? = some (k, v, e.born) ∧ VR ρ k e.key ∧ VR ρ v e.val
  | _, _, .nil, j, e, h => by simp at h
  | _, _, .cons hk hv hs, 0, e, h => by simp at h; subst h; exact ⟨_, _, rfl, hk, hv⟩
  | _, _, .cons hk hv hs, j + 1, e, h => by simpa using hs.get j e (by simpa using h)
theorem ERL.all (p : Nat → Bool) : ∀ {es : List En} {fs : List MapEntry}, ERL ρ es fs → fs.all (fun e => p e.born) = es.all fun e => p e.2.2
  | _, _, .nil => rfl
  | (k0, v0, b0) :: es, ⟨k1, v1, _⟩ :: fs, .cons hk hv hs => by simp [hs.all p]

/-! ## A value that is zero -/
def zeroV (P : Program) (T : TypeId) : Option Value := match (P.info? T).map (·.zero) with
  | some (some z) => self1 z
  | _ => none
theorem zeroV_run {T : TypeId} {z : Value} (h : zeroV P T = some z) (ρ : Rn) (w : World) : VR ρ z z ∧ (zeroValue T).run P w = .ok z w := by
  unfold zeroV at h
  split at h
  · rename_i z' hz
    obtain ⟨h1, h2⟩ := self1_vr (ρ := ρ) h
    subst h2
    cases hi : P.info? T with
    | none => simp [hi] at hz
    | some i =>
      have hz : i.zero = some z := by simpa [hi] using hz
      exact ⟨h1, by simp [zeroValue, typeInfo, hi, hz]⟩
  · cases h

/-! ## New maps -/
def resOK (env : Env) : Option Operand → Bool
  | none => true
  | some x => match evO env x with | some (.int _ _) => true | _ => false
def evMakeMap (P : Program) (env : Env) (H : Tr AO) (nx : Nat) (T : TypeId) (x : Option Operand) : Option (List Out) := match P.underlying T, resOK env x && inT nx with
  | some (.map _ _), true => some [⟨.map (some nx), put H nx (some (.map [] 0)), nx + 1, []⟩]
  | _, _ => none
theorem s_makeMap {T : TypeId} {x : Option Operand} (ho : o.op = .makeMap T x) (h : evMakeMap P env H nx T x = some outs) : OpS P o env H nx outs := by
  unfold evMakeMap at h
  split at h
  · rename_i kt et hT hb
    cases h
    simp only [Bool.and_eq_true] at hb
    refine ops_one (fun c hc => by rw [ho] at hc; cases hc) (Nat.le_succ _) (.new hb.2 _) fun n ρ a w hF hR hS => ?_
    refine ⟨upd ρ nx w.heap.size 0, _, _, Aft.new hR hS hb.2 (.map #[] 0) 0 _ ⟨[], .nil, by rw [World.alloc]; simp⟩, .mp (upd_same _ _ _ _), .inl ?_⟩
    have hx := hb.1
    cases x with
    | none =>
      unfold execOp
      simp [ho, Instr.makeMap]
    | some x =>
      unfold resOK at hx
      split at hx
      · cases ‹some _ = none›
      · rename_i y hy
        cases hy
        split at hx
        · rename_i k z hz
          have := vr_int (hF.ev hz)
          unfold execOp
          simp [ho, Instr.makeMap, run_underlying hT, this, asInt, asIntOf]
        · cases hx
  · cases h
/-! ## Reading, writing -/
def entsOf (H : Tr AO) (x : Value) : Option (List En) := match x with
  | .map none => some []
  | .map (some i) => match H.get i with | some (.map es _) => some es | _ => none
  | _ => none
def evLookup (P : Program) (env : Env) (H : Tr AO) (T : TypeId) (x y : Operand) (ok : Bool) : Option Value := match P.underlying T, evO env x, evO env y with
  | some (.map kt et), some m, some k => match keyD P kt k, entsOf H m, zeroV P et with
    | some _, some es, some z => match findA k es 0 with
      | some (some (_, v)) => some (match ok with | true => .tuple ⟨[v, .bool true]⟩ | false => v)
      | some none => some (match ok with | true => .tuple ⟨[z, .bool false]⟩ | false => z)
      | none => none
    | _, _, _ => none
  | _, _, _ => none
theorem entsOf_run {m u : Value} {es : List En} (hR : Rep ρ H w) (h : entsOf H m = some es) (hu : VR ρ m u) : ∃ fs, ERL ρ es fs ∧ (u = .map none ∧ fs = [] ∨ ∃ g ck, u = .map (some g) ∧ w.heap[g]? = some (.map ⟨fs⟩ ck)) := by
  unfold entsOf at h
  split at h
  · cases h; cases hu; exact ⟨[], .nil, .inl ⟨rfl, rfl⟩⟩
  · split at h
    · rename_i i es' ck hi
      cases h
      cases hu with
      | mp hg =>
        obtain ⟨g', c', h3, fs, h4, h5⟩ := hR.ok _ _ hi
        rw [hg] at h3; cases h3
        exact ⟨fs, h4, .inr ⟨_, _, rfl, h5⟩⟩
    · cases h
  · cases h
theorem s_lookup {T : TypeId} {x y : Operand} {ok : Bool} (ho : o.op = .lookup T x y ok) (h : one (evLookup P env H T x y ok) H nx = some outs) : OpS P o env H nx outs := by
  obtain ⟨v, h1, rfl⟩ := one_eq h
  refine ops_val (fun c hc => by rw [ho] at hc; cases hc) fun n ρ a w hF hR => ?_
  unfold evLookup at h1
  split at h1
  · rename_i kt et m k hT hx hy
    split at h1
    · rename_i d es z hd he hz
      obtain ⟨k1, k2, k3⟩ := keyD_at hd
      have hk := nb.eq k3 (hF.ev hy)
      obtain ⟨fs, e1, e2⟩ := entsOf_run hR he (hF.ev hx)
      obtain ⟨z1, z2⟩ := zeroV_run hz ρ w
      have key : ∀ r, Instr.findNow d k fs 0 = some r → (execOp a.eval o).run P w = .ok (.value (match r with | some (_, u) => (if ok then .tuple #[u, .bool true] else u) | none => (if ok then .tuple #[z, .bool false] else z))) w := fun r hr => by
        unfold execOp
        rcases e2 with ⟨q1, rfl⟩ | ⟨g, ck, q1, q2⟩
        · cases r with
          | none => cases ok <;> simp [ho, Instr.lookup, run_underlying hT, hk, q1, run_checkKey k1 k2, run_findKey k1 hr, z2, Result.andThen]
          | some r => simp [Instr.findNow] at hr
        · cases r with
          | none => cases ok <;> simp [ho, Instr.lookup, run_underlying hT, hk, q1, MapKept.run_getObj_map q2, run_checkKey k1 k2, run_findKey k1 hr, z2, Result.andThen]
          | some r => obtain ⟨i, u⟩ := r; cases ok <;> simp [ho, Instr.lookup, run_underlying hT, hk, q1, MapKept.run_getObj_map q2, run_checkKey k1 k2, run_findKey k1 hr, z2, Result.andThen]
      split at h1
      · rename_i i v' hf
        have := findA_run k2 e1 hf
        obtain ⟨u, e, y1, y2, _⟩ := this
        cases h1
        have := key _ y2
        cases ok with
        | true => exact ⟨_, .tuple (.cons y1 (.cons (.bool true) .nil)), this⟩
        | false => exact ⟨_, y1, this⟩
      · rename_i hf
        have y2 := findA_run k2 e1 hf
        cases h1
        have := key _ y2
        cases ok with
        | true => exact ⟨_, .tuple (.cons z1 (.cons (.bool false) .nil)), this⟩
        | false => exact ⟨_, z1, this⟩
      · cases h1
    · cases h1
  · cases h1
/-- map i with what is done to its entries -/
def evMapUp (P : Program) (env : Env) (H : Tr AO) (nx : Nat) (T : TypeId) (x y z : Operand) : Option (List Out) := match P.underlying T, evO env x, evO env y, evO env z with
  | some (.map kt _), some (.map (some i)), some k, some v => match keyD P kt k, H.get i, inT i with
    | some _, some (.map es ck), true => match findA k es 0 with
      | some (some (j, _)) => match es[j]? with
        | some (_, _, b) => some [⟨undef, put H i (some (.map (es.set j (k, v, b)) ck)), nx, [i]⟩]
        | none => none
      | some none => some [⟨undef, put H i (some (.map (es ++ [(k, v, ck)]) (ck + 1))), nx, [i]⟩]
      | none => none
    | _, _, _ => none
  | _, _, _, _ => none
theorem Mod.setm {w : World} {g : Nat} {fs : Array MapEntry} {ck : Nat} (o : Obj) (hb : w.heap[g]? = some (.map fs ck)) : Mod (One g) w { w with heap := w.heap.setIfInBounds g o } := by
  refine ⟨rfl, rfl, rfl, by simp, fun b hb' hn => ?_⟩
  exact (heap_set hb).2 b hn
theorem s_mapUp {T : TypeId} {x y z : Operand} (ho : o.op = .mapUpdate T x y z) (h : evMapUp P env H nx T x y z = some outs) : OpS P o env H nx outs := by
  unfold evMapUp at h
  split at h
  · rename_i kt et i k v hT hx hy hz
    split at h
    · rename_i d es ck hd hi hin
      obtain ⟨k1, k2, k3⟩ := keyD_at hd
      split at h
      · rename_i j v0 hf
        split at h
        · rename_i k0 v1 b hj
          cases h
          refine ops_one (fun c hc => by rw [ho] at hc; cases hc) (Nat.le_refl _) (.put hin _ _ _) fun n ρ a w hF hR _ => ?_
          have hk := nb.eq k3 (hF.ev hy)
          have hm := hF.ev hx
          generalize hu : a.eval x = u at hm
          cases hm with
          | mp hg =>
            obtain ⟨g', c', h3, fs, h4, h5⟩ := hR.ok _ _ hi
            rw [hg] at h3; cases h3
            obtain ⟨u', e, y1, y2, _, y4, y5, y6, _⟩ := findA_run k2 h4 hf
            rw [Nat.sub_zero] at y4
            have y4' : (⟨fs⟩ : Array MapEntry)[j]? = some e := by simpa using y4
            refine ⟨ρ, undef, _, Aft.turn hR hi hg hin (Mod.setm (.map ((⟨fs⟩ : Array MapEntry).modify j fun e => { e with key := k, val := a.eval z }) ck) h5) ⟨fs.modify j fun e => { e with key := k, val := a.eval z }, ERL.modify (nb.self k3) (hF.ev hz) h4 j (e := e) hj rfl, ?_⟩, .undef, .inr ⟨?_, rfl⟩⟩
            · rw [(heap_set h5).1]
              congr 2
              apply Array.ext'
              simp
            · unfold execOp
              simp [ho, Instr.mapUpdate, run_underlying hT, hk, hu, MapKept.run_getObj_map h5, run_checkKey k1 k2, run_findKey k1 y2, y4, y5, run_keyThatStays k2, run_setObj_map _ h5]
        · cases h
      · rename_i hf
        cases h
        refine ops_one (fun c hc => by rw [ho] at hc; cases hc) (Nat.le_refl _) (.put hin _ _ _) fun n ρ a w hF hR _ => ?_
        have hk := nb.eq k3 (hF.ev hy)
        have hm := hF.ev hx
        generalize hu : a.eval x = u at hm
        cases hm with
        | mp hg =>
          obtain ⟨g', c', h3, fs, h4, h5⟩ := hR.ok _ _ hi
          rw [hg] at h3; cases h3
          have y2 := findA_run k2 h4 hf
          refine ⟨ρ, undef, _, Aft.turn hR hi hg hin (Mod.setm (.map ((⟨fs⟩ : Array MapEntry).push ⟨k, a.eval z, ck⟩) (ck + 1)) h5) ⟨fs ++ [⟨k, a.eval z, ck⟩], h4.app (.cons (nb.self k3) (hF.ev hz) .nil), ?_⟩, .undef, .inr ⟨?_, rfl⟩⟩
          · rw [(heap_set h5).1]
            congr 2
            apply Array.ext'
            simp
          · unfold execOp
            simp [ho, Instr.mapUpdate, run_underlying hT, hk, hu, MapKept.run_getObj_map h5, run_checkKey k1 k2, run_findKey k1 y2, run_setObj_map _ h5]
      · cases h
    · cases h
  · cases h
def evDelete (P : Program) (env : Env) (H : Tr AO) (nx : Nat) (ats : Array TypeId) (args : Array Operand) : Option (List Out) := match ats.toList, evL env args.toList with
  | T :: _, some [.map (some i), k] => match P.underlying T with
    | some (.map kt _) => match keyD P kt k, H.get i, inT i with
      | some _, some (.map es ck), true => match findA k es 0 with
        | some (some (j, _)) => some [⟨undef, put H i (some (.map (es.eraseIdx j) ck)), nx, [i]⟩]
        | some none => some [⟨undef, put H i (some (.map es ck)), nx, [i]⟩]
        | none => none
      | _, _, _ => none
    | _ => none
  | _, _ => none
theorem s_delete {args : Array Operand} {ats : Array TypeId} (ho : o.op = .call { callee := .builtin .delete, args := args, argTypes := ats }) (h : evDelete P env H nx ats args = some outs) : OpS P o env H nx outs := by
  unfold evDelete at h
  split at h
  · rename_i T tr i k hat hx
    have hat' : ats[0]? = some T := by cases ats; simp_all
    split at h
    · rename_i kt et hT
      split at h
      · rename_i d es ck hd hi hin
        obtain ⟨k1, k2, k3⟩ := keyD_at hd
        split at h
        · rename_i j v0 hf
          cases h
          refine ops_one (fun c hc => by rw [ho] at hc; cases hc) (Nat.le_refl _) (.put hin _ _ _) fun n ρ a w hF hR _ => ?_
          obtain ⟨u, u2, hu, h1, h2⟩ := (hF.evL hx).two_
          have hk := nb.eq k3 h2
          subst hk
          cases h1 with
          | mp hg =>
            obtain ⟨g', c', h3, fs, h4, h5⟩ := hR.ok _ _ hi
            rw [hg] at h3; cases h3
            obtain ⟨u', e, y1, y2, _, y4, y5, y6, _⟩ := findA_run k2 h4 hf
            refine ⟨ρ, undef, _, Aft.turn hR hi hg hin (Mod.setm (.map ((⟨fs⟩ : Array MapEntry).eraseIdxIfInBounds j) ck) h5) ⟨fs.eraseIdx j, h4.erase j, ?_⟩, .undef, .inl (bi_val ho hu (fun _ => rfl) ?_)⟩
            · rw [(heap_set h5).1]
              congr 2
              apply Array.ext'
              simp
            · simp [Builtin.delete_, hat', run_underlying hT, MapKept.run_getObj_map h5, run_checkKey k1 k2, run_findKey k1 y2, run_setObj_map _ h5, undef]
        · rename_i hf
          cases h
          refine ops_one (fun c hc => by rw [ho] at hc; cases hc) (Nat.le_refl _) (.put hin _ _ _) fun n ρ a w hF hR _ => ?_
          obtain ⟨u, u2, hu, h1, h2⟩ := (hF.evL hx).two_
          have hk := nb.eq k3 h2
          subst hk
          cases h1 with
          | mp hg =>
            obtain ⟨g', c', h3, fs, h4, h5⟩ := hR.ok _ _ hi
            rw [hg] at h3; cases h3
            have y2 := findA_run k2 h4 hf
            refine ⟨ρ, undef, _, Aft.turn hR hi hg hin (Mod.setm (.map ⟨fs⟩ ck) h5) ⟨fs, h4, (heap_set h5).1⟩, .undef, .inl (bi_val ho hu (fun _ => rfl) ?_)⟩
            simp [Builtin.delete_, hat', run_underlying hT, MapKept.run_getObj_map h5, run_checkKey k1 k2, run_findKey k1 y2, run_setObj_map _ h5, undef]
        · cases h
      · cases h
    · cases h
  · cases h
/-! ## An entry, read and stored -/
def evEntryOf (P : Program) (env : Env) (H : Tr AO) (nx : Nat) (T : TypeId) (x y : Operand) : Option (List Out) := match P.underlying T, evO env x, evO env y with
  | some (.map kt et), some (.map (some i)), some k => match keyD P kt k, H.get i, inT i with
    | some _, some (.map es ck), true => match findA k es 0 with
      | some (some (j, v)) => match es[j]? with
        | some (_, _, b) => some [⟨.tuple ⟨[v, .int .i64 (b : Int)]⟩, put H i (some (.map (es.set j (k, v, b)) ck)), nx, [i]⟩]
        | none => none
      | some none => match zeroV P et with
        | some z => some [⟨.tuple ⟨[z, .int .i64 (ck : Int)]⟩, put H i (some (.map (es ++ [(k, z, ck)]) (ck + 1))), nx, [i]⟩]
        | none => none
      | none => none
    | _, _, _ => none
  | _, _, _ => none
theorem s_entryOf {T : TypeId} {x y : Operand} (ho : o.op = .mapEntry T x y) (h : evEntryOf P env H nx T x y = some outs) : OpS P o env H nx outs := by
  unfold evEntryOf at h
  split at h
  · rename_i kt et i k hT hx hy
    split at h
    · rename_i d es ck hd hi hin
      obtain ⟨k1, k2, k3⟩ := keyD_at hd
      split at h
      · rename_i j v0 hf
        split at h
        · rename_i k0 v1 b hj
          cases h
          refine ops_one (fun c hc => by rw [ho] at hc; cases hc) (Nat.le_refl _) (.put hin _ _ _) fun n ρ a w hF hR _ => ?_
          have hk := nb.eq k3 (hF.ev hy)
          have hm := hF.ev hx
          generalize hu : a.eval x = u at hm
          cases hm with
          | mp hg =>
            obtain ⟨g', c', h3, fs, h4, h5⟩ := hR.ok _ _ hi
            rw [hg] at h3; cases h3
            obtain ⟨u', e, y1, y2, _, y4, y5, y6, b', y7, y8⟩ := findA_run k2 h4 hf
            rw [Nat.sub_zero] at y4 y7
            rw [hj] at y7; cases y7
            subst y8
            have hmod : fs.modify j (fun e => { e with key := k }) = fs.modify j fun e => { e with key := k, val := u' } := by
              apply List.ext_getElem? ; intro q
              simp only [List.getElem?_modify]
              by_cases e1 : j = q
              · subst e1; simp [y4, y6]
              · simp [e1]
            refine ⟨ρ, .tuple #[u', .int .i64 (e.born : Int)], _, Aft.turn hR hi hg hin (Mod.setm (.map ((⟨fs⟩ : Array MapEntry).modify j fun e => { e with key := k }) ck) h5) ⟨fs.modify j fun e => { e with key := k, val := u' }, ERL.modify (nb.self k3) y1 h4 j (e := e) hj rfl, ?_⟩, .tuple (.cons y1 (.cons (.int _ _) .nil)), .inl ?_⟩
            · rw [(heap_set h5).1, ← hmod]
              congr 2
              apply Array.ext'
              simp
            · unfold execOp
              simp [ho, Instr.mapEntry, run_underlying hT, hk, hu, MapKept.run_getObj_map h5, run_checkKey k1 k2, run_findKey k1 y2, y4, y5, run_keyThatStays k2, run_setObj_map _ h5, goInt]
        · cases h
      · rename_i hf
        split at h
        · rename_i z hz
          cases h
          refine ops_one (fun c hc => by rw [ho] at hc; cases hc) (Nat.le_refl _) (.put hin _ _ _) fun n ρ a w hF hR _ => ?_
          have hk := nb.eq k3 (hF.ev hy)
          have hm := hF.ev hx
          obtain ⟨z1, z2⟩ := zeroV_run hz ρ w
          generalize hu : a.eval x = u at hm
          cases hm with
          | mp hg =>
            obtain ⟨g', c', h3, fs, h4, h5⟩ := hR.ok _ _ hi
            rw [hg] at h3; cases h3
            have y2 := findA_run k2 h4 hf
            refine ⟨ρ, .tuple #[z, .int .i64 (ck : Int)], _, Aft.turn hR hi hg hin (Mod.setm (.map ((⟨fs⟩ : Array MapEntry).push ⟨k, z, ck⟩) (ck + 1)) h5) ⟨fs ++ [⟨k, z, ck⟩], h4.app (.cons (nb.self k3) z1 .nil), ?_⟩, .tuple (.cons z1 (.cons (.int _ _) .nil)), .inl ?_⟩
            · rw [(heap_set h5).1]
              congr 2
              apply Array.ext'
              simp
            · unfold execOp
              simp [ho, Instr.mapEntry, run_underlying hT, hk, hu, MapKept.run_getObj_map h5, run_checkKey k1 k2, run_findKey k1 y2, z2, run_setObj_map _ h5, goInt]
        · cases h
      · cases h
    · cases h
  · cases h
def findB (b : Nat) : List En → Nat → Option (Nat × Value)
  | [], _ => none
  | (k, _, b') :: r, i => match Nat.beq b' b with
    | true => some (i, k)
    | false => findB b r (i + 1)
theorem findB_run {b : Nat} : ∀ {es : List En} {fs : List MapEntry} {i j : Nat} {k : Value}, ERL ρ es fs → findB b es i = some (j, k) → i ≤ j ∧ fs.findIdx? (fun e => (e.born : Int) == (b : Int)) = some (j - i) ∧ ∃ e v, fs[j - i]? = some e ∧ es[j - i]? = some (k, v, b) ∧ VR ρ k e.key
  | _, _, i, j, k, .nil, h => by cases h
  | (k0, v0, b0) :: es, ⟨k1, v1, _⟩ :: fs, i, j, k, .cons hk0 hv0 hs, h => by
    unfold findB at h
    split at h
    · rename_i hb
      cases h
      have hb := Nat.eq_of_beq_eq_true hb
      subst hb
      refine ⟨Nat.le_refl _, by simp [List.findIdx?_cons], ⟨k1, v1, b0⟩, v0, by simp, by simp, hk0⟩
    · rename_i hb
      obtain ⟨h1, h2, e, v, h3, h4, h5⟩ := findB_run hs h
      have hj : j - i = (j - (i + 1)) + 1 := by omega
      have hne : ¬ ((b0 : Int) = (b : Int)) := fun q => by
        have : b0 = b := by omega
        rw [this, Nat.beq_refl] at hb; cases hb
      refine ⟨by omega, ?_, e, v, by rw [hj]; simpa using h3, by rw [hj]; simpa using h4, h5⟩
      rw [List.findIdx?_cons, h2, hj]
      simp [hne]
def evEntryStore (env : Env) (H : Tr AO) (nx : Nat) (x y z : Operand) : Option (List Out) := match evO env x, evO env y, evO env z with
  | some (.map (some i)), some (.int _ (.ofNat b)), some v => match H.get i, inT i with
    | some (.map es ck), true => match findB b es 0 with
      | some (j, k) => some [⟨undef, put H i (some (.map (es.set j (k, v, b)) ck)), nx, [i]⟩]
      | none => none
    | _, _ => none
  | _, _, _ => none
theorem s_entryStore {T : TypeId} {x y z : Operand} (ho : o.op = .entryStore T x y z) (h : evEntryStore env H nx x y z = some outs) : OpS P o env H nx outs := by
  unfold evEntryStore at h
  split at h
  · rename_i i kk b v hx hy hz
    split at h
    · rename_i es ck hi hin
      split at h
      · rename_i j k hf
        cases h
        refine ops_one (fun c hc => by rw [ho] at hc; cases hc) (Nat.le_refl _) (.put hin _ _ _) fun n ρ a w hF hR _ => ?_
        have hk := vr_int (hF.ev hy)
        have hm := hF.ev hx
        generalize hu : a.eval x = u at hm
        cases hm with
        | mp hg =>
          obtain ⟨g', c', h3, fs, h4, h5⟩ := hR.ok _ _ hi
          rw [hg] at h3; cases h3
          obtain ⟨_, y2, e, v0, y3, y4, y5⟩ := findB_run h4 hf
          rw [Nat.sub_zero] at y2 y3 y4
          have hmod : fs.modify j (fun e => { e with val := a.eval z }) = fs.modify j fun e' => { e' with key := e.key, val := a.eval z } := by
            apply List.ext_getElem? ; intro q
            simp only [List.getElem?_modify]
            by_cases e1 : j = q
            · subst e1; simp [y3]
            · simp [e1]
          refine ⟨ρ, undef, _, Aft.turn hR hi hg hin (Mod.setm (.map ((⟨fs⟩ : Array MapEntry).modify j fun e => { e with val := a.eval z }) ck) h5) ⟨fs.modify j fun e' => { e' with key := e.key, val := a.eval z }, ERL.modify y5 (hF.ev hz) h4 j (e := e) y4 rfl, ?_⟩, .undef, .inr ⟨?_, rfl⟩⟩
          · rw [(heap_set h5).1, ← hmod]
            congr 2
            apply Array.ext'
            simp
          · unfold execOp
            have hk' : a.eval y = .int kk (b : Int) := hk
            simp [ho, Instr.entryStore, hk', hu, MapKept.run_getObj_map h5, asInt, asIntOf, y2, run_setObj_map _ h5]
      · cases h
    · cases h
  · cases h
/-! ## Ranges -/
def evRng (P : Program) (env : Env) (H : Tr AO) (nx : Nat) (T : TypeId) (x : Operand) : Option (List Out) := match P.underlying T, evO env x, inT nx with
  | some (.map _ _), some (.map none), true => some [⟨newP nx, put H nx (some (.inil 0 0 [])), nx + 1, []⟩]
  | some (.map _ _), some (.map (some i)), true => match H.get i with
    | some (.map _ ck) => some [⟨newP nx, put H nx (some (.iter i ck ck [])), nx + 1, []⟩]
    | _ => none
  | _, _, _ => none
theorem s_rng {T : TypeId} {x : Operand} (ho : o.op = .range T x) (h : evRng P env H nx T x = some outs) : OpS P o env H nx outs := by
  unfold evRng at h
  split at h
  · rename_i kt et hT hx hn
    cases h
    refine ops_one (fun c hc => by rw [ho] at hc; cases hc) (Nat.le_succ _) (.new hn _) fun n ρ a w hF hR hS => ?_
    refine ⟨upd ρ nx w.heap.size 0, _, _, Aft.new hR hS hn (.mapIter none 0 #[] 0) 0 _ (by show (w.alloc _).heap[_]? = _; rw [World.alloc]; simp), .ptr (c := 0) (upd_same _ _ _ _), .inl ?_⟩
    have hm := hF.ev hx
    generalize hu : a.eval x = u at hm
    cases hm
    unfold execOp
    simp [ho, Instr.range, run_underlying hT, hu]
  · rename_i kt et i hT hx hn
    split at h
    · rename_i es ck hi
      cases h
      refine ops_one (fun c hc => by rw [ho] at hc; cases hc) (Nat.le_succ _) (.new hn _) fun n ρ a w hF hR hS => ?_
      have hm := hF.ev hx
      generalize hu : a.eval x = u at hm
      cases hm with
      | mp hg =>
        rename_i gm cm
        obtain ⟨g', c', h3, fs, h4, h5⟩ := hR.ok _ _ hi
        rw [hg] at h3; cases h3
        refine ⟨upd ρ nx w.heap.size 0, _, _, Aft.new hR hS hn (.mapIter (some gm) ck #[] ck) 0 _ ⟨_, _, upd_le (hS nx (Nat.le_refl _) (by omega)) _ _ hg, by rw [World.alloc]; simp⟩, .ptr (c := 0) (upd_same _ _ _ _), .inl ?_⟩
        unfold execOp
        simp [ho, Instr.range, run_underlying hT, hu, MapKept.run_getObj_map h5]
    · cases h
  · cases h
def isIn (n : Nat) : List Nat → Bool
  | [] => false
  | m :: r => match Nat.beq n m with | true => true | false => isIn n r
theorem isIn_eq (n : Nat) : ∀ l : List Nat, (⟨l⟩ : Array Nat).contains n = isIn n l
  | [] => by simp [isIn]
  | m :: r => by
    have ih := isIn_eq n r
    unfold isIn
    split
    · rename_i h; have := Nat.eq_of_beq_eq_true h; subst this; simp
    · rename_i h
      have : n ≠ m := fun e => by rw [e, Nat.beq_refl] at h; cases h
      rw [← ih]; simp [this]
/-- what may come next -/
def candsA (es : List En) (since : Nat) (seen : List Nat) : List (Option En) :=
  let left := es.filter fun e => !isIn e.2.2 seen
  let old := left.filter fun e => Nat.blt e.2.2 since
  let new := left.filter fun e => !Nat.blt e.2.2 since
  (match old with | [] => [none] | _ => []) ++ (old ++ new).map some
def badN (es : List En) (seen : List Nat) (last : Nat) : Bool := match seen, es with
  | [], _ => false
  | _, [] => false
  | _, _ => es.all fun e => Nat.ble last e.2.2
def evNextM (env : Env) (H : Tr AO) (nx : Nat) (x : Operand) : Option (List Out) := match evO env x with
  | some (.pointer (some ⟨r, 0, none⟩)) => match H.get r, inT r with
    | some (.inil _ _ _), _ => some [⟨.tuple ⟨[.bool false]⟩, H, nx, []⟩]
    | some (.iter m since last seen), true => match H.get m with
      | some (.map es ck) => match badN es seen last with
        | true => none
        | false => some ((candsA es since seen).map fun c => match c with
          | none => ⟨.tuple ⟨[.bool false]⟩, H, nx, []⟩
          | some (k, v, b) => ⟨.tuple ⟨[.bool true, k, v]⟩, put H r (some (.iter m since ck (seen ++ [b]))), nx, [r]⟩)
      | _ => none
    | _, _ => none
  | _ => none
theorem run_getObj_it {P : Program} {w : World} {r : Nat} {x : Option Nat} {y z : Nat} {l : Array Nat} (hb : w.heap[r]? = some (.mapIter x y l z)) : (getObj r).run P w = .ok (.mapIter x y l z) w := by
  simp [getObj, Sem.run, hb]
theorem run_setObj_it {P : Program} {w : World} {r : Nat} {x : Option Nat} {y z : Nat} {l : Array Nat} (o' : Obj) (hb : w.heap[r]? = some (.mapIter x y l z)) : (setObj r o').run P w = .ok () { w with heap := w.heap.setIfInBounds r o' } := by
  simp [setObj, Sem.run, hb]
def candsC (fs : List MapEntry) (since : Nat) (seen : List Nat) : List (Option MapEntry) :=
  let left := fs.filter fun e => !isIn e.born seen
  let old := left.filter fun e => Nat.blt e.born since
  let new := left.filter fun e => !Nat.blt e.born since
  (match old with | [] => [none] | _ => []) ++ (old ++ new).map some
def Rc (ρ : Rn) : Option En → Option MapEntry → Prop
  | none, none => True
  | some (k, v, b), some e => b = e.born ∧ VR ρ k e.key ∧ VR ρ v e.val
  | _, _ => False
theorem cands_map {es : List En} {fs : List MapEntry} (h : ERL ρ es fs) (j : Nat) (c : Option MapEntry) (hc : (fs.map some)[j]? = some c) : ∃ a, (es.map some)[j]? = some a ∧ Rc ρ a c := by
  rw [List.getElem?_map] at hc
  cases he : fs[j]? with
  | none => rw [he] at hc; cases hc
  | some e =>
    rw [he] at hc; cases hc
    obtain ⟨k, v, h1, h2, h3⟩ := h.get j e he
    exact ⟨some (k, v, e.born), by rw [List.getElem?_map, h1]; rfl, rfl, h2, h3⟩
theorem cands_rel {es : List En} {fs : List MapEntry} (h : ERL ρ es fs) (since : Nat) (seen : List Nat) (j : Nat) (c : Option MapEntry) (hc : (candsC fs since seen)[j]? = some c) : ∃ a, (candsA es since seen)[j]? = some a ∧ Rc ρ a c := by
  have hl := h.filt fun b => !isIn b seen
  have ho := hl.filt fun b => Nat.blt b since
  have hn := hl.filt fun b => !Nat.blt b since
  unfold candsC at hc
  unfold candsA
  simp only at hc ⊢
  generalize hA : List.filter (fun e => Nat.blt e.2.2 since) (List.filter (fun e => !isIn e.2.2 seen) es) = oA at ho ⊢
  generalize hC : List.filter (fun e => Nat.blt e.born since) (List.filter (fun e => !isIn e.born seen) fs) = oC at ho hc
  cases ho with
  | nil =>
    cases j with
    | zero => simp at hc; subst hc; exact ⟨none, by simp, trivial⟩
    | succ j => exact (cands_map hn j c (by simpa using hc)).imp fun a h => ⟨by simpa using h.1, h.2⟩
  | cons hk hv hs => exact cands_map (ERL.app (.cons hk hv hs) hn) j c hc
theorem candsA_ne (es : List En) (since : Nat) (seen : List Nat) : candsA es since seen ≠ [] := by
  unfold candsA
  simp only
  split
  · simp
  · rename_i h; simp; intro h2; exact absurd h2 (by intro q; exact h (by simpa using q))
theorem candsC_ne (fs : List MapEntry) (since : Nat) (seen : List Nat) : candsC fs since seen ≠ [] := by
  unfold candsC
  simp only
  split
  · simp
  · rename_i h; simp; intro h2; exact absurd h2 (by intro q; exact h (by simpa using q))
theorem blt_dec (a b : Nat) : Nat.blt a b = decide (a < b) := by rw [Bool.eq_iff_iff]; simp [Nat.blt]; omega
theorem ble_dec (a b : Nat) : Nat.ble a b = decide (a ≤ b) := by rw [Bool.eq_iff_iff]; simp
theorem cands_arr (fs : List MapEntry) (since : Nat) (seen : List Nat) : (if (Array.filter (fun e => decide (e.born < since)) (Array.filter (fun e => !(⟨seen⟩ : Array Nat).contains e.born) ⟨fs⟩)).isEmpty = true then #[none] else #[]) ++ Array.map some (Array.filter (fun e => decide (e.born < since)) (Array.filter (fun e => !(⟨seen⟩ : Array Nat).contains e.born) ⟨fs⟩) ++ Array.filter (fun e => decide (e.born ≥ since)) (Array.filter (fun e => !(⟨seen⟩ : Array Nat).contains e.born) ⟨fs⟩)) = (⟨candsC fs since seen⟩ : Array (Option MapEntry)) := by
  have e2 : (fun e : MapEntry => !(⟨seen⟩ : Array Nat).contains e.born) = fun e => !isIn e.born seen := by funext e; rw [isIn_eq]
  have e3 : (fun e : MapEntry => decide (e.born < since)) = fun e => Nat.blt e.born since := by funext e; rw [blt_dec]
  have e4 : (fun e : MapEntry => decide (e.born ≥ since)) = fun e => !Nat.blt e.born since := by funext e; rw [blt_dec]; by_cases h : e.born < since <;> simp [h] <;> omega
  have e5 : ∀ (l : List MapEntry) (p : MapEntry → Bool), Array.filter p ⟨l⟩ = ⟨l.filter p⟩ := fun l p => by apply Array.ext'; simp
  simp only [e2, e3, e4, e5]
  unfold candsC
  simp only
  generalize List.filter (fun e => Nat.blt e.born since) (List.filter (fun e => !isIn e.born seen) fs) = oC
  cases oC with
  | nil => apply Array.ext'; simp
  | cons x r => apply Array.ext'; simp
theorem s_nextM {x : Operand} (ho : o.op = .next x false) (h : evNextM env H nx x = some outs) : OpS P o env H nx outs := by
  unfold evNextM at h
  split at h
  case h_2 => cases h
  rename_i r hx
  split at h
  · rename_i since last seen hr
    cases h
    refine ops_val (fun c hc => by rw [ho] at hc; cases hc) fun n ρ a w hF hR => ?_
    have hm := hF.ev hx
    generalize hu : a.eval x = u at hm
    cases hm with
    | ptr hg =>
      obtain ⟨g', c', h3, h4⟩ := hR.ok _ _ hr
      rw [hg] at h3; cases h3
      refine ⟨_, .tuple (.cons (.bool false) .nil), ?_⟩
      unfold execOp
      have h4 : w.heap[_]? = _ := h4
      simp [ho, Instr.next, hu, run_getObj_it h4]
  · rename_i m since last seen hr hin
    split at h
    · rename_i es ck hm0
      split at h
      · cases h
      · rename_i hbad
        cases h
        refine ⟨⟨by simpa using candsA_ne es since seen, fun y hy => ?_⟩, fun n ρ a w M hF hR hM hS F hG K Q hK => ?_⟩
        · obtain ⟨c, _, rfl⟩ := List.mem_map.1 hy
          cases c with
          | none => exact ⟨Nat.le_refl _, .refl _ _ _ _⟩
          | some c => exact ⟨Nat.le_refl _, .put hin _ _ _⟩
        · have hm := hF.ev hx
          generalize hu : a.eval x = u at hm
          cases hm with
          | ptr hg =>
            rename_i g cg
            obtain ⟨g', c', h3, gm, cm, h4, h5⟩ := hR.ok _ _ hr
            rw [hg] at h3; cases h3
            obtain ⟨g', c', h3, fs, h6, h7⟩ := hR.ok _ _ hm0
            rw [h4] at h3; cases h3
            have hb : (!(⟨seen⟩ : Array Nat).isEmpty && !(⟨fs⟩ : Array MapEntry).isEmpty && (⟨fs⟩ : Array MapEntry).all fun x => decide (x.born ≥ last)) = false := by
              have e1 : ((⟨fs⟩ : Array MapEntry).all fun x => decide (x.born ≥ last)) = es.all fun e => Nat.ble last e.2.2 := by
                rw [← h6.all fun b => Nat.ble last b]
                simp only [List.all_toArray', ble_dec, ge_iff_le]
              rw [e1]
              unfold badN at hbad
              split at hbad
              · simp
              · cases h6; simp
              · rw [hbad]; simp
            obtain ⟨j, wc, hch, hj, hwc⟩ : ∃ j wc, (choose (.mapNext (⟨candsC fs since seen⟩ : Array (Option MapEntry)).size)).run P w = .ok j wc ∧ j < (candsC fs since seen).length ∧ (wc = w ∨ wc = w.drew) := by
              have hlen : 0 < (candsC fs since seen).length := List.length_pos_iff.2 (candsC_ne fs since seen)
              rw [run_choose_drew]
              split
              · exact ⟨0, w, rfl, hlen, .inl rfl⟩
              · exact ⟨_, _, rfl, Nat.mod_lt _ hlen, .inr rfl⟩
            obtain ⟨c, hc⟩ : ∃ c, (candsC fs since seen)[j]? = some c := ⟨_, List.getElem?_eq_getElem hj⟩
            have hrun : (execOp a.eval o).run P w = (do
                let v ← (match c with
                  | some e => do
                    setObj g (.mapIter (some gm) since ((⟨seen⟩ : Array Nat).push e.born) ck)
                    pure (Value.tuple #[Value.bool true, e.key, e.val])
                  | none => pure (Value.tuple #[Value.bool false]) : Sem Value)
                pure (.value v) : Sem Next).run P wc := by
              unfold execOp
              simp only [ho, hu]
              unfold Instr.next
              simp only [Sem.run_bind, run_getObj_it h5, Result.andThen_ok, MapKept.run_getObj_map h7, cands_arr, hb]
              rw [if_neg (by simp)]
              simp only [Sem.run_bind, hch, Result.andThen_ok]
              rw [show (⟨candsC fs since seen⟩ : Array (Option MapEntry))[j]? = some c by simpa using hc]
              cases c <;> rfl
            have hwh : wc.heap = w.heap := by rcases hwc with rfl | rfl <;> rfl
            have hA : Aft ρ H w nx ρ H wc nx := by
              rcases hwc with rfl | rfl
              · exact .refl hR
              · exact ⟨.refl _ _ _, hR.drew, (Stp.refl _ _ _).drew⟩
            obtain ⟨ca, hca, hrel⟩ := cands_rel h6 since seen j c hc
            have hmem := List.mem_map_of_mem (f := fun c : Option En => match c with
              | none => (⟨.tuple ⟨[.bool false]⟩, H, nx, []⟩ : Out)
              | some (k, v, b) => ⟨.tuple ⟨[.bool true, k, v]⟩, put H r (some (.iter m since ck (seen ++ [b]))), nx, [r]⟩) (List.mem_of_getElem? hca)
            cases c with
            | none =>
              cases ca with
              | some q => obtain ⟨_, _, _⟩ := q; cases hrel
              | none =>
                exact in_val hG (fun c hc => by rw [ho] at hc; cases hc) (by rw [hrun]; rfl) (hK _ hmem ρ wc _ hA (.tuple (.cons (.bool false) .nil)))
            | some e =>
              cases ca with
              | none => cases hrel
              | some q =>
                obtain ⟨k, v, b⟩ := q
                obtain ⟨rfl, q1, q2⟩ := hrel
                have h5' : wc.heap[g]? = some (.mapIter (some gm) since ⟨seen⟩ last) := by rw [hwh]; exact h5
                have hmod : Mod (One g) wc { wc with heap := wc.heap.setIfInBounds g (.mapIter (some gm) since ((⟨seen⟩ : Array Nat).push e.born) ck) } := ⟨rfl, rfl, rfl, by simp, fun b hb' hn => (heap_set h5').2 b hn⟩
                have hT := Aft.turn (nx := nx) hA.rep hr hg hin hmod (o' := .iter m since ck (seen ++ [e.born])) ⟨gm, cm, h4, by rw [(heap_set h5').1]; simp⟩
                refine in_val hG (fun c hc => by rw [ho] at hc; cases hc) (by rw [hrun]; simp only [Sem.run_bind, run_setObj_it _ h5', Result.andThen_ok]; rfl) (hK _ hmem ρ _ _ (hA.trans hT (Nat.le_refl _) (Nat.le_refl _)) (.tuple (.cons (.bool true) (.cons q1 (.cons q2 .nil)))))
    · cases h
  · cases h
/-- the entry that was last -/
def lastN : List Nat → Option Nat
  | [] => none
  | [x] => some x
  | _ :: r => lastN r
theorem lastN_eq : ∀ l : List Nat, (⟨l⟩ : Array Nat).back? = lastN l
  | [] => rfl
  | [x] => rfl
  | x :: y :: r => by rw [lastN, ← lastN_eq (y :: r)]; simp [Array.back?]; intro h; cases h
def findS (b : Nat) : List En → Option (Value × Value)
  | [] => none
  | (k, v, b') :: r => match Nat.beq b' b with | true => some (k, v) | false => findS b r
theorem findS_run {b : Nat} : ∀ {es : List En} {fs : List MapEntry} {k v : Value}, ERL ρ es fs → findS b es = some (k, v) → ∃ e, fs.find? (fun e => e.born == b) = some e ∧ VR ρ k e.key ∧ VR ρ v e.val
  | _, _, k, v, .nil, h => by cases h
  | (k0, v0, b0) :: es, ⟨k1, v1, _⟩ :: fs, k, v, .cons hk0 hv0 hs, h => by
    unfold findS at h
    split at h
    · rename_i hb
      cases h
      have hb := Nat.eq_of_beq_eq_true hb
      subst hb
      exact ⟨⟨k1, v1, b0⟩, by simp, hk0, hv0⟩
    · rename_i hb
      have hne : b0 ≠ b := fun q => by rw [q, Nat.beq_refl] at hb; cases hb
      obtain ⟨e, h1, h2⟩ := findS_run hs h
      exact ⟨e, by simp [hne, h1], h2⟩
def evEntM (env : Env) (H : Tr AO) (x : Operand) : Option Value := match evO env x with
  | some (.pointer (some ⟨r, 0, none⟩)) => match H.get r with
    | some (.iter m _ stepped seen) => match lastN seen, H.get m with
      | some b, some (.map es ck) => match Nat.beq ck stepped, findS b es with
        | true, some (k, v) => some (.tuple ⟨[k, v]⟩)
        | _, _ => none
      | _, _ => none
    | _ => none
  | _ => none
theorem s_entM {x : Operand} (ho : o.op = .entry x) (h : one (evEntM env H x) H nx = some outs) : OpS P o env H nx outs := by
  obtain ⟨v, h1, rfl⟩ := one_eq h
  refine ops_val (fun c hc => by rw [ho] at hc; cases hc) fun n ρ a w hF hR => ?_
  unfold evEntM at h1
  split at h1
  case h_2 => cases h1
  rename_i r hx
  split at h1
  · rename_i m since stepped seen hr
    split at h1
    · rename_i b es ck hb hm0
      split at h1
      · rename_i k v' hck hf
        cases h1
        have hck := Nat.eq_of_beq_eq_true hck
        subst hck
        have hm := hF.ev hx
        generalize hu : a.eval x = u at hm
        cases hm with
        | ptr hg =>
          rename_i g cg
          obtain ⟨g', c', h3, gm, cm, h4, h5⟩ := hR.ok _ _ hr
          rw [hg] at h3; cases h3
          obtain ⟨g', c', h3, fs, h6, h7⟩ := hR.ok _ _ hm0
          rw [h4] at h3; cases h3
          obtain ⟨e, q1, q2, q3⟩ := findS_run h6 hf
          refine ⟨_, .tuple (.cons q2 (.cons q3 .nil)), ?_⟩
          unfold execOp
          simp only [ho, hu]
          unfold Instr.entry
          simp only [Sem.run_bind, run_getObj_it h5, Result.andThen_ok, lastN_eq, hb, MapKept.run_getObj_map h7]
          have q1' : (⟨fs⟩ : Array MapEntry).find? (fun e => e.born == b) = some e := by simpa using q1
          simp [q1']
      · cases h1
    · cases h1
  · cases h1
/-! ## All of it taken away -/
def evClearM (P : Program) (env : Env) (H : Tr AO) (nx : Nat) (ats : Array TypeId) (args : Array Operand) : Option (List Out) := match ats.toList, evL env args.toList with
  | T :: _, some [.map (some i)] => match P.underlying T, H.get i, inT i with
    | some (.map _ _), some (.map _ ck), true => some [⟨undef, put H i (some (.map [] ck)), nx, [i]⟩]
    | _, _, _ => none
  | _, _ => none
theorem s_clearM {args : Array Operand} {ats : Array TypeId} (ho : o.op = .call { callee := .builtin .clear, args := args, argTypes := ats }) (h : evClearM P env H nx ats args = some outs) : OpS P o env H nx outs := by
  unfold evClearM at h
  split at h
  · rename_i T tr i hat hx
    have hat' : ats[0]? = some T := by cases ats; simp_all
    split at h
    · rename_i kt et es ck hT hi hin
      cases h
      refine ops_one (fun c hc => by rw [ho] at hc; cases hc) (Nat.le_refl _) (.put hin _ _ _) fun n ρ a w hF hR _ => ?_
      obtain ⟨u, hu, h1⟩ := (hF.evL hx).one_
      cases h1 with
      | mp hg =>
        obtain ⟨g', c', h3, fs, h4, h5⟩ := hR.ok _ _ hi
        rw [hg] at h3; cases h3
        refine ⟨ρ, undef, _, Aft.turn hR hi hg hin (Mod.setm (.map #[] ck) h5) ⟨[], .nil, (heap_set h5).1⟩, .undef, .inl (bi_val ho hu (fun _ => rfl) ?_)⟩
        simp [Builtin.clear_, hat', run_underlying hT, MapKept.run_getObj_map h5, run_setObj_map _ h5, undef]
    · cases h
  · cases h
end ops
end
end Go.Proofs.YtljpjfefjidakaaGreat.Run
