/-
  Rf · Rh
-/
import Derived.Test.YtljpjfefjidakaaGreatAA03
import Derived.CallsIn
import Derived.RangeFuncIn
import Derived.RangeFuncRecord
set_option linter.unusedSimpArgs false
set_option linter.unusedVariables false

namespace Go.Proofs.YtljpjfefjidakaaGreat.Run
noncomputable section
open Go.RowKit
section ops
variable {P : Program} {o : Oper} {env : Env} {H H' : Tr AO} {nx : Nat} {v : Value} {outs : List Out}

theorem bi_val {bi : Builtin} {args : Array Operand} {ats : Array TypeId} (ho : o.op = .call { callee := .builtin bi, args := args, argTypes := ats }) {a : Act} {w w' : World} {us : List Value} (hu : args.toList.map a.eval = us) {s : Sem Value} {r : Value} (hb : ∀ cs, builtin bi ats o.type cs ⟨us⟩ = (do pure (.value (← s)) : Sem Next)) (hr : s.run P w = .ok r w') : (execOp a.eval o).run P w = .ok (.value r) w' := by
  have e : args.map a.eval = ⟨us⟩ := by rw [← hu]; cases args; simp
  unfold execOp
  simp only [ho, resolve, e, Sem.run_bind, Sem.run_pure, Result.andThen_ok, invoke, hb, hr]
theorem VRL.one_ {ρ : Rn} {x : Value} {us : List Value} (h : VRL ρ [x] us) : ∃ u, us = [u] ∧ VR ρ x u := by
  cases h with | cons h hs => cases hs; exact ⟨_, rfl, h⟩
theorem VRL.two_ {ρ : Rn} {x y : Value} {us : List Value} (h : VRL ρ [x, y] us) : ∃ u v, us = [u, v] ∧ VR ρ x u ∧ VR ρ y v := by
  cases h with | cons h hs => obtain ⟨u, rfl, h'⟩ := hs.one_; exact ⟨_, u, rfl, h, h'⟩
/-! ## Lengths -/
def evLen (P : Program) (env : Env) (H : Tr AO) (ats : Array TypeId) (args : Array Operand) : Option Value := match ats.toList, evL env args.toList with
  | [t], some [.slice _ n _] => match P.underlying t with | some (.slice _) => some (.int .i64 (n : Int)) | _ => none
  | [t], some [.string ⟨⟨l⟩⟩] => match P.underlying t with | some .string => some (.int .i64 (l.length : Int)) | _ => none
  | [t], some [.map none] => match P.underlying t with | some (.map _ _) => some (.int .i64 0) | _ => none
  | [t], some [.map (some i)] => match P.underlying t, H.get i with | some (.map _ _), some (.map es _) => some (.int .i64 (es.length : Int)) | _, _ => none
  | _, _ => none
theorem ERL.length {ρ : Rn} : ∀ {a : List (Value × Value × Nat)} {b : List MapEntry}, ERL ρ a b → b.length = a.length
  | _, _, .nil => rfl
  | _, _, .cons _ _ hs => by simp [ERL.length hs]
theorem s_len {args : Array Operand} {ats : Array TypeId} (ho : o.op = .call { callee := .builtin .len, args := args, argTypes := ats }) (h : one (evLen P env H ats args) H nx = some outs) : OpS P o env H nx outs := by
  obtain ⟨v, h1, rfl⟩ := one_eq h
  refine ops_val (fun c hc => by rw [ho] at hc; cases hc) fun n ρ a w hF hR => ?_
  unfold evLen at h1
  split at h1
  · rename_i t A m c hat hx
    split at h1
    · rename_i e hT
      cases h1
      obtain ⟨u, hu, h2⟩ := (hF.evL hx).one_
      have hat' : ats = #[t] := by cases ats; simp_all
      subst hat'
      refine ⟨_, .int _ _, bi_val ho hu (fun _ => rfl) ?_⟩
      cases h2 <;> simp [Builtin.len_, run_underlying hT, goInt]
    · cases h1
  · rename_i t l hat hx
    split at h1
    · rename_i hT
      cases h1
      obtain ⟨u, hu, h2⟩ := (hF.evL hx).one_
      have hat' : ats = #[t] := by cases ats; simp_all
      subst hat'
      have h2 := vr_str h2
      subst h2
      refine ⟨_, .int _ _, bi_val ho hu (fun _ => rfl) ?_⟩
      have e1 : (⟨⟨l⟩⟩ : ByteArray) = bs l := rfl
      rw [e1]
      simp [Builtin.len_, run_underlying hT, goInt, bs_size]
    · cases h1
  · rename_i t hat hx
    split at h1
    · rename_i hT
      cases h1
      obtain ⟨u, hu, h2⟩ := (hF.evL hx).one_
      have hat' : ats = #[t] := by cases ats; simp_all
      subst hat'
      refine ⟨_, .int _ _, bi_val ho hu (fun _ => rfl) ?_⟩
      cases h2; simp [Builtin.len_, run_underlying hT, goInt]
    · cases h1
  · rename_i t i hat hx
    split at h1
    · rename_i es ck hT hi
      cases h1
      obtain ⟨u, hu, h2⟩ := (hF.evL hx).one_
      have hat' : ats = #[t] := by cases ats; simp_all
      subst hat'
      cases h2 with
      | mp hg =>
        obtain ⟨g', c', h3, fs, h4, h5⟩ := hR.ok _ _ hi
        rw [hg] at h3; cases h3
        refine ⟨_, .int _ _, bi_val ho hu (fun _ => rfl) ?_⟩
        simp [Builtin.len_, run_underlying hT, goInt, run_getObj_map w _ _ _ h5, h4.length]
    · cases h1
  · cases h1
def evCap (P : Program) (env : Env) (ats : Array TypeId) (args : Array Operand) : Option Value := match ats.toList, evL env args.toList with
  | [t], some [.slice (some ⟨_, _, none⟩) _ c] => match P.underlying t, Nat.blt c BIG with | some (.slice _), true => some (.int .i64 (c : Int)) | _, _ => none
  | _, _ => none
theorem s_cap {args : Array Operand} {ats : Array TypeId} (ho : o.op = .call { callee := .builtin .cap, args := args, argTypes := ats }) (h : one (evCap P env ats args) H nx = some outs) : OpS P o env H nx outs := by
  obtain ⟨v, h1, rfl⟩ := one_eq h
  refine ops_val (fun c hc => by rw [ho] at hc; cases hc) fun n ρ a w hF hR => ?_
  unfold evCap at h1
  split at h1
  · rename_i t i off m c hat hx
    split at h1
    · rename_i e hT hc
      cases h1
      have hc : c < BIG := Nat.le_of_ble_eq_true hc
      obtain ⟨u, hu, h2⟩ := (hF.evL hx).one_
      have hat' : ats = #[t] := by cases ats; simp_all
      subst hat'
      refine ⟨_, .int _ _, bi_val ho hu (fun _ => rfl) ?_⟩
      cases h2 with
      | sl hg hk => simp [Builtin.cap_, run_underlying hT, goInt]
      | slu hg hs => omega
    · cases h1
  · cases h1
/-- least and greatest, of what has no numbers -/
def evMin (P : Program) (env : Env) (mx : Bool) (args : Array Operand) : Option Value := match evL env args.toList with
  | some vs => match vs.all nb with
    | true => match mx, vs with
      | true, x :: r => pureOf P (r.foldlM Builtin.max2 x)
      | false, x :: r => pureOf P (r.foldlM Builtin.min2 x)
      | _, _ => none
    | false => none
  | none => none
theorem s_min {args : Array Operand} {ats : Array TypeId} (mx : Bool) (ho : o.op = .call { callee := .builtin (match mx with | true => .max | false => .min), args := args, argTypes := ats }) (h : one (evMin P env mx args) H nx = some outs) : OpS P o env H nx outs := by
  obtain ⟨v, h1, rfl⟩ := one_eq h
  refine ops_val (fun c hc => by rw [ho] at hc; cases hc) fun n ρ a w hF hR => ?_
  unfold evMin at h1
  split at h1
  · rename_i vs hx
    split at h1
    · rename_i hn
      have h2 := nb.eqs hn (hF.evL hx)
      split at h1
      · rename_i x r
        obtain ⟨h3, h4⟩ := pureOf_run h1 ρ w
        exact ⟨v, h3, bi_val ho h2 (s := r.foldlM Builtin.max2 x) (fun _ => rfl) h4⟩
      · rename_i x r
        obtain ⟨h3, h4⟩ := pureOf_run h1 ρ w
        exact ⟨v, h3, bi_val ho h2 (s := r.foldlM Builtin.min2 x) (fun _ => rfl) h4⟩
      · cases h1
    · cases h1
  · cases h1
/-! ## What a slice or a text yields -/
def bytesC (l : List UInt8) : List Value := l.map fun b => .int .u8 (b.toNat : Int)
def srcOf (P : Program) (H : Tr AO) (tx : TypeId) (k : Nat) (x : Value) : Option (Nat × List Value) := match P.underlying tx, x with
  | some (.slice _), .slice (some ⟨i, off, none⟩) m _ => match rowAt H i with
    | some (_, _, cs) => match Nat.ble (off + m * k) cs.length && oneL ((cs.drop off).take (m * k)) with
      | true => some (m, (cs.drop off).take (m * k))
      | false => none
    | none => none
  | some (.slice _), .slice (some ⟨_, _, some _⟩) 0 _ => some (0, [])
  | some (.slice _), .slice none 0 _ => some (0, [])
  | some .string, .string ⟨⟨l⟩⟩ => match Nat.beq k 1 with | true => some (l.length, bytesC l) | false => none
  | _, _ => none
theorem bytesC_nb : ∀ l : List UInt8, (bytesC l).all nb = true
  | [] => rfl
  | _ :: r => by show (true && (bytesC r).all nb) = true; rw [bytesC_nb r]; rfl
theorem srcOf_run {ρ : Rn} {w : World} (hR : Rep ρ H w) {tx : TypeId} {k : Nat} {x u : Value} {m : Nat} {nw : List Value} (h : srcOf P H tx k x = some (m, nw)) (hu : VR ρ x u) : ∃ news, Src P k tx u m news w ∧ VRL ρ nw news := by
  unfold srcOf at h
  split at h
  · rename_i e i off m' c hT
    split at h
    · rename_i t ex cs hr
      split at h
      · rename_i hb
        cases h
        simp only [Bool.and_eq_true] at hb
        have hle := Nat.le_of_ble_eq_true hb.1
        obtain ⟨g, cc, ds, zs, h3, h4, h5, _⟩ := hR.row hr
        have hl := h4.length
        have hv : VRL ρ ((cs.drop off).take (m * k)) ((ds.drop off).take (m * k)) := (h4.drop off).take _
        have hlen : ((ds.drop off).take (m * k)).length = m * k := by simp; omega
        have hcell : ∀ j u, ((ds.drop off).take (m * k))[j]? = some u → w.cell? ((⟨g, off, none⟩ : Addr).add j) = some u := fun j u hj => by
          rw [addlit, h5.cell]
          rw [List.getElem?_take] at hj
          split at hj
          · rw [List.getElem?_drop] at hj
            rw [List.getElem?_append_left (List.getElem?_eq_some_iff.1 hj).1]
            exact hj
          · cases hj
        refine ⟨_, ?_, hv⟩
        cases hu with
        | sl hg hk => rw [hg] at h3; cases h3; exact Src.ofSlice w hT _ _ _ _ hlen hcell (oneL_vr hv hb.2)
        | slu hg hs => rw [hg] at h3; cases h3; exact Src.ofSlice w hT _ _ _ _ hlen hcell (oneL_vr hv hb.2)
      · cases h
    · cases h
  · rename_i e i off sp c hT
    cases h
    cases hu with
    | semp A c => exact ⟨[], Src.ofSlice w hT A 0 c [] (by simp) (fun j u h => by simp at h) (fun _ h => by cases h), .nil⟩
  · rename_i e c hT
    cases h
    cases hu
    exact ⟨[], Src.ofNil w hT _, .nil⟩
  · rename_i l hT
    split at h
    · rename_i hk
      cases h
      have hk := Nat.eq_of_beq_eq_true hk
      subst hk
      have := vr_str hu
      subst this
      have h1 := Src.ofString (P := P) w hT ⟨⟨l⟩⟩
      have e : byteCells ⟨⟨l⟩⟩ = bytesC l := rfl
      rw [e] at h1
      exact ⟨bytesC l, h1, nb.selfs (bytesC_nb l)⟩
    · cases h
  · cases h
theorem nextcap_le (need old : Nat) (ho : old < need) : Builtin.nextslicecap need old ≤ 2 * need + 1024 := by
  unfold Builtin.nextslicecap
  split
  · omega
  · split
    · omega
    · have key : ∀ (r c : Nat), c ≤ 2 * need + 1024 → Builtin.growBy need r c ≤ 2 * need + 1024 := by
        intro r
        induction r with
        | zero => intro c h; exact h
        | succ r ih =>
          intro c h
          unfold Builtin.growBy
          split
          · exact h
          · exact ih _ (by omega)
      exact key 4 old (by omega)
/-! ## append -/
/-- the element's size, and how many bytes it has -/
def elK (P : Program) (t : TypeId) : Option (TypeId × Nat × Nat) := match P.underlying t with
  | some (.slice e) => match P.info? e, zeroT P e with
    | some i, some zs => match Nat.beq zs.length i.size && Nat.blt 0 i.size with
      | true => some (e, i.size, i.bytes)
      | false => none
    | _, _ => none
  | _ => none
theorem elK_at {t e : TypeId} {k nb' : Nat} (h : elK P t = some (e, k, nb')) : P.underlying t = some (.slice e) ∧ ∃ i z, P.info? e = some i ∧ i.zero = some z ∧ i.size = k ∧ i.bytes = nb' ∧ z.cells.size = k ∧ 0 < k := by
  unfold elK at h
  split at h
  · rename_i e' hT
    split at h
    · rename_i i zs hi hz
      split at h
      · rename_i hb
        cases h
        simp only [Bool.and_eq_true] at hb
        have h1 := Nat.eq_of_beq_eq_true hb.1
        have h2 : 0 < i.size := Nat.le_of_ble_eq_true hb.2
        obtain ⟨_, z, h3, h4⟩ := zeroT_at hz
        rw [hi] at h3
        simp only [Option.map_some, Option.some.injEq] at h3
        refine ⟨hT, i, z, hi, h3, rfl, rfl, ?_, h2⟩
        rw [← h1, ← h4]; simp
      · cases h
    · cases h
  · cases h
def evGrow (H : Tr AO) (nx : Nat) (e : TypeId) (k nby need : Nat) (olds nw : List Value) : Option (List Out) := match inT nx && Nat.ble ((2 * need + 1024) * nby) 140737488355328 && Nat.ble need 4611686018427387904 with
  | true => some [⟨.slice (some ⟨nx, 0, none⟩) need (BIG + 0), put H nx (some (.cells e (some k) (olds ++ nw))), nx + 1, []⟩]
  | false => none
def evApp (P : Program) (env : Env) (H : Tr AO) (nx : Nat) (ats : Array TypeId) (args : Array Operand) : Option (List Out) := match ats.toList, evL env args.toList with
  | [t, tx], some [s, x] => match elK P t with
    | none => none
    | some (e, k, nby) => match srcOf P H tx k x with
      | none => none
      | some (m, nw) => match s with
        | .slice none n c => match Nat.beq n 0 && Nat.beq c 0 with
          | true => match Nat.beq m 0 with
            | true => some [⟨s, H, nx, []⟩]
            | false => evGrow H nx e k nby m [] nw
          | false => none
        | .slice (some ⟨i, off, none⟩) n c => match rowAt H i with
          | none => none
          | some (t', ex, cs) => match Nat.blt c BIG with
            | true => match Nat.ble (n + m) c with
              | true => match Nat.beq m 0 with
                | true => some [⟨s, H, nx, []⟩]
                | false => match Nat.ble (off + (n + m) * k) cs.length && inT i with
                  | true => some [⟨.slice (some ⟨i, off, none⟩) (n + m) c, put H i (some (.cells t' ex (ovr cs (off + n * k) nw))), nx, [i]⟩]
                  | false => none
              | false => match Nat.ble (off + n * k) cs.length with
                | true => evGrow H nx e k nby (n + m) ((cs.drop off).take (n * k)) nw
                | false => none
            | false => match Nat.beq m 0 with
              | true => some [⟨s, H, nx, []⟩]
              | false => match ex with
                | some k' => match Nat.beq k' k && Nat.beq off 0 && Nat.beq c BIG && inT i && inT nx && Nat.ble (n * k) cs.length && Nat.ble ((2 * (n + m) + 1024) * nby) 140737488355328 && Nat.ble (n + m) 4611686018427387904 with
                  | true => match Nat.ble ((n + m) * k) cs.length with
                    | true => some [⟨.slice (some ⟨i, 0, none⟩) (n + m) c, put H i (some (.cells t' ex (ovr cs (n * k) nw))), nx, [i]⟩]
                    | false => match Nat.beq t' e with
                      | true => some [⟨.slice (some ⟨nx, 0, none⟩) (n + m) (BIG + 0), put (put H i none) nx (some (.cells e (some k) (cs.take (n * k) ++ nw))), nx + 1, [i]⟩]
                      | false => none
                  | false => none
                | none => none
        | .slice (some ⟨_, _, some _⟩) 0 _ => match Nat.beq m 0 with
          | true => some [⟨s, H, nx, []⟩]
          | false => none
        | _ => none
  | _, _ => none
/-- room: the cells are stored -/
theorem run_room {t tx ty e : TypeId} {i : TypeInfo} {w w' : World} (ht : P.underlying t = some (.slice e)) (hi : P.info? e = some i) {b off sLen sCap : Nat} {x : Value} {m : Nat} {news : List Value} (hs : Src P i.size tx x m news w)
    (hroom : sLen + m ≤ sCap) (hst : (storeCells ⟨b, off + sLen * i.size, none⟩ news).run P w = .ok () w') :
    (Builtin.append_ #[t, tx] ty #[.slice (some ⟨b, off, none⟩) sLen sCap, x]).run P w = .ok (.slice (some ⟨b, off, none⟩) (sLen + m) sCap) w' := by
  rcases hs.kind with ⟨e', hk⟩ | hk <;> simp [Builtin.append_, run_underlying ht, run_underlying hk, sizeOf, typeInfo, hi, hs.len, hroom, hs.cells, Addr.add_lit, hst]
theorem zeroC_len (z : Array Value) (n : Nat) : (Builtin.zeroCells z n).toList.length = n * z.size := by rw [Array.length_toList, size_zeroCells]
/-- a new row -/
theorem grow_aft {ρ : Rn} {w : World} (hR : Rep ρ H w) (hf : Fsh ρ nx (nx + 1)) {e : TypeId} {k nby need : Nat} {olds nw : List Value} (h : evGrow H nx e k nby need olds nw = some outs) {ods news : List Value} (h1 : VRL ρ olds ods) (h2 : VRL ρ nw news) {z : Value} (hz : z.cells.size = k) {n m : Nat} (hneed : n + m = need) (hol : ods.length = n * k) (hnl : news.length = m * k) {G : Nat} (hG : need ≤ G)
    : ∃ ρ' , outs = [⟨.slice (some ⟨nx, 0, none⟩) need (BIG + 0), put H nx (some (.cells e (some k) (olds ++ nw))), nx + 1, []⟩] ∧
      Aft ρ H w nx ρ' (put H nx (some (.cells e (some k) (olds ++ nw)))) (w.drew.alloc (.cells ((ods ++ news).toArray ++ Builtin.zeroCells z.cells (G - need)) e)) (nx + 1) ∧ VR ρ' (.slice (some ⟨nx, 0, none⟩) need (BIG + 0)) (.slice (some ⟨w.heap.size, 0, none⟩) need G) := by
  unfold evGrow at h
  split at h
  · rename_i hb'
    cases h
    simp only [Bool.and_eq_true] at hb'
    have hle : Le ρ (upd ρ nx w.heap.size G) := upd_le (hf nx (Nat.le_refl _) (by omega))
    have hd : w.drew.heap.size = w.heap.size := rfl
    refine ⟨upd ρ nx w.heap.size G, rfl, ?_, ?_⟩
    · have hA := Aft.new (w := w.drew) hR.drew hf hb'.1.1 (.cells ((ods ++ news).toArray ++ Builtin.zeroCells z.cells (G - need)) e) G (.cells e (some k) (olds ++ nw)) ?_
      · exact ⟨hA.ext, hA.rep, ⟨hA.stp.os, hA.stp.tape, hA.stp.output, hA.stp.size, hA.stp.block, hA.stp.own⟩⟩
      · refine ⟨ods ++ news, (Builtin.zeroCells z.cells (G - need)).toList, (h1.app h2).mono hle, ?_, ?_⟩
        · have e1 : (ods ++ news).toArray ++ Builtin.zeroCells z.cells (G - need) = ⟨ods ++ news ++ (Builtin.zeroCells z.cells (G - need)).toList⟩ := by
            apply Array.ext'; simp
          rw [e1]
          exact RowF.new w.drew e _
        · show (olds ++ nw).length + _ = G * k
          rw [zeroC_len, hz, List.length_append, ← h1.length, ← h2.length, hol, hnl, ← Nat.add_mul, ← Nat.add_mul, hneed]
          congr 1; omega
    · have := VR.slu (n := need) (s := 0) (off := 0) (upd_same ρ nx w.heap.size G) (by omega)
      simpa using this
  · cases h
theorem firstCells_row {w : World} {g off n c k : Nat} {t : TypeId} {ds zs : List Value} (hR : RowF w g t (ds ++ zs)) (hl : off + n * k ≤ ds.length) : (Builtin.firstCells k n (.slice (some ⟨g, off, none⟩) n c)).run P w = .ok ((ds.drop off).take (n * k)).toArray w := by
  have h1 := run_loadF (P := P) hR (n * k) (off := off) (by simp; omega)
  have h2 : ((ds ++ zs).drop off).take (n * k) = (ds.drop off).take (n * k) := by
    rw [List.drop_append_of_le_length (by omega), List.take_append_of_le_length (by simp; omega)]
  rw [h2] at h1
  simp only [Builtin.firstCells]
  exact h1
theorem Aft.swap {ρ : Rn} {w : World} (hR : Rep ρ H w) (hf : Fsh ρ nx (nx + 1)) {i g c G : Nat} {o' o1 : AO} (hi : H.get i = some o') (hg : ρ i = some (g, c)) (hin : inT i = true) (hn : inT nx = true) {w' : World} (hm : Mod (One g) w w') (hOK : OK (upd ρ nx g G) w' g G o1) : Aft ρ H w nx (upd ρ nx g G) (put (put H i none) nx (some o1)) w' (nx + 1) := by
  have hnx : ρ nx = none := hf nx (Nat.le_refl _) (by omega)
  have hne : i ≠ nx := fun e => by rw [e, hnx] at hg; cases hg
  have hle : Le ρ (upd ρ nx g G) := upd_le hnx
  have hold : ∀ j p, j ≠ nx → (put (put H i none) nx (some o1)).get j = some p → j ≠ i ∧ H.get j = some p := fun j p hj h => by
    rw [get_put hn, if_neg hj, get_put hin] at h
    split at h
    · cases h
    · exact ⟨by assumption, h⟩
  refine ⟨upd_ext _ _ _ _, ⟨fun j p hj => ?_, fun j l p q b c1 c2 h1 h2 h3 h4 => ?_⟩, ⟨hm.os, hm.tape, hm.output, hm.size, fun b hb hnb => hm.block b hb (fun e => hnb ⟨i, o', c, hi, by rw [e]; exact hg⟩), fun b hb h => ?_⟩⟩
  · by_cases e : j = nx
    · subst e
      rw [get_put hn, if_pos rfl] at hj
      cases hj
      exact ⟨g, G, upd_same _ _ _ _, hOK⟩
    · obtain ⟨h1, h2⟩ := hold j p e hj
      obtain ⟨b, c', h3, h4⟩ := hR.ok j p h2
      refine ⟨b, c', hle _ _ h3, (h4.same (hm.block b h4.lt fun eq => h1 (hR.inj j i p o' g c' c h2 hi ?_ hg))).mono hle⟩
      rw [h3, eq]
  · by_cases e1 : j = nx <;> by_cases e2 : l = nx
    · rw [e1, e2]
    · subst e1
      rw [upd_same] at h3; cases h3
      rw [upd_ne e2] at h4
      obtain ⟨h5, h6⟩ := hold l q e2 h2
      exact absurd (hR.inj l i q o' g c2 c h6 hi h4 hg) h5
    · subst e2
      rw [upd_same] at h4; cases h4
      rw [upd_ne e1] at h3
      obtain ⟨h5, h6⟩ := hold j p e1 h1
      exact absurd (hR.inj j i p o' g c1 c h6 hi h3 hg) h5
    · rw [upd_ne e1] at h3
      rw [upd_ne e2] at h4
      exact hR.inj j l p q b c1 c2 (hold j p e1 h1).2 (hold l q e2 h2).2 h3 h4
  · obtain ⟨j, p, c', h1, h2⟩ := h
    by_cases e : j = nx
    · subst e
      rw [upd_same] at h2; cases h2
      exact ⟨i, o', c, hi, hg⟩
    · rw [upd_ne e] at h2
      exact ⟨j, p, c', (hold j p e h1).2, h2⟩
/-- row i goes, and a new block becomes row nx -/
theorem Rep.forget {ρ : Rn} {w : World} (hR : Rep ρ H w) {i : Nat} (hin : inT i = true) : Rep ρ (put H i none) w := by
  have hold : ∀ j p, (put H i none).get j = some p → H.get j = some p := fun j p h => by
    rw [get_put hin] at h
    split at h
    · cases h
    · exact h
  exact ⟨fun j p hj => hR.ok j p (hold j p hj), fun j l p q b c1 c2 h1 h2 => hR.inj j l p q b c1 c2 (hold j p h1) (hold l q h2)⟩
theorem Blk.forget {ρ : Rn} {i g : Nat} (hin : inT i = true) (h : Blk ρ (put H i none) g) : Blk ρ H g := by
  obtain ⟨j, p, c, h1, h2⟩ := h
  rw [get_put hin] at h1
  split at h1
  · cases h1
  · exact ⟨j, p, c, h1, h2⟩
theorem Aft.forget {ρ ρ' : Rn} {w w' : World} {H' : Tr AO} {nx' i : Nat} (hin : inT i = true) (h : Aft ρ (put H i none) w nx ρ' H' w' nx') : Aft ρ H w nx ρ' H' w' nx' :=
  ⟨h.ext, h.rep, ⟨h.stp.os, h.stp.tape, h.stp.output, h.stp.size, fun g hg hn => h.stp.block g hg (fun hb => hn (hb.forget hin)), fun g hg hb => (h.stp.own g hg hb).forget hin⟩⟩
theorem s_app {args : Array Operand} {ats : Array TypeId} (ho : o.op = .call { callee := .builtin .append, args := args, argTypes := ats }) (h : evApp P env H nx ats args = some outs) : OpS P o env H nx outs := by
  have hd : ∀ c, o.op ≠ .defer c := fun c hc => by rw [ho] at hc; cases hc
  unfold evApp at h
  split at h
  case h_2 => cases h
  rename_i t tx s x hat hx
  have hat' : ats = #[t, tx] := by cases ats; simp_all
  subst hat'
  split at h
  · cases h
  rename_i e k nby hel
  obtain ⟨hT, i0, z, hi0, hz0, hk0, hby0, hzk, hkpos⟩ := elK_at hel
  split at h
  · cases h
  rename_i m nw hsrc
  -- nothing is appended
  have none_ : ∀ {s' : Value}, s' = s → m = 0 → (∀ (ρ : Rn) (u : Value), VR ρ s u → ∃ A n c, u = .slice A n c ∧ n ≤ c) → OpS P o env H nx [⟨s', H, nx, []⟩] := fun {s'} hs' hm hsh => by
    subst hs'; subst hm
    refine ops_val hd fun n ρ a w hF hR => ?_
    obtain ⟨u, u', hu, h2, h3⟩ := (hF.evL hx).two_
    obtain ⟨news, h4, h5⟩ := srcOf_run hR hsrc h3
    have hnw : news = [] := by
      have := h4.newsLen
      simp at this; exact this
    subst hnw
    obtain ⟨A, n', c, rfl, hle⟩ := hsh ρ u h2
    subst hk0
    exact ⟨_, h2, bi_val ho hu (fun _ => rfl) (run_append_nothing w t tx o.type e i0 hT hi0 A n' c hle u' h4)⟩
  -- a new row
  have grow_ : ∀ (need : Nat) (olds : List Value) (n' : Nat), need = n' + m → evGrow H nx e k nby need olds nw = some outs → (∀ (ρ : Rn) (w : World) (u : Value), Rep ρ H w → VR ρ s u → ∃ A c ods, u = .slice A n' c ∧ c < n' + m ∧ VRL ρ olds ods ∧ ods.length = n' * k ∧ (Builtin.firstCells k n' (.slice A n' c)).run P w.drew = .ok ods.toArray w.drew) → OpS P o env H nx outs := fun need olds n' hneed hg hsh => by
    subst hneed
    have hout : ∃ H', outs = [⟨.slice (some ⟨nx, 0, none⟩) (n' + m) (BIG + 0), H', nx + 1, []⟩] ∧ Wr H H' nx (nx + 1) [] ∧ (2 * (n' + m) + 1024) * nby ≤ 140737488355328 ∧ n' + m ≤ 4611686018427387904 := by
      unfold evGrow at hg
      split at hg
      · rename_i hb
        simp only [Bool.and_eq_true] at hb
        cases hg
        exact ⟨_, rfl, .new hb.1.1 _, Nat.le_of_ble_eq_true hb.1.2, Nat.le_of_ble_eq_true hb.2⟩
      · cases hg
    obtain ⟨H', hout, hwr, hby, h63⟩ := hout
    subst hout
    refine ops_one hd (Nat.le_succ _) hwr fun n ρ a w hF hR hS => ?_
    obtain ⟨u, u', hu, h2, h3⟩ := (hF.evL hx).two_
    obtain ⟨news, h4, h5⟩ := srcOf_run hR hsrc h3
    obtain ⟨A, c, ods, rfl, hlt, h6, h7, h8⟩ := hsh ρ w u hR h2
    have hG := grownCap_ge w (n' + m) c e
    obtain ⟨ρ', e1, hA, hv⟩ := grow_aft hR hS hg h6 h5 hzk rfl h7 h4.newsLen hG
    simp only [List.cons.injEq, Out.mk.injEq, and_true, true_and] at e1
    subst e1
    refine ⟨ρ', _, _, hA, hv, .inl ?_⟩
    subst hk0; subst hby0
    have hfit : Builtin.nextslicecap (n' + m) c * i0.bytes ≤ 281474976710656 := by
      have := Nat.mul_le_mul_right i0.bytes (nextcap_le (n' + m) c hlt)
      omega
    exact bi_val ho hu (fun _ => rfl) (run_append_grow_src w t tx o.type e i0 z hT hi0 hz0 A n' c ods h8 u' m news h4 hlt (by omega) hfit)
  split at h
  · -- nil
    rename_i n' c
    split at h
    · rename_i hb
      simp only [Bool.and_eq_true] at hb
      have hn0 := Nat.eq_of_beq_eq_true hb.1
      have hc0 := Nat.eq_of_beq_eq_true hb.2
      subst hn0; subst hc0
      split at h
      · rename_i hm
        cases h
        exact none_ rfl (Nat.eq_of_beq_eq_true hm) fun ρ u hu => by cases hu; exact ⟨none, 0, 0, rfl, Nat.le_refl _⟩
      · rename_i hm
        have hm0 : m ≠ 0 := fun e => by subst e; simp at hm
        exact grow_ m [] 0 (by omega) h fun ρ w u hR hu => by
          cases hu
          exact ⟨none, 0, [], rfl, by omega, .nil, by simp, run_firstCells_none w.drew k 0 0 0⟩
    · cases h
  · -- a row
    rename_i i off n' c
    split at h
    · cases h
    rename_i t' ex cs hr
    split at h
    · rename_i hcB
      have hcB : c < BIG := Nat.le_of_ble_eq_true hcB
      split at h
      · rename_i hle
        have hle := Nat.le_of_ble_eq_true hle
        split at h
        · rename_i hm
          cases h
          have hm := Nat.eq_of_beq_eq_true hm
          refine none_ rfl hm fun ρ u hu => ?_
          cases hu with
          | sl hg hk => exact ⟨_, _, _, rfl, by omega⟩
          | slu hg hs => omega
        · split at h
          · rename_i hb
            cases h
            simp only [Bool.and_eq_true] at hb
            have hfit := Nat.le_of_ble_eq_true hb.1
            refine ops_one hd (Nat.le_refl _) (.put hb.2 _ _ _) fun n ρ a w hF hR hS => ?_
            obtain ⟨u, u', hu, h2, h3⟩ := (hF.evL hx).two_
            obtain ⟨news, h4, h5⟩ := srcOf_run hR hsrc h3
            obtain ⟨g, cc, ds, zs, h6, h7, h8, h9⟩ := hR.row hr
            have hdl := h7.length
            have hnl := h4.newsLen
            have hsum : (n' + m) * k = n' * k + m * k := Nat.add_mul _ _ _
            cases h2 with
            | slu hg hs => omega
            | sl hg hk =>
              rw [hg] at h6; cases h6
              obtain ⟨w', hst, hrow, hmod⟩ := run_storeF (P := P) g t' (off + n' * k) news 0 (ds ++ zs) w h8 (by rw [List.length_append]; omega) h4.one
              simp only [Nat.add_zero] at hrow
              refine ⟨ρ, _, w', Aft.turn hR (rowAt_get hr) hg hb.2 hmod ⟨ovr ds (off + n' * k) news, zs, ovr_vr h5 _ h7, ?_, by rw [ovr_len]; exact h9⟩, .sl hg hk, .inl ?_⟩
              · rw [← ovr_app _ _ _ _ (by omega)]; exact hrow
              · subst hk0
                exact bi_val ho hu (fun _ => rfl) (run_room hT hi0 h4 (by omega) hst)
          · cases h
      · rename_i hle
        have hle : ¬ n' + m ≤ c := fun hh => by rw [Nat.ble_eq_true_of_le hh] at hle; cases hle
        split at h
        · rename_i hfit
          have hfit := Nat.le_of_ble_eq_true hfit
          refine grow_ (n' + m) _ n' rfl h fun ρ w u hR hu => ?_
          obtain ⟨g, cc, ds, zs, h6, h7, h8, h9⟩ := hR.row hr
          have hdl := h7.length
          cases hu with
          | slu hg hs => omega
          | sl hg hk =>
            rw [hg] at h6; cases h6
            have h8' : RowF w.drew g t' (ds ++ zs) := h8
            exact ⟨_, _, _, rfl, by omega, (h7.drop off).take _, by simp; omega, firstCells_row h8' (by omega)⟩
        · cases h
    · rename_i hcB
      have hcB : ¬ c < BIG := fun hh => by rw [show Nat.blt c BIG = true from Nat.ble_eq_true_of_le hh] at hcB; cases hcB
      split at h
      · rename_i hm
        cases h
        refine none_ rfl (Nat.eq_of_beq_eq_true hm) fun ρ u hu => ?_
        cases hu with
        | sl hg hk => exact absurd hk hcB
        | slu hg hs => exact ⟨_, _, _, rfl, by omega⟩
      · rename_i hm0
        split at h
        case h_2 => cases h
        rename_i k'
        split at h
        case h_2 => cases h
        rename_i hb
        simp only [Bool.and_eq_true] at hb
        obtain ⟨⟨⟨⟨⟨⟨⟨b1, b2⟩, b3⟩, b4⟩, b5⟩, b6⟩, b7⟩, b8⟩ := hb
        have b1 := Nat.eq_of_beq_eq_true b1
        have b2 := Nat.eq_of_beq_eq_true b2
        have b3 := Nat.eq_of_beq_eq_true b3
        have b6 := Nat.le_of_ble_eq_true b6
        have b7 := Nat.le_of_ble_eq_true b7
        have b8 := Nat.le_of_ble_eq_true b8
        subst b1; subst b2; subst b3
        have hsum : (n' + m) * k' = n' * k' + m * k' := Nat.add_mul _ _ _
        split at h
        · rename_i hfit
          have hfit := Nat.le_of_ble_eq_true hfit
          cases h
          refine ops_one hd (Nat.le_refl _) (.put b4 _ _ _) fun n ρ a w hF hR hS => ?_
          obtain ⟨u, u', hu, h2, h3⟩ := (hF.evL hx).two_
          obtain ⟨news, h4, h5⟩ := srcOf_run hR hsrc h3
          obtain ⟨g, cc, ds, zs, h6, h7, h8, h9⟩ := hR.row hr
          have hdl := h7.length
          have hnl := h4.newsLen
          generalize hBB : BIG = B at h2
          cases h2 with
          | sl hg hk => exact absurd hk (by rw [← hBB]; exact Nat.lt_irrefl _)
          | slu hg hs =>
            rename_i gg ccc s'
            have hs0 : s' = 0 := by omega
            subst hs0
            rw [hg] at h6; cases h6
            have h9' : cs.length + zs.length = cc * k' := h9
            have hcc : n' + m ≤ cc := by
              apply Nat.le_of_mul_le_mul_right _ hkpos
              omega
            obtain ⟨w', hst, hrow, hmod⟩ := run_storeF (P := P) g t' (0 + n' * k') news 0 (ds ++ zs) w h8 (by rw [List.length_append]; omega) h4.one
            simp only [Nat.add_zero, Nat.zero_add] at hrow
            refine ⟨ρ, .slice (some ⟨g, 0, none⟩) (n' + m) cc, w', Aft.turn hR (rowAt_get hr) hg b4 hmod ⟨ovr ds (n' * k') news, zs, ovr_vr h5 _ h7, ?_, by rw [ovr_len]; exact h9⟩, ?_, .inl ?_⟩
            · rw [← ovr_app _ _ _ _ (by omega)]; exact hrow
            · have := VR.slu (n := n' + m) (s := 0) (off := 0) hg (by omega)
              simpa using this
            · subst hk0
              exact bi_val ho hu (fun _ => rfl) (run_room hT hi0 h4 (by omega) hst)
        · rename_i hfit
          have hfit : ¬ (n' + m) * k' ≤ cs.length := fun hh => by rw [Nat.ble_eq_true_of_le hh] at hfit; cases hfit
          split at h
          case h_2 => cases h
          rename_i hte
          have hte := Nat.eq_of_beq_eq_true hte
          subst hte
          cases h
          refine ops_one hd (Nat.le_succ _) (fun q hq hb => by rw [get_put b5, if_neg (by omega), get_put b4, if_neg (by simpa using hq)]) fun n ρ a w hF hR hS => ?_
          obtain ⟨u, u', hu, h2, h3⟩ := (hF.evL hx).two_
          obtain ⟨news, h4, h5⟩ := srcOf_run hR hsrc h3
          obtain ⟨g, cc, ds, zs, h6, h7, h8, h9⟩ := hR.row hr
          have hdl := h7.length
          have hnl := h4.newsLen
          generalize hBB : BIG = B at h2
          cases h2 with
          | sl hg hk => exact absurd hk (by rw [← hBB]; exact Nat.lt_irrefl _)
          | slu hg hs =>
            rename_i gg ccc s'
            have hs0 : s' = 0 := by omega
            subst hs0
            rw [hg] at h6; cases h6
            have h9' : cs.length + zs.length = cc * k' := h9
            simp only [Nat.sub_zero] at hu ⊢
            by_cases hroom : n' + m ≤ cc
            · -- in place
              have hcck : (n' + m) * k' ≤ cc * k' := Nat.mul_le_mul_right _ hroom
              have hall : ds ++ zs = (ds.take (n' * k')) ++ (ds.drop (n' * k') ++ zs) := by rw [← List.append_assoc, List.take_append_drop]
              obtain ⟨w', hst, hrow, hmod⟩ := run_storeF (P := P) g t' (0 + n' * k') news 0 (ds ++ zs) w h8 (by rw [List.length_append]; omega) h4.one
              simp only [Nat.add_zero, Nat.zero_add] at hrow
              have hsplit : ∀ (vs A B : List Value), vs.length ≤ B.length → ovr (A ++ B) A.length vs = (A ++ vs) ++ B.drop vs.length := by
                intro vs
                induction vs with
                | nil => intro A B _; simp [ovr]
                | cons v r ih =>
                  intro A B hB
                  cases B with
                  | nil => simp at hB
                  | cons b B =>
                    unfold ovr
                    rw [List.set_append_right _ _ (Nat.le_refl _), Nat.sub_self, List.set_cons_zero]
                    have := ih (A ++ [v]) B (by simpa using hB)
                    rw [List.length_append, List.length_singleton] at this
                    rw [show A ++ v :: B = (A ++ [v]) ++ B by simp, this]
                    simp
              have htl : (ds.take (n' * k')).length = n' * k' := by simp; omega
              rw [hall] at hrow
              have h10 := hsplit news (ds.take (n' * k')) (ds.drop (n' * k') ++ zs) (by rw [List.length_append, List.length_drop]; omega)
              rw [htl] at h10
              rw [h10] at hrow
              have hle := upd_le (g := g) (c := cc) (hS nx (Nat.le_refl _) (by omega))
              refine ⟨upd ρ nx g cc, .slice (some ⟨g, 0, none⟩) (n' + m) cc, w', Aft.swap hR hS (rowAt_get hr) hg b4 b5 hmod ⟨ds.take (n' * k') ++ news, (ds.drop (n' * k') ++ zs).drop news.length, ((h7.take _).app h5).mono hle, hrow, ?_⟩, ?_, .inl ?_⟩
              · show (cs.take (n' * k') ++ nw).length + _ = cc * k'
                have := h5.length
                rw [List.length_append, List.length_take, List.length_drop, List.length_append, List.length_drop, Nat.min_eq_left b6]
                omega
              · have := VR.slu (n := n' + m) (s := 0) (off := 0) (upd_same ρ nx g cc) (by omega)
                simpa using this
              · subst hk0
                exact bi_val ho hu (fun _ => rfl) (run_room hT hi0 h4 hroom hst)
            · -- a new one
              have hG := grownCap_ge w (n' + m) cc t'
              have hRf := hR.forget b4
              have hgr : evGrow (put H i none) nx t' k' nby (n' + m) (cs.take (n' * k')) nw = some [⟨.slice (some ⟨nx, 0, none⟩) (n' + m) (BIG + 0), put (put H i none) nx (some (.cells t' (some k') (cs.take (n' * k') ++ nw))), nx + 1, []⟩] := by
                unfold evGrow
                rw [b5, Nat.ble_eq_true_of_le b7, Nat.ble_eq_true_of_le b8]
                rfl
              obtain ⟨ρ', _, hA, hv⟩ := grow_aft hRf hS hgr (h7.take (n' * k')) h5 hzk rfl (by simp; omega) hnl hG
              refine ⟨ρ', _, _, hA.forget b4, hv, .inl ?_⟩
              subst hk0; subst hby0
              have hfit2 : Builtin.nextslicecap (n' + m) cc * i0.bytes ≤ 281474976710656 := by
                have := Nat.mul_le_mul_right i0.bytes (nextcap_le (n' + m) cc (by omega))
                omega
              have h8' : RowF w.drew g t' (ds ++ zs) := h8
              have hfc := firstCells_row (P := P) (off := 0) (n := n') (c := cc) (k := i0.size) h8' (by omega)
              rw [List.drop_zero] at hfc
              exact bi_val ho hu (fun _ => rfl) (run_append_grow_src w t tx o.type t' i0 z hT hi0 hz0 _ n' cc _ hfc u' m news h4 (by omega) (by omega) hfit2)
  · -- an empty one
    rename_i a1 a2 a3 c
    split at h
    · rename_i hm
      cases h
      exact none_ rfl (Nat.eq_of_beq_eq_true hm) fun ρ u hu => by cases hu; exact ⟨_, 0, _, rfl, Nat.zero_le _⟩
    · cases h
  · cases h
end ops
end
end Go.Proofs.YtljpjfefjidakaaGreat.Run

namespace Go.Proofs.YtljpjfefjidakaaGreat.Run
noncomputable section
open Go.RowKit

/-! ## Calls -/
/-- what comes of calling the function value f -/
def CallsV (P : Program) (f : Value) (vs : List Value) (w : World) (R : Ending → World → Prop) : Prop :=
  (∃ F p q, f = .func (.func F) ⟨p⟩ ⟨q⟩ ∧ Ent P F ∧ Calls P F ⟨p ++ vs ++ q⟩ w R) ∨
  ∃ L r, f = .func (.yield L) ⟨[]⟩ ⟨[]⟩ ∧ w.heap[L]? = some (.loop r) ∧ vs.length = r.params.size ∧ RoundIn Fence.wide 0 P L r.fn ((r.params.zip vs.toArray).foldl (fun tmps (t, a) => tmps.setIfInBounds t a) r.tmps) r.assign r.body w R
theorem CallsV.mono {P : Program} {f : Value} {vs : List Value} {w : World} {R R' : Ending → World → Prop} (h : CallsV P f vs w R) (hr : ∀ e w', R e w' → R' e w') : CallsV P f vs w R' :=
  h.imp (fun ⟨F, p, q, h1, h2, h3⟩ => ⟨F, p, q, h1, h2, h3.mono hr⟩) (fun ⟨L, r, h1, h2, h3, h4⟩ => ⟨L, r, h1, h2, h3, h4.mono hr⟩)
abbrev CallF := Value → List Value → Tr AO → Nat → Option (List Out)
def CallS (P : Program) (fv : Value) (args : List Value) (H : Tr AO) (nx : Nat) (outs : List Out) : Prop :=
  (outs ≠ [] ∧ ∀ x ∈ outs, nx ≤ x.nx ∧ Wr H x.H nx x.nx x.wr) ∧ ∀ (ρ : Rn) (w : World) (M : Nat) (fu : Value) (us : List Value), VR ρ fv fu → VRL ρ args us → Rep ρ H w → (∀ x ∈ outs, x.nx ≤ M) → Fsh ρ nx M → ∀ (R : Value → World → Prop),
    (∀ x ∈ outs, ∀ ρ' w' u, Aft ρ H w nx ρ' x.H w' x.nx → VR ρ' x.v u → R u w') → CallsV P fu us w fun e w' => ∃ u, e = .returned u ∧ R u w'
def CallOK (P : Program) (call : CallF) : Prop := ∀ fv args H nx outs, call fv args H nx = some outs → CallS P fv args H nx outs
section
variable {P : Program} {o : Oper} {env : Env} {H : Tr AO} {nx : Nat} {outs : List Out} {F : Fence} {Q : Exit → Act → World → Prop} {a : Act} {w : World}
theorem op_call {f : Operand} {args : Array Operand} {ats : Array TypeId} {fv : Value} {vs : List Value} {K : Act → World → Prop} (hG : GF F) (ho : o.op = .call { callee := .value f, args := args, argTypes := ats }) (hf : a.eval f = fv) (hx : args.toList.map a.eval = vs)
    (h : CallsV P fv vs w fun e w' => ∃ v, e = .returned v ∧ K (a.put o.dst v) w') : o.wpIn F 0 P a w K Q := by
  have ha : args.map a.eval = ⟨vs⟩ := by rw [← hx]; cases args; simp
  have key : o.uponIn Fence.wide 0 P a K Q ((execOp a.eval o).run P w) := by
    rcases h with ⟨F', p, q, rfl, hE, h⟩ | ⟨L, r, rfl, hL, hs, h⟩
    · have hrun : (execOp a.eval o).run P w = .ok (.enter F' ⟨p ++ vs ++ q⟩) w := by
        unfold execOp
        have h2 := hE ⟨p ++ vs ++ q⟩ w
        simp only [ho, resolve, ha, hf, Deferred.ofValue, Sem.run_bind, Sem.run_pure, Result.andThen_ok, invoke]
        simpa using h2
      rw [hrun]
      refine ⟨fun h => (by cases h), callsIn_wide.2 (h.mono ?_)⟩
      rintro e w' ⟨v, rfl, h⟩
      exact h
    · have hrun : (execOp a.eval o).run P w = .ok (.round L r.fn ((r.params.zip vs.toArray).foldl (fun tmps (t, a) => tmps.setIfInBounds t a) r.tmps) r.assign r.body) w := by
        have h2 := run_yield (P := P) (args := vs.toArray) hL (by simpa using hs)
        rw [← h2]
        unfold execOp
        simp [ho, resolve, ha, hf, Deferred.ofValue, invoke]
      rw [hrun, Oper.uponIn_round]
      refine ⟨fun h => (by cases h), h.mono ?_⟩
      rintro e w' ⟨v, rfl, h⟩
      exact h
  rcases hG with rfl | ⟨L, rfl⟩
  · exact ⟨fun _ _ => trivial, key⟩
  · refine ⟨fun _ _ => trivial, ?_⟩
    rw [Oper.semAt_eq _ _ _ (fun c hc => by rw [ho] at hc; cases hc)]
    exact key
def evCall (call : CallF) (env : Env) (f : Operand) (args : Array Operand) (H : Tr AO) (nx : Nat) : Option (List Out) := match evO env f, evL env args.toList with
  | some fv, some vs => call fv vs H nx
  | _, _ => none
theorem s_call {call : CallF} (hC : CallOK P call) {f : Operand} {args : Array Operand} {ats : Array TypeId} (ho : o.op = .call { callee := .value f, args := args, argTypes := ats }) (h : evCall call env f args H nx = some outs) : OpS P o env H nx outs := by
  unfold evCall at h
  split at h
  · rename_i fv vs hf hx
    obtain ⟨h1, h2⟩ := hC _ _ _ _ _ h
    refine ⟨h1, fun n ρ a w M hF hR hM hS F hG K Q hK => ?_⟩
    exact op_call hG ho rfl rfl (h2 ρ w M _ _ (hF.ev hf) (hF.evL hx) hR hM hS (fun u w' => K (a.put o.dst u) w') hK)
  · cases h
end
/-! ## Numbers, without the model's long way -/
def kNo : IntKind → Nat
  | .i8 => 0
  | .i16 => 1
  | .i32 => 2
  | .i64 => 3
  | .u8 => 4
  | .u16 => 5
  | .u32 => 6
  | .u64 => 7
def kEq (a b : IntKind) : Bool := Nat.beq (kNo a) (kNo b)
theorem kEq_at {a b : IntKind} (h : kEq a b = true) : a = b := by
  cases a <;> cases b <;> first | rfl | cases h
def intF (op : BinOp) (k : IntKind) (a b : Int) : Option Value := match op with
  | .add => some (.int k (k.wrap (a + b)))
  | .sub => some (.int k (k.wrap (a - b)))
  | .mul => some (.int k (k.wrap (a * b)))
  | .eql => some (.bool (a == b))
  | .neq => some (.bool (a != b))
  | .lss => some (.bool (decide (a < b)))
  | .leq => some (.bool (decide (a ≤ b)))
  | .gtr => some (.bool (decide (a > b)))
  | .geq => some (.bool (decide (a ≥ b)))
  | .and => some (.int k (k.wrap (BitVec.ofInt k.bits a &&& BitVec.ofInt k.bits b).toNat))
  | .or => some (.int k (k.wrap (BitVec.ofInt k.bits a ||| BitVec.ofInt k.bits b).toNat))
  | .xor => some (.int k (k.wrap (BitVec.ofInt k.bits a ^^^ BitVec.ofInt k.bits b).toNat))
  | _ => none
def evInt (env : Env) (op : BinOp) (x y : Operand) : Option Value := match evO env x with
  | some (.int k a) => match evO env y with
    | some (.int k' b) => match kEq k k' with | true => intF op k a b | false => none
    | _ => none
  | _ => none
theorem s_int {P : Program} {o : Oper} {env : Env} {H : Tr AO} {nx : Nat} {outs : List Out} {op : BinOp} {T T' : TypeId} {x y : Operand} (ho : o.op = .binOp op T x y T') (h : one (evInt env op x y) H nx = some outs) : OpS P o env H nx outs := by
  obtain ⟨v, h1, rfl⟩ := one_eq h
  refine ops_val (fun c hc => by rw [ho] at hc; cases hc) fun n ρ a w hF hR => ?_
  unfold evInt at h1
  split at h1
  case h_2 => cases h1
  rename_i k i hx
  split at h1
  case h_2 => cases h1
  rename_i k' j hy
  split at h1
  case h_2 => cases h1
  rename_i hk
  have hk := kEq_at hk
  subst hk
  have h2 := vr_int (hF.ev hx)
  have h3 := vr_int (hF.ev hy)
  have key : VR ρ v v ∧ (do eqGuard op T x y (.int k i) (.int k j); binOp op T (.int k i) (.int k j) : Sem Value).run P w = .ok v w := by
    cases op <;> simp only [intF] at h1 <;> cases h1 <;> refine ⟨by constructor, ?_⟩ <;> simp [eqGuard, binOp, Op.intArith, Op.intCmp, Op.intBits]
  refine ⟨v, key.1, ?_⟩
  unfold execOp
  simp only [ho, h2, h3]
  rw [Sem.run_bind, key.2]
  rfl
/-! ## Any operation -/
def alt {α : Type} (a : Option α) (b : Option α) : Option α := match a with | some x => some x | none => b
theorem alt_eq {α : Type} {a b : Option α} {x : α} (h : alt a b = some x) : a = some x ∨ b = some x := by
  unfold alt at h
  split at h
  · cases h; exact .inl rfl
  · exact .inr h
def evStoreO (P : Program) (env : Env) (H : Tr AO) (nx : Nat) (T : TypeId) (x y : Operand) : Option (List Out) := match evStore P env H T x y with
  | some (i, H') => some [⟨undef, H', nx, [i]⟩]
  | none => none
/-- operations that are told elsewhere -/
structure Els (P : Program) where
  ev : Env → Tr AO → Nat → Oper → Option (List Out)
  ok : ∀ o env H nx outs, ev env H nx o = some outs → OpS P o env H nx outs
  mem : CallF
  mok : CallOK P mem
/-- what an operation does, told once and for all: the kernel keeps it -/
structure Ins where
  run : Env → Tr AO → Nat → Option (List Out)
def comp (P : Program) (X : Els P) (call : CallF) (o : Oper) : Ins := match o.op with
  | .move x => ⟨fun env H nx => one (evO env x) H nx⟩
  | .assign x => ⟨fun env H nx => one (evO env x) H nx⟩
  | .pick c x y => ⟨fun env H nx => one (evPick env c x y) H nx⟩
  | .extract x i => ⟨fun env H nx => one (evExtract env x i) H nx⟩
  | .load T x => ⟨fun env H nx => alt (one (evLoad P env H T x) H nx) (X.ev env H nx o)⟩
  | .store T x y => ⟨fun env H nx => evStoreO P env H nx T x y⟩
  | .alloc T => ⟨fun env H nx => evAlloc P H nx T⟩
  | .box T x => ⟨fun env H nx => evBox env H nx T x⟩
  | .build T ps => ⟨fun env H nx => one (evBuild P env T ps) H nx⟩
  | .nilCheck x => ⟨fun env H nx => one (evNil env x) H nx⟩
  | .fieldAddr S x f => ⟨fun env H nx => one (evField P env S x f) H nx⟩
  | .indexAddr T x y => ⟨fun env H nx => alt (one (evIdx P env T x y) H nx) (X.ev env H nx o)⟩
  | .field T x f => ⟨fun env H nx => one (evFld P env T x f) H nx⟩
  | .index T x y => ⟨fun env H nx => alt (one (evSIdx P env T x y) H nx) (one (evIndex P env T x y) H nx)⟩
  | .binOp op T x y _ => ⟨fun env H nx => alt (one (evInt env op x y) H nx) <| alt (one (evStr env op x y) H nx) (alt (one (evEqNil P env op T x y) H nx) (alt (one (evBin P env op T x y) H nx) (X.ev env H nx o)))⟩
  | .unOp op _ x => ⟨fun env H nx => one (evUn P env op x) H nx⟩
  | .convert T T' x => ⟨fun env H nx => alt (one (evConv P env T T' x) H nx) (X.ev env H nx o)⟩
  | .slice T x lo hi mx => ⟨fun env H nx => alt (one (evSlice P env T x lo hi mx) H nx) (X.ev env H nx o)⟩
  | .makeFunc fn p q => ⟨fun env H nx => one (evFn env fn p q) H nx⟩
  | .makeInterface T x => ⟨fun env H nx => one (evIface P env T x) H nx⟩
  | .call { callee := .value f, args, .. } => ⟨fun env H nx => evCall call env f args H nx⟩
  | .call { callee := .builtin .len, args, argTypes } => ⟨fun env H nx => one (evLen P env H argTypes args) H nx⟩
  | .call { callee := .builtin .cap, args, argTypes } => ⟨fun env H nx => one (evCap P env argTypes args) H nx⟩
  | .call { callee := .builtin .max, args, .. } => ⟨fun env H nx => one (evMin P env true args) H nx⟩
  | .call { callee := .builtin .min, args, .. } => ⟨fun env H nx => one (evMin P env false args) H nx⟩
  | .call { callee := .builtin .append, args, argTypes } => ⟨fun env H nx => evApp P env H nx argTypes args⟩
  | _ => ⟨fun env H nx => X.ev env H nx o⟩
def evOp (P : Program) (X : Els P) (call : CallF) (env : Env) (H : Tr AO) (nx : Nat) (o : Oper) : Option (List Out) := (comp P X call o).run env H nx
theorem evOp_s {P : Program} {X : Els P} {call : CallF} (hC : CallOK P call) {o : Oper} {env : Env} {H : Tr AO} {nx : Nat} {outs : List Out} (h : evOp P X call env H nx o = some outs) : OpS P o env H nx outs := by
  unfold evOp comp at h
  split at h
  · rename_i ho; exact s_move (.inl ho) h
  · rename_i ho; exact s_move (.inr ho) h
  · rename_i ho; exact s_pick ho h
  · rename_i ho; exact s_extract ho h
  · rename_i ho
    rcases alt_eq h with h | h
    · exact s_load ho h
    · exact X.ok _ _ _ _ _ h
  · rename_i ho
    dsimp only at h
    unfold evStoreO at h
    split at h
    · rename_i hs; cases h; exact s_store ho hs
    · cases h
  · rename_i ho; exact s_alloc ho h
  · rename_i ho; exact s_box ho h
  · rename_i ho; exact s_build ho h
  · rename_i ho; exact s_nil ho h
  · rename_i ho; exact s_field ho h
  · rename_i ho
    rcases alt_eq h with h | h
    · exact s_idx ho h
    · exact X.ok _ _ _ _ _ h
  · rename_i ho; exact s_fld ho h
  · rename_i ho
    rcases alt_eq h with h | h
    · exact s_sidx ho h
    · exact s_index ho h
  · rename_i ho
    rcases alt_eq h with h | h
    · exact s_int ho h
    rcases alt_eq h with h | h
    · exact s_str ho h
    rcases alt_eq h with h | h
    · exact s_eqnil ho h
    rcases alt_eq h with h | h
    · exact s_bin ho h
    · exact X.ok _ _ _ _ _ h
  · rename_i ho; exact s_un ho h
  · rename_i ho
    rcases alt_eq h with h | h
    · exact s_conv ho h
    · exact X.ok _ _ _ _ _ h
  · rename_i ho
    rcases alt_eq h with h | h
    · exact s_slice ho h
    · exact X.ok _ _ _ _ _ h
  · rename_i ho; exact s_fn ho h
  · rename_i ho; exact s_iface ho h
  · rename_i ho; exact s_call hC ho h
  · rename_i ho; exact s_len ho h
  · rename_i ho; exact s_cap ho h
  · rename_i ho; exact s_min true ho h
  · rename_i ho; exact s_min false ho h
  · rename_i ho; exact s_app ho h
  · exact X.ok _ _ _ _ _ h

/-! ## Operations in a fixed order -/
structure St where
  env : Env
  H : Tr AO
  nx : Nat
  wr : List Nat
def bindL {α β : Type} : List α → (α → Option (List β)) → Option (List β)
  | [], _ => none
  | [x], f => f x
  | x :: r, f => match f x, bindL r f with | some a, some b => some (a ++ b) | _, _ => none
theorem bindL_at {α β : Type} {f : α → Option (List β)} : ∀ {l : List α} {r : List β}, bindL l f = some r → ∀ x ∈ l, ∃ rx, f x = some rx ∧ ∀ y ∈ rx, y ∈ r
  | [], _, h, x, hx => by cases h
  | [x], r, h, y, hy => by
    have : y = x := by simpa using hy
    subst this
    exact ⟨r, h, fun _ h => h⟩
  | x :: x2 :: l, r, h, y, hy => by
    unfold bindL at h
    split at h
    · rename_i a b h1 h2
      cases h
      rcases List.mem_cons.1 hy with rfl | hy
      · exact ⟨a, h1, fun z hz => List.mem_append.2 (.inl hz)⟩
      · obtain ⟨rx, h3, h4⟩ := bindL_at h2 y hy
        exact ⟨rx, h3, fun z hz => List.mem_append.2 (.inr (h4 z hz))⟩
    · cases h
theorem bindL_mem {α β : Type} {f : α → Option (List β)} : ∀ {l : List α} {r : List β}, bindL l f = some r → ∀ y ∈ r, ∃ x ∈ l, ∃ rx, f x = some rx ∧ y ∈ rx
  | [], r, h, y, hy => by cases h
  | [x], r, h, y, hy => ⟨x, by simp, r, h, hy⟩
  | x :: x2 :: l, r, h, y, hy => by
    unfold bindL at h
    split at h
    · rename_i a b h1 h2
      cases h
      rcases List.mem_append.1 hy with hy | hy
      · exact ⟨x, by simp, a, h1, hy⟩
      · obtain ⟨z, h3, rx, h4, h5⟩ := bindL_mem h2 y hy
        exact ⟨z, List.mem_cons.2 (.inr h3), rx, h4, h5⟩
    · cases h
def wantsR (ops : Array Oper) (o : Oper) (env : Env) : Option Bool := match o.guard with
  | none => some true
  | some (j, b) => match ops.toList[j]? with
    | some g => match g.dst with
      | some t => match env.get t with
        | some (.bool c) => some (match b with | true => c | false => !c)
        | some (.tuple _) => some false
        | _ => none
      | none => none
    | none => none
theorem FrR.wants {n : Nat} {ρ : Rn} {a : Act} {env : Env} {ops : Array Oper} {o : Oper} {b : Bool} (h : FrR n ρ a env) (hg : wantsR ops o env = some b) : Region.wanted o (yielded ops a.tmps) = b := by
  unfold wantsR at hg
  unfold Region.wanted
  cases hgd : o.guard with
  | none => rw [hgd] at hg; exact Option.some.inj hg
  | some jb =>
    obtain ⟨j, c⟩ := jb
    simp only [hgd] at hg ⊢
    split at hg
    · rename_i g hgj
      split at hg
      · rename_i t ht
        have hb : (ops[j]?).bind (·.dst) = some t := by
          have : ops[j]? = some g := by simpa using hgj
          simp [this, ht]
        split at hg
        · rename_i e he
          obtain ⟨u, h1, h2⟩ := h.get t _ he
          cases h2
          simp only [Option.some.injEq] at hg
          unfold yielded
          simp only [hb, Option.bind_some, h1]
          rw [← hg]
          cases e <;> cases c <;> rfl
        · rename_i l he
          obtain ⟨u, h1, h2⟩ := h.get t _ he
          cases h2
          simp only [Option.some.injEq] at hg
          unfold yielded
          simp only [hb, Option.bind_some, h1]
          rw [← hg]
          rfl
        · cases hg
      · cases hg
    · cases hg
def evPut (env : Env) (n : Nat) (d : Option Tmp) (v : Value) : Option Env := match d with
  | some d => match Nat.blt d n && inT d with | true => some (put env d (some v)) | false => none
  | none => some env
theorem evPut_fr {n : Nat} {ρ : Rn} {a : Act} {env env' : Env} {d : Option Tmp} {v u : Value} (h : evPut env n d v = some env') (hF : FrR n ρ a env) (hv : VR ρ v u) : FrR n ρ (a.put d u) env' := by
  unfold evPut at h
  split at h
  · split at h
    · rename_i hb
      cases h
      simp only [Bool.and_eq_true] at hb
      exact hF.put (Nat.le_of_ble_eq_true hb.1) hb.2 hv
    · cases h
  · cases h; exact hF
theorem put_def (a : Act) (d : Option Nat) (v : Value) : (a.put d v).defers = a.defers := by cases d <;> rfl
/-- operations, told once and for all -/
structure InsL where
  run : St → Option (List St)
def cmpL (P : Program) (X : Els P) (call : CallF) (n : Nat) (ops : Array Oper) : List Oper → InsL
  | [] => ⟨fun st => some [st]⟩
  | o :: r => ⟨fun st => match st with
    | ⟨env, H, nx, wr⟩ => match wantsR ops o env with
      | none => none
      | some false => match evPut env n o.dst undef with
        | some env' => (cmpL P X call n ops r).run ⟨env', H, nx, wr⟩
        | none => none
      | some true => match evOp P X call env H nx o with
        | none => none
        | some outs => bindL outs fun x => match x with
          | ⟨v, H', nx', wr'⟩ => match evPut env n o.dst v with
            | some env' => (cmpL P X call n ops r).run ⟨env', H', nx', wr' ++ wr⟩
            | none => none⟩
abbrev evList (P : Program) (X : Els P) (call : CallF) (n : Nat) (ops : Array Oper) (l : List Oper) : St → Option (List St) := (cmpL P X call n ops l).run
theorem evList_cons (P : Program) (X : Els P) (call : CallF) (n : Nat) (ops : Array Oper) (o : Oper) (r : List Oper) (st : St) : evList P X call n ops (o :: r) st = match wantsR ops o st.env with
    | none => none
    | some false => match evPut st.env n o.dst undef with
      | some env' => evList P X call n ops r { st with env := env' }
      | none => none
    | some true => match evOp P X call st.env st.H st.nx o with
      | none => none
      | some outs => bindL outs fun x => match evPut st.env n o.dst x.v with
        | some env' => evList P X call n ops r ⟨env', x.H, x.nx, x.wr ++ st.wr⟩
        | none => none := rfl
/-- what holds of a state behind another one -/
structure Bhd (st s : St) : Prop where
  le : st.nx ≤ s.nx
  wr : ∃ l, s.wr = l ++ st.wr ∧ Wr st.H s.H st.nx s.nx l
theorem Bhd.refl (st : St) : Bhd st st := ⟨Nat.le_refl _, [], rfl, .refl _ _ _ _⟩
theorem Bhd.trans {a b c : St} (h : Bhd a b) (h' : Bhd b c) : Bhd a c := by
  obtain ⟨l, h1, h2⟩ := h.wr
  obtain ⟨m, h3, h4⟩ := h'.wr
  refine ⟨Nat.le_trans h.le h'.le, m ++ l, by rw [h3, h1, List.append_assoc], fun k hk hb => ?_⟩
  rw [List.mem_append, not_or] at hk
  have := h.le; have := h'.le
  rw [h4 k hk.1 (by omega), h2 k hk.2 (by omega)]
theorem gf_fn {F : Fence} (hG : GF F) (f : FuncId) : F.fn f := by rcases hG with rfl | ⟨L, rfl⟩ <;> trivial
section
variable {P : Program} {X : Els P} {call : CallF} {n : Nat} {ops : Array Oper}
theorem evList_s (hC : CallOK P call) : ∀ {l : List Oper} {st : St} {sts : List St}, evList P X call n ops l st = some sts → (sts ≠ [] ∧ ∀ s ∈ sts, Bhd st s) ∧
    ∀ (ρ : Rn) (a : Act) (w : World) (M : Nat), FrR n ρ a st.env → Rep ρ st.H w → (∀ s ∈ sts, s.nx ≤ M) → Fsh ρ st.nx M → ∀ (F : Fence), GF F → ∀ (Q : Exit → Act → World → Prop),
      (∀ s ∈ sts, ∀ ρ' a' w', FrR n ρ' a' s.env → a'.defers = a.defers → Aft ρ st.H w st.nx ρ' s.H w' s.nx → Q .normal a' w') → wpListIn F 0 P ops Q l a w
  | [], st, sts, h => by
    cases h
    refine ⟨⟨by simp, fun s hs => ?_⟩, fun ρ a w M hF hR _ _ F hG Q hQ => hQ st (by simp) ρ a w hF rfl (.refl hR)⟩
    have : s = st := by simpa using hs
    subst this; exact .refl _
  | o :: r, st, sts, h => by
    rw [evList_cons] at h
    split at h
    · cases h
    · rename_i hw
      split at h
      · rename_i env' he
        obtain ⟨⟨h0, h1⟩, h2⟩ := evList_s hC h
        refine ⟨⟨h0, fun s hs => ⟨(h1 s hs).le, (h1 s hs).wr⟩⟩, fun ρ a w M hF hR hM hS F hG Q hQ => ?_⟩
        unfold wpListIn
        rw [if_neg (by rw [hF.wants hw]; simp)]
        exact ⟨fun f _ => gf_fn hG f, h2 ρ _ w M (evPut_fr he hF .undef) hR hM hS F hG Q fun s hs ρ' a' w' q1 q2 q3 => hQ s hs ρ' a' w' q1 (q2.trans (put_def _ _ _)) q3⟩
      · cases h
    · rename_i hw
      split at h
      · cases h
      rename_i outs ho
      obtain ⟨⟨h0, h1⟩, h2⟩ := evOp_s hC ho
      have each : ∀ x ∈ outs, ∃ env' rx, evPut st.env n o.dst x.v = some env' ∧ evList P X call n ops r ⟨env', x.H, x.nx, x.wr ++ st.wr⟩ = some rx ∧ (∀ s ∈ rx, s ∈ sts) := fun x hx => by
        obtain ⟨rx, h3, h4⟩ := bindL_at h x hx
        split at h3
        · rename_i env' he; exact ⟨env', rx, he, h3, h4⟩
        · cases h3
      have ne : sts ≠ [] := fun e => by
        obtain ⟨x, hx⟩ := List.exists_mem_of_ne_nil outs h0
        obtain ⟨env', rx, _, h3, h4⟩ := each x hx
        obtain ⟨s, hs⟩ := List.exists_mem_of_ne_nil rx (evList_s hC h3).1.1
        have := h4 s hs
        rw [e] at this; simp at this
      refine ⟨⟨ne, fun s hs => ?_⟩, fun ρ a w M hF hR hM hS F hG Q hQ => ?_⟩
      · obtain ⟨x, hx, rx, h3, h4⟩ := bindL_mem h s hs
        split at h3
        · rename_i env' he
          have h5 := (evList_s hC h3).1.2 s h4
          exact Bhd.trans ⟨(h1 x hx).1, x.wr, rfl, (h1 x hx).2⟩ h5
        · cases h3
      · unfold wpListIn
        rw [if_pos (hF.wants hw)]
        have hxM : ∀ x ∈ outs, x.nx ≤ M := fun x hx => by
          obtain ⟨env', rx, _, h3, h4⟩ := each x hx
          obtain ⟨s, hs⟩ := List.exists_mem_of_ne_nil rx (evList_s hC h3).1.1
          exact Nat.le_trans ((evList_s hC h3).1.2 s hs).le (hM s (h4 s hs))
        refine h2 n ρ a w M hF hR hxM hS F hG _ Q fun x hx ρ1 w1 u hA hv => ?_
        obtain ⟨env', rx, he, h3, h4⟩ := each x hx
        have hle := hA.ext.le (hS.left (hxM x hx))
        refine (evList_s hC h3).2 ρ1 _ w1 M (evPut_fr he (hF.mono hle) hv) hA.rep (fun s hs => hM s (h4 s hs)) (hS.right hA.ext (h1 x hx).1) F hG Q fun s hs ρ' a' w' q1 q2 q3 => ?_
        exact hQ s (h4 s hs) ρ' a' w' q1 (q2.trans (put_def _ _ _)) (hA.trans q3 (h1 x hx).1 ((evList_s hC h3).1.2 s hs).le)
end
end
end Go.Proofs.YtljpjfefjidakaaGreat.Run
