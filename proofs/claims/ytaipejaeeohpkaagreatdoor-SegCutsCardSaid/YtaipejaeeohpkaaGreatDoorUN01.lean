/-
  SgX · SgY · SgI
-/
import Derived.Test.YtaipejaeeohpkaaGreatDoorUM01
import Derived.Test.YtaipejaeeohpkaaGreatDoorUM02
set_option linter.unusedSimpArgs false
set_option linter.unusedVariables false
set_option maxRecDepth 100000
namespace Go.Proofs.YtaipejaeeohpkaaGreatDoor.Sep
open Go.RowKit
open Go.Proofs.YtaipejaeeohpkaaGreatDoor.Mem (Dist Blk Chg below0)
theorem vec_cutK {e : TypeId} {k : Nat} {α : Type} {enc : α → List Value} (he : EncOf k enc) {A : Option Addr} {c : Nat} {l : List α} {j : Nat} (hj : j ≤ l.length) : ∀ rs, Parts [Vec e k enc (.slice A l.length c) l] rs → Vec e k enc (.slice A (l.take j).length c) (l.take j) rs := fun rs h => by
  rcases Parts.one' h with ⟨h1, h2, h3⟩ | ⟨g, c', cs, h1, h2, h3, h4, h5, h6⟩
  · subst h2
    exact .inl ⟨by simpa using h1, by simp, h3⟩
  · have hl : (l.take j).length = j := by rw [List.length_take]; omega
    simp only [Value.slice.injEq] at h1
    obtain ⟨rfl, _, rfl⟩ := h1
    refine .inr ⟨g, c, cs, rfl, by omega, h3, h4, ?_, h6⟩
    rw [hl, ← flat_take he, ← h5, List.take_take]
    congr 1
    exact (Nat.min_eq_left (Nat.mul_le_mul_right k hj)).symm
theorem subTakeK {k : Nat} {A : Option Addr} {n c j : Nat} : subv k (.slice A n c) 0 j = .slice A j c := by
  have e : A.map (·.add 0) = A := by
    cases A with
    | none => rfl
    | some a =>
      have : a.add 0 = a := by obtain ⟨b, o, q⟩ := a; cases q <;> simp [Addr.add]
      simp [this]
  simp [subv, e]
theorem vec_capK {e : TypeId} {k : Nat} {α : Type} {enc : α → List Value} {A : Option Addr} {c n : Nat} {l : List α} : ∀ rs, Vec e k enc (.slice A n c) l rs → l.length ≤ c := fun rs h => by
  rcases h with ⟨h1, h2, h3⟩ | ⟨g, c', cs, h1, h2, h3, h4, h5, h6⟩
  · subst h2; exact Nat.zero_le _
  · simp only [Value.slice.injEq] at h1; omega
theorem vec_same {e : TypeId} {k : Nat} {α β : Type} {enc : α → List Value} {enc' : β → List Value} {v : Value} {l : List α} {m : List β} (hl : l.length = m.length) (hf : flat enc l = flat enc' m) : ∀ rs, Parts [Vec e k enc v l] rs → Vec e k enc' v m rs := fun rs h => by
  rcases Parts.one' h with ⟨h1, h2, h3⟩ | ⟨g, c, cs, h1, h2, h3, h4, h5, h6⟩
  · subst h2
    exact .inl ⟨h1, List.length_eq_zero_iff.1 hl.symm, h3⟩
  · exact .inr ⟨g, c, cs, by rw [h1, hl], by omega, h3, h4, by rw [← hl, h5, hf], h6⟩
def encSw (x : Nat × Value) : List Value := [.int .u64 (x.1 : Int), if x.2.oneCell' = true then x.2 else .nilIface]
theorem okSw : EncOf 2 encSw := ⟨fun _ => rfl, fun x v h => by
  unfold encSw at h
  rw [List.mem_cons, List.mem_singleton] at h
  rcases h with rfl | rfl
  · rfl
  · split
    · assumption
    · rfl⟩
def SegV.w (x : SegV) : Nat × Value := (x.f, x.v)
theorem flat_sw (l : List SegV) : flat encSg l = flat encSw (l.map SegV.w) := by
 unfold flat
 rw [List.flatMap_map]
 rfl
theorem vec_toW {e : TypeId} {v : Value} {l : List SegV} : ∀ rs, Parts [Vec e 2 encSg v l] rs → Vec e 2 encSw v (l.map SegV.w) rs := vec_same (by rw [List.length_map]) (flat_sw l)
theorem vec_ofW {e : TypeId} {v : Value} {l : List SegV} {m : List (Nat × Value)} {y : SegV} (h : m = [y.w]) : ∀ rs, Parts [Vec e 2 encSw v (l.map SegV.w ++ m)] rs → Vec e 2 encSg v (l ++ [y]) rs := by
 subst h
 rw [show l.map SegV.w ++ [y.w] = (l ++ [y]).map SegV.w by simp]
 exact vec_same (by rw [List.length_map]) (flat_sw _).symm
section
variable {P : Program} {Q : Exit → Act → World → Prop} {n : Nat} {B : Nat → Prop} {w0 : World} {os : List Ass} {env : List (Nat × Value)} {o : Oper} {t e e' : TypeId} {u : Value} {k' : Nat} {α : Type} {enc' : α → List Value} {l' : List α}
theorem a_buildW (q : Nat) (f : Nat) (hT : SliceT P t e 2) (hq : os[q]? = some (Vec e' k' enc' u l')) {x : Operand} (ho : o.op = .buildSlice t 1 #[(0, x)]) (hx : evs env x = some (.agg #[.int .u64 (f : Int), u])) : Acts P Q n env B w0 os o (fun v : Value => v) (fun v => Vec e 2 encSw v [(f, u)] :: os) := fun b w hH hF K hK => by
 obtain ⟨rs, h1, _⟩ := hH.thing q hq
 obtain ⟨A, c, rfl⟩ := h1.is
 exact a_buildK hT (by decide) okSw (f, .slice A l'.length c) rfl ho hx b w hH hF K hK
end
theorem mks_push {svs : List SegV} {y : SegV} : ∀ rs, Parts [MksE svs, Vec 104 2 encMk (.slice y.A y.l.length y.c) y.l] rs → MksE (svs ++ [y]) rs := fun rs h => each_close rs h
theorem mks_tail {svs : List SegV} {n : Nat} {x : SegV} (hn : svs.length = n + 1) (hx : svs[n]? = some x) : ∀ rs, MksE svs rs → ∃ _ : Unit, Parts [MksE (svs.take n), Vec 104 2 encMk (.slice x.A x.l.length x.c) x.l] rs := fun rs h => by
 obtain ⟨_, a, b, e, h1, c, d, e2, h2, h3⟩ := mks_open hx rs h
 have h4 : svs.drop (n + 1) = [] := List.drop_of_length_le (by omega)
 rw [h4] at h3
 exact ⟨(), a, b, e, h1, c, d, e2, h2, by
  obtain ⟨p, q, e3, h5, h6⟩ := h3
  have : p = [] := h5
  subst this; subst e3
  exact h6⟩
theorem log_take {svs : List SegV} {ss : SegsM} {f : Nat} {l : List (Int × Nat)} (h : svs.map SegV.m = ss ++ [(f, l)]) : (svs.take ss.length).map SegV.m = ss := by
 rw [List.map_take, h, List.take_left]
theorem log_push {svs : List SegV} {ss : SegsM} {y : SegV} (h : svs.map SegV.m = ss) : (svs ++ [y]).map SegV.m = ss ++ [(y.f, y.l)] := by
 rw [List.map_append, h]; rfl
theorem log_set {svs : List SegV} {ss : SegsM} {y : SegV} {p : Nat × List (Int × Nat)} (h : svs.map SegV.m = ss ++ [p]) : (svs.set ss.length y).map SegV.m = ss ++ [(y.f, y.l)] := by
 rw [List.map_set, h, List.set_append_right _ _ (Nat.le_refl _), Nat.sub_self]; rfl
end Go.Proofs.YtaipejaeeohpkaaGreatDoor.Sep
namespace Go.Proofs.YtaipejaeeohpkaaGreatDoor.Sep
open Go.RowKit
open Go.Proofs.YtaipejaeeohpkaaGreatDoor.Mem (Dist Blk Chg below0)
theorem parts_log {p dk lim : Nat} {sv : Value} {svs : List SegV} {ss : SegsM} {A : List Ass} (h : svs.map SegV.m = ss) : ∀ rs, Parts ([cell p 87 #[.pointer (some ⟨dk, 0, none⟩), .int .i64 (lim : Int), sv], Vec 92 2 encSg sv svs, MksE svs] ++ A) rs → ∃ rs', rs.Perm rs' ∧ Parts (LogT p dk lim ss :: A) rs' := fun rs hz => by
 obtain ⟨a, b, e, h1, h2⟩ := hz.split
 exact ⟨rs, .refl _, a, b, e, logT_mk h a h1, h2⟩
theorem repair_whole {p dk lim : Nat} {ss : SegsM} {f : Nat} {l : List (Int × Nat)} (hl : ss.length ≤ 1000000) (hl2 : l.length ≤ 1000000) (hf : f ≤ 72057594037927935) (h0 : l ≠ []){d : DiskD} {b : List UInt8} {ok : Bool} {m : Int × Nat} (tb : Tb) (hd : d.fit) (hok : (readD d (nameL f)).isSome = ok) (hb_ : (readD d (nameL f)).getD [] = b) (hm1 : l[l.length - 1]? = some m) (hbl : b.length ≤ 137438953472) (hmb : m.2 = b.length) : Does Tryz.prog 42 #[.pointer (some ⟨p, 0, none⟩)] [LogT p dk lim (ss ++ [(f, l)]), DiskT dk d, TabZ tb] (fun (_ : Unit) => .int .i64 0) (fun (_ : Unit) => [LogT p dk lim (ss ++ [(f, l)]), DiskT dk d, TabZ tb]) := by
  refine d_ins (args := [.pointer (some ⟨p, 0, none⟩)]) 69 Tryz.func42 rfl rfl rfl ?_; intro w rs
  refine d_open 0 rfl LogT.open_ (fun _ => rfl) ?_; rintro ⟨sv, svs⟩
  refine WC2.fact 3 rfl (fun _ h => h.2) ?_; rintro hm
  refine WC2.leave [3] rfl rfl ?_
  replace hm : svs.map SegV.m = ss ++ [(f, l)] := hm
  obtain ⟨x, hx, rfl, rfl, hn⟩ := segs_last hm
  have hl0 : 0 < x.l.length := List.length_pos_iff.2 h0
  refine d_reg ?_
  refine h_q hflT rfl ?_
  refine h_done (d_seq (d_block ?_))
  refine d_loop (α := Unit) (fun _q => [(0, .pointer (some ⟨p, 0, none⟩)), (2, .int .i64 0)]) (fun _q => [cell p 87 #[.pointer (some ⟨dk, 0, none⟩), .int .i64 (lim : Int), sv], Vec 92 2 encSg sv svs, MksE svs, DiskT dk d, TabZ tb]) (fun _q => True) (fun _q => 0) () trivial ⟨rfl, rfl, trivial⟩ rfl ?_
  rintro _q _hI
  refine WC2.at_ (env' := [(0, .pointer (some ⟨p, 0, none⟩)), (2, .int .i64 0)]) (rs' := [cell p 87 #[.pointer (some ⟨dk, 0, none⟩), .int .i64 (lim : Int), sv], Vec 92 2 encSg sv svs, MksE svs, DiskT dk d, TabZ tb]) ⟨rfl, rfl, trivial⟩ rfl ?_
  refine d_seq (d_reg ?_)
  refine h_q hflT rfl ?_
  refine h_val rfl (.pointer (some ⟨p, 0, none⟩)) (fun b w hb hH => by exact xNc rfl rfl hb) ?_
  refine h_q hflT rfl ?_
  refine h_val rfl (sv) (fun b w hb hH => xLd rfl rfl (rOn tySs rfl) (hH.row 0 rfl) hb) ?_
  refine h_val rfl (.int .i64 ((ss.length + 1 : Nat) : Int)) (fun b w hb hH => e_vlenN 1 hn Tryz.underlying85 rfl rfl rfl hH hb) ?_
  refine h_val rfl (.bool true) (fun b w hb hH => xCm rfl rfl rfl (cmp_gtr_t (by omega)) hb) ?_
  refine h_q hflT rfl ?_
  refine h_act (post := fun _ => [cell p 87 #[.pointer (some ⟨dk, 0, none⟩), .int .i64 (lim : Int), sv], Vec 92 2 encSg sv svs, MksE svs, DiskT dk d, TabZ tb]) rfl (a_does (os' := fun _ => [cell p 87 #[.pointer (some ⟨dk, 0, none⟩), .int .i64 (lim : Int), sv], Vec 92 2 encSg sv svs, MksE svs, DiskT dk d, TabZ tb]) [0, 1] 0 (ent_of Tryz.func49 (by kernel_rfl) rfl) (tail_does hn (by omega)) rfl rfl rfl (fun _ => rfl) rfl rfl rfl) ?_; rintro ⟨⟩
  refine h_val rfl (elp sv (ss.length * 2)) (fun b w hb hH => e_vnil 1 rfl (j := ss.length) (List.getElem?_eq_some_iff.1 hx).1 rfl rfl hH hb) ?_
  refine h_val rfl (elp sv (ss.length * 2 + 1)) (fun b w hb hH => eSf okSg (by decide) (hH.vec 1 rfl okSg) (j := ss.length) hx fd_seg_segment_1 rfl rfl hb) ?_
  refine h_val rfl (.slice x.A x.l.length x.c) (fun b w hb hH => e_sload okSg (by decide) (hH.vec 1 rfl okSg) (j := ss.length) hx ty_s_seg_mark (off := 1) rfl rfl rfl hb) ?_
  refine h_val rfl (.int .i64 (x.l.length : Int)) (fun b w hb hH => e_slen ((mks_rd 2 rfl hx hH)) Tryz.underlying90 rfl rfl hb) ?_
  refine h_val rfl (.bool false) (fun b w hb hH => xCm rfl rfl rfl (cEf (by omega)) hb) ?_
  refine h_q hflT rfl ?_
  refine h_done (d_else rfl (d_exit (fTe (fTe (f_block_exit (f_to (d_seq (d_reg ?_))))))))
  refine h_q hflT rfl ?_
  refine h_val rfl (.pointer (some ⟨p, 0, none⟩)) (fun b w hb hH => by exact xNc rfl rfl hb) ?_
  refine h_q hflT rfl ?_
  refine h_val rfl (sv) (fun b w hb hH => xLd rfl rfl (rOn tySs rfl) (hH.row 0 rfl) hb) ?_
  refine h_val rfl (.int .i64 ((ss.length + 1 : Nat) : Int)) (fun b w hb hH => e_vlenN 1 hn Tryz.underlying85 rfl rfl rfl hH hb) ?_
  refine h_val rfl (.bool false) (fun b w hb hH => xCm rfl rfl rfl (cEf (by omega)) hb) ?_
  refine h_done (d_else rfl (d_skip (f_to (d_reg ?_))))
  refine h_q hflT rfl ?_
  refine h_act (post := fun _ => [cell p 87 #[.pointer (some ⟨dk, 0, none⟩), .int .i64 (lim : Int), sv], Vec 92 2 encSg sv svs, MksE svs, DiskT dk d, TabZ tb]) rfl (a_does (os' := fun _ => [cell p 87 #[.pointer (some ⟨dk, 0, none⟩), .int .i64 (lim : Int), sv], Vec 92 2 encSg sv svs, MksE svs, DiskT dk d, TabZ tb]) [0, 1] 0 (ent_of Tryz.func49 (by kernel_rfl) rfl) (tail_does hn (by omega)) rfl rfl rfl (fun _ => rfl) rfl rfl rfl) ?_; rintro ⟨⟩
  refine h_q hflT rfl ?_
  refine h_done (d_seq (d_seq ?_))
  refine d_emps 1 rfl ?_
  refine d_parS 14 2 [⟨.quiet, [none, none], fun _ => .pointer (some ⟨p, 0, none⟩), []⟩, ⟨.quiet, [none, none], fun _ => .pointer (some ⟨p, 0, none⟩), [0]⟩, ⟨.quiet, [none, none], fun _ => .pointer (some ⟨p, 0, none⟩), [1]⟩, ⟨.quiet, [none, none], fun _ => .pointer (some ⟨dk, 0, none⟩), [2]⟩, ⟨.quiet, [none, none], fun _ => elp sv (ss.length * 2), []⟩, ⟨.quiet, [none, none], fun _ => elp sv (ss.length * 2), [4]⟩, ⟨.quiet, [none, none], fun _ => elp sv (ss.length * 2 + 0), [5]⟩, ⟨.quiet, [none, none], fun _ => .int .u64 (x.f : Int), [6]⟩, ⟨.actv 0, [some false, some false], fun _ => .string (bs (nameL x.f)), [7]⟩, ⟨.act 1, [some true, some false], fun _ => undef, [3, 8]⟩, ⟨.quiet, [some true, some true], fun ρ => match ρ with | [_, some rv] => rv | _ => undef, [9]⟩, ⟨.quiet, [some true, some true], fun ρ => match ρ with | [_, some rv] => (tupAt rv 0) | _ => undef, [10]⟩, ⟨.quiet, [some true, some true], fun ρ => match ρ with | [_, some rv] => (tupAt rv 1) | _ => undef, [10]⟩, ⟨.quiet, [some true, some true], fun ρ => match ρ with | [_, some rv] => (tupAt rv 0) | _ => undef, [11]⟩] [(0, .pointer (some ⟨p, 0, none⟩)), (2, .int .i64 0), (4, elp sv (ss.length * 2))] (fun ρ => match ρ with | [r0, r1] => [selS r1 (fun rv => TupB rv b ok) (emp), cell p 87 #[.pointer (some ⟨dk, 0, none⟩), .int .i64 (lim : Int), sv], Vec 92 2 encSg sv svs, MksE svs, DiskT dk d, TabZ tb] | _ => []) (by kernel_rfl) (by kernel_rfl) ⟨rfl, rfl, rfl, trivial⟩ rfl ?_ ?_
  · skip
    refine s_cons (by intro r0_ r1_; exact ⟨rfl, fun b w hH hb => exec_q1 hflT rfl hb⟩) ?_
    refine s_cons (by intro r0_ r1_; exact ⟨rfl, fun b w hH hb => by exact xNc rfl rfl hb⟩) ?_
    refine s_cons (by intro r0_ r1_; exact ⟨rfl, fun b w hH hb => exec_q1 hflT rfl hb⟩) ?_
    refine s_cons (by intro r0_ r1_; exact ⟨rfl, fun b w hH hb => xLd rfl rfl (rOn ty_p_disk_Disk rfl) (hH.row 1 rfl) hb⟩) ?_
    refine s_cons (by intro r0_ r1_; exact ⟨rfl, fun b w hH hb => exec_q1 hflT rfl hb⟩) ?_
    refine s_cons (by intro r0_ r1_; exact ⟨rfl, fun b w hH hb => e_vnil 2 rfl (j := ss.length) (List.getElem?_eq_some_iff.1 hx).1 rfl rfl hH hb⟩) ?_
    refine s_cons (by intro r0_ r1_; exact ⟨rfl, fun b w hH hb => eSf okSg (by decide) (hH.vec 2 rfl okSg) (j := ss.length) hx fd_seg_segment_0 rfl rfl hb⟩) ?_
    refine s_cons (by intro r0_ r1_; exact ⟨rfl, fun b w hH hb => e_sload okSg (by decide) (hH.vec 2 rfl okSg) (j := ss.length) hx ty_uint64 (off := 0) rfl rfl rfl hb⟩) ?_
    refine s_cons (by exact ⟨rfl, Acts.su (a_does (os' := fun _ => [emp, cell p 87 #[.pointer (some ⟨dk, 0, none⟩), .int .i64 (lim : Int), sv], Vec 92 2 encSg sv svs, MksE svs, DiskT dk d, TabZ tb]) [5] 0 (ent_of Tryz.func19 (by kernel_rfl) rfl) (name_does tb (n := x.f) (by omega)) rfl rfl rfl (fun _ => rfl) rfl rfl rfl) rfl⟩) ?_
    refine s_cons (by intro v0_; exact ⟨rfl, Acts.s (a_does (os' := fun rv => [TupB rv b ok, cell p 87 #[.pointer (some ⟨dk, 0, none⟩), .int .i64 (lim : Int), sv], Vec 92 2 encSg sv svs, MksE svs, DiskT dk d, TabZ tb]) [4, 0] 1 (ent_of Tryz.func94 (by kernel_rfl) rfl) (disk_readT hd hok hb_) rfl rfl rfl (fun _ => rfl) rfl rfl rfl) (fun _ => rfl)⟩) ?_
    refine s_cons (by intro v0_ rv; exact ⟨rfl, fun b w hH hb => exec_q1 hflT rfl hb⟩) ?_
    refine s_cons (by intro v0_ rv; exact ⟨rfl, fun b w hH hb => e_tup 0 (by decide) rfl rfl rfl hH hb⟩) ?_
    refine s_cons (by intro v0_ rv; exact ⟨rfl, fun b w hH hb => e_tup 0 (by decide) rfl rfl rfl hH hb⟩) ?_
    refine s_cons (by intro v0_ rv; exact ⟨rfl, fun b w hH hb => exec_q1 hflT rfl hb⟩) ?_
    exact s_nil
  intro v0_ rv
  refine WL2.keep (env' := [(0, .pointer (some ⟨p, 0, none⟩)), (2, .int .i64 0), (4, elp sv (ss.length * 2)), (47, (tupAt rv 1)), (5, (tupAt rv 0))]) ⟨rfl, rfl, rfl, rfl, rfl, trivial⟩ ?_
  refine h_open 0 rfl TupB.open_ (fun _ => rfl) ?_; rintro ⟨bv, rfl⟩
  refine WL2.keep (env' := [(0, .pointer (some ⟨p, 0, none⟩)), (2, .int .i64 0), (4, elp sv (ss.length * 2)), (47, .bool ok), (5, bv)]) ⟨rfl, rfl, rfl, rfl, rfl, trivial⟩ ?_
  refine WL2.mid [Vec 5 1 encB bv b, cell p 87 #[.pointer (some ⟨dk, 0, none⟩), .int .i64 (lim : Int), sv], Vec 92 2 encSg sv svs, MksE svs, DiskT dk d, TabZ tb] (.refl _) ?_
  refine h_q hflT rfl ?_
  refine h_nil (f_to (d_reg ?_))
  refine h_q hflT rfl ?_
  refine h_val rfl (.int .i64 (b.length : Int)) (fun b w hb hH => e_vlen 0 Tryz.underlying30 rfl rfl rfl hH hb) ?_
  refine h_q hflT rfl ?_
  refine h_val rfl (elp sv (ss.length * 2)) (fun b w hb hH => e_vnil 2 rfl (j := ss.length) (List.getElem?_eq_some_iff.1 hx).1 rfl rfl hH hb) ?_
  refine h_val rfl (.agg (encSg x).toArray) (fun b w hb hH => e_sagg okSg (by decide) (hH.vec 2 rfl okSg) (j := ss.length) hx ty_seg_segment rfl rfl hb) ?_
  refine h_act (post := fun _ => [Vec 5 1 encB bv b, cell p 87 #[.pointer (some ⟨dk, 0, none⟩), .int .i64 (lim : Int), sv], Vec 92 2 encSg sv svs, MksE svs, DiskT dk d, TabZ tb]) rfl (a_call (ent_of Tryz.func93 (by kernel_rfl) rfl) (fun w hH => size_c w (mks_rd 3 rfl hx hH) hm1 hl0 hl2) rfl rfl rfl) ?_; rintro ⟨⟩
  refine h_val rfl (.bool false) (fun b w hb hH => xCm rfl rfl rfl (cmp_gtr_f (by omega)) hb) ?_
  refine h_done (d_else rfl (d_skip (f_to (d_reg ?_))))
  refine h_q hflT rfl ?_
  refine h_done (d_ret ?_)
  exact f_fin1 (.tmp rfl) (fun w h => tells () rfl [1, 2, 3, 4, 5] rfl h (fun z hz => parts_log hm z hz)) rfl
theorem repair_none {p dk lim : Nat} {d : DiskD} (tb : Tb) : Does Tryz.prog 42 #[.pointer (some ⟨p, 0, none⟩)] [LogT p dk lim ([]), DiskT dk d, TabZ tb] (fun (_ : Unit) => .int .i64 0) (fun (_ : Unit) => [LogT p dk lim ([]), DiskT dk d, TabZ tb]) := by
 refine d_ins (args := [.pointer (some ⟨p, 0, none⟩)]) 69 Tryz.func42 rfl rfl rfl ?_; intro w rs
 refine d_open 0 rfl LogT.open_ (fun _ => rfl) ?_; rintro ⟨sv, svs⟩
 refine WC2.fact 3 rfl (fun _ h => h.2) ?_; rintro hm
 refine WC2.leave [3] rfl rfl ?_
 replace hm : svs.map SegV.m = [] := hm
 have hn : svs.length = 0 := by have := congrArg List.length hm; simpa using this
 refine d_reg ?_
 refine h_q hflT rfl ?_
 refine h_done (d_seq (d_block ?_))
 refine d_loop (α := Unit) (fun _q => [(0, .pointer (some ⟨p, 0, none⟩)), (2, .int .i64 0)]) (fun _q => [cell p 87 #[.pointer (some ⟨dk, 0, none⟩), .int .i64 (lim : Int), sv], Vec 92 2 encSg sv svs, MksE svs, DiskT dk d, TabZ tb]) (fun _q => True) (fun _q => 0) () trivial ⟨rfl, rfl, trivial⟩ rfl ?_
 rintro _q _hI
 refine WC2.at_ (env' := [(0, .pointer (some ⟨p, 0, none⟩)), (2, .int .i64 0)]) (rs' := [cell p 87 #[.pointer (some ⟨dk, 0, none⟩), .int .i64 (lim : Int), sv], Vec 92 2 encSg sv svs, MksE svs, DiskT dk d, TabZ tb]) ⟨rfl, rfl, trivial⟩ rfl ?_
 refine d_seq (d_reg ?_)
 refine h_q hflT rfl ?_
 refine h_val rfl (.pointer (some ⟨p, 0, none⟩)) (fun b w hb hH => by exact xNc rfl rfl hb) ?_
 refine h_q hflT rfl ?_
 refine h_val rfl (sv) (fun b w hb hH => xLd rfl rfl (rOn tySs rfl) (hH.row 0 rfl) hb) ?_
 refine h_val rfl (.int .i64 ((0 : Nat) : Int)) (fun b w hb hH => e_vlenN 1 hn Tryz.underlying85 rfl rfl rfl hH hb) ?_
 refine h_val rfl (.bool false) (fun b w hb hH => xCm rfl rfl rfl (cmp_gtr_f (by omega)) hb) ?_
 refine h_q hflT rfl ?_
 refine h_done (d_else rfl (d_exit (fTe (fTe (f_block_exit (f_to (d_seq (d_reg ?_))))))))
 refine h_q hflT rfl ?_
 refine h_val rfl (.pointer (some ⟨p, 0, none⟩)) (fun b w hb hH => by exact xNc rfl rfl hb) ?_
 refine h_q hflT rfl ?_
 refine h_val rfl (sv) (fun b w hb hH => xLd rfl rfl (rOn tySs rfl) (hH.row 0 rfl) hb) ?_
 refine h_val rfl (.int .i64 ((0 : Nat) : Int)) (fun b w hb hH => e_vlenN 1 hn Tryz.underlying85 rfl rfl rfl hH hb) ?_
 refine h_val rfl (.bool true) (fun b w hb hH => xCm rfl rfl rfl (cEt (by omega)) hb) ?_
 refine h_done (d_then rfl (d_reg ?_))
 refine h_q hflT rfl ?_
 refine h_done (d_ret (fTr ?_))
 exact f_fin1 (.tmp rfl) (fun w h => tells () rfl [0, 1, 2, 3, 4] rfl h (fun z hz => parts_log hm z hz)) rfl
theorem removeTail_does {p dk lim : Nat} {ss : SegsM} {f : Nat} {l : List (Int × Nat)} {d d' : DiskD} (hl : ss.length ≤ 1000000) (hf : f ≤ 72057594037927935) (tb : Tb) (hd : d.fit) (hdel : delD d (nameL f) = (d', 0)) : Does Tryz.prog 50 #[.pointer (some ⟨p, 0, none⟩)] [LogT p dk lim (ss ++ [(f, l)]), DiskT dk d, TabZ tb] (fun (_ : Unit) => .int .i64 0) (fun (_ : Unit) => [LogT p dk lim ss, DiskT dk d', TabZ tb]) := by
  refine d_ins (args := [.pointer (some ⟨p, 0, none⟩)]) 32 Tryz.func50 rfl rfl rfl ?_; intro w rs
  refine d_open 0 rfl LogT.open_ (fun _ => rfl) ?_; rintro ⟨sv, svs⟩
  refine WC2.fact 3 rfl (fun _ h => h.2) ?_; rintro hm
  refine WC2.leave [3] rfl rfl ?_
  replace hm : svs.map SegV.m = ss ++ [(f, l)] := hm
  obtain ⟨x, hx, rfl, rfl, hn⟩ := segs_last hm
  refine WC2.fact 1 rfl (fun _ h => Vec.is h) ?_; rintro ⟨AS, cS, hsv⟩
  change sv = .slice AS svs.length cS at hsv
  subst hsv
  refine WC2.keep (env' := [(0, .pointer (some ⟨p, 0, none⟩))]) ⟨rfl, trivial⟩ ?_
  refine WC2.mid [cell p 87 #[.pointer (some ⟨dk, 0, none⟩), .int .i64 (lim : Int), .slice AS svs.length cS], Vec 92 2 encSg (.slice AS svs.length cS) svs, MksE svs, DiskT dk d, TabZ tb] (.refl _) ?_
  refine WC2.fact 1 rfl vec_capK ?_; rintro hcap
  refine d_reg ?_
  refine h_q hflT rfl ?_
  refine h_done (d_seq (d_seq ?_))
  refine d_parS 11 3 [⟨.quiet, [none, none, none], fun _ => .pointer (some ⟨p, 0, none⟩), []⟩, ⟨.quiet, [none, none, none], fun _ => .pointer (some ⟨p, 0, none⟩), [0]⟩, ⟨.quiet, [none, none, none], fun _ => .pointer (some ⟨p, 0, none⟩), [1]⟩, ⟨.quiet, [none, none, none], fun _ => .pointer (some ⟨dk, 0, none⟩), [2]⟩, ⟨.quiet, [none, none, none], fun _ => .pointer (some ⟨p, 0, none⟩), []⟩, ⟨.actv 0, [some false, some false, some false], fun _ => elp (.slice AS svs.length cS) (ss.length * 2), [4]⟩, ⟨.quiet, [some true, none, none], fun _ => elp (.slice AS svs.length cS) (ss.length * 2), [5]⟩, ⟨.quiet, [some true, none, none], fun _ => elp (.slice AS svs.length cS) (ss.length * 2 + 0), [6]⟩, ⟨.quiet, [some true, none, none], fun _ => .int .u64 (x.f : Int), [7]⟩, ⟨.actv 1, [some true, some false, some false], fun _ => .string (bs (nameL x.f)), [8]⟩, ⟨.actv 2, [some true, some true, some false], fun _ => .int .i64 0, [3, 9]⟩] [(0, .pointer (some ⟨p, 0, none⟩)), (2, .int .i64 0)] (fun ρ => match ρ with | [r0, r1, r2] => [cell p 87 #[.pointer (some ⟨dk, 0, none⟩), .int .i64 (lim : Int), .slice AS svs.length cS], Vec 92 2 encSg (.slice AS svs.length cS) svs, MksE svs, selS r2 (fun _ => DiskT dk d') (DiskT dk d), TabZ tb] | _ => []) (by kernel_rfl) (by kernel_rfl) ⟨rfl, rfl, trivial⟩ rfl ?_ ?_
  · skip
    refine s_cons (by intro r0_ r1_ r2_; exact ⟨rfl, fun b w hH hb => exec_q1 hflT rfl hb⟩) ?_
    refine s_cons (by intro r0_ r1_ r2_; exact ⟨rfl, fun b w hH hb => by exact xNc rfl rfl hb⟩) ?_
    refine s_cons (by intro r0_ r1_ r2_; exact ⟨rfl, fun b w hH hb => exec_q1 hflT rfl hb⟩) ?_
    refine s_cons (by intro r0_ r1_ r2_; exact ⟨rfl, fun b w hH hb => xLd rfl rfl (rOn ty_p_disk_Disk rfl) (hH.row 0 rfl) hb⟩) ?_
    refine s_cons (by intro r0_ r1_ r2_; exact ⟨rfl, fun b w hH hb => exec_q1 hflT rfl hb⟩) ?_
    refine s_cons (by exact ⟨rfl, Acts.su (a_does (os' := fun _ => [cell p 87 #[.pointer (some ⟨dk, 0, none⟩), .int .i64 (lim : Int), .slice AS svs.length cS], Vec 92 2 encSg (.slice AS svs.length cS) svs, MksE svs, DiskT dk d, TabZ tb]) [0, 1] 0 (ent_of Tryz.func49 (by kernel_rfl) rfl) (tail_does hn (by omega)) rfl rfl rfl (fun _ => rfl) rfl rfl rfl) rfl⟩) ?_
    refine s_cons (by intro v0_ r1_ r2_; exact ⟨rfl, fun b w hH hb => e_vnil 1 rfl (j := ss.length) (List.getElem?_eq_some_iff.1 hx).1 rfl rfl hH hb⟩) ?_
    refine s_cons (by intro v0_ r1_ r2_; exact ⟨rfl, fun b w hH hb => eSf okSg (by decide) (hH.vec 1 rfl okSg) (j := ss.length) hx fd_seg_segment_0 rfl rfl hb⟩) ?_
    refine s_cons (by intro v0_ r1_ r2_; exact ⟨rfl, fun b w hH hb => e_sload okSg (by decide) (hH.vec 1 rfl okSg) (j := ss.length) hx ty_uint64 (off := 0) rfl rfl rfl hb⟩) ?_
    refine s_cons (by intro v0_; exact ⟨rfl, Acts.su (a_does (os' := fun _ => [cell p 87 #[.pointer (some ⟨dk, 0, none⟩), .int .i64 (lim : Int), .slice AS svs.length cS], Vec 92 2 encSg (.slice AS svs.length cS) svs, MksE svs, DiskT dk d, TabZ tb]) [4] 0 (ent_of Tryz.func19 (by kernel_rfl) rfl) (name_does tb (n := x.f) (by omega)) rfl rfl rfl (fun _ => rfl) rfl rfl rfl) rfl⟩) ?_
    refine s_cons (by intro v0_ v1_; exact ⟨rfl, Acts.su (a_does (os' := fun _ => [cell p 87 #[.pointer (some ⟨dk, 0, none⟩), .int .i64 (lim : Int), .slice AS svs.length cS], Vec 92 2 encSg (.slice AS svs.length cS) svs, MksE svs, DiskT dk d', TabZ tb]) [3] 0 (ent_of Tryz.func89 (by kernel_rfl) rfl) (disk_remove hd hdel) rfl rfl rfl (fun _ => rfl) rfl rfl rfl) rfl⟩) ?_
    exact s_nil
  intro v0_ v1_ v2_
  refine WL2.keep (env' := [(0, .pointer (some ⟨p, 0, none⟩)), (2, .int .i64 0), (14, .int .i64 0)]) ⟨rfl, rfl, rfl, trivial⟩ ?_
  refine h_q hflT rfl ?_
  refine h_nil (f_to (d_reg ?_))
  refine h_q hflT rfl ?_
  refine h_val rfl (.bool false) (fun b w hb hH => xCm rfl rfl rfl (cmp_neq_f (by decide)) hb) ?_
  refine h_done (d_else rfl (d_skip (f_to ?_)))
  refine d_open 2 rfl (mks_tail hn hx) (fun _ => rfl) ?_; rintro ⟨⟩
  have htl : (svs.take ss.length).length = ss.length := by rw [List.length_take]; omega
  have hsub2 : subv 2 (.slice AS svs.length cS) 0 ss.length = .slice AS (svs.take ss.length).length cS := by rw [htl]; exact subTakeK
  refine d_close [3] rfl (vec_cutK okSg (j := ss.length) (by omega)) rfl ?_
  refine WC2.keep (env' := [(0, .pointer (some ⟨p, 0, none⟩)), (2, .int .i64 0), (14, .int .i64 0), (3, .int .i64 0), (15, .int .i64 0), (16, .bool false)]) ⟨rfl, rfl, rfl, rfl, rfl, rfl, trivial⟩ ?_
  refine WC2.mid [Vec 92 2 encSg (.slice AS (svs.take ss.length).length cS) (svs.take ss.length), MksE (svs.take ss.length), Vec 104 2 encMk (.slice x.A x.l.length x.c) x.l, cell p 87 #[.pointer (some ⟨dk, 0, none⟩), .int .i64 (lim : Int), .slice AS svs.length cS], DiskT dk d', TabZ tb] (.refl _) ?_
  refine d_seq ?_
  refine d_parS 14 0 [⟨.quiet, [], fun _ => .pointer (some ⟨p, 0, none⟩), []⟩, ⟨.quiet, [], fun _ => .pointer (some ⟨p, 0, none⟩), []⟩, ⟨.quiet, [], fun _ => .pointer (some ⟨p, 0, none⟩), [1]⟩, ⟨.quiet, [], fun _ => .pointer (some ⟨p, 2, none⟩), [2]⟩, ⟨.quiet, [], fun _ => .slice AS svs.length cS, [3]⟩, ⟨.quiet, [], fun _ => .pointer (some ⟨p, 0, none⟩), []⟩, ⟨.quiet, [], fun _ => .pointer (some ⟨p, 0, none⟩), [5]⟩, ⟨.quiet, [], fun _ => .pointer (some ⟨p, 2, none⟩), [6]⟩, ⟨.quiet, [], fun _ => .slice AS svs.length cS, [7]⟩, ⟨.quiet, [], fun _ => .int .i64 (svs.length : Int), [8]⟩, ⟨.quiet, [], fun _ => .int .i64 (ss.length : Int), [9]⟩, ⟨.quiet, [], fun _ => .slice AS (svs.take ss.length).length cS, [4, 10]⟩, ⟨.quiet, [], fun _ => .pointer (some ⟨p, 0, none⟩), [0]⟩, ⟨.quiet, [], fun _ => .pointer (some ⟨p, 2, none⟩), [12]⟩] [(0, .pointer (some ⟨p, 0, none⟩)), (2, .int .i64 0)] (fun _ => [Vec 92 2 encSg (.slice AS (svs.take ss.length).length cS) (svs.take ss.length), MksE (svs.take ss.length), Vec 104 2 encMk (.slice x.A x.l.length x.c) x.l, cell p 87 #[.pointer (some ⟨dk, 0, none⟩), .int .i64 (lim : Int), .slice AS svs.length cS], DiskT dk d', TabZ tb]) (by kernel_rfl) (by kernel_rfl) ⟨rfl, rfl, trivial⟩ rfl ?_ ?_
  · skip
    refine s_cons (by exact ⟨rfl, fun b w hH hb => exec_q1 hflT rfl hb⟩) ?_
    refine s_cons (by exact ⟨rfl, fun b w hH hb => exec_q1 hflT rfl hb⟩) ?_
    refine s_cons (by exact ⟨rfl, fun b w hH hb => by exact xNc rfl rfl hb⟩) ?_
    refine s_cons (by exact ⟨rfl, fun b w hH hb => exec_q1 hflT rfl hb⟩) ?_
    refine s_cons (by exact ⟨rfl, fun b w hH hb => xLd rfl rfl (rOn tySs rfl) (hH.row 3 rfl) hb⟩) ?_
    refine s_cons (by exact ⟨rfl, fun b w hH hb => exec_q1 hflT rfl hb⟩) ?_
    refine s_cons (by exact ⟨rfl, fun b w hH hb => by exact xNc rfl rfl hb⟩) ?_
    refine s_cons (by exact ⟨rfl, fun b w hH hb => exec_q1 hflT rfl hb⟩) ?_
    refine s_cons (by exact ⟨rfl, fun b w hH hb => xLd rfl rfl (rOn tySs rfl) (hH.row 3 rfl) hb⟩) ?_
    refine s_cons (by exact ⟨rfl, fun b w hH hb => e_len sl_seg_segment rfl rfl hH hb⟩) ?_
    refine s_cons (by exact ⟨rfl, fun b w hH hb => exec_ar rfl rfl rfl rfl (by rw [IntWalk.i64_in _ (by omega)]; omega) hb⟩) ?_
    refine s_cons (by exact ⟨rfl, fun b w hH hb => e_sub_hi (j := ss.length) sl_seg_segment hsub2 (by omega) rfl rfl rfl hH hb⟩) ?_
    refine s_cons (by exact ⟨rfl, fun b w hH hb => by exact xNc rfl rfl hb⟩) ?_
    refine s_cons (by exact ⟨rfl, fun b w hH hb => exec_q1 hflT rfl hb⟩) ?_
    exact s_nil
  refine WL2.keep (env' := [(2, .int .i64 0), (29, .slice AS (svs.take ss.length).length cS), (31, .pointer (some ⟨p, 2, none⟩))]) ⟨rfl, rfl, rfl, trivial⟩ ?_
  refine h_q hflT rfl ?_
  refine h_acts (post := fun _ => [Vec 92 2 encSg (.slice AS (svs.take ss.length).length cS) (svs.take ss.length), MksE (svs.take ss.length), Vec 104 2 encMk (.slice x.A x.l.length x.c) x.l, cell p 87 #[.pointer (some ⟨dk, 0, none⟩), .int .i64 (lim : Int), .slice AS (svs.take ss.length).length cS], DiskT dk d', TabZ tb]) rfl rfl (a_store 3 (v := .slice AS (svs.take ss.length).length cS) #[.pointer (some ⟨dk, 0, none⟩), .int .i64 (lim : Int), .slice AS (svs.take ss.length).length cS] tySs.2 rfl rfl rfl rfl rfl rfl rfl rfl rfl) ?_; rintro ⟨⟩
  refine h_nil (f_to (d_reg ?_))
  refine h_q hflT rfl ?_
  refine h_done (d_ret ?_)
  exact f_fin1 (.tmp rfl) (fun w h => tells () rfl [3, 0, 1, 4, 5] rfl h (fun z hz => parts_log (log_take hm) z hz)) rfl
end Go.Proofs.YtaipejaeeohpkaaGreatDoor.Sep
namespace Go.Proofs.YtaipejaeeohpkaaGreatDoor.Sep
open Go.RowKit
open Go.Proofs.YtaipejaeeohpkaaGreatDoor.Mem (Dist Blk Chg below0)
theorem okKs9 : EncOf 1 encKs := ⟨fun _ => rfl, fun x v h => by unfold encKs at h; simp at h; subst h; rfl⟩
theorem repair_marks {p dk lim : Nat} {d : DiskD} {fs : List Nat} (tb : Tb) (hd : d.fit) (hfs : ∀ f, f ∈ fs → f ≤ 72057594037927935) (hfl : fs.length ≤ 1000000) (hL : (listM d fs).length ≤ 1000000) (hbl : ∀ f b, f ∈ fs → (readD d (nameL f)).getD [] = b → b.length ≤ 137438953472)
  (hwh : ∀ (j f : Nat) (b : List UInt8), fs[j]? = some f → (readD d (nameL f)).getD [] = b → ∃ m, (marksB d f).getLast? = some m ∧ m.2 = b.length) : Does Tryz.prog 42 #[.pointer (some ⟨p, 0, none⟩)] [LogT p dk lim (marksM d fs), DiskT dk d, TabZ tb] (fun (_ : Unit) => .int .i64 0) (fun (_ : Unit) => [LogT p dk lim (marksM d fs), DiskT dk d, TabZ tb]) := by
  cases hg : fs.getLast? with
  | none =>
    have h0 := List.getLast?_eq_none_iff.1 hg
    subst h0
    exact repair_none tb
  | some f =>
    obtain ⟨r, rfl⟩ := List.getLast?_eq_some_iff.1 hg
    have hf : (r ++ [f])[r.length]? = some f := by simp
    obtain ⟨m, hm1, hm2⟩ := hwh r.length f _ hf rfl
    have h0 : marksB d f ≠ [] := fun h0 => by rw [h0] at hm1; cases hm1
    have hle := ents_le hf hL
    have hml : (marksB d f).length = (entsB d f).length := by unfold marksB; rw [List.length_map]
    have hrl : r.length ≤ 1000000 := by rw [List.length_append] at hfl; omega
    have hmm : marksM d (r ++ [f]) = marksM d r ++ [(f, marksB d f)] := by simp [marksM]
    rw [hmm]
    exact repair_whole (by unfold marksM; rw [List.length_map]; exact hrl) (by omega) (hfs f (by simp)) h0 tb hd rfl rfl (by rw [← List.getLast?_eq_getElem?]; exact hm1) (hbl f _ (by simp) rfl) hm2
theorem opn_push {svs : List SegV} {fs : List Nat} {j f : Nat} (hf : fs[j]? = some f) (hm : svs.map SegV.m = (fs.take j).map fun f => (f, [])) : (svs ++ [(⟨f, [], none, 0⟩ : SegV)]).map SegV.m = (fs.take (j + 1)).map fun f => (f, []) := by
 rw [List.take_add_one, hf, List.map_append, List.map_append, hm]
 rfl
theorem open_does {dk lim : Nat} {d : DiskD} {fs : List Nat} (hl1 : 64 ≤ lim) (hl2 : lim ≤ 16384) (hdn : d.down = false) (hds : d.now.length ≤ 1000000) (hnm : namesS d.now = fs.map nameL) (tb : Tb) (hd : d.fit) (hfs : ∀ f, f ∈ fs → f ≤ 72057594037927935) (hfl : fs.length ≤ 1000000) (hL : (listM d fs).length ≤ 1000000) (hbl : ∀ f b, f ∈ fs → (readD d (nameL f)).getD [] = b → b.length ≤ 137438953472)
  (hok : ∀ (j f i : Nat) (e : EntD) (n : Nat), fs[j]? = some f → (entsB d f)[i]? = some (e, n) → (i = 0 → e.i = f) ∧ ((lastIT (upTo d fs j f i)).2 = 0 ∨ ((lastIT (upTo d fs j f i)).2 ≠ 0 ∧ e.i = (lastIT (upTo d fs j f i)).2 + 1 ∧ (lastIT (upTo d fs j f i)).1 ≤ e.t)) ∧ 0 ≤ (lastIT (upTo d fs j f i)).2 ∧ (lastIT (upTo d fs j f i)).2 ≤ 72057594037927935)
  (hwh : ∀ (j f : Nat) (b : List UInt8), fs[j]? = some f → (readD d (nameL f)).getD [] = b → ∃ m, (marksB d f).getLast? = some m ∧ m.2 = b.length) : Does Tryz.prog 11 #[.pointer (some ⟨dk, 0, none⟩), .int .i64 (lim : Int)] [DiskT dk d, TabZ tb] (fun (p : Nat) => .tuple #[.pointer (some ⟨p, 0, none⟩), .int .i64 0]) (fun (p : Nat) => [LogT p dk lim (marksM d fs), DiskT dk d, TabZ tb]) := by
  refine d_ins (args := [.pointer (some ⟨dk, 0, none⟩), .int .i64 (lim : Int)]) 59 Tryz.func11 rfl rfl rfl ?_; intro w rs
  refine d_reg ?_
  refine h_q hflT rfl ?_
  refine h_done (d_seq (d_reg ?_))
  refine h_q hflT rfl ?_
  refine h_val rfl (.bool false) (fun b w hb hH => exec_pnil_eql (by kernel_rfl) rfl rfl rfl hb) ?_
  refine h_q hflT rfl ?_
  refine h_val rfl (.bool false) (fun b w hb hH => xCm rfl rfl rfl (cmp_lss_f (by omega)) hb) ?_
  refine h_q hflT rfl ?_
  refine h_val rfl (.bool false) (fun b w hb hH => xCm rfl rfl rfl (cmp_gtr_f (by omega)) hb) ?_
  refine h_q hflT rfl ?_
  refine h_done (d_else rfl (d_skip (f_to (d_reg ?_))))
  refine h_q hflT rfl ?_
  refine h_val rfl (.agg #[.pointer (some ⟨dk, 0, none⟩), .int .i64 (lim : Int), .slice none 0 0]) (fun b w hb hH => exec_build rfl rfl (by kernel_rfl) hb) ?_
  refine h_act (post := fun p => [cell p 87 #[.pointer (some ⟨dk, 0, none⟩), .int .i64 (lim : Int), .slice none 0 0], DiskT dk d, TabZ tb]) rfl (a_box (cs := #[.pointer (some ⟨dk, 0, none⟩), .int .i64 (lim : Int), .slice none 0 0]) rfl rfl rfl) ?_; rintro p
  refine h_q hflT rfl ?_
  refine h_done (d_seq (d_reg ?_))
  refine h_q hflT rfl ?_
  refine h_act (post := fun nv => [Vec 9 1 encKs nv (fs.map nameL), cell p 87 #[.pointer (some ⟨dk, 0, none⟩), .int .i64 (lim : Int), .slice none 0 0], DiskT dk d, TabZ tb]) rfl (a_does (os' := fun nv => [Vec 9 1 encKs nv (fs.map nameL), cell p 87 #[.pointer (some ⟨dk, 0, none⟩), .int .i64 (lim : Int), .slice none 0 0], DiskT dk d, TabZ tb]) [1] 0 (ent_of Tryz.func14 (by kernel_rfl) rfl) (disk_namesU hdn hds hnm) rfl rfl rfl (fun _ => rfl) rfl rfl rfl) ?_; rintro nv
  refine h_val rfl (.int .i64 (fs.length : Int)) (fun b w hb hH => e_vlenN 0 (List.length_map ..) Tryz.underlying35 rfl rfl rfl hH hb) ?_
  refine h_q hflT rfl ?_
  refine h_done (d_block ?_)
  refine d_nilvec 92 2 encSg ?_
  refine d_new (t := MksE []) (each_nil) ?_
  refine d_close [3, 1, 0] rfl (logT_mk (svs := []) rfl) rfl ?_
  refine WC2.keep (env' := [(0, .pointer (some ⟨dk, 0, none⟩)), (1, .int .i64 (lim : Int)), (4, .pointer none), (5, .int .i64 0), (12, .pointer (some ⟨dk, 0, none⟩)), (13, .bool false), (14, .bool false), (15, .int .i64 (lim : Int)), (16, .bool false), (17, .bool false), (18, .bool false), (19, .int .i64 (lim : Int)), (20, .bool false), (21, .bool false), (22, .pointer (some ⟨dk, 0, none⟩)), (23, .int .i64 (lim : Int)), (24, .agg #[.pointer (some ⟨dk, 0, none⟩), .int .i64 (lim : Int), .slice none 0 0]), (25, .pointer (some ⟨p, 0, none⟩)), (6, .pointer (some ⟨p, 0, none⟩)), (26, .pointer (some ⟨dk, 0, none⟩)), (27, nv), (28, .int .i64 (fs.length : Int)), (29, .int .i64 0)]) ⟨rfl, rfl, rfl, rfl, rfl, rfl, rfl, rfl, rfl, rfl, rfl, rfl, rfl, rfl, rfl, rfl, rfl, rfl, rfl, rfl, rfl, rfl, rfl, trivial⟩ ?_
  refine WC2.mid [LogT p dk lim ((fs.take 0).map fun f => (f, [])), Vec 9 1 encKs nv (fs.map nameL), DiskT dk d, TabZ tb] (.refl _) ?_
  refine d_loop (α := Nat) (fun j => [(4, .pointer none), (5, .int .i64 0), (6, .pointer (some ⟨p, 0, none⟩)), (27, nv), (28, .int .i64 (fs.length : Int)), (29, .int .i64 (j : Int))]) (fun j => [LogT p dk lim ((fs.take j).map fun f => (f, [])), Vec 9 1 encKs nv (fs.map nameL), DiskT dk d, TabZ tb]) (fun j => j ≤ fs.length) (fun j => fs.length - j) 0 (Nat.zero_le _) ⟨rfl, rfl, rfl, rfl, rfl, rfl, trivial⟩ rfl ?_
  rintro j hI
  refine WC2.at_ (env' := [(4, .pointer none), (5, .int .i64 0), (6, .pointer (some ⟨p, 0, none⟩)), (27, nv), (28, .int .i64 (fs.length : Int)), (29, .int .i64 (j : Int))]) (rs' := [LogT p dk lim ((fs.take j).map fun f => (f, [])), Vec 9 1 encKs nv (fs.map nameL), DiskT dk d, TabZ tb]) ⟨rfl, rfl, rfl, rfl, rfl, rfl, trivial⟩ rfl ?_
  rcases Nat.lt_or_ge j fs.length with hjN | hjN
  · skip
    obtain ⟨f, hfj⟩ : ∃ f, fs[j]? = some f := ⟨_, List.getElem?_eq_getElem hjN⟩
    have hfb := hfs f (List.mem_of_getElem? hfj)
    have hnj : (fs.map nameL)[j]? = some (nameL f) := by rw [List.getElem?_map, hfj]; rfl
    have hnjl : j < (fs.map nameL).length := by rw [List.length_map]; exact hjN
    refine d_reg ?_
    refine h_q hflT rfl ?_
    refine h_val rfl (.bool true) (fun b w hb hH => xCm rfl rfl rfl (cmp_lss_t (by omega)) hb) ?_
    refine h_done (d_seq (d_then rfl (d_skip (f_to (d_seq (d_block (d_reg ?_)))))))
    refine h_q hflT rfl ?_
    refine h_val rfl (elp nv (j * 1)) (fun b w hb hH => e_vidx 1 sl_string okKs9 rfl j hnjl rfl rfl rfl hH hb) ?_
    refine h_val rfl (.string (bs (nameL f))) (fun b w hb hH => e_vload1 1 ty_string okKs9 rfl j (a := (nameL f)) hnj rfl rfl rfl hH hb) ?_
    refine h_q hflT rfl ?_
    refine h_done (d_reg ?_)
    refine h_q hflT rfl ?_
    refine h_act (post := fun _ => [LogT p dk lim ((fs.take j).map fun f => (f, [])), Vec 9 1 encKs nv (fs.map nameL), DiskT dk d, TabZ tb]) rfl (a_does (os' := fun _ => [LogT p dk lim ((fs.take j).map fun f => (f, [])), Vec 9 1 encKs nv (fs.map nameL), DiskT dk d, TabZ tb]) [3] 0 (ent_of Tryz.func40 (by kernel_rfl) rfl) (number_does tb (n := f) hfb) rfl rfl rfl (fun _ => rfl) rfl rfl rfl) ?_; rintro ⟨⟩
    refine h_q hflT rfl ?_
    refine h_done (d_reg ?_)
    refine h_q hflT rfl ?_
    refine h_done (d_then rfl ?_)
    refine d_open 0 rfl LogT.open_ (fun _ => rfl) ?_; rintro ⟨sv, svs⟩
    refine WC2.fact 3 rfl (fun _ h => h.2) ?_; rintro hm
    refine WC2.leave [3] rfl rfl ?_
    replace hm : svs.map SegV.m = ((fs.take j).map fun f => (f, [])) := hm
    have hsl : svs.length ≤ 1000000 := by have := congrArg List.length hm; simp only [List.length_map, List.length_take] at this; omega
    refine d_reg1 ?_
    refine h_q hflT rfl ?_
    refine h_val rfl (.pointer (some ⟨p, 0, none⟩)) (fun b w hb hH => by exact xNc rfl rfl hb) ?_
    refine h_q hflT rfl ?_
    refine h_val rfl (sv) (fun b w hb hH => xLd rfl rfl (rOn tySs rfl) (hH.row 0 rfl) hb) ?_
    refine h_q hflT rfl ?_
    refine h_val rfl (.agg #[.int .u64 (f : Int), .slice none 0 0]) (fun b w hb hH => exec_build rfl rfl (by kernel_rfl) hb) ?_
    refine h_act (X := Value) (val := fun v : Value => v) (post := fun su => [Vec 92 2 encSg su ([(⟨f, [], none, 0⟩ : SegV)]), cell p 87 #[.pointer (some ⟨dk, 0, none⟩), .int .i64 (lim : Int), sv], Vec 92 2 encSg sv svs, MksE svs, Vec 9 1 encKs nv (fs.map nameL), DiskT dk d, TabZ tb]) rfl (by refine a_buildK (e := 92) (t := 85) (k := 2) (enc := encSg) (x := .tmp 45) (c := .agg #[.int .u64 (f : Int), .slice none 0 0]) ?_ ?_ ?_ (⟨f, [], none, 0⟩ : SegV) ?_ ?_ ?_; exact sl_seg_segment; exact (by decide); exact okSg; exact rfl; exact rfl; exact rfl) ?_; rintro su
    refine h_act (post := fun nv2 => [Vec 92 2 encSg su ([(⟨f, [], none, 0⟩ : SegV)]), cell p 87 #[.pointer (some ⟨dk, 0, none⟩), .int .i64 (lim : Int), sv], Vec 92 2 encSg nv2 (svs ++ [(⟨f, [], none, 0⟩ : SegV)]), MksE svs, Vec 9 1 encKs nv (fs.map nameL), DiskT dk d, TabZ tb]) rfl (a_appendK (nb := 32) 2 sl_seg_segment okSg (by kernel_rfl) (by decide) rfl ([(⟨f, [], none, 0⟩ : SegV)]) (fun w hH => hH.vec 0 rfl okSg) (by simp only [List.length_cons, List.length_nil]; omega) rfl rfl rfl rfl) ?_; rintro nv2
    refine h_val rfl (.pointer (some ⟨p, 0, none⟩)) (fun b w hb hH => by exact xNc rfl rfl hb) ?_
    refine h_q hflT rfl ?_
    refine h_acts (post := fun _ => [Vec 92 2 encSg su ([(⟨f, [], none, 0⟩ : SegV)]), cell p 87 #[.pointer (some ⟨dk, 0, none⟩), .int .i64 (lim : Int), nv2], Vec 92 2 encSg nv2 (svs ++ [(⟨f, [], none, 0⟩ : SegV)]), MksE svs, Vec 9 1 encKs nv (fs.map nameL), DiskT dk d, TabZ tb]) rfl rfl (a_storev 1 2 (v := nv2) #[.pointer (some ⟨dk, 0, none⟩), .int .i64 (lim : Int), nv2] tySs.2 rfl (fun _ h => Vec.c1 h) rfl rfl rfl rfl rfl rfl rfl) ?_; rintro ⟨⟩
    refine h_nil (f_block (f_to ?_))
    refine d_nilvec 104 2 encMk ?_
    refine d_close [4, 0] rfl (mks_push (y := (⟨f, [], none, 0⟩ : SegV))) rfl ?_
    refine d_close [2, 3, 0] rfl (logT_mk (opn_push hfj hm)) rfl ?_
    refine WC2.leave [1] rfl rfl ?_
    refine WC2.keep (env' := [(4, .pointer none), (5, .int .i64 0), (6, .pointer (some ⟨p, 0, none⟩)), (27, nv), (28, .int .i64 (fs.length : Int)), (29, .int .i64 (j : Int)), (30, .bool true), (31, elp nv (j * 1)), (32, .string (bs (nameL f))), (8, .string (bs (nameL f))), (34, .string (bs (nameL f))), (35, .tuple #[.int .u64 (f : Int), .bool true]), (33, .tuple #[.int .u64 (f : Int), .bool true]), (36, .int .u64 (f : Int)), (37, .bool true), (9, .int .u64 (f : Int)), (10, .bool true), (38, .bool true), (39, .pointer (some ⟨p, 0, none⟩)), (40, .pointer (some ⟨p, 0, none⟩)), (41, .pointer (some ⟨p, 0, none⟩)), (42, .pointer (some ⟨p, 2, none⟩)), (43, sv), (44, .int .u64 (f : Int)), (45, .agg #[.int .u64 (f : Int), .slice none 0 0]), (46, su), (47, nv2), (48, .pointer (some ⟨p, 0, none⟩)), (49, .pointer (some ⟨p, 2, none⟩))]) ⟨rfl, rfl, rfl, rfl, rfl, rfl, rfl, rfl, rfl, rfl, rfl, rfl, rfl, rfl, rfl, rfl, rfl, rfl, rfl, rfl, rfl, rfl, rfl, rfl, rfl, rfl, rfl, rfl, rfl, trivial⟩ ?_
    refine WC2.mid [LogT p dk lim ((fs.take (j + 1)).map fun f => (f, [])), Vec 9 1 encKs nv (fs.map nameL), DiskT dk d, TabZ tb] (.refl _) ?_
    refine d_reg1 ?_
    refine h_q hflT rfl ?_
    refine h_val rfl (.int .i64 ((j + 1 : Nat) : Int)) (fun b w hb hH => exec_ar rfl rfl rfl rfl (by rw [IntWalk.i64_in _ (by omega)]; omega) hb) ?_
    refine h_q hflT rfl ?_
    refine h_nil ?_
    exact f_again (j + 1) 0 (by omega) (show fs.length - (j + 1) < fs.length - j by omega) ⟨rfl, rfl, rfl, rfl, rfl, rfl, trivial⟩ rfl
  · skip
    have hje : j = fs.length := by omega
    refine d_reg ?_
    refine h_q hflT rfl ?_
    refine h_val rfl (.bool false) (fun b w hb hH => xCm rfl rfl rfl (cmp_lss_f (by omega)) hb) ?_
    refine h_done (d_seq (d_else rfl (d_exit (fTe (fTe (f_block_exit (f_to ?_)))))))
    rw [show fs.take j = fs by rw [hje, List.take_length]]
    refine WC2.keep (env' := [(4, .pointer none), (5, .int .i64 0), (6, .pointer (some ⟨p, 0, none⟩)), (27, nv), (28, .int .i64 (fs.length : Int)), (29, .int .i64 (j : Int)), (30, .bool false)]) ⟨rfl, rfl, rfl, rfl, rfl, rfl, rfl, trivial⟩ ?_
    refine WC2.mid [LogT p dk lim (fs.map fun f => (f, [])), Vec 9 1 encKs nv (fs.map nameL), DiskT dk d, TabZ tb] (.refl _) ?_
    refine d_reg ?_
    refine h_q hflT rfl ?_
    refine h_act (post := fun _ => [LogT p dk lim (marksM d fs), Vec 9 1 encKs nv (fs.map nameL), DiskT dk d, TabZ tb]) rfl (a_does (os' := fun _ => [LogT p dk lim (marksM d fs), Vec 9 1 encKs nv (fs.map nameL), DiskT dk d, TabZ tb]) [0, 2, 3] 0 (ent_of Tryz.func41 (by kernel_rfl) rfl) (load_whole tb hd hfs hfl rfl hL hbl hok hwh) rfl rfl rfl (fun _ => rfl) rfl rfl rfl) ?_; rintro ⟨⟩
    refine h_done (d_seq (d_reg ?_))
    refine h_q hflT rfl ?_
    refine h_act (post := fun _ => [LogT p dk lim (marksM d fs), Vec 9 1 encKs nv (fs.map nameL), DiskT dk d, TabZ tb]) rfl (a_does (os' := fun _ => [LogT p dk lim (marksM d fs), Vec 9 1 encKs nv (fs.map nameL), DiskT dk d, TabZ tb]) [0, 2, 3] 0 (ent_of Tryz.func42 (by kernel_rfl) rfl) (repair_marks tb hd hfs hfl hL hbl hwh) rfl rfl rfl (fun _ => rfl) rfl rfl rfl) ?_; rintro ⟨⟩
    refine h_q hflT rfl ?_
    refine h_done (d_reg ?_)
    refine h_q hflT rfl ?_
    refine h_val rfl (.bool false) (fun b w hb hH => xCm rfl rfl rfl (cmp_neq_f (by decide)) hb) ?_
    refine h_done (d_else rfl (d_skip (f_to (d_reg ?_))))
    refine h_q hflT rfl ?_
    refine h_done (d_ret ?_)
    exact f_fin2 (.tmp rfl) (.tmp rfl) (fun w h => tells p rfl [0, 2, 3] rfl h sPr) rfl
end Go.Proofs.YtaipejaeeohpkaaGreatDoor.Sep
