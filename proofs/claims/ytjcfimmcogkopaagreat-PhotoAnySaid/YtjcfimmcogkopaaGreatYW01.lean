/-
  PhJ · PhY
-/
import Derived.Test.YtjcfimmcogkopaaGreatYA08
import Derived.Test.YtjcfimmcogkopaaGreatYN01
import Derived.Test.YtjcfimmcogkopaaGreatYR02
import Derived.Test.YtjcfimmcogkopaaGreatYT01
import Derived.Test.YtjcfimmcogkopaaGreatYT02
import Derived.Test.YtjcfimmcogkopaaGreatYU01
set_option linter.unusedSimpArgs false
set_option linter.unusedVariables false
namespace Go.Proofs.YtjcfimmcogkopaaGreat.Sep
open Go.RowKit
open Go.Proofs.YtjcfimmcogkopaaGreat.Mem (AZ Ci Chg Au)
section
variable {P : Program} {Q : Exit → Act → World → Prop} {n : Nat} {B : Nat → Prop} {w0 : World} {rs : List Ass} {env : List (Nat × Value)}
def WD {X : Type} (n : Nat) (B : Nat → Prop) (w0 : World) (E : X → List (Nat × Value)) (R : X → List Ass) : Exit → Act → World → Prop := fun e a w => ∃ x, e = .normal ∧ Fr n a (E x) ∧ Hp B w0 w (R x)
theorem Um {X : Type} {c : Code} (E : X → List (Nat × Value)) (R : X → List Ass) (h1 : Bv P (WD n B w0 E R) n env B w0 rs c) (h2 : ∀ x, CA Q n (E x) B w0 (R x) .normal) : Bv P Q n env B w0 rs c := fun a w hF hH => Code.wp_mono (fun e a' w' (h : WD n B w0 E R e a' w') => by obtain ⟨x, he, hF', hH'⟩ := h; subst he; exact h2 x a' w' hF' hH') (h1 a w hF hH)
theorem M6 {X : Type} {E : X → List (Nat × Value)} {R : X → List Ass} (x : X) (k : Nat) (hs : FQ env (E x)) (hr : rs.drop k = R x) : CA (WD n B w0 E R) n env B w0 rs .normal := fun _ _ hF hH => ⟨x, rfl, hF.keep hs, hr ▸ hH.drop k⟩
end
end Go.Proofs.YtjcfimmcogkopaaGreat.Sep
namespace Go.Proofs.YtjcfimmcogkopaaGreat.Sep
open Go.RowKit
open Go.Proofs.YtjcfimmcogkopaaGreat.Mem (AZ Ci Chg Au)
theorem calls_argB {P : Program} {F : FuncId} {args : Array Value} {val : Value} {w : World} {v0 v1 : Value} {b m : List UInt8} (h0 : D6 w v0 b) (h1 : D6 w v1 m) (h : ∀ X : Ass, Cu X v0 b → Cu X v1 m → AW P F args [X] (fun _ : Unit => val) (fun _ => [X])) : Calls P F args w fun e w' => e = .returned val ∧ Below w.heap.size w w' := by
 obtain ⟨g0, hc0, r0⟩ := LT h0
 obtain ⟨g1, hc1, r1⟩ := LT h1
 have hc : ∀ g ∈ g0 ++ g1, Fp w g := fun g hg => (List.mem_append.1 hg).elim (hc0 g) (hc1 g)
 exact PW hc (h _ (Oq hc fun w' hw => r0 w' fun g hg => hw g (List.mem_append.2 (.inl hg))) (Oq hc fun w' hw => r1 w' fun g hg => hw g (List.mem_append.2 (.inr hg))))
structure XsV where
  A : Option Addr
  c : Nat
  x : List UInt8
  V : Ass
def Xd (X : Ass) (v : Value) (z : XsV) : Prop := v = .slice z.A z.x.length z.c ∧ z.x.length ≤ 140737488355328 ∧ Cu (Do [z.V, X]) (.slice z.A z.x.length z.c) z.x
def Xe (X : Ass) (v : Value) : Ass := fun rs => ∃ z : XsV, Xd X v z ∧ Ak [z.V, X] rs
theorem Un {X : Ass} {v : Value} : ∀ rs, Xe X v rs → ∃ z : { z : XsV // Xd X v z }, Ak [z.1.V, X] rs := fun _ ⟨z, h1, h2⟩ => ⟨⟨z, h1⟩, h2⟩
theorem Xf {X : Ass} {A : Option Addr} {c : Nat} {b : List UInt8} (h : Cu X (.slice A b.length c) b) (hl : b.length ≤ 140737488355328) : ∀ rs, Ak [X] rs → Xe X (.slice A b.length c) rs := fun rs h2 => ⟨⟨A, c, b, EF⟩, ⟨rfl, hl, OE h⟩, [], rs, rfl, rfl, h2⟩
theorem VB {X : Ass} {v : Value} {b : List UInt8} (hl : b.length ≤ 140737488355328) : ∀ rs, Ak [Ap 5 1 encB v b, X] rs → Xe X v rs := fun rs h2 => by
 obtain ⟨r1, r2, rfl, h3, h4⟩ := h2
 obtain ⟨A, c, rfl⟩ := Ap.is h3
 exact ⟨⟨A, c, b, Ap 5 1 encB (.slice A b.length c) b⟩, ⟨rfl, hl, I0 Db⟩, r1, r2, rfl, h3, h4⟩
theorem Li {V X : Ass} : ∀ rs, Do [V, X] rs → ∃ _ : Unit, Ak [V, X] rs := fun _ h => ⟨(), h⟩
theorem Mf (L : List RFl) : PlayOk 1048576 0 (Fj 1048576 L) ∧ (AH (Fj 1048576 L).syn).Nodup ∧ Fe (Fj 1048576 L).syn (Fj 1048576 L).wait := by
 have h := OF (room := 1048576) (by decide) (L.take 20)
 have hr : (Fj 1048576 L).room = 1048576 := h.rm
 refine ⟨⟨by rw [hr]; decide, ?_, Nat.le_refl _⟩, h.nd, trivial⟩
 show AF (Dh 1048576 (L.take 20)).now + 0 ≤ 1048576
 have := h.le
 omega
theorem Rc {Y : Ass} {A : Option Addr} {c : Nat} {xd : List UInt8} (hx : Cu Y (.slice A xd.length c) xd) (hl : xd.length ≤ 140737488355328) : ∀ y : RFl, y ∈ [(⟨snapN, A, c, xd⟩ : RFl)] → Cu Y y.v y.d ∧ y.d.length ≤ 140737488355328 ∧ y.n.length ≤ 9223372036854775807 := fun y hy => by
 rw [List.mem_singleton.1 hy]
 exact ⟨hx, hl, by show snapN.length ≤ _; decide⟩
theorem Vo {Y : Ass} {A A0 : Option Addr} {c c0 : Nat} {xd b : List UInt8} (hx : Cu Y (.slice A xd.length c) xd) (hl : xd.length ≤ 140737488355328) (hb : Cu Y (.slice A0 b.length c0) b) (hbl : b.length ≤ 140737488355328) : ∀ y : RFl, y ∈ [(⟨snapN, A, c, xd⟩ : RFl)] ++ [(⟨snewN, A0, c0, b⟩ : RFl)] → Cu Y y.v y.d ∧ y.d.length ≤ 140737488355328 ∧ y.n.length ≤ 9223372036854775807 := fun y hy => by
  rcases List.mem_append.1 hy with hy | hy
  · exact Rc hx hl y hy
  · rw [List.mem_singleton.1 hy]
    exact ⟨hb, hbl, by show snewN.length ≤ _; decide⟩
theorem Vp {k : Nat} (h : k ≤ 255) : IntKind.u8.wrap (k : Int) = (((UInt8.ofNat k).toNat : Nat) : Int) := by
 have := Vn (c := (k : Int)) ⟨by omega, by omega⟩
 rwa [Int.toNat_natCast] at this
set_option maxRecDepth 100000 in
set_option maxHeartbeats 1000000 in
theorem photoany_does {X : Ass} {A0 A1 : Option Addr} {c0 c1 : Nat} {b more : List UInt8} {frames : Int} {other : Bool} (hX : Cu X (.slice A0 b.length c0) b) (hb9 : b.length ≤ 140737488351232) (hM : Cu X (.slice A1 more.length c1) more) (hc1 : more.length ≤ c1) (hm9 : more.length ≤ 9223372036854775807) : AW Tryz.prog 4 #[.slice A0 b.length c0, .slice A1 more.length c1, .int .i64 frames, .bool other] [X] (fun (_ : Unit) => .bool true) (fun (_ : Unit) => [X]) := by
 refine Be (args := [.slice A0 b.length c0, .slice A1 more.length c1, .int .i64 frames, .bool other]) 95 Tryz.func4 rfl rfl rfl ?_; intro w rs
 obtain ⟨m, hm⟩ : ∃ m, frames.tmod 3 = m := ⟨_, rfl⟩
 obtain ⟨r1, hr1⟩ : ∃ r, Fy .gtr m 0 = some r := ⟨_, rfl⟩
 obtain ⟨r2, hr2⟩ : ∃ r, Fy .eql m 2 = some r := ⟨_, rfl⟩
 obtain ⟨K, hK0⟩ : ∃ K, min more.length 100 = K := ⟨_, rfl⟩
 have hfl := DW (x := [4, 2, 14, UInt8.ofNat K] ++ more.take K) (by simp only [List.length_append, List.length_cons, List.length_nil, List.length_take]; omega)
 simp only [List.length_append, List.length_cons, List.length_nil, List.length_take] at hfl
 refine Ad (Af Ah rfl (Ab (Ad (Af Ah rfl (Ab (Aq (Ad (Af Ah rfl (Ac rfl (.int .i64 m) (fun b w hb hH => DT rfl rfl rfl (by decide) hm hb) (Ac rfl (.bool r1) (fun b w hb hH => Bc rfl rfl rfl hr1 hb) (Ab ?_)))))))))))
 refine Um (X := Value) (fun x9 => [(0, .slice A0 b.length c0), (3, .bool other), (8, .bool false), (9, x9)]) (fun x9 => [Xe X x9]) ?_ ?_
 cases r1
 refine Bk [0] rfl (Xf hX (by omega)) rfl (Aw rfl (AC ?_))
 exact M6 (.slice A0 b.length c0) 0 ⟨rfl, rfl, rfl, rfl, trivial⟩ rfl
 refine AI rfl (Ad (Af Ah rfl (Ac rfl (.int .i64 (more.length : Int)) (fun b w hb hH => AY (((hH.rd8 0 rfl hM).rd)) Tryz.underlying32 rfl rfl hb) (Ac rfl (.int .i64 (K : Int)) (fun b w hb hH => BT rfl rfl (fun cs => (fun w cs => Nl (by omega) _ _ w cs) w cs) hb) (Ac rfl (.int .u8 (((UInt8.ofNat K).toNat : Nat) : Int)) (fun b w hb hH => AR Tryz.underlying3 Tryz.underlying5 (Vp (by omega)) rfl rfl hb) (Aj (X := Value) (val := fun v : Value => v) (post := fun u28 => [Ap 5 1 encB u28 ([4, 2, 14, (UInt8.ofNat K)]), X]) rfl (by exact Oh AE 4 2 14 (UInt8.ofNat K) rfl rfl rfl rfl rfl) ?_)))))); rintro u28
 refine Af Ah rfl (Ac rfl (.int .i64 (more.length : Int)) (fun b w hb hH => AY (((hH.rd8 1 rfl hM).rd)) Tryz.underlying32 rfl rfl hb) (Ac rfl (.int .i64 ((more.take K).length : Int)) (fun b w hb hH => BT rfl rfl (fun cs => (fun w cs => Nl (by rw [List.length_take]; omega) _ _ w cs) w cs) hb) (Ac rfl (.slice A1 (more.take K).length c1) (fun b w hb hH => Ir (j := (more.take K).length) AE Sj (by rw [List.length_take]; omega) rfl rfl rfl hH hb) (Aj (post := fun u34 => [Ap 5 1 encB u34 ([4, 2, 14, UInt8.ofNat K] ++ more.take K), X]) rfl (Co 0 AE (by kernel_rfl) rfl (more.take K) (fun w hH => (hH.rd8 1 rfl (TX K hM)).rd) (by simp only [List.length_cons, List.length_nil, List.length_take]; omega) rfl rfl rfl rfl) ?_)))); rintro u34
 refine Aj rfl (Am (os' := fun fv9 => [Ap 5 1 encB fv9 (BD ([4, 2, 14, UInt8.ofNat K] ++ more.take K)), Ap 5 1 encB u34 ([4, 2, 14, UInt8.ofNat K] ++ more.take K), X]) [0] 0 (Ag Tryz.func20 (by kernel_rfl) rfl) (Qh Db (by simp only [List.length_append, List.length_cons, List.length_nil, List.length_take]; omega) rfl) rfl rfl rfl (fun _ => rfl) rfl rfl rfl) ?_; rintro fv9
 refine Af Ah rfl (Ab (Ad (Af Ah rfl (Ac rfl (.int .i64 m) (fun b w hb hH => DT rfl rfl rfl (by decide) hm hb) (Ac rfl (.bool r2) (fun b w hb hH => Bc rfl rfl rfl hr2 hb) (Ab ?_))))))
 refine Um (X := Value) (fun y9 => [(0, .slice A0 b.length c0), (3, .bool other), (8, .bool false), (9, y9)]) (fun y9 => [Xe X y9]) ?_ ?_
 cases r2
 refine Bk [0, 2] rfl (VB (by omega)) rfl (Bv.leave [1] rfl rfl (Aw rfl (AC ?_)))
 exact M6 (fv9) 0 ⟨rfl, rfl, rfl, rfl, trivial⟩ rfl
 refine AI rfl (BV (Af Ah rfl ?_))
 refine Aj (X := Value) (val := fun v : Value => v) (post := fun u39 => [Ap 5 1 encB u39 ([]), Ap 5 1 encB fv9 (BD ([4, 2, 14, UInt8.ofNat K] ++ more.take K)), Ap 5 1 encB u34 ([4, 2, 14, UInt8.ofNat K] ++ more.take K), X]) rfl (by refine D4 (e := 5) (t := 32) (k := 1) (enc := encB) ?_ ?_; exact AE; exact rfl) ?_; rintro u39
 refine Af Ah rfl (Aj (post := fun u41 => [Ap 5 1 encB u41 (BD ([4, 2, 14, UInt8.ofNat K] ++ more.take K)), Ap 5 1 encB fv9 (BD ([4, 2, 14, UInt8.ofNat K] ++ more.take K)), Ap 5 1 encB u34 ([4, 2, 14, UInt8.ofNat K] ++ more.take K), X]) rfl (Co 0 AE (by kernel_rfl) rfl (BD ([4, 2, 14, UInt8.ofNat K] ++ more.take K)) (fun w hH => (hH.rd8 1 rfl Db).rd) (by simp only [List.length_nil]; omega) rfl rfl rfl (List.nil_append _)) ?_); rintro u41
 refine Af Ah rfl (Aj (post := fun u43 => [Ap 5 1 encB u43 (BD ([4, 2, 14, UInt8.ofNat K] ++ more.take K) ++ b), Ap 5 1 encB fv9 (BD ([4, 2, 14, UInt8.ofNat K] ++ more.take K)), Ap 5 1 encB u34 ([4, 2, 14, UInt8.ofNat K] ++ more.take K), X]) rfl (Co 0 AE (by kernel_rfl) rfl (b) (fun w hH => (hH.rd8 3 rfl hX).rd) (by omega) rfl rfl rfl rfl) ?_); rintro u43
 refine Qn [0, 3] rfl (VB (by rw [List.length_append]; omega)) rfl (Ce.leave [1, 2] rfl rfl (Af Ah rfl (Bi ?_)))
 exact M6 (u43) 0 ⟨rfl, rfl, rfl, rfl, trivial⟩ rfl
 intro y9
 exact M6 (y9) 0 ⟨rfl, rfl, rfl, rfl, trivial⟩ rfl
 intro x9
 refine AO (Bd 0 rfl Un (fun _ => rfl) ?_); rintro ⟨⟨A2, c2, x2, V2⟩, hv9, hx2l, hx2⟩
 change x9 = .slice A2 x2.length c2 at hv9
 change x2.length ≤ 140737488355328 at hx2l
 change Cu (Do [V2, X]) (.slice A2 x2.length c2) x2 at hx2
 subst hv9
 refine Bv.keep (env' := [(0, .slice A0 b.length c0), (3, .bool other), (8, .bool false), (9, .slice A2 x2.length c2)]) ⟨rfl, rfl, rfl, rfl, trivial⟩ (Bv.mid [V2, X] (.refl _) (Bk [0, 1] rfl (fun _ h => h) rfl (Ad (Af Ah rfl (Ac rfl (.agg #[.string (bs ([115, 110, 97, 112])), .slice A2 x2.length c2]) (fun b w hb hH => Bh rfl rfl (by kernel_rfl) hb) ?_)))))
 refine Aj (X := Value) (val := fun v : Value => v) (post := fun fv => [Ap 54 2 encRF fv ([(⟨snapN, A2, c2, x2⟩ : RFl)]), Do [V2, X]]) rfl (by refine Fd (e := 54) (t := 55) (k := 2) (enc := encRF) (x := .tmp 45) (c := .agg #[.string (bs ([115, 110, 97, 112])), .slice A2 x2.length c2]) ?_ ?_ ?_ (⟨snapN, A2, c2, x2⟩ : RFl) ?_ ?_ ?_; exact Ar; exact (by decide); exact BS; exact rfl; exact rfl; exact rfl) ?_; rintro fv
 refine Af Ah rfl (Ab (Aq ?_))
 cases other
 refine Ad (Af Ah rfl (Ab (Aw rfl (AC (AO ?_)))))
 obtain ⟨d1, hd1⟩ : ∃ d1, Fj 1048576 ([(⟨snapN, A2, c2, x2⟩ : RFl)]) = d1 := ⟨_, rfl⟩
 have hP := Mf ([(⟨snapN, A2, c2, x2⟩ : RFl)])
 rw [hd1] at hP
 obtain ⟨hK1, hnd1, hok1⟩ := hP
 obtain ⟨⟨d2, o, e2⟩, hop⟩ : ∃ R, CL d1 = R := ⟨_, rfl⟩
 have hKE : PlayOk 1048576 2 d2 := by have h9 := hK1.openP; rw [hop] at h9; exact h9
 have hrd : ∀ b, (Bo (Ck d1).1 snapN).getD [] = b → b.length ≤ 137438953472 := fun b hb => OH hK1 (by omega) hnd1 hok1 hb
 have hfE := (hKE.fitK (k := 9) (by omega) (by omega)).fit
 refine Ad (Af Ah rfl (Aj rfl (Am  [0, 1] 0 (Ag Tryz.func5 (by kernel_rfl) rfl) ((hd1 ▸ L8 (by decide) CI (by simp only [List.length_append, List.length_cons, List.length_nil]; omega) (Rc hx2 hx2l))) rfl rfl rfl (fun _ => rfl) rfl rfl rfl) ?_)); rintro ⟨p, q⟩
 refine Af Ah rfl (Ab (Aq (Ad (Af Ah rfl (Aj (post := fun _ => [Ao p d1, AB q d1, Ap 54 2 encRF fv ([(⟨snapN, A2, c2, x2⟩ : RFl)]), Do [V2, X]]) rfl (Bg (Ag Tryz.func6 (by kernel_rfl) rfl) (fun w hH => JQ w) rfl rfl rfl) ?_))))); rintro ⟨⟩
 refine Af Ah rfl (Ab (Aw rfl (AC (AO (Ad (Af Ah rfl (Aj rfl (Am  [0] 0 (Ag Tryz.func11 (by kernel_rfl) rfl) (Mc (CH (hK1.fitK (k := 9) (by omega) (by omega)) (by decide)) hrd hop) rfl rfl rfl (fun _ => rfl) rfl rfl rfl) ?_))))))); rintro ⟨A5, c5⟩
 refine Af Ah rfl (Aj (post := fun g14 => [cell g14 34 #[.int .u64 0, .int .u64 0, .int .i64 0, .slice none 0 0], Jx (.slice A5 (AM o).d.length c5) (AM o).d, Ao p d2, AB q d1, Ap 54 2 encRF fv ([(⟨snapN, A2, c2, x2⟩ : RFl)]), Do [V2, X]]) rfl (Ch BA rfl) ?_); rintro g14
 refine AU (post := fun _ => [cell g14 34 #[.int .u64 ((AM o).i), .int .u64 ((AM o).t), .int .i64 ((AM o).c), .slice A5 (AM o).d.length c5], Jx (.slice A5 (AM o).d.length c5) (AM o).d, Ao p d2, AB q d1, Ap 54 2 encRF fv ([(⟨snapN, A2, c2, x2⟩ : RFl)]), Do [V2, X]]) rfl rfl (AQ 0 (v := .agg #[.int .u64 ((AM o).i), .int .u64 ((AM o).t), .int .i64 ((AM o).c), .slice A5 (AM o).d.length c5]) #[.int .u64 ((AM o).i), .int .u64 ((AM o).t), .int .i64 ((AM o).c), .slice A5 (AM o).d.length c5] AA.2 rfl rfl rfl rfl rfl rfl rfl rfl rfl) ?_; rintro ⟨⟩
 refine Af Ah rfl (Ab (Ad (Af Ah rfl (Aj rfl (Am  [3] 0 (Ag Tryz.func12 (by kernel_rfl) rfl) (Me (CH (hK1.fitK (k := 9) (by omega) (by omega)) (by decide)) hrd hop) rfl rfl rfl (fun _ => rfl) rfl rfl rfl) ?_)))); rintro ⟨A6, c6⟩
 refine Af Ah rfl (Aj (post := fun g17 => [cell g17 34 #[.int .u64 0, .int .u64 0, .int .i64 0, .slice none 0 0], Jx (.slice A6 (AM o).d.length c6) (AM o).d, cell g14 34 #[.int .u64 ((AM o).i), .int .u64 ((AM o).t), .int .i64 ((AM o).c), .slice A5 (AM o).d.length c5], Jx (.slice A5 (AM o).d.length c5) (AM o).d, Ao p d2, AB q d2, Ap 54 2 encRF fv ([(⟨snapN, A2, c2, x2⟩ : RFl)]), Do [V2, X]]) rfl (Ch BA rfl) ?_); rintro g17
 refine AU (post := fun _ => [cell g17 34 #[.int .u64 ((AM o).i), .int .u64 ((AM o).t), .int .i64 ((AM o).c), .slice A6 (AM o).d.length c6], Jx (.slice A6 (AM o).d.length c6) (AM o).d, cell g14 34 #[.int .u64 ((AM o).i), .int .u64 ((AM o).t), .int .i64 ((AM o).c), .slice A5 (AM o).d.length c5], Jx (.slice A5 (AM o).d.length c5) (AM o).d, Ao p d2, AB q d2, Ap 54 2 encRF fv ([(⟨snapN, A2, c2, x2⟩ : RFl)]), Do [V2, X]]) rfl rfl (AQ 0 (v := .agg #[.int .u64 ((AM o).i), .int .u64 ((AM o).t), .int .i64 ((AM o).c), .slice A6 (AM o).d.length c6]) #[.int .u64 ((AM o).i), .int .u64 ((AM o).t), .int .i64 ((AM o).c), .slice A6 (AM o).d.length c6] AA.2 rfl rfl rfl rfl rfl rfl rfl rfl rfl) ?_; rintro ⟨⟩
 refine Af Ah rfl (Ab (Bd 7 rfl Li (fun _ => rfl) ?_)); rintro ⟨⟩
 refine Ad (Af Ah rfl (Ac rfl (.agg #[.int .u64 ((AM o).i), .int .u64 ((AM o).t), .int .i64 ((AM o).c), .slice A5 (AM o).d.length c5]) (fun b w hb hH => Bb rfl rfl (EX (cs := [.int .u64 ((AM o).i), .int .u64 ((AM o).t), .int .i64 ((AM o).c), .slice A5 (AM o).d.length c5]) AA rfl) (hH.row 4 rfl) hb) (Ac rfl (.agg #[.int .u64 ((AM o).i), .int .u64 ((AM o).t), .int .i64 ((AM o).c), .slice A6 (AM o).d.length c6]) (fun b w hb hH => Bb rfl rfl (EX (cs := [.int .u64 ((AM o).i), .int .u64 ((AM o).t), .int .i64 ((AM o).c), .slice A6 (AM o).d.length c6]) AA rfl) (hH.row 2 rfl) hb) (Aj (post := fun _ => [V2, X, cell g17 34 #[.int .u64 ((AM o).i), .int .u64 ((AM o).t), .int .i64 ((AM o).c), .slice A6 (AM o).d.length c6], Jx (.slice A6 (AM o).d.length c6) (AM o).d, cell g14 34 #[.int .u64 ((AM o).i), .int .u64 ((AM o).t), .int .i64 ((AM o).c), .slice A5 (AM o).d.length c5], Jx (.slice A5 (AM o).d.length c5) (AM o).d, Ao p d2, AB q d2, Ap 54 2 encRF fv ([(⟨snapN, A2, c2, x2⟩ : RFl)])]) rfl (Bg (Ag Tryz.func13 (by kernel_rfl) rfl) (fun w hH => Jz w (hH.rd8 5 rfl IX) (hH.rd8 3 rfl IX) true (Gb _)) rfl rfl rfl) ?_)))); rintro ⟨⟩
 refine Af Ah rfl (Ac rfl (.bool true) (fun b w hb hH => Im (NO _) rfl rfl rfl hb) (Af Ah rfl (Ac rfl (.bool true) (fun b w hb hH => Bc rfl rfl rfl (JV rfl) hb) (Af Ah rfl (Aj rfl (Am (os' := fun _ => [V2, X, cell g17 34 #[.int .u64 ((AM o).i), .int .u64 ((AM o).t), .int .i64 ((AM o).c), .slice A6 (AM o).d.length c6], Jx (.slice A6 (AM o).d.length c6) (AM o).d, cell g14 34 #[.int .u64 ((AM o).i), .int .u64 ((AM o).t), .int .i64 ((AM o).c), .slice A5 (AM o).d.length c5], Jx (.slice A5 (AM o).d.length c5) (AM o).d, Ao p d2, AB q d2, Ap 54 2 encRF fv ([(⟨snapN, A2, c2, x2⟩ : RFl)])]) [6, 7] 0 (Ag Tryz.func19 (by kernel_rfl) rfl) (L6 hfE) rfl rfl rfl (fun _ => rfl) rfl rfl rfl) ?_))))); rintro ⟨⟩
 refine Af Ah rfl (Ab (Bv.keep (env' := [(8, .bool true)]) ⟨rfl, trivial⟩ (Av ?_)))
 exact As (.tmp rfl) (fun w h => AG () rfl [1] rfl h CV) rfl
 refine Ad (Af Ah rfl (Ab (AI rfl (BV (Af Ah rfl (Ac rfl (.agg #[.string (bs ([115, 110, 97, 112, 46, 110, 101, 119])), .slice A0 b.length c0]) (fun b w hb hH => Bh rfl rfl (by kernel_rfl) hb) ?_))))))
 refine Aj (X := Value) (val := fun v : Value => v) (post := fun fw => [Ap 54 2 encRF fw ([(⟨snewN, A0, c0, b⟩ : RFl)]), Ap 54 2 encRF fv ([(⟨snapN, A2, c2, x2⟩ : RFl)]), Do [V2, X]]) rfl (by refine Fd (e := 54) (t := 55) (k := 2) (enc := encRF) (x := .tmp 50) (c := .agg #[.string (bs ([115, 110, 97, 112, 46, 110, 101, 119])), .slice A0 b.length c0]) ?_ ?_ ?_ (⟨snewN, A0, c0, b⟩ : RFl) ?_ ?_ ?_; exact Ar; exact (by decide); exact BS; exact rfl; exact rfl; exact rfl) ?_; rintro fw
 refine Aj (post := fun fv => [Ap 54 2 encRF fw ([(⟨snewN, A0, c0, b⟩ : RFl)]), Ap 54 2 encRF fv ([(⟨snapN, A2, c2, x2⟩ : RFl)] ++ [(⟨snewN, A0, c0, b⟩ : RFl)]), Do [V2, X]]) rfl (Ha (nb := 40) 1 Ar BS (by kernel_rfl) (by decide) rfl ([(⟨snewN, A0, c0, b⟩ : RFl)]) (fun w hH => hH.vec 0 rfl BS) (by simp only [List.length_cons, List.length_nil]; omega) rfl rfl rfl rfl) ?_; rintro fv
 refine Af Ah rfl (Bi (AO ?_))
 obtain ⟨d1, hd1⟩ : ∃ d1, Fj 1048576 ([(⟨snapN, A2, c2, x2⟩ : RFl)] ++ [(⟨snewN, A0, c0, b⟩ : RFl)]) = d1 := ⟨_, rfl⟩
 have hP := Mf ([(⟨snapN, A2, c2, x2⟩ : RFl)] ++ [(⟨snewN, A0, c0, b⟩ : RFl)])
 rw [hd1] at hP
 obtain ⟨hK1, hnd1, hok1⟩ := hP
 obtain ⟨⟨d2, o, e2⟩, hop⟩ : ∃ R, CL d1 = R := ⟨_, rfl⟩
 have hKE : PlayOk 1048576 2 d2 := by have h9 := hK1.openP; rw [hop] at h9; exact h9
 have hrd : ∀ b, (Bo (Ck d1).1 snapN).getD [] = b → b.length ≤ 137438953472 := fun b hb => OH hK1 (by omega) hnd1 hok1 hb
 have hfE := (hKE.fitK (k := 9) (by omega) (by omega)).fit
 refine Ad (Af Ah rfl (Aj rfl (Am  [1, 2] 0 (Ag Tryz.func5 (by kernel_rfl) rfl) ((hd1 ▸ L8 (by decide) CI (by simp only [List.length_append, List.length_cons, List.length_nil]; omega) (Vo hx2 hx2l (OE hX) (by omega)))) rfl rfl rfl (fun _ => rfl) rfl rfl rfl) ?_)); rintro ⟨p, q⟩
 refine Af Ah rfl (Ab (Aq (Ad (Af Ah rfl (Aj (post := fun _ => [Ao p d1, AB q d1, Ap 54 2 encRF fw ([(⟨snewN, A0, c0, b⟩ : RFl)]), Ap 54 2 encRF fv ([(⟨snapN, A2, c2, x2⟩ : RFl)] ++ [(⟨snewN, A0, c0, b⟩ : RFl)]), Do [V2, X]]) rfl (Bg (Ag Tryz.func6 (by kernel_rfl) rfl) (fun w hH => JQ w) rfl rfl rfl) ?_))))); rintro ⟨⟩
 refine Af Ah rfl (Ab (Aw rfl (AC (AO (Ad (Af Ah rfl (Aj rfl (Am  [0] 0 (Ag Tryz.func11 (by kernel_rfl) rfl) (Mc (CH (hK1.fitK (k := 9) (by omega) (by omega)) (by decide)) hrd hop) rfl rfl rfl (fun _ => rfl) rfl rfl rfl) ?_))))))); rintro ⟨A5, c5⟩
 refine Af Ah rfl (Aj (post := fun g14 => [cell g14 34 #[.int .u64 0, .int .u64 0, .int .i64 0, .slice none 0 0], Jx (.slice A5 (AM o).d.length c5) (AM o).d, Ao p d2, AB q d1, Ap 54 2 encRF fw ([(⟨snewN, A0, c0, b⟩ : RFl)]), Ap 54 2 encRF fv ([(⟨snapN, A2, c2, x2⟩ : RFl)] ++ [(⟨snewN, A0, c0, b⟩ : RFl)]), Do [V2, X]]) rfl (Ch BA rfl) ?_); rintro g14
 refine AU (post := fun _ => [cell g14 34 #[.int .u64 ((AM o).i), .int .u64 ((AM o).t), .int .i64 ((AM o).c), .slice A5 (AM o).d.length c5], Jx (.slice A5 (AM o).d.length c5) (AM o).d, Ao p d2, AB q d1, Ap 54 2 encRF fw ([(⟨snewN, A0, c0, b⟩ : RFl)]), Ap 54 2 encRF fv ([(⟨snapN, A2, c2, x2⟩ : RFl)] ++ [(⟨snewN, A0, c0, b⟩ : RFl)]), Do [V2, X]]) rfl rfl (AQ 0 (v := .agg #[.int .u64 ((AM o).i), .int .u64 ((AM o).t), .int .i64 ((AM o).c), .slice A5 (AM o).d.length c5]) #[.int .u64 ((AM o).i), .int .u64 ((AM o).t), .int .i64 ((AM o).c), .slice A5 (AM o).d.length c5] AA.2 rfl rfl rfl rfl rfl rfl rfl rfl rfl) ?_; rintro ⟨⟩
 refine Af Ah rfl (Ab (Ad (Af Ah rfl (Aj rfl (Am  [3] 0 (Ag Tryz.func12 (by kernel_rfl) rfl) (Me (CH (hK1.fitK (k := 9) (by omega) (by omega)) (by decide)) hrd hop) rfl rfl rfl (fun _ => rfl) rfl rfl rfl) ?_)))); rintro ⟨A6, c6⟩
 refine Af Ah rfl (Aj (post := fun g17 => [cell g17 34 #[.int .u64 0, .int .u64 0, .int .i64 0, .slice none 0 0], Jx (.slice A6 (AM o).d.length c6) (AM o).d, cell g14 34 #[.int .u64 ((AM o).i), .int .u64 ((AM o).t), .int .i64 ((AM o).c), .slice A5 (AM o).d.length c5], Jx (.slice A5 (AM o).d.length c5) (AM o).d, Ao p d2, AB q d2, Ap 54 2 encRF fw ([(⟨snewN, A0, c0, b⟩ : RFl)]), Ap 54 2 encRF fv ([(⟨snapN, A2, c2, x2⟩ : RFl)] ++ [(⟨snewN, A0, c0, b⟩ : RFl)]), Do [V2, X]]) rfl (Ch BA rfl) ?_); rintro g17
 refine AU (post := fun _ => [cell g17 34 #[.int .u64 ((AM o).i), .int .u64 ((AM o).t), .int .i64 ((AM o).c), .slice A6 (AM o).d.length c6], Jx (.slice A6 (AM o).d.length c6) (AM o).d, cell g14 34 #[.int .u64 ((AM o).i), .int .u64 ((AM o).t), .int .i64 ((AM o).c), .slice A5 (AM o).d.length c5], Jx (.slice A5 (AM o).d.length c5) (AM o).d, Ao p d2, AB q d2, Ap 54 2 encRF fw ([(⟨snewN, A0, c0, b⟩ : RFl)]), Ap 54 2 encRF fv ([(⟨snapN, A2, c2, x2⟩ : RFl)] ++ [(⟨snewN, A0, c0, b⟩ : RFl)]), Do [V2, X]]) rfl rfl (AQ 0 (v := .agg #[.int .u64 ((AM o).i), .int .u64 ((AM o).t), .int .i64 ((AM o).c), .slice A6 (AM o).d.length c6]) #[.int .u64 ((AM o).i), .int .u64 ((AM o).t), .int .i64 ((AM o).c), .slice A6 (AM o).d.length c6] AA.2 rfl rfl rfl rfl rfl rfl rfl rfl rfl) ?_; rintro ⟨⟩
 refine Af Ah rfl (Ab (Bv.keep (env' := [(8, .bool false), (11, .pointer (some ⟨p, 0, none⟩)), (12, .pointer (some ⟨q, 0, none⟩)), (14, .pointer (some ⟨g14, 0, none⟩)), (15, .bool o.isSome), (16, .int .i64 (e2 : Int)), (17, .pointer (some ⟨g17, 0, none⟩)), (18, .bool o.isSome), (19, .int .i64 (e2 : Int))]) ⟨rfl, rfl, rfl, rfl, rfl, rfl, rfl, rfl, rfl, trivial⟩ (Bd 8 rfl Li (fun _ => rfl) ?_))); rintro ⟨⟩
 refine Ad (Af Ah rfl (Ac rfl (.agg #[.int .u64 ((AM o).i), .int .u64 ((AM o).t), .int .i64 ((AM o).c), .slice A5 (AM o).d.length c5]) (fun b w hb hH => Bb rfl rfl (EX (cs := [.int .u64 ((AM o).i), .int .u64 ((AM o).t), .int .i64 ((AM o).c), .slice A5 (AM o).d.length c5]) AA rfl) (hH.row 4 rfl) hb) (Ac rfl (.agg #[.int .u64 ((AM o).i), .int .u64 ((AM o).t), .int .i64 ((AM o).c), .slice A6 (AM o).d.length c6]) (fun b w hb hH => Bb rfl rfl (EX (cs := [.int .u64 ((AM o).i), .int .u64 ((AM o).t), .int .i64 ((AM o).c), .slice A6 (AM o).d.length c6]) AA rfl) (hH.row 2 rfl) hb) (Aj (post := fun _ => [V2, X, cell g17 34 #[.int .u64 ((AM o).i), .int .u64 ((AM o).t), .int .i64 ((AM o).c), .slice A6 (AM o).d.length c6], Jx (.slice A6 (AM o).d.length c6) (AM o).d, cell g14 34 #[.int .u64 ((AM o).i), .int .u64 ((AM o).t), .int .i64 ((AM o).c), .slice A5 (AM o).d.length c5], Jx (.slice A5 (AM o).d.length c5) (AM o).d, Ao p d2, AB q d2, Ap 54 2 encRF fw ([(⟨snewN, A0, c0, b⟩ : RFl)]), Ap 54 2 encRF fv ([(⟨snapN, A2, c2, x2⟩ : RFl)] ++ [(⟨snewN, A0, c0, b⟩ : RFl)])]) rfl (Bg (Ag Tryz.func13 (by kernel_rfl) rfl) (fun w hH => Jz w (hH.rd8 5 rfl IX) (hH.rd8 3 rfl IX) true (Gb _)) rfl rfl rfl) ?_)))); rintro ⟨⟩
 refine Af Ah rfl (Ac rfl (.bool true) (fun b w hb hH => Im (NO _) rfl rfl rfl hb) (Af Ah rfl (Ac rfl (.bool true) (fun b w hb hH => Bc rfl rfl rfl (JV rfl) hb) (Af Ah rfl (Aj rfl (Am (os' := fun _ => [V2, X, cell g17 34 #[.int .u64 ((AM o).i), .int .u64 ((AM o).t), .int .i64 ((AM o).c), .slice A6 (AM o).d.length c6], Jx (.slice A6 (AM o).d.length c6) (AM o).d, cell g14 34 #[.int .u64 ((AM o).i), .int .u64 ((AM o).t), .int .i64 ((AM o).c), .slice A5 (AM o).d.length c5], Jx (.slice A5 (AM o).d.length c5) (AM o).d, Ao p d2, AB q d2, Ap 54 2 encRF fw ([(⟨snewN, A0, c0, b⟩ : RFl)]), Ap 54 2 encRF fv ([(⟨snapN, A2, c2, x2⟩ : RFl)] ++ [(⟨snewN, A0, c0, b⟩ : RFl)])]) [6, 7] 0 (Ag Tryz.func19 (by kernel_rfl) rfl) (L6 hfE) rfl rfl rfl (fun _ => rfl) rfl rfl rfl) ?_))))); rintro ⟨⟩
 refine Af Ah rfl (Ab (Av ?_))
 exact As (.tmp rfl) (fun w h => AG () rfl [1] rfl h CV) rfl
end Go.Proofs.YtjcfimmcogkopaaGreat.Sep
