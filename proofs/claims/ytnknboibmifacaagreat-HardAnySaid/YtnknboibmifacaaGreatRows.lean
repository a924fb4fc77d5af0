/-
  No cell of these rows narrows 'for every input' (looked for: loops, veiled, ifaces, maps, wideKeys, modest, calm, conditions, laid).
  DERIVED. THE GIVEN ROWS OF THIS SEAT. 2 by the template 'for every input the law returns true; each argument reads behind the call as it read before'; 0 by the template 'total and deterministic' (their statements: YtnknboibmifacaaGreatTotals.lean).
  GIVEN WITH THE SEED: the statements are not yours to turn. If you find one false, say at which input.
  Laid BY PROGRAM, IN A SANDBOX (cutbox-rows.mjs): the forced cells as the released guide's own fill.sh prints them over the translation d0d760b4c8451514… (all of the seat's roots in one cut). By AI agents, Wed Nov 11 2026. No macro, syntax, notation, axiom, sorry.
-/
import Derived.Test.YtnknboibmifacaaGreatChecked
import GoSem.Claim
import GoSem.ClaimJoined
import GoSem.ClaimMapViews
import Derived.JoinedTies
import Derived.KernelRfl
namespace Go.Proofs.YtnknboibmifacaaGreat
/- THE CELL 'sum', in the pinned program and in every row, IS THE sha256 OF THE DUMP (.gsa) THAT YtnknboibmifacaaGreatProg.lean LOADS. Nothing in Lean hashes anything: it is a label: what it is worth is what the hold of that sum in a sandbox is worth. -/
noncomputable def Tryz.pinned : Pinned := { name := "ytnknboibmifacaagreat", sum := "d0d760b4c845151427dbd2cb863a58433c12a37fbccdb527c8151af4a1a20d28", checked := Tryz.checked }
namespace Rows
def none {H : Type} : Left H := { results := [], args := [] }

/-- 'bursarlaw10.HardPlays': WHATEVER THE INPUT: true; the input reads as it did. -/
def hardPlaysSpec : ChangeSpec := { name := "hardPlays", fn := fun _ => fun
  | [d] => { results := [.lit (.bool true)], args := [d] }
  | _ => none }
def hardPlaysRow : OpenClaim := { program := "ytnknboibmifacaagreat", sum := "d0d760b4c845151427dbd2cb863a58433c12a37fbccdb527c8151af4a1a20d28", func := "bursar/bursarlaw10.HardPlays", spec := "hardPlays", unfollowed := true, recurses := true, apart := false }
def HardPlaysSaid : Prop := hardPlaysRow.holds Tryz.pinned (OpenSpec.ofChange hardPlaysSpec)

/-- ITS FALSE NEIGHBOUR: 'it returns false'. Refute it at one input. -/
def hardPlaysWrong : ChangeSpec := { name := "hardPlays", fn := fun _ => fun
  | [d] => { results := [.lit (.bool false)], args := [d] }
  | _ => none }
def HardPlaysWrongFalsely : Prop := hardPlaysRow.holds Tryz.pinned (OpenSpec.ofChange hardPlaysWrong)

/-- 'bursarlaw10.HardAny': WHATEVER THE INPUT: true; the input reads as it did. -/
def hardAnySpec : ChangeSpec := { name := "hardAny", fn := fun _ => fun
  | [d1, d2, d3, d4] => { results := [.lit (.bool true)], args := [d1, d2, d3, d4] }
  | _ => none }
def hardAnyRow : OpenClaim := { program := "ytnknboibmifacaagreat", sum := "d0d760b4c845151427dbd2cb863a58433c12a37fbccdb527c8151af4a1a20d28", func := "bursar/bursarlaw10.HardAny", spec := "hardAny", unfollowed := true, recurses := true, apart := false }
def HardAnySaid : Prop := hardAnyRow.holds Tryz.pinned (OpenSpec.ofChange hardAnySpec)

/-- ITS FALSE NEIGHBOUR: 'it returns false'. Refute it at one input. -/
def hardAnyWrong : ChangeSpec := { name := "hardAny", fn := fun _ => fun
  | [d1, d2, d3, d4] => { results := [.lit (.bool false)], args := [d1, d2, d3, d4] }
  | _ => none }
def HardAnyWrongFalsely : Prop := hardAnyRow.holds Tryz.pinned (OpenSpec.ofChange hardAnyWrong)

/- THE SECOND FORM. 'bulk': how many values and letters a reading holds, each counted each time it is reached (what is shared counts as often as it is met; a slice's spare places count too). A statement '..UptoSaid' is the law's where the arguments, and the package variables that the reading takes, are together of bulk at most 1048576: NARROWER than '..Said'. Prove '..Said' where nothing that the law and all that it calls make is longer than what came in: it says more and counts as full. Else prove '..UptoSaid'. A law counts once. -/
mutual
def uptoBulk {H : Type} : DataW H → Nat
  | .lit (.string bytes) => bytes.length + 1
  | .lit _ => 1
  | .nil => 1
  | .ptr d => uptoBulk d + 1
  | .slice elems spare => uptoBulkAll elems + uptoBulkAll spare + 1
  | .agg parts => uptoBulkAll parts + 1
  | .iface _ d => uptoBulk d + 1
  | .map entries => uptoBulkEntries entries + 1
  | .held _ => 1
def uptoBulkAll {H : Type} : List (DataW H) → Nat
  | [] => 0
  | d :: r => uptoBulk d + uptoBulkAll r
def uptoBulkEntries {H : Type} : List (Lit × DataW H) → Nat
  | [] => 0
  | x :: r => uptoBulkEntry x + uptoBulkEntries r
def uptoBulkEntry {H : Type} : Lit × DataW H → Nat
  | (.string bytes, d) => bytes.length + uptoBulk d + 1
  | (_, d) => uptoBulk d + 1
 end
def uptoSmall : (H : Type) → List (DataW H) → Bool := fun _ ds => decide (uptoBulkAll ds ≤ 1048576)
def OpenSpec.upto (s : _root_.Go.ChangeSpec) : _root_.Go.OpenSpec := { _root_.Go.OpenSpec.ofChange s with cond := some uptoSmall }

/-- 'bursarlaw10.HardPlays', WHERE WHAT IT READS IS OF BULK AT MOST 1048576: true; the input reads as it did. -/
def hardPlaysUptoRow : OpenClaim := { program := "ytnknboibmifacaagreat", sum := "d0d760b4c845151427dbd2cb863a58433c12a37fbccdb527c8151af4a1a20d28", func := "bursar/bursarlaw10.HardPlays", spec := "hardPlays", unfollowed := true, recurses := true, apart := false, narrowed := true }
def HardPlaysUptoSaid : Prop := hardPlaysUptoRow.holds Tryz.pinned (OpenSpec.upto hardPlaysSpec)

/-- 'bursarlaw10.HardAny', WHERE WHAT IT READS IS OF BULK AT MOST 1048576: true; the input reads as it did. -/
def hardAnyUptoRow : OpenClaim := { program := "ytnknboibmifacaagreat", sum := "d0d760b4c845151427dbd2cb863a58433c12a37fbccdb527c8151af4a1a20d28", func := "bursar/bursarlaw10.HardAny", spec := "hardAny", unfollowed := true, recurses := true, apart := false, narrowed := true }
def HardAnyUptoSaid : Prop := hardAnyUptoRow.holds Tryz.pinned (OpenSpec.upto hardAnySpec)

end Rows
end Go.Proofs.YtnknboibmifacaaGreat
