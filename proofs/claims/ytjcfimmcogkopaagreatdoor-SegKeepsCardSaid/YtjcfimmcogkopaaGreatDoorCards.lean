/-
  DERIVED. GIVEN WITH THE SEED: THE CARDS: each row of YtjcfimmcogkopaaGreatDoorRows.lean that lists a variable, with what it lists TIED to the program's text (the seventh form; the later family's looks); each row that meets fmt, with fmt's text TOLD by the authors' own Lean function (tested against real Go, not proved from fmt's source: count such statements apart). THE CARD IS WHAT COUNTS. Prove the row's statement (the work); the ties are given (YtjcfimmcogkopaaGreatDoorTie.lean); close each card by the builder's one call (the guide's Derived/Test/ToyasCard.lean, 'card_holds'). Laid BY PROGRAM, IN A SANDBOX (cutbox-door.mjs). By AI agents, Wed Nov 11 2026. No macro, syntax, notation, axiom, sorry.
-/
import Derived.Test.YtjcfimmcogkopaaGreatDoorRows
import GoSem.ClaimSeven
namespace Go.Proofs.YtjcfimmcogkopaaGreatDoor
namespace Rows

/-- THE TIED CARD OF 'bursarlaw9.SegPlays'. -/
def segPlaysCard : Claim7 := { stood := { row := segPlaysRow, standIns := [], harness := (true, "a8cb8887485b006ac09635e2700782b7fa019ab4fedca9f11a07435557a7aefb"), looks := true }, kinds := [], alts := [], laidByText := true, laidKinds := [.data, .data, .data, .sentinel, .sentinel], laidTests := true, laidLooks := .later }
def SegPlaysCardSaid : Prop := Claim7.holds Tryz.pinned (.plain (OpenSpec.ofChange segPlaysSpec)) segPlaysCard

/-- THE TIED CARD OF 'bursarlaw9.SegAny'. -/
def segAnyCard : Claim7 := { stood := { row := segAnyRow, standIns := [], harness := (true, "a8cb8887485b006ac09635e2700782b7fa019ab4fedca9f11a07435557a7aefb"), looks := true }, kinds := [], alts := [], laidByText := true, laidKinds := [.data, .data, .data, .sentinel, .sentinel], laidTests := true, laidLooks := .later }
def SegAnyCardSaid : Prop := Claim7.holds Tryz.pinned (.plain (OpenSpec.ofChange segAnySpec)) segAnyCard

/-- THE TIED CARD OF 'bursarlaw9.SegKeeps'. -/
def segKeepsCard : Claim7 := { stood := { row := segKeepsRow, standIns := [], harness := (true, "a8cb8887485b006ac09635e2700782b7fa019ab4fedca9f11a07435557a7aefb"), looks := true }, kinds := [], alts := [], laidByText := true, laidKinds := [.data, .data, .data, .sentinel, .sentinel], laidTests := true, laidLooks := .later }
def SegKeepsCardSaid : Prop := Claim7.holds Tryz.pinned (.plain (OpenSpec.ofChange segKeepsSpec)) segKeepsCard

/-- THE SECOND FORM's CARD OF 'bursarlaw9.SegPlays'. -/
def segPlaysUptoCard : Claim7 := { stood := { row := segPlaysUptoRow, standIns := [], harness := (true, "a8cb8887485b006ac09635e2700782b7fa019ab4fedca9f11a07435557a7aefb"), looks := true }, kinds := [], alts := [], laidByText := true, laidKinds := [.data, .data, .data, .sentinel, .sentinel], laidTests := true, laidLooks := .later }
def SegPlaysUptoCardSaid : Prop := Claim7.holds Tryz.pinned (.plain (OpenSpec.upto segPlaysSpec)) segPlaysUptoCard

/-- THE SECOND FORM's CARD OF 'bursarlaw9.SegAny'. -/
def segAnyUptoCard : Claim7 := { stood := { row := segAnyUptoRow, standIns := [], harness := (true, "a8cb8887485b006ac09635e2700782b7fa019ab4fedca9f11a07435557a7aefb"), looks := true }, kinds := [], alts := [], laidByText := true, laidKinds := [.data, .data, .data, .sentinel, .sentinel], laidTests := true, laidLooks := .later }
def SegAnyUptoCardSaid : Prop := Claim7.holds Tryz.pinned (.plain (OpenSpec.upto segAnySpec)) segAnyUptoCard

/-- THE SECOND FORM's CARD OF 'bursarlaw9.SegKeeps'. -/
def segKeepsUptoCard : Claim7 := { stood := { row := segKeepsUptoRow, standIns := [], harness := (true, "a8cb8887485b006ac09635e2700782b7fa019ab4fedca9f11a07435557a7aefb"), looks := true }, kinds := [], alts := [], laidByText := true, laidKinds := [.data, .data, .data, .sentinel, .sentinel], laidTests := true, laidLooks := .later }
def SegKeepsUptoCardSaid : Prop := Claim7.holds Tryz.pinned (.plain (OpenSpec.upto segKeepsSpec)) segKeepsUptoCard
end Rows
end Go.Proofs.YtjcfimmcogkopaaGreatDoor
