/-
  DERIVED. GIVEN WITH THE SEED: THE CARDS: each row of YtkekjjecpilceaaGreatDoorRows.lean that lists a variable, with what it lists TIED to the program's text (the seventh form; the later family's looks); each row that meets fmt, with fmt's text TOLD by the authors' own Lean function (tested against real Go, not proved from fmt's source: count such statements apart). THE CARD IS WHAT COUNTS. Prove the row's statement (the work); the ties are given (YtkekjjecpilceaaGreatDoorTie.lean); close each card by the builder's one call (the guide's Derived/Test/ToyasCard.lean, 'card_holds'). Laid BY PROGRAM, IN A SANDBOX (cutbox-door.mjs). By AI agents, Wed Nov 11 2026. No macro, syntax, notation, axiom, sorry.
-/
import Derived.Test.YtkekjjecpilceaaGreatDoorRows
import GoSem.ClaimSeven
namespace Go.Proofs.YtkekjjecpilceaaGreatDoor
namespace Rows

/-- THE TIED CARD OF 'bursarlaw9.SegPlays'. -/
def segPlaysCard : Claim7 := { stood := { row := segPlaysRow, standIns := [], harness := (true, "9f5cc2da9898dfabb2dbccef6b456866a39acd35f4c9e5fb694c3a9ea9d5e1e0"), looks := true }, kinds := [], alts := [], laidByText := true, laidKinds := [.data, .data, .data, .sentinel, .sentinel], laidTests := true, laidLooks := .later }
def SegPlaysCardSaid : Prop := Claim7.holds Tryz.pinned (.plain (OpenSpec.ofChange segPlaysSpec)) segPlaysCard

/-- THE TIED CARD OF 'bursarlaw9.SegAny'. -/
def segAnyCard : Claim7 := { stood := { row := segAnyRow, standIns := [], harness := (true, "9f5cc2da9898dfabb2dbccef6b456866a39acd35f4c9e5fb694c3a9ea9d5e1e0"), looks := true }, kinds := [], alts := [], laidByText := true, laidKinds := [.data, .data, .data, .sentinel, .sentinel], laidTests := true, laidLooks := .later }
def SegAnyCardSaid : Prop := Claim7.holds Tryz.pinned (.plain (OpenSpec.ofChange segAnySpec)) segAnyCard

/-- THE TIED CARD OF 'bursarlaw12.StoreKnown'. -/
def storeKnownCard : Claim7 := { stood := { row := storeKnownRow, standIns := [], harness := (true, "9f5cc2da9898dfabb2dbccef6b456866a39acd35f4c9e5fb694c3a9ea9d5e1e0"), looks := true }, kinds := [], alts := [], laidByText := true, laidKinds := [.data, .data, .data, .sentinel, .sentinel], laidTests := true, laidLooks := .later }
def StoreKnownCardSaid : Prop := Claim7.holds Tryz.pinned (.plain (OpenSpec.ofChange storeKnownSpec)) storeKnownCard

/-- THE TIED CARD OF 'bursarlaw12.StorePlays'. -/
def storePlaysCard : Claim7 := { stood := { row := storePlaysRow, standIns := [], harness := (true, "9f5cc2da9898dfabb2dbccef6b456866a39acd35f4c9e5fb694c3a9ea9d5e1e0"), looks := true }, kinds := [], alts := [], laidByText := true, laidKinds := [.data, .data, .data, .sentinel, .sentinel], laidTests := true, laidLooks := .later }
def StorePlaysCardSaid : Prop := Claim7.holds Tryz.pinned (.plain (OpenSpec.ofChange storePlaysSpec)) storePlaysCard

/-- THE TIED CARD OF 'bursarlaw12.StoreAny'. -/
def storeAnyCard : Claim7 := { stood := { row := storeAnyRow, standIns := [], harness := (true, "9f5cc2da9898dfabb2dbccef6b456866a39acd35f4c9e5fb694c3a9ea9d5e1e0"), looks := true }, kinds := [], alts := [], laidByText := true, laidKinds := [.data, .data, .data, .sentinel, .sentinel], laidTests := true, laidLooks := .later }
def StoreAnyCardSaid : Prop := Claim7.holds Tryz.pinned (.plain (OpenSpec.ofChange storeAnySpec)) storeAnyCard

/-- THE SECOND FORM's CARD OF 'bursarlaw9.SegPlays'. -/
def segPlaysUptoCard : Claim7 := { stood := { row := segPlaysUptoRow, standIns := [], harness := (true, "9f5cc2da9898dfabb2dbccef6b456866a39acd35f4c9e5fb694c3a9ea9d5e1e0"), looks := true }, kinds := [], alts := [], laidByText := true, laidKinds := [.data, .data, .data, .sentinel, .sentinel], laidTests := true, laidLooks := .later }
def SegPlaysUptoCardSaid : Prop := Claim7.holds Tryz.pinned (.plain (OpenSpec.upto segPlaysSpec)) segPlaysUptoCard

/-- THE SECOND FORM's CARD OF 'bursarlaw9.SegAny'. -/
def segAnyUptoCard : Claim7 := { stood := { row := segAnyUptoRow, standIns := [], harness := (true, "9f5cc2da9898dfabb2dbccef6b456866a39acd35f4c9e5fb694c3a9ea9d5e1e0"), looks := true }, kinds := [], alts := [], laidByText := true, laidKinds := [.data, .data, .data, .sentinel, .sentinel], laidTests := true, laidLooks := .later }
def SegAnyUptoCardSaid : Prop := Claim7.holds Tryz.pinned (.plain (OpenSpec.upto segAnySpec)) segAnyUptoCard

/-- THE SECOND FORM's CARD OF 'bursarlaw12.StoreKnown'. -/
def storeKnownUptoCard : Claim7 := { stood := { row := storeKnownUptoRow, standIns := [], harness := (true, "9f5cc2da9898dfabb2dbccef6b456866a39acd35f4c9e5fb694c3a9ea9d5e1e0"), looks := true }, kinds := [], alts := [], laidByText := true, laidKinds := [.data, .data, .data, .sentinel, .sentinel], laidTests := true, laidLooks := .later }
def StoreKnownUptoCardSaid : Prop := Claim7.holds Tryz.pinned (.plain (OpenSpec.upto storeKnownSpec)) storeKnownUptoCard

/-- THE SECOND FORM's CARD OF 'bursarlaw12.StorePlays'. -/
def storePlaysUptoCard : Claim7 := { stood := { row := storePlaysUptoRow, standIns := [], harness := (true, "9f5cc2da9898dfabb2dbccef6b456866a39acd35f4c9e5fb694c3a9ea9d5e1e0"), looks := true }, kinds := [], alts := [], laidByText := true, laidKinds := [.data, .data, .data, .sentinel, .sentinel], laidTests := true, laidLooks := .later }
def StorePlaysUptoCardSaid : Prop := Claim7.holds Tryz.pinned (.plain (OpenSpec.upto storePlaysSpec)) storePlaysUptoCard

/-- THE SECOND FORM's CARD OF 'bursarlaw12.StoreAny'. -/
def storeAnyUptoCard : Claim7 := { stood := { row := storeAnyUptoRow, standIns := [], harness := (true, "9f5cc2da9898dfabb2dbccef6b456866a39acd35f4c9e5fb694c3a9ea9d5e1e0"), looks := true }, kinds := [], alts := [], laidByText := true, laidKinds := [.data, .data, .data, .sentinel, .sentinel], laidTests := true, laidLooks := .later }
def StoreAnyUptoCardSaid : Prop := Claim7.holds Tryz.pinned (.plain (OpenSpec.upto storeAnySpec)) storeAnyUptoCard
end Rows
end Go.Proofs.YtkekjjecpilceaaGreatDoor
