/-
  DERIVED. GIVEN WITH THE SEED: THE CARDS: each row of YteaanpdckkmjoaaGreatDoorRows.lean that lists a variable, with what it lists TIED to the program's text (the seventh form; the later family's looks); each row that meets fmt, with fmt's text TOLD by the authors' own Lean function (tested against real Go, not proved from fmt's source: count such statements apart). THE CARD IS WHAT COUNTS. Prove the row's statement (the work); the ties are given (YteaanpdckkmjoaaGreatDoorTie.lean); close each card by the builder's one call (the guide's Derived/Test/ToyasCard.lean, 'card_holds'). Laid BY PROGRAM, IN A SANDBOX (cutbox-door.mjs). By AI agents, Wed Nov 11 2026. No macro, syntax, notation, axiom, sorry.
-/
import Derived.Test.YteaanpdckkmjoaaGreatDoorRows
import GoSem.ClaimSeven
namespace Go.Proofs.YteaanpdckkmjoaaGreatDoor
namespace Rows

/-- THE TIED CARD OF 'penstocklaw.QuerySays'. -/
def querySaysCard : Claim7 := { stood := { row := querySaysRow, standIns := [], harness := (true, "187e4cfb0d0d95ec449d3dbdb32c53c309a514d54b12fc22e2588f26cc38180f"), looks := true }, kinds := [], alts := [], laidByText := true, laidKinds := [.data, .data, .data, .sentinel, .sentinel, .data], laidTests := true, laidLooks := .later }
def QuerySaysCardSaid : Prop := Claim7.holds Tryz.pinned (.plain (OpenSpec.ofChange querySaysSpec)) querySaysCard

/-- THE TIED CARD OF 'penstocktop.TopText'. -/
def topTextCard : Claim7 := { stood := { row := topTextRow, standIns := [], harness := (true, "187e4cfb0d0d95ec449d3dbdb32c53c309a514d54b12fc22e2588f26cc38180f"), looks := true }, kinds := [], alts := [], laidByText := true, laidKinds := [.data, .data, .data, .sentinel, .sentinel, .data], laidTests := true, laidLooks := .later }
def TopTextCardSaid : Prop := Claim7.holds Tryz.pinned (.plain (OpenSpec.ofChange topTextSpec)) topTextCard

/-- THE SECOND FORM's CARD OF 'penstocklaw.QuerySays'. -/
def querySaysUptoCard : Claim7 := { stood := { row := querySaysUptoRow, standIns := [], harness := (true, "187e4cfb0d0d95ec449d3dbdb32c53c309a514d54b12fc22e2588f26cc38180f"), looks := true }, kinds := [], alts := [], laidByText := true, laidKinds := [.data, .data, .data, .sentinel, .sentinel, .data], laidTests := true, laidLooks := .later }
def QuerySaysUptoCardSaid : Prop := Claim7.holds Tryz.pinned (.plain (OpenSpec.upto querySaysSpec)) querySaysUptoCard

/-- THE SECOND FORM's CARD OF 'penstocktop.TopText'. -/
def topTextUptoCard : Claim7 := { stood := { row := topTextUptoRow, standIns := [], harness := (true, "187e4cfb0d0d95ec449d3dbdb32c53c309a514d54b12fc22e2588f26cc38180f"), looks := true }, kinds := [], alts := [], laidByText := true, laidKinds := [.data, .data, .data, .sentinel, .sentinel, .data], laidTests := true, laidLooks := .later }
def TopTextUptoCardSaid : Prop := Claim7.holds Tryz.pinned (.plain (OpenSpec.upto topTextSpec)) topTextUptoCard
end Rows
end Go.Proofs.YteaanpdckkmjoaaGreatDoor
