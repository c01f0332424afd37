/-
  DERIVED. GIVEN WITH THE SEED: THE CARDS: each row of YthndngbnioacpaaGreatDoorRows.lean that lists a variable, with what it lists TIED to the program's text (the seventh form; the later family's looks); each row that meets fmt, with fmt's text TOLD by the authors' own Lean function (tested against real Go, not proved from fmt's source: count such statements apart). THE CARD IS WHAT COUNTS. Prove the row's statement (the work); the ties are given (YthndngbnioacpaaGreatDoorTie.lean); close each card by the builder's one call (the guide's Derived/Test/ToyasCard.lean, 'card_holds'). Laid BY PROGRAM, IN A SANDBOX (cutbox-door.mjs). By AI agents, Wed Nov 11 2026. No macro, syntax, notation, axiom, sorry.
-/
import Derived.Test.YthndngbnioacpaaGreatDoorRows
import GoSem.ClaimSeven
namespace Go.Proofs.YthndngbnioacpaaGreatDoor
namespace Rows

/-- THE TIED CARD OF 'kinlaw.Schemas'. -/
def schemasCard : Claim7 := { stood := { row := schemasRow, standIns := [], harness := (true, "faf728433da68c09458b221b7f2484143d01f0822bb8810772c4c6ad41e113c9"), looks := true }, kinds := [], alts := [], laidByText := true, laidKinds := [.data, .data, .data, .data, .handle, .sentinel, .sentinel, .sentinel, .sentinel, .sentinel, .sentinel, .sentinel, .sentinel, .sentinel, .sentinel, .sentinel, .sentinel, .pinned, .pinned, .pinned, .pinned, .pinned, .pinned], laidTests := true, laidLooks := .later }
def SchemasCardSaid : Prop := Claim7.holds Tryz.pinned (.plain (OpenSpec.ofChange schemasSpec)) schemasCard

/-- THE SECOND FORM's CARD OF 'kinlaw.Schemas'. -/
def schemasUptoCard : Claim7 := { stood := { row := schemasUptoRow, standIns := [], harness := (true, "faf728433da68c09458b221b7f2484143d01f0822bb8810772c4c6ad41e113c9"), looks := true }, kinds := [], alts := [], laidByText := true, laidKinds := [.data, .data, .data, .data, .handle, .sentinel, .sentinel, .sentinel, .sentinel, .sentinel, .sentinel, .sentinel, .sentinel, .sentinel, .sentinel, .sentinel, .sentinel, .pinned, .pinned, .pinned, .pinned, .pinned, .pinned], laidTests := true, laidLooks := .later }
def SchemasUptoCardSaid : Prop := Claim7.holds Tryz.pinned (.plain (OpenSpec.upto schemasSpec)) schemasUptoCard
end Rows
end Go.Proofs.YthndngbnioacpaaGreatDoor
