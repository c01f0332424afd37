/-
  DERIVED. GIVEN WITH THE SEED: THE CARDS: each row of YtlmebjdmdogmfaaGreatDoorRows.lean that lists a variable, with what it lists TIED to the program's text (the seventh form; the later family's looks); each row that meets fmt, with fmt's text TOLD by the authors' own Lean function (tested against real Go, not proved from fmt's source: count such statements apart). THE CARD IS WHAT COUNTS. Prove the row's statement (the work); the ties are given (YtlmebjdmdogmfaaGreatDoorTie.lean); close each card by the builder's one call (the guide's Derived/Test/ToyasCard.lean, 'card_holds'). Laid BY PROGRAM, IN A SANDBOX (cutbox-door.mjs). By AI agents, Wed Nov 11 2026. No macro, syntax, notation, axiom, sorry.
-/
import Derived.Test.YtlmebjdmdogmfaaGreatDoorRows
import GoSem.ClaimSeven
namespace Go.Proofs.YtlmebjdmdogmfaaGreatDoor
namespace Rows

/-- THE TIED CARD OF 'kinlaw.Accepted'. -/
def acceptedCard : Claim7 := { stood := { row := acceptedRow, standIns := [], harness := (true, "8c45f000434d070b925fd8cfe5d18bcb9548bb501f94da5e7239ccf2c7a90fec"), looks := true }, kinds := [], alts := [], laidByText := true, laidKinds := [.data, .data, .data, .data, .sentinel, .sentinel, .sentinel, .sentinel, .sentinel, .sentinel, .sentinel, .sentinel, .sentinel, .sentinel, .sentinel, .sentinel, .pinned, .pinned, .pinned, .pinned, .pinned, .pinned], laidTests := true, laidLooks := .later }
def AcceptedCardSaid : Prop := Claim7.holds Tryz.pinned (.plain (OpenSpec.ofChange acceptedSpec)) acceptedCard

/-- THE SECOND FORM's CARD OF 'kinlaw.Accepted'. -/
def acceptedUptoCard : Claim7 := { stood := { row := acceptedUptoRow, standIns := [], harness := (true, "8c45f000434d070b925fd8cfe5d18bcb9548bb501f94da5e7239ccf2c7a90fec"), looks := true }, kinds := [], alts := [], laidByText := true, laidKinds := [.data, .data, .data, .data, .sentinel, .sentinel, .sentinel, .sentinel, .sentinel, .sentinel, .sentinel, .sentinel, .sentinel, .sentinel, .sentinel, .sentinel, .pinned, .pinned, .pinned, .pinned, .pinned, .pinned], laidTests := true, laidLooks := .later }
def AcceptedUptoCardSaid : Prop := Claim7.holds Tryz.pinned (.plain (OpenSpec.upto acceptedSpec)) acceptedUptoCard
end Rows
end Go.Proofs.YtlmebjdmdogmfaaGreatDoor
