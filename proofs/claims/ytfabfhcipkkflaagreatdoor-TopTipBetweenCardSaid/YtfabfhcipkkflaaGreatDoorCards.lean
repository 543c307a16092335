/-
  DERIVED. GIVEN WITH THE SEED: THE CARDS: each row of YtfabfhcipkkflaaGreatDoorRows.lean that lists a variable, with what it lists TIED to the program's text (the seventh form; the later family's looks); each row that meets fmt, with fmt's text TOLD by the authors' own Lean function (tested against real Go, not proved from fmt's source: count such statements apart). THE CARD IS WHAT COUNTS. Prove the row's statement (the work); the ties are given (YtfabfhcipkkflaaGreatDoorTie.lean); close each card by the builder's one call (the guide's Derived/Test/ToyasCard.lean, 'card_holds'). Laid BY PROGRAM, IN A SANDBOX (cutbox-door.mjs). By AI agents, Wed Nov 11 2026. No macro, syntax, notation, axiom, sorry.
-/
import Derived.Test.YtfabfhcipkkflaaGreatDoorRows
import GoSem.ClaimSeven
namespace Go.Proofs.YtfabfhcipkkflaaGreatDoor
namespace Rows

/-- THE TIED CARD OF 'baulktop.TopTipSigns'. -/
def topTipSignsCard : Claim7 := { stood := { row := topTipSignsRow, standIns := [], harness := (true, "882bda2478051c6ba80f6f3fa48d029454ceb59ac87f2ee2a29dc07560220176"), looks := true }, kinds := [], alts := [], laidByText := true, laidKinds := [.data, .data, .data, .data, .sentinel, .sentinel, .pinned], laidTests := true, laidLooks := .later }
def TopTipSignsCardSaid : Prop := Claim7.holds Tryz.pinned (.plain (OpenSpec.ofChange topTipSignsSpec)) topTipSignsCard

/-- THE TIED CARD OF 'baulktop.TopTipRoots'. -/
def topTipRootsCard : Claim7 := { stood := { row := topTipRootsRow, standIns := [], harness := (true, "882bda2478051c6ba80f6f3fa48d029454ceb59ac87f2ee2a29dc07560220176"), looks := true }, kinds := [], alts := [], laidByText := true, laidKinds := [.data, .data, .data, .data, .sentinel, .sentinel, .pinned], laidTests := true, laidLooks := .later }
def TopTipRootsCardSaid : Prop := Claim7.holds Tryz.pinned (.plain (OpenSpec.ofChange topTipRootsSpec)) topTipRootsCard

/-- THE TIED CARD OF 'baulktop.TopTipBetween'. -/
def topTipBetweenCard : Claim7 := { stood := { row := topTipBetweenRow, standIns := [], harness := (true, "882bda2478051c6ba80f6f3fa48d029454ceb59ac87f2ee2a29dc07560220176"), looks := true }, kinds := [], alts := [], laidByText := true, laidKinds := [.data, .data, .data, .data, .sentinel, .sentinel, .pinned], laidTests := true, laidLooks := .later }
def TopTipBetweenCardSaid : Prop := Claim7.holds Tryz.pinned (.plain (OpenSpec.ofChange topTipBetweenSpec)) topTipBetweenCard

/-- THE SECOND FORM's CARD OF 'baulktop.TopTipSigns'. -/
def topTipSignsUptoCard : Claim7 := { stood := { row := topTipSignsUptoRow, standIns := [], harness := (true, "882bda2478051c6ba80f6f3fa48d029454ceb59ac87f2ee2a29dc07560220176"), looks := true }, kinds := [], alts := [], laidByText := true, laidKinds := [.data, .data, .data, .data, .sentinel, .sentinel, .pinned], laidTests := true, laidLooks := .later }
def TopTipSignsUptoCardSaid : Prop := Claim7.holds Tryz.pinned (.plain (OpenSpec.upto topTipSignsSpec)) topTipSignsUptoCard

/-- THE SECOND FORM's CARD OF 'baulktop.TopTipRoots'. -/
def topTipRootsUptoCard : Claim7 := { stood := { row := topTipRootsUptoRow, standIns := [], harness := (true, "882bda2478051c6ba80f6f3fa48d029454ceb59ac87f2ee2a29dc07560220176"), looks := true }, kinds := [], alts := [], laidByText := true, laidKinds := [.data, .data, .data, .data, .sentinel, .sentinel, .pinned], laidTests := true, laidLooks := .later }
def TopTipRootsUptoCardSaid : Prop := Claim7.holds Tryz.pinned (.plain (OpenSpec.upto topTipRootsSpec)) topTipRootsUptoCard

/-- THE SECOND FORM's CARD OF 'baulktop.TopTipBetween'. -/
def topTipBetweenUptoCard : Claim7 := { stood := { row := topTipBetweenUptoRow, standIns := [], harness := (true, "882bda2478051c6ba80f6f3fa48d029454ceb59ac87f2ee2a29dc07560220176"), looks := true }, kinds := [], alts := [], laidByText := true, laidKinds := [.data, .data, .data, .data, .sentinel, .sentinel, .pinned], laidTests := true, laidLooks := .later }
def TopTipBetweenUptoCardSaid : Prop := Claim7.holds Tryz.pinned (.plain (OpenSpec.upto topTipBetweenSpec)) topTipBetweenUptoCard
end Rows
end Go.Proofs.YtfabfhcipkkflaaGreatDoor
