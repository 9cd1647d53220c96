/-
  DERIVED. GIVEN WITH THE SEED: THE CARDS: each row of YtiacbhjphaldlaaGreatDoorRows.lean that lists a variable, with what it lists TIED to the program's text (the seventh form; the later family's looks); each row that meets fmt, with fmt's text TOLD by the authors' own Lean function (tested against real Go, not proved from fmt's source: count such statements apart). THE CARD IS WHAT COUNTS. Prove the row's statement (the work); the ties are given (YtiacbhjphaldlaaGreatDoorTie.lean); close each card by the builder's one call (the guide's Derived/Test/ToyasCard.lean, 'card_holds'). Laid BY PROGRAM, IN A SANDBOX (cutbox-door.mjs). By AI agents, Wed Nov 11 2026. No macro, syntax, notation, axiom, sorry.
-/
import Derived.Test.YtiacbhjphaldlaaGreatDoorRows
import GoSem.ClaimSeven
namespace Go.Proofs.YtiacbhjphaldlaaGreatDoor
namespace Rows

/-- THE TIED CARD OF 'laws.FnExactParseSource'. -/
def fnExactParseSourceCard : Claim7 := { stood := { row := fnExactParseSourceRow, standIns := [], harness := (true, "a1a5d387cccdec13ed3cb596647f4ad73f32b061c055aff46a307744817f1740"), looks := true }, kinds := [], alts := [], laidByText := true, laidKinds := [.handle], laidTests := true, laidLooks := .later }
def FnExactParseSourceCardSaid : Prop := Claim7.holds Tryz.pinned (.plain (OpenSpec.ofChange fnExactParseSourceSpec)) fnExactParseSourceCard

/-- THE SECOND FORM's CARD OF 'laws.FnExactParseSource'. -/
def fnExactParseSourceUptoCard : Claim7 := { stood := { row := fnExactParseSourceUptoRow, standIns := [], harness := (true, "a1a5d387cccdec13ed3cb596647f4ad73f32b061c055aff46a307744817f1740"), looks := true }, kinds := [], alts := [], laidByText := true, laidKinds := [.handle], laidTests := true, laidLooks := .later }
def FnExactParseSourceUptoCardSaid : Prop := Claim7.holds Tryz.pinned (.plain (OpenSpec.upto fnExactParseSourceSpec)) fnExactParseSourceUptoCard
end Rows
end Go.Proofs.YtiacbhjphaldlaaGreatDoor
