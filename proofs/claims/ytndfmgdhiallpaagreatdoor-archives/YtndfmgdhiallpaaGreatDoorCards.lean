/-
  DERIVED. GIVEN WITH THE SEED: THE CARDS: each row of YtndfmgdhiallpaaGreatDoorRows.lean that lists a variable, with what it lists TIED to the program's text (the seventh form; the later family's looks); each row that meets fmt, with fmt's text TOLD by the authors' own Lean function (tested against real Go, not proved from fmt's source: count such statements apart). THE CARD IS WHAT COUNTS. Prove the row's statement (the work); the ties are given (YtndfmgdhiallpaaGreatDoorTie.lean); close each card by the builder's one call (the guide's Derived/Test/ToyasCard.lean, 'card_holds'). Laid BY PROGRAM, IN A SANDBOX (cutbox-door.mjs). By AI agents, Wed Nov 11 2026. No macro, syntax, notation, axiom, sorry.
-/
import Derived.Test.YtndfmgdhiallpaaGreatDoorRows
import GoSem.ClaimSeven
namespace Go.Proofs.YtndfmgdhiallpaaGreatDoor
namespace Rows

/-- THE TIED CARD OF 'valiselaw.Digests'. -/
def digestsCard : Claim7 := { stood := { row := digestsRow, standIns := [], harness := (true, "666186be44b4b63de04c4e246ae9c78644f4e018ca005764d2bd968ffd8a0cd9"), looks := false }, kinds := [], alts := [], laidByText := true, laidKinds := [.data, .data, .data, .pinned], laidTests := true, laidLooks := .later }
def DigestsCardSaid : Prop := Claim7.holds Tryz.pinned (.plain (OpenSpec.ofChange digestsSpec)) digestsCard

/-- THE TIED CARD OF 'valiselaw.Flates'. -/
def flatesCard : Claim7 := { stood := { row := flatesRow, standIns := [], harness := (true, "666186be44b4b63de04c4e246ae9c78644f4e018ca005764d2bd968ffd8a0cd9"), looks := false }, kinds := [], alts := [], laidByText := true, laidKinds := [.data, .data, .data, .pinned], laidTests := true, laidLooks := .later }
def FlatesCardSaid : Prop := Claim7.holds Tryz.pinned (.plain (OpenSpec.ofChange flatesSpec)) flatesCard

/-- THE TIED CARD OF 'valiselaw.Chooses'. -/
def choosesCard : Claim7 := { stood := { row := choosesRow, standIns := [], harness := (true, "666186be44b4b63de04c4e246ae9c78644f4e018ca005764d2bd968ffd8a0cd9"), looks := false }, kinds := [], alts := [], laidByText := true, laidKinds := [.data, .data, .data, .pinned], laidTests := true, laidLooks := .later }
def ChoosesCardSaid : Prop := Claim7.holds Tryz.pinned (.plain (OpenSpec.ofChange choosesSpec)) choosesCard

/-- THE TIED CARD OF 'valiselaw.Archives'. -/
def archivesCard : Claim7 := { stood := { row := archivesRow, standIns := [], harness := (true, "666186be44b4b63de04c4e246ae9c78644f4e018ca005764d2bd968ffd8a0cd9"), looks := false }, kinds := [], alts := [], laidByText := true, laidKinds := [.data, .data, .data, .pinned], laidTests := true, laidLooks := .later }
def ArchivesCardSaid : Prop := Claim7.holds Tryz.pinned (.plain (OpenSpec.ofChange archivesSpec)) archivesCard

/-- THE TIED CARD OF 'valiselaw.All'. -/
def allCard : Claim7 := { stood := { row := allRow, standIns := [], harness := (true, "666186be44b4b63de04c4e246ae9c78644f4e018ca005764d2bd968ffd8a0cd9"), looks := false }, kinds := [], alts := [], laidByText := true, laidKinds := [.data, .data, .data, .pinned], laidTests := true, laidLooks := .later }
def AllCardSaid : Prop := Claim7.holds Tryz.pinned (.plain (OpenSpec.ofChange allSpec)) allCard

/-- THE TIED CARD OF 'valisekeep.Whole'. -/
def wholeCard : Claim7 := { stood := { row := wholeRow, standIns := [], harness := (true, "666186be44b4b63de04c4e246ae9c78644f4e018ca005764d2bd968ffd8a0cd9"), looks := false }, kinds := [], alts := [], laidByText := true, laidKinds := [.data, .data, .data, .pinned], laidTests := true, laidLooks := .later }
def WholeCardSaid : Prop := Claim7.holds Tryz.pinned (.plain (OpenSpec.ofChange wholeSpec)) wholeCard

/-- THE TIED CARD OF 'valisekeep.Copied'. -/
def copiedCard : Claim7 := { stood := { row := copiedRow, standIns := [], harness := (true, "666186be44b4b63de04c4e246ae9c78644f4e018ca005764d2bd968ffd8a0cd9"), looks := false }, kinds := [], alts := [], laidByText := true, laidKinds := [.data, .data, .data, .pinned], laidTests := true, laidLooks := .later }
def CopiedCardSaid : Prop := Claim7.holds Tryz.pinned (.plain (OpenSpec.ofChange copiedSpec)) copiedCard

/-- THE TIED CARD OF 'valisekeep.Nested'. -/
def nestedCard : Claim7 := { stood := { row := nestedRow, standIns := [], harness := (true, "666186be44b4b63de04c4e246ae9c78644f4e018ca005764d2bd968ffd8a0cd9"), looks := false }, kinds := [], alts := [], laidByText := true, laidKinds := [.data, .data, .data, .pinned], laidTests := true, laidLooks := .later }
def NestedCardSaid : Prop := Claim7.holds Tryz.pinned (.plain (OpenSpec.ofChange nestedSpec)) nestedCard

/-- THE TIED CARD OF 'valisekeep.Back'. -/
def backCard : Claim7 := { stood := { row := backRow, standIns := [], harness := (true, "666186be44b4b63de04c4e246ae9c78644f4e018ca005764d2bd968ffd8a0cd9"), looks := false }, kinds := [], alts := [], laidByText := true, laidKinds := [.data, .data, .data, .pinned], laidTests := true, laidLooks := .later }
def BackCardSaid : Prop := Claim7.holds Tryz.pinned (.plain (OpenSpec.ofChange backSpec)) backCard

/-- THE TIED CARD OF 'valisekeep.Turned'. -/
def turnedCard : Claim7 := { stood := { row := turnedRow, standIns := [], harness := (true, "666186be44b4b63de04c4e246ae9c78644f4e018ca005764d2bd968ffd8a0cd9"), looks := false }, kinds := [], alts := [], laidByText := true, laidKinds := [.data, .data, .data, .pinned], laidTests := true, laidLooks := .later }
def TurnedCardSaid : Prop := Claim7.holds Tryz.pinned (.plain (OpenSpec.ofChange turnedSpec)) turnedCard

/-- THE TIED CARD OF 'valisekeep.Hostile'. -/
def hostileCard : Claim7 := { stood := { row := hostileRow, standIns := [], harness := (true, "666186be44b4b63de04c4e246ae9c78644f4e018ca005764d2bd968ffd8a0cd9"), looks := false }, kinds := [], alts := [], laidByText := true, laidKinds := [.data, .data, .data, .pinned], laidTests := true, laidLooks := .later }
def HostileCardSaid : Prop := Claim7.holds Tryz.pinned (.plain (OpenSpec.ofChange hostileSpec)) hostileCard

/-- THE SECOND FORM's CARD OF 'valiselaw.Digests'. -/
def digestsUptoCard : Claim7 := { stood := { row := digestsUptoRow, standIns := [], harness := (true, "666186be44b4b63de04c4e246ae9c78644f4e018ca005764d2bd968ffd8a0cd9"), looks := false }, kinds := [], alts := [], laidByText := true, laidKinds := [.data, .data, .data, .pinned], laidTests := true, laidLooks := .later }
def DigestsUptoCardSaid : Prop := Claim7.holds Tryz.pinned (.plain (OpenSpec.upto digestsSpec)) digestsUptoCard

/-- THE SECOND FORM's CARD OF 'valiselaw.Flates'. -/
def flatesUptoCard : Claim7 := { stood := { row := flatesUptoRow, standIns := [], harness := (true, "666186be44b4b63de04c4e246ae9c78644f4e018ca005764d2bd968ffd8a0cd9"), looks := false }, kinds := [], alts := [], laidByText := true, laidKinds := [.data, .data, .data, .pinned], laidTests := true, laidLooks := .later }
def FlatesUptoCardSaid : Prop := Claim7.holds Tryz.pinned (.plain (OpenSpec.upto flatesSpec)) flatesUptoCard

/-- THE SECOND FORM's CARD OF 'valiselaw.Chooses'. -/
def choosesUptoCard : Claim7 := { stood := { row := choosesUptoRow, standIns := [], harness := (true, "666186be44b4b63de04c4e246ae9c78644f4e018ca005764d2bd968ffd8a0cd9"), looks := false }, kinds := [], alts := [], laidByText := true, laidKinds := [.data, .data, .data, .pinned], laidTests := true, laidLooks := .later }
def ChoosesUptoCardSaid : Prop := Claim7.holds Tryz.pinned (.plain (OpenSpec.upto choosesSpec)) choosesUptoCard

/-- THE SECOND FORM's CARD OF 'valiselaw.Archives'. -/
def archivesUptoCard : Claim7 := { stood := { row := archivesUptoRow, standIns := [], harness := (true, "666186be44b4b63de04c4e246ae9c78644f4e018ca005764d2bd968ffd8a0cd9"), looks := false }, kinds := [], alts := [], laidByText := true, laidKinds := [.data, .data, .data, .pinned], laidTests := true, laidLooks := .later }
def ArchivesUptoCardSaid : Prop := Claim7.holds Tryz.pinned (.plain (OpenSpec.upto archivesSpec)) archivesUptoCard

/-- THE SECOND FORM's CARD OF 'valiselaw.All'. -/
def allUptoCard : Claim7 := { stood := { row := allUptoRow, standIns := [], harness := (true, "666186be44b4b63de04c4e246ae9c78644f4e018ca005764d2bd968ffd8a0cd9"), looks := false }, kinds := [], alts := [], laidByText := true, laidKinds := [.data, .data, .data, .pinned], laidTests := true, laidLooks := .later }
def AllUptoCardSaid : Prop := Claim7.holds Tryz.pinned (.plain (OpenSpec.upto allSpec)) allUptoCard

/-- THE SECOND FORM's CARD OF 'valisekeep.Whole'. -/
def wholeUptoCard : Claim7 := { stood := { row := wholeUptoRow, standIns := [], harness := (true, "666186be44b4b63de04c4e246ae9c78644f4e018ca005764d2bd968ffd8a0cd9"), looks := false }, kinds := [], alts := [], laidByText := true, laidKinds := [.data, .data, .data, .pinned], laidTests := true, laidLooks := .later }
def WholeUptoCardSaid : Prop := Claim7.holds Tryz.pinned (.plain (OpenSpec.upto wholeSpec)) wholeUptoCard

/-- THE SECOND FORM's CARD OF 'valisekeep.Copied'. -/
def copiedUptoCard : Claim7 := { stood := { row := copiedUptoRow, standIns := [], harness := (true, "666186be44b4b63de04c4e246ae9c78644f4e018ca005764d2bd968ffd8a0cd9"), looks := false }, kinds := [], alts := [], laidByText := true, laidKinds := [.data, .data, .data, .pinned], laidTests := true, laidLooks := .later }
def CopiedUptoCardSaid : Prop := Claim7.holds Tryz.pinned (.plain (OpenSpec.upto copiedSpec)) copiedUptoCard

/-- THE SECOND FORM's CARD OF 'valisekeep.Nested'. -/
def nestedUptoCard : Claim7 := { stood := { row := nestedUptoRow, standIns := [], harness := (true, "666186be44b4b63de04c4e246ae9c78644f4e018ca005764d2bd968ffd8a0cd9"), looks := false }, kinds := [], alts := [], laidByText := true, laidKinds := [.data, .data, .data, .pinned], laidTests := true, laidLooks := .later }
def NestedUptoCardSaid : Prop := Claim7.holds Tryz.pinned (.plain (OpenSpec.upto nestedSpec)) nestedUptoCard

/-- THE SECOND FORM's CARD OF 'valisekeep.Back'. -/
def backUptoCard : Claim7 := { stood := { row := backUptoRow, standIns := [], harness := (true, "666186be44b4b63de04c4e246ae9c78644f4e018ca005764d2bd968ffd8a0cd9"), looks := false }, kinds := [], alts := [], laidByText := true, laidKinds := [.data, .data, .data, .pinned], laidTests := true, laidLooks := .later }
def BackUptoCardSaid : Prop := Claim7.holds Tryz.pinned (.plain (OpenSpec.upto backSpec)) backUptoCard

/-- THE SECOND FORM's CARD OF 'valisekeep.Turned'. -/
def turnedUptoCard : Claim7 := { stood := { row := turnedUptoRow, standIns := [], harness := (true, "666186be44b4b63de04c4e246ae9c78644f4e018ca005764d2bd968ffd8a0cd9"), looks := false }, kinds := [], alts := [], laidByText := true, laidKinds := [.data, .data, .data, .pinned], laidTests := true, laidLooks := .later }
def TurnedUptoCardSaid : Prop := Claim7.holds Tryz.pinned (.plain (OpenSpec.upto turnedSpec)) turnedUptoCard

/-- THE SECOND FORM's CARD OF 'valisekeep.Hostile'. -/
def hostileUptoCard : Claim7 := { stood := { row := hostileUptoRow, standIns := [], harness := (true, "666186be44b4b63de04c4e246ae9c78644f4e018ca005764d2bd968ffd8a0cd9"), looks := false }, kinds := [], alts := [], laidByText := true, laidKinds := [.data, .data, .data, .pinned], laidTests := true, laidLooks := .later }
def HostileUptoCardSaid : Prop := Claim7.holds Tryz.pinned (.plain (OpenSpec.upto hostileSpec)) hostileUptoCard
end Rows
end Go.Proofs.YtndfmgdhiallpaaGreatDoor
