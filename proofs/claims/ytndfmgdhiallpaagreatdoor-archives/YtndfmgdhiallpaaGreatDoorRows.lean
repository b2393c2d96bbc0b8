/-
  NARROWER THAN 'FOR EVERY INPUT', by the rows' own cells (each row's printed sentence says how): Digests: laid · Flates: laid · Chooses: laid · Archives: laid · All: laid · Whole: laid · Copied: laid · Nested: laid · Back: laid · Turned: laid · Hostile: laid.
  DERIVED. THE GIVEN ROWS OF THIS SEAT. 11 by the template 'for every input the law returns true; each argument reads behind the call as it read before'; 0 by the template 'total and deterministic' (their statements: YtndfmgdhiallpaaGreatDoorTotals.lean).
  GIVEN WITH THE SEED: the statements are not yours to turn. If you find one false, say at which input.
  Laid BY PROGRAM, IN A SANDBOX (cutbox-rows.mjs): the forced cells as the released guide's own fill.sh prints them over the translation 7d25f2cf7e35ba10… (all of the seat's roots in one cut). By AI agents, Wed Nov 11 2026. No macro, syntax, notation, axiom, sorry.
-/
import Derived.Test.YtndfmgdhiallpaaGreatDoorChecked
import GoSem.PinnedTables
import GoSem.Claim
import GoSem.ClaimJoined
import GoSem.ClaimMapViews
import Derived.JoinedTies
import Derived.KernelRfl
namespace Go.Proofs.YtndfmgdhiallpaaGreatDoor
/- THE CELL 'sum', in the pinned program and in every row, IS THE sha256 OF THE DUMP (.gsa) THAT YtndfmgdhiallpaaGreatDoorProg.lean LOADS. Nothing in Lean hashes anything: it is a label: what it is worth is what the hold of that sum in a sandbox is worth. -/
noncomputable def Tryz.pinned : Pinned := { name := "ytndfmgdhiallpaagreatdoor", sum := "7d25f2cf7e35ba103be42d82f2cde01cd4c85bb43963c47b33fc2b8067959a78", checked := Tryz.checked }
namespace Rows
def none {H : Type} : Left H := { results := [], args := [] }

/- WHAT THE LISTED PACKAGE-LEVEL VARIABLES READ AS WHEN THE CALL BEGINS. Each datum BY PROGRAM (the guide's laid-datum.mjs) off the statement by which the dump's own 'gosem.cut.vars' lays the variable. In a bare row this is a premise. The card (YtndfmgdhiallpaaGreatDoorCards.lean) ties it to the program's text. -/
def laid_unicode_utf8_acceptRanges {H : Type} : DataW H := .agg [.agg [.lit (.int .u8 128), .lit (.int .u8 191)], .agg [.lit (.int .u8 160), .lit (.int .u8 191)], .agg [.lit (.int .u8 128), .lit (.int .u8 159)], .agg [.lit (.int .u8 144), .lit (.int .u8 191)], .agg [.lit (.int .u8 128), .lit (.int .u8 143)], .agg [.lit (.int .u8 0), .lit (.int .u8 0)], .agg [.lit (.int .u8 0), .lit (.int .u8 0)], .agg [.lit (.int .u8 0), .lit (.int .u8 0)], .agg [.lit (.int .u8 0), .lit (.int .u8 0)], .agg [.lit (.int .u8 0), .lit (.int .u8 0)], .agg [.lit (.int .u8 0), .lit (.int .u8 0)], .agg [.lit (.int .u8 0), .lit (.int .u8 0)], .agg [.lit (.int .u8 0), .lit (.int .u8 0)], .agg [.lit (.int .u8 0), .lit (.int .u8 0)], .agg [.lit (.int .u8 0), .lit (.int .u8 0)], .agg [.lit (.int .u8 0), .lit (.int .u8 0)]]
def laid_valise_inflate_order {H : Type} : DataW H := .agg [.lit (.int .i64 16), .lit (.int .i64 17), .lit (.int .i64 18), .lit (.int .i64 0), .lit (.int .i64 8), .lit (.int .i64 7), .lit (.int .i64 9), .lit (.int .i64 6), .lit (.int .i64 10), .lit (.int .i64 5), .lit (.int .i64 11), .lit (.int .i64 4), .lit (.int .i64 12), .lit (.int .i64 3), .lit (.int .i64 13), .lit (.int .i64 2), .lit (.int .i64 14), .lit (.int .i64 1), .lit (.int .i64 15)]
def laid_valise_digest_startWords {H : Type} : DataW H := .agg [.lit (.int .u32 1779033703), .lit (.int .u32 3144134277), .lit (.int .u32 1013904242), .lit (.int .u32 2773480762), .lit (.int .u32 1359893119), .lit (.int .u32 2600822924), .lit (.int .u32 528734635), .lit (.int .u32 1541459225)]
/-- One of Go's own tables, pinned by name: the form's constant. -/
def laid_unicode_utf8_first : DataW Unit := Go.Pinned.utf8First

/-- 'valiselaw.Digests': WHATEVER THE INPUT: true; the input reads as it did. -/
def digestsSpec : ChangeSpec := { name := "digests", fn := fun _ => fun
  | [d] => { results := [.lit (.bool true)], args := [d] }
  | _ => none }
def digestsRow : OpenClaim := { program := "ytndfmgdhiallpaagreatdoor", sum := "7d25f2cf7e35ba103be42d82f2cde01cd4c85bb43963c47b33fc2b8067959a78", func := "valise/valiselaw.Digests", spec := "digests", inPlace := ["internal/bytealg.CountString", "internal/bytealg.IndexByteString", "internal/bytealg.IndexString", "internal/abi.NoEscape"], unfollowed := true, recurses := true, named := ["valise/digest.startWords", "valise/inflate.order", "unicode/utf8.first", "unicode/utf8.acceptRanges", "internal/bytealg.MaxLen"], apart := false, laid := [("unicode/utf8.acceptRanges", laid_unicode_utf8_acceptRanges), ("valise/inflate.order", laid_valise_inflate_order), ("valise/digest.startWords", laid_valise_digest_startWords), ("unicode/utf8.first", laid_unicode_utf8_first)] }
def DigestsSaid : Prop := digestsRow.holds Tryz.pinned (OpenSpec.ofChange digestsSpec)

/-- ITS FALSE NEIGHBOUR: 'it returns false'. Refute it at one input. -/
def digestsWrong : ChangeSpec := { name := "digests", fn := fun _ => fun
  | [d] => { results := [.lit (.bool false)], args := [d] }
  | _ => none }
def DigestsWrongFalsely : Prop := digestsRow.holds Tryz.pinned (OpenSpec.ofChange digestsWrong)

/-- 'valiselaw.Flates': WHATEVER THE INPUT: true; the input reads as it did. -/
def flatesSpec : ChangeSpec := { name := "flates", fn := fun _ => fun
  | [d] => { results := [.lit (.bool true)], args := [d] }
  | _ => none }
def flatesRow : OpenClaim := { program := "ytndfmgdhiallpaagreatdoor", sum := "7d25f2cf7e35ba103be42d82f2cde01cd4c85bb43963c47b33fc2b8067959a78", func := "valise/valiselaw.Flates", spec := "flates", inPlace := ["internal/bytealg.CountString", "internal/bytealg.IndexByteString", "internal/bytealg.IndexString", "internal/abi.NoEscape"], unfollowed := true, recurses := true, named := ["valise/digest.startWords", "valise/inflate.order", "unicode/utf8.first", "unicode/utf8.acceptRanges", "internal/bytealg.MaxLen"], apart := false, laid := [("unicode/utf8.acceptRanges", laid_unicode_utf8_acceptRanges), ("valise/inflate.order", laid_valise_inflate_order), ("valise/digest.startWords", laid_valise_digest_startWords), ("unicode/utf8.first", laid_unicode_utf8_first)] }
def FlatesSaid : Prop := flatesRow.holds Tryz.pinned (OpenSpec.ofChange flatesSpec)

/-- ITS FALSE NEIGHBOUR: 'it returns false'. Refute it at one input. -/
def flatesWrong : ChangeSpec := { name := "flates", fn := fun _ => fun
  | [d] => { results := [.lit (.bool false)], args := [d] }
  | _ => none }
def FlatesWrongFalsely : Prop := flatesRow.holds Tryz.pinned (OpenSpec.ofChange flatesWrong)

/-- 'valiselaw.Chooses': WHATEVER THE INPUT: true; the input reads as it did. -/
def choosesSpec : ChangeSpec := { name := "chooses", fn := fun _ => fun
  | [d] => { results := [.lit (.bool true)], args := [d] }
  | _ => none }
def choosesRow : OpenClaim := { program := "ytndfmgdhiallpaagreatdoor", sum := "7d25f2cf7e35ba103be42d82f2cde01cd4c85bb43963c47b33fc2b8067959a78", func := "valise/valiselaw.Chooses", spec := "chooses", inPlace := ["internal/bytealg.CountString", "internal/bytealg.IndexByteString", "internal/bytealg.IndexString", "internal/abi.NoEscape"], unfollowed := true, recurses := true, named := ["valise/digest.startWords", "valise/inflate.order", "unicode/utf8.first", "unicode/utf8.acceptRanges", "internal/bytealg.MaxLen"], apart := false, laid := [("unicode/utf8.acceptRanges", laid_unicode_utf8_acceptRanges), ("valise/inflate.order", laid_valise_inflate_order), ("valise/digest.startWords", laid_valise_digest_startWords), ("unicode/utf8.first", laid_unicode_utf8_first)] }
def ChoosesSaid : Prop := choosesRow.holds Tryz.pinned (OpenSpec.ofChange choosesSpec)

/-- ITS FALSE NEIGHBOUR: 'it returns false'. Refute it at one input. -/
def choosesWrong : ChangeSpec := { name := "chooses", fn := fun _ => fun
  | [d] => { results := [.lit (.bool false)], args := [d] }
  | _ => none }
def ChoosesWrongFalsely : Prop := choosesRow.holds Tryz.pinned (OpenSpec.ofChange choosesWrong)

/-- 'valiselaw.Archives': WHATEVER THE INPUT: true; the input reads as it did. -/
def archivesSpec : ChangeSpec := { name := "archives", fn := fun _ => fun
  | [d] => { results := [.lit (.bool true)], args := [d] }
  | _ => none }
def archivesRow : OpenClaim := { program := "ytndfmgdhiallpaagreatdoor", sum := "7d25f2cf7e35ba103be42d82f2cde01cd4c85bb43963c47b33fc2b8067959a78", func := "valise/valiselaw.Archives", spec := "archives", inPlace := ["internal/bytealg.CountString", "internal/bytealg.IndexByteString", "internal/bytealg.IndexString", "internal/abi.NoEscape"], unfollowed := true, recurses := true, named := ["valise/digest.startWords", "valise/inflate.order", "unicode/utf8.first", "unicode/utf8.acceptRanges", "internal/bytealg.MaxLen"], apart := false, laid := [("unicode/utf8.acceptRanges", laid_unicode_utf8_acceptRanges), ("valise/inflate.order", laid_valise_inflate_order), ("valise/digest.startWords", laid_valise_digest_startWords), ("unicode/utf8.first", laid_unicode_utf8_first)] }
def ArchivesSaid : Prop := archivesRow.holds Tryz.pinned (OpenSpec.ofChange archivesSpec)

/-- ITS FALSE NEIGHBOUR: 'it returns false'. Refute it at one input. -/
def archivesWrong : ChangeSpec := { name := "archives", fn := fun _ => fun
  | [d] => { results := [.lit (.bool false)], args := [d] }
  | _ => none }
def ArchivesWrongFalsely : Prop := archivesRow.holds Tryz.pinned (OpenSpec.ofChange archivesWrong)

/-- 'valiselaw.All': WHATEVER THE INPUT: true; the input reads as it did. -/
def allSpec : ChangeSpec := { name := "all", fn := fun _ => fun
  | [d] => { results := [.lit (.bool true)], args := [d] }
  | _ => none }
def allRow : OpenClaim := { program := "ytndfmgdhiallpaagreatdoor", sum := "7d25f2cf7e35ba103be42d82f2cde01cd4c85bb43963c47b33fc2b8067959a78", func := "valise/valiselaw.All", spec := "all", inPlace := ["internal/bytealg.CountString", "internal/bytealg.IndexByteString", "internal/bytealg.IndexString", "internal/abi.NoEscape"], unfollowed := true, recurses := true, named := ["valise/digest.startWords", "valise/inflate.order", "unicode/utf8.first", "unicode/utf8.acceptRanges", "internal/bytealg.MaxLen"], apart := false, laid := [("unicode/utf8.acceptRanges", laid_unicode_utf8_acceptRanges), ("valise/inflate.order", laid_valise_inflate_order), ("valise/digest.startWords", laid_valise_digest_startWords), ("unicode/utf8.first", laid_unicode_utf8_first)] }
def AllSaid : Prop := allRow.holds Tryz.pinned (OpenSpec.ofChange allSpec)

/-- ITS FALSE NEIGHBOUR: 'it returns false'. Refute it at one input. -/
def allWrong : ChangeSpec := { name := "all", fn := fun _ => fun
  | [d] => { results := [.lit (.bool false)], args := [d] }
  | _ => none }
def AllWrongFalsely : Prop := allRow.holds Tryz.pinned (OpenSpec.ofChange allWrong)

/-- 'valisekeep.Whole': WHATEVER THE INPUT: true; the input reads as it did. -/
def wholeSpec : ChangeSpec := { name := "whole", fn := fun _ => fun
  | [d1, d2, d3] => { results := [.lit (.bool true)], args := [d1, d2, d3] }
  | _ => none }
def wholeRow : OpenClaim := { program := "ytndfmgdhiallpaagreatdoor", sum := "7d25f2cf7e35ba103be42d82f2cde01cd4c85bb43963c47b33fc2b8067959a78", func := "valise/valisekeep.Whole", spec := "whole", inPlace := ["internal/bytealg.IndexByteString", "internal/bytealg.IndexString", "internal/bytealg.CountString"], unfollowed := true, recurses := true, named := ["valise/digest.startWords", "valise/inflate.order", "internal/bytealg.MaxLen", "unicode/utf8.first", "unicode/utf8.acceptRanges"], apart := false, laid := [("unicode/utf8.acceptRanges", laid_unicode_utf8_acceptRanges), ("valise/inflate.order", laid_valise_inflate_order), ("valise/digest.startWords", laid_valise_digest_startWords), ("unicode/utf8.first", laid_unicode_utf8_first)] }
def WholeSaid : Prop := wholeRow.holds Tryz.pinned (OpenSpec.ofChange wholeSpec)

/-- ITS FALSE NEIGHBOUR: 'it returns false'. Refute it at one input. -/
def wholeWrong : ChangeSpec := { name := "whole", fn := fun _ => fun
  | [d1, d2, d3] => { results := [.lit (.bool false)], args := [d1, d2, d3] }
  | _ => none }
def WholeWrongFalsely : Prop := wholeRow.holds Tryz.pinned (OpenSpec.ofChange wholeWrong)

/-- 'valisekeep.Copied': WHATEVER THE INPUT: true; the input reads as it did. -/
def copiedSpec : ChangeSpec := { name := "copied", fn := fun _ => fun
  | [d1, d2, d3, d4] => { results := [.lit (.bool true)], args := [d1, d2, d3, d4] }
  | _ => none }
def copiedRow : OpenClaim := { program := "ytndfmgdhiallpaagreatdoor", sum := "7d25f2cf7e35ba103be42d82f2cde01cd4c85bb43963c47b33fc2b8067959a78", func := "valise/valisekeep.Copied", spec := "copied", inPlace := ["internal/bytealg.IndexByteString", "internal/bytealg.IndexString", "internal/bytealg.CountString"], unfollowed := true, recurses := true, named := ["valise/digest.startWords", "valise/inflate.order", "internal/bytealg.MaxLen", "unicode/utf8.first", "unicode/utf8.acceptRanges"], apart := false, laid := [("unicode/utf8.acceptRanges", laid_unicode_utf8_acceptRanges), ("valise/inflate.order", laid_valise_inflate_order), ("valise/digest.startWords", laid_valise_digest_startWords), ("unicode/utf8.first", laid_unicode_utf8_first)] }
def CopiedSaid : Prop := copiedRow.holds Tryz.pinned (OpenSpec.ofChange copiedSpec)

/-- ITS FALSE NEIGHBOUR: 'it returns false'. Refute it at one input. -/
def copiedWrong : ChangeSpec := { name := "copied", fn := fun _ => fun
  | [d1, d2, d3, d4] => { results := [.lit (.bool false)], args := [d1, d2, d3, d4] }
  | _ => none }
def CopiedWrongFalsely : Prop := copiedRow.holds Tryz.pinned (OpenSpec.ofChange copiedWrong)

/-- 'valisekeep.Nested': WHATEVER THE INPUT: true; the input reads as it did. -/
def nestedSpec : ChangeSpec := { name := "nested", fn := fun _ => fun
  | [d1, d2] => { results := [.lit (.bool true)], args := [d1, d2] }
  | _ => none }
def nestedRow : OpenClaim := { program := "ytndfmgdhiallpaagreatdoor", sum := "7d25f2cf7e35ba103be42d82f2cde01cd4c85bb43963c47b33fc2b8067959a78", func := "valise/valisekeep.Nested", spec := "nested", inPlace := ["internal/bytealg.IndexByteString", "internal/bytealg.IndexString", "internal/bytealg.CountString"], unfollowed := true, recurses := true, named := ["valise/digest.startWords", "valise/inflate.order", "internal/bytealg.MaxLen", "unicode/utf8.first", "unicode/utf8.acceptRanges"], apart := false, laid := [("unicode/utf8.acceptRanges", laid_unicode_utf8_acceptRanges), ("valise/inflate.order", laid_valise_inflate_order), ("valise/digest.startWords", laid_valise_digest_startWords), ("unicode/utf8.first", laid_unicode_utf8_first)] }
def NestedSaid : Prop := nestedRow.holds Tryz.pinned (OpenSpec.ofChange nestedSpec)

/-- ITS FALSE NEIGHBOUR: 'it returns false'. Refute it at one input. -/
def nestedWrong : ChangeSpec := { name := "nested", fn := fun _ => fun
  | [d1, d2] => { results := [.lit (.bool false)], args := [d1, d2] }
  | _ => none }
def NestedWrongFalsely : Prop := nestedRow.holds Tryz.pinned (OpenSpec.ofChange nestedWrong)

/-- 'valisekeep.Back': WHATEVER THE INPUT: true; the input reads as it did. -/
def backSpec : ChangeSpec := { name := "back", fn := fun _ => fun
  | [d1, d2] => { results := [.lit (.bool true)], args := [d1, d2] }
  | _ => none }
def backRow : OpenClaim := { program := "ytndfmgdhiallpaagreatdoor", sum := "7d25f2cf7e35ba103be42d82f2cde01cd4c85bb43963c47b33fc2b8067959a78", func := "valise/valisekeep.Back", spec := "back", inPlace := ["internal/bytealg.IndexByteString", "internal/bytealg.IndexString", "internal/bytealg.CountString", "internal/abi.NoEscape"], unfollowed := true, recurses := true, named := ["valise/digest.startWords", "valise/inflate.order", "internal/bytealg.MaxLen", "unicode/utf8.first", "unicode/utf8.acceptRanges"], apart := false, laid := [("unicode/utf8.acceptRanges", laid_unicode_utf8_acceptRanges), ("valise/inflate.order", laid_valise_inflate_order), ("valise/digest.startWords", laid_valise_digest_startWords), ("unicode/utf8.first", laid_unicode_utf8_first)] }
def BackSaid : Prop := backRow.holds Tryz.pinned (OpenSpec.ofChange backSpec)

/-- ITS FALSE NEIGHBOUR: 'it returns false'. Refute it at one input. -/
def backWrong : ChangeSpec := { name := "back", fn := fun _ => fun
  | [d1, d2] => { results := [.lit (.bool false)], args := [d1, d2] }
  | _ => none }
def BackWrongFalsely : Prop := backRow.holds Tryz.pinned (OpenSpec.ofChange backWrong)

/-- 'valisekeep.Turned': WHATEVER THE INPUT: true; the input reads as it did. -/
def turnedSpec : ChangeSpec := { name := "turned", fn := fun _ => fun
  | [d1, d2, d3, d4, d5] => { results := [.lit (.bool true)], args := [d1, d2, d3, d4, d5] }
  | _ => none }
def turnedRow : OpenClaim := { program := "ytndfmgdhiallpaagreatdoor", sum := "7d25f2cf7e35ba103be42d82f2cde01cd4c85bb43963c47b33fc2b8067959a78", func := "valise/valisekeep.Turned", spec := "turned", inPlace := ["internal/bytealg.IndexByteString", "internal/bytealg.IndexString", "internal/bytealg.CountString"], unfollowed := true, recurses := true, named := ["valise/digest.startWords", "valise/inflate.order", "internal/bytealg.MaxLen", "unicode/utf8.first", "unicode/utf8.acceptRanges"], apart := false, laid := [("unicode/utf8.acceptRanges", laid_unicode_utf8_acceptRanges), ("valise/inflate.order", laid_valise_inflate_order), ("valise/digest.startWords", laid_valise_digest_startWords), ("unicode/utf8.first", laid_unicode_utf8_first)] }
def TurnedSaid : Prop := turnedRow.holds Tryz.pinned (OpenSpec.ofChange turnedSpec)

/-- ITS FALSE NEIGHBOUR: 'it returns false'. Refute it at one input. -/
def turnedWrong : ChangeSpec := { name := "turned", fn := fun _ => fun
  | [d1, d2, d3, d4, d5] => { results := [.lit (.bool false)], args := [d1, d2, d3, d4, d5] }
  | _ => none }
def TurnedWrongFalsely : Prop := turnedRow.holds Tryz.pinned (OpenSpec.ofChange turnedWrong)

/-- 'valisekeep.Hostile': WHATEVER THE INPUT: true; the input reads as it did. -/
def hostileSpec : ChangeSpec := { name := "hostile", fn := fun _ => fun
  | [d1, d2] => { results := [.lit (.bool true)], args := [d1, d2] }
  | _ => none }
def hostileRow : OpenClaim := { program := "ytndfmgdhiallpaagreatdoor", sum := "7d25f2cf7e35ba103be42d82f2cde01cd4c85bb43963c47b33fc2b8067959a78", func := "valise/valisekeep.Hostile", spec := "hostile", inPlace := ["internal/bytealg.IndexByteString", "internal/bytealg.IndexString", "internal/bytealg.CountString"], unfollowed := true, recurses := true, named := ["valise/digest.startWords", "valise/inflate.order", "internal/bytealg.MaxLen", "unicode/utf8.first", "unicode/utf8.acceptRanges"], apart := false, laid := [("unicode/utf8.acceptRanges", laid_unicode_utf8_acceptRanges), ("valise/inflate.order", laid_valise_inflate_order), ("valise/digest.startWords", laid_valise_digest_startWords), ("unicode/utf8.first", laid_unicode_utf8_first)] }
def HostileSaid : Prop := hostileRow.holds Tryz.pinned (OpenSpec.ofChange hostileSpec)

/-- ITS FALSE NEIGHBOUR: 'it returns false'. Refute it at one input. -/
def hostileWrong : ChangeSpec := { name := "hostile", fn := fun _ => fun
  | [d1, d2] => { results := [.lit (.bool false)], args := [d1, d2] }
  | _ => none }
def HostileWrongFalsely : Prop := hostileRow.holds Tryz.pinned (OpenSpec.ofChange hostileWrong)

/- THE SECOND FORM. 'bulk': how many values and letters a reading holds, each counted each time it is reached (what is shared counts as often as it is met; a slice's spare places count too). A statement '..UptoSaid' is the law's where the arguments, and the package variables that the reading takes, are together of bulk at most 1048576: NARROWER than '..Said'. Prove '..Said' where nothing that the law and all that it calls make is longer than what came in: it says more and counts as full. Else prove '..UptoSaid'. A law counts once. -/
mutual
def uptoBulk {H : Type} : DataW H → Nat
  | .lit (.string bytes) => bytes.length + 1
  | .lit _ => 1
  | .nil => 1
  | .ptr d => uptoBulk d + 1
  | .slice elems spare => uptoBulkAll elems + uptoBulkAll spare + 1
  | .agg parts => uptoBulkAll parts + 1
  | .iface _ d => uptoBulk d + 1
  | .map entries => uptoBulkEntries entries + 1
  | .held _ => 1
def uptoBulkAll {H : Type} : List (DataW H) → Nat
  | [] => 0
  | d :: r => uptoBulk d + uptoBulkAll r
def uptoBulkEntries {H : Type} : List (Lit × DataW H) → Nat
  | [] => 0
  | x :: r => uptoBulkEntry x + uptoBulkEntries r
def uptoBulkEntry {H : Type} : Lit × DataW H → Nat
  | (.string bytes, d) => bytes.length + uptoBulk d + 1
  | (_, d) => uptoBulk d + 1
 end
def uptoSmall : (H : Type) → List (DataW H) → Bool := fun _ ds => decide (uptoBulkAll ds ≤ 1048576)
def OpenSpec.upto (s : _root_.Go.ChangeSpec) : _root_.Go.OpenSpec := { _root_.Go.OpenSpec.ofChange s with cond := some uptoSmall }

/-- 'valiselaw.Digests', WHERE WHAT IT READS IS OF BULK AT MOST 1048576: true; the input reads as it did. -/
def digestsUptoRow : OpenClaim := { program := "ytndfmgdhiallpaagreatdoor", sum := "7d25f2cf7e35ba103be42d82f2cde01cd4c85bb43963c47b33fc2b8067959a78", func := "valise/valiselaw.Digests", spec := "digests", inPlace := ["internal/bytealg.CountString", "internal/bytealg.IndexByteString", "internal/bytealg.IndexString", "internal/abi.NoEscape"], unfollowed := true, recurses := true, named := ["valise/digest.startWords", "valise/inflate.order", "unicode/utf8.first", "unicode/utf8.acceptRanges", "internal/bytealg.MaxLen"], apart := false, laid := [("unicode/utf8.acceptRanges", laid_unicode_utf8_acceptRanges), ("valise/inflate.order", laid_valise_inflate_order), ("valise/digest.startWords", laid_valise_digest_startWords), ("unicode/utf8.first", laid_unicode_utf8_first)], narrowed := true }
def DigestsUptoSaid : Prop := digestsUptoRow.holds Tryz.pinned (OpenSpec.upto digestsSpec)

/-- 'valiselaw.Flates', WHERE WHAT IT READS IS OF BULK AT MOST 1048576: true; the input reads as it did. -/
def flatesUptoRow : OpenClaim := { program := "ytndfmgdhiallpaagreatdoor", sum := "7d25f2cf7e35ba103be42d82f2cde01cd4c85bb43963c47b33fc2b8067959a78", func := "valise/valiselaw.Flates", spec := "flates", inPlace := ["internal/bytealg.CountString", "internal/bytealg.IndexByteString", "internal/bytealg.IndexString", "internal/abi.NoEscape"], unfollowed := true, recurses := true, named := ["valise/digest.startWords", "valise/inflate.order", "unicode/utf8.first", "unicode/utf8.acceptRanges", "internal/bytealg.MaxLen"], apart := false, laid := [("unicode/utf8.acceptRanges", laid_unicode_utf8_acceptRanges), ("valise/inflate.order", laid_valise_inflate_order), ("valise/digest.startWords", laid_valise_digest_startWords), ("unicode/utf8.first", laid_unicode_utf8_first)], narrowed := true }
def FlatesUptoSaid : Prop := flatesUptoRow.holds Tryz.pinned (OpenSpec.upto flatesSpec)

/-- 'valiselaw.Chooses', WHERE WHAT IT READS IS OF BULK AT MOST 1048576: true; the input reads as it did. -/
def choosesUptoRow : OpenClaim := { program := "ytndfmgdhiallpaagreatdoor", sum := "7d25f2cf7e35ba103be42d82f2cde01cd4c85bb43963c47b33fc2b8067959a78", func := "valise/valiselaw.Chooses", spec := "chooses", inPlace := ["internal/bytealg.CountString", "internal/bytealg.IndexByteString", "internal/bytealg.IndexString", "internal/abi.NoEscape"], unfollowed := true, recurses := true, named := ["valise/digest.startWords", "valise/inflate.order", "unicode/utf8.first", "unicode/utf8.acceptRanges", "internal/bytealg.MaxLen"], apart := false, laid := [("unicode/utf8.acceptRanges", laid_unicode_utf8_acceptRanges), ("valise/inflate.order", laid_valise_inflate_order), ("valise/digest.startWords", laid_valise_digest_startWords), ("unicode/utf8.first", laid_unicode_utf8_first)], narrowed := true }
def ChoosesUptoSaid : Prop := choosesUptoRow.holds Tryz.pinned (OpenSpec.upto choosesSpec)

/-- 'valiselaw.Archives', WHERE WHAT IT READS IS OF BULK AT MOST 1048576: true; the input reads as it did. -/
def archivesUptoRow : OpenClaim := { program := "ytndfmgdhiallpaagreatdoor", sum := "7d25f2cf7e35ba103be42d82f2cde01cd4c85bb43963c47b33fc2b8067959a78", func := "valise/valiselaw.Archives", spec := "archives", inPlace := ["internal/bytealg.CountString", "internal/bytealg.IndexByteString", "internal/bytealg.IndexString", "internal/abi.NoEscape"], unfollowed := true, recurses := true, named := ["valise/digest.startWords", "valise/inflate.order", "unicode/utf8.first", "unicode/utf8.acceptRanges", "internal/bytealg.MaxLen"], apart := false, laid := [("unicode/utf8.acceptRanges", laid_unicode_utf8_acceptRanges), ("valise/inflate.order", laid_valise_inflate_order), ("valise/digest.startWords", laid_valise_digest_startWords), ("unicode/utf8.first", laid_unicode_utf8_first)], narrowed := true }
def ArchivesUptoSaid : Prop := archivesUptoRow.holds Tryz.pinned (OpenSpec.upto archivesSpec)

/-- 'valiselaw.All', WHERE WHAT IT READS IS OF BULK AT MOST 1048576: true; the input reads as it did. -/
def allUptoRow : OpenClaim := { program := "ytndfmgdhiallpaagreatdoor", sum := "7d25f2cf7e35ba103be42d82f2cde01cd4c85bb43963c47b33fc2b8067959a78", func := "valise/valiselaw.All", spec := "all", inPlace := ["internal/bytealg.CountString", "internal/bytealg.IndexByteString", "internal/bytealg.IndexString", "internal/abi.NoEscape"], unfollowed := true, recurses := true, named := ["valise/digest.startWords", "valise/inflate.order", "unicode/utf8.first", "unicode/utf8.acceptRanges", "internal/bytealg.MaxLen"], apart := false, laid := [("unicode/utf8.acceptRanges", laid_unicode_utf8_acceptRanges), ("valise/inflate.order", laid_valise_inflate_order), ("valise/digest.startWords", laid_valise_digest_startWords), ("unicode/utf8.first", laid_unicode_utf8_first)], narrowed := true }
def AllUptoSaid : Prop := allUptoRow.holds Tryz.pinned (OpenSpec.upto allSpec)

/-- 'valisekeep.Whole', WHERE WHAT IT READS IS OF BULK AT MOST 1048576: true; the input reads as it did. -/
def wholeUptoRow : OpenClaim := { program := "ytndfmgdhiallpaagreatdoor", sum := "7d25f2cf7e35ba103be42d82f2cde01cd4c85bb43963c47b33fc2b8067959a78", func := "valise/valisekeep.Whole", spec := "whole", inPlace := ["internal/bytealg.IndexByteString", "internal/bytealg.IndexString", "internal/bytealg.CountString"], unfollowed := true, recurses := true, named := ["valise/digest.startWords", "valise/inflate.order", "internal/bytealg.MaxLen", "unicode/utf8.first", "unicode/utf8.acceptRanges"], apart := false, laid := [("unicode/utf8.acceptRanges", laid_unicode_utf8_acceptRanges), ("valise/inflate.order", laid_valise_inflate_order), ("valise/digest.startWords", laid_valise_digest_startWords), ("unicode/utf8.first", laid_unicode_utf8_first)], narrowed := true }
def WholeUptoSaid : Prop := wholeUptoRow.holds Tryz.pinned (OpenSpec.upto wholeSpec)

/-- 'valisekeep.Copied', WHERE WHAT IT READS IS OF BULK AT MOST 1048576: true; the input reads as it did. -/
def copiedUptoRow : OpenClaim := { program := "ytndfmgdhiallpaagreatdoor", sum := "7d25f2cf7e35ba103be42d82f2cde01cd4c85bb43963c47b33fc2b8067959a78", func := "valise/valisekeep.Copied", spec := "copied", inPlace := ["internal/bytealg.IndexByteString", "internal/bytealg.IndexString", "internal/bytealg.CountString"], unfollowed := true, recurses := true, named := ["valise/digest.startWords", "valise/inflate.order", "internal/bytealg.MaxLen", "unicode/utf8.first", "unicode/utf8.acceptRanges"], apart := false, laid := [("unicode/utf8.acceptRanges", laid_unicode_utf8_acceptRanges), ("valise/inflate.order", laid_valise_inflate_order), ("valise/digest.startWords", laid_valise_digest_startWords), ("unicode/utf8.first", laid_unicode_utf8_first)], narrowed := true }
def CopiedUptoSaid : Prop := copiedUptoRow.holds Tryz.pinned (OpenSpec.upto copiedSpec)

/-- 'valisekeep.Nested', WHERE WHAT IT READS IS OF BULK AT MOST 1048576: true; the input reads as it did. -/
def nestedUptoRow : OpenClaim := { program := "ytndfmgdhiallpaagreatdoor", sum := "7d25f2cf7e35ba103be42d82f2cde01cd4c85bb43963c47b33fc2b8067959a78", func := "valise/valisekeep.Nested", spec := "nested", inPlace := ["internal/bytealg.IndexByteString", "internal/bytealg.IndexString", "internal/bytealg.CountString"], unfollowed := true, recurses := true, named := ["valise/digest.startWords", "valise/inflate.order", "internal/bytealg.MaxLen", "unicode/utf8.first", "unicode/utf8.acceptRanges"], apart := false, laid := [("unicode/utf8.acceptRanges", laid_unicode_utf8_acceptRanges), ("valise/inflate.order", laid_valise_inflate_order), ("valise/digest.startWords", laid_valise_digest_startWords), ("unicode/utf8.first", laid_unicode_utf8_first)], narrowed := true }
def NestedUptoSaid : Prop := nestedUptoRow.holds Tryz.pinned (OpenSpec.upto nestedSpec)

/-- 'valisekeep.Back', WHERE WHAT IT READS IS OF BULK AT MOST 1048576: true; the input reads as it did. -/
def backUptoRow : OpenClaim := { program := "ytndfmgdhiallpaagreatdoor", sum := "7d25f2cf7e35ba103be42d82f2cde01cd4c85bb43963c47b33fc2b8067959a78", func := "valise/valisekeep.Back", spec := "back", inPlace := ["internal/bytealg.IndexByteString", "internal/bytealg.IndexString", "internal/bytealg.CountString", "internal/abi.NoEscape"], unfollowed := true, recurses := true, named := ["valise/digest.startWords", "valise/inflate.order", "internal/bytealg.MaxLen", "unicode/utf8.first", "unicode/utf8.acceptRanges"], apart := false, laid := [("unicode/utf8.acceptRanges", laid_unicode_utf8_acceptRanges), ("valise/inflate.order", laid_valise_inflate_order), ("valise/digest.startWords", laid_valise_digest_startWords), ("unicode/utf8.first", laid_unicode_utf8_first)], narrowed := true }
def BackUptoSaid : Prop := backUptoRow.holds Tryz.pinned (OpenSpec.upto backSpec)

/-- 'valisekeep.Turned', WHERE WHAT IT READS IS OF BULK AT MOST 1048576: true; the input reads as it did. -/
def turnedUptoRow : OpenClaim := { program := "ytndfmgdhiallpaagreatdoor", sum := "7d25f2cf7e35ba103be42d82f2cde01cd4c85bb43963c47b33fc2b8067959a78", func := "valise/valisekeep.Turned", spec := "turned", inPlace := ["internal/bytealg.IndexByteString", "internal/bytealg.IndexString", "internal/bytealg.CountString"], unfollowed := true, recurses := true, named := ["valise/digest.startWords", "valise/inflate.order", "internal/bytealg.MaxLen", "unicode/utf8.first", "unicode/utf8.acceptRanges"], apart := false, laid := [("unicode/utf8.acceptRanges", laid_unicode_utf8_acceptRanges), ("valise/inflate.order", laid_valise_inflate_order), ("valise/digest.startWords", laid_valise_digest_startWords), ("unicode/utf8.first", laid_unicode_utf8_first)], narrowed := true }
def TurnedUptoSaid : Prop := turnedUptoRow.holds Tryz.pinned (OpenSpec.upto turnedSpec)

/-- 'valisekeep.Hostile', WHERE WHAT IT READS IS OF BULK AT MOST 1048576: true; the input reads as it did. -/
def hostileUptoRow : OpenClaim := { program := "ytndfmgdhiallpaagreatdoor", sum := "7d25f2cf7e35ba103be42d82f2cde01cd4c85bb43963c47b33fc2b8067959a78", func := "valise/valisekeep.Hostile", spec := "hostile", inPlace := ["internal/bytealg.IndexByteString", "internal/bytealg.IndexString", "internal/bytealg.CountString"], unfollowed := true, recurses := true, named := ["valise/digest.startWords", "valise/inflate.order", "internal/bytealg.MaxLen", "unicode/utf8.first", "unicode/utf8.acceptRanges"], apart := false, laid := [("unicode/utf8.acceptRanges", laid_unicode_utf8_acceptRanges), ("valise/inflate.order", laid_valise_inflate_order), ("valise/digest.startWords", laid_valise_digest_startWords), ("unicode/utf8.first", laid_unicode_utf8_first)], narrowed := true }
def HostileUptoSaid : Prop := hostileUptoRow.holds Tryz.pinned (OpenSpec.upto hostileSpec)

end Rows
end Go.Proofs.YtndfmgdhiallpaaGreatDoor
