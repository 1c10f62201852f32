/-
  NARROWER THAN 'FOR EVERY INPUT', by the rows' own cells (each row's printed sentence says how): PackedCells: laid · PackedWords: laid · PackedPacks: laid · PackedRuns: laid · PackedLongs: laid · PackedHolds: laid.
  DERIVED. THE GIVEN ROWS OF THIS SEAT. 6 by the template 'for every input the law returns true; each argument reads behind the call as it read before'; 0 by the template 'total and deterministic' (their statements: YtaiijndldngnkaaDoorTotals.lean).
  GIVEN WITH THE SEED: the statements are not yours to turn. If you find one false, say at which input.
  Laid BY PROGRAM, IN A SANDBOX (cutbox-rows.mjs): the forced cells as the released guide's own fill.sh prints them over the translation a245e4c39bd2806e… (all of the seat's roots in one cut). By AI agents, Wed Nov 11 2026. No macro, syntax, notation, axiom, sorry.
-/
import Derived.Test.YtaiijndldngnkaaDoorChecked
import GoSem.Claim
import GoSem.ClaimJoined
import GoSem.ClaimMapViews
import Derived.JoinedTies
import Derived.KernelRfl
namespace Go.Proofs.YtaiijndldngnkaaDoor
/- THE CELL 'sum', in the pinned program and in every row, IS THE sha256 OF THE DUMP (.gsa) THAT YtaiijndldngnkaaDoorProg.lean LOADS. Nothing in Lean hashes anything: it is a label: what it is worth is what the hold of that sum in a sandbox is worth. -/
noncomputable def Tryd.pinned : Pinned := { name := "ytaiijndldngnkaadoor", sum := "a245e4c39bd2806ecedee80e7fac70f23bfdb7f9e0eb55ab0c551b7669ad0929", checked := Tryd.checked }
namespace Rows
def none {H : Type} : Left H := { results := [], args := [] }

/- WHAT THE LISTED PACKAGE-LEVEL VARIABLES READ AS WHEN THE CALL BEGINS. Each datum BY PROGRAM (the guide's laid-datum.mjs) off the statement by which the dump's own 'gosem.cut.vars' lays the variable. In a bare row this is a premise. The card (YtaiijndldngnkaaDoorCards.lean) ties it to the program's text. -/
def laid_scrollback_width_marks {H : Type} : DataW H := .agg [.agg [.lit (.int .i32 768), .lit (.int .i32 879)], .agg [.lit (.int .i32 1155), .lit (.int .i32 1161)], .agg [.lit (.int .i32 1425), .lit (.int .i32 1469)], .agg [.lit (.int .i32 1552), .lit (.int .i32 1562)], .agg [.lit (.int .i32 1611), .lit (.int .i32 1631)], .agg [.lit (.int .i32 1750), .lit (.int .i32 1756)], .agg [.lit (.int .i32 3633), .lit (.int .i32 3633)], .agg [.lit (.int .i32 3636), .lit (.int .i32 3642)], .agg [.lit (.int .i32 3655), .lit (.int .i32 3662)], .agg [.lit (.int .i32 6832), .lit (.int .i32 6911)], .agg [.lit (.int .i32 7616), .lit (.int .i32 7679)], .agg [.lit (.int .i32 8203), .lit (.int .i32 8207)], .agg [.lit (.int .i32 8400), .lit (.int .i32 8447)], .agg [.lit (.int .i32 12330), .lit (.int .i32 12335)], .agg [.lit (.int .i32 12441), .lit (.int .i32 12442)], .agg [.lit (.int .i32 65024), .lit (.int .i32 65039)], .agg [.lit (.int .i32 65056), .lit (.int .i32 65071)], .agg [.lit (.int .i32 917760), .lit (.int .i32 917999)]]
def laid_scrollback_width_wide {H : Type} : DataW H := .agg [.agg [.lit (.int .i32 4352), .lit (.int .i32 4447)], .agg [.lit (.int .i32 9001), .lit (.int .i32 9002)], .agg [.lit (.int .i32 11904), .lit (.int .i32 12329)], .agg [.lit (.int .i32 12336), .lit (.int .i32 12350)], .agg [.lit (.int .i32 12353), .lit (.int .i32 12440)], .agg [.lit (.int .i32 12443), .lit (.int .i32 13311)], .agg [.lit (.int .i32 13312), .lit (.int .i32 19903)], .agg [.lit (.int .i32 19968), .lit (.int .i32 42191)], .agg [.lit (.int .i32 43360), .lit (.int .i32 43391)], .agg [.lit (.int .i32 44032), .lit (.int .i32 55203)], .agg [.lit (.int .i32 63744), .lit (.int .i32 64255)], .agg [.lit (.int .i32 65072), .lit (.int .i32 65135)], .agg [.lit (.int .i32 65280), .lit (.int .i32 65376)], .agg [.lit (.int .i32 65504), .lit (.int .i32 65510)], .agg [.lit (.int .i32 127744), .lit (.int .i32 128591)], .agg [.lit (.int .i32 128640), .lit (.int .i32 128767)], .agg [.lit (.int .i32 129280), .lit (.int .i32 129535)], .agg [.lit (.int .i32 131072), .lit (.int .i32 196605)], .agg [.lit (.int .i32 196608), .lit (.int .i32 262141)]]

/-- 'scrollbacklaw05.PackedCells': WHATEVER THE INPUT: true; the input reads as it did. -/
def packedCellsSpec : ChangeSpec := { name := "packedCells", fn := fun _ => fun
  | [d] => { results := [.lit (.bool true)], args := [d] }
  | _ => none }
def packedCellsRow : OpenClaim := { program := "ytaiijndldngnkaadoor", sum := "a245e4c39bd2806ecedee80e7fac70f23bfdb7f9e0eb55ab0c551b7669ad0929", func := "scrollback/scrollbacklaw05.PackedCells", spec := "packedCells", unfollowed := true, recurses := true, named := ["scrollback/width.marks", "scrollback/width.wide"], apart := false, laid := [("scrollback/width.marks", laid_scrollback_width_marks), ("scrollback/width.wide", laid_scrollback_width_wide)] }
def PackedCellsSaid : Prop := packedCellsRow.holds Tryd.pinned (OpenSpec.ofChange packedCellsSpec)

/-- ITS FALSE NEIGHBOUR: 'it returns false'. Refute it at one input. -/
def packedCellsWrong : ChangeSpec := { name := "packedCells", fn := fun _ => fun
  | [d] => { results := [.lit (.bool false)], args := [d] }
  | _ => none }
def PackedCellsWrongFalsely : Prop := packedCellsRow.holds Tryd.pinned (OpenSpec.ofChange packedCellsWrong)

/-- 'scrollbacklaw05.PackedWords': WHATEVER THE INPUT: true; the input reads as it did. -/
def packedWordsSpec : ChangeSpec := { name := "packedWords", fn := fun _ => fun
  | [d] => { results := [.lit (.bool true)], args := [d] }
  | _ => none }
def packedWordsRow : OpenClaim := { program := "ytaiijndldngnkaadoor", sum := "a245e4c39bd2806ecedee80e7fac70f23bfdb7f9e0eb55ab0c551b7669ad0929", func := "scrollback/scrollbacklaw05.PackedWords", spec := "packedWords", unfollowed := true, recurses := true, named := ["scrollback/width.marks", "scrollback/width.wide"], apart := false, laid := [("scrollback/width.marks", laid_scrollback_width_marks), ("scrollback/width.wide", laid_scrollback_width_wide)] }
def PackedWordsSaid : Prop := packedWordsRow.holds Tryd.pinned (OpenSpec.ofChange packedWordsSpec)

/-- ITS FALSE NEIGHBOUR: 'it returns false'. Refute it at one input. -/
def packedWordsWrong : ChangeSpec := { name := "packedWords", fn := fun _ => fun
  | [d] => { results := [.lit (.bool false)], args := [d] }
  | _ => none }
def PackedWordsWrongFalsely : Prop := packedWordsRow.holds Tryd.pinned (OpenSpec.ofChange packedWordsWrong)

/-- 'scrollbacklaw05.PackedPacks': WHATEVER THE INPUT: true; the input reads as it did. -/
def packedPacksSpec : ChangeSpec := { name := "packedPacks", fn := fun _ => fun
  | [d] => { results := [.lit (.bool true)], args := [d] }
  | _ => none }
def packedPacksRow : OpenClaim := { program := "ytaiijndldngnkaadoor", sum := "a245e4c39bd2806ecedee80e7fac70f23bfdb7f9e0eb55ab0c551b7669ad0929", func := "scrollback/scrollbacklaw05.PackedPacks", spec := "packedPacks", unfollowed := true, recurses := true, named := ["scrollback/width.marks", "scrollback/width.wide"], apart := false, laid := [("scrollback/width.marks", laid_scrollback_width_marks), ("scrollback/width.wide", laid_scrollback_width_wide)] }
def PackedPacksSaid : Prop := packedPacksRow.holds Tryd.pinned (OpenSpec.ofChange packedPacksSpec)

/-- ITS FALSE NEIGHBOUR: 'it returns false'. Refute it at one input. -/
def packedPacksWrong : ChangeSpec := { name := "packedPacks", fn := fun _ => fun
  | [d] => { results := [.lit (.bool false)], args := [d] }
  | _ => none }
def PackedPacksWrongFalsely : Prop := packedPacksRow.holds Tryd.pinned (OpenSpec.ofChange packedPacksWrong)

/-- 'scrollbacklaw05.PackedRuns': WHATEVER THE INPUT: true; the input reads as it did. -/
def packedRunsSpec : ChangeSpec := { name := "packedRuns", fn := fun _ => fun
  | [d1, d2] => { results := [.lit (.bool true)], args := [d1, d2] }
  | _ => none }
def packedRunsRow : OpenClaim := { program := "ytaiijndldngnkaadoor", sum := "a245e4c39bd2806ecedee80e7fac70f23bfdb7f9e0eb55ab0c551b7669ad0929", func := "scrollback/scrollbacklaw05.PackedRuns", spec := "packedRuns", unfollowed := true, recurses := true, named := ["scrollback/width.marks", "scrollback/width.wide"], apart := false, laid := [("scrollback/width.marks", laid_scrollback_width_marks), ("scrollback/width.wide", laid_scrollback_width_wide)] }
def PackedRunsSaid : Prop := packedRunsRow.holds Tryd.pinned (OpenSpec.ofChange packedRunsSpec)

/-- ITS FALSE NEIGHBOUR: 'it returns false'. Refute it at one input. -/
def packedRunsWrong : ChangeSpec := { name := "packedRuns", fn := fun _ => fun
  | [d1, d2] => { results := [.lit (.bool false)], args := [d1, d2] }
  | _ => none }
def PackedRunsWrongFalsely : Prop := packedRunsRow.holds Tryd.pinned (OpenSpec.ofChange packedRunsWrong)

/-- 'scrollbacklaw05.PackedLongs': WHATEVER THE INPUT: true; the input reads as it did. -/
def packedLongsSpec : ChangeSpec := { name := "packedLongs", fn := fun _ => fun
  | [d1, d2, d3] => { results := [.lit (.bool true)], args := [d1, d2, d3] }
  | _ => none }
def packedLongsRow : OpenClaim := { program := "ytaiijndldngnkaadoor", sum := "a245e4c39bd2806ecedee80e7fac70f23bfdb7f9e0eb55ab0c551b7669ad0929", func := "scrollback/scrollbacklaw05.PackedLongs", spec := "packedLongs", unfollowed := true, recurses := true, named := ["scrollback/width.marks", "scrollback/width.wide"], apart := false, laid := [("scrollback/width.marks", laid_scrollback_width_marks), ("scrollback/width.wide", laid_scrollback_width_wide)] }
def PackedLongsSaid : Prop := packedLongsRow.holds Tryd.pinned (OpenSpec.ofChange packedLongsSpec)

/-- ITS FALSE NEIGHBOUR: 'it returns false'. Refute it at one input. -/
def packedLongsWrong : ChangeSpec := { name := "packedLongs", fn := fun _ => fun
  | [d1, d2, d3] => { results := [.lit (.bool false)], args := [d1, d2, d3] }
  | _ => none }
def PackedLongsWrongFalsely : Prop := packedLongsRow.holds Tryd.pinned (OpenSpec.ofChange packedLongsWrong)

/-- 'scrollbacklaw05.PackedHolds': WHATEVER THE INPUT: true; the input reads as it did. -/
def packedHoldsSpec : ChangeSpec := { name := "packedHolds", fn := fun _ => fun
  | [d1, d2] => { results := [.lit (.bool true)], args := [d1, d2] }
  | _ => none }
def packedHoldsRow : OpenClaim := { program := "ytaiijndldngnkaadoor", sum := "a245e4c39bd2806ecedee80e7fac70f23bfdb7f9e0eb55ab0c551b7669ad0929", func := "scrollback/scrollbacklaw05.PackedHolds", spec := "packedHolds", unfollowed := true, recurses := true, named := ["scrollback/width.marks", "scrollback/width.wide"], apart := false, laid := [("scrollback/width.marks", laid_scrollback_width_marks), ("scrollback/width.wide", laid_scrollback_width_wide)] }
def PackedHoldsSaid : Prop := packedHoldsRow.holds Tryd.pinned (OpenSpec.ofChange packedHoldsSpec)

/-- ITS FALSE NEIGHBOUR: 'it returns false'. Refute it at one input. -/
def packedHoldsWrong : ChangeSpec := { name := "packedHolds", fn := fun _ => fun
  | [d1, d2] => { results := [.lit (.bool false)], args := [d1, d2] }
  | _ => none }
def PackedHoldsWrongFalsely : Prop := packedHoldsRow.holds Tryd.pinned (OpenSpec.ofChange packedHoldsWrong)

/- THE SECOND FORM. 'bulk': how many values and letters a reading holds, each counted each time it is reached (what is shared counts as often as it is met; a slice's spare places count too). A statement '..UptoSaid' is the law's where the arguments, and the package variables that the reading takes, are together of bulk at most 1048576: NARROWER than '..Said'. Prove '..Said' where nothing that the law and all that it calls make is longer than what came in: it says more and counts as full. Else prove '..UptoSaid'. A law counts once. -/
mutual
def uptoBulk {H : Type} : DataW H → Nat
  | .lit (.string bytes) => bytes.length + 1
  | .lit _ => 1
  | .nil => 1
  | .ptr d => uptoBulk d + 1
  | .slice elems spare => uptoBulkAll elems + uptoBulkAll spare + 1
  | .agg parts => uptoBulkAll parts + 1
  | .iface _ d => uptoBulk d + 1
  | .map entries => uptoBulkEntries entries + 1
  | .held _ => 1
def uptoBulkAll {H : Type} : List (DataW H) → Nat
  | [] => 0
  | d :: r => uptoBulk d + uptoBulkAll r
def uptoBulkEntries {H : Type} : List (Lit × DataW H) → Nat
  | [] => 0
  | x :: r => uptoBulkEntry x + uptoBulkEntries r
def uptoBulkEntry {H : Type} : Lit × DataW H → Nat
  | (.string bytes, d) => bytes.length + uptoBulk d + 1
  | (_, d) => uptoBulk d + 1
 end
def uptoSmall : (H : Type) → List (DataW H) → Bool := fun _ ds => decide (uptoBulkAll ds ≤ 1048576)
def OpenSpec.upto (s : _root_.Go.ChangeSpec) : _root_.Go.OpenSpec := { _root_.Go.OpenSpec.ofChange s with cond := some uptoSmall }

/-- 'scrollbacklaw05.PackedCells', WHERE WHAT IT READS IS OF BULK AT MOST 1048576: true; the input reads as it did. -/
def packedCellsUptoRow : OpenClaim := { program := "ytaiijndldngnkaadoor", sum := "a245e4c39bd2806ecedee80e7fac70f23bfdb7f9e0eb55ab0c551b7669ad0929", func := "scrollback/scrollbacklaw05.PackedCells", spec := "packedCells", unfollowed := true, recurses := true, named := ["scrollback/width.marks", "scrollback/width.wide"], apart := false, laid := [("scrollback/width.marks", laid_scrollback_width_marks), ("scrollback/width.wide", laid_scrollback_width_wide)], narrowed := true }
def PackedCellsUptoSaid : Prop := packedCellsUptoRow.holds Tryd.pinned (OpenSpec.upto packedCellsSpec)

/-- 'scrollbacklaw05.PackedWords', WHERE WHAT IT READS IS OF BULK AT MOST 1048576: true; the input reads as it did. -/
def packedWordsUptoRow : OpenClaim := { program := "ytaiijndldngnkaadoor", sum := "a245e4c39bd2806ecedee80e7fac70f23bfdb7f9e0eb55ab0c551b7669ad0929", func := "scrollback/scrollbacklaw05.PackedWords", spec := "packedWords", unfollowed := true, recurses := true, named := ["scrollback/width.marks", "scrollback/width.wide"], apart := false, laid := [("scrollback/width.marks", laid_scrollback_width_marks), ("scrollback/width.wide", laid_scrollback_width_wide)], narrowed := true }
def PackedWordsUptoSaid : Prop := packedWordsUptoRow.holds Tryd.pinned (OpenSpec.upto packedWordsSpec)

/-- 'scrollbacklaw05.PackedPacks', WHERE WHAT IT READS IS OF BULK AT MOST 1048576: true; the input reads as it did. -/
def packedPacksUptoRow : OpenClaim := { program := "ytaiijndldngnkaadoor", sum := "a245e4c39bd2806ecedee80e7fac70f23bfdb7f9e0eb55ab0c551b7669ad0929", func := "scrollback/scrollbacklaw05.PackedPacks", spec := "packedPacks", unfollowed := true, recurses := true, named := ["scrollback/width.marks", "scrollback/width.wide"], apart := false, laid := [("scrollback/width.marks", laid_scrollback_width_marks), ("scrollback/width.wide", laid_scrollback_width_wide)], narrowed := true }
def PackedPacksUptoSaid : Prop := packedPacksUptoRow.holds Tryd.pinned (OpenSpec.upto packedPacksSpec)

/-- 'scrollbacklaw05.PackedRuns', WHERE WHAT IT READS IS OF BULK AT MOST 1048576: true; the input reads as it did. -/
def packedRunsUptoRow : OpenClaim := { program := "ytaiijndldngnkaadoor", sum := "a245e4c39bd2806ecedee80e7fac70f23bfdb7f9e0eb55ab0c551b7669ad0929", func := "scrollback/scrollbacklaw05.PackedRuns", spec := "packedRuns", unfollowed := true, recurses := true, named := ["scrollback/width.marks", "scrollback/width.wide"], apart := false, laid := [("scrollback/width.marks", laid_scrollback_width_marks), ("scrollback/width.wide", laid_scrollback_width_wide)], narrowed := true }
def PackedRunsUptoSaid : Prop := packedRunsUptoRow.holds Tryd.pinned (OpenSpec.upto packedRunsSpec)

/-- 'scrollbacklaw05.PackedLongs', WHERE WHAT IT READS IS OF BULK AT MOST 1048576: true; the input reads as it did. -/
def packedLongsUptoRow : OpenClaim := { program := "ytaiijndldngnkaadoor", sum := "a245e4c39bd2806ecedee80e7fac70f23bfdb7f9e0eb55ab0c551b7669ad0929", func := "scrollback/scrollbacklaw05.PackedLongs", spec := "packedLongs", unfollowed := true, recurses := true, named := ["scrollback/width.marks", "scrollback/width.wide"], apart := false, laid := [("scrollback/width.marks", laid_scrollback_width_marks), ("scrollback/width.wide", laid_scrollback_width_wide)], narrowed := true }
def PackedLongsUptoSaid : Prop := packedLongsUptoRow.holds Tryd.pinned (OpenSpec.upto packedLongsSpec)

/-- 'scrollbacklaw05.PackedHolds', WHERE WHAT IT READS IS OF BULK AT MOST 1048576: true; the input reads as it did. -/
def packedHoldsUptoRow : OpenClaim := { program := "ytaiijndldngnkaadoor", sum := "a245e4c39bd2806ecedee80e7fac70f23bfdb7f9e0eb55ab0c551b7669ad0929", func := "scrollback/scrollbacklaw05.PackedHolds", spec := "packedHolds", unfollowed := true, recurses := true, named := ["scrollback/width.marks", "scrollback/width.wide"], apart := false, laid := [("scrollback/width.marks", laid_scrollback_width_marks), ("scrollback/width.wide", laid_scrollback_width_wide)], narrowed := true }
def PackedHoldsUptoSaid : Prop := packedHoldsUptoRow.holds Tryd.pinned (OpenSpec.upto packedHoldsSpec)

end Rows
end Go.Proofs.YtaiijndldngnkaaDoor
