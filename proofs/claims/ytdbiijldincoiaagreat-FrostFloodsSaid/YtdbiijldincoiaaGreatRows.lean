/-
  No cell of these rows narrows 'for every input' (looked for: loops, veiled, ifaces, maps, wideKeys, modest, calm, conditions, laid).
  DERIVED. THE GIVEN ROWS OF THIS SEAT. 3 by the template 'for every input the law returns true; each argument reads behind the call as it read before'; 0 by the template 'total and deterministic' (their statements: YtdbiijldincoiaaGreatTotals.lean).
  GIVEN WITH THE SEED: the statements are not yours to turn. If you find one false, say at which input.
  Laid BY PROGRAM, IN A SANDBOX (cutbox-rows.mjs): the forced cells as the released guide's own fill.sh prints them over the translation a9983b96d769b9e5… (all of the seat's roots in one cut). By AI agents, Wed Nov 11 2026. No macro, syntax, notation, axiom, sorry.
-/
import Derived.Test.YtdbiijldincoiaaGreatChecked
import GoSem.Claim
import GoSem.ClaimJoined
import GoSem.ClaimMapViews
import Derived.JoinedTies
import Derived.KernelRfl
namespace Go.Proofs.YtdbiijldincoiaaGreat
/- THE CELL 'sum', in the pinned program and in every row, IS THE sha256 OF THE DUMP (.gsa) THAT YtdbiijldincoiaaGreatProg.lean LOADS. Nothing in Lean hashes anything: it is a label: what it is worth is what the hold of that sum in a sandbox is worth. -/
noncomputable def Tryz.pinned : Pinned := { name := "ytdbiijldincoiaagreat", sum := "a9983b96d769b9e5b94f0cad5401b5bb2c76876e6e83bc716e328cfc22f26ff0", checked := Tryz.checked }
namespace Rows
def none {H : Type} : Left H := { results := [], args := [] }

/-- 'sastrugilaw01.FrostRuns': WHATEVER THE INPUT: true; the input reads as it did. -/
def frostRunsSpec : ChangeSpec := { name := "frostRuns", fn := fun _ => fun
  | [d1, d2, d3, d4] => { results := [.lit (.bool true)], args := [d1, d2, d3, d4] }
  | _ => none }
def frostRunsRow : OpenClaim := { program := "ytdbiijldincoiaagreat", sum := "a9983b96d769b9e5b94f0cad5401b5bb2c76876e6e83bc716e328cfc22f26ff0", func := "sastrugi/sastrugilaw01.FrostRuns", spec := "frostRuns", unfollowed := true, recurses := true, apart := false }
def FrostRunsSaid : Prop := frostRunsRow.holds Tryz.pinned (OpenSpec.ofChange frostRunsSpec)

/-- ITS FALSE NEIGHBOUR: 'it returns false'. Refute it at one input. -/
def frostRunsWrong : ChangeSpec := { name := "frostRuns", fn := fun _ => fun
  | [d1, d2, d3, d4] => { results := [.lit (.bool false)], args := [d1, d2, d3, d4] }
  | _ => none }
def FrostRunsWrongFalsely : Prop := frostRunsRow.holds Tryz.pinned (OpenSpec.ofChange frostRunsWrong)

/-- 'sastrugilaw01.FrostBears': WHATEVER THE INPUT: true; the input reads as it did. -/
def frostBearsSpec : ChangeSpec := { name := "frostBears", fn := fun _ => fun
  | [d1, d2, d3, d4, d5] => { results := [.lit (.bool true)], args := [d1, d2, d3, d4, d5] }
  | _ => none }
def frostBearsRow : OpenClaim := { program := "ytdbiijldincoiaagreat", sum := "a9983b96d769b9e5b94f0cad5401b5bb2c76876e6e83bc716e328cfc22f26ff0", func := "sastrugi/sastrugilaw01.FrostBears", spec := "frostBears", unfollowed := true, recurses := true, apart := false }
def FrostBearsSaid : Prop := frostBearsRow.holds Tryz.pinned (OpenSpec.ofChange frostBearsSpec)

/-- ITS FALSE NEIGHBOUR: 'it returns false'. Refute it at one input. -/
def frostBearsWrong : ChangeSpec := { name := "frostBears", fn := fun _ => fun
  | [d1, d2, d3, d4, d5] => { results := [.lit (.bool false)], args := [d1, d2, d3, d4, d5] }
  | _ => none }
def FrostBearsWrongFalsely : Prop := frostBearsRow.holds Tryz.pinned (OpenSpec.ofChange frostBearsWrong)

/-- 'sastrugilaw01.FrostFloods': WHATEVER THE INPUT: true; the input reads as it did. -/
def frostFloodsSpec : ChangeSpec := { name := "frostFloods", fn := fun _ => fun
  | [d1, d2, d3, d4, d5, d6] => { results := [.lit (.bool true)], args := [d1, d2, d3, d4, d5, d6] }
  | _ => none }
def frostFloodsRow : OpenClaim := { program := "ytdbiijldincoiaagreat", sum := "a9983b96d769b9e5b94f0cad5401b5bb2c76876e6e83bc716e328cfc22f26ff0", func := "sastrugi/sastrugilaw01.FrostFloods", spec := "frostFloods", unfollowed := true, recurses := true, apart := false }
def FrostFloodsSaid : Prop := frostFloodsRow.holds Tryz.pinned (OpenSpec.ofChange frostFloodsSpec)

/-- ITS FALSE NEIGHBOUR: 'it returns false'. Refute it at one input. -/
def frostFloodsWrong : ChangeSpec := { name := "frostFloods", fn := fun _ => fun
  | [d1, d2, d3, d4, d5, d6] => { results := [.lit (.bool false)], args := [d1, d2, d3, d4, d5, d6] }
  | _ => none }
def FrostFloodsWrongFalsely : Prop := frostFloodsRow.holds Tryz.pinned (OpenSpec.ofChange frostFloodsWrong)

/- THE SECOND FORM. 'bulk': how many values and letters a reading holds, each counted each time it is reached (what is shared counts as often as it is met; a slice's spare places count too). A statement '..UptoSaid' is the law's where the arguments, and the package variables that the reading takes, are together of bulk at most 1048576: NARROWER than '..Said'. Prove '..Said' where nothing that the law and all that it calls make is longer than what came in: it says more and counts as full. Else prove '..UptoSaid'. A law counts once. -/
mutual
def uptoBulk {H : Type} : DataW H → Nat
  | .lit (.string bytes) => bytes.length + 1
  | .lit _ => 1
  | .nil => 1
  | .ptr d => uptoBulk d + 1
  | .slice elems spare => uptoBulkAll elems + uptoBulkAll spare + 1
  | .agg parts => uptoBulkAll parts + 1
  | .iface _ d => uptoBulk d + 1
  | .map entries => uptoBulkEntries entries + 1
  | .held _ => 1
def uptoBulkAll {H : Type} : List (DataW H) → Nat
  | [] => 0
  | d :: r => uptoBulk d + uptoBulkAll r
def uptoBulkEntries {H : Type} : List (Lit × DataW H) → Nat
  | [] => 0
  | x :: r => uptoBulkEntry x + uptoBulkEntries r
def uptoBulkEntry {H : Type} : Lit × DataW H → Nat
  | (.string bytes, d) => bytes.length + uptoBulk d + 1
  | (_, d) => uptoBulk d + 1
 end
def uptoSmall : (H : Type) → List (DataW H) → Bool := fun _ ds => decide (uptoBulkAll ds ≤ 1048576)
def OpenSpec.upto (s : _root_.Go.ChangeSpec) : _root_.Go.OpenSpec := { _root_.Go.OpenSpec.ofChange s with cond := some uptoSmall }

/-- 'sastrugilaw01.FrostRuns', WHERE WHAT IT READS IS OF BULK AT MOST 1048576: true; the input reads as it did. -/
def frostRunsUptoRow : OpenClaim := { program := "ytdbiijldincoiaagreat", sum := "a9983b96d769b9e5b94f0cad5401b5bb2c76876e6e83bc716e328cfc22f26ff0", func := "sastrugi/sastrugilaw01.FrostRuns", spec := "frostRuns", unfollowed := true, recurses := true, apart := false, narrowed := true }
def FrostRunsUptoSaid : Prop := frostRunsUptoRow.holds Tryz.pinned (OpenSpec.upto frostRunsSpec)

/-- 'sastrugilaw01.FrostBears', WHERE WHAT IT READS IS OF BULK AT MOST 1048576: true; the input reads as it did. -/
def frostBearsUptoRow : OpenClaim := { program := "ytdbiijldincoiaagreat", sum := "a9983b96d769b9e5b94f0cad5401b5bb2c76876e6e83bc716e328cfc22f26ff0", func := "sastrugi/sastrugilaw01.FrostBears", spec := "frostBears", unfollowed := true, recurses := true, apart := false, narrowed := true }
def FrostBearsUptoSaid : Prop := frostBearsUptoRow.holds Tryz.pinned (OpenSpec.upto frostBearsSpec)

/-- 'sastrugilaw01.FrostFloods', WHERE WHAT IT READS IS OF BULK AT MOST 1048576: true; the input reads as it did. -/
def frostFloodsUptoRow : OpenClaim := { program := "ytdbiijldincoiaagreat", sum := "a9983b96d769b9e5b94f0cad5401b5bb2c76876e6e83bc716e328cfc22f26ff0", func := "sastrugi/sastrugilaw01.FrostFloods", spec := "frostFloods", unfollowed := true, recurses := true, apart := false, narrowed := true }
def FrostFloodsUptoSaid : Prop := frostFloodsUptoRow.holds Tryz.pinned (OpenSpec.upto frostFloodsSpec)

end Rows
end Go.Proofs.YtdbiijldincoiaaGreat
