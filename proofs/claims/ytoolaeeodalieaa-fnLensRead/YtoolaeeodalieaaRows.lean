/-
  No cell of these rows narrows 'for every input' (looked for: loops, veiled, ifaces, maps, wideKeys, modest, calm, conditions, laid).
  DERIVED. THE GIVEN ROWS OF THIS SEAT. 5 by the template 'for every input the law returns true; each argument reads behind the call as it read before'; 0 by the template 'total and deterministic' (their statements: YtoolaeeodalieaaTotals.lean).
  GIVEN WITH THE SEED: the statements are not yours to turn. If you find one false, say at which input.
  Laid BY PROGRAM, IN A SANDBOX (cutbox-rows.mjs): the forced cells as the released guide's own fill.sh prints them over the translation 3082d1ccd861b9b4… (all of the seat's roots in one cut). By AI agents, Wed Nov 11 2026. No macro, syntax, notation, axiom, sorry.
-/
import Derived.Test.YtoolaeeodalieaaChecked
import GoSem.Claim
import GoSem.ClaimJoined
import GoSem.ClaimMapViews
import Derived.JoinedTies
import Derived.KernelRfl
namespace Go.Proofs.Ytoolaeeodalieaa
/- THE CELL 'sum', in the pinned program and in every row, IS THE sha256 OF THE DUMP (.gsa) THAT YtoolaeeodalieaaProg.lean LOADS. Nothing in Lean hashes anything: it is a label: what it is worth is what the hold of that sum in a sandbox is worth. -/
noncomputable def Try.pinned : Pinned := { name := "ytoolaeeodalieaa", sum := "3082d1ccd861b9b43f2f1546e450feccad171e106937662b783c040321c70bfe", checked := Try.checked }
namespace Rows
def none {H : Type} : Left H := { results := [], args := [] }

/-- 'laws.FnLens': WHATEVER THE INPUT: true; the input reads as it did. -/
def fnLensSpec : ChangeSpec := { name := "fnLens", fn := fun _ => fun
  | [d] => { results := [.lit (.bool true)], args := [d] }
  | _ => none }
def fnLensRow : OpenClaim := { program := "ytoolaeeodalieaa", sum := "3082d1ccd861b9b43f2f1546e450feccad171e106937662b783c040321c70bfe", func := "loop.example/g00480/laws.FnLens", spec := "fnLens", apart := false }
def FnLensSaid : Prop := fnLensRow.holds Try.pinned (OpenSpec.ofChange fnLensSpec)

/-- ITS FALSE NEIGHBOUR: 'it returns false'. Refute it at one input. -/
def fnLensWrong : ChangeSpec := { name := "fnLens", fn := fun _ => fun
  | [d] => { results := [.lit (.bool false)], args := [d] }
  | _ => none }
def FnLensWrongFalsely : Prop := fnLensRow.holds Try.pinned (OpenSpec.ofChange fnLensWrong)

/-- 'laws.FnLensRead': WHATEVER THE INPUT: true; the input reads as it did. -/
def fnLensReadSpec : ChangeSpec := { name := "fnLensRead", fn := fun _ => fun
  | [d] => { results := [.lit (.bool true)], args := [d] }
  | _ => none }
def fnLensReadRow : OpenClaim := { program := "ytoolaeeodalieaa", sum := "3082d1ccd861b9b43f2f1546e450feccad171e106937662b783c040321c70bfe", func := "loop.example/g00480/laws.FnLensRead", spec := "fnLensRead", apart := false }
def FnLensReadSaid : Prop := fnLensReadRow.holds Try.pinned (OpenSpec.ofChange fnLensReadSpec)

/-- ITS FALSE NEIGHBOUR: 'it returns false'. Refute it at one input. -/
def fnLensReadWrong : ChangeSpec := { name := "fnLensRead", fn := fun _ => fun
  | [d] => { results := [.lit (.bool false)], args := [d] }
  | _ => none }
def FnLensReadWrongFalsely : Prop := fnLensReadRow.holds Try.pinned (OpenSpec.ofChange fnLensReadWrong)

/-- 'laws.FnExactPutLen': WHATEVER THE INPUT: true; the input reads as it did. -/
def fnExactPutLenSpec : ChangeSpec := { name := "fnExactPutLen", fn := fun _ => fun
  | [d1, d2] => { results := [.lit (.bool true)], args := [d1, d2] }
  | _ => none }
def fnExactPutLenRow : OpenClaim := { program := "ytoolaeeodalieaa", sum := "3082d1ccd861b9b43f2f1546e450feccad171e106937662b783c040321c70bfe", func := "loop.example/g00480/laws.FnExactPutLen", spec := "fnExactPutLen", apart := false }
def FnExactPutLenSaid : Prop := fnExactPutLenRow.holds Try.pinned (OpenSpec.ofChange fnExactPutLenSpec)

/-- ITS FALSE NEIGHBOUR: 'it returns false'. Refute it at one input. -/
def fnExactPutLenWrong : ChangeSpec := { name := "fnExactPutLen", fn := fun _ => fun
  | [d1, d2] => { results := [.lit (.bool false)], args := [d1, d2] }
  | _ => none }
def FnExactPutLenWrongFalsely : Prop := fnExactPutLenRow.holds Try.pinned (OpenSpec.ofChange fnExactPutLenWrong)

/-- 'laws.FnExactGetLen': WHATEVER THE INPUT: true; the input reads as it did. -/
def fnExactGetLenSpec : ChangeSpec := { name := "fnExactGetLen", fn := fun _ => fun
  | [d1, d2] => { results := [.lit (.bool true)], args := [d1, d2] }
  | _ => none }
def fnExactGetLenRow : OpenClaim := { program := "ytoolaeeodalieaa", sum := "3082d1ccd861b9b43f2f1546e450feccad171e106937662b783c040321c70bfe", func := "loop.example/g00480/laws.FnExactGetLen", spec := "fnExactGetLen", apart := false }
def FnExactGetLenSaid : Prop := fnExactGetLenRow.holds Try.pinned (OpenSpec.ofChange fnExactGetLenSpec)

/-- ITS FALSE NEIGHBOUR: 'it returns false'. Refute it at one input. -/
def fnExactGetLenWrong : ChangeSpec := { name := "fnExactGetLen", fn := fun _ => fun
  | [d1, d2] => { results := [.lit (.bool false)], args := [d1, d2] }
  | _ => none }
def FnExactGetLenWrongFalsely : Prop := fnExactGetLenRow.holds Try.pinned (OpenSpec.ofChange fnExactGetLenWrong)

/-- 'laws.FnExactLenSize': WHATEVER THE INPUT: true; the input reads as it did. -/
def fnExactLenSizeSpec : ChangeSpec := { name := "fnExactLenSize", fn := fun _ => fun
  | [d] => { results := [.lit (.bool true)], args := [d] }
  | _ => none }
def fnExactLenSizeRow : OpenClaim := { program := "ytoolaeeodalieaa", sum := "3082d1ccd861b9b43f2f1546e450feccad171e106937662b783c040321c70bfe", func := "loop.example/g00480/laws.FnExactLenSize", spec := "fnExactLenSize", apart := false }
def FnExactLenSizeSaid : Prop := fnExactLenSizeRow.holds Try.pinned (OpenSpec.ofChange fnExactLenSizeSpec)

/-- ITS FALSE NEIGHBOUR: 'it returns false'. Refute it at one input. -/
def fnExactLenSizeWrong : ChangeSpec := { name := "fnExactLenSize", fn := fun _ => fun
  | [d] => { results := [.lit (.bool false)], args := [d] }
  | _ => none }
def FnExactLenSizeWrongFalsely : Prop := fnExactLenSizeRow.holds Try.pinned (OpenSpec.ofChange fnExactLenSizeWrong)

/- THE SECOND FORM. 'bulk': how many values and letters a reading holds, each counted each time it is reached (what is shared counts as often as it is met; a slice's spare places count too). A statement '..UptoSaid' is the law's where the arguments, and the package variables that the reading takes, are together of bulk at most 1048576: NARROWER than '..Said'. Prove '..Said' where nothing that the law and all that it calls make is longer than what came in: it says more and counts as full. Else prove '..UptoSaid'. A law counts once. -/
mutual
def uptoBulk {H : Type} : DataW H → Nat
  | .lit (.string bytes) => bytes.length + 1
  | .lit _ => 1
  | .nil => 1
  | .ptr d => uptoBulk d + 1
  | .slice elems spare => uptoBulkAll elems + uptoBulkAll spare + 1
  | .agg parts => uptoBulkAll parts + 1
  | .iface _ d => uptoBulk d + 1
  | .map entries => uptoBulkEntries entries + 1
  | .held _ => 1
def uptoBulkAll {H : Type} : List (DataW H) → Nat
  | [] => 0
  | d :: r => uptoBulk d + uptoBulkAll r
def uptoBulkEntries {H : Type} : List (Lit × DataW H) → Nat
  | [] => 0
  | x :: r => uptoBulkEntry x + uptoBulkEntries r
def uptoBulkEntry {H : Type} : Lit × DataW H → Nat
  | (.string bytes, d) => bytes.length + uptoBulk d + 1
  | (_, d) => uptoBulk d + 1
 end
def uptoSmall : (H : Type) → List (DataW H) → Bool := fun _ ds => decide (uptoBulkAll ds ≤ 1048576)
def OpenSpec.upto (s : _root_.Go.ChangeSpec) : _root_.Go.OpenSpec := { _root_.Go.OpenSpec.ofChange s with cond := some uptoSmall }

/-- 'laws.FnLens', WHERE WHAT IT READS IS OF BULK AT MOST 1048576: true; the input reads as it did. -/
def fnLensUptoRow : OpenClaim := { program := "ytoolaeeodalieaa", sum := "3082d1ccd861b9b43f2f1546e450feccad171e106937662b783c040321c70bfe", func := "loop.example/g00480/laws.FnLens", spec := "fnLens", apart := false, narrowed := true }
def FnLensUptoSaid : Prop := fnLensUptoRow.holds Try.pinned (OpenSpec.upto fnLensSpec)

/-- 'laws.FnLensRead', WHERE WHAT IT READS IS OF BULK AT MOST 1048576: true; the input reads as it did. -/
def fnLensReadUptoRow : OpenClaim := { program := "ytoolaeeodalieaa", sum := "3082d1ccd861b9b43f2f1546e450feccad171e106937662b783c040321c70bfe", func := "loop.example/g00480/laws.FnLensRead", spec := "fnLensRead", apart := false, narrowed := true }
def FnLensReadUptoSaid : Prop := fnLensReadUptoRow.holds Try.pinned (OpenSpec.upto fnLensReadSpec)

/-- 'laws.FnExactPutLen', WHERE WHAT IT READS IS OF BULK AT MOST 1048576: true; the input reads as it did. -/
def fnExactPutLenUptoRow : OpenClaim := { program := "ytoolaeeodalieaa", sum := "3082d1ccd861b9b43f2f1546e450feccad171e106937662b783c040321c70bfe", func := "loop.example/g00480/laws.FnExactPutLen", spec := "fnExactPutLen", apart := false, narrowed := true }
def FnExactPutLenUptoSaid : Prop := fnExactPutLenUptoRow.holds Try.pinned (OpenSpec.upto fnExactPutLenSpec)

/-- 'laws.FnExactGetLen', WHERE WHAT IT READS IS OF BULK AT MOST 1048576: true; the input reads as it did. -/
def fnExactGetLenUptoRow : OpenClaim := { program := "ytoolaeeodalieaa", sum := "3082d1ccd861b9b43f2f1546e450feccad171e106937662b783c040321c70bfe", func := "loop.example/g00480/laws.FnExactGetLen", spec := "fnExactGetLen", apart := false, narrowed := true }
def FnExactGetLenUptoSaid : Prop := fnExactGetLenUptoRow.holds Try.pinned (OpenSpec.upto fnExactGetLenSpec)

/-- 'laws.FnExactLenSize', WHERE WHAT IT READS IS OF BULK AT MOST 1048576: true; the input reads as it did. -/
def fnExactLenSizeUptoRow : OpenClaim := { program := "ytoolaeeodalieaa", sum := "3082d1ccd861b9b43f2f1546e450feccad171e106937662b783c040321c70bfe", func := "loop.example/g00480/laws.FnExactLenSize", spec := "fnExactLenSize", apart := false, narrowed := true }
def FnExactLenSizeUptoSaid : Prop := fnExactLenSizeUptoRow.holds Try.pinned (OpenSpec.upto fnExactLenSizeSpec)

end Rows
end Go.Proofs.Ytoolaeeodalieaa
