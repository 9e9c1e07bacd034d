/-
  NARROWER THAN 'FOR EVERY INPUT', by the rows' own cells (each row's printed sentence says how): FnExactTypeName: laid.
  DERIVED. THE GIVEN ROWS OF THIS SEAT. 1 by the template 'for every input the law returns true; each argument reads behind the call as it read before'; 0 by the template 'total and deterministic' (their statements: YtjjplfedaichcaaDoorTotals.lean).
  GIVEN WITH THE SEED: the statements are not yours to turn. If you find one false, say at which input.
  Laid BY PROGRAM, IN A SANDBOX (cutbox-rows.mjs): the forced cells as the released guide's own fill.sh prints them over the translation 619c192403fe5239… (all of the seat's roots in one cut). By AI agents, Wed Nov 11 2026. No macro, syntax, notation, axiom, sorry.
-/
import Derived.Test.YtjjplfedaichcaaDoorChecked
import GoSem.Claim
import GoSem.ClaimJoined
import GoSem.ClaimMapViews
import Derived.JoinedTies
import Derived.KernelRfl
namespace Go.Proofs.YtjjplfedaichcaaDoor
/- THE CELL 'sum', in the pinned program and in every row, IS THE sha256 OF THE DUMP (.gsa) THAT YtjjplfedaichcaaDoorProg.lean LOADS. Nothing in Lean hashes anything: it is a label: what it is worth is what the hold of that sum in a sandbox is worth. -/
noncomputable def Tryd.pinned : Pinned := { name := "ytjjplfedaichcaadoor", sum := "619c192403fe5239d3c2ce1f1c211b10eba4c2836e781e8e60cf3e193196f8a3", checked := Tryd.checked }
namespace Rows
def none {H : Type} : Left H := { results := [], args := [] }

/- WHAT THE LISTED PACKAGE-LEVEL VARIABLES READ AS WHEN THE CALL BEGINS. Each datum BY PROGRAM (the guide's laid-datum.mjs) off the statement by which the dump's own 'gosem.cut.vars' lays the variable. In a bare row this is a premise. The card (YtjjplfedaichcaaDoorCards.lean) ties it to the program's text. -/
def laid_loop_example_g00480_impl_typeNames {H : Type} : DataW H := .agg [.lit (.string [99, 111, 110, 110, 101, 99, 116]), .lit (.string [99, 111, 110, 110, 97, 99, 107]), .lit (.string [112, 117, 98, 108, 105, 115, 104]), .lit (.string [112, 117, 98, 97, 99, 107]), .lit (.string [112, 117, 98, 114, 101, 99]), .lit (.string [112, 117, 98, 114, 101, 108]), .lit (.string [112, 117, 98, 99, 111, 109, 112]), .lit (.string [115, 117, 98, 115, 99, 114, 105, 98, 101]), .lit (.string [115, 117, 98, 97, 99, 107]), .lit (.string [117, 110, 115, 117, 98, 115, 99, 114, 105, 98, 101]), .lit (.string [117, 110, 115, 117, 98, 97, 99, 107]), .lit (.string [112, 105, 110, 103, 114, 101, 113]), .lit (.string [112, 105, 110, 103, 114, 101, 115, 112]), .lit (.string [100, 105, 115, 99, 111, 110, 110, 101, 99, 116])]

/-- 'laws.FnExactTypeName': WHATEVER THE INPUT: true; the input reads as it did. -/
def fnExactTypeNameSpec : ChangeSpec := { name := "fnExactTypeName", vars := ["loop.example/g00480/impl.typeNames"], fn := fun _ => fun
  | [d, g1] => { results := [.lit (.bool true)], args := [d], vars := [g1] }
  | _ => none }
def fnExactTypeNameRow : OpenClaim := { program := "ytjjplfedaichcaadoor", sum := "619c192403fe5239d3c2ce1f1c211b10eba4c2836e781e8e60cf3e193196f8a3", func := "loop.example/g00480/laws.FnExactTypeName", spec := "fnExactTypeName", named := ["loop.example/g00480/impl.typeNames"], apart := false, laid := [("loop.example/g00480/impl.typeNames", laid_loop_example_g00480_impl_typeNames)] }
def FnExactTypeNameSaid : Prop := fnExactTypeNameRow.holds Tryd.pinned (OpenSpec.ofChange fnExactTypeNameSpec)

/-- ITS FALSE NEIGHBOUR: 'it returns false'. Refute it at one input. -/
def fnExactTypeNameWrong : ChangeSpec := { name := "fnExactTypeName", vars := ["loop.example/g00480/impl.typeNames"], fn := fun _ => fun
  | [d, g1] => { results := [.lit (.bool false)], args := [d], vars := [g1] }
  | _ => none }
def FnExactTypeNameWrongFalsely : Prop := fnExactTypeNameRow.holds Tryd.pinned (OpenSpec.ofChange fnExactTypeNameWrong)

/- THE SECOND FORM. 'bulk': how many values and letters a reading holds, each counted each time it is reached (what is shared counts as often as it is met; a slice's spare places count too). A statement '..UptoSaid' is the law's where the arguments, and the package variables that the reading takes, are together of bulk at most 1048576: NARROWER than '..Said'. Prove '..Said' where nothing that the law and all that it calls make is longer than what came in: it says more and counts as full. Else prove '..UptoSaid'. A law counts once. -/
mutual
def uptoBulk {H : Type} : DataW H → Nat
  | .lit (.string bytes) => bytes.length + 1
  | .lit _ => 1
  | .nil => 1
  | .ptr d => uptoBulk d + 1
  | .slice elems spare => uptoBulkAll elems + uptoBulkAll spare + 1
  | .agg parts => uptoBulkAll parts + 1
  | .iface _ d => uptoBulk d + 1
  | .map entries => uptoBulkEntries entries + 1
  | .held _ => 1
def uptoBulkAll {H : Type} : List (DataW H) → Nat
  | [] => 0
  | d :: r => uptoBulk d + uptoBulkAll r
def uptoBulkEntries {H : Type} : List (Lit × DataW H) → Nat
  | [] => 0
  | x :: r => uptoBulkEntry x + uptoBulkEntries r
def uptoBulkEntry {H : Type} : Lit × DataW H → Nat
  | (.string bytes, d) => bytes.length + uptoBulk d + 1
  | (_, d) => uptoBulk d + 1
 end
def uptoSmall : (H : Type) → List (DataW H) → Bool := fun _ ds => decide (uptoBulkAll ds ≤ 1048576)
def OpenSpec.upto (s : _root_.Go.ChangeSpec) : _root_.Go.OpenSpec := { _root_.Go.OpenSpec.ofChange s with cond := some uptoSmall }

/-- 'laws.FnExactTypeName', WHERE WHAT IT READS IS OF BULK AT MOST 1048576: true; the input reads as it did. -/
def fnExactTypeNameUptoRow : OpenClaim := { program := "ytjjplfedaichcaadoor", sum := "619c192403fe5239d3c2ce1f1c211b10eba4c2836e781e8e60cf3e193196f8a3", func := "loop.example/g00480/laws.FnExactTypeName", spec := "fnExactTypeName", named := ["loop.example/g00480/impl.typeNames"], apart := false, laid := [("loop.example/g00480/impl.typeNames", laid_loop_example_g00480_impl_typeNames)], narrowed := true }
def FnExactTypeNameUptoSaid : Prop := fnExactTypeNameUptoRow.holds Tryd.pinned (OpenSpec.upto fnExactTypeNameSpec)

end Rows
end Go.Proofs.YtjjplfedaichcaaDoor
