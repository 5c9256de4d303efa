/-
  No cell of these rows narrows 'for every input' (looked for: loops, veiled, ifaces, maps, wideKeys, modest, calm, conditions, laid).
  DERIVED. THE GIVEN ROWS OF THIS SEAT. 3 by the template 'for every input the law returns true; each argument reads behind the call as it read before'; 0 by the template 'total and deterministic' (their statements: YtpblpdcdhgjecaaTotals.lean).
  GIVEN WITH THE SEED: the statements are not yours to turn. If you find one false, say at which input.
  Laid BY PROGRAM, IN A SANDBOX (cutbox-rows.mjs): the forced cells as the released guide's own fill.sh prints them over the translation 8f3ed1c0d3f00a0a… (all of the seat's roots in one cut). By AI agents, Wed Nov 11 2026. No macro, syntax, notation, axiom, sorry.
-/
import Derived.Test.YtpblpdcdhgjecaaChecked
import GoSem.Claim
import GoSem.ClaimJoined
import GoSem.ClaimMapViews
import Derived.JoinedTies
import Derived.KernelRfl
namespace Go.Proofs.Ytpblpdcdhgjecaa
/- THE CELL 'sum', in the pinned program and in every row, IS THE sha256 OF THE DUMP (.gsa) THAT YtpblpdcdhgjecaaProg.lean LOADS. Nothing in Lean hashes anything: it is a label: what it is worth is what the hold of that sum in a sandbox is worth. -/
noncomputable def Try.pinned : Pinned := { name := "ytpblpdcdhgjecaa", sum := "8f3ed1c0d3f00a0a9e561b0cad4b5a68263c12696b59d9c95c6355b3fd7171e0", checked := Try.checked }
namespace Rows
def none {H : Type} : Left H := { results := [], args := [] }

/-- 'laws.FnJoinedResidues': WHATEVER THE INPUT: true; the input reads as it did. -/
def fnJoinedResiduesSpec : ChangeSpec := { name := "fnJoinedResidues", fn := fun _ => fun
  | [d1, d2] => { results := [.lit (.bool true)], args := [d1, d2] }
  | _ => none }
def fnJoinedResiduesRow : OpenClaim := { program := "ytpblpdcdhgjecaa", sum := "8f3ed1c0d3f00a0a9e561b0cad4b5a68263c12696b59d9c95c6355b3fd7171e0", func := "loop.example/g01120/laws.FnJoinedResidues", spec := "fnJoinedResidues", named := ["math/bits.divideError", "math/bits.overflowError"], apart := false }
def FnJoinedResiduesSaid : Prop := fnJoinedResiduesRow.holds Try.pinned (OpenSpec.ofChange fnJoinedResiduesSpec)

/-- ITS FALSE NEIGHBOUR: 'it returns false'. Refute it at one input. -/
def fnJoinedResiduesWrong : ChangeSpec := { name := "fnJoinedResidues", fn := fun _ => fun
  | [d1, d2] => { results := [.lit (.bool false)], args := [d1, d2] }
  | _ => none }
def FnJoinedResiduesWrongFalsely : Prop := fnJoinedResiduesRow.holds Try.pinned (OpenSpec.ofChange fnJoinedResiduesWrong)

/-- 'laws.FnExactInverseOf': WHATEVER THE INPUT: true; the input reads as it did. -/
def fnExactInverseOfSpec : ChangeSpec := { name := "fnExactInverseOf", fn := fun _ => fun
  | [d1, d2] => { results := [.lit (.bool true)], args := [d1, d2] }
  | _ => none }
def fnExactInverseOfRow : OpenClaim := { program := "ytpblpdcdhgjecaa", sum := "8f3ed1c0d3f00a0a9e561b0cad4b5a68263c12696b59d9c95c6355b3fd7171e0", func := "loop.example/g01120/laws.FnExactInverseOf", spec := "fnExactInverseOf", named := ["math/bits.divideError", "math/bits.overflowError"], apart := false }
def FnExactInverseOfSaid : Prop := fnExactInverseOfRow.holds Try.pinned (OpenSpec.ofChange fnExactInverseOfSpec)

/-- ITS FALSE NEIGHBOUR: 'it returns false'. Refute it at one input. -/
def fnExactInverseOfWrong : ChangeSpec := { name := "fnExactInverseOf", fn := fun _ => fun
  | [d1, d2] => { results := [.lit (.bool false)], args := [d1, d2] }
  | _ => none }
def FnExactInverseOfWrongFalsely : Prop := fnExactInverseOfRow.holds Try.pinned (OpenSpec.ofChange fnExactInverseOfWrong)

/-- 'laws.FnExactJoinResidues': WHATEVER THE INPUT: true; the input reads as it did. -/
def fnExactJoinResiduesSpec : ChangeSpec := { name := "fnExactJoinResidues", fn := fun _ => fun
  | [d1, d2, d3, d4] => { results := [.lit (.bool true)], args := [d1, d2, d3, d4] }
  | _ => none }
def fnExactJoinResiduesRow : OpenClaim := { program := "ytpblpdcdhgjecaa", sum := "8f3ed1c0d3f00a0a9e561b0cad4b5a68263c12696b59d9c95c6355b3fd7171e0", func := "loop.example/g01120/laws.FnExactJoinResidues", spec := "fnExactJoinResidues", named := ["math/bits.divideError", "math/bits.overflowError"], apart := false }
def FnExactJoinResiduesSaid : Prop := fnExactJoinResiduesRow.holds Try.pinned (OpenSpec.ofChange fnExactJoinResiduesSpec)

/-- ITS FALSE NEIGHBOUR: 'it returns false'. Refute it at one input. -/
def fnExactJoinResiduesWrong : ChangeSpec := { name := "fnExactJoinResidues", fn := fun _ => fun
  | [d1, d2, d3, d4] => { results := [.lit (.bool false)], args := [d1, d2, d3, d4] }
  | _ => none }
def FnExactJoinResiduesWrongFalsely : Prop := fnExactJoinResiduesRow.holds Try.pinned (OpenSpec.ofChange fnExactJoinResiduesWrong)

/- THE SECOND FORM. 'bulk': how many values and letters a reading holds, each counted each time it is reached (what is shared counts as often as it is met; a slice's spare places count too). A statement '..UptoSaid' is the law's where the arguments, and the package variables that the reading takes, are together of bulk at most 1048576: NARROWER than '..Said'. Prove '..Said' where nothing that the law and all that it calls make is longer than what came in: it says more and counts as full. Else prove '..UptoSaid'. A law counts once. -/
mutual
def uptoBulk {H : Type} : DataW H → Nat
  | .lit (.string bytes) => bytes.length + 1
  | .lit _ => 1
  | .nil => 1
  | .ptr d => uptoBulk d + 1
  | .slice elems spare => uptoBulkAll elems + uptoBulkAll spare + 1
  | .agg parts => uptoBulkAll parts + 1
  | .iface _ d => uptoBulk d + 1
  | .map entries => uptoBulkEntries entries + 1
  | .held _ => 1
def uptoBulkAll {H : Type} : List (DataW H) → Nat
  | [] => 0
  | d :: r => uptoBulk d + uptoBulkAll r
def uptoBulkEntries {H : Type} : List (Lit × DataW H) → Nat
  | [] => 0
  | x :: r => uptoBulkEntry x + uptoBulkEntries r
def uptoBulkEntry {H : Type} : Lit × DataW H → Nat
  | (.string bytes, d) => bytes.length + uptoBulk d + 1
  | (_, d) => uptoBulk d + 1
 end
def uptoSmall : (H : Type) → List (DataW H) → Bool := fun _ ds => decide (uptoBulkAll ds ≤ 1048576)
def OpenSpec.upto (s : _root_.Go.ChangeSpec) : _root_.Go.OpenSpec := { _root_.Go.OpenSpec.ofChange s with cond := some uptoSmall }

/-- 'laws.FnJoinedResidues', WHERE WHAT IT READS IS OF BULK AT MOST 1048576: true; the input reads as it did. -/
def fnJoinedResiduesUptoRow : OpenClaim := { program := "ytpblpdcdhgjecaa", sum := "8f3ed1c0d3f00a0a9e561b0cad4b5a68263c12696b59d9c95c6355b3fd7171e0", func := "loop.example/g01120/laws.FnJoinedResidues", spec := "fnJoinedResidues", named := ["math/bits.divideError", "math/bits.overflowError"], apart := false, narrowed := true }
def FnJoinedResiduesUptoSaid : Prop := fnJoinedResiduesUptoRow.holds Try.pinned (OpenSpec.upto fnJoinedResiduesSpec)

/-- 'laws.FnExactInverseOf', WHERE WHAT IT READS IS OF BULK AT MOST 1048576: true; the input reads as it did. -/
def fnExactInverseOfUptoRow : OpenClaim := { program := "ytpblpdcdhgjecaa", sum := "8f3ed1c0d3f00a0a9e561b0cad4b5a68263c12696b59d9c95c6355b3fd7171e0", func := "loop.example/g01120/laws.FnExactInverseOf", spec := "fnExactInverseOf", named := ["math/bits.divideError", "math/bits.overflowError"], apart := false, narrowed := true }
def FnExactInverseOfUptoSaid : Prop := fnExactInverseOfUptoRow.holds Try.pinned (OpenSpec.upto fnExactInverseOfSpec)

/-- 'laws.FnExactJoinResidues', WHERE WHAT IT READS IS OF BULK AT MOST 1048576: true; the input reads as it did. -/
def fnExactJoinResiduesUptoRow : OpenClaim := { program := "ytpblpdcdhgjecaa", sum := "8f3ed1c0d3f00a0a9e561b0cad4b5a68263c12696b59d9c95c6355b3fd7171e0", func := "loop.example/g01120/laws.FnExactJoinResidues", spec := "fnExactJoinResidues", named := ["math/bits.divideError", "math/bits.overflowError"], apart := false, narrowed := true }
def FnExactJoinResiduesUptoSaid : Prop := fnExactJoinResiduesUptoRow.holds Try.pinned (OpenSpec.upto fnExactJoinResiduesSpec)

end Rows
end Go.Proofs.Ytpblpdcdhgjecaa
