/-
  NARROWER THAN 'FOR EVERY INPUT', by the rows' own cells (each row's printed sentence says how): FnExactFarTerm: ifaces, laid · FnExactFarTerms: ifaces, laid · FnExactFarSum: ifaces, laid · FnExactBackTerm: ifaces, laid · FnExactPeriodOf: ifaces, laid · FnExactResiduesOf: ifaces, laid · FnExactZeroPlaces: ifaces, laid · FnExactFirstZero: ifaces, laid · FnFarTerms: ifaces, laid · FnFarSums: ifaces, laid · FnPeriods: ifaces, laid · FnBackTerms: ifaces, laid.
  DERIVED. THE GIVEN ROWS OF THIS SEAT. 12 by the template 'for every input the law returns true; each argument reads behind the call as it read before'; 0 by the template 'total and deterministic' (their statements: YtnfehccicnpbpaaGreatDoorTotals.lean).
  GIVEN WITH THE SEED: the statements are not yours to turn. If you find one false, say at which input.
  Laid BY PROGRAM, IN A SANDBOX (cutbox-rows.mjs): the forced cells as the released guide's own fill.sh prints them over the translation 3e3906adb0c3eedf… (all of the seat's roots in one cut). By AI agents, Wed Nov 11 2026. No macro, syntax, notation, axiom, sorry.
-/
import Derived.Test.YtnfehccicnpbpaaGreatDoorChecked
import GoSem.Claim
import GoSem.ClaimJoined
import GoSem.ClaimMapViews
import Derived.JoinedTies
import Derived.KernelRfl
namespace Go.Proofs.YtnfehccicnpbpaaGreatDoor
/- THE CELL 'sum', in the pinned program and in every row, IS THE sha256 OF THE DUMP (.gsa) THAT YtnfehccicnpbpaaGreatDoorProg.lean LOADS. Nothing in Lean hashes anything: it is a label: what it is worth is what the hold of that sum in a sandbox is worth. -/
noncomputable def Tryz.pinned : Pinned := { name := "ytnfehccicnpbpaagreatdoor", sum := "3e3906adb0c3eedfdab923b091e0a00dc5b8eed13d18e17695a143f7f66be4cb", checked := Tryz.checked }
namespace Rows
def none {H : Type} : Left H := { results := [], args := [] }

/- WHAT THE LISTED PACKAGE-LEVEL VARIABLES READ AS WHEN THE CALL BEGINS. Each datum BY PROGRAM (the guide's laid-datum.mjs) off the statement by which the dump's own 'gosem.cut.vars' lays the variable. In a bare row this is a premise. The card (YtnfehccicnpbpaaGreatDoorCards.lean) ties it to the program's text. -/
def laid_errors_errorType {H : Type} : DataW H := .iface "internal/reflectlite.rtype" (.agg [.ptr (.lit (.string [101, 114, 114, 111, 114]))])
def laid_loop_example_g01120_impl_errForm {H : Type} : DataW H := .iface "*errors.errorString" (.ptr (.agg [.lit (.string [110, 111, 116, 32, 116, 104, 101, 32, 116, 101, 120, 116, 32, 111, 102, 32, 97, 32, 110, 117, 109, 98, 101, 114])]))
def laid_loop_example_g01120_impl_errSize {H : Type} : DataW H := .iface "*errors.errorString" (.ptr (.agg [.lit (.string [116, 111, 111, 32, 109, 97, 110, 121, 32, 100, 105, 103, 105, 116, 115, 32, 111, 114, 32, 105, 116, 101, 109, 115])]))
def laid_math_bits_deBruijn32tab {H : Type} : DataW H := .agg [.lit (.int .u8 0), .lit (.int .u8 1), .lit (.int .u8 28), .lit (.int .u8 2), .lit (.int .u8 29), .lit (.int .u8 14), .lit (.int .u8 24), .lit (.int .u8 3), .lit (.int .u8 30), .lit (.int .u8 22), .lit (.int .u8 20), .lit (.int .u8 15), .lit (.int .u8 25), .lit (.int .u8 17), .lit (.int .u8 4), .lit (.int .u8 8), .lit (.int .u8 31), .lit (.int .u8 27), .lit (.int .u8 13), .lit (.int .u8 23), .lit (.int .u8 21), .lit (.int .u8 19), .lit (.int .u8 16), .lit (.int .u8 7), .lit (.int .u8 26), .lit (.int .u8 12), .lit (.int .u8 18), .lit (.int .u8 6), .lit (.int .u8 11), .lit (.int .u8 5), .lit (.int .u8 10), .lit (.int .u8 9)]
def laid_math_bits_deBruijn64tab {H : Type} : DataW H := .agg [.lit (.int .u8 0), .lit (.int .u8 1), .lit (.int .u8 56), .lit (.int .u8 2), .lit (.int .u8 57), .lit (.int .u8 49), .lit (.int .u8 28), .lit (.int .u8 3), .lit (.int .u8 61), .lit (.int .u8 58), .lit (.int .u8 42), .lit (.int .u8 50), .lit (.int .u8 38), .lit (.int .u8 29), .lit (.int .u8 17), .lit (.int .u8 4), .lit (.int .u8 62), .lit (.int .u8 47), .lit (.int .u8 59), .lit (.int .u8 36), .lit (.int .u8 45), .lit (.int .u8 43), .lit (.int .u8 51), .lit (.int .u8 22), .lit (.int .u8 53), .lit (.int .u8 39), .lit (.int .u8 33), .lit (.int .u8 30), .lit (.int .u8 24), .lit (.int .u8 18), .lit (.int .u8 12), .lit (.int .u8 5), .lit (.int .u8 63), .lit (.int .u8 55), .lit (.int .u8 48), .lit (.int .u8 27), .lit (.int .u8 60), .lit (.int .u8 41), .lit (.int .u8 37), .lit (.int .u8 16), .lit (.int .u8 46), .lit (.int .u8 35), .lit (.int .u8 44), .lit (.int .u8 21), .lit (.int .u8 52), .lit (.int .u8 32), .lit (.int .u8 23), .lit (.int .u8 11), .lit (.int .u8 54), .lit (.int .u8 26), .lit (.int .u8 40), .lit (.int .u8 15), .lit (.int .u8 34), .lit (.int .u8 20), .lit (.int .u8 31), .lit (.int .u8 10), .lit (.int .u8 25), .lit (.int .u8 14), .lit (.int .u8 19), .lit (.int .u8 9), .lit (.int .u8 13), .lit (.int .u8 8), .lit (.int .u8 7), .lit (.int .u8 6)]
def laid_internal_strconv_uint64pow10 {H : Type} : DataW H := .agg [.lit (.int .u64 1), .lit (.int .u64 10), .lit (.int .u64 100), .lit (.int .u64 1000), .lit (.int .u64 10000), .lit (.int .u64 100000), .lit (.int .u64 1000000), .lit (.int .u64 10000000), .lit (.int .u64 100000000), .lit (.int .u64 1000000000), .lit (.int .u64 10000000000), .lit (.int .u64 100000000000), .lit (.int .u64 1000000000000), .lit (.int .u64 10000000000000), .lit (.int .u64 100000000000000), .lit (.int .u64 1000000000000000), .lit (.int .u64 10000000000000000), .lit (.int .u64 100000000000000000), .lit (.int .u64 1000000000000000000), .lit (.int .u64 10000000000000000000)]

/-- 'laws.FnExactFarTerm': WHATEVER THE INPUT: true; the input reads as it did. -/
def fnExactFarTermSpec : ChangeSpec := { name := "fnExactFarTerm", vars := ["loop.example/g01120/impl.errSize", "loop.example/g01120/impl.errForm"], fn := fun _ => fun
  | [d1, d2, d3, g1, g2] => { results := [.lit (.bool true)], args := [d1, d2, d3], vars := [g1, g2] }
  | _ => none }
def fnExactFarTermRow : OpenClaim := { program := "ytnfehccicnpbpaagreatdoor", sum := "3e3906adb0c3eedfdab923b091e0a00dc5b8eed13d18e17695a143f7f66be4cb", func := "loop.example/g01120/laws.FnExactFarTerm", spec := "fnExactFarTerm", inPlace := ["math/bits.Add64", "internal/reflectlite.ValueOf", "(internal/reflectlite.Value).Type", "(internal/reflectlite.Value).IsNil", "internal/reflectlite.TypeOf", "(internal/reflectlite.Value).Elem", "(internal/reflectlite.Value).Set", "math/bits.Sub64"], unfollowed := true, recurses := true, named := ["loop.example/g01120/impl.errSize", "loop.example/g01120/impl.errForm", "errors.errorType", "math/bits.divideError", "math/bits.overflowError"], ifaces := true, apart := false, laid := [("errors.errorType", laid_errors_errorType), ("loop.example/g01120/impl.errForm", laid_loop_example_g01120_impl_errForm), ("loop.example/g01120/impl.errSize", laid_loop_example_g01120_impl_errSize)] }
def FnExactFarTermSaid : Prop := fnExactFarTermRow.holds Tryz.pinned (OpenSpec.ofChange fnExactFarTermSpec)

/-- ITS FALSE NEIGHBOUR: 'it returns false'. Refute it at one input. -/
def fnExactFarTermWrong : ChangeSpec := { name := "fnExactFarTerm", vars := ["loop.example/g01120/impl.errSize", "loop.example/g01120/impl.errForm"], fn := fun _ => fun
  | [d1, d2, d3, g1, g2] => { results := [.lit (.bool false)], args := [d1, d2, d3], vars := [g1, g2] }
  | _ => none }
def FnExactFarTermWrongFalsely : Prop := fnExactFarTermRow.holds Tryz.pinned (OpenSpec.ofChange fnExactFarTermWrong)

/-- 'laws.FnExactFarTerms': WHATEVER THE INPUT: true; the input reads as it did. -/
def fnExactFarTermsSpec : ChangeSpec := { name := "fnExactFarTerms", vars := ["loop.example/g01120/impl.errSize", "loop.example/g01120/impl.errForm"], fn := fun _ => fun
  | [d1, d2, d3, d4, g1, g2] => { results := [.lit (.bool true)], args := [d1, d2, d3, d4], vars := [g1, g2] }
  | _ => none }
def fnExactFarTermsRow : OpenClaim := { program := "ytnfehccicnpbpaagreatdoor", sum := "3e3906adb0c3eedfdab923b091e0a00dc5b8eed13d18e17695a143f7f66be4cb", func := "loop.example/g01120/laws.FnExactFarTerms", spec := "fnExactFarTerms", inPlace := ["math/bits.Add64", "internal/reflectlite.ValueOf", "(internal/reflectlite.Value).Type", "(internal/reflectlite.Value).IsNil", "internal/reflectlite.TypeOf", "(internal/reflectlite.Value).Elem", "(internal/reflectlite.Value).Set", "math/bits.Sub64"], unfollowed := true, recurses := true, named := ["loop.example/g01120/impl.errSize", "loop.example/g01120/impl.errForm", "errors.errorType", "math/bits.divideError", "math/bits.overflowError"], ifaces := true, apart := false, laid := [("errors.errorType", laid_errors_errorType), ("loop.example/g01120/impl.errForm", laid_loop_example_g01120_impl_errForm), ("loop.example/g01120/impl.errSize", laid_loop_example_g01120_impl_errSize)] }
def FnExactFarTermsSaid : Prop := fnExactFarTermsRow.holds Tryz.pinned (OpenSpec.ofChange fnExactFarTermsSpec)

/-- ITS FALSE NEIGHBOUR: 'it returns false'. Refute it at one input. -/
def fnExactFarTermsWrong : ChangeSpec := { name := "fnExactFarTerms", vars := ["loop.example/g01120/impl.errSize", "loop.example/g01120/impl.errForm"], fn := fun _ => fun
  | [d1, d2, d3, d4, g1, g2] => { results := [.lit (.bool false)], args := [d1, d2, d3, d4], vars := [g1, g2] }
  | _ => none }
def FnExactFarTermsWrongFalsely : Prop := fnExactFarTermsRow.holds Tryz.pinned (OpenSpec.ofChange fnExactFarTermsWrong)

/-- 'laws.FnExactFarSum': WHATEVER THE INPUT: true; the input reads as it did. -/
def fnExactFarSumSpec : ChangeSpec := { name := "fnExactFarSum", vars := ["loop.example/g01120/impl.errSize", "loop.example/g01120/impl.errForm"], fn := fun _ => fun
  | [d1, d2, d3, g1, g2] => { results := [.lit (.bool true)], args := [d1, d2, d3], vars := [g1, g2] }
  | _ => none }
def fnExactFarSumRow : OpenClaim := { program := "ytnfehccicnpbpaagreatdoor", sum := "3e3906adb0c3eedfdab923b091e0a00dc5b8eed13d18e17695a143f7f66be4cb", func := "loop.example/g01120/laws.FnExactFarSum", spec := "fnExactFarSum", inPlace := ["math/bits.Add64", "internal/reflectlite.ValueOf", "(internal/reflectlite.Value).Type", "(internal/reflectlite.Value).IsNil", "internal/reflectlite.TypeOf", "(internal/reflectlite.Value).Elem", "(internal/reflectlite.Value).Set", "math/bits.Sub64"], unfollowed := true, recurses := true, named := ["loop.example/g01120/impl.errSize", "loop.example/g01120/impl.errForm", "errors.errorType", "math/bits.divideError", "math/bits.overflowError"], ifaces := true, apart := false, laid := [("errors.errorType", laid_errors_errorType), ("loop.example/g01120/impl.errForm", laid_loop_example_g01120_impl_errForm), ("loop.example/g01120/impl.errSize", laid_loop_example_g01120_impl_errSize)] }
def FnExactFarSumSaid : Prop := fnExactFarSumRow.holds Tryz.pinned (OpenSpec.ofChange fnExactFarSumSpec)

/-- ITS FALSE NEIGHBOUR: 'it returns false'. Refute it at one input. -/
def fnExactFarSumWrong : ChangeSpec := { name := "fnExactFarSum", vars := ["loop.example/g01120/impl.errSize", "loop.example/g01120/impl.errForm"], fn := fun _ => fun
  | [d1, d2, d3, g1, g2] => { results := [.lit (.bool false)], args := [d1, d2, d3], vars := [g1, g2] }
  | _ => none }
def FnExactFarSumWrongFalsely : Prop := fnExactFarSumRow.holds Tryz.pinned (OpenSpec.ofChange fnExactFarSumWrong)

/-- 'laws.FnExactBackTerm': WHATEVER THE INPUT: true; the input reads as it did. -/
def fnExactBackTermSpec : ChangeSpec := { name := "fnExactBackTerm", vars := ["loop.example/g01120/impl.errSize", "loop.example/g01120/impl.errForm"], fn := fun _ => fun
  | [d1, d2, d3, g1, g2] => { results := [.lit (.bool true)], args := [d1, d2, d3], vars := [g1, g2] }
  | _ => none }
def fnExactBackTermRow : OpenClaim := { program := "ytnfehccicnpbpaagreatdoor", sum := "3e3906adb0c3eedfdab923b091e0a00dc5b8eed13d18e17695a143f7f66be4cb", func := "loop.example/g01120/laws.FnExactBackTerm", spec := "fnExactBackTerm", inPlace := ["math/bits.Add64", "internal/reflectlite.ValueOf", "(internal/reflectlite.Value).Type", "(internal/reflectlite.Value).IsNil", "internal/reflectlite.TypeOf", "(internal/reflectlite.Value).Elem", "(internal/reflectlite.Value).Set", "math/bits.Sub64"], unfollowed := true, recurses := true, named := ["loop.example/g01120/impl.errSize", "loop.example/g01120/impl.errForm", "errors.errorType", "math/bits.divideError", "math/bits.overflowError"], ifaces := true, apart := false, laid := [("errors.errorType", laid_errors_errorType), ("loop.example/g01120/impl.errForm", laid_loop_example_g01120_impl_errForm), ("loop.example/g01120/impl.errSize", laid_loop_example_g01120_impl_errSize)] }
def FnExactBackTermSaid : Prop := fnExactBackTermRow.holds Tryz.pinned (OpenSpec.ofChange fnExactBackTermSpec)

/-- ITS FALSE NEIGHBOUR: 'it returns false'. Refute it at one input. -/
def fnExactBackTermWrong : ChangeSpec := { name := "fnExactBackTerm", vars := ["loop.example/g01120/impl.errSize", "loop.example/g01120/impl.errForm"], fn := fun _ => fun
  | [d1, d2, d3, g1, g2] => { results := [.lit (.bool false)], args := [d1, d2, d3], vars := [g1, g2] }
  | _ => none }
def FnExactBackTermWrongFalsely : Prop := fnExactBackTermRow.holds Tryz.pinned (OpenSpec.ofChange fnExactBackTermWrong)

/-- 'laws.FnExactPeriodOf': WHATEVER THE INPUT: true; the input reads as it did. -/
def fnExactPeriodOfSpec : ChangeSpec := { name := "fnExactPeriodOf", vars := ["loop.example/g01120/impl.errSize", "loop.example/g01120/impl.errForm"], fn := fun _ => fun
  | [d1, d2, g1, g2] => { results := [.lit (.bool true)], args := [d1, d2], vars := [g1, g2] }
  | _ => none }
def fnExactPeriodOfRow : OpenClaim := { program := "ytnfehccicnpbpaagreatdoor", sum := "3e3906adb0c3eedfdab923b091e0a00dc5b8eed13d18e17695a143f7f66be4cb", func := "loop.example/g01120/laws.FnExactPeriodOf", spec := "fnExactPeriodOf", inPlace := ["math/bits.Add64", "internal/reflectlite.ValueOf", "(internal/reflectlite.Value).Type", "(internal/reflectlite.Value).IsNil", "internal/reflectlite.TypeOf", "(internal/reflectlite.Value).Elem", "(internal/reflectlite.Value).Set", "math/bits.Sub64"], unfollowed := true, recurses := true, named := ["loop.example/g01120/impl.errSize", "loop.example/g01120/impl.errForm", "errors.errorType", "math/bits.divideError", "math/bits.overflowError"], ifaces := true, apart := false, laid := [("errors.errorType", laid_errors_errorType), ("loop.example/g01120/impl.errForm", laid_loop_example_g01120_impl_errForm), ("loop.example/g01120/impl.errSize", laid_loop_example_g01120_impl_errSize)] }
def FnExactPeriodOfSaid : Prop := fnExactPeriodOfRow.holds Tryz.pinned (OpenSpec.ofChange fnExactPeriodOfSpec)

/-- ITS FALSE NEIGHBOUR: 'it returns false'. Refute it at one input. -/
def fnExactPeriodOfWrong : ChangeSpec := { name := "fnExactPeriodOf", vars := ["loop.example/g01120/impl.errSize", "loop.example/g01120/impl.errForm"], fn := fun _ => fun
  | [d1, d2, g1, g2] => { results := [.lit (.bool false)], args := [d1, d2], vars := [g1, g2] }
  | _ => none }
def FnExactPeriodOfWrongFalsely : Prop := fnExactPeriodOfRow.holds Tryz.pinned (OpenSpec.ofChange fnExactPeriodOfWrong)

/-- 'laws.FnExactResiduesOf': WHATEVER THE INPUT: true; the input reads as it did. -/
def fnExactResiduesOfSpec : ChangeSpec := { name := "fnExactResiduesOf", vars := ["loop.example/g01120/impl.errSize", "loop.example/g01120/impl.errForm"], fn := fun _ => fun
  | [d1, d2, g1, g2] => { results := [.lit (.bool true)], args := [d1, d2], vars := [g1, g2] }
  | _ => none }
def fnExactResiduesOfRow : OpenClaim := { program := "ytnfehccicnpbpaagreatdoor", sum := "3e3906adb0c3eedfdab923b091e0a00dc5b8eed13d18e17695a143f7f66be4cb", func := "loop.example/g01120/laws.FnExactResiduesOf", spec := "fnExactResiduesOf", inPlace := ["math/bits.Add64", "internal/reflectlite.ValueOf", "(internal/reflectlite.Value).Type", "(internal/reflectlite.Value).IsNil", "internal/reflectlite.TypeOf", "(internal/reflectlite.Value).Elem", "(internal/reflectlite.Value).Set", "math/bits.Sub64"], unfollowed := true, recurses := true, named := ["loop.example/g01120/impl.errSize", "loop.example/g01120/impl.errForm", "errors.errorType", "math/bits.divideError", "math/bits.overflowError"], ifaces := true, apart := false, laid := [("errors.errorType", laid_errors_errorType), ("loop.example/g01120/impl.errForm", laid_loop_example_g01120_impl_errForm), ("loop.example/g01120/impl.errSize", laid_loop_example_g01120_impl_errSize)] }
def FnExactResiduesOfSaid : Prop := fnExactResiduesOfRow.holds Tryz.pinned (OpenSpec.ofChange fnExactResiduesOfSpec)

/-- ITS FALSE NEIGHBOUR: 'it returns false'. Refute it at one input. -/
def fnExactResiduesOfWrong : ChangeSpec := { name := "fnExactResiduesOf", vars := ["loop.example/g01120/impl.errSize", "loop.example/g01120/impl.errForm"], fn := fun _ => fun
  | [d1, d2, g1, g2] => { results := [.lit (.bool false)], args := [d1, d2], vars := [g1, g2] }
  | _ => none }
def FnExactResiduesOfWrongFalsely : Prop := fnExactResiduesOfRow.holds Tryz.pinned (OpenSpec.ofChange fnExactResiduesOfWrong)

/-- 'laws.FnExactZeroPlaces': WHATEVER THE INPUT: true; the input reads as it did. -/
def fnExactZeroPlacesSpec : ChangeSpec := { name := "fnExactZeroPlaces", vars := ["loop.example/g01120/impl.errSize", "loop.example/g01120/impl.errForm"], fn := fun _ => fun
  | [d1, d2, g1, g2] => { results := [.lit (.bool true)], args := [d1, d2], vars := [g1, g2] }
  | _ => none }
def fnExactZeroPlacesRow : OpenClaim := { program := "ytnfehccicnpbpaagreatdoor", sum := "3e3906adb0c3eedfdab923b091e0a00dc5b8eed13d18e17695a143f7f66be4cb", func := "loop.example/g01120/laws.FnExactZeroPlaces", spec := "fnExactZeroPlaces", inPlace := ["math/bits.Add64", "internal/reflectlite.ValueOf", "(internal/reflectlite.Value).Type", "(internal/reflectlite.Value).IsNil", "internal/reflectlite.TypeOf", "(internal/reflectlite.Value).Elem", "(internal/reflectlite.Value).Set", "math/bits.Sub64"], unfollowed := true, recurses := true, named := ["loop.example/g01120/impl.errSize", "loop.example/g01120/impl.errForm", "errors.errorType", "math/bits.divideError", "math/bits.overflowError"], ifaces := true, apart := false, laid := [("errors.errorType", laid_errors_errorType), ("loop.example/g01120/impl.errForm", laid_loop_example_g01120_impl_errForm), ("loop.example/g01120/impl.errSize", laid_loop_example_g01120_impl_errSize)] }
def FnExactZeroPlacesSaid : Prop := fnExactZeroPlacesRow.holds Tryz.pinned (OpenSpec.ofChange fnExactZeroPlacesSpec)

/-- ITS FALSE NEIGHBOUR: 'it returns false'. Refute it at one input. -/
def fnExactZeroPlacesWrong : ChangeSpec := { name := "fnExactZeroPlaces", vars := ["loop.example/g01120/impl.errSize", "loop.example/g01120/impl.errForm"], fn := fun _ => fun
  | [d1, d2, g1, g2] => { results := [.lit (.bool false)], args := [d1, d2], vars := [g1, g2] }
  | _ => none }
def FnExactZeroPlacesWrongFalsely : Prop := fnExactZeroPlacesRow.holds Tryz.pinned (OpenSpec.ofChange fnExactZeroPlacesWrong)

/-- 'laws.FnExactFirstZero': WHATEVER THE INPUT: true; the input reads as it did. -/
def fnExactFirstZeroSpec : ChangeSpec := { name := "fnExactFirstZero", vars := ["loop.example/g01120/impl.errSize", "loop.example/g01120/impl.errForm"], fn := fun _ => fun
  | [d1, d2, g1, g2] => { results := [.lit (.bool true)], args := [d1, d2], vars := [g1, g2] }
  | _ => none }
def fnExactFirstZeroRow : OpenClaim := { program := "ytnfehccicnpbpaagreatdoor", sum := "3e3906adb0c3eedfdab923b091e0a00dc5b8eed13d18e17695a143f7f66be4cb", func := "loop.example/g01120/laws.FnExactFirstZero", spec := "fnExactFirstZero", inPlace := ["math/bits.Add64", "internal/reflectlite.ValueOf", "(internal/reflectlite.Value).Type", "(internal/reflectlite.Value).IsNil", "internal/reflectlite.TypeOf", "(internal/reflectlite.Value).Elem", "(internal/reflectlite.Value).Set", "math/bits.Sub64"], unfollowed := true, recurses := true, named := ["loop.example/g01120/impl.errSize", "loop.example/g01120/impl.errForm", "errors.errorType", "math/bits.divideError", "math/bits.overflowError"], ifaces := true, apart := false, laid := [("errors.errorType", laid_errors_errorType), ("loop.example/g01120/impl.errForm", laid_loop_example_g01120_impl_errForm), ("loop.example/g01120/impl.errSize", laid_loop_example_g01120_impl_errSize)] }
def FnExactFirstZeroSaid : Prop := fnExactFirstZeroRow.holds Tryz.pinned (OpenSpec.ofChange fnExactFirstZeroSpec)

/-- ITS FALSE NEIGHBOUR: 'it returns false'. Refute it at one input. -/
def fnExactFirstZeroWrong : ChangeSpec := { name := "fnExactFirstZero", vars := ["loop.example/g01120/impl.errSize", "loop.example/g01120/impl.errForm"], fn := fun _ => fun
  | [d1, d2, g1, g2] => { results := [.lit (.bool false)], args := [d1, d2], vars := [g1, g2] }
  | _ => none }
def FnExactFirstZeroWrongFalsely : Prop := fnExactFirstZeroRow.holds Tryz.pinned (OpenSpec.ofChange fnExactFirstZeroWrong)

/-- 'laws.FnFarTerms': WHATEVER THE INPUT: true; the input reads as it did. -/
def fnFarTermsSpec : ChangeSpec := { name := "fnFarTerms", vars := ["loop.example/g01120/impl.errSize", "loop.example/g01120/impl.errForm"], fn := fun _ => fun
  | [d1, d2, g1, g2] => { results := [.lit (.bool true)], args := [d1, d2], vars := [g1, g2] }
  | _ => none }
def fnFarTermsRow : OpenClaim := { program := "ytnfehccicnpbpaagreatdoor", sum := "3e3906adb0c3eedfdab923b091e0a00dc5b8eed13d18e17695a143f7f66be4cb", func := "loop.example/g01120/laws.FnFarTerms", spec := "fnFarTerms", inPlace := ["math/bits.Add64", "internal/reflectlite.ValueOf", "(internal/reflectlite.Value).Type", "(internal/reflectlite.Value).IsNil", "internal/reflectlite.TypeOf", "(internal/reflectlite.Value).Elem", "(internal/reflectlite.Value).Set", "math/bits.Sub64", "internal/abi.NoEscape", "internal/bytealg.MakeNoZero"], unfollowed := true, recurses := true, named := ["loop.example/g01120/impl.errSize", "loop.example/g01120/impl.errForm", "errors.errorType", "math/bits.divideError", "math/bits.overflowError", "internal/strconv.uint64pow10", "math/bits.deBruijn32tab", "math/bits.deBruijn64tab"], ifaces := true, apart := false, laid := [("math/bits.deBruijn32tab", laid_math_bits_deBruijn32tab), ("math/bits.deBruijn64tab", laid_math_bits_deBruijn64tab), ("internal/strconv.uint64pow10", laid_internal_strconv_uint64pow10), ("errors.errorType", laid_errors_errorType), ("loop.example/g01120/impl.errForm", laid_loop_example_g01120_impl_errForm), ("loop.example/g01120/impl.errSize", laid_loop_example_g01120_impl_errSize)] }
def FnFarTermsSaid : Prop := fnFarTermsRow.holds Tryz.pinned (OpenSpec.ofChange fnFarTermsSpec)

/-- ITS FALSE NEIGHBOUR: 'it returns false'. Refute it at one input. -/
def fnFarTermsWrong : ChangeSpec := { name := "fnFarTerms", vars := ["loop.example/g01120/impl.errSize", "loop.example/g01120/impl.errForm"], fn := fun _ => fun
  | [d1, d2, g1, g2] => { results := [.lit (.bool false)], args := [d1, d2], vars := [g1, g2] }
  | _ => none }
def FnFarTermsWrongFalsely : Prop := fnFarTermsRow.holds Tryz.pinned (OpenSpec.ofChange fnFarTermsWrong)

/-- 'laws.FnFarSums': WHATEVER THE INPUT: true; the input reads as it did. -/
def fnFarSumsSpec : ChangeSpec := { name := "fnFarSums", vars := ["loop.example/g01120/impl.errSize", "loop.example/g01120/impl.errForm"], fn := fun _ => fun
  | [d1, d2, g1, g2] => { results := [.lit (.bool true)], args := [d1, d2], vars := [g1, g2] }
  | _ => none }
def fnFarSumsRow : OpenClaim := { program := "ytnfehccicnpbpaagreatdoor", sum := "3e3906adb0c3eedfdab923b091e0a00dc5b8eed13d18e17695a143f7f66be4cb", func := "loop.example/g01120/laws.FnFarSums", spec := "fnFarSums", inPlace := ["math/bits.Add64", "internal/reflectlite.ValueOf", "(internal/reflectlite.Value).Type", "(internal/reflectlite.Value).IsNil", "internal/reflectlite.TypeOf", "(internal/reflectlite.Value).Elem", "(internal/reflectlite.Value).Set", "math/bits.Sub64"], unfollowed := true, recurses := true, named := ["loop.example/g01120/impl.errSize", "loop.example/g01120/impl.errForm", "errors.errorType", "math/bits.divideError", "math/bits.overflowError"], ifaces := true, apart := false, laid := [("errors.errorType", laid_errors_errorType), ("loop.example/g01120/impl.errForm", laid_loop_example_g01120_impl_errForm), ("loop.example/g01120/impl.errSize", laid_loop_example_g01120_impl_errSize)] }
def FnFarSumsSaid : Prop := fnFarSumsRow.holds Tryz.pinned (OpenSpec.ofChange fnFarSumsSpec)

/-- ITS FALSE NEIGHBOUR: 'it returns false'. Refute it at one input. -/
def fnFarSumsWrong : ChangeSpec := { name := "fnFarSums", vars := ["loop.example/g01120/impl.errSize", "loop.example/g01120/impl.errForm"], fn := fun _ => fun
  | [d1, d2, g1, g2] => { results := [.lit (.bool false)], args := [d1, d2], vars := [g1, g2] }
  | _ => none }
def FnFarSumsWrongFalsely : Prop := fnFarSumsRow.holds Tryz.pinned (OpenSpec.ofChange fnFarSumsWrong)

/-- 'laws.FnPeriods': WHATEVER THE INPUT: true; the input reads as it did. -/
def fnPeriodsSpec : ChangeSpec := { name := "fnPeriods", vars := ["loop.example/g01120/impl.errSize", "loop.example/g01120/impl.errForm"], fn := fun _ => fun
  | [d1, d2, g1, g2] => { results := [.lit (.bool true)], args := [d1, d2], vars := [g1, g2] }
  | _ => none }
def fnPeriodsRow : OpenClaim := { program := "ytnfehccicnpbpaagreatdoor", sum := "3e3906adb0c3eedfdab923b091e0a00dc5b8eed13d18e17695a143f7f66be4cb", func := "loop.example/g01120/laws.FnPeriods", spec := "fnPeriods", inPlace := ["math/bits.Add64", "internal/reflectlite.ValueOf", "(internal/reflectlite.Value).Type", "(internal/reflectlite.Value).IsNil", "internal/reflectlite.TypeOf", "(internal/reflectlite.Value).Elem", "(internal/reflectlite.Value).Set", "math/bits.Sub64"], unfollowed := true, recurses := true, named := ["loop.example/g01120/impl.errSize", "loop.example/g01120/impl.errForm", "errors.errorType", "math/bits.divideError", "math/bits.overflowError"], ifaces := true, apart := false, laid := [("errors.errorType", laid_errors_errorType), ("loop.example/g01120/impl.errForm", laid_loop_example_g01120_impl_errForm), ("loop.example/g01120/impl.errSize", laid_loop_example_g01120_impl_errSize)] }
def FnPeriodsSaid : Prop := fnPeriodsRow.holds Tryz.pinned (OpenSpec.ofChange fnPeriodsSpec)

/-- ITS FALSE NEIGHBOUR: 'it returns false'. Refute it at one input. -/
def fnPeriodsWrong : ChangeSpec := { name := "fnPeriods", vars := ["loop.example/g01120/impl.errSize", "loop.example/g01120/impl.errForm"], fn := fun _ => fun
  | [d1, d2, g1, g2] => { results := [.lit (.bool false)], args := [d1, d2], vars := [g1, g2] }
  | _ => none }
def FnPeriodsWrongFalsely : Prop := fnPeriodsRow.holds Tryz.pinned (OpenSpec.ofChange fnPeriodsWrong)

/-- 'laws.FnBackTerms': WHATEVER THE INPUT: true; the input reads as it did. -/
def fnBackTermsSpec : ChangeSpec := { name := "fnBackTerms", vars := ["loop.example/g01120/impl.errSize", "loop.example/g01120/impl.errForm"], fn := fun _ => fun
  | [d1, d2, g1, g2] => { results := [.lit (.bool true)], args := [d1, d2], vars := [g1, g2] }
  | _ => none }
def fnBackTermsRow : OpenClaim := { program := "ytnfehccicnpbpaagreatdoor", sum := "3e3906adb0c3eedfdab923b091e0a00dc5b8eed13d18e17695a143f7f66be4cb", func := "loop.example/g01120/laws.FnBackTerms", spec := "fnBackTerms", inPlace := ["math/bits.Add64", "internal/reflectlite.ValueOf", "(internal/reflectlite.Value).Type", "(internal/reflectlite.Value).IsNil", "internal/reflectlite.TypeOf", "(internal/reflectlite.Value).Elem", "(internal/reflectlite.Value).Set", "math/bits.Sub64"], unfollowed := true, recurses := true, named := ["loop.example/g01120/impl.errSize", "loop.example/g01120/impl.errForm", "errors.errorType", "math/bits.divideError", "math/bits.overflowError"], ifaces := true, apart := false, laid := [("errors.errorType", laid_errors_errorType), ("loop.example/g01120/impl.errForm", laid_loop_example_g01120_impl_errForm), ("loop.example/g01120/impl.errSize", laid_loop_example_g01120_impl_errSize)] }
def FnBackTermsSaid : Prop := fnBackTermsRow.holds Tryz.pinned (OpenSpec.ofChange fnBackTermsSpec)

/-- ITS FALSE NEIGHBOUR: 'it returns false'. Refute it at one input. -/
def fnBackTermsWrong : ChangeSpec := { name := "fnBackTerms", vars := ["loop.example/g01120/impl.errSize", "loop.example/g01120/impl.errForm"], fn := fun _ => fun
  | [d1, d2, g1, g2] => { results := [.lit (.bool false)], args := [d1, d2], vars := [g1, g2] }
  | _ => none }
def FnBackTermsWrongFalsely : Prop := fnBackTermsRow.holds Tryz.pinned (OpenSpec.ofChange fnBackTermsWrong)

/- THE SECOND FORM. 'bulk': how many values and letters a reading holds, each counted each time it is reached (what is shared counts as often as it is met; a slice's spare places count too). A statement '..UptoSaid' is the law's where the arguments, and the package variables that the reading takes, are together of bulk at most 1048576: NARROWER than '..Said'. Prove '..Said' where nothing that the law and all that it calls make is longer than what came in: it says more and counts as full. Else prove '..UptoSaid'. A law counts once. -/
mutual
def uptoBulk {H : Type} : DataW H → Nat
  | .lit (.string bytes) => bytes.length + 1
  | .lit _ => 1
  | .nil => 1
  | .ptr d => uptoBulk d + 1
  | .slice elems spare => uptoBulkAll elems + uptoBulkAll spare + 1
  | .agg parts => uptoBulkAll parts + 1
  | .iface _ d => uptoBulk d + 1
  | .map entries => uptoBulkEntries entries + 1
  | .held _ => 1
def uptoBulkAll {H : Type} : List (DataW H) → Nat
  | [] => 0
  | d :: r => uptoBulk d + uptoBulkAll r
def uptoBulkEntries {H : Type} : List (Lit × DataW H) → Nat
  | [] => 0
  | x :: r => uptoBulkEntry x + uptoBulkEntries r
def uptoBulkEntry {H : Type} : Lit × DataW H → Nat
  | (.string bytes, d) => bytes.length + uptoBulk d + 1
  | (_, d) => uptoBulk d + 1
 end
def uptoSmall : (H : Type) → List (DataW H) → Bool := fun _ ds => decide (uptoBulkAll ds ≤ 1048576)
def OpenSpec.upto (s : _root_.Go.ChangeSpec) : _root_.Go.OpenSpec := { _root_.Go.OpenSpec.ofChange s with cond := some uptoSmall }

/-- 'laws.FnExactFarTerm', WHERE WHAT IT READS IS OF BULK AT MOST 1048576: true; the input reads as it did. -/
def fnExactFarTermUptoRow : OpenClaim := { program := "ytnfehccicnpbpaagreatdoor", sum := "3e3906adb0c3eedfdab923b091e0a00dc5b8eed13d18e17695a143f7f66be4cb", func := "loop.example/g01120/laws.FnExactFarTerm", spec := "fnExactFarTerm", inPlace := ["math/bits.Add64", "internal/reflectlite.ValueOf", "(internal/reflectlite.Value).Type", "(internal/reflectlite.Value).IsNil", "internal/reflectlite.TypeOf", "(internal/reflectlite.Value).Elem", "(internal/reflectlite.Value).Set", "math/bits.Sub64"], unfollowed := true, recurses := true, named := ["loop.example/g01120/impl.errSize", "loop.example/g01120/impl.errForm", "errors.errorType", "math/bits.divideError", "math/bits.overflowError"], ifaces := true, apart := false, laid := [("errors.errorType", laid_errors_errorType), ("loop.example/g01120/impl.errForm", laid_loop_example_g01120_impl_errForm), ("loop.example/g01120/impl.errSize", laid_loop_example_g01120_impl_errSize)], narrowed := true }
def FnExactFarTermUptoSaid : Prop := fnExactFarTermUptoRow.holds Tryz.pinned (OpenSpec.upto fnExactFarTermSpec)

/-- 'laws.FnExactFarTerms', WHERE WHAT IT READS IS OF BULK AT MOST 1048576: true; the input reads as it did. -/
def fnExactFarTermsUptoRow : OpenClaim := { program := "ytnfehccicnpbpaagreatdoor", sum := "3e3906adb0c3eedfdab923b091e0a00dc5b8eed13d18e17695a143f7f66be4cb", func := "loop.example/g01120/laws.FnExactFarTerms", spec := "fnExactFarTerms", inPlace := ["math/bits.Add64", "internal/reflectlite.ValueOf", "(internal/reflectlite.Value).Type", "(internal/reflectlite.Value).IsNil", "internal/reflectlite.TypeOf", "(internal/reflectlite.Value).Elem", "(internal/reflectlite.Value).Set", "math/bits.Sub64"], unfollowed := true, recurses := true, named := ["loop.example/g01120/impl.errSize", "loop.example/g01120/impl.errForm", "errors.errorType", "math/bits.divideError", "math/bits.overflowError"], ifaces := true, apart := false, laid := [("errors.errorType", laid_errors_errorType), ("loop.example/g01120/impl.errForm", laid_loop_example_g01120_impl_errForm), ("loop.example/g01120/impl.errSize", laid_loop_example_g01120_impl_errSize)], narrowed := true }
def FnExactFarTermsUptoSaid : Prop := fnExactFarTermsUptoRow.holds Tryz.pinned (OpenSpec.upto fnExactFarTermsSpec)

/-- 'laws.FnExactFarSum', WHERE WHAT IT READS IS OF BULK AT MOST 1048576: true; the input reads as it did. -/
def fnExactFarSumUptoRow : OpenClaim := { program := "ytnfehccicnpbpaagreatdoor", sum := "3e3906adb0c3eedfdab923b091e0a00dc5b8eed13d18e17695a143f7f66be4cb", func := "loop.example/g01120/laws.FnExactFarSum", spec := "fnExactFarSum", inPlace := ["math/bits.Add64", "internal/reflectlite.ValueOf", "(internal/reflectlite.Value).Type", "(internal/reflectlite.Value).IsNil", "internal/reflectlite.TypeOf", "(internal/reflectlite.Value).Elem", "(internal/reflectlite.Value).Set", "math/bits.Sub64"], unfollowed := true, recurses := true, named := ["loop.example/g01120/impl.errSize", "loop.example/g01120/impl.errForm", "errors.errorType", "math/bits.divideError", "math/bits.overflowError"], ifaces := true, apart := false, laid := [("errors.errorType", laid_errors_errorType), ("loop.example/g01120/impl.errForm", laid_loop_example_g01120_impl_errForm), ("loop.example/g01120/impl.errSize", laid_loop_example_g01120_impl_errSize)], narrowed := true }
def FnExactFarSumUptoSaid : Prop := fnExactFarSumUptoRow.holds Tryz.pinned (OpenSpec.upto fnExactFarSumSpec)

/-- 'laws.FnExactBackTerm', WHERE WHAT IT READS IS OF BULK AT MOST 1048576: true; the input reads as it did. -/
def fnExactBackTermUptoRow : OpenClaim := { program := "ytnfehccicnpbpaagreatdoor", sum := "3e3906adb0c3eedfdab923b091e0a00dc5b8eed13d18e17695a143f7f66be4cb", func := "loop.example/g01120/laws.FnExactBackTerm", spec := "fnExactBackTerm", inPlace := ["math/bits.Add64", "internal/reflectlite.ValueOf", "(internal/reflectlite.Value).Type", "(internal/reflectlite.Value).IsNil", "internal/reflectlite.TypeOf", "(internal/reflectlite.Value).Elem", "(internal/reflectlite.Value).Set", "math/bits.Sub64"], unfollowed := true, recurses := true, named := ["loop.example/g01120/impl.errSize", "loop.example/g01120/impl.errForm", "errors.errorType", "math/bits.divideError", "math/bits.overflowError"], ifaces := true, apart := false, laid := [("errors.errorType", laid_errors_errorType), ("loop.example/g01120/impl.errForm", laid_loop_example_g01120_impl_errForm), ("loop.example/g01120/impl.errSize", laid_loop_example_g01120_impl_errSize)], narrowed := true }
def FnExactBackTermUptoSaid : Prop := fnExactBackTermUptoRow.holds Tryz.pinned (OpenSpec.upto fnExactBackTermSpec)

/-- 'laws.FnExactPeriodOf', WHERE WHAT IT READS IS OF BULK AT MOST 1048576: true; the input reads as it did. -/
def fnExactPeriodOfUptoRow : OpenClaim := { program := "ytnfehccicnpbpaagreatdoor", sum := "3e3906adb0c3eedfdab923b091e0a00dc5b8eed13d18e17695a143f7f66be4cb", func := "loop.example/g01120/laws.FnExactPeriodOf", spec := "fnExactPeriodOf", inPlace := ["math/bits.Add64", "internal/reflectlite.ValueOf", "(internal/reflectlite.Value).Type", "(internal/reflectlite.Value).IsNil", "internal/reflectlite.TypeOf", "(internal/reflectlite.Value).Elem", "(internal/reflectlite.Value).Set", "math/bits.Sub64"], unfollowed := true, recurses := true, named := ["loop.example/g01120/impl.errSize", "loop.example/g01120/impl.errForm", "errors.errorType", "math/bits.divideError", "math/bits.overflowError"], ifaces := true, apart := false, laid := [("errors.errorType", laid_errors_errorType), ("loop.example/g01120/impl.errForm", laid_loop_example_g01120_impl_errForm), ("loop.example/g01120/impl.errSize", laid_loop_example_g01120_impl_errSize)], narrowed := true }
def FnExactPeriodOfUptoSaid : Prop := fnExactPeriodOfUptoRow.holds Tryz.pinned (OpenSpec.upto fnExactPeriodOfSpec)

/-- 'laws.FnExactResiduesOf', WHERE WHAT IT READS IS OF BULK AT MOST 1048576: true; the input reads as it did. -/
def fnExactResiduesOfUptoRow : OpenClaim := { program := "ytnfehccicnpbpaagreatdoor", sum := "3e3906adb0c3eedfdab923b091e0a00dc5b8eed13d18e17695a143f7f66be4cb", func := "loop.example/g01120/laws.FnExactResiduesOf", spec := "fnExactResiduesOf", inPlace := ["math/bits.Add64", "internal/reflectlite.ValueOf", "(internal/reflectlite.Value).Type", "(internal/reflectlite.Value).IsNil", "internal/reflectlite.TypeOf", "(internal/reflectlite.Value).Elem", "(internal/reflectlite.Value).Set", "math/bits.Sub64"], unfollowed := true, recurses := true, named := ["loop.example/g01120/impl.errSize", "loop.example/g01120/impl.errForm", "errors.errorType", "math/bits.divideError", "math/bits.overflowError"], ifaces := true, apart := false, laid := [("errors.errorType", laid_errors_errorType), ("loop.example/g01120/impl.errForm", laid_loop_example_g01120_impl_errForm), ("loop.example/g01120/impl.errSize", laid_loop_example_g01120_impl_errSize)], narrowed := true }
def FnExactResiduesOfUptoSaid : Prop := fnExactResiduesOfUptoRow.holds Tryz.pinned (OpenSpec.upto fnExactResiduesOfSpec)

/-- 'laws.FnExactZeroPlaces', WHERE WHAT IT READS IS OF BULK AT MOST 1048576: true; the input reads as it did. -/
def fnExactZeroPlacesUptoRow : OpenClaim := { program := "ytnfehccicnpbpaagreatdoor", sum := "3e3906adb0c3eedfdab923b091e0a00dc5b8eed13d18e17695a143f7f66be4cb", func := "loop.example/g01120/laws.FnExactZeroPlaces", spec := "fnExactZeroPlaces", inPlace := ["math/bits.Add64", "internal/reflectlite.ValueOf", "(internal/reflectlite.Value).Type", "(internal/reflectlite.Value).IsNil", "internal/reflectlite.TypeOf", "(internal/reflectlite.Value).Elem", "(internal/reflectlite.Value).Set", "math/bits.Sub64"], unfollowed := true, recurses := true, named := ["loop.example/g01120/impl.errSize", "loop.example/g01120/impl.errForm", "errors.errorType", "math/bits.divideError", "math/bits.overflowError"], ifaces := true, apart := false, laid := [("errors.errorType", laid_errors_errorType), ("loop.example/g01120/impl.errForm", laid_loop_example_g01120_impl_errForm), ("loop.example/g01120/impl.errSize", laid_loop_example_g01120_impl_errSize)], narrowed := true }
def FnExactZeroPlacesUptoSaid : Prop := fnExactZeroPlacesUptoRow.holds Tryz.pinned (OpenSpec.upto fnExactZeroPlacesSpec)

/-- 'laws.FnExactFirstZero', WHERE WHAT IT READS IS OF BULK AT MOST 1048576: true; the input reads as it did. -/
def fnExactFirstZeroUptoRow : OpenClaim := { program := "ytnfehccicnpbpaagreatdoor", sum := "3e3906adb0c3eedfdab923b091e0a00dc5b8eed13d18e17695a143f7f66be4cb", func := "loop.example/g01120/laws.FnExactFirstZero", spec := "fnExactFirstZero", inPlace := ["math/bits.Add64", "internal/reflectlite.ValueOf", "(internal/reflectlite.Value).Type", "(internal/reflectlite.Value).IsNil", "internal/reflectlite.TypeOf", "(internal/reflectlite.Value).Elem", "(internal/reflectlite.Value).Set", "math/bits.Sub64"], unfollowed := true, recurses := true, named := ["loop.example/g01120/impl.errSize", "loop.example/g01120/impl.errForm", "errors.errorType", "math/bits.divideError", "math/bits.overflowError"], ifaces := true, apart := false, laid := [("errors.errorType", laid_errors_errorType), ("loop.example/g01120/impl.errForm", laid_loop_example_g01120_impl_errForm), ("loop.example/g01120/impl.errSize", laid_loop_example_g01120_impl_errSize)], narrowed := true }
def FnExactFirstZeroUptoSaid : Prop := fnExactFirstZeroUptoRow.holds Tryz.pinned (OpenSpec.upto fnExactFirstZeroSpec)

/-- 'laws.FnFarTerms', WHERE WHAT IT READS IS OF BULK AT MOST 1048576: true; the input reads as it did. -/
def fnFarTermsUptoRow : OpenClaim := { program := "ytnfehccicnpbpaagreatdoor", sum := "3e3906adb0c3eedfdab923b091e0a00dc5b8eed13d18e17695a143f7f66be4cb", func := "loop.example/g01120/laws.FnFarTerms", spec := "fnFarTerms", inPlace := ["math/bits.Add64", "internal/reflectlite.ValueOf", "(internal/reflectlite.Value).Type", "(internal/reflectlite.Value).IsNil", "internal/reflectlite.TypeOf", "(internal/reflectlite.Value).Elem", "(internal/reflectlite.Value).Set", "math/bits.Sub64", "internal/abi.NoEscape", "internal/bytealg.MakeNoZero"], unfollowed := true, recurses := true, named := ["loop.example/g01120/impl.errSize", "loop.example/g01120/impl.errForm", "errors.errorType", "math/bits.divideError", "math/bits.overflowError", "internal/strconv.uint64pow10", "math/bits.deBruijn32tab", "math/bits.deBruijn64tab"], ifaces := true, apart := false, laid := [("math/bits.deBruijn32tab", laid_math_bits_deBruijn32tab), ("math/bits.deBruijn64tab", laid_math_bits_deBruijn64tab), ("internal/strconv.uint64pow10", laid_internal_strconv_uint64pow10), ("errors.errorType", laid_errors_errorType), ("loop.example/g01120/impl.errForm", laid_loop_example_g01120_impl_errForm), ("loop.example/g01120/impl.errSize", laid_loop_example_g01120_impl_errSize)], narrowed := true }
def FnFarTermsUptoSaid : Prop := fnFarTermsUptoRow.holds Tryz.pinned (OpenSpec.upto fnFarTermsSpec)

/-- 'laws.FnFarSums', WHERE WHAT IT READS IS OF BULK AT MOST 1048576: true; the input reads as it did. -/
def fnFarSumsUptoRow : OpenClaim := { program := "ytnfehccicnpbpaagreatdoor", sum := "3e3906adb0c3eedfdab923b091e0a00dc5b8eed13d18e17695a143f7f66be4cb", func := "loop.example/g01120/laws.FnFarSums", spec := "fnFarSums", inPlace := ["math/bits.Add64", "internal/reflectlite.ValueOf", "(internal/reflectlite.Value).Type", "(internal/reflectlite.Value).IsNil", "internal/reflectlite.TypeOf", "(internal/reflectlite.Value).Elem", "(internal/reflectlite.Value).Set", "math/bits.Sub64"], unfollowed := true, recurses := true, named := ["loop.example/g01120/impl.errSize", "loop.example/g01120/impl.errForm", "errors.errorType", "math/bits.divideError", "math/bits.overflowError"], ifaces := true, apart := false, laid := [("errors.errorType", laid_errors_errorType), ("loop.example/g01120/impl.errForm", laid_loop_example_g01120_impl_errForm), ("loop.example/g01120/impl.errSize", laid_loop_example_g01120_impl_errSize)], narrowed := true }
def FnFarSumsUptoSaid : Prop := fnFarSumsUptoRow.holds Tryz.pinned (OpenSpec.upto fnFarSumsSpec)

/-- 'laws.FnPeriods', WHERE WHAT IT READS IS OF BULK AT MOST 1048576: true; the input reads as it did. -/
def fnPeriodsUptoRow : OpenClaim := { program := "ytnfehccicnpbpaagreatdoor", sum := "3e3906adb0c3eedfdab923b091e0a00dc5b8eed13d18e17695a143f7f66be4cb", func := "loop.example/g01120/laws.FnPeriods", spec := "fnPeriods", inPlace := ["math/bits.Add64", "internal/reflectlite.ValueOf", "(internal/reflectlite.Value).Type", "(internal/reflectlite.Value).IsNil", "internal/reflectlite.TypeOf", "(internal/reflectlite.Value).Elem", "(internal/reflectlite.Value).Set", "math/bits.Sub64"], unfollowed := true, recurses := true, named := ["loop.example/g01120/impl.errSize", "loop.example/g01120/impl.errForm", "errors.errorType", "math/bits.divideError", "math/bits.overflowError"], ifaces := true, apart := false, laid := [("errors.errorType", laid_errors_errorType), ("loop.example/g01120/impl.errForm", laid_loop_example_g01120_impl_errForm), ("loop.example/g01120/impl.errSize", laid_loop_example_g01120_impl_errSize)], narrowed := true }
def FnPeriodsUptoSaid : Prop := fnPeriodsUptoRow.holds Tryz.pinned (OpenSpec.upto fnPeriodsSpec)

/-- 'laws.FnBackTerms', WHERE WHAT IT READS IS OF BULK AT MOST 1048576: true; the input reads as it did. -/
def fnBackTermsUptoRow : OpenClaim := { program := "ytnfehccicnpbpaagreatdoor", sum := "3e3906adb0c3eedfdab923b091e0a00dc5b8eed13d18e17695a143f7f66be4cb", func := "loop.example/g01120/laws.FnBackTerms", spec := "fnBackTerms", inPlace := ["math/bits.Add64", "internal/reflectlite.ValueOf", "(internal/reflectlite.Value).Type", "(internal/reflectlite.Value).IsNil", "internal/reflectlite.TypeOf", "(internal/reflectlite.Value).Elem", "(internal/reflectlite.Value).Set", "math/bits.Sub64"], unfollowed := true, recurses := true, named := ["loop.example/g01120/impl.errSize", "loop.example/g01120/impl.errForm", "errors.errorType", "math/bits.divideError", "math/bits.overflowError"], ifaces := true, apart := false, laid := [("errors.errorType", laid_errors_errorType), ("loop.example/g01120/impl.errForm", laid_loop_example_g01120_impl_errForm), ("loop.example/g01120/impl.errSize", laid_loop_example_g01120_impl_errSize)], narrowed := true }
def FnBackTermsUptoSaid : Prop := fnBackTermsUptoRow.holds Tryz.pinned (OpenSpec.upto fnBackTermsSpec)

end Rows
end Go.Proofs.YtnfehccicnpbpaaGreatDoor
