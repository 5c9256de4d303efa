/-
  NARROWER THAN 'FOR EVERY INPUT', by the rows' own cells (each row's printed sentence says how): FnExactAddNumbers: ifaces, laid · FnExactSubNumbers: ifaces, laid · FnExactSumNumbers: ifaces, laid · FnExactDotNumbers: ifaces, laid · FnExactReadNumbers: ifaces, laid · FnExactEvalPoly: ifaces, laid · FnExactHankelOf: ifaces, laid · FnExactCompanionOf: ifaces, laid · FnExactRecurrenceText: ifaces, laid · FnExactReadRecurrence: ifaces, laid · FnExactIsWhole: ifaces, laid.
  DERIVED. THE GIVEN ROWS OF THIS SEAT. 11 by the template 'for every input the law returns true; each argument reads behind the call as it read before'; 0 by the template 'total and deterministic' (their statements: YtpblpdcdhgjecaaGreatDoorTotals.lean).
  GIVEN WITH THE SEED: the statements are not yours to turn. If you find one false, say at which input.
  Laid BY PROGRAM, IN A SANDBOX (cutbox-rows.mjs): the forced cells as the released guide's own fill.sh prints them over the translation 95f511df32d3b1c3… (all of the seat's roots in one cut). By AI agents, Wed Nov 11 2026. No macro, syntax, notation, axiom, sorry.
-/
import Derived.Test.YtpblpdcdhgjecaaGreatDoorChecked
import GoSem.Claim
import GoSem.ClaimJoined
import GoSem.ClaimMapViews
import Derived.JoinedTies
import Derived.KernelRfl
namespace Go.Proofs.YtpblpdcdhgjecaaGreatDoor
/- THE CELL 'sum', in the pinned program and in every row, IS THE sha256 OF THE DUMP (.gsa) THAT YtpblpdcdhgjecaaGreatDoorProg.lean LOADS. Nothing in Lean hashes anything: it is a label: what it is worth is what the hold of that sum in a sandbox is worth. -/
noncomputable def Tryz.pinned : Pinned := { name := "ytpblpdcdhgjecaagreatdoor", sum := "95f511df32d3b1c3f1c4e2f4cda6d1da155d87fad9b46c4e811c2beb3fea88d9", checked := Tryz.checked }
namespace Rows
def none {H : Type} : Left H := { results := [], args := [] }

/- WHAT THE LISTED PACKAGE-LEVEL VARIABLES READ AS WHEN THE CALL BEGINS. Each datum BY PROGRAM (the guide's laid-datum.mjs) off the statement by which the dump's own 'gosem.cut.vars' lays the variable. In a bare row this is a premise. The card (YtpblpdcdhgjecaaGreatDoorCards.lean) ties it to the program's text. -/
def laid_math_bits_deBruijn32tab {H : Type} : DataW H := .agg [.lit (.int .u8 0), .lit (.int .u8 1), .lit (.int .u8 28), .lit (.int .u8 2), .lit (.int .u8 29), .lit (.int .u8 14), .lit (.int .u8 24), .lit (.int .u8 3), .lit (.int .u8 30), .lit (.int .u8 22), .lit (.int .u8 20), .lit (.int .u8 15), .lit (.int .u8 25), .lit (.int .u8 17), .lit (.int .u8 4), .lit (.int .u8 8), .lit (.int .u8 31), .lit (.int .u8 27), .lit (.int .u8 13), .lit (.int .u8 23), .lit (.int .u8 21), .lit (.int .u8 19), .lit (.int .u8 16), .lit (.int .u8 7), .lit (.int .u8 26), .lit (.int .u8 12), .lit (.int .u8 18), .lit (.int .u8 6), .lit (.int .u8 11), .lit (.int .u8 5), .lit (.int .u8 10), .lit (.int .u8 9)]
def laid_math_bits_deBruijn64tab {H : Type} : DataW H := .agg [.lit (.int .u8 0), .lit (.int .u8 1), .lit (.int .u8 56), .lit (.int .u8 2), .lit (.int .u8 57), .lit (.int .u8 49), .lit (.int .u8 28), .lit (.int .u8 3), .lit (.int .u8 61), .lit (.int .u8 58), .lit (.int .u8 42), .lit (.int .u8 50), .lit (.int .u8 38), .lit (.int .u8 29), .lit (.int .u8 17), .lit (.int .u8 4), .lit (.int .u8 62), .lit (.int .u8 47), .lit (.int .u8 59), .lit (.int .u8 36), .lit (.int .u8 45), .lit (.int .u8 43), .lit (.int .u8 51), .lit (.int .u8 22), .lit (.int .u8 53), .lit (.int .u8 39), .lit (.int .u8 33), .lit (.int .u8 30), .lit (.int .u8 24), .lit (.int .u8 18), .lit (.int .u8 12), .lit (.int .u8 5), .lit (.int .u8 63), .lit (.int .u8 55), .lit (.int .u8 48), .lit (.int .u8 27), .lit (.int .u8 60), .lit (.int .u8 41), .lit (.int .u8 37), .lit (.int .u8 16), .lit (.int .u8 46), .lit (.int .u8 35), .lit (.int .u8 44), .lit (.int .u8 21), .lit (.int .u8 52), .lit (.int .u8 32), .lit (.int .u8 23), .lit (.int .u8 11), .lit (.int .u8 54), .lit (.int .u8 26), .lit (.int .u8 40), .lit (.int .u8 15), .lit (.int .u8 34), .lit (.int .u8 20), .lit (.int .u8 31), .lit (.int .u8 10), .lit (.int .u8 25), .lit (.int .u8 14), .lit (.int .u8 19), .lit (.int .u8 9), .lit (.int .u8 13), .lit (.int .u8 8), .lit (.int .u8 7), .lit (.int .u8 6)]
def laid_internal_strconv_uint64pow10 {H : Type} : DataW H := .agg [.lit (.int .u64 1), .lit (.int .u64 10), .lit (.int .u64 100), .lit (.int .u64 1000), .lit (.int .u64 10000), .lit (.int .u64 100000), .lit (.int .u64 1000000), .lit (.int .u64 10000000), .lit (.int .u64 100000000), .lit (.int .u64 1000000000), .lit (.int .u64 10000000000), .lit (.int .u64 100000000000), .lit (.int .u64 1000000000000), .lit (.int .u64 10000000000000), .lit (.int .u64 100000000000000), .lit (.int .u64 1000000000000000), .lit (.int .u64 10000000000000000), .lit (.int .u64 100000000000000000), .lit (.int .u64 1000000000000000000), .lit (.int .u64 10000000000000000000)]
def laid_errors_errorType {H : Type} : DataW H := .iface "internal/reflectlite.rtype" (.agg [.ptr (.lit (.string [101, 114, 114, 111, 114]))])
def laid_loop_example_g01120_impl_errForm {H : Type} : DataW H := .iface "*errors.errorString" (.ptr (.agg [.lit (.string [110, 111, 116, 32, 116, 104, 101, 32, 116, 101, 120, 116, 32, 111, 102, 32, 97, 32, 110, 117, 109, 98, 101, 114])]))
def laid_loop_example_g01120_impl_errSize {H : Type} : DataW H := .iface "*errors.errorString" (.ptr (.agg [.lit (.string [116, 111, 111, 32, 109, 97, 110, 121, 32, 100, 105, 103, 105, 116, 115, 32, 111, 114, 32, 105, 116, 101, 109, 115])]))

/-- 'laws.FnExactAddNumbers': WHATEVER THE INPUT: true; the input reads as it did. -/
def fnExactAddNumbersSpec : ChangeSpec := { name := "fnExactAddNumbers", vars := ["loop.example/g01120/impl.errSize", "loop.example/g01120/impl.errForm"], fn := fun _ => fun
  | [d1, d2, g1, g2] => { results := [.lit (.bool true)], args := [d1, d2], vars := [g1, g2] }
  | _ => none }
def fnExactAddNumbersRow : OpenClaim := { program := "ytpblpdcdhgjecaagreatdoor", sum := "95f511df32d3b1c3f1c4e2f4cda6d1da155d87fad9b46c4e811c2beb3fea88d9", func := "loop.example/g01120/laws.FnExactAddNumbers", spec := "fnExactAddNumbers", inPlace := ["math/bits.Add64", "internal/reflectlite.ValueOf", "(internal/reflectlite.Value).Type", "(internal/reflectlite.Value).IsNil", "internal/reflectlite.TypeOf", "(internal/reflectlite.Value).Elem", "(internal/reflectlite.Value).Set", "math/bits.Sub64", "internal/abi.NoEscape", "internal/bytealg.MakeNoZero"], unfollowed := true, recurses := true, named := ["loop.example/g01120/impl.errSize", "loop.example/g01120/impl.errForm", "errors.errorType", "math/bits.divideError", "math/bits.overflowError", "internal/strconv.uint64pow10", "math/bits.deBruijn32tab", "math/bits.deBruijn64tab"], ifaces := true, apart := false, laid := [("math/bits.deBruijn32tab", laid_math_bits_deBruijn32tab), ("math/bits.deBruijn64tab", laid_math_bits_deBruijn64tab), ("internal/strconv.uint64pow10", laid_internal_strconv_uint64pow10), ("errors.errorType", laid_errors_errorType), ("loop.example/g01120/impl.errForm", laid_loop_example_g01120_impl_errForm), ("loop.example/g01120/impl.errSize", laid_loop_example_g01120_impl_errSize)] }
def FnExactAddNumbersSaid : Prop := fnExactAddNumbersRow.holds Tryz.pinned (OpenSpec.ofChange fnExactAddNumbersSpec)

/-- ITS FALSE NEIGHBOUR: 'it returns false'. Refute it at one input. -/
def fnExactAddNumbersWrong : ChangeSpec := { name := "fnExactAddNumbers", vars := ["loop.example/g01120/impl.errSize", "loop.example/g01120/impl.errForm"], fn := fun _ => fun
  | [d1, d2, g1, g2] => { results := [.lit (.bool false)], args := [d1, d2], vars := [g1, g2] }
  | _ => none }
def FnExactAddNumbersWrongFalsely : Prop := fnExactAddNumbersRow.holds Tryz.pinned (OpenSpec.ofChange fnExactAddNumbersWrong)

/-- 'laws.FnExactSubNumbers': WHATEVER THE INPUT: true; the input reads as it did. -/
def fnExactSubNumbersSpec : ChangeSpec := { name := "fnExactSubNumbers", vars := ["loop.example/g01120/impl.errSize", "loop.example/g01120/impl.errForm"], fn := fun _ => fun
  | [d1, d2, g1, g2] => { results := [.lit (.bool true)], args := [d1, d2], vars := [g1, g2] }
  | _ => none }
def fnExactSubNumbersRow : OpenClaim := { program := "ytpblpdcdhgjecaagreatdoor", sum := "95f511df32d3b1c3f1c4e2f4cda6d1da155d87fad9b46c4e811c2beb3fea88d9", func := "loop.example/g01120/laws.FnExactSubNumbers", spec := "fnExactSubNumbers", inPlace := ["math/bits.Add64", "internal/reflectlite.ValueOf", "(internal/reflectlite.Value).Type", "(internal/reflectlite.Value).IsNil", "internal/reflectlite.TypeOf", "(internal/reflectlite.Value).Elem", "(internal/reflectlite.Value).Set", "math/bits.Sub64", "internal/abi.NoEscape", "internal/bytealg.MakeNoZero"], unfollowed := true, recurses := true, named := ["loop.example/g01120/impl.errSize", "loop.example/g01120/impl.errForm", "errors.errorType", "math/bits.divideError", "math/bits.overflowError", "internal/strconv.uint64pow10", "math/bits.deBruijn32tab", "math/bits.deBruijn64tab"], ifaces := true, apart := false, laid := [("math/bits.deBruijn32tab", laid_math_bits_deBruijn32tab), ("math/bits.deBruijn64tab", laid_math_bits_deBruijn64tab), ("internal/strconv.uint64pow10", laid_internal_strconv_uint64pow10), ("errors.errorType", laid_errors_errorType), ("loop.example/g01120/impl.errForm", laid_loop_example_g01120_impl_errForm), ("loop.example/g01120/impl.errSize", laid_loop_example_g01120_impl_errSize)] }
def FnExactSubNumbersSaid : Prop := fnExactSubNumbersRow.holds Tryz.pinned (OpenSpec.ofChange fnExactSubNumbersSpec)

/-- ITS FALSE NEIGHBOUR: 'it returns false'. Refute it at one input. -/
def fnExactSubNumbersWrong : ChangeSpec := { name := "fnExactSubNumbers", vars := ["loop.example/g01120/impl.errSize", "loop.example/g01120/impl.errForm"], fn := fun _ => fun
  | [d1, d2, g1, g2] => { results := [.lit (.bool false)], args := [d1, d2], vars := [g1, g2] }
  | _ => none }
def FnExactSubNumbersWrongFalsely : Prop := fnExactSubNumbersRow.holds Tryz.pinned (OpenSpec.ofChange fnExactSubNumbersWrong)

/-- 'laws.FnExactSumNumbers': WHATEVER THE INPUT: true; the input reads as it did. -/
def fnExactSumNumbersSpec : ChangeSpec := { name := "fnExactSumNumbers", vars := ["loop.example/g01120/impl.errSize", "loop.example/g01120/impl.errForm"], fn := fun _ => fun
  | [d, g1, g2] => { results := [.lit (.bool true)], args := [d], vars := [g1, g2] }
  | _ => none }
def fnExactSumNumbersRow : OpenClaim := { program := "ytpblpdcdhgjecaagreatdoor", sum := "95f511df32d3b1c3f1c4e2f4cda6d1da155d87fad9b46c4e811c2beb3fea88d9", func := "loop.example/g01120/laws.FnExactSumNumbers", spec := "fnExactSumNumbers", inPlace := ["math/bits.Add64", "internal/reflectlite.ValueOf", "(internal/reflectlite.Value).Type", "(internal/reflectlite.Value).IsNil", "internal/reflectlite.TypeOf", "(internal/reflectlite.Value).Elem", "(internal/reflectlite.Value).Set", "math/bits.Sub64", "internal/abi.NoEscape", "internal/bytealg.MakeNoZero"], unfollowed := true, recurses := true, named := ["loop.example/g01120/impl.errSize", "loop.example/g01120/impl.errForm", "errors.errorType", "math/bits.divideError", "math/bits.overflowError", "internal/strconv.uint64pow10", "math/bits.deBruijn32tab", "math/bits.deBruijn64tab"], ifaces := true, apart := false, laid := [("math/bits.deBruijn32tab", laid_math_bits_deBruijn32tab), ("math/bits.deBruijn64tab", laid_math_bits_deBruijn64tab), ("internal/strconv.uint64pow10", laid_internal_strconv_uint64pow10), ("errors.errorType", laid_errors_errorType), ("loop.example/g01120/impl.errForm", laid_loop_example_g01120_impl_errForm), ("loop.example/g01120/impl.errSize", laid_loop_example_g01120_impl_errSize)] }
def FnExactSumNumbersSaid : Prop := fnExactSumNumbersRow.holds Tryz.pinned (OpenSpec.ofChange fnExactSumNumbersSpec)

/-- ITS FALSE NEIGHBOUR: 'it returns false'. Refute it at one input. -/
def fnExactSumNumbersWrong : ChangeSpec := { name := "fnExactSumNumbers", vars := ["loop.example/g01120/impl.errSize", "loop.example/g01120/impl.errForm"], fn := fun _ => fun
  | [d, g1, g2] => { results := [.lit (.bool false)], args := [d], vars := [g1, g2] }
  | _ => none }
def FnExactSumNumbersWrongFalsely : Prop := fnExactSumNumbersRow.holds Tryz.pinned (OpenSpec.ofChange fnExactSumNumbersWrong)

/-- 'laws.FnExactDotNumbers': WHATEVER THE INPUT: true; the input reads as it did. -/
def fnExactDotNumbersSpec : ChangeSpec := { name := "fnExactDotNumbers", vars := ["loop.example/g01120/impl.errSize", "loop.example/g01120/impl.errForm"], fn := fun _ => fun
  | [d1, d2, g1, g2] => { results := [.lit (.bool true)], args := [d1, d2], vars := [g1, g2] }
  | _ => none }
def fnExactDotNumbersRow : OpenClaim := { program := "ytpblpdcdhgjecaagreatdoor", sum := "95f511df32d3b1c3f1c4e2f4cda6d1da155d87fad9b46c4e811c2beb3fea88d9", func := "loop.example/g01120/laws.FnExactDotNumbers", spec := "fnExactDotNumbers", inPlace := ["math/bits.Add64", "internal/reflectlite.ValueOf", "(internal/reflectlite.Value).Type", "(internal/reflectlite.Value).IsNil", "internal/reflectlite.TypeOf", "(internal/reflectlite.Value).Elem", "(internal/reflectlite.Value).Set", "math/bits.Sub64", "internal/abi.NoEscape", "internal/bytealg.MakeNoZero"], unfollowed := true, recurses := true, named := ["loop.example/g01120/impl.errSize", "loop.example/g01120/impl.errForm", "errors.errorType", "math/bits.divideError", "math/bits.overflowError", "internal/strconv.uint64pow10", "math/bits.deBruijn32tab", "math/bits.deBruijn64tab"], ifaces := true, apart := false, laid := [("math/bits.deBruijn32tab", laid_math_bits_deBruijn32tab), ("math/bits.deBruijn64tab", laid_math_bits_deBruijn64tab), ("internal/strconv.uint64pow10", laid_internal_strconv_uint64pow10), ("errors.errorType", laid_errors_errorType), ("loop.example/g01120/impl.errForm", laid_loop_example_g01120_impl_errForm), ("loop.example/g01120/impl.errSize", laid_loop_example_g01120_impl_errSize)] }
def FnExactDotNumbersSaid : Prop := fnExactDotNumbersRow.holds Tryz.pinned (OpenSpec.ofChange fnExactDotNumbersSpec)

/-- ITS FALSE NEIGHBOUR: 'it returns false'. Refute it at one input. -/
def fnExactDotNumbersWrong : ChangeSpec := { name := "fnExactDotNumbers", vars := ["loop.example/g01120/impl.errSize", "loop.example/g01120/impl.errForm"], fn := fun _ => fun
  | [d1, d2, g1, g2] => { results := [.lit (.bool false)], args := [d1, d2], vars := [g1, g2] }
  | _ => none }
def FnExactDotNumbersWrongFalsely : Prop := fnExactDotNumbersRow.holds Tryz.pinned (OpenSpec.ofChange fnExactDotNumbersWrong)

/-- 'laws.FnExactReadNumbers': WHATEVER THE INPUT: true; the input reads as it did. -/
def fnExactReadNumbersSpec : ChangeSpec := { name := "fnExactReadNumbers", vars := ["loop.example/g01120/impl.errSize", "loop.example/g01120/impl.errForm"], fn := fun _ => fun
  | [d, g1, g2] => { results := [.lit (.bool true)], args := [d], vars := [g1, g2] }
  | _ => none }
def fnExactReadNumbersRow : OpenClaim := { program := "ytpblpdcdhgjecaagreatdoor", sum := "95f511df32d3b1c3f1c4e2f4cda6d1da155d87fad9b46c4e811c2beb3fea88d9", func := "loop.example/g01120/laws.FnExactReadNumbers", spec := "fnExactReadNumbers", inPlace := ["internal/bytealg.IndexByteString", "internal/bytealg.IndexString", "math/bits.Add64", "internal/reflectlite.ValueOf", "(internal/reflectlite.Value).Type", "(internal/reflectlite.Value).IsNil", "internal/reflectlite.TypeOf", "(internal/reflectlite.Value).Elem", "(internal/reflectlite.Value).Set", "math/bits.Sub64"], unfollowed := true, recurses := true, named := ["internal/bytealg.MaxLen", "loop.example/g01120/impl.errSize", "loop.example/g01120/impl.errForm", "errors.errorType", "math/bits.divideError", "math/bits.overflowError"], ifaces := true, apart := false, laid := [("errors.errorType", laid_errors_errorType), ("loop.example/g01120/impl.errForm", laid_loop_example_g01120_impl_errForm), ("loop.example/g01120/impl.errSize", laid_loop_example_g01120_impl_errSize)] }
def FnExactReadNumbersSaid : Prop := fnExactReadNumbersRow.holds Tryz.pinned (OpenSpec.ofChange fnExactReadNumbersSpec)

/-- ITS FALSE NEIGHBOUR: 'it returns false'. Refute it at one input. -/
def fnExactReadNumbersWrong : ChangeSpec := { name := "fnExactReadNumbers", vars := ["loop.example/g01120/impl.errSize", "loop.example/g01120/impl.errForm"], fn := fun _ => fun
  | [d, g1, g2] => { results := [.lit (.bool false)], args := [d], vars := [g1, g2] }
  | _ => none }
def FnExactReadNumbersWrongFalsely : Prop := fnExactReadNumbersRow.holds Tryz.pinned (OpenSpec.ofChange fnExactReadNumbersWrong)

/-- 'laws.FnExactEvalPoly': WHATEVER THE INPUT: true; the input reads as it did. -/
def fnExactEvalPolySpec : ChangeSpec := { name := "fnExactEvalPoly", vars := ["loop.example/g01120/impl.errSize", "loop.example/g01120/impl.errForm"], fn := fun _ => fun
  | [d1, d2, g1, g2] => { results := [.lit (.bool true)], args := [d1, d2], vars := [g1, g2] }
  | _ => none }
def fnExactEvalPolyRow : OpenClaim := { program := "ytpblpdcdhgjecaagreatdoor", sum := "95f511df32d3b1c3f1c4e2f4cda6d1da155d87fad9b46c4e811c2beb3fea88d9", func := "loop.example/g01120/laws.FnExactEvalPoly", spec := "fnExactEvalPoly", inPlace := ["math/bits.Add64", "internal/reflectlite.ValueOf", "(internal/reflectlite.Value).Type", "(internal/reflectlite.Value).IsNil", "internal/reflectlite.TypeOf", "(internal/reflectlite.Value).Elem", "(internal/reflectlite.Value).Set", "math/bits.Sub64", "internal/abi.NoEscape", "internal/bytealg.MakeNoZero"], unfollowed := true, recurses := true, named := ["loop.example/g01120/impl.errSize", "loop.example/g01120/impl.errForm", "errors.errorType", "math/bits.divideError", "math/bits.overflowError", "internal/strconv.uint64pow10", "math/bits.deBruijn32tab", "math/bits.deBruijn64tab"], ifaces := true, apart := false, laid := [("math/bits.deBruijn32tab", laid_math_bits_deBruijn32tab), ("math/bits.deBruijn64tab", laid_math_bits_deBruijn64tab), ("internal/strconv.uint64pow10", laid_internal_strconv_uint64pow10), ("errors.errorType", laid_errors_errorType), ("loop.example/g01120/impl.errForm", laid_loop_example_g01120_impl_errForm), ("loop.example/g01120/impl.errSize", laid_loop_example_g01120_impl_errSize)] }
def FnExactEvalPolySaid : Prop := fnExactEvalPolyRow.holds Tryz.pinned (OpenSpec.ofChange fnExactEvalPolySpec)

/-- ITS FALSE NEIGHBOUR: 'it returns false'. Refute it at one input. -/
def fnExactEvalPolyWrong : ChangeSpec := { name := "fnExactEvalPoly", vars := ["loop.example/g01120/impl.errSize", "loop.example/g01120/impl.errForm"], fn := fun _ => fun
  | [d1, d2, g1, g2] => { results := [.lit (.bool false)], args := [d1, d2], vars := [g1, g2] }
  | _ => none }
def FnExactEvalPolyWrongFalsely : Prop := fnExactEvalPolyRow.holds Tryz.pinned (OpenSpec.ofChange fnExactEvalPolyWrong)

/-- 'laws.FnExactHankelOf': WHATEVER THE INPUT: true; the input reads as it did. -/
def fnExactHankelOfSpec : ChangeSpec := { name := "fnExactHankelOf", vars := ["loop.example/g01120/impl.errSize", "loop.example/g01120/impl.errForm"], fn := fun _ => fun
  | [d1, d2, d3, g1, g2] => { results := [.lit (.bool true)], args := [d1, d2, d3], vars := [g1, g2] }
  | _ => none }
def fnExactHankelOfRow : OpenClaim := { program := "ytpblpdcdhgjecaagreatdoor", sum := "95f511df32d3b1c3f1c4e2f4cda6d1da155d87fad9b46c4e811c2beb3fea88d9", func := "loop.example/g01120/laws.FnExactHankelOf", spec := "fnExactHankelOf", inPlace := ["math/bits.Add64", "internal/reflectlite.ValueOf", "(internal/reflectlite.Value).Type", "(internal/reflectlite.Value).IsNil", "internal/reflectlite.TypeOf", "(internal/reflectlite.Value).Elem", "(internal/reflectlite.Value).Set", "math/bits.Sub64"], unfollowed := true, recurses := true, named := ["loop.example/g01120/impl.errSize", "loop.example/g01120/impl.errForm", "errors.errorType", "math/bits.divideError", "math/bits.overflowError"], ifaces := true, apart := false, laid := [("errors.errorType", laid_errors_errorType), ("loop.example/g01120/impl.errForm", laid_loop_example_g01120_impl_errForm), ("loop.example/g01120/impl.errSize", laid_loop_example_g01120_impl_errSize)] }
def FnExactHankelOfSaid : Prop := fnExactHankelOfRow.holds Tryz.pinned (OpenSpec.ofChange fnExactHankelOfSpec)

/-- ITS FALSE NEIGHBOUR: 'it returns false'. Refute it at one input. -/
def fnExactHankelOfWrong : ChangeSpec := { name := "fnExactHankelOf", vars := ["loop.example/g01120/impl.errSize", "loop.example/g01120/impl.errForm"], fn := fun _ => fun
  | [d1, d2, d3, g1, g2] => { results := [.lit (.bool false)], args := [d1, d2, d3], vars := [g1, g2] }
  | _ => none }
def FnExactHankelOfWrongFalsely : Prop := fnExactHankelOfRow.holds Tryz.pinned (OpenSpec.ofChange fnExactHankelOfWrong)

/-- 'laws.FnExactCompanionOf': WHATEVER THE INPUT: true; the input reads as it did. -/
def fnExactCompanionOfSpec : ChangeSpec := { name := "fnExactCompanionOf", vars := ["loop.example/g01120/impl.errSize", "loop.example/g01120/impl.errForm"], fn := fun _ => fun
  | [d, g1, g2] => { results := [.lit (.bool true)], args := [d], vars := [g1, g2] }
  | _ => none }
def fnExactCompanionOfRow : OpenClaim := { program := "ytpblpdcdhgjecaagreatdoor", sum := "95f511df32d3b1c3f1c4e2f4cda6d1da155d87fad9b46c4e811c2beb3fea88d9", func := "loop.example/g01120/laws.FnExactCompanionOf", spec := "fnExactCompanionOf", inPlace := ["math/bits.Add64", "internal/reflectlite.ValueOf", "(internal/reflectlite.Value).Type", "(internal/reflectlite.Value).IsNil", "internal/reflectlite.TypeOf", "(internal/reflectlite.Value).Elem", "(internal/reflectlite.Value).Set", "math/bits.Sub64"], unfollowed := true, recurses := true, named := ["loop.example/g01120/impl.errSize", "loop.example/g01120/impl.errForm", "errors.errorType", "math/bits.divideError", "math/bits.overflowError"], ifaces := true, apart := false, laid := [("errors.errorType", laid_errors_errorType), ("loop.example/g01120/impl.errForm", laid_loop_example_g01120_impl_errForm), ("loop.example/g01120/impl.errSize", laid_loop_example_g01120_impl_errSize)] }
def FnExactCompanionOfSaid : Prop := fnExactCompanionOfRow.holds Tryz.pinned (OpenSpec.ofChange fnExactCompanionOfSpec)

/-- ITS FALSE NEIGHBOUR: 'it returns false'. Refute it at one input. -/
def fnExactCompanionOfWrong : ChangeSpec := { name := "fnExactCompanionOf", vars := ["loop.example/g01120/impl.errSize", "loop.example/g01120/impl.errForm"], fn := fun _ => fun
  | [d, g1, g2] => { results := [.lit (.bool false)], args := [d], vars := [g1, g2] }
  | _ => none }
def FnExactCompanionOfWrongFalsely : Prop := fnExactCompanionOfRow.holds Tryz.pinned (OpenSpec.ofChange fnExactCompanionOfWrong)

/-- 'laws.FnExactRecurrenceText': WHATEVER THE INPUT: true; the input reads as it did. -/
def fnExactRecurrenceTextSpec : ChangeSpec := { name := "fnExactRecurrenceText", vars := ["loop.example/g01120/impl.errSize", "loop.example/g01120/impl.errForm"], fn := fun _ => fun
  | [d, g1, g2] => { results := [.lit (.bool true)], args := [d], vars := [g1, g2] }
  | _ => none }
def fnExactRecurrenceTextRow : OpenClaim := { program := "ytpblpdcdhgjecaagreatdoor", sum := "95f511df32d3b1c3f1c4e2f4cda6d1da155d87fad9b46c4e811c2beb3fea88d9", func := "loop.example/g01120/laws.FnExactRecurrenceText", spec := "fnExactRecurrenceText", inPlace := ["math/bits.Add64", "internal/reflectlite.ValueOf", "(internal/reflectlite.Value).Type", "(internal/reflectlite.Value).IsNil", "internal/reflectlite.TypeOf", "(internal/reflectlite.Value).Elem", "(internal/reflectlite.Value).Set", "math/bits.Sub64", "internal/abi.NoEscape", "internal/bytealg.MakeNoZero"], unfollowed := true, recurses := true, named := ["loop.example/g01120/impl.errSize", "loop.example/g01120/impl.errForm", "errors.errorType", "math/bits.divideError", "math/bits.overflowError"], ifaces := true, apart := false, laid := [("errors.errorType", laid_errors_errorType), ("loop.example/g01120/impl.errForm", laid_loop_example_g01120_impl_errForm), ("loop.example/g01120/impl.errSize", laid_loop_example_g01120_impl_errSize)] }
def FnExactRecurrenceTextSaid : Prop := fnExactRecurrenceTextRow.holds Tryz.pinned (OpenSpec.ofChange fnExactRecurrenceTextSpec)

/-- ITS FALSE NEIGHBOUR: 'it returns false'. Refute it at one input. -/
def fnExactRecurrenceTextWrong : ChangeSpec := { name := "fnExactRecurrenceText", vars := ["loop.example/g01120/impl.errSize", "loop.example/g01120/impl.errForm"], fn := fun _ => fun
  | [d, g1, g2] => { results := [.lit (.bool false)], args := [d], vars := [g1, g2] }
  | _ => none }
def FnExactRecurrenceTextWrongFalsely : Prop := fnExactRecurrenceTextRow.holds Tryz.pinned (OpenSpec.ofChange fnExactRecurrenceTextWrong)

/-- 'laws.FnExactReadRecurrence': WHATEVER THE INPUT: true; the input reads as it did. -/
def fnExactReadRecurrenceSpec : ChangeSpec := { name := "fnExactReadRecurrence", vars := ["loop.example/g01120/impl.errSize", "loop.example/g01120/impl.errForm"], fn := fun _ => fun
  | [d, g1, g2] => { results := [.lit (.bool true)], args := [d], vars := [g1, g2] }
  | _ => none }
def fnExactReadRecurrenceRow : OpenClaim := { program := "ytpblpdcdhgjecaagreatdoor", sum := "95f511df32d3b1c3f1c4e2f4cda6d1da155d87fad9b46c4e811c2beb3fea88d9", func := "loop.example/g01120/laws.FnExactReadRecurrence", spec := "fnExactReadRecurrence", inPlace := ["internal/bytealg.IndexByteString", "internal/bytealg.IndexString", "math/bits.Add64", "internal/reflectlite.ValueOf", "(internal/reflectlite.Value).Type", "(internal/reflectlite.Value).IsNil", "internal/reflectlite.TypeOf", "(internal/reflectlite.Value).Elem", "(internal/reflectlite.Value).Set", "math/bits.Sub64"], unfollowed := true, recurses := true, named := ["internal/bytealg.MaxLen", "loop.example/g01120/impl.errSize", "loop.example/g01120/impl.errForm", "errors.errorType", "math/bits.divideError", "math/bits.overflowError"], ifaces := true, apart := false, laid := [("errors.errorType", laid_errors_errorType), ("loop.example/g01120/impl.errForm", laid_loop_example_g01120_impl_errForm), ("loop.example/g01120/impl.errSize", laid_loop_example_g01120_impl_errSize)] }
def FnExactReadRecurrenceSaid : Prop := fnExactReadRecurrenceRow.holds Tryz.pinned (OpenSpec.ofChange fnExactReadRecurrenceSpec)

/-- ITS FALSE NEIGHBOUR: 'it returns false'. Refute it at one input. -/
def fnExactReadRecurrenceWrong : ChangeSpec := { name := "fnExactReadRecurrence", vars := ["loop.example/g01120/impl.errSize", "loop.example/g01120/impl.errForm"], fn := fun _ => fun
  | [d, g1, g2] => { results := [.lit (.bool false)], args := [d], vars := [g1, g2] }
  | _ => none }
def FnExactReadRecurrenceWrongFalsely : Prop := fnExactReadRecurrenceRow.holds Tryz.pinned (OpenSpec.ofChange fnExactReadRecurrenceWrong)

/-- 'laws.FnExactIsWhole': WHATEVER THE INPUT: true; the input reads as it did. -/
def fnExactIsWholeSpec : ChangeSpec := { name := "fnExactIsWhole", vars := ["loop.example/g01120/impl.errSize", "loop.example/g01120/impl.errForm"], fn := fun _ => fun
  | [d, g1, g2] => { results := [.lit (.bool true)], args := [d], vars := [g1, g2] }
  | _ => none }
def fnExactIsWholeRow : OpenClaim := { program := "ytpblpdcdhgjecaagreatdoor", sum := "95f511df32d3b1c3f1c4e2f4cda6d1da155d87fad9b46c4e811c2beb3fea88d9", func := "loop.example/g01120/laws.FnExactIsWhole", spec := "fnExactIsWhole", inPlace := ["math/bits.Add64", "internal/reflectlite.ValueOf", "(internal/reflectlite.Value).Type", "(internal/reflectlite.Value).IsNil", "internal/reflectlite.TypeOf", "(internal/reflectlite.Value).Elem", "(internal/reflectlite.Value).Set", "math/bits.Sub64"], unfollowed := true, recurses := true, named := ["loop.example/g01120/impl.errSize", "loop.example/g01120/impl.errForm", "errors.errorType", "math/bits.divideError", "math/bits.overflowError"], ifaces := true, apart := false, laid := [("errors.errorType", laid_errors_errorType), ("loop.example/g01120/impl.errForm", laid_loop_example_g01120_impl_errForm), ("loop.example/g01120/impl.errSize", laid_loop_example_g01120_impl_errSize)] }
def FnExactIsWholeSaid : Prop := fnExactIsWholeRow.holds Tryz.pinned (OpenSpec.ofChange fnExactIsWholeSpec)

/-- ITS FALSE NEIGHBOUR: 'it returns false'. Refute it at one input. -/
def fnExactIsWholeWrong : ChangeSpec := { name := "fnExactIsWhole", vars := ["loop.example/g01120/impl.errSize", "loop.example/g01120/impl.errForm"], fn := fun _ => fun
  | [d, g1, g2] => { results := [.lit (.bool false)], args := [d], vars := [g1, g2] }
  | _ => none }
def FnExactIsWholeWrongFalsely : Prop := fnExactIsWholeRow.holds Tryz.pinned (OpenSpec.ofChange fnExactIsWholeWrong)

/- THE SECOND FORM. 'bulk': how many values and letters a reading holds, each counted each time it is reached (what is shared counts as often as it is met; a slice's spare places count too). A statement '..UptoSaid' is the law's where the arguments, and the package variables that the reading takes, are together of bulk at most 1048576: NARROWER than '..Said'. Prove '..Said' where nothing that the law and all that it calls make is longer than what came in: it says more and counts as full. Else prove '..UptoSaid'. A law counts once. -/
mutual
def uptoBulk {H : Type} : DataW H → Nat
  | .lit (.string bytes) => bytes.length + 1
  | .lit _ => 1
  | .nil => 1
  | .ptr d => uptoBulk d + 1
  | .slice elems spare => uptoBulkAll elems + uptoBulkAll spare + 1
  | .agg parts => uptoBulkAll parts + 1
  | .iface _ d => uptoBulk d + 1
  | .map entries => uptoBulkEntries entries + 1
  | .held _ => 1
def uptoBulkAll {H : Type} : List (DataW H) → Nat
  | [] => 0
  | d :: r => uptoBulk d + uptoBulkAll r
def uptoBulkEntries {H : Type} : List (Lit × DataW H) → Nat
  | [] => 0
  | x :: r => uptoBulkEntry x + uptoBulkEntries r
def uptoBulkEntry {H : Type} : Lit × DataW H → Nat
  | (.string bytes, d) => bytes.length + uptoBulk d + 1
  | (_, d) => uptoBulk d + 1
 end
def uptoSmall : (H : Type) → List (DataW H) → Bool := fun _ ds => decide (uptoBulkAll ds ≤ 1048576)
def OpenSpec.upto (s : _root_.Go.ChangeSpec) : _root_.Go.OpenSpec := { _root_.Go.OpenSpec.ofChange s with cond := some uptoSmall }

/-- 'laws.FnExactAddNumbers', WHERE WHAT IT READS IS OF BULK AT MOST 1048576: true; the input reads as it did. -/
def fnExactAddNumbersUptoRow : OpenClaim := { program := "ytpblpdcdhgjecaagreatdoor", sum := "95f511df32d3b1c3f1c4e2f4cda6d1da155d87fad9b46c4e811c2beb3fea88d9", func := "loop.example/g01120/laws.FnExactAddNumbers", spec := "fnExactAddNumbers", inPlace := ["math/bits.Add64", "internal/reflectlite.ValueOf", "(internal/reflectlite.Value).Type", "(internal/reflectlite.Value).IsNil", "internal/reflectlite.TypeOf", "(internal/reflectlite.Value).Elem", "(internal/reflectlite.Value).Set", "math/bits.Sub64", "internal/abi.NoEscape", "internal/bytealg.MakeNoZero"], unfollowed := true, recurses := true, named := ["loop.example/g01120/impl.errSize", "loop.example/g01120/impl.errForm", "errors.errorType", "math/bits.divideError", "math/bits.overflowError", "internal/strconv.uint64pow10", "math/bits.deBruijn32tab", "math/bits.deBruijn64tab"], ifaces := true, apart := false, laid := [("math/bits.deBruijn32tab", laid_math_bits_deBruijn32tab), ("math/bits.deBruijn64tab", laid_math_bits_deBruijn64tab), ("internal/strconv.uint64pow10", laid_internal_strconv_uint64pow10), ("errors.errorType", laid_errors_errorType), ("loop.example/g01120/impl.errForm", laid_loop_example_g01120_impl_errForm), ("loop.example/g01120/impl.errSize", laid_loop_example_g01120_impl_errSize)], narrowed := true }
def FnExactAddNumbersUptoSaid : Prop := fnExactAddNumbersUptoRow.holds Tryz.pinned (OpenSpec.upto fnExactAddNumbersSpec)

/-- 'laws.FnExactSubNumbers', WHERE WHAT IT READS IS OF BULK AT MOST 1048576: true; the input reads as it did. -/
def fnExactSubNumbersUptoRow : OpenClaim := { program := "ytpblpdcdhgjecaagreatdoor", sum := "95f511df32d3b1c3f1c4e2f4cda6d1da155d87fad9b46c4e811c2beb3fea88d9", func := "loop.example/g01120/laws.FnExactSubNumbers", spec := "fnExactSubNumbers", inPlace := ["math/bits.Add64", "internal/reflectlite.ValueOf", "(internal/reflectlite.Value).Type", "(internal/reflectlite.Value).IsNil", "internal/reflectlite.TypeOf", "(internal/reflectlite.Value).Elem", "(internal/reflectlite.Value).Set", "math/bits.Sub64", "internal/abi.NoEscape", "internal/bytealg.MakeNoZero"], unfollowed := true, recurses := true, named := ["loop.example/g01120/impl.errSize", "loop.example/g01120/impl.errForm", "errors.errorType", "math/bits.divideError", "math/bits.overflowError", "internal/strconv.uint64pow10", "math/bits.deBruijn32tab", "math/bits.deBruijn64tab"], ifaces := true, apart := false, laid := [("math/bits.deBruijn32tab", laid_math_bits_deBruijn32tab), ("math/bits.deBruijn64tab", laid_math_bits_deBruijn64tab), ("internal/strconv.uint64pow10", laid_internal_strconv_uint64pow10), ("errors.errorType", laid_errors_errorType), ("loop.example/g01120/impl.errForm", laid_loop_example_g01120_impl_errForm), ("loop.example/g01120/impl.errSize", laid_loop_example_g01120_impl_errSize)], narrowed := true }
def FnExactSubNumbersUptoSaid : Prop := fnExactSubNumbersUptoRow.holds Tryz.pinned (OpenSpec.upto fnExactSubNumbersSpec)

/-- 'laws.FnExactSumNumbers', WHERE WHAT IT READS IS OF BULK AT MOST 1048576: true; the input reads as it did. -/
def fnExactSumNumbersUptoRow : OpenClaim := { program := "ytpblpdcdhgjecaagreatdoor", sum := "95f511df32d3b1c3f1c4e2f4cda6d1da155d87fad9b46c4e811c2beb3fea88d9", func := "loop.example/g01120/laws.FnExactSumNumbers", spec := "fnExactSumNumbers", inPlace := ["math/bits.Add64", "internal/reflectlite.ValueOf", "(internal/reflectlite.Value).Type", "(internal/reflectlite.Value).IsNil", "internal/reflectlite.TypeOf", "(internal/reflectlite.Value).Elem", "(internal/reflectlite.Value).Set", "math/bits.Sub64", "internal/abi.NoEscape", "internal/bytealg.MakeNoZero"], unfollowed := true, recurses := true, named := ["loop.example/g01120/impl.errSize", "loop.example/g01120/impl.errForm", "errors.errorType", "math/bits.divideError", "math/bits.overflowError", "internal/strconv.uint64pow10", "math/bits.deBruijn32tab", "math/bits.deBruijn64tab"], ifaces := true, apart := false, laid := [("math/bits.deBruijn32tab", laid_math_bits_deBruijn32tab), ("math/bits.deBruijn64tab", laid_math_bits_deBruijn64tab), ("internal/strconv.uint64pow10", laid_internal_strconv_uint64pow10), ("errors.errorType", laid_errors_errorType), ("loop.example/g01120/impl.errForm", laid_loop_example_g01120_impl_errForm), ("loop.example/g01120/impl.errSize", laid_loop_example_g01120_impl_errSize)], narrowed := true }
def FnExactSumNumbersUptoSaid : Prop := fnExactSumNumbersUptoRow.holds Tryz.pinned (OpenSpec.upto fnExactSumNumbersSpec)

/-- 'laws.FnExactDotNumbers', WHERE WHAT IT READS IS OF BULK AT MOST 1048576: true; the input reads as it did. -/
def fnExactDotNumbersUptoRow : OpenClaim := { program := "ytpblpdcdhgjecaagreatdoor", sum := "95f511df32d3b1c3f1c4e2f4cda6d1da155d87fad9b46c4e811c2beb3fea88d9", func := "loop.example/g01120/laws.FnExactDotNumbers", spec := "fnExactDotNumbers", inPlace := ["math/bits.Add64", "internal/reflectlite.ValueOf", "(internal/reflectlite.Value).Type", "(internal/reflectlite.Value).IsNil", "internal/reflectlite.TypeOf", "(internal/reflectlite.Value).Elem", "(internal/reflectlite.Value).Set", "math/bits.Sub64", "internal/abi.NoEscape", "internal/bytealg.MakeNoZero"], unfollowed := true, recurses := true, named := ["loop.example/g01120/impl.errSize", "loop.example/g01120/impl.errForm", "errors.errorType", "math/bits.divideError", "math/bits.overflowError", "internal/strconv.uint64pow10", "math/bits.deBruijn32tab", "math/bits.deBruijn64tab"], ifaces := true, apart := false, laid := [("math/bits.deBruijn32tab", laid_math_bits_deBruijn32tab), ("math/bits.deBruijn64tab", laid_math_bits_deBruijn64tab), ("internal/strconv.uint64pow10", laid_internal_strconv_uint64pow10), ("errors.errorType", laid_errors_errorType), ("loop.example/g01120/impl.errForm", laid_loop_example_g01120_impl_errForm), ("loop.example/g01120/impl.errSize", laid_loop_example_g01120_impl_errSize)], narrowed := true }
def FnExactDotNumbersUptoSaid : Prop := fnExactDotNumbersUptoRow.holds Tryz.pinned (OpenSpec.upto fnExactDotNumbersSpec)

/-- 'laws.FnExactReadNumbers', WHERE WHAT IT READS IS OF BULK AT MOST 1048576: true; the input reads as it did. -/
def fnExactReadNumbersUptoRow : OpenClaim := { program := "ytpblpdcdhgjecaagreatdoor", sum := "95f511df32d3b1c3f1c4e2f4cda6d1da155d87fad9b46c4e811c2beb3fea88d9", func := "loop.example/g01120/laws.FnExactReadNumbers", spec := "fnExactReadNumbers", inPlace := ["internal/bytealg.IndexByteString", "internal/bytealg.IndexString", "math/bits.Add64", "internal/reflectlite.ValueOf", "(internal/reflectlite.Value).Type", "(internal/reflectlite.Value).IsNil", "internal/reflectlite.TypeOf", "(internal/reflectlite.Value).Elem", "(internal/reflectlite.Value).Set", "math/bits.Sub64"], unfollowed := true, recurses := true, named := ["internal/bytealg.MaxLen", "loop.example/g01120/impl.errSize", "loop.example/g01120/impl.errForm", "errors.errorType", "math/bits.divideError", "math/bits.overflowError"], ifaces := true, apart := false, laid := [("errors.errorType", laid_errors_errorType), ("loop.example/g01120/impl.errForm", laid_loop_example_g01120_impl_errForm), ("loop.example/g01120/impl.errSize", laid_loop_example_g01120_impl_errSize)], narrowed := true }
def FnExactReadNumbersUptoSaid : Prop := fnExactReadNumbersUptoRow.holds Tryz.pinned (OpenSpec.upto fnExactReadNumbersSpec)

/-- 'laws.FnExactEvalPoly', WHERE WHAT IT READS IS OF BULK AT MOST 1048576: true; the input reads as it did. -/
def fnExactEvalPolyUptoRow : OpenClaim := { program := "ytpblpdcdhgjecaagreatdoor", sum := "95f511df32d3b1c3f1c4e2f4cda6d1da155d87fad9b46c4e811c2beb3fea88d9", func := "loop.example/g01120/laws.FnExactEvalPoly", spec := "fnExactEvalPoly", inPlace := ["math/bits.Add64", "internal/reflectlite.ValueOf", "(internal/reflectlite.Value).Type", "(internal/reflectlite.Value).IsNil", "internal/reflectlite.TypeOf", "(internal/reflectlite.Value).Elem", "(internal/reflectlite.Value).Set", "math/bits.Sub64", "internal/abi.NoEscape", "internal/bytealg.MakeNoZero"], unfollowed := true, recurses := true, named := ["loop.example/g01120/impl.errSize", "loop.example/g01120/impl.errForm", "errors.errorType", "math/bits.divideError", "math/bits.overflowError", "internal/strconv.uint64pow10", "math/bits.deBruijn32tab", "math/bits.deBruijn64tab"], ifaces := true, apart := false, laid := [("math/bits.deBruijn32tab", laid_math_bits_deBruijn32tab), ("math/bits.deBruijn64tab", laid_math_bits_deBruijn64tab), ("internal/strconv.uint64pow10", laid_internal_strconv_uint64pow10), ("errors.errorType", laid_errors_errorType), ("loop.example/g01120/impl.errForm", laid_loop_example_g01120_impl_errForm), ("loop.example/g01120/impl.errSize", laid_loop_example_g01120_impl_errSize)], narrowed := true }
def FnExactEvalPolyUptoSaid : Prop := fnExactEvalPolyUptoRow.holds Tryz.pinned (OpenSpec.upto fnExactEvalPolySpec)

/-- 'laws.FnExactHankelOf', WHERE WHAT IT READS IS OF BULK AT MOST 1048576: true; the input reads as it did. -/
def fnExactHankelOfUptoRow : OpenClaim := { program := "ytpblpdcdhgjecaagreatdoor", sum := "95f511df32d3b1c3f1c4e2f4cda6d1da155d87fad9b46c4e811c2beb3fea88d9", func := "loop.example/g01120/laws.FnExactHankelOf", spec := "fnExactHankelOf", inPlace := ["math/bits.Add64", "internal/reflectlite.ValueOf", "(internal/reflectlite.Value).Type", "(internal/reflectlite.Value).IsNil", "internal/reflectlite.TypeOf", "(internal/reflectlite.Value).Elem", "(internal/reflectlite.Value).Set", "math/bits.Sub64"], unfollowed := true, recurses := true, named := ["loop.example/g01120/impl.errSize", "loop.example/g01120/impl.errForm", "errors.errorType", "math/bits.divideError", "math/bits.overflowError"], ifaces := true, apart := false, laid := [("errors.errorType", laid_errors_errorType), ("loop.example/g01120/impl.errForm", laid_loop_example_g01120_impl_errForm), ("loop.example/g01120/impl.errSize", laid_loop_example_g01120_impl_errSize)], narrowed := true }
def FnExactHankelOfUptoSaid : Prop := fnExactHankelOfUptoRow.holds Tryz.pinned (OpenSpec.upto fnExactHankelOfSpec)

/-- 'laws.FnExactCompanionOf', WHERE WHAT IT READS IS OF BULK AT MOST 1048576: true; the input reads as it did. -/
def fnExactCompanionOfUptoRow : OpenClaim := { program := "ytpblpdcdhgjecaagreatdoor", sum := "95f511df32d3b1c3f1c4e2f4cda6d1da155d87fad9b46c4e811c2beb3fea88d9", func := "loop.example/g01120/laws.FnExactCompanionOf", spec := "fnExactCompanionOf", inPlace := ["math/bits.Add64", "internal/reflectlite.ValueOf", "(internal/reflectlite.Value).Type", "(internal/reflectlite.Value).IsNil", "internal/reflectlite.TypeOf", "(internal/reflectlite.Value).Elem", "(internal/reflectlite.Value).Set", "math/bits.Sub64"], unfollowed := true, recurses := true, named := ["loop.example/g01120/impl.errSize", "loop.example/g01120/impl.errForm", "errors.errorType", "math/bits.divideError", "math/bits.overflowError"], ifaces := true, apart := false, laid := [("errors.errorType", laid_errors_errorType), ("loop.example/g01120/impl.errForm", laid_loop_example_g01120_impl_errForm), ("loop.example/g01120/impl.errSize", laid_loop_example_g01120_impl_errSize)], narrowed := true }
def FnExactCompanionOfUptoSaid : Prop := fnExactCompanionOfUptoRow.holds Tryz.pinned (OpenSpec.upto fnExactCompanionOfSpec)

/-- 'laws.FnExactRecurrenceText', WHERE WHAT IT READS IS OF BULK AT MOST 1048576: true; the input reads as it did. -/
def fnExactRecurrenceTextUptoRow : OpenClaim := { program := "ytpblpdcdhgjecaagreatdoor", sum := "95f511df32d3b1c3f1c4e2f4cda6d1da155d87fad9b46c4e811c2beb3fea88d9", func := "loop.example/g01120/laws.FnExactRecurrenceText", spec := "fnExactRecurrenceText", inPlace := ["math/bits.Add64", "internal/reflectlite.ValueOf", "(internal/reflectlite.Value).Type", "(internal/reflectlite.Value).IsNil", "internal/reflectlite.TypeOf", "(internal/reflectlite.Value).Elem", "(internal/reflectlite.Value).Set", "math/bits.Sub64", "internal/abi.NoEscape", "internal/bytealg.MakeNoZero"], unfollowed := true, recurses := true, named := ["loop.example/g01120/impl.errSize", "loop.example/g01120/impl.errForm", "errors.errorType", "math/bits.divideError", "math/bits.overflowError"], ifaces := true, apart := false, laid := [("errors.errorType", laid_errors_errorType), ("loop.example/g01120/impl.errForm", laid_loop_example_g01120_impl_errForm), ("loop.example/g01120/impl.errSize", laid_loop_example_g01120_impl_errSize)], narrowed := true }
def FnExactRecurrenceTextUptoSaid : Prop := fnExactRecurrenceTextUptoRow.holds Tryz.pinned (OpenSpec.upto fnExactRecurrenceTextSpec)

/-- 'laws.FnExactReadRecurrence', WHERE WHAT IT READS IS OF BULK AT MOST 1048576: true; the input reads as it did. -/
def fnExactReadRecurrenceUptoRow : OpenClaim := { program := "ytpblpdcdhgjecaagreatdoor", sum := "95f511df32d3b1c3f1c4e2f4cda6d1da155d87fad9b46c4e811c2beb3fea88d9", func := "loop.example/g01120/laws.FnExactReadRecurrence", spec := "fnExactReadRecurrence", inPlace := ["internal/bytealg.IndexByteString", "internal/bytealg.IndexString", "math/bits.Add64", "internal/reflectlite.ValueOf", "(internal/reflectlite.Value).Type", "(internal/reflectlite.Value).IsNil", "internal/reflectlite.TypeOf", "(internal/reflectlite.Value).Elem", "(internal/reflectlite.Value).Set", "math/bits.Sub64"], unfollowed := true, recurses := true, named := ["internal/bytealg.MaxLen", "loop.example/g01120/impl.errSize", "loop.example/g01120/impl.errForm", "errors.errorType", "math/bits.divideError", "math/bits.overflowError"], ifaces := true, apart := false, laid := [("errors.errorType", laid_errors_errorType), ("loop.example/g01120/impl.errForm", laid_loop_example_g01120_impl_errForm), ("loop.example/g01120/impl.errSize", laid_loop_example_g01120_impl_errSize)], narrowed := true }
def FnExactReadRecurrenceUptoSaid : Prop := fnExactReadRecurrenceUptoRow.holds Tryz.pinned (OpenSpec.upto fnExactReadRecurrenceSpec)

/-- 'laws.FnExactIsWhole', WHERE WHAT IT READS IS OF BULK AT MOST 1048576: true; the input reads as it did. -/
def fnExactIsWholeUptoRow : OpenClaim := { program := "ytpblpdcdhgjecaagreatdoor", sum := "95f511df32d3b1c3f1c4e2f4cda6d1da155d87fad9b46c4e811c2beb3fea88d9", func := "loop.example/g01120/laws.FnExactIsWhole", spec := "fnExactIsWhole", inPlace := ["math/bits.Add64", "internal/reflectlite.ValueOf", "(internal/reflectlite.Value).Type", "(internal/reflectlite.Value).IsNil", "internal/reflectlite.TypeOf", "(internal/reflectlite.Value).Elem", "(internal/reflectlite.Value).Set", "math/bits.Sub64"], unfollowed := true, recurses := true, named := ["loop.example/g01120/impl.errSize", "loop.example/g01120/impl.errForm", "errors.errorType", "math/bits.divideError", "math/bits.overflowError"], ifaces := true, apart := false, laid := [("errors.errorType", laid_errors_errorType), ("loop.example/g01120/impl.errForm", laid_loop_example_g01120_impl_errForm), ("loop.example/g01120/impl.errSize", laid_loop_example_g01120_impl_errSize)], narrowed := true }
def FnExactIsWholeUptoSaid : Prop := fnExactIsWholeUptoRow.holds Tryz.pinned (OpenSpec.upto fnExactIsWholeSpec)

end Rows
end Go.Proofs.YtpblpdcdhgjecaaGreatDoor
