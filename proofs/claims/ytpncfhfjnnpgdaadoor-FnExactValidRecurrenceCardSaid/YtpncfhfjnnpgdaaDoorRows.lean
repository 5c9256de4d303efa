/-
  NARROWER THAN 'FOR EVERY INPUT', by the rows' own cells (each row's printed sentence says how): FnExactIsNumber: ifaces, laid · FnExactIsInteger: ifaces, laid · FnExactIsNumbers: ifaces, laid · FnExactNumberOf: laid · FnExactSmallOf: ifaces, laid · FnExactCompareNumbers: ifaces, laid · FnExactRemainderOf: ifaces, laid · FnExactValidPoly: ifaces, laid · FnExactValidRecurrence: ifaces, laid.
  DERIVED. THE GIVEN ROWS OF THIS SEAT. 9 by the template 'for every input the law returns true; each argument reads behind the call as it read before'; 0 by the template 'total and deterministic' (their statements: YtpncfhfjnnpgdaaDoorTotals.lean).
  GIVEN WITH THE SEED: the statements are not yours to turn. If you find one false, say at which input.
  Laid BY PROGRAM, IN A SANDBOX (cutbox-rows.mjs): the forced cells as the released guide's own fill.sh prints them over the translation 60c9b3609d429da7… (all of the seat's roots in one cut). By AI agents, Wed Nov 11 2026. No macro, syntax, notation, axiom, sorry.
-/
import Derived.Test.YtpncfhfjnnpgdaaDoorChecked
import GoSem.Claim
import GoSem.ClaimJoined
import GoSem.ClaimMapViews
import Derived.JoinedTies
import Derived.KernelRfl
namespace Go.Proofs.YtpncfhfjnnpgdaaDoor
/- THE CELL 'sum', in the pinned program and in every row, IS THE sha256 OF THE DUMP (.gsa) THAT YtpncfhfjnnpgdaaDoorProg.lean LOADS. Nothing in Lean hashes anything: it is a label: what it is worth is what the hold of that sum in a sandbox is worth. -/
noncomputable def Tryd.pinned : Pinned := { name := "ytpncfhfjnnpgdaadoor", sum := "60c9b3609d429da77fa88577d7b5b8928ed850bce4c84aa7ec5b19bd2697bb56", checked := Tryd.checked }
namespace Rows
def none {H : Type} : Left H := { results := [], args := [] }

/- WHAT THE LISTED PACKAGE-LEVEL VARIABLES READ AS WHEN THE CALL BEGINS. Each datum BY PROGRAM (the guide's laid-datum.mjs) off the statement by which the dump's own 'gosem.cut.vars' lays the variable. In a bare row this is a premise. The card (YtpncfhfjnnpgdaaDoorCards.lean) ties it to the program's text. -/
def laid_errors_errorType {H : Type} : DataW H := .iface "internal/reflectlite.rtype" (.agg [.ptr (.lit (.string [101, 114, 114, 111, 114]))])
def laid_loop_example_g01120_impl_errForm {H : Type} : DataW H := .iface "*errors.errorString" (.ptr (.agg [.lit (.string [110, 111, 116, 32, 116, 104, 101, 32, 116, 101, 120, 116, 32, 111, 102, 32, 97, 32, 110, 117, 109, 98, 101, 114])]))
def laid_loop_example_g01120_impl_errSize {H : Type} : DataW H := .iface "*errors.errorString" (.ptr (.agg [.lit (.string [116, 111, 111, 32, 109, 97, 110, 121, 32, 100, 105, 103, 105, 116, 115, 32, 111, 114, 32, 105, 116, 101, 109, 115])]))
def laid_math_bits_deBruijn32tab {H : Type} : DataW H := .agg [.lit (.int .u8 0), .lit (.int .u8 1), .lit (.int .u8 28), .lit (.int .u8 2), .lit (.int .u8 29), .lit (.int .u8 14), .lit (.int .u8 24), .lit (.int .u8 3), .lit (.int .u8 30), .lit (.int .u8 22), .lit (.int .u8 20), .lit (.int .u8 15), .lit (.int .u8 25), .lit (.int .u8 17), .lit (.int .u8 4), .lit (.int .u8 8), .lit (.int .u8 31), .lit (.int .u8 27), .lit (.int .u8 13), .lit (.int .u8 23), .lit (.int .u8 21), .lit (.int .u8 19), .lit (.int .u8 16), .lit (.int .u8 7), .lit (.int .u8 26), .lit (.int .u8 12), .lit (.int .u8 18), .lit (.int .u8 6), .lit (.int .u8 11), .lit (.int .u8 5), .lit (.int .u8 10), .lit (.int .u8 9)]
def laid_math_bits_deBruijn64tab {H : Type} : DataW H := .agg [.lit (.int .u8 0), .lit (.int .u8 1), .lit (.int .u8 56), .lit (.int .u8 2), .lit (.int .u8 57), .lit (.int .u8 49), .lit (.int .u8 28), .lit (.int .u8 3), .lit (.int .u8 61), .lit (.int .u8 58), .lit (.int .u8 42), .lit (.int .u8 50), .lit (.int .u8 38), .lit (.int .u8 29), .lit (.int .u8 17), .lit (.int .u8 4), .lit (.int .u8 62), .lit (.int .u8 47), .lit (.int .u8 59), .lit (.int .u8 36), .lit (.int .u8 45), .lit (.int .u8 43), .lit (.int .u8 51), .lit (.int .u8 22), .lit (.int .u8 53), .lit (.int .u8 39), .lit (.int .u8 33), .lit (.int .u8 30), .lit (.int .u8 24), .lit (.int .u8 18), .lit (.int .u8 12), .lit (.int .u8 5), .lit (.int .u8 63), .lit (.int .u8 55), .lit (.int .u8 48), .lit (.int .u8 27), .lit (.int .u8 60), .lit (.int .u8 41), .lit (.int .u8 37), .lit (.int .u8 16), .lit (.int .u8 46), .lit (.int .u8 35), .lit (.int .u8 44), .lit (.int .u8 21), .lit (.int .u8 52), .lit (.int .u8 32), .lit (.int .u8 23), .lit (.int .u8 11), .lit (.int .u8 54), .lit (.int .u8 26), .lit (.int .u8 40), .lit (.int .u8 15), .lit (.int .u8 34), .lit (.int .u8 20), .lit (.int .u8 31), .lit (.int .u8 10), .lit (.int .u8 25), .lit (.int .u8 14), .lit (.int .u8 19), .lit (.int .u8 9), .lit (.int .u8 13), .lit (.int .u8 8), .lit (.int .u8 7), .lit (.int .u8 6)]
def laid_internal_strconv_uint64pow10 {H : Type} : DataW H := .agg [.lit (.int .u64 1), .lit (.int .u64 10), .lit (.int .u64 100), .lit (.int .u64 1000), .lit (.int .u64 10000), .lit (.int .u64 100000), .lit (.int .u64 1000000), .lit (.int .u64 10000000), .lit (.int .u64 100000000), .lit (.int .u64 1000000000), .lit (.int .u64 10000000000), .lit (.int .u64 100000000000), .lit (.int .u64 1000000000000), .lit (.int .u64 10000000000000), .lit (.int .u64 100000000000000), .lit (.int .u64 1000000000000000), .lit (.int .u64 10000000000000000), .lit (.int .u64 100000000000000000), .lit (.int .u64 1000000000000000000), .lit (.int .u64 10000000000000000000)]

/-- 'laws.FnExactIsNumber': WHATEVER THE INPUT: true; the input reads as it did. -/
def fnExactIsNumberSpec : ChangeSpec := { name := "fnExactIsNumber", vars := ["loop.example/g01120/impl.errSize", "loop.example/g01120/impl.errForm"], fn := fun _ => fun
  | [d, g1, g2] => { results := [.lit (.bool true)], args := [d], vars := [g1, g2] }
  | _ => none }
def fnExactIsNumberRow : OpenClaim := { program := "ytpncfhfjnnpgdaadoor", sum := "60c9b3609d429da77fa88577d7b5b8928ed850bce4c84aa7ec5b19bd2697bb56", func := "loop.example/g01120/laws.FnExactIsNumber", spec := "fnExactIsNumber", inPlace := ["math/bits.Add64", "internal/reflectlite.ValueOf", "(internal/reflectlite.Value).Type", "(internal/reflectlite.Value).IsNil", "internal/reflectlite.TypeOf", "(internal/reflectlite.Value).Elem", "(internal/reflectlite.Value).Set", "math/bits.Sub64"], unfollowed := true, recurses := true, named := ["loop.example/g01120/impl.errSize", "loop.example/g01120/impl.errForm", "errors.errorType", "math/bits.divideError", "math/bits.overflowError"], ifaces := true, apart := false, laid := [("errors.errorType", laid_errors_errorType), ("loop.example/g01120/impl.errForm", laid_loop_example_g01120_impl_errForm), ("loop.example/g01120/impl.errSize", laid_loop_example_g01120_impl_errSize)] }
def FnExactIsNumberSaid : Prop := fnExactIsNumberRow.holds Tryd.pinned (OpenSpec.ofChange fnExactIsNumberSpec)

/-- ITS FALSE NEIGHBOUR: 'it returns false'. Refute it at one input. -/
def fnExactIsNumberWrong : ChangeSpec := { name := "fnExactIsNumber", vars := ["loop.example/g01120/impl.errSize", "loop.example/g01120/impl.errForm"], fn := fun _ => fun
  | [d, g1, g2] => { results := [.lit (.bool false)], args := [d], vars := [g1, g2] }
  | _ => none }
def FnExactIsNumberWrongFalsely : Prop := fnExactIsNumberRow.holds Tryd.pinned (OpenSpec.ofChange fnExactIsNumberWrong)

/-- 'laws.FnExactIsInteger': WHATEVER THE INPUT: true; the input reads as it did. -/
def fnExactIsIntegerSpec : ChangeSpec := { name := "fnExactIsInteger", vars := ["loop.example/g01120/impl.errForm", "loop.example/g01120/impl.errSize"], fn := fun _ => fun
  | [d, g1, g2] => { results := [.lit (.bool true)], args := [d], vars := [g1, g2] }
  | _ => none }
def fnExactIsIntegerRow : OpenClaim := { program := "ytpncfhfjnnpgdaadoor", sum := "60c9b3609d429da77fa88577d7b5b8928ed850bce4c84aa7ec5b19bd2697bb56", func := "loop.example/g01120/laws.FnExactIsInteger", spec := "fnExactIsInteger", inPlace := ["math/bits.Add64", "internal/reflectlite.ValueOf", "(internal/reflectlite.Value).Type", "(internal/reflectlite.Value).IsNil", "internal/reflectlite.TypeOf", "(internal/reflectlite.Value).Elem", "(internal/reflectlite.Value).Set", "math/bits.Sub64"], unfollowed := true, recurses := true, named := ["loop.example/g01120/impl.errForm", "loop.example/g01120/impl.errSize", "errors.errorType", "math/bits.divideError", "math/bits.overflowError"], ifaces := true, apart := false, laid := [("errors.errorType", laid_errors_errorType), ("loop.example/g01120/impl.errForm", laid_loop_example_g01120_impl_errForm), ("loop.example/g01120/impl.errSize", laid_loop_example_g01120_impl_errSize)] }
def FnExactIsIntegerSaid : Prop := fnExactIsIntegerRow.holds Tryd.pinned (OpenSpec.ofChange fnExactIsIntegerSpec)

/-- ITS FALSE NEIGHBOUR: 'it returns false'. Refute it at one input. -/
def fnExactIsIntegerWrong : ChangeSpec := { name := "fnExactIsInteger", vars := ["loop.example/g01120/impl.errForm", "loop.example/g01120/impl.errSize"], fn := fun _ => fun
  | [d, g1, g2] => { results := [.lit (.bool false)], args := [d], vars := [g1, g2] }
  | _ => none }
def FnExactIsIntegerWrongFalsely : Prop := fnExactIsIntegerRow.holds Tryd.pinned (OpenSpec.ofChange fnExactIsIntegerWrong)

/-- 'laws.FnExactIsNumbers': WHATEVER THE INPUT: true; the input reads as it did. -/
def fnExactIsNumbersSpec : ChangeSpec := { name := "fnExactIsNumbers", vars := ["loop.example/g01120/impl.errSize", "loop.example/g01120/impl.errForm"], fn := fun _ => fun
  | [d, g1, g2] => { results := [.lit (.bool true)], args := [d], vars := [g1, g2] }
  | _ => none }
def fnExactIsNumbersRow : OpenClaim := { program := "ytpncfhfjnnpgdaadoor", sum := "60c9b3609d429da77fa88577d7b5b8928ed850bce4c84aa7ec5b19bd2697bb56", func := "loop.example/g01120/laws.FnExactIsNumbers", spec := "fnExactIsNumbers", inPlace := ["math/bits.Add64", "internal/reflectlite.ValueOf", "(internal/reflectlite.Value).Type", "(internal/reflectlite.Value).IsNil", "internal/reflectlite.TypeOf", "(internal/reflectlite.Value).Elem", "(internal/reflectlite.Value).Set", "math/bits.Sub64"], unfollowed := true, recurses := true, named := ["loop.example/g01120/impl.errSize", "loop.example/g01120/impl.errForm", "errors.errorType", "math/bits.divideError", "math/bits.overflowError"], ifaces := true, apart := false, laid := [("errors.errorType", laid_errors_errorType), ("loop.example/g01120/impl.errForm", laid_loop_example_g01120_impl_errForm), ("loop.example/g01120/impl.errSize", laid_loop_example_g01120_impl_errSize)] }
def FnExactIsNumbersSaid : Prop := fnExactIsNumbersRow.holds Tryd.pinned (OpenSpec.ofChange fnExactIsNumbersSpec)

/-- ITS FALSE NEIGHBOUR: 'it returns false'. Refute it at one input. -/
def fnExactIsNumbersWrong : ChangeSpec := { name := "fnExactIsNumbers", vars := ["loop.example/g01120/impl.errSize", "loop.example/g01120/impl.errForm"], fn := fun _ => fun
  | [d, g1, g2] => { results := [.lit (.bool false)], args := [d], vars := [g1, g2] }
  | _ => none }
def FnExactIsNumbersWrongFalsely : Prop := fnExactIsNumbersRow.holds Tryd.pinned (OpenSpec.ofChange fnExactIsNumbersWrong)

/-- 'laws.FnExactNumberOf': WHATEVER THE INPUT: true; the input reads as it did. -/
def fnExactNumberOfSpec : ChangeSpec := { name := "fnExactNumberOf", fn := fun _ => fun
  | [d] => { results := [.lit (.bool true)], args := [d] }
  | _ => none }
def fnExactNumberOfRow : OpenClaim := { program := "ytpncfhfjnnpgdaadoor", sum := "60c9b3609d429da77fa88577d7b5b8928ed850bce4c84aa7ec5b19bd2697bb56", func := "loop.example/g01120/laws.FnExactNumberOf", spec := "fnExactNumberOf", named := ["internal/strconv.uint64pow10", "math/bits.deBruijn32tab", "math/bits.deBruijn64tab"], apart := false, laid := [("math/bits.deBruijn32tab", laid_math_bits_deBruijn32tab), ("math/bits.deBruijn64tab", laid_math_bits_deBruijn64tab), ("internal/strconv.uint64pow10", laid_internal_strconv_uint64pow10)] }
def FnExactNumberOfSaid : Prop := fnExactNumberOfRow.holds Tryd.pinned (OpenSpec.ofChange fnExactNumberOfSpec)

/-- ITS FALSE NEIGHBOUR: 'it returns false'. Refute it at one input. -/
def fnExactNumberOfWrong : ChangeSpec := { name := "fnExactNumberOf", fn := fun _ => fun
  | [d] => { results := [.lit (.bool false)], args := [d] }
  | _ => none }
def FnExactNumberOfWrongFalsely : Prop := fnExactNumberOfRow.holds Tryd.pinned (OpenSpec.ofChange fnExactNumberOfWrong)

/-- 'laws.FnExactSmallOf': WHATEVER THE INPUT: true; the input reads as it did. -/
def fnExactSmallOfSpec : ChangeSpec := { name := "fnExactSmallOf", vars := ["loop.example/g01120/impl.errForm", "loop.example/g01120/impl.errSize"], fn := fun _ => fun
  | [d, g1, g2] => { results := [.lit (.bool true)], args := [d], vars := [g1, g2] }
  | _ => none }
def fnExactSmallOfRow : OpenClaim := { program := "ytpncfhfjnnpgdaadoor", sum := "60c9b3609d429da77fa88577d7b5b8928ed850bce4c84aa7ec5b19bd2697bb56", func := "loop.example/g01120/laws.FnExactSmallOf", spec := "fnExactSmallOf", inPlace := ["math/bits.Add64", "internal/reflectlite.ValueOf", "(internal/reflectlite.Value).Type", "(internal/reflectlite.Value).IsNil", "internal/reflectlite.TypeOf", "(internal/reflectlite.Value).Elem", "(internal/reflectlite.Value).Set", "math/bits.Sub64"], unfollowed := true, recurses := true, named := ["loop.example/g01120/impl.errForm", "loop.example/g01120/impl.errSize", "errors.errorType", "math/bits.divideError", "math/bits.overflowError"], ifaces := true, apart := false, laid := [("errors.errorType", laid_errors_errorType), ("loop.example/g01120/impl.errForm", laid_loop_example_g01120_impl_errForm), ("loop.example/g01120/impl.errSize", laid_loop_example_g01120_impl_errSize)] }
def FnExactSmallOfSaid : Prop := fnExactSmallOfRow.holds Tryd.pinned (OpenSpec.ofChange fnExactSmallOfSpec)

/-- ITS FALSE NEIGHBOUR: 'it returns false'. Refute it at one input. -/
def fnExactSmallOfWrong : ChangeSpec := { name := "fnExactSmallOf", vars := ["loop.example/g01120/impl.errForm", "loop.example/g01120/impl.errSize"], fn := fun _ => fun
  | [d, g1, g2] => { results := [.lit (.bool false)], args := [d], vars := [g1, g2] }
  | _ => none }
def FnExactSmallOfWrongFalsely : Prop := fnExactSmallOfRow.holds Tryd.pinned (OpenSpec.ofChange fnExactSmallOfWrong)

/-- 'laws.FnExactCompareNumbers': WHATEVER THE INPUT: true; the input reads as it did. -/
def fnExactCompareNumbersSpec : ChangeSpec := { name := "fnExactCompareNumbers", vars := ["loop.example/g01120/impl.errSize", "loop.example/g01120/impl.errForm"], fn := fun _ => fun
  | [d1, d2, g1, g2] => { results := [.lit (.bool true)], args := [d1, d2], vars := [g1, g2] }
  | _ => none }
def fnExactCompareNumbersRow : OpenClaim := { program := "ytpncfhfjnnpgdaadoor", sum := "60c9b3609d429da77fa88577d7b5b8928ed850bce4c84aa7ec5b19bd2697bb56", func := "loop.example/g01120/laws.FnExactCompareNumbers", spec := "fnExactCompareNumbers", inPlace := ["math/bits.Add64", "internal/reflectlite.ValueOf", "(internal/reflectlite.Value).Type", "(internal/reflectlite.Value).IsNil", "internal/reflectlite.TypeOf", "(internal/reflectlite.Value).Elem", "(internal/reflectlite.Value).Set", "math/bits.Sub64"], unfollowed := true, recurses := true, named := ["loop.example/g01120/impl.errSize", "loop.example/g01120/impl.errForm", "errors.errorType", "math/bits.divideError", "math/bits.overflowError"], ifaces := true, apart := false, laid := [("errors.errorType", laid_errors_errorType), ("loop.example/g01120/impl.errForm", laid_loop_example_g01120_impl_errForm), ("loop.example/g01120/impl.errSize", laid_loop_example_g01120_impl_errSize)] }
def FnExactCompareNumbersSaid : Prop := fnExactCompareNumbersRow.holds Tryd.pinned (OpenSpec.ofChange fnExactCompareNumbersSpec)

/-- ITS FALSE NEIGHBOUR: 'it returns false'. Refute it at one input. -/
def fnExactCompareNumbersWrong : ChangeSpec := { name := "fnExactCompareNumbers", vars := ["loop.example/g01120/impl.errSize", "loop.example/g01120/impl.errForm"], fn := fun _ => fun
  | [d1, d2, g1, g2] => { results := [.lit (.bool false)], args := [d1, d2], vars := [g1, g2] }
  | _ => none }
def FnExactCompareNumbersWrongFalsely : Prop := fnExactCompareNumbersRow.holds Tryd.pinned (OpenSpec.ofChange fnExactCompareNumbersWrong)

/-- 'laws.FnExactRemainderOf': WHATEVER THE INPUT: true; the input reads as it did. -/
def fnExactRemainderOfSpec : ChangeSpec := { name := "fnExactRemainderOf", vars := ["loop.example/g01120/impl.errForm", "loop.example/g01120/impl.errSize"], fn := fun _ => fun
  | [d1, d2, g1, g2] => { results := [.lit (.bool true)], args := [d1, d2], vars := [g1, g2] }
  | _ => none }
def fnExactRemainderOfRow : OpenClaim := { program := "ytpncfhfjnnpgdaadoor", sum := "60c9b3609d429da77fa88577d7b5b8928ed850bce4c84aa7ec5b19bd2697bb56", func := "loop.example/g01120/laws.FnExactRemainderOf", spec := "fnExactRemainderOf", inPlace := ["math/bits.Add64", "internal/reflectlite.ValueOf", "(internal/reflectlite.Value).Type", "(internal/reflectlite.Value).IsNil", "internal/reflectlite.TypeOf", "(internal/reflectlite.Value).Elem", "(internal/reflectlite.Value).Set", "math/bits.Sub64"], unfollowed := true, recurses := true, named := ["loop.example/g01120/impl.errForm", "loop.example/g01120/impl.errSize", "errors.errorType", "math/bits.divideError", "math/bits.overflowError"], ifaces := true, apart := false, laid := [("errors.errorType", laid_errors_errorType), ("loop.example/g01120/impl.errForm", laid_loop_example_g01120_impl_errForm), ("loop.example/g01120/impl.errSize", laid_loop_example_g01120_impl_errSize)] }
def FnExactRemainderOfSaid : Prop := fnExactRemainderOfRow.holds Tryd.pinned (OpenSpec.ofChange fnExactRemainderOfSpec)

/-- ITS FALSE NEIGHBOUR: 'it returns false'. Refute it at one input. -/
def fnExactRemainderOfWrong : ChangeSpec := { name := "fnExactRemainderOf", vars := ["loop.example/g01120/impl.errForm", "loop.example/g01120/impl.errSize"], fn := fun _ => fun
  | [d1, d2, g1, g2] => { results := [.lit (.bool false)], args := [d1, d2], vars := [g1, g2] }
  | _ => none }
def FnExactRemainderOfWrongFalsely : Prop := fnExactRemainderOfRow.holds Tryd.pinned (OpenSpec.ofChange fnExactRemainderOfWrong)

/-- 'laws.FnExactValidPoly': WHATEVER THE INPUT: true; the input reads as it did. -/
def fnExactValidPolySpec : ChangeSpec := { name := "fnExactValidPoly", vars := ["loop.example/g01120/impl.errSize", "loop.example/g01120/impl.errForm"], fn := fun _ => fun
  | [d, g1, g2] => { results := [.lit (.bool true)], args := [d], vars := [g1, g2] }
  | _ => none }
def fnExactValidPolyRow : OpenClaim := { program := "ytpncfhfjnnpgdaadoor", sum := "60c9b3609d429da77fa88577d7b5b8928ed850bce4c84aa7ec5b19bd2697bb56", func := "loop.example/g01120/laws.FnExactValidPoly", spec := "fnExactValidPoly", inPlace := ["math/bits.Add64", "internal/reflectlite.ValueOf", "(internal/reflectlite.Value).Type", "(internal/reflectlite.Value).IsNil", "internal/reflectlite.TypeOf", "(internal/reflectlite.Value).Elem", "(internal/reflectlite.Value).Set", "math/bits.Sub64"], unfollowed := true, recurses := true, named := ["loop.example/g01120/impl.errSize", "loop.example/g01120/impl.errForm", "errors.errorType", "math/bits.divideError", "math/bits.overflowError"], ifaces := true, apart := false, laid := [("errors.errorType", laid_errors_errorType), ("loop.example/g01120/impl.errForm", laid_loop_example_g01120_impl_errForm), ("loop.example/g01120/impl.errSize", laid_loop_example_g01120_impl_errSize)] }
def FnExactValidPolySaid : Prop := fnExactValidPolyRow.holds Tryd.pinned (OpenSpec.ofChange fnExactValidPolySpec)

/-- ITS FALSE NEIGHBOUR: 'it returns false'. Refute it at one input. -/
def fnExactValidPolyWrong : ChangeSpec := { name := "fnExactValidPoly", vars := ["loop.example/g01120/impl.errSize", "loop.example/g01120/impl.errForm"], fn := fun _ => fun
  | [d, g1, g2] => { results := [.lit (.bool false)], args := [d], vars := [g1, g2] }
  | _ => none }
def FnExactValidPolyWrongFalsely : Prop := fnExactValidPolyRow.holds Tryd.pinned (OpenSpec.ofChange fnExactValidPolyWrong)

/-- 'laws.FnExactValidRecurrence': WHATEVER THE INPUT: true; the input reads as it did. -/
def fnExactValidRecurrenceSpec : ChangeSpec := { name := "fnExactValidRecurrence", vars := ["loop.example/g01120/impl.errSize", "loop.example/g01120/impl.errForm"], fn := fun _ => fun
  | [d, g1, g2] => { results := [.lit (.bool true)], args := [d], vars := [g1, g2] }
  | _ => none }
def fnExactValidRecurrenceRow : OpenClaim := { program := "ytpncfhfjnnpgdaadoor", sum := "60c9b3609d429da77fa88577d7b5b8928ed850bce4c84aa7ec5b19bd2697bb56", func := "loop.example/g01120/laws.FnExactValidRecurrence", spec := "fnExactValidRecurrence", inPlace := ["math/bits.Add64", "internal/reflectlite.ValueOf", "(internal/reflectlite.Value).Type", "(internal/reflectlite.Value).IsNil", "internal/reflectlite.TypeOf", "(internal/reflectlite.Value).Elem", "(internal/reflectlite.Value).Set", "math/bits.Sub64"], unfollowed := true, recurses := true, named := ["loop.example/g01120/impl.errSize", "loop.example/g01120/impl.errForm", "errors.errorType", "math/bits.divideError", "math/bits.overflowError"], ifaces := true, apart := false, laid := [("errors.errorType", laid_errors_errorType), ("loop.example/g01120/impl.errForm", laid_loop_example_g01120_impl_errForm), ("loop.example/g01120/impl.errSize", laid_loop_example_g01120_impl_errSize)] }
def FnExactValidRecurrenceSaid : Prop := fnExactValidRecurrenceRow.holds Tryd.pinned (OpenSpec.ofChange fnExactValidRecurrenceSpec)

/-- ITS FALSE NEIGHBOUR: 'it returns false'. Refute it at one input. -/
def fnExactValidRecurrenceWrong : ChangeSpec := { name := "fnExactValidRecurrence", vars := ["loop.example/g01120/impl.errSize", "loop.example/g01120/impl.errForm"], fn := fun _ => fun
  | [d, g1, g2] => { results := [.lit (.bool false)], args := [d], vars := [g1, g2] }
  | _ => none }
def FnExactValidRecurrenceWrongFalsely : Prop := fnExactValidRecurrenceRow.holds Tryd.pinned (OpenSpec.ofChange fnExactValidRecurrenceWrong)

/- THE SECOND FORM. 'bulk': how many values and letters a reading holds, each counted each time it is reached (what is shared counts as often as it is met; a slice's spare places count too). A statement '..UptoSaid' is the law's where the arguments, and the package variables that the reading takes, are together of bulk at most 1048576: NARROWER than '..Said'. Prove '..Said' where nothing that the law and all that it calls make is longer than what came in: it says more and counts as full. Else prove '..UptoSaid'. A law counts once. -/
mutual
def uptoBulk {H : Type} : DataW H → Nat
  | .lit (.string bytes) => bytes.length + 1
  | .lit _ => 1
  | .nil => 1
  | .ptr d => uptoBulk d + 1
  | .slice elems spare => uptoBulkAll elems + uptoBulkAll spare + 1
  | .agg parts => uptoBulkAll parts + 1
  | .iface _ d => uptoBulk d + 1
  | .map entries => uptoBulkEntries entries + 1
  | .held _ => 1
def uptoBulkAll {H : Type} : List (DataW H) → Nat
  | [] => 0
  | d :: r => uptoBulk d + uptoBulkAll r
def uptoBulkEntries {H : Type} : List (Lit × DataW H) → Nat
  | [] => 0
  | x :: r => uptoBulkEntry x + uptoBulkEntries r
def uptoBulkEntry {H : Type} : Lit × DataW H → Nat
  | (.string bytes, d) => bytes.length + uptoBulk d + 1
  | (_, d) => uptoBulk d + 1
 end
def uptoSmall : (H : Type) → List (DataW H) → Bool := fun _ ds => decide (uptoBulkAll ds ≤ 1048576)
def OpenSpec.upto (s : _root_.Go.ChangeSpec) : _root_.Go.OpenSpec := { _root_.Go.OpenSpec.ofChange s with cond := some uptoSmall }

/-- 'laws.FnExactIsNumber', WHERE WHAT IT READS IS OF BULK AT MOST 1048576: true; the input reads as it did. -/
def fnExactIsNumberUptoRow : OpenClaim := { program := "ytpncfhfjnnpgdaadoor", sum := "60c9b3609d429da77fa88577d7b5b8928ed850bce4c84aa7ec5b19bd2697bb56", func := "loop.example/g01120/laws.FnExactIsNumber", spec := "fnExactIsNumber", inPlace := ["math/bits.Add64", "internal/reflectlite.ValueOf", "(internal/reflectlite.Value).Type", "(internal/reflectlite.Value).IsNil", "internal/reflectlite.TypeOf", "(internal/reflectlite.Value).Elem", "(internal/reflectlite.Value).Set", "math/bits.Sub64"], unfollowed := true, recurses := true, named := ["loop.example/g01120/impl.errSize", "loop.example/g01120/impl.errForm", "errors.errorType", "math/bits.divideError", "math/bits.overflowError"], ifaces := true, apart := false, laid := [("errors.errorType", laid_errors_errorType), ("loop.example/g01120/impl.errForm", laid_loop_example_g01120_impl_errForm), ("loop.example/g01120/impl.errSize", laid_loop_example_g01120_impl_errSize)], narrowed := true }
def FnExactIsNumberUptoSaid : Prop := fnExactIsNumberUptoRow.holds Tryd.pinned (OpenSpec.upto fnExactIsNumberSpec)

/-- 'laws.FnExactIsInteger', WHERE WHAT IT READS IS OF BULK AT MOST 1048576: true; the input reads as it did. -/
def fnExactIsIntegerUptoRow : OpenClaim := { program := "ytpncfhfjnnpgdaadoor", sum := "60c9b3609d429da77fa88577d7b5b8928ed850bce4c84aa7ec5b19bd2697bb56", func := "loop.example/g01120/laws.FnExactIsInteger", spec := "fnExactIsInteger", inPlace := ["math/bits.Add64", "internal/reflectlite.ValueOf", "(internal/reflectlite.Value).Type", "(internal/reflectlite.Value).IsNil", "internal/reflectlite.TypeOf", "(internal/reflectlite.Value).Elem", "(internal/reflectlite.Value).Set", "math/bits.Sub64"], unfollowed := true, recurses := true, named := ["loop.example/g01120/impl.errForm", "loop.example/g01120/impl.errSize", "errors.errorType", "math/bits.divideError", "math/bits.overflowError"], ifaces := true, apart := false, laid := [("errors.errorType", laid_errors_errorType), ("loop.example/g01120/impl.errForm", laid_loop_example_g01120_impl_errForm), ("loop.example/g01120/impl.errSize", laid_loop_example_g01120_impl_errSize)], narrowed := true }
def FnExactIsIntegerUptoSaid : Prop := fnExactIsIntegerUptoRow.holds Tryd.pinned (OpenSpec.upto fnExactIsIntegerSpec)

/-- 'laws.FnExactIsNumbers', WHERE WHAT IT READS IS OF BULK AT MOST 1048576: true; the input reads as it did. -/
def fnExactIsNumbersUptoRow : OpenClaim := { program := "ytpncfhfjnnpgdaadoor", sum := "60c9b3609d429da77fa88577d7b5b8928ed850bce4c84aa7ec5b19bd2697bb56", func := "loop.example/g01120/laws.FnExactIsNumbers", spec := "fnExactIsNumbers", inPlace := ["math/bits.Add64", "internal/reflectlite.ValueOf", "(internal/reflectlite.Value).Type", "(internal/reflectlite.Value).IsNil", "internal/reflectlite.TypeOf", "(internal/reflectlite.Value).Elem", "(internal/reflectlite.Value).Set", "math/bits.Sub64"], unfollowed := true, recurses := true, named := ["loop.example/g01120/impl.errSize", "loop.example/g01120/impl.errForm", "errors.errorType", "math/bits.divideError", "math/bits.overflowError"], ifaces := true, apart := false, laid := [("errors.errorType", laid_errors_errorType), ("loop.example/g01120/impl.errForm", laid_loop_example_g01120_impl_errForm), ("loop.example/g01120/impl.errSize", laid_loop_example_g01120_impl_errSize)], narrowed := true }
def FnExactIsNumbersUptoSaid : Prop := fnExactIsNumbersUptoRow.holds Tryd.pinned (OpenSpec.upto fnExactIsNumbersSpec)

/-- 'laws.FnExactNumberOf', WHERE WHAT IT READS IS OF BULK AT MOST 1048576: true; the input reads as it did. -/
def fnExactNumberOfUptoRow : OpenClaim := { program := "ytpncfhfjnnpgdaadoor", sum := "60c9b3609d429da77fa88577d7b5b8928ed850bce4c84aa7ec5b19bd2697bb56", func := "loop.example/g01120/laws.FnExactNumberOf", spec := "fnExactNumberOf", named := ["internal/strconv.uint64pow10", "math/bits.deBruijn32tab", "math/bits.deBruijn64tab"], apart := false, laid := [("math/bits.deBruijn32tab", laid_math_bits_deBruijn32tab), ("math/bits.deBruijn64tab", laid_math_bits_deBruijn64tab), ("internal/strconv.uint64pow10", laid_internal_strconv_uint64pow10)], narrowed := true }
def FnExactNumberOfUptoSaid : Prop := fnExactNumberOfUptoRow.holds Tryd.pinned (OpenSpec.upto fnExactNumberOfSpec)

/-- 'laws.FnExactSmallOf', WHERE WHAT IT READS IS OF BULK AT MOST 1048576: true; the input reads as it did. -/
def fnExactSmallOfUptoRow : OpenClaim := { program := "ytpncfhfjnnpgdaadoor", sum := "60c9b3609d429da77fa88577d7b5b8928ed850bce4c84aa7ec5b19bd2697bb56", func := "loop.example/g01120/laws.FnExactSmallOf", spec := "fnExactSmallOf", inPlace := ["math/bits.Add64", "internal/reflectlite.ValueOf", "(internal/reflectlite.Value).Type", "(internal/reflectlite.Value).IsNil", "internal/reflectlite.TypeOf", "(internal/reflectlite.Value).Elem", "(internal/reflectlite.Value).Set", "math/bits.Sub64"], unfollowed := true, recurses := true, named := ["loop.example/g01120/impl.errForm", "loop.example/g01120/impl.errSize", "errors.errorType", "math/bits.divideError", "math/bits.overflowError"], ifaces := true, apart := false, laid := [("errors.errorType", laid_errors_errorType), ("loop.example/g01120/impl.errForm", laid_loop_example_g01120_impl_errForm), ("loop.example/g01120/impl.errSize", laid_loop_example_g01120_impl_errSize)], narrowed := true }
def FnExactSmallOfUptoSaid : Prop := fnExactSmallOfUptoRow.holds Tryd.pinned (OpenSpec.upto fnExactSmallOfSpec)

/-- 'laws.FnExactCompareNumbers', WHERE WHAT IT READS IS OF BULK AT MOST 1048576: true; the input reads as it did. -/
def fnExactCompareNumbersUptoRow : OpenClaim := { program := "ytpncfhfjnnpgdaadoor", sum := "60c9b3609d429da77fa88577d7b5b8928ed850bce4c84aa7ec5b19bd2697bb56", func := "loop.example/g01120/laws.FnExactCompareNumbers", spec := "fnExactCompareNumbers", inPlace := ["math/bits.Add64", "internal/reflectlite.ValueOf", "(internal/reflectlite.Value).Type", "(internal/reflectlite.Value).IsNil", "internal/reflectlite.TypeOf", "(internal/reflectlite.Value).Elem", "(internal/reflectlite.Value).Set", "math/bits.Sub64"], unfollowed := true, recurses := true, named := ["loop.example/g01120/impl.errSize", "loop.example/g01120/impl.errForm", "errors.errorType", "math/bits.divideError", "math/bits.overflowError"], ifaces := true, apart := false, laid := [("errors.errorType", laid_errors_errorType), ("loop.example/g01120/impl.errForm", laid_loop_example_g01120_impl_errForm), ("loop.example/g01120/impl.errSize", laid_loop_example_g01120_impl_errSize)], narrowed := true }
def FnExactCompareNumbersUptoSaid : Prop := fnExactCompareNumbersUptoRow.holds Tryd.pinned (OpenSpec.upto fnExactCompareNumbersSpec)

/-- 'laws.FnExactRemainderOf', WHERE WHAT IT READS IS OF BULK AT MOST 1048576: true; the input reads as it did. -/
def fnExactRemainderOfUptoRow : OpenClaim := { program := "ytpncfhfjnnpgdaadoor", sum := "60c9b3609d429da77fa88577d7b5b8928ed850bce4c84aa7ec5b19bd2697bb56", func := "loop.example/g01120/laws.FnExactRemainderOf", spec := "fnExactRemainderOf", inPlace := ["math/bits.Add64", "internal/reflectlite.ValueOf", "(internal/reflectlite.Value).Type", "(internal/reflectlite.Value).IsNil", "internal/reflectlite.TypeOf", "(internal/reflectlite.Value).Elem", "(internal/reflectlite.Value).Set", "math/bits.Sub64"], unfollowed := true, recurses := true, named := ["loop.example/g01120/impl.errForm", "loop.example/g01120/impl.errSize", "errors.errorType", "math/bits.divideError", "math/bits.overflowError"], ifaces := true, apart := false, laid := [("errors.errorType", laid_errors_errorType), ("loop.example/g01120/impl.errForm", laid_loop_example_g01120_impl_errForm), ("loop.example/g01120/impl.errSize", laid_loop_example_g01120_impl_errSize)], narrowed := true }
def FnExactRemainderOfUptoSaid : Prop := fnExactRemainderOfUptoRow.holds Tryd.pinned (OpenSpec.upto fnExactRemainderOfSpec)

/-- 'laws.FnExactValidPoly', WHERE WHAT IT READS IS OF BULK AT MOST 1048576: true; the input reads as it did. -/
def fnExactValidPolyUptoRow : OpenClaim := { program := "ytpncfhfjnnpgdaadoor", sum := "60c9b3609d429da77fa88577d7b5b8928ed850bce4c84aa7ec5b19bd2697bb56", func := "loop.example/g01120/laws.FnExactValidPoly", spec := "fnExactValidPoly", inPlace := ["math/bits.Add64", "internal/reflectlite.ValueOf", "(internal/reflectlite.Value).Type", "(internal/reflectlite.Value).IsNil", "internal/reflectlite.TypeOf", "(internal/reflectlite.Value).Elem", "(internal/reflectlite.Value).Set", "math/bits.Sub64"], unfollowed := true, recurses := true, named := ["loop.example/g01120/impl.errSize", "loop.example/g01120/impl.errForm", "errors.errorType", "math/bits.divideError", "math/bits.overflowError"], ifaces := true, apart := false, laid := [("errors.errorType", laid_errors_errorType), ("loop.example/g01120/impl.errForm", laid_loop_example_g01120_impl_errForm), ("loop.example/g01120/impl.errSize", laid_loop_example_g01120_impl_errSize)], narrowed := true }
def FnExactValidPolyUptoSaid : Prop := fnExactValidPolyUptoRow.holds Tryd.pinned (OpenSpec.upto fnExactValidPolySpec)

/-- 'laws.FnExactValidRecurrence', WHERE WHAT IT READS IS OF BULK AT MOST 1048576: true; the input reads as it did. -/
def fnExactValidRecurrenceUptoRow : OpenClaim := { program := "ytpncfhfjnnpgdaadoor", sum := "60c9b3609d429da77fa88577d7b5b8928ed850bce4c84aa7ec5b19bd2697bb56", func := "loop.example/g01120/laws.FnExactValidRecurrence", spec := "fnExactValidRecurrence", inPlace := ["math/bits.Add64", "internal/reflectlite.ValueOf", "(internal/reflectlite.Value).Type", "(internal/reflectlite.Value).IsNil", "internal/reflectlite.TypeOf", "(internal/reflectlite.Value).Elem", "(internal/reflectlite.Value).Set", "math/bits.Sub64"], unfollowed := true, recurses := true, named := ["loop.example/g01120/impl.errSize", "loop.example/g01120/impl.errForm", "errors.errorType", "math/bits.divideError", "math/bits.overflowError"], ifaces := true, apart := false, laid := [("errors.errorType", laid_errors_errorType), ("loop.example/g01120/impl.errForm", laid_loop_example_g01120_impl_errForm), ("loop.example/g01120/impl.errSize", laid_loop_example_g01120_impl_errSize)], narrowed := true }
def FnExactValidRecurrenceUptoSaid : Prop := fnExactValidRecurrenceUptoRow.holds Tryd.pinned (OpenSpec.upto fnExactValidRecurrenceSpec)

end Rows
end Go.Proofs.YtpncfhfjnnpgdaaDoor
